import PyProof.Rows.All
import Wide.All
import OpenK.AllK
import Wide.FinOn
import Lean
import PyProof.EqAt
import PyProof.EqKinds
import PyProof.TupleCall
import PyProof.FactsAll.NoneType
import PyProof.ZipIter
import PyProof.EnumMake
import KE.KUnpack
import KE.KTryMore
import PyProof.NsDelKeeps
import KE.KIntText
import PyProof.StrCalls2
import PyProof.CollectIter
import PyProof.Walks
import PyProof.Rows.StrPartPair
import PyProof.Rows.StrSplit
import PyProof.ListStr
import PyProof.StrWalks
import PyProof.TupleKey
import PyProof.FactsAll.bool_1
import PyProof.NeKinds
import KE.KIsAll
import PyProof.Rows.IntBool
import PyProof.DictDisplay
import KE.KLam
import KE.KNestM
import PyProof.ListRange
import PyProof.FactsAll.tuple_0
import PyProof.FactsAll.tuple_2
import KE.RegKIsAll
import KE.RegKTryMore
import PySem.Challenge.RW_tipwell_k32_whole_desks_of_all_rows
set_option Elab.async false
set_option linter.all false
set_option maxRecDepth 100000
set_option compiler.extract_closed false
set_option tactic.hygienic false
noncomputable section
section
theorem ĸ1{p:A->Prop}{F:Prop}(h:∃ a,p a)(k:∀ a,p a->F):F:=h.elim k
theorem ĸ2{p:A->B->Prop}{F:Prop}(h:∃ a b,p a b)(k:∀ a b,p a b->F):F:=h.elim λ a h=>ĸ1 h (k a)
theorem ĸ3{p:A->B->C->Prop}{F:Prop}(h:∃ a b c,p a b c)(k:∀ a b c,p a b c->F):F:=h.elim λ a h=>ĸ2 h (k a)
theorem ĸ4{p:A->B->C->D->Prop}{F:Prop}(h:∃ a b c d,p a b c d)(k:∀ a b c d,p a b c d->F):F:=h.elim λ a h=>ĸ3 h (k a)
theorem ĸ5{p:A->B->C->D->E->Prop}{F:Prop}(h:∃ a b c d e,p a b c d e)(k:∀ a b c d e,p a b c d e->F):F:=h.elim λ a h=>ĸ4 h (k a)
theorem ĸ6{p:A->B->C->D->E->O->Prop}{F:Prop}(h:∃ a b c d e f,p a b c d e f)(k:∀ a b c d e f,p a b c d e f->F):F:=h.elim λ a h=>ĸ5 h (k a)
theorem ĸ7{p:A->B->C->D->E->O->G->Prop}{F:Prop}(h:∃ a b c d e f g,p a b c d e f g)(k:∀ a b c d e f g,p a b c d e f g->F):F:=h.elim λ a h=>ĸ6 h (k a)
theorem ĸ8{p:A->B->C->D->E->O->G->I->Prop}{F:Prop}(h:∃ a b c d e f g i,p a b c d e f g i)(k:∀ a b c d e f g i,p a b c d e f g i->F):F:=h.elim λ a h=>ĸ7 h (k a)
variable{A B C D E F G I J:Prop}
theorem ŉ2(h:A/\B)(k:A->B->F):F:=k h.1 h.2
theorem ŉ3(h:A/\B/\C)(k:A->B->C->F):F:=ŉ2 h.2 (k h.1)
theorem ŉ4(h:A/\B/\C/\D)(k:A->B->C->D->F):F:=ŉ3 h.2 (k h.1)
theorem ŉ5(h:A/\B/\C/\D/\E)(k:A->B->C->D->E->F):F:=ŉ4 h.2 (k h.1)
theorem ŉ6(h:A/\B/\C/\D/\E/\G)(k:A->B->C->D->E->G->F):F:=ŉ5 h.2 (k h.1)
theorem ŉ7(h:A/\B/\C/\D/\E/\G/\I)(k:A->B->C->D->E->G->I->F):F:=ŉ6 h.2 (k h.1)
theorem ŉ8(h:A/\B/\C/\D/\E/\G/\I/\J)(k:A->B->C->D->E->G->I->J->F):F:=ŉ7 h.2 (k h.1)
end
local macro_rules | `($i:ident)=>do
  let .str p@(.str _ _) s:=i.getId|Lean.Macro.throwUnsupported
  let q<-match s with|"L"=>pure `heap.objs.size|"Z"=>pure `length|"S"=>pure `size|"Q"=>pure `toNat|"J"=>pure `toArray|"M"=>pure `toks|"O"=>pure `params|"R"=>pure `units|_=>Lean.Macro.throwUnsupported
  `($(Lean.mkIdentFrom i (p++q)))
local macro_rules | `(.$i:ident $a*)=>do
  let q<-match i.getId with|`y=>pure `ref|`u=>pure `int|`j=>pure `lst|`o=>pure `str|`p=>pure `inl|`q=>pure `type|`v=>pure `tup|`x=>pure `inr|`z=>pure `builtin|`B=>pure `cons|`C=>pure `Name|`E=>pure `Attribute|`I=>pure `bool|`U=>pure `fields|`V=>pure `seq|`Y=>pure `Subscript|`rj=>pure `Call|`rk=>pure `Constant|`rq=>pure `Tuple|`rz=>pure `BoolOp|_=>Lean.Macro.throwUnsupported
  `(.$(Lean.mkIdentFrom i q):ident $a*)
local macro_rules | `(tactic|ext $i:ident)=>`(tactic|cases $i:ident)
local macro_rules | `(tactic|let $d:letDecl)=>`(tactic|have $d:letDecl)
local macro_rules | `(tactic|show $t)=>`(tactic|refine $t)
local macro_rules | `(tactic|show ⟨$a,*⟩)=>`(tactic|((try (with_reducible refine $(Lean.mkIdent `L2.ĸ) ?_);intro $(Lean.mkIdent `β):ident $(Lean.mkIdent `γ):ident);refine ⟨$a,*⟩))
local macro_rules | `(tactic|let $p:term:=$v)=>do
  let rec c : Nat->Lean.Term->Lean.MacroM (Lean.TSyntax `rcasesPat)
    | 0,_=>Lean.Macro.throwUnsupported
    | n+1,p=>match p with
      | `(⟨$a,*⟩)=>do
        let b<-a.getElems.mapM (c n)
        `(rcasesPat|⟨$[$b:rcasesPat],*⟩)
      | `($i:ident)=>if i.getId==`Y then `(rcasesPat|$(Lean.mkIdent `rfl):ident) else `(rcasesPat|$i:ident)
      | _=>`(rcasesPat|_)
  let q<-c 30 p
  let mut r<-`(tactic|obtain $q:rcasesPat:=$v)
  let `(⟨$a,*⟩):=p|return r
  let x:=a.getElems
  let n:=x.S
  let y:=Lean.mkIdent `β
  if n<3 then return r
  for j in [2:2*(min n 8)+1] do
    let k:=j/2
    let e:=Lean.mkIdent (.mkSimple s!"{if j%2=0 then "ŉ" else "ĸ"}{k}")
    let m:=if j%2=0&&k<n then k-1 else k
    let b<-(x.extract 0 m).mapM fun y=>do `(rintroPat|$(<-c 30 y):rcasesPat)
    let d:=x.extract m n
    let z<-if d.S=0 then `(tactic|skip) else if d.S=1 then `(tactic|rintro $(<-c 30 d[0]!):rcasesPat) else `(tactic|(intro $y:ident;let ⟨$d,*⟩:=$y))
    r<-`(tactic|first|(refine $e $v ?_;(try clear $v);rintro $b*;$z)|($r:tactic))
  return r
open Option renaming some->O,none->W
open Bool renaming true->EA,false->JJ
def Y {α} {a:α}:a=a:=rfl
open PySem renaming wpAny_bind->Æ,wpAny_pure->Ë,wpAny_holding->ó,wpAny_field->ì,mem_of_lookup->Ĉ,wpAny_mono->î,wpAny_rule->Ė,wpAny_setField_rec->ÿ,sizeLine_eq->ê,wpAny_seqItems->Ā,wpAny_call_entry->Ĝ,wpAny_newObj_type->Ģ,wpAny_truthy_bool->ħ,wpAny_callSpecialIfBoundUnlessNone?_slot->adb,wpAny_onRaise->Ě,wpAny_specialOf->Ĥ,wpAny_Call_Name_kw->Ĵ,wpAny_callSpecial?_slot->Ŏ,call_meets->č,wpAny_passesOwn->Ķ,wpAny_letGo->ĥ,wpAny_standAt->ĺ,wpAny_bindName->Ņ,wpAny_pyIter_tuple->ū,wpAny_pyIter_list->ŭ,wpAny_newTuple->ś,codeAny_mono->Ň,wpAny_execs_nil->ų,wpAny_call->ň,typeIs_str->Ŋ,wpAny_attempt->Ÿ,beq_builtin_none->agk,noFill_tuple_add->agn,wpAny_isInstance->ago,wpAny_forIn_list->agq,typeIs_int->Ş
open List renaming length_map->Ê,mem_of_getElem?->Ô,map_append->Ñ,mem_cons_of_mem->Õ,getElem?_eq_some_iff->à,mem_cons->Ð,getElem?_map->Ö,length_append->Ý,size_toArray->Þ,mem_singleton->ã,mem_cons_self->è,map_cons->Ø,length_cons->æ,take_of_length_le->ù,mem_map->Ù,mem_append->ë,getD_eq_getElem?_getD->ć,length_take->ô,length_singleton->Ą,nodup_cons->õ,take_length->ý,mem_append_right->ē,not_mem_nil->ā,append_nil->þ,getElem?_eq_getElem->Ğ,all_eq_true->Ĕ,map_nil->Ă,mem_append_left->į,map_map->đ,getElem?_set_self->ļ,sum_cons->ĕ,getElem?_set_ne->Ľ,append_assoc->İ,getElem?_append_right->Š,getElem_mem->ı,getElem?_append_left->š,take_succ->Ħ,mem_range->Ĳ,range_succ->ŋ,mem_iff_getElem?->Ž,getElem?_eq_none->ž,length_set->Ţ,eq_nil_of_length_eq_zero->ċ,filterMap_cons->Ġ,replicate_succ->ġ,eq_of_mem_replicate->ō,lookup_cons->Ĩ,forIn_cons->Ĭ,take_succ_cons->ľ,forIn_nil->ĭ,mem_or_eq_of_mem_set->Ť,replicate_succ'->œ,sum_append->ķ,cons_append->ŀ,find?_cons->Ł,nil_append->ł,flatten_cons->Ŗ,exists_cons_of_ne_nil->aek,getElem?_take_of_lt->aeq,of_mem_zip->Ś,find?_cons_of_pos->ae2,find?_cons_of_neg->ae3,foldl_append->ů,take_zero->Ŝ,length_drop->Ű,zipIdx_cons->ű,any_cons->ŝ,zipIdx_nil->Ŵ,filter_append->af1,getElem?_zip_eq_some->af3,mem_of_find?_eq_some->af4,filterMap_cons_some->agc,set_comm->Ŷ,getElem?_replicate->age,append_cancel_left->agj,getElem_inj->agl,drop_of_length_le->ags,foldl_cons->agu
open PySem.Heap renaming get?_push_of_some->Î,get?_push_size->Ü,lt_size->Ó,size_push->ĉ,get?_update_self->afb
open Nat renaming le_refl->Í,lt_of_lt_of_le->é,ne_of_lt->ä,zero_le->ß,le_trans->ï,lt_irrefl->Ċ,le_of_lt->ğ,le_add_right->ĵ,min_eq_left->ń,le_of_eq->Ļ,mul_le_mul_left->afr,lt_of_le_of_lt->afy,add_assoc->Ź,lt_succ_self->agm,zero_add->ź
open Option renaming map_eq_some_iff->ç,map_some->ī,isSome_map->ŗ
open Bool renaming false_ne_true->â,false_eq_true->ě,and_eq_true->ģ,eq_iff_iff->Ī,false_or->ŷ,not_true->agz
open PySem.F renaming plainAttrs_list->í,slot_list_append->ö,type_list_append->ø,excBase_ValueError->Č,slot_str_join->ė,type_str_join->Ę,slot_str_split->ŏ,type_str_split->Ő,slot_tuple_iterator_next->ţ,slot_dict_get->ő,args_tuple_add_2->aer,entry_tuple_add->aeu,args_dict_get_3->aev,slot_tuple_add->aez,entry_dict_get->ae1,slot_list_pop->afc,type_list_pop->afd,args_tuple_iterator_next_1->afj,slot_int_rmul->ŵ,slot_str_partition->afu,type_str_partition->afv,args_tuple_mul_2->afz,args_str_split_2->af2,entry_tuple_mul->aga,entry_str_split->agb,plainAttrs_dict->agg,slot_tuple_mul->agp,slot_str_split->agr
open PySem.W renaming mg_of->å,mg_none_of->ü,kia_one->ą,callWith_K->ŕ,looks_findIn->Ũ,hideAll_get->Ū,cellsFrom_some->aey,plainGet_of->afm,kitx_tuple->afw,kitx_list->af5
open Option.some renaming inj->ñ
open Int renaming eq_ofNat_of_zero_le->Ē,le_refl->û,emod_nonneg->Ń,emod_lt_of_pos->Ŭ,fdiv_eq_ediv_of_nonneg->aft,toNat_natCast->af8,zero_add->Ż
open PySem.PassesOwn renaming never->ú,leaving->ř
open PySem.Str renaming length_append->ę,empty_append->Ų
open PyProof.Rows renaming callWith_type1->Ō,assignInOrder_cons->ĳ,boot_sum->Œ,part_short->ť,boot_all->ŧ,subscriptTail_builtinR->ae0,slot_tuple_getitem->ae5,fact_partition->afs,joinOk_of->agt
open PySem.SeqAt.EqAt renaming same->ĩ,bool_bool->afh,int_int->afx,of_refs->af0
open Array renaming forIn_toList->Ŀ,length_toList->afk
open Prod.mk renaming inj->ĝ
open PySem.Calls renaming callWith_builtin->Ŧ,spliced_cons->Ŕ,evalArgs_plain->ũ,spliced_nil->af6
open PySem.Paired renaming length->Ĺ
open List.cons renaming inj->ņ
open PySem.Heap.SameBut renaming refl->Ů,update->afn
abbrev À:=PySem.Value
abbrev Á:=PySem.Addr
abbrev Â:=PySem.Shared
abbrev Ã:=PySem.Program
def Ä:=@if_neg
def Å:=@if_pos
abbrev Ç:=PySem.W.Frag
def á:=@decide_eq_true
def ð:=@of_decide_eq_true
def ò:=@decide_eq_false
variable {P:PySem.Program}{w:PySem.World}{K:Ç}{mg:PySem.Str->Option PySem.Value}{base:PySem.Heap}{C c_TipError c_NoNet c_NoVessel c_TooLong c_TooMany c_TooMuch c_Nothing c_NoText c_NoRow:PySem.Addr}
def Ř:=@decide_eq_true_eq
def afq:=@ne_true_of_eq_false
def ş:=@beq_iff_eq
def sz0 (n:Nat) (h:n<=1000:=by decide):n<=PySem.sizeLine:=Nat.le_trans h (by decide)
def wr0 {p:Prop} (h:p:=by with_unfolding_all rfl):p:=h
def JK {p:Prop} (h:p:=by decide +kernel):p:=h
def JL {p:Prop} (h:p:=by decide):p:=h
def JM {p:Prop} (h:p:=by lia):p:=h
def JN {p:Prop} (h:p:=by simp):p:=h
def _1(_:True:=by show wr0):True:=trivial
def _0:=_1._auto_1
def _3(_:True:=by decide):True:=trivial
def _2:=_3._auto_1
def _5(_:True:=by with_unfolding_all first | show .inl Y | show .inr Y | assumption):True:=trivial
def _4:=_5._auto_1
def _7(_:True:=by intro _;with_unfolding_all rfl):True:=trivial
def _6:=_7._auto_1
def _9(_:True:=by intro _ _ _ _ _ _;first | show sL λ _=>Y | show mR λ _ _=>Y | show sK λ _ _ _=>Y | show sJ λ _ _ _ _=>Y | show sI λ _ _ _ _ _=>Y):True:=trivial
def _8:=_9._auto_1
def _B(_:True:=by with_unfolding_all show Or.inl Y):True:=trivial
def _A:=_B._auto_1
def _D(_:True:=by show {}):True:=trivial
def _C:=_D._auto_1
def _F(_:True:=by intro vs H Q E h;repeat first | (let⟨Y,_⟩:=h;rfl) | let⟨_,h⟩:=h):True:=trivial
def _E:=_F._auto_1
namespace L2
open PySem PySem.Spec PyProof.Rows
def bO {T0:Sort _}{B:Sort _}{l r:T0->B}{p:T0->Prop} (a:T0) (qq:l a=r a) (hh:p a):∃ x0,l x0=r x0/\p x0:=⟨a,qq,hh⟩
def eO {T0 T1:Sort _}{B:Sort _}{l r:T0->T1->B}{p:T0->T1->Prop} (a:T0) (b:T1) (qq:l a b=r a b) (hh:p a b):∃ x0 x1,l x0 x1=r x0 x1/\p x0 x1:=⟨a,b,qq,hh⟩
def WL {T0 T1 T2:Sort _}{B:Sort _}{l r:T0->T1->T2->B}{p:T0->T1->T2->Prop} (a:T0) (b:T1) (c:T2) (qq:l a b c=r a b c) (hh:p a b c):∃ x0 x1 x2,l x0 x1 x2=r x0 x1 x2/\p x0 x1 x2:=⟨a,b,c,qq,hh⟩
def MS {T0 T1 T2 T3:Sort _}{B:Sort _}{l r:T0->T1->T2->T3->B}{p:T0->T1->T2->T3->Prop} (a:T0) (b:T1) (c:T2) (d:T3) (qq:l a b c d=r a b c d) (hh:p a b c d):∃ x0 x1 x2 x3,l x0 x1 x2 x3=r x0 x1 x2 x3/\p x0 x1 x2 x3:=⟨a,b,c,d,qq,hh⟩
def SQ {T0 T1 T2 T3 T4:Sort _}{B:Sort _}{l r:T0->T1->T2->T3->T4->B}{p:T0->T1->T2->T3->T4->Prop} (a:T0) (b:T1) (c:T2) (d:T3) (e:T4) (qq:l a b c d e=r a b c d e) (hh:p a b c d e):∃ x0 x1 x2 x3 x4,l x0 x1 x2 x3 x4=r x0 x1 x2 x3 x4/\p x0 x1 x2 x3 x4:=⟨a,b,c,d,e,qq,hh⟩
def eA6 {T0 T1 T2 T3 T4 T5:Sort _}{B:Sort _}{l r:T0->T1->T2->T3->T4->T5->B}{p:T0->T1->T2->T3->T4->T5->Prop} (a:T0) (b:T1) (c:T2) (d:T3) (e:T4) (f:T5) (qq:l a b c d e f=r a b c d e f) (hh:p a b c d e f):∃ x0 x1 x2 x3 x4 x5,l x0 x1 x2 x3 x4 x5=r x0 x1 x2 x3 x4 x5/\p x0 x1 x2 x3 x4 x5:=⟨a,b,c,d,e,f,qq,hh⟩
def eA7 {T0 T1 T2 T3 T4 T5 T6:Sort _}{B:Sort _}{l r:T0->T1->T2->T3->T4->T5->T6->B}{p:T0->T1->T2->T3->T4->T5->T6->Prop} (a:T0) (b:T1) (c:T2) (d:T3) (e:T4) (f:T5) (g:T6) (qq:l a b c d e f g=r a b c d e f g) (hh:p a b c d e f g):∃ x0 x1 x2 x3 x4 x5 x6,l x0 x1 x2 x3 x4 x5 x6=r x0 x1 x2 x3 x4 x5 x6/\p x0 x1 x2 x3 x4 x5 x6:=⟨a,b,c,d,e,f,g,qq,hh⟩
def eA8 {T0 T1 T2 T3 T4 T5 T6 T7:Sort _}{B:Sort _}{l r:T0->T1->T2->T3->T4->T5->T6->T7->B}{p:T0->T1->T2->T3->T4->T5->T6->T7->Prop} (a:T0) (b:T1) (c:T2) (d:T3) (e:T4) (f:T5) (g:T6) (h:T7) (qq:l a b c d e f g h=r a b c d e f g h) (hh:p a b c d e f g h):∃ x0 x1 x2 x3 x4 x5 x6 x7,l x0 x1 x2 x3 x4 x5 x6 x7=r x0 x1 x2 x3 x4 x5 x6 x7/\p x0 x1 x2 x3 x4 x5 x6 x7:=⟨a,b,c,d,e,f,g,h,qq,hh⟩
abbrev gS:=Sum Int (Option Str)
def R1:À->Bool
 |.none=>EA
 |_=>JJ
def FT  (h:R1 v=EA):v=Value.none:=by
 ext v <;> simp_all [R1]
def pU:gS->À->Bool
 |.inl k,v=>Value.isInt k v
 |.inr (O x),v=>Value.isStrOf x v
 |.inr W,v=>R1 v
def sG:Int:=0xFCA86420
def keyH (w:World):gS->Int
 |.inl k=>hashInt k
 |.inr (O x)=>hashStr w x
 |.inr W=>sG
def dO:∀ {k:gS}{v:À},pU k v=EA->(∃ i t,k=Sum.inl i/\v=Value.int i t)\/(∃ x t,k=Sum.inr (O x)/\v=Value.str x t)\/(k=Sum.inr W/\v=Value.none)
 |.inl i,v,h=>by
  let⟨t,e⟩:=Value.isInt_shape (k:=i) (v:=v) h;show .p ⟨i,t,Y,e⟩
 |.inr (O x),v,h=>by
  let⟨t,e⟩:=Value.isStrOf_shape (x:=x) (v:=v) h;show .x (.p ⟨x,t,Y,e⟩)
 |.inr W,v,h=>.inr (.x ⟨rfl,FT h⟩)
def ML (i:Int) (t:Tok):pU (.p i) (.u i t)=true:=by simp[pU,Value.isInt]
def MK (x:Str) (t:Tok):pU (.x (O x)) (.o x t)=true:=by simp[pU,Value.isStrOf]
def Y7 (a b:Int):decide ((Sum.inl a:gS)=Sum.inl b)=(a==b):=by
 by_cases e:a=b
 ·subst e;simp
 ·let h:¬ (Sum.inl a:gS)=Sum.inl b:=λ q=>e (Sum.inl.inj q);rw[ò h];show(beq_eq_false_iff_ne.mpr e).symm
def Y5 (a b:Str):decide ((Sum.inr (O a):gS)=Sum.inr (O b))=decide (a=b):=by
 by_cases e:a=b
 ·subst e;simp
 ·let h:¬ (Sum.inr (O a):gS)=Sum.inr (O b):=λ q=>e (ñ (Sum.inr.inj q));rw[ò h,ò e]
def QU (i:Int) (o:Option Str):decide ((Sum.inl i:gS)=Sum.inr o)=false:=ò (λ q=>nomatch q)
def QV (i:Int) (o:Option Str):decide ((Sum.inr o:gS)=Sum.inl i)=false:=ò (λ q=>nomatch q)
def Y4 (x:Str):decide ((Sum.inr (O x):gS)=Sum.inr W)=false:=ò (λ q=>nomatch (Sum.inr.inj q))
def Y6 (x:Str):decide ((Sum.inr W:gS)=Sum.inr (O x))=false:=ò (λ q=>nomatch (Sum.inr.inj q))
def R7 {prog:Ã}{E:À->Â->Prop}{s:Â}{Q:Int->Â->Prop} (h:Q sG { s with toks:=s.M+1 }) :
  wpAny (model prog w) A (pyHash .none) Q E s:=by
 let hT:s.TypeIs .none "NoneType" := rfl;unfold pyHash;let hv:[Value.none].any Value.onHeap=false:=rfl;show Æ ?_;rw[cRoomFor,Ä (by rw[hv];show â)];show Ë ?_;show Æ (Ĥ hT F.slot_NoneType_hash.lookup ?_);change wpAny _ _ (if (O (Value.builtin "NoneType.__hash__") == O Value.none)=EA then _ else _) Q E s;rw[Ä (by rw[agk];show â)];show Æ (Ĥ hT F.slot_NoneType_hash.lookup ?_);change wpAny _ _ (callSpecialIfBoundUnlessNone? .none "__hash__" _ >>= _) Q E s;show Æ (adb hT F.slot_NoneType_hash
  (Ĝ F.slot_NoneType_hash hT F.entry_NoneType_hash
   (show wpAny _ _ (do ret (<- mkInt sG)) _ _ s from wpAny_ret_mkInt ?_) (F.args_NoneType_hash_1 _)))
 change wpAny _ _ (if (decide (-(2:Int) ^ 63<=sG) && decide (sG < 2 ^ 63))=EA then _ else _) Q E _;rw[Å JL];show Ë h
def eK (prog:Ã) (w:World):PySem.KeyKind prog w gS where
 is:=pU
 hash:=keyH w
 inj:=λ v a b ha hb=>by
  rcases dO ha with⟨i,t,rfl,rfl⟩|⟨x,t,rfl,rfl⟩|⟨rfl,rfl⟩
  ·rcases dO hb with⟨j,u,rfl,e⟩|⟨y,u,rfl,e⟩|⟨rfl,e⟩
   ·injection e with e1 _;rw[e1]
   ·show nomatch e
   ·show nomatch e
  ·rcases dO hb with⟨j,u,rfl,e⟩|⟨y,u,rfl,e⟩|⟨rfl,e⟩
   ·show nomatch e
   ·injection e with e1 _;rw[e1]
   ·show nomatch e
  ·rcases dO hb with⟨j,u,rfl,e⟩|⟨y,u,rfl,e⟩|⟨rfl,e⟩
   ·show nomatch e
   ·show nomatch e
   ·rfl
 byValue:=λ k v h=>by
  rcases dO h with⟨i,t,rfl,rfl⟩|⟨x,t,rfl,rfl⟩|⟨rfl,rfl⟩ <;> rfl
 pyHash:=λ hv h=>by
  rcases dO hv with⟨i,t,rfl,rfl⟩|⟨x,t,rfl,rfl⟩|⟨rfl,rfl⟩
  ·show wpAny_pyHash_int h
  ·show wpAny_pyHash_str h
  ·show R7 h
 eqBool:=λ hu hv h=>by
  rcases dO hu with⟨i,t,rfl,rfl⟩|⟨x,t,rfl,rfl⟩|⟨rfl,rfl⟩
  ·rcases dO hv with⟨j,u,rfl,rfl⟩|⟨y,u,rfl,rfl⟩|⟨rfl,rfl⟩
   ·rw[Y7]at h;show wpAny_eqBool_int h
   ·rw[QU]at h;show SeqAt.EqAt.int_str i t y u _ _ _ _ h
   ·rw[QU]at h;show SeqAt.EqAt.int_none i t _ _ _ _ h
  ·rcases dO hv with⟨j,u,rfl,rfl⟩|⟨y,u,rfl,rfl⟩|⟨rfl,rfl⟩
   ·rw[QV]at h;show SeqAt.EqAt.str_int x t j u _ _ _ _ h
   ·rw[Y5]at h;show wpAny_eqBool_str h
   ·rw[Y4]at h;show SeqAt.EqAt.str_none x t _ _ _ _ h
  ·rcases dO hv with⟨j,u,rfl,rfl⟩|⟨y,u,rfl,rfl⟩|⟨rfl,rfl⟩
   ·rw[QV]at h;show SeqAt.EqAt.none_int j u _ _ _ _ h
   ·rw[Y6]at h;show SeqAt.EqAt.none_str y u _ _ _ _ h
   ·rw[á rfl]at h;show ĩ Value.none _ _ _ _ h
 «strs»:=λ k x t v h=>by
  rcases dO h with⟨i,u,rfl,e⟩|⟨y,u,rfl,e⟩|⟨rfl,e⟩
  ·show nomatch e
  ·injection e with e1 _;subst e1;ext v <;> rfl
  ·show nomatch e
def FE (prog:Ã) (w:World) (i:Int) (t:Tok):(eK prog w).is (.p i) (.u i t)=true:=ML i t
def FD (prog:Ã) (w:World) (x:Str) (t:Tok):(eK prog w).is (.x (O x)) (.o x t)=true:=MK x t
inductive V where
 |non|bl (b:Bool)|int (i:Int)|str (x:Str)|byt (b:Array UInt8)|flt (b:UInt64)|ref (a:Á)|ty (n:String)
 deriving DecidableEq
def bE:V->À->Prop
 |.non,u=>u=Value.none
 |.bl b,u=>u=Value.bool b
 |.int i,u=>∃ t,u=Value.int i t
 |.str x,u=>∃ t,u=Value.str x t
 |.byt b,u=>∃ t,u=Value.bytes b t
 |.flt b,u=>∃ t,u=Value.float b t
 |.ref a,u=>u=Value.ref a
 |.ty n,u=>u=Value.type n
abbrev bN:List V->List À->Prop:=Paired bE
def bN.length  (r:bN xs us):xs.Z=us.Z:=Ĺ r
def bN.get:∀ {xs:List V}{us:List À}{i:Nat}{x:V},bN xs us->xs[i]?=O x->∃ u,us[i]?=O u/\bE x u
 |_,_,_,_,.nil,e=>by simp at e
 |_,_,0,_,.cons r _,e=>by simp at e;subst e;show⟨_,Y,r⟩
 |_,_,i+1,x,.cons _ t,e=>by
  let⟨u,h1,h2⟩:=bN.get (i:=i) (x:=x) t (by simpa using e);show⟨u,by simpa using h1,h2⟩
def bN.set  (r:bE x u):∀ {xs:List V}{us:List À} (i:Nat),bN xs us->bN (xs.set i x) (us.set i u)
 |_,_,_,.nil=>.nil
 |_,_,0,.cons _ t=>.cons r t
 |_,_,i+1,.cons q t=>.cons q (bN.set r i t)
def bN.append:∀ {xs ys:List V}{us ws:List À},bN xs us->bN ys ws->bN (xs++ys) (us++ws)
 |_,_,_,_,.nil,s=>s
 |_,_,_,_,.cons r t,s=>.cons r (bN.append t s)
def bN.take:∀ {xs:List V}{us:List À} (n:Nat),bN xs us->bN (xs.take n) (us.take n)
 |_,_,0,_=>.nil
 |_,_,_+1,.nil=>.nil
 |_,_,n+1,.cons r t=>.cons r (bN.take n t)
def bN.drop:∀ {xs:List V}{us:List À} (n:Nat),bN xs us->bN (xs.drop n) (us.drop n)
 |_,_,0,r=>r
 |_,_,_+1,.nil=>.nil
 |_,_,n+1,.cons _ t=>bN.drop n t
def mS:Option V->Option À->Prop
 |some v,O u=>bE v u
 |none,W=>True
 |_,_=>False
def KV {be:Type}:List (be×V)->List (be×À)->Prop:=Paired λ(p:be×V) (q:be×À)=>p.1=q.1/\bE p.2 q.2
def kV:gS->V
 |.inl i=>.int i
 |.inr (O x)=>.str x
 |.inr W=>.non
inductive HO where
 |lst (xs:List V)
 |tup (xs:List V)
 |dK (ii:List (gS×V))|dT (ii:List (List gS×V))
 |set (S:Int->Bool) (n:Nat)
 |ins (C dx:Á) (fs:List (Str×V))
 |own (x:Á)
 |xd (fs:List (Str×V))
 |met (f x:Á)
 |rng (lo hi:Int)
 |frz (o:Obj) (u:HO)
 |tbl (ps:Array À)
 |ext (dn:Heap->Prop)
abbrev Hp:=Á->Option HO
def upd (H:Hp) (a:Á) (o:HO):Hp:=λ b=>if b=a then O o else H b
def aD :upd H a o a=O o:=by unfold upd;rw[Å rfl]
def aK  (h:b≠a):upd H a o b=H b:=by unfold upd;rw[Ä h]
def SV :upd (upd H a o) a u=upd H a u:=by
 funext b;unfold upd;split <;> rfl
def WB {H:Hp} (h:H a=O o) (h':H b=O u) (d:o≠u):a≠b:=by
 intro e;subst e;rw[h]at h';show d (ñ h')
def aM {H:Hp} (h:H a=O o) (h':H b=W):a≠b:=by
 intro e;subst e;rw[h]at h';cases h'
section
variable (P:Ã)(w:World)
def dB (H:Hp) (h:Heap) (a:Á):HO->Prop
 |.lst xs=>xs.Z<=sizeLine/\∃(its:List À) (n:Nat),bN xs its/\h.get? a=O { cls:=.q "list",data:=.V its.toArray n }
 |.tup xs=>xs.Z<=sizeLine/\∃ its:List À,bN xs its/\IsTup h a its.J
 |.dK ii=>ii.Z<=sizeLine/\(a==sysModules)=JJ/\∃ vs,KV ii vs/\h.DictOf (eK P w) a vs
 |.dT ii=>ii.Z<=sizeLine/\(a==sysModules)=JJ/\∃ xs:List (List gS×Á×À),
   Paired (λ(p:List gS×V) (q:List gS×Á×À)=>p.1=q.1/\H q.2.1=O (.v (p.1.map kV))/\bE p.2 q.2.2) ii xs/\
   ∃ o es ep,h.get? a=O o/\o.ExactDict/\o.data=.dict es ep/\es.toList=xs.map (entryOfKey (tupleKind (eK P w)))/\(xs.map (·.1)).Nodup
 |.set S n=>h.SetOf (intKind P w) a S n
 |.ins C dx fs=>H dx=O (.own a)/\fs.Z<=1000/\dx≠a/\h.get? a=O (PySem.W.instObj C dx)/\
   ∃ mA,h.Ns1 dx mA/\(∀ f,mS (fs.lookup f) (mA f))/\PySem.Within mA (fs.map (·.1))
 |.own _=>∃ o,h.get? a=O o
 |.xd fs=>∃ mA,h.Ns1 a mA/\∀ f,mS (fs.lookup f) (mA f)
 |.rng lo hi=>∃ t u v,h.get? a=O { cls:=.q "range",data:=.U #[.u lo t,.u hi u,.u 1 v] }
 |.frz o u=>h.get? a=O o/\dB H h a u
 |.tbl ps=>h.get? a=O { cls:=.none,data:=.U ps }
 |.met f x=>h.get? a=O (PySem.W.methodObj (.y f) (.y x))
 |.ext dn=>dn h/\(∃ o,h.get? a=O o)/\∀ h1 h2:Heap,dn h1->(∀ o,h1.get? a=O o->h2.get? a=O o)->dn h2
def pY (H:Hp) (h:Heap):Prop:=∀ a o,H a=O o->dB P w H h a o
end
section
variable {H H':Hp}{h h':Heap}{a:Á}{o:HO}
def dB.lt (x:dB P w H h a o):a < h.objs.S:=by
 cases o with
 |lst xs=>let⟨_,_,_,_,e⟩:=x;show Ó e
 |tup xs=>let⟨_,_,_,p⟩:=x;show p.lt
 |dK ii=>let⟨_,_,_,_,o,_,_,e,_⟩:=x;show Ó e
 |dT ii=>let⟨_,_,_,_,o,_,_,e,_⟩:=x;show Ó e
 |set S n=>let⟨o,_,_,_,e,_⟩:=x;show Ó e
 |ins C dx fs=>let⟨_,_,_,e,_⟩:=x;show Ó e
 |own y=>let⟨_,e⟩:=x;show Ó e
 |xd fs=>let⟨_,⟨_,_,_,e,_⟩,_⟩:=x;show Ó e
 |rng lo hi=>let⟨_,_,_,e⟩:=x;show Ó e
 |frz ob u=>let⟨e,_⟩:=x;show Ó e
 |tbl ps=>show Ó (show h.get? a=O _ from x)
 |met f y=>show Ó (show h.get? a=O _ from x)
 |ext dn=>let⟨_,⟨_,e⟩,_⟩:=x;show Ó e
def Paired.mapP {ag cx:Type}{F G:ag->cx->Prop}:∀ {cb:List ag}{ce:List cx},Paired F cb ce->(∀ a b,F a b->G a b)->Paired G cb ce
 |_,_,.nil,_=>.nil
 |_,_,.cons r t,f=>.cons (f _ _ r) (Paired.mapP t f)
def Į:=@Paired.mapP
def dB.stay (x:dB P w H h a o) (k:∀ b u,(b=a\/H b=O (.own a))->h.get? b=O u->h'.get? b=O u)
  (ho:∀ b,H b=O (.own a)->H' b=O (.own a)) (ht:∀ b xs,H b=O (.v xs)->H' b=O (.v xs)):dB P w H' h' a o:=by
 induction o with
 |lst xs=>let⟨z,its,n,r,e⟩:=x;show⟨z,its,n,r,k _ _ (.p Y) e⟩
 |tup xs=>let⟨z,its,r,ob,e,c⟩:=x;show⟨z,its,r,ob,k _ _ (.p Y) e,c⟩
 |dK ii=>let⟨z,y,vs,r,ob,es,ep,e,c⟩:=x;show⟨z,y,vs,r,ob,es,ep,k _ _ (.p Y) e,c⟩
 |dT ii=>
  let⟨z,y,xs,r,ob,es,ep,e,c⟩:=x;show⟨z,y,xs,Į r λ p q z=>⟨z.1,ht _ _ z.2.1,z.2.2⟩,ob,es,ep,k _ _ (.p Y) e,c⟩
 |set S n=>let⟨ob,es,ep,t,e,c⟩:=x;show⟨ob,es,ep,t,k _ _ (.p Y) e,c⟩
 |ins C dx fs=>
  let⟨d,z,ne,e,mA,⟨od,es,ep,e2,c⟩,r⟩:=x;show⟨ho _ d,z,ne,k _ _ (.p Y) e,mA,⟨od,es,ep,k _ _ (.x d) e2,c⟩,r⟩
 |own y=>let⟨ob,e⟩:=x;show⟨ob,k _ _ (.p Y) e⟩
 |xd fs=>let⟨mA,⟨od,es,ep,e,c⟩,r⟩:=x;show⟨mA,⟨od,es,ep,k _ _ (.p Y) e,c⟩,r⟩
 |rng lo hi=>let⟨t,u,v,e⟩:=x;show⟨t,u,v,k _ _ (.p Y) e⟩
 |frz ob u ih=>let⟨e,q⟩:=x;show⟨k _ _ (.p Y) e,ih q⟩
 |tbl ps=>
  let e:h.get? a=O { cls:=.none,data:=.U ps }:=x;change h'.get? a=O { cls:=.none,data:=.U ps };show k a _ (.p Y) e
 |met f y=>
  let e:h.get? a=O (PySem.W.methodObj (.y f) (.y y)):=x;change h'.get? a=O (PySem.W.methodObj (.y f) (.y y));show k a _ (.p Y) e
 |ext dn=>let⟨p,⟨o,e⟩,st⟩:=x;show⟨st _ _ p λ o q=>k _ _ (.p Y) q,⟨o,k _ _ (.p Y) e⟩,st⟩
def pY.lt (x:pY P w H h) (e:H a=O o):a < h.objs.S:=(x a o e).lt
def pY.fresh (x:pY P w H h) (e:h.objs.S<=a):H a=none:=by
 cases q:H a with
 |none=>rfl
 |some u=>show absurd (é (x.lt q) e) (Ċ _)
def pY.kept (x:pY P w H h) (k:∀ b u,h.get? b=O u->h'.get? b=O u):pY P w H h':=λ a o e=>
 (x a o e).stay (λ b u _ q=>k b u q) (λ _ q=>q) λ _ _ q=>q
def pY.laid (x:pY P w H h) (k:∀ b u,h.get? b=O u->h'.get? b=O u) (hp:h.objs.S<=a) (new:dB P w (upd H a o) h' a o):pY P w (upd H a o) h':=λ b u e=>by
 let hn:=x.fresh hp
 by_cases hb:b=a
 ·subst hb;rw[aD]at e;ext e;show new
 ·rw[aK hb]at e;show(x b u e).stay (λ c v _ q=>k c v q) (λ c q=>by rw[aK (aM q hn)];show q) λ c xs q=>by rw[aK (aM q hn)];show q
end
def Rd (H:Hp) (a:Á) (u:HO):Prop:=H a=O u\/∃ o,H a=O (.frz o u)
def Rd.ok {P:Ã}{u:HO} (r:Rd H a u) (x:pY P w H h):dB P w H h a u:=by
 rcases r with r|⟨o,r⟩
 ·show x a u r
 ·let⟨_,q⟩:=x a _ r;show q
def lX:Option HO->Prop
 |some (.lst _)=>True
 |some (.dK _)=>True
 |some (.dT _)=>True
 |some (.set _ _)=>True
 |some (.ins _ _ _)=>True
 |some (.ext _)=>True
 |_=>False
section
variable {H:Hp}{h h':Heap}{x e:Á}{o':HO}
def pY.write (ok:pY P w H h) (mu:lX (H x)) (he:e=x\/H e=O (.own x)) (k:∀ b u,b≠e->h.get? b=O u->h'.get? b=O u) (Fd:∃ u,h'.get? e=O u)
  (new:dB P w (upd H x o') h' x o'):pY P w (upd H x o') h':=λ b u q=>by
 let Gp:∀ c y,H c=O (.own y)->c≠x:=λ c y r z=>by subst z;rw[r]at mu;show mu
 let Nq:∀ c xs,H c=O (.v xs)->c≠x:=λ c xs r z=>by subst z;rw[r]at mu;show mu
 by_cases hb:b=x
 ·subst hb;rw[aD]at q;ext q;show new
 ·rw[aK hb]at q
  by_cases Cn:b=e
  ·let q':H b=O (.own x):=by
    rcases he with z|z
    ·show absurd (Cn.trans z) hb
    ·rw[Cn];show z
   rw[q]at q';ext q';let⟨v,hv⟩:=Fd;show⟨v,by rw[Cn];show hv⟩
  ·show(ok b u q).stay (λ c v hc r=>k c v ?_ r) (λ c r=>by rw[aK (Gp c b r)];show r) λ c xs r=>by rw[aK (Nq c xs r)];show r
   rcases hc with rfl|hc
   ·show Cn
   ·rintro rfl;rcases he with z|z
    ·show Gp c b hc z
    ·rw[hc]at z;ext z;show hb Y
end
structure Un (fs ex:List Á) (H H':Hp) (h h':Heap):Prop where
 keep:∀ b o,h.get? b=O o->H b=W->b∉fs->b∉ex->h'.get? b=O o
 slot:∀ b o,h.get? b=O o->H b=W->b∈fs->b∉ex->∃ sl,h'.get? b=O { o with slots:=sl }
 free:∀ b o,h.get? b=O o->H b=W->b∉ex->H' b=W
 there:∀ b o,h.get? b=O o->b∉ex->∃ o',h'.get? b=O o'
 tups:∀ b xs,H b=O (.v xs)->H' b=O (.v xs)
 frzs:∀ b o u,H b=O (.frz o u)->H' b=O (.frz o u)
 tbls:∀ b ps,H b=O (.tbl ps)->∃ more,H' b=O (.tbl (ps++more))
section
def Un.any (u:Un fs ex H H1 h h1) {b:Á} (q:h.get? b=O ob) (n:H b=W) (hx:b∉ex):∃ sl,h1.get? b=O { ob with slots:=sl }:=by
 by_cases hb:b∈fs
 ·show u.slot b ob q n hb hx
 ·show⟨ob.slots,u.keep b ob q n hb hx⟩
def Un.kept (k:∀ b u,h.get? b=O u->h'.get? b=O u):Un fs ex H H h h':=
 ⟨λ b ob q _ _ _=>k b ob q,λ b ob q _ _ _=>⟨ob.slots,k b ob q⟩,λ _ _ _ n _=>n,λ b ob q _=>⟨ob,k b ob q⟩,λ _ _ q=>q,λ _ _ _ q=>q,λ _ ps q=>⟨#[],by rw[q];simp⟩⟩
def Un.refl:Un fs ex H H h h:=Un.kept λ _ _ q=>q
def Un.laid (k:∀ b u,h.get? b=O u->h'.get? b=O u) (hp:h.objs.S<=a) (hn:H a=W):Un fs ex H (upd H a o) h h' where
 keep:=λ b u q _ _ _=>k b u q
 slot:=λ b u q _ _ _=>⟨u.slots,k b u q⟩
 free:=λ b u q n _=>by rw[aK (ä (é (Ó q) hp))];show n
 there:=λ b u q _=>⟨u,k b u q⟩
 tups:=λ b xs q=>by rw[aK (aM q hn)];show q
 frzs:=λ b u xs q=>by rw[aK (aM q hn)];show q
 tbls:=λ b ps q=>⟨#[],by rw[aK (aM q hn),q];simp⟩
def Un.write (mu:lX (H x)) (he:e=x\/H e=O (.own x)) (k:∀ b u,b≠e->h.get? b=O u->h'.get? b=O u) (Fd:∃ u,h'.get? e=O u):Un fs ex H (upd H x o) h h':=by
 let hx:∀ b,H b=W->b≠x:=λ b n z=>by subst z;rw[n]at mu;show mu
 let hb:∀ b,H b=W->b≠e:=λ b n z=>by
  subst z;rcases he with r|r
  ·show hx b n r
  ·rw[n]at r;cases r
 let hm:∀ b u,H b=O u->¬ lX (O u)->b≠x:=λ b u q nm z=>by subst z;rw[q]at mu;show nm mu
 show⟨λ b u q n _ _=>k b u (hb b n) q,λ b u q n _ _=>⟨u.slots,k b u (hb b n) q⟩,λ b u q n _=>by rw[aK (hx b n)];show n,λ b u q _=>?_,
  λ b xs q=>by rw[aK (hm b _ q λ z=>z)];show q,λ b u xs q=>by rw[aK (hm b _ q λ z=>z)];show q,λ b ps q=>⟨#[],by rw[aK (hm b _ q λ z=>z),q];simp⟩⟩
 by_cases Cn:b=e
 ·subst Cn;show Fd
 ·show⟨u,k b u Cn q⟩
end
def trk (h:Heap) (H:Hp):List Á:=(List.range h.objs.S).filter λ a=>(H a).isSome
def yT (h:Heap) (H:Hp):Heap:=PySem.W.hideAll h (trk h H)
def MN (h:Heap) (H:Hp):(yT h H).objs.size=h.objs.S:=PySem.W.hideAll_size _ _
def R6 {b:Á} (e:h.get? b=O o) (n:H b=W):(yT h H).get? b=O o:=
 Ū _ e λ hm=>by
  let q:(H b).isSome=true:=(List.mem_filter.mp hm).2;rw[n]at q;simp at q
def UP {b:Á} (e:(yT h H).get? b=O o):h.get? b=O o/\H b=none:=by
 let e':h.get? b=O o:=PySem.W.of_hideAll (trk h H) e;show⟨e',?_⟩;cases q:H b with
 |none=>rfl
 |some x=>
  let hm:b∈trk h H:=List.mem_filter.mpr ⟨Ĳ.mpr (Ó e'),by simp[q]⟩;let z:(yT h H).get? b=none:=PySem.W.hideAll_none (trk h H) hm;rw[z]at e;cases e
structure Mod (K:Ç) (mg:Str->Option À) (base:Heap):Prop where
 kin:K.In base
 glob:base.Ns mainGlobals mg
 blt:∃ mb,base.Ns builtinsNs mb/\∀ x:Str,x ≠ "__name__" -> mb x=bootBuiltins x
 nolimit:base.NoLimit
structure Cx where
 prog:Ã
 w:World
 K:Ç
 mg:Str->Option À
 base:Heap
 A:Around
 N:List Str
 s₀:Â
 H₀:Hp
 env:Env
 outer:List Env
 stack:List Env
 ex:List Á
 fn:Str->Bool
 calm:Bool
 pn:List (Á×Obj)
 xe:À->Â->Prop
def mP (l:List Env):List Á:=l.filterMap (·.frame)
abbrev Cx.fs (X:Cx):List Á:=mP X.outer
def Z0 (sc:Scope) (x:Str):Prop:=sc.names.lookup x=O .local\/sc.names.lookup x=O .cell\/sc.names.lookup x=O .free
def WR (sc:Scope) (x:Str):Prop:=sc.names.lookup x=O .local\/sc.names.lookup x=O .cell
def Look (env:Env) (h:Heap) (m:Str->Option À) (x:Str) (u:À):Prop:=
 (env.kindOf x=O .local/\m x=O u)\/((env.kindOf x=O .cell\/env.kindOf x=O .free)/\∃ c,env.cells.lookup x=O c/\h.IsCell c (O u))
structure Cx.Ok (X:Cx):Prop where
 mod:Mod X.K X.mg X.base
 kind:X.env.scope.kind=.function
 glob:X.env.globals=mainGlobals
 blt:X.env.builtins=builtinsNs
 above:X.s₀.heap.objs.size<=X.env.locals
 inj:∀ x y c,X.env.cells.lookup x=O c->X.env.cells.lookup y=O c->x=y
 has:∀ x,(X.env.kindOf x=O .cell\/X.env.kindOf x=O .free)->∃ c,X.env.cells.lookup x=O c
 cab:∀ x c,X.fn x=EA->X.env.cells.lookup x=O c->X.s₀.heap.objs.size<=c
 hd:X.calm=EA->X.A.handled=W
 frames:X.A.frames=O X.stack
 stk:X.stack=X.outer\/(X.stack=X.env::X.outer/\X.env.frame=O X.env.locals)
 exf:∀ b∈X.ex,b≠X.env.locals/\∀ x c,X.env.cells.lookup x=O c->c≠b
 bs:∀ b o,X.base.get? b=O o->X.s₀.heap.get? b=O o/\X.H₀ b=W
 bsz:X.base.objs.S<=X.s₀.heap.objs.size
 noex:∀ b o,X.base.get? b=O o->b∉X.ex
 exfs:∀ b∈X.ex,b∉X.fs
 funs:X.s₀.heap.FunFrames X.base X.outer
 frf:∀ b∈X.fs,X.H₀ b=W
structure Inv (X:Cx) (gu:List (Á×Obj)) (σ:List (Option V)) (H:Hp) (s:Â):Prop where
 ok:X.Ok
 os:s.os=X.s₀.os
 bare:AllBare s.gens
 base:Un X.fs X.ex X.H₀ H X.s₀.heap s.heap
 loc:∃ m,s.heap.Ns X.env.locals m/\∀(i:Nat) (x:Str) (v:V),X.N[i]?=O x->σ[i]?=O (O v)->Z0 X.env.scope x->∃ u,bE v u/\Look X.env s.heap m x u
 cell:∀ x c,X.env.cells.lookup x=O c->∃ v,s.heap.IsCell c v
 free:H X.env.locals=W
 freeC:∀ x c,X.env.cells.lookup x=O c->H c=W
 pin:∀ p∈X.pn++gu,s.heap.get? p.1=O p.2/\H p.1=W/\p.1≠X.env.locals/\p.1∉X.fs/\∀ v,p.2.data≠.cell v
 hok:pY X.prog X.w H s.heap
 len:σ.Z=X.N.Z
section
variable {X:Cx}{gu:List (Á×Obj)}{σ:List (Option V)}{H H':Hp}{s:Â}{h':Heap}
def Cx.Ok.nofr (ok:X.Ok) {b:Á} (e:X.base.get? b=O o):b∉X.fs:=λ hb=>by
 let:=(ok.funs.mem hb).1;rw[e]at this;cases this
def Inv.bs (I:Inv X gu σ H s):∀ b o,X.base.get? b=O o->s.heap.get? b=O o/\H b=none:=λ b o e=>
 ⟨I.base.keep b o (I.ok.bs b o e).1 (I.ok.bs b o e).2 (I.ok.nofr e) (I.ok.noex b o e),I.base.free b o (I.ok.bs b o e).1 (I.ok.bs b o e).2 (I.ok.noex b o e)⟩
def Inv.bk (I:Inv X gu σ H s):∀ b o,X.base.get? b=O o->s.heap.get? b=O o:=λ b o e=>(I.bs b o e).1
def Inv.mod (I:Inv X gu σ H s):Mod X.K X.mg X.base:=I.ok.mod
def Inv.kIn (I:Inv X gu σ H s):X.K.In s.heap:=I.ok.mod.kin.keeps I.bk
def Inv.lt (I:Inv X gu σ H s):X.env.locals < s.L:=let ⟨_,hn,_⟩:=I.loc;hn.lt
def Inv.sz (I:Inv X gu σ H s):X.s₀.heap.objs.size<=s.L:=ï I.ok.above (ğ I.lt)
def Inv.nofs (I:Inv X gu σ H s) {a:Á} (h:s.L<=a):a∉X.fs:=λ hb=>by
 let⟨_,o,ho,_⟩:=I.ok.funs.mem hb;show absurd (é (Ó ho) (ï I.sz h)) (Ċ _)
def Inv.cne (I:Inv X gu σ H s):∀ x c,X.env.cells.lookup x=O c->c≠X.env.locals:=λ x c e z=>by
 let⟨v,o,ho,hd⟩:=I.cell x c e;let⟨m,⟨o',es,ep,qh,Gq,_⟩,_⟩:=I.loc;rw[z,qh]at ho;ext ho;rw[Gq]at hd;cases hd
def Inv.funs (I:Inv X gu σ H s):s.heap.FunFrames X.base X.outer:=by
 let all:∀(l:List Env),(∀ b∈mP l,b∈X.fs)->X.s₀.heap.FunFrames X.base l->s.heap.FunFrames X.base l:=by
  intro l
  induction l with
  |nil=>intro _ _;trivial
  |cons env r ih=>
   intro hs hl;let⟨hk,⟨L,o,hf,hn,ho,hd⟩,hr⟩:=hl;let hL:L∈X.fs:=hs L (by unfold mP;rw[Ġ,hf];show è);let⟨sl,e⟩:=I.base.slot L o ho (I.ok.frf L hL) hL λ z=>I.ok.exfs L z hL;show⟨hk,⟨L,_,hf,hn,e,hd⟩,ih (λ b hb=>hs b (by unfold mP;rw[Ġ,hf];show Õ _ hb)) hr⟩
 show all X.outer (λ _ hb=>hb) I.ok.funs
def Inv.stack (I:Inv X gu σ H s):s.heap.FunFrames X.base X.stack:=by
 rcases I.ok.stk with e|⟨e,hf⟩
 ·rw[e];show I.funs
 ·rw[e];let⟨m,hn,_⟩:=I.loc;show .B (by rw[I.ok.kind];decide) hf hn ?_ I.funs;show Heap.get?_none_of_le (ï I.ok.bsz I.ok.above)
def Inv.stkSub (I:Inv X gu σ H s):∀ b∈mP X.stack,b∈X.env.locals::X.fs:=λ b hb=>by
 rcases I.ok.stk with e|⟨e,hf⟩
 ·rw[e]at hb;show Õ _ hb
 ·rw[e]at hb;unfold mP at hb;rw[Ġ,hf]at hb;show hb
def Inv.stkFree (I:Inv X gu σ H s):∀ b∈mP X.stack,H b=none:=λ b hb=>by
 rcases Ð.mp (I.stkSub b hb)with e|hb
 ·rw[e];show I.free
 ·let⟨_,o,ho,_⟩:=I.ok.funs.mem hb;show I.base.free b o ho (I.ok.frf b hb) λ z=>I.ok.exfs b z hb
def Inv.step {ch:List Á} (I:Inv X gu σ H s)
  (uv:∀ b∈ch,(b∈X.ex\/X.s₀.heap.objs.size<=b)/\b≠X.env.locals/\(∀ x c,X.env.cells.lookup x=O c->c≠b)/\∀ p∈X.pn++gu,p.1≠b)
  (keep:∀ b o,b≠X.env.locals->b∉X.fs->b∉ch->s.heap.get? b=O o->H b=W->h'.get? b=O o)
  (slot:∀ b o,b≠X.env.locals->b∈X.fs->b∉ch->s.heap.get? b=O o->H b=W->∃ sl,h'.get? b=O { o with slots:=sl }) (free:∀ b o,b∉ch->s.heap.get? b=O o->H b=W->H' b=W)
  (there:∀ b o,b∉ch->s.heap.get? b=O o->∃ o',h'.get? b=O o')
  (tups:∀ b xs,H b=O (.v xs)->H' b=O (.v xs)) (frzs:∀ b o u,H b=O (.frz o u)->H' b=O (.frz o u)) (tbls:∀ b ps,H b=O (.tbl ps)->∃ vw,H' b=O (.tbl (ps++vw)))
  (ns:∀ m,s.heap.Ns X.env.locals m->h'.Ns X.env.locals m) (hok:pY X.prog X.w H' h') (hg:AllBare g') :
  Inv X gu σ H' { s with heap:=h',gens:=g',drawn:=d',toks:=t' }:=by
 let Tu:∀ b o,X.s₀.heap.get? b=O o->b≠X.env.locals:=λ b o e=>ä (é (Ó e) I.ok.above);let Kx:∀ b o,X.s₀.heap.get? b=O o->b∉X.ex->b∉ch:=λ b o e hx hb=>by
  rcases (uv b hb).1 with z|z
  ·show hx z
  ·show absurd (é (Ó e) z) (Ċ _)
 let cellK:∀ x c,X.env.cells.lookup x=O c->∀ v,s.heap.IsCell c v->h'.IsCell c v:=λ x c e v ⟨o,ho,hd⟩=>by
  let Gs:c∉ch:=λ z=>(uv c z).2.2.1 x c e rfl
  by_cases hc:c∈X.fs
  ·let⟨sl,q⟩:=slot c o (I.cne x c e) hc Gs ho (I.freeC x c e);show⟨_,q,hd⟩
  ·show⟨o,keep c o (I.cne x c e) hc Gs ho (I.freeC x c e),hd⟩
 show⟨I.ok,I.os,hg,⟨λ b o e n hb hx=>?_,λ b o e n hb hx=>?_,λ b o e n hx=>?_,λ b o e hx=>?_,λ b xs e=>tups b xs (I.base.tups b xs e),λ b o xs e=>frzs b o xs (I.base.frzs b o xs e),λ b ps e=>?_⟩,?_,λ x c e=>?_,?_,λ x c e=>?_,λ p hp=>?_,hok,I.len⟩
 ·show keep b o (Tu b o e) hb (Kx b o e hx) (I.base.keep b o e n hb hx) (I.base.free b o e n hx)
 ·let⟨sl,e1⟩:=I.base.slot b o e n hb hx;let⟨Br,e2⟩:=slot b _ (Tu b o e) hb (Kx b o e hx) e1 (I.base.free b o e n hx);show⟨Br,e2⟩
 ·let⟨o',e1⟩:=I.base.there b o e hx;show free b o' (Kx b o e hx) e1 (I.base.free b o e n hx)
 ·let⟨o',e1⟩:=I.base.there b o e hx;show there b o' (Kx b o e hx) e1
 ·let⟨m1,e1⟩:=I.base.tbls b ps e;let⟨m2,e2⟩:=tbls b _ e1;show⟨m1++m2,by rw[e2,Array.append_assoc]⟩
 ·let⟨m,hn,hl⟩:=I.loc;show⟨m,ns m hn,λ i x v e1 e2 e3=>?_⟩;let⟨u,r,l⟩:=hl i x v e1 e2 e3;show⟨u,r,?_⟩;rcases l with l|⟨k,c,e,z⟩
  ·show .p l
  ·show .x ⟨k,c,e,cellK x c e _ z⟩
 ·let⟨v,z⟩:=I.cell x c e;show⟨v,cellK x c e v z⟩
 ·let⟨m,⟨o,_,_,ho,_⟩,_⟩:=I.loc;show free _ o (λ z=>(uv _ z).2.1 Y) ho I.free
 ·let⟨v,o,ho,hd⟩:=I.cell x c e;show free c o (λ z=>(uv c z).2.2.1 x c e Y) ho (I.freeC x c e)
 ·let⟨e,n,ne,nf,d⟩:=I.pin p hp;let Gs:p.1∉ch:=λ z=>(uv p.1 z).2.2.2 p hp rfl;show⟨keep p.1 p.2 ne nf Gs e n,free p.1 p.2 Gs e n,ne,nf,d⟩
def Inv.un  (I:Inv X gu σ H s) (u:Un X.fs [] H H' s.heap h') (hok:pY X.prog X.w H' h'):Inv X gu σ H' { s with heap:=h',toks:=t' }:=by
 let⟨m,⟨o,es,ep,ho,r⟩,_⟩:=id I.loc;let⟨sl,hL⟩:=u.any ho I.free JN;show I.step (g':=s.gens) (d':=s.drawn) (ch:=[]) (λ _ z=>nomatch z) (λ b o _ hb _ e n=>u.keep b o e n hb JN) (λ b o _ hb _ e n=>u.slot b o e n hb JN) (λ b o _ e n=>u.free b o e n JN) (λ b o _ e=>u.there b o e JN) u.tups u.frzs u.tbls (λ m' hm=>by
  let⟨o',Co,Cp,qh,r'⟩:=hm;rw[ho]at qh;ext qh;show⟨_,Co,Cp,hL,r'⟩) hok I.bare
def Inv.call  (I:Inv X gu σ H s) (u:Un (mP X.stack) ch H H' s.heap h') (hok:pY X.prog X.w H' h') (hg:AllBare g')
  (uv:∀ b∈ch,(b∈X.ex\/X.s₀.heap.objs.size<=b)/\b≠X.env.locals/\(∀ x c,X.env.cells.lookup x=O c->c≠b)/\∀ p∈X.pn++gu,p.1≠b) :
  Inv X gu σ H' { s with heap:=h',gens:=g',drawn:=d',toks:=t' }:=by
 let⟨m,⟨o,es,ep,ho,r⟩,_⟩:=id I.loc;let⟨sl,hL⟩:=u.any ho I.free λ z=>(uv _ z).2.1 rfl;show I.step (ch:=ch) uv (λ b o hL hb hc e n=>u.keep b o e n (λ z=>(Ð.mp (I.stkSub b z)).elim hL hb) hc) (λ b o _ _ hc e n=>u.any e n hc) (λ b o hc e n=>u.free b o e n hc) (λ b o hc e=>u.there b o e hc) u.tups u.frzs u.tbls (λ m' hm=>by
  let⟨o',Co,Cp,qh,r'⟩:=hm;rw[ho]at qh;ext qh;show⟨_,Co,Cp,hL,r'⟩) hok hg
def Inv.turned {it:Á} (I:Inv X gu σ H s) (k:∀ b o,b≠it->s.heap.get? b=O o->h'.get? b=O o) (hn:H it=W) (hL:it≠X.env.locals)
  (h1:it∈X.ex\/X.s₀.heap.objs.size<=it) (h2:∀ x c,X.env.cells.lookup x=O c->c≠it) (h3:∀ p∈X.pn++gu,p.1≠it):Inv X gu σ H { s with heap:=h',toks:=t' }:=by
 let Tv:∀ b u,H b=O u->b≠it:=λ b u e z=>by rw[z,hn]at e;cases e
 show I.step (g':=s.gens) (d':=s.drawn) (ch:=[it]) (λ b hb=>?_) (λ b o _ _ hc e _=>k b o (λ z=>hc (by simp [z])) e) (λ b o _ _ hc e _=>⟨o.slots,k b o (λ z=>hc (by simp [z])) e⟩) (λ _ _ _ _ n=>n)
  (λ b o hc e=>⟨o,k b o (λ z=>hc (by simp[z])) e⟩) (λ _ _ e=>e) (λ _ _ _ e=>e) (λ b ps e=>⟨#[],by rw[e];simp⟩) (λ m hm=>?_) (λ b u e=>?_) I.bare
 ·let e:b=it:=by simpa using hb
  subst e;show⟨h1,hL,h2,h3⟩
 ·let⟨o,es,ep,ho,r⟩:=hm;show⟨o,es,ep,k _ o (Ne.symm hL) ho,r⟩
 ·show(I.hok b u e).stay (λ c v hc q=>k c v ?_ q) (λ _ q=>q) λ _ _ q=>q;rcases hc with z|z
  ·rw[z];show Tv b u e
  ·show Tv c _ z
def Inv.tok (I:Inv X gu σ H s) (t:Nat):Inv X gu σ H { s with toks:=t }:=I.un (h':=s.heap) (t':=t) Un.refl I.hok
def Inv.kept  (I:Inv X gu σ H s) (k:∀ b u,s.heap.get? b=O u->h'.get? b=O u):Inv X gu σ H { s with heap:=h',toks:=t' }:=I.un (Un.kept k) (I.hok.kept k)
def Inv.laid {a:Á} (I:Inv X gu σ H s) (k:∀ b u,s.heap.get? b=O u->h'.get? b=O u) (hp:s.L<=a) (new:dB X.prog X.w (upd H a o) h' a o) :
  Inv X gu σ (upd H a o) { s with heap:=h',toks:=t' }:=I.un (Un.laid k hp (I.hok.fresh hp)) (I.hok.laid k hp new)
def Inv.write  (I:Inv X gu σ H s) (mu:lX (H x)) (he:e=x\/H e=O (.own x)) (k:∀ b u,b≠e->s.heap.get? b=O u->h'.get? b=O u) (Fd:∃ u,h'.get? e=O u)
  (new:dB X.prog X.w (upd H x o) h' x o):Inv X gu σ (upd H x o) { s with heap:=h',toks:=t' }:=I.un (Un.write mu he k Fd) (I.hok.write mu he k Fd new)
def Inv.pins_of {xb:List (Á×Obj)} (I:Inv X gu σ H s) (h:∀ p∈xb,s.heap.get? p.1=O p.2/\H p.1=W/\p.1≠X.env.locals/\p.1∉X.fs/\∀ v,p.2.data≠.cell v):Inv X xb σ H s:=
 ⟨I.ok,I.os,I.bare,I.base,I.loc,I.cell,I.free,I.freeC,λ p hp=>(ë.mp hp).elim (λ z=>I.pin p (į _ z)) (h p),I.hok,I.len⟩
def xP {N:List Str} (hN:N.Nodup) {i j:Nat} (a:N[i]?=O x) (b:N[j]?=O x):i=j:=by
 let⟨h1,e1⟩:=à.mp a;let⟨h2,e2⟩:=à.mp b;show(agl hN).mp (e1.trans e2.symm)
def zD {E:À->Â->Prop}{v:V}{u:À}{Q:Unit->Â->Prop} (I:Inv X gu σ H s) (hN:X.N.Nodup) (hi:X.N[i]?=O x) (hx:WR X.env.scope x) (r:bE v u)
  (h:∀ s',Inv X gu (σ.set i (O v)) H s'->(∃ a,Heap.SameBut a s.heap s'.heap/\(a=X.env.locals\/X.env.cells.lookup x=O a))->Q () s') (hf:autoParam (X.fn x=EA\/X.env.scope.names.lookup x=O .local) _4):wpAny M A (storeName X.env x u) Q E s:=by
 let⟨m,hn,hl⟩:=id I.loc;let xp:(X.env.scope.kind== .class || (X.env.scope.kind== .module && X.env.locals != X.env.globals))=false:=by rw[I.ok.kind];rfl
 let dq:i < σ.Z:=by rw[I.len];show(à.mp hi).1
 let Fe:=I.cne;let tracked:∀ {a:Á}{h':Heap},(∃ o,s.heap.get? a=O o/\H a=W)->Heap.SameBut a s.heap h'->pY X.prog X.w H h':=λ {a h'} ha hs b ob e=>by
  let⟨_,_,ou⟩:=ha;show(I.hok b ob e).stay (λ c w' hc q=>(hs.2 c ?_).trans q) (λ _ q=>q) λ _ _ q=>q;rintro rfl;rcases hc with rfl|hc
  ·rw[ou]at e;cases e
  ·rw[ou]at hc;cases hc
 rcases hx with hk|hk
 ·show wpAny_storeName_local hk hn (λ h' N_ hs=>?_) xp;let⟨oL,_,_,Tx,_⟩:=id hn;show h _ ⟨I.ok,I.os,I.bare,⟨λ b o e n hb hx=>?_,λ b o e n hb hx=>?_,I.base.free,λ b o e hx=>?_,I.base.tups,I.base.frzs,I.base.tbls⟩,⟨_,N_,λ j y v' e1 e2 e3=>?_⟩,λ y c e=>?_,I.free,I.freeC,λ p hp=>?_,tracked ⟨oL,Tx,I.free⟩ hs,by simpa using I.len⟩ ⟨_,hs,.p Y⟩
  ·show(hs.2 b (ä (é (Ó e) I.ok.above))).trans (I.base.keep b o e n hb hx)
  ·let⟨sl,e1⟩:=I.base.slot b o e n hb hx;show⟨sl,(hs.2 b (ä (é (Ó e) I.ok.above))).trans e1⟩
  ·let⟨o',e1⟩:=I.base.there b o e hx;show⟨o',(hs.2 b (ä (é (Ó e) I.ok.above))).trans e1⟩
  ·by_cases hj:j=i
   ·subst hj;rw[hi]at e1;ext e1;rw[ļ dq]at e2;ext e2;show⟨u,r,.p ⟨hk,JN⟩⟩
   ·rw[Ľ (Ne.symm hj)]at e2;let⟨u',r',q⟩:=hl j y v' e1 e2 e3;show⟨u',r',?_⟩;rcases q with⟨k,e⟩|⟨k,c,e,z⟩
    ·show .p ⟨k,?_⟩;let:y≠x:=λ e=>hj (xP hN e1 (e ▸ hi));simp[this,e]
    ·show .x ⟨k,c,e,z.sameBut hs (Fe y c e)⟩
  ·let⟨w',z⟩:=I.cell y c e;show⟨w',z.sameBut hs (Fe y c e)⟩
  ·let⟨e,n,ne,nf,d⟩:=I.pin p hp;show⟨(hs.2 p.1 ne).trans e,n,ne,nf,d⟩
 ·let vx:X.fn x=true:=by
   rcases hf with z|z
   ·show z
   ·rw[z]at hk;cases hk
  let⟨c,hc⟩:=I.ok.has x (.p hk);let⟨w',z⟩:=I.cell x c hc;show wpAny_storeName_cell I.ok.kind hk hc z (λ h' vy hs=>?_);let⟨oc,xq,Nr⟩:=id z;show h { s with heap:=h' } ⟨I.ok,I.os,I.bare,⟨λ b o e n hb hx=>?_,λ b o e n hb hx=>?_,I.base.free,λ b o e hx=>?_,I.base.tups,I.base.frzs,I.base.tbls⟩,⟨m,hn.sameBut hs (Ne.symm (Fe x c hc)),λ j y v' e1 e2 e3=>?_⟩,λ y c' e=>?_,I.free,I.freeC,λ p hp=>?_,tracked ⟨oc,xq,I.freeC x c hc⟩ hs,by simpa using I.len⟩ ⟨c,hs,.x hc⟩
  ·show(hs.2 b (ä (é (Ó e) (I.ok.cab x c vx hc)))).trans (I.base.keep b o e n hb hx)
  ·let⟨sl,e1⟩:=I.base.slot b o e n hb hx;show⟨sl,(hs.2 b (ä (é (Ó e) (I.ok.cab x c vx hc)))).trans e1⟩
  ·let⟨o',e1⟩:=I.base.there b o e hx;show⟨o',(hs.2 b (ä (é (Ó e) (I.ok.cab x c vx hc)))).trans e1⟩
  ·by_cases hj:j=i
   ·subst hj;rw[hi]at e1;ext e1;rw[ļ dq]at e2;ext e2;show⟨u,r,.x ⟨.p hk,c,hc,vy⟩⟩
   ·rw[Ľ (Ne.symm hj)]at e2;let⟨u',r',q⟩:=hl j y v' e1 e2 e3;show⟨u',r',?_⟩;rcases q with q|⟨k,c',e,z'⟩
    ·show .p q
    ·show .x ⟨k,c',e,z'.sameBut hs ?_⟩;rintro rfl;show hj (xP hN e1 (I.ok.inj _ _ _ e hc ▸ hi))
  ·by_cases Ty:c'=c
   ·subst Ty;show⟨_,vy⟩
   ·let⟨w2,z2⟩:=I.cell y c' e;show⟨w2,z2.sameBut hs Ty⟩
  ·let⟨e,n,ne,nf,d⟩:=I.pin p hp;show⟨(hs.2 p.1 ?_).trans e,n,ne,nf,d⟩;intro q;rw[q,xq]at e;let q':oc=p.2:=ñ e;show d w' (by rw[<- q'];show Nr)
def iG {E:À->Â->Prop}{v:V}{u:À}{Q:Unit->Â->Prop} (I:Inv X gu σ H s) (hN:X.N.Nodup) (hi:X.N[i]?=O x) (hx:WR X.env.scope x) (r:bE v u)
  (h:∀ s',Inv X gu (σ.set i (O v)) H s'->Q () s') (hf:autoParam (X.fn x=EA\/X.env.scope.names.lookup x=O .local) _4):wpAny M A (storeName X.env x u) Q E s:=
 zD I hN hi hx r (λ s' I' _=>h s' I') hf
def Inv.call'  (I:Inv X gu σ H s) (ho:s'.os=s.os) (u:Un (mP X.stack) ch H H' s.heap s'.heap) (hok:pY X.prog X.w H' s'.heap) (hg:AllBare s'.gens)
  (uv:∀ b∈ch,(b∈X.ex\/X.s₀.heap.objs.size<=b)/\b≠X.env.locals/\(∀ x c,X.env.cells.lookup x=O c->c≠b)/\∀ p∈X.pn++gu,p.1≠b):Inv X gu σ H' s':=by
 let⟨h',g',d',t',o'⟩:=s';let e:o'=s.os:=ho;subst e;show I.call (g':=g') (t':=t') (d':=d') u hok hg uv
end
abbrev XK:=À->Option Á->Hp->Prop
abbrev St:=List (Option V)
abbrev VK:=V->Hp->Prop
abbrev TE:=St->Hp->VK->Prop
abbrev TT:=St->Hp->(Bool->Hp->Prop)->Prop
abbrev TA:=St->Hp->(List V->Hp->Prop)->Prop
structure Ends where
 nx:St->Hp->Prop
 rt:VK
 bk:St->Hp->Prop:=λ _ _=>False
 ct:St->Hp->Prop:=λ _ _=>False
abbrev TS:=Ends->St->Hp->Prop
def EP (X:Cx) (gu:List (Á×Obj)) (σ:St) (Q:VK) (u:À) (s':Â):Prop:=∃ v H',Inv X gu σ H' s'/\bE v u/\Q v H'
def TP (X:Cx) (gu:List (Á×Obj)) (σ:St) (Q:Bool->Hp->Prop) (b:Bool) (s':Â):Prop:=∃ H',Inv X gu σ H' s'/\Q b H'
def AP (X:Cx) (gu:List (Á×Obj)) (σ:St) (Q:List V->Hp->Prop) (us:List À) (s':Â):Prop:=∃ vs H',Inv X gu σ H' s'/\bN vs us/\Q vs H'
set_option tactic.hygienic true in
def SP (X:Cx) (gu:List (Á×Obj)) (D:Ends) (f:Flow) (s':Â):Prop:=
 match f with
 |.next=>∃ ac H',Inv X gu ac H' s'/\D.nx ac H'
 |.brk=>∃ ac H',Inv X gu ac H' s'/\D.bk ac H'
 |.cont=>∃ ac H',Inv X gu ac H' s'/\D.ct ac H'
 |.ret u=>∃ v ac H',Inv X gu ac H' s'/\bE v u/\D.rt v H'
def PE (X:Cx) (e:Expr) (t:TE):Prop:=
 ∀(gu:List (Á×Obj)) (s:Â) (σ:St) (H:Hp) (Q:VK),Inv X gu σ H s->t σ H Q->wpAny (model X.prog X.w) X.A (eval e X.env) (EP X gu σ Q) X.xe s
def PT (X:Cx) (e:Expr) (t:TT):Prop:=
 ∀(gu:List (Á×Obj)) (s:Â) (σ:St) (H:Hp) (Q:Bool->Hp->Prop),Inv X gu σ H s->t σ H Q->wpAny (model X.prog X.w) X.A (isTrue e X.env (eval e X.env)) (TP X gu σ Q) X.xe s
def PW (X:Cx) (e:Expr) (t:TT):Prop:=
 ∀(whole:Sem À) (gu:List (Á×Obj)) (s:Â) (σ:St) (H:Hp) (Q:Bool->Hp->Prop),Inv X gu σ H s->t σ H Q->wpAny (model X.prog X.w) X.A (isTrue e X.env whole) (TP X gu σ Q) X.xe s
def PW.pt  (h:PW X e t):PT X e t:=h _
def Ď:=@PW.pt
def PA (X:Cx) (es:List Expr) (t:TA):Prop:=
 ∀(pos:Pos) (gu:List (Á×Obj)) (s:Â) (σ:St) (H:Hp) (Q:List V->Hp->Prop),Inv X gu σ H s->t σ H Q->wpAny (model X.prog X.w) X.A (spliced (backTo pos (starEach es X.env))) (AP X gu σ Q) X.xe s
def PS (X:Cx) (st:Stmt) (t:TS):Prop:=
 ∀(gu:List (Á×Obj)) (s:Â) (σ:St) (H:Hp) (D:Ends),Inv X gu σ H s->t D σ H->wpAny (model X.prog X.w) X.A (exec st X.env) (SP X gu D) X.xe s
def DM (X:Cx) (st:List Stmt) (t:TS):Prop:=
 ∀(gu:List (Á×Obj)) (s:Â) (σ:St) (H:Hp) (D:Ends),Inv X gu σ H s->t D σ H->wpAny (model X.prog X.w) X.A (execs st X.env) (SP X gu D) X.xe s
def dG {ag:Type}{t:Sem ag}{Q Q':ag->Â->Prop}{E:À->Â->Prop}{s:Â} (h:wpAny M A t Q E s) (hQ:∀ a s,Q a s->Q' a s):wpAny M A t Q' E s:=î h hQ λ _ _ x=>x
section
variable {X:Cx}
def eB (i:Nat):TE:=λ σ H Q=>∃ v,σ[i]?=O (O v)/\Q v H
def tC (v:V):TE:=λ _ H Q=>Q v H
def HI {pos:Pos} (hN:X.N[i]?=O x) (hv:Z0 X.env.scope x) (hd:autoParam ((x==("__debug__":Str))=false) _2) (qi:autoParam ((x==("__classdict__":Str))=false) _2):PE X (.C x pos) (eB i):=by
 intro gu s σ H Q I h;let⟨v,e,h⟩:=h;let⟨m,hn,hl⟩:=I.loc;let⟨u,r,l⟩:=hl i x v hN e hv;let fin:EP X gu σ Q u s:=⟨v,H,I,r,h⟩;rcases l with⟨hk,hm⟩|⟨hk,c,hc,mn⟩
 ·show wpAny_Name (wpAny_loadName_local I.ok.kind hk hn hm fin) hd
 ·rcases hk with hk|hk
  ·show wpAny_Name (wpAny_loadName_cell I.ok.kind hk hc mn fin) hd
  ·show wpAny_Name (wpAny_loadName_free I.ok.kind hk hc mn fin qi) hd
def aH {i j pos}:PE X (.rk (.u i) j pos) (tC (.u i)):=λ _ _ _ H _ I h=>wpAny_Constant_int ⟨.u i,H,I.tok _,⟨_,rfl⟩,h⟩
def iL {b j pos}:PE X (.rk (.I b) j pos) (tC (.bl b)):=λ _ _ _ H _ I h=>Constant_bool ⟨.bl b,H,I,rfl,h⟩
def eQ {j pos}:PE X (.rk .none j pos) (tC .non):=λ _ _ _ H _ I h=>Constant_none ⟨.non,H,I,rfl,h⟩
def aL {x j pos}:PE X (.rk (.o x) j pos) (tC (.o x)):=λ _ _ _ H _ I h=>Calls.Constant_str ⟨.o x,H,I.tok _,⟨_,rfl⟩,h⟩
def Gl (X:Cx) (x:Str):Prop:=X.env.kindOf x=O .globalImplicit
def kW {E:À->Â->Prop}{σ:St}{x:Str}{u:À}{pos:Pos}{Q:À->Â->Prop} (I:Inv X gu σ H s) (hg:Gl X x) (hm:X.mg x=O u) (h:Q u s)
  (hd:autoParam ((x==("__debug__":Str))=false) _2):wpAny (model X.prog X.w) X.A (eval (.C x pos) X.env) Q E s:=
 Calls.Name_function_global I.ok.kind hg (Calls.loadGlobal_global (by rw[I.ok.glob];show I.mod.glob.keeps I.bk) hm h) hd
def qL {E:À->Â->Prop}{σ:St}{x:Str}{u:À}{pos:Pos}{Q:À->Â->Prop} (I:Inv X gu σ H s) (hg:Gl X x) (hm:X.mg x=W) (hv:bootBuiltins x=O u) (h:Q u s)
  (hn:autoParam (x ≠ "__name__") _2) (hd:autoParam ((x==("__debug__":Str))=false) _2):wpAny (model X.prog X.w) X.A (eval (.C x pos) X.env) Q E s:=by
 let⟨mb,h1,h2⟩:=I.mod.blt;show Calls.Name_function_global I.ok.kind hg (Calls.loadGlobal_builtin (by rw[I.ok.glob];show I.mod.glob.keeps I.bk) hm (by rw[I.ok.blt];show h1.keeps I.bk) ((h2 x hn).trans hv) h) hd
def U8  (hg:Gl X x) (hm:X.mg x=O u) (r:bE v u) (hd:autoParam ((x==("__debug__":Str))=false) _2):PE X (.C x pos) (tC v):=
 λ _ _ _ H _ I h=>kW I hg hm ⟨v,H,I,r,h⟩ hd
def jB {u:À}{pos:Pos} (hg:Gl X x) (hm:X.mg x=W) (hv:bootBuiltins x=O u) (r:bE v u) (hn:autoParam (x ≠ "__name__") _2) (hd:autoParam ((x==("__debug__":Str))=false) _2):PE X (.C x pos) (tC v):=
 λ _ _ _ H _ I h=>qL I hg hm hv ⟨v,H,I,r,h⟩ hn hd
variable {a b:Expr}{ta tb:TE}{pos:Pos}
def tB (t:TE):TT:=λ σ H Q=>t σ H λ x H1=>∃ c,x=.bl c/\Q c H1
def dI {e:Expr}{t:TE} (h:PE X e t) (he:autoParam (∀ whole,isTrue e X.env whole=(do let v <- whole;standAt e.pos;holding [v] (truthy v))) _6):PT X e (tB t):=by
 intro gu s σ H Q I hw;show isTrue_plain (dG (h gu s σ H _ I hw) λ v s1 ⟨x,H1,I1,r1,q1⟩=>?_) (he _);let⟨d,Y,q⟩:=q1;ext r1;show ħ ⟨H1,I1,q⟩
def ZJ (t u:TT):TT:=λ σ H Q=>t σ H λ c H1=>if c=EA then u σ H1 Q else Q JJ H1
def tOr (t u:TT):TT:=λ σ H Q=>t σ H λ c H1=>if c=EA then Q EA H1 else u σ H1 Q
def tNot (t:TT):TT:=λ σ H Q=>t σ H λ c H1=>Q (!c) H1
def mJ (ha:PT X a tA):PW X (.rz .And [a] pos) tA:=by
 intro wh gu s σ H Q I h;show isTrue_and (dG (ha gu s σ H Q I h) λ c s1 e=>?_);cases c with
 |true=>show isTrue_and_nil e
 |false=>show e
def qD (ha:PT X a tA):PW X (.rz .Or [a] pos) tA:=by
 intro wh gu s σ H Q I h;show isTrue_or (dG (ha gu s σ H Q I h) λ c s1 e=>?_);cases c with
 |false=>show isTrue_or_nil e
 |true=>show e
def qE (ha:PT X a tA) (hb:PW X (.rz .And (b::js) pos) Ky):PW X (.rz .And (a::b::js) pos) (ZJ tA Ky):=by
 intro wh gu s σ H Q I h;show isTrue_and (dG (ha gu s σ H _ I h) λ c s1 ⟨H1,I1,q1⟩=>?_);cases c with
 |true=>show hb wh gu s1 σ H1 Q I1 q1
 |false=>show⟨H1,I1,q1⟩
def uF (ha:PT X a tA) (hb:PW X (.rz .Or (b::js) pos) Ky):PW X (.rz .Or (a::b::js) pos) (tOr tA Ky):=by
 intro wh gu s σ H Q I h;show isTrue_or (dG (ha gu s σ H _ I h) λ c s1 ⟨H1,I1,q1⟩=>?_);cases c with
 |true=>show⟨H1,I1,q1⟩
 |false=>show hb wh gu s1 σ H1 Q I1 q1
def fC (ha:PT X a tA):PT X (.UnaryOp .Not a pos) (tNot tA):=by
 intro gu s σ H Q I h;show isTrue_not (ha gu s σ H (λ c H1=>Q (!c) H1) I h)
def ZI (ta tb:TE):TE:=λ σ H Q=>ta σ H λ x H1=>∃ c,x=.bl c/\if c=EA then tb σ H1 Q else Q (.bl JJ) H1
def tOrV (ta tb:TE):TE:=λ σ H Q=>ta σ H λ x H1=>∃ c,x=.bl c/\if c=EA then Q (.bl EA) H1 else tb σ H1 Q
def VS (ta:TE):TE:=λ σ H Q=>ta σ H λ x H1=>∃ c,x=.bl c/\Q (.bl (!c)) H1
def iJ {op} (h:PE X a t):PE X (.rz op [a] pos) t:=λ gu s σ H Q I hw=>BoolOp_one (h gu s σ H Q I hw)
def i5 (ha:PE X a ta) (hb:PE X (.rz .And (b::js) pos) tb):PE X (.rz .And (a::b::js) pos) (ZI ta tb):=by
 intro gu s σ H Q I h;show BoolOp_and (dG (ha gu s σ H _ I h) λ v s1 ⟨x,H1,I1,r1,q1⟩=>?_);let⟨c,Y,q1⟩:=q1;ext r1;show ħ ?_;cases c with
 |true=>show hb gu s1 σ H1 Q I1 q1
 |false=>show⟨.bl JJ,H1,I1,Y,q1⟩
def P6 (ha:PE X a ta) (hb:PE X (.rz .Or (b::js) pos) tb):PE X (.rz .Or (a::b::js) pos) (tOrV ta tb):=by
 intro gu s σ H Q I h;show BoolOp_or (dG (ha gu s σ H _ I h) λ v s1 ⟨x,H1,I1,r1,q1⟩=>?_);let⟨c,Y,q1⟩:=q1;ext r1;show ħ ?_;cases c with
 |false=>show hb gu s1 σ H1 Q I1 q1
 |true=>show⟨.bl EA,H1,I1,Y,q1⟩
def BM (ha:PE X a ta):PE X (.UnaryOp .Not a pos) (VS ta):=by
 intro gu s σ H Q I h;show UnaryOp_ (dG (ha gu s σ H _ I h) λ v s1 ⟨x,H1,I1,r1,q1⟩=>?_);let⟨c,Y,q1⟩:=q1;ext r1;show not_of (ħ ⟨.bl (!c),H1,I1,Y,q1⟩)
def tIf (t:TT) (ta tb:TE):TE:=λ σ H Q=>t σ H λ c H1=>if c=EA then ta σ H1 Q else tb σ H1 Q
def iK  (hc:PT X c tA) (ha:PE X a ta) (hb:PE X b tb):PE X (.IfExp c a b pos) (tIf tA ta tb):=by
 intro gu s σ H Q I h;show wpAny_IfExp (dG (hc gu s σ H _ I h) λ d s1 ⟨H1,I1,q1⟩=>?_);cases d with
 |true=>show ha gu s1 σ H1 Q I1 q1
 |false=>show hb gu s1 σ H1 Q I1 q1
end
def bC (K:Ç) (H:Hp) (a:Á) (xs:List V):Prop:=
 Rd H a (.j xs)\/
  ∃(o:Obj) (its:Array À) (n:Nat),K.lookup a=O o/\o.cls=.q "list" /\ o.dict=W/\o.data=.V its n/\its.S<=sizeLine/\bN xs its.toList
def bH (K:Ç) (H:Hp) (a:Á) (xs:List V):Prop:=
 Rd H a (.v xs)\/
  ∃(o:Obj) (its:Array À) (n:Nat),K.lookup a=O o/\o.cls=.q "tuple" /\ o.data=.V its n/\its.S<=sizeLine/\bN xs its.toList
def absV:À->Option V
 |.none=>O .non
 |.bool b=>O (.bl b)
 |.int i _=>O (.u i)
 |.str x _=>O (.o x)
 |.bytes b _=>O (.byt b)
 |.float b _=>O (.flt b)
 |.ref a=>O (.y a)
 |.type n=>O (.ty n)
 |_=>W
def bE.abs  (r:bE x u):absV u=O x:=by
 cases x with
 |non=>ext r;rfl
 |bl _=>ext r;rfl
 |int _=>let⟨t,Y⟩:=r;rfl
 |str _=>let⟨t,Y⟩:=r;rfl
 |byt _=>let⟨t,Y⟩:=r;rfl
 |flt _=>let⟨t,Y⟩:=r;rfl
 |ref _=>ext r;rfl
 |ty _=>ext r;rfl
def bE.inj  (r:bE x u) (q:bE y u):x=y:=ñ (r.abs.symm.trans q.abs)
def bN.inj:∀ {xs ys:List V}{us:List À},bN xs us->bN ys us->xs=ys
 |_,_,_,.nil,.nil=>rfl
 |_,_,_,.cons r t,.cons r' t'=>by rw[r.inj r',bN.inj t t']
section
variable {X:Cx}{gu:List (Á×Obj)}{σ:St}{H:Hp}{s:Â}{a:Á}{xs ys:List V}
def bC.of  (h:H a=O (.j xs)):bC K H a xs:=.p (.p h)
def É:=@bC.of
def bH.of  (h:H a=O (.v xs)):bH K H a xs:=.p (.p h)
def Ï:=@bH.of
def Inv.list (I:Inv X gu σ H s) (h:bC X.K H a xs):∃ its:List À,bN xs its/\PlainL s.heap a its.J/\xs.Z<=sizeLine:=by
 rcases h with h|⟨o,its,n,hk,hc,hd,hs,hz,r⟩
 ·let⟨z,its,n,r,e⟩:=h.ok I.hok;show⟨its,r,⟨_,n,e,Y,Y,Y⟩,z⟩
 ·show⟨its.toList,r,⟨o,n,I.kIn a o hk,hc,hd,by simpa using hs⟩,?_⟩;let e:=r.Z;simp only[afk]at e;lia
def Inv.tuple (I:Inv X gu σ H s) (h:bH X.K H a xs):∃ its:List À,bN xs its/\IsTup s.heap a its.J/\xs.Z<=sizeLine:=by
 rcases h with h|⟨o,its,n,hk,hc,hs,hz,r⟩
 ·let⟨z,its,r,p⟩:=h.ok I.hok;show⟨its,r,p,z⟩
 ·show⟨its.toList,r,⟨o,I.kIn a o hk,hc,n,by simpa using hs⟩,?_⟩;let e:=r.Z;simp only[afk]at e;lia
def Inv.list_inj (I:Inv X gu σ H s) (h:bC X.K H a xs) (h':bC X.K H a ys):xs=ys:=by
 let⟨its,r,⟨o,n,e,_,_,d⟩,_⟩:=I.list h;let⟨its',r',⟨o',n',e',_,_,d'⟩,_⟩:=I.list h';rw[e]at e';ext e';rw[d]at d';injection d' with d1 _;let:its=its':=by simpa using congrArg Array.toList d1
 subst this;show r.inj r'
def Inv.tuple_inj (I:Inv X gu σ H s) (h:bH X.K H a xs) (h':bH X.K H a ys):xs=ys:=by
 let⟨its,r,⟨o,e,_,n,d⟩,_⟩:=I.tuple h;let⟨its',r',⟨o',e',_,n',d'⟩,_⟩:=I.tuple h';rw[e]at e';ext e';rw[d]at d';injection d' with d1 _;let:its=its':=by simpa using congrArg Array.toList d1
 subst this;show r.inj r'
end
abbrev Cx.wish (X:Cx) (E:À->Â->Prop):Cx:={ X with xe:=E }
abbrev Cx.nox (X:Cx):Cx:=X.wish λ _ _=>False
def Cx.Ok.wish {X:Cx} (ok:X.Ok) (E:À->Â->Prop):(X.wish E).Ok:=
 ⟨ok.mod,ok.kind,ok.glob,ok.blt,ok.above,ok.inj,ok.has,ok.cab,ok.hd,ok.frames,ok.stk,ok.exf,ok.bs,ok.bsz,ok.noex,ok.exfs,ok.funs,ok.frf⟩
def Cx.Ok.unwish {X:Cx} (ok:(X.wish E).Ok):X.Ok:=
 ⟨ok.mod,ok.kind,ok.glob,ok.blt,ok.above,ok.inj,ok.has,ok.cab,ok.hd,ok.frames,ok.stk,ok.exf,ok.bs,ok.bsz,ok.noex,ok.exfs,ok.funs,ok.frf⟩
section
variable {X:Cx}{gu:List (Á×Obj)}{σ:St}{H:Hp}{s:Â}{E:À->Â->Prop}
def Inv.wish (I:Inv X gu σ H s) (E:À->Â->Prop):Inv (X.wish E) gu σ H s:=⟨I.ok.wish E,I.os,I.bare,I.base,I.loc,I.cell,I.free,I.freeC,I.pin,I.hok,I.len⟩
def Inv.unwish (I:Inv (X.wish E) gu σ H s):Inv X gu σ H s:=⟨I.ok.unwish,I.os,I.bare,I.base,I.loc,I.cell,I.free,I.freeC,I.pin,I.hok,I.len⟩
set_option tactic.hygienic true in
def SP.unwish  (h:SP (X.wish E) gu D f s'):SP X gu D f s':=by
 cases f with
 |next=>let⟨ac,H',I,q⟩:=h;show⟨ac,H',I.unwish,q⟩
 |brk=>let⟨ac,H',I,q⟩:=h;show⟨ac,H',I.unwish,q⟩
 |cont=>let⟨ac,H',I,q⟩:=h;show⟨ac,H',I.unwish,q⟩
 |ret u=>let⟨v,ac,H',I,r,q⟩:=h;show⟨v,ac,H',I.unwish,r,q⟩
def DM.nox {st:List Stmt} (h:DM X.nox st t):DM X st t:=λ gu s σ H D I hw=>
 î (h gu s σ H D (I.wish _) hw) (λ _ _ q=>q.unwish) λ _ _ z=>False.elim z
end
section
variable {X:Cx}{st:Stmt}{js:List Stmt}{t u:TS}{e:Expr}{te:TE}{pos:Pos}
def eD:TS:=λ D σ H=>D.nx σ H
def jG (t u:TS):TS:=λ D σ H=>t { D with nx:=u D } σ H
def ĸ{t u:TS}{E:Ends}(w:let D:Ends:={E with nx:=u E};(let s:=σ;t D s H)):jG t u E σ H:=w
def aS:DM X [] eD:=λ _ _ σ H _ I h=>ų ⟨σ,H,I,h⟩
set_option tactic.hygienic true in
def aE (h1:PS X st t) (h2:DM X js u):DM X (st::js) (jG t u):=by
 intro gu s σ H D I h;show wpAny_execs_cons (dG (h1 gu s σ H { D with nx:=u D } I h) λ f s1 q=>?_);cases f with
 |next=>
  let⟨ac,H',I',q⟩:=q;show h2 gu s1 ac H' D I' q
 |ret v=>show q
 |brk=>show q
 |cont=>show q
set_option tactic.hygienic true in
def aG (h1:PS X st t):DM X [st] t:=by
 intro gu s σ H D I h;show wpAny_execs_cons (dG (h1 gu s σ H D I h) λ f s1 q=>?_);cases f with
 |next=>show ų q
 |ret v=>show q
 |brk=>show q
 |cont=>show q
def Inv.quiet {σ:St} (I:Inv X gu σ H s):interactive X.env=false:=by simp[interactive,I.ok.kind]
def ZF (te:TE):TS:=λ D σ H=>te σ H λ _ H1=>D.nx σ H1
def bL (he:PE X e te) (hs:autoParam (swapsWith e W pos.line X.env=pure false) _0):PS X (.Expr e pos) (ZF te):=by
 intro gu s σ H D I h;show wpAny_Expr_any (dG (he gu s σ H _ I h) λ v s1 ⟨x,H1,I1,r1,q1⟩=>⟨σ,H1,I1,q1⟩) I.quiet hs
def ZA (te:TE):TS:=λ D σ H=>te σ H D.rt
def aO (he:PE X e te):PS X (.Return (O e) pos) (ZA te):=by
 intro gu s σ H D I h;show wpAny_Return_some (dG (he gu s σ H _ I h) λ v s1 ⟨x,H1,I1,r1,q1⟩=>⟨x,σ,H1,I1,r1,q1⟩)
def NZ (c:TT) (t u:TS):TS:=λ D σ H=>c σ H λ b H1=>if b=EA then t D σ H1 else u D σ H1
def bK  (hc:PT X c tc) (ha:DM X a t) (hb:DM X b u):PS X (.If c a b pos) (NZ tc t u):=by
 intro gu s σ H D I h;show wpAny_If (dG (hc gu s σ H _ I h) λ d s1 ⟨H1,I1,q1⟩=>?_);cases d with
 |true=>show ha gu s1 σ H1 D I1 q1
 |false=>show hb gu s1 σ H1 D I1 q1
end
abbrev TG:=V->St->Hp->(St->Hp->Prop)->Prop
abbrev L8:=List V->St->Hp->(St->Hp->Prop)->Prop
def PG (X:Cx) (target:Expr) (t:TG):Prop:=
 ∀(gu:List (Á×Obj)) (s:Â) (σ:St) (H:Hp) (v:V) (u:À) (Q:St->Hp->Prop),Inv X gu σ H s->bE v u->t v σ H Q->
  wpAny (model X.prog X.w) X.A (assign target X.env u) (λ _ s'=>∃ ac H',Inv X gu ac H' s'/\Q ac H') X.xe s
def SS (X:Cx) (ts:List Expr) (t:L8):Prop:=
 ∀(gu:List (Á×Obj)) (s:Â) (σ:St) (H:Hp) (vs:List V) (us:List À) (Q:St->Hp->Prop),Inv X gu σ H s->bN vs us->t vs σ H Q->
  wpAny (model X.prog X.w) X.A (assignInOrder ((assignEach ts X.env).map (·.2)) us) (λ _ s'=>∃ ac H',Inv X gu ac H' s'/\Q ac H') X.xe s
abbrev SE:=V->V->V->Hp->(Hp->Prop)->Prop
def YR (X:Cx) (t:SE):Prop:=
 ∀(gu:List (Á×Obj)) (s:Â) (σ:St) (H:Hp) (o i v:V) (ov iv u:À) (Q:Hp->Prop),Inv X gu σ H s->bE o ov->bE i iv->bE v u->t o i v H Q->
  wpAny (model X.prog X.w) X.A (setItem ov iv u) (λ _ s'=>∃ H',Inv X gu σ H' s'/\Q H') X.xe s
abbrev Z1:=V->V->Hp->VK->Prop
def PIp (X:Cx) (op:Operator) (t:Z1):Prop:=
 ∀(gu:List (Á×Obj)) (s:Â) (σ:St) (H:Hp) (x y:V) (v u:À) (Q:VK),Inv X gu σ H s->bE x v->bE y u->t x y H Q->
  wpAny (model X.prog X.w) X.A (inplaceOp op v u) (EP X gu σ Q) X.xe s
section
variable {X:Cx}{pos:Pos}
def cZ (i:Nat):TG:=λ v σ H Q=>Q (σ.set i (O v)) H
def mK  (hN:X.N.Nodup) (hi:X.N[i]?=O x) (hx:WR X.env.scope x) (hf:autoParam (X.fn x=EA\/X.env.scope.names.lookup x=O .local) _4):PG X (.C x pos) (cZ i):=by
 intro gu s σ H v u Q I r h;show wpAny_assign_Name (iG I hN hi hx r (λ s' I'=>⟨_,H,I',h⟩) hf)
def gNil:L8:=λ vs σ H Q=>vs=[]/\Q σ H
def WJ (t:TG) (u:L8):L8:=λ vs σ H Q=>∃ v r,vs=v::r/\t v σ H λ ac H'=>u r ac H' Q
def aQ:SS X [] gNil:=by
 intro gu s σ H vs us Q I r h;let⟨e,h⟩:=h;subst e;ext r;show assignInOrder_nil ⟨σ,H,I,h⟩
def aF {e:Expr}{es:List Expr}{t:TG}{u:L8} (h1:PG X e t) (h2:SS X es u)
  (hs:autoParam ((assignEach (e::es) X.env).map (·.2)=assign e X.env::(assignEach es X.env).map (·.2)) _0):SS X (e::es) (WJ t u):=by
 intro gu s σ H vs us Q I r h;let⟨v,vr,e1,h⟩:=h;subst e1;cases r with
 |cons r rr=>
  rw[hs];show ĳ (dG (h1 gu s σ H _ _ _ I r h) λ _ s1 ⟨cu,H1,I1,q1⟩=>?_);show h2 gu s1 cu H1 _ _ Q I1 rr q1
def gTup (K:Ç) (n:Nat) (t:L8):TG:=λ v σ H Q=>∃ a xs,v=.y a/\bH K H a xs/\xs.Z=n/\t xs σ H Q
def XR {es:List Expr}{k:Nat}{t:L8}{n:Nat} (hc:X.calm=EA) (h:SS X es t)
  (hn:autoParam ((assignEach es X.env).length=n) _0) (rj:autoParam ((assignEach es X.env).findIdx? (·.1)=none) _0):PG X (.rq es k pos) (gTup X.K n t):=by
 intro gu s σ H v u Q I r hw;let⟨a,xs,e1,hq,hl,hw⟩:=hw;subst e1;ext r;let⟨its,rv,ht,hz⟩:=I.tuple hq;show assign_Tuple_tuple (I.ok.hd hc) ht (by simp[hn,<- hl,rv.Z]) rj λ h' hx=>?_;let I1:Inv X gu σ H { s with heap:=h' }:=I.kept (t':=s.M) λ b o e=>hx b o (ä (Ó e)) e;show h gu _ σ H xs _ Q I1 (by simpa using rv) hw
def RJ (to ti:TE) (t:SE):TG:=λ v σ H Q=>to σ H λ o H1=>ti σ H1 λ i H2=>t o i v H2 λ H3=>Q σ H3
def tF {o i:Expr}{to ti:TE}{t:SE} (ho:PE X o to) (hi:PE X i ti) (hs:YR X t)
  (ha:autoParam (∀ v,assign (.Y o i pos) X.env v=(do
   let ov <- holding [v] (eval o X.env);let iv <- holding [v,ov] (eval i X.env)
   standAt pos
   holding [v,ov,iv] (setItem ov iv v)
   release [v,ov,iv] [])) _6):PG X (.Y o i pos) (RJ to ti t):=by
 intro gu s σ H v u Q I r h;rw[ha];show Æ (ó (dG (ho gu s σ H _ I h) λ ov s1 ⟨x,H1,I1,r1,q1⟩=>?_));show Æ (ó (dG (hi gu s1 σ H1 _ I1 q1) λ iv s2 ⟨y,H2,I2,r2,q2⟩=>?_));show Æ (ĺ (Æ (ó (dG (hs gu s2 σ H2 x y v ov iv u _ I2 r1 r2 r q2) λ _ s3 ⟨H3,I3,q3⟩=>?_))));show wpAny_release ⟨σ,H3,I3,q3⟩
def pD (te:TE) (g:TG):TS:=λ D σ H=>te σ H λ x H1=>g x σ H1 D.nx
def bF {tg e:Expr}{te:TE}{g:TG} (he:PE X e te) (hg:PG X tg g) (hs:autoParam (swapsWithSole [tg] e pos.line X.env=pure false) _0) (hw:autoParam (swappedStores [tg] e X.env=pure none) _0)
  (h1:autoParam ((assignEach [tg] X.env).map (·.2)=[assign tg X.env]) _0):PS X (.Assign [tg] e pos) (pD te g):=by
 intro gu s σ H D I h;show wpAny_Assign_stores (dG (he gu s σ H _ I h) λ v s1 ⟨x,H1,I1,r1,q1⟩=>?_) hs hw;rw[h1];show dG (hg gu s1 σ H1 x v _ I1 r1 q1) λ _ s2 q=>q
def wQ  (hN:X.N.Nodup) (hi:X.N[i]?=O x) (hx:WR X.env.scope x) (he:PE X e te) (hs:autoParam (swapsWith e (O (.C x pos')) pos.line X.env=pure false) _0) (hf:autoParam (X.fn x=EA\/X.env.scope.names.lookup x=O .local) _4) :
  PS X (.Assign [.C x pos'] e pos) (pD te (cZ i)):=by
 intro gu s σ H D I h;show wpAny_Assign_Name (dG (he gu s σ H _ I h) λ v s1 ⟨y,H1,I1,r1,q1⟩=>?_) hs;show iG I1 hN hi hx r1 (λ s2 I2=>⟨_,H1,I2,q1⟩) hf
def tPar (i j:Nat) (ta:TA):TS:=λ D σ H=>ta σ H λ vs H1=>∃ v w,vs=[v,w]/\D.nx ((σ.set i (O v)).set j (O w)) H1
set_option tactic.hygienic true in
def BG {kt k2 pt2} (hc:X.calm=EA) (hN:X.N.Nodup) (hi:X.N[i]?=O x) (hj:X.N[j]?=O y) (Ff:i≠j)
  (hx:X.env.scope.names.lookup x=O .local) (hy:X.env.scope.names.lookup y=O .local) (ha:PA X [a,b] ta)
  (hw:swappedStores [.rq [.C x px,.C y py] kt pt] (.rq [a,b] k2 pt2) X.env=pure (O [x,y]))
  (hs:autoParam (swapsWithSole [.rq [.C x px,.C y py] kt pt] (.rq [a,b] k2 pt2) pos.line X.env=pure false) _0) :
  PS X (.Assign [.rq [.C x px,.C y py] kt pt] (.rq [a,b] k2 pt2) pos) (tPar i j ta):=by
 intro gu s σ H D I h;rw[exec_Assign_arm];show Æ (ĺ ?_);rw[hs];show Æ (Ë ?_);rw[Ä JL];show Æ (Tuple_ (dG (ha _ gu s σ H _ I h) λ us s1 ⟨vs,H1,I1,r1,q1⟩=>?_));let⟨v,w,e1,q1⟩:=q1;subst e1;obtain⟨u1,u2,rfl,rv,uw⟩:∃ u1 u2,us=[u1,u2]/\bE v u1/\bE w u2:=by
  cases r1 with
  |cons p q=>
   cases q with
   |cons p' q'=>
    ext q';show⟨_,_,Y,p,p'⟩
 show Ģ ?_ (by change 2<=sizeLine;decide);let I2:Inv X gu σ H1 { s1 with heap:=s1.heap.push { cls:=.q "tuple",data:=.V [u1,u2].toArray } }:=I1.kept (t':=s1.M) λ b o e=>Î _ e;rw[hw];show Æ (Ë ?_);change wpAny (model X.prog X.w) X.A (do rule "assign.swapped-stores";let items <- unpackItems (.y s1.L) 2 W;assignInOrder [λ v=>bindName X.env y v,λ v=>bindName X.env x v] items.reverse;pure Flow.next) _ _ _;show Æ (Ė (Æ (unpackItems_tuple (items:=#[u1,u2]) (I.ok.hd hc) (IsTup.new s1.heap _) λ h' xt=>?_)));let I3:=I2.kept (h':=h') (t':=s1.M) λ b o e=>xt b o (ä (Ó e)) e;change wpAny _ _ (assignInOrder [λ v=>bindName X.env y v,λ v=>bindName X.env x v] [u2,u1] >>= λ _=>pure Flow.next) _ _ _;show Æ (ĳ (Ņ (iG I3 hN hj (.p hy) uw (λ s2 I4=>?_) (.x hy))));show ĳ (Ņ (iG I4 hN hi (.p hx) rv (λ s3 I5=>assignInOrder_nil (Ë ?_)) (.x hx)));rw[Ŷ _ _ (Ne.symm Ff)]at I5;show⟨_,H1,I5,q1⟩
def tAug (i:Nat) (te:TE) (ti:Z1):TS:=λ D σ H=>∃ x,σ[i]?=O (O x)/\te σ H λ y H1=>ti x y H1 λ z H2=>D.nx (σ.set i (O z)) H2
set_option tactic.hygienic true in
def HF  (hN:X.N.Nodup) (hi:X.N[i]?=O x) (hx:WR X.env.scope x) (he:PE X e te) (ho:PIp X op ti) (hf:autoParam (X.fn x=EA\/X.env.scope.names.lookup x=O .local) _4) :
  PS X (.AugAssign (.C x pos') op e pos) (tAug i te ti):=by
 intro gu s σ H D I h;let⟨v,e1,h⟩:=h;let⟨m,hn,hl⟩:=I.loc;let O_:Z0 X.env.scope x:=by rcases hx with k|k;show .p k;show .x (.p k)
 let⟨u,r,l⟩:=hl i x v hi e1 O_;show wpAny_AugAssign_Name ?_;let go:wpAny (model X.prog X.w) X.A (eval e X.env) (λ w bx=>wpAny (model X.prog X.w) X.A (inplaceOp op u w) (λ r bz=>wpAny (model X.prog X.w) X.A (storeName X.env x r) (λ _=>SP X gu D .next) X.xe bz) X.xe bx) X.xe s:=by
  show dG (he gu s σ H _ I h) λ w s1 ⟨y,H1,I1,r1,q1⟩=>?_;show dG (ho gu s1 σ H1 v y u w _ I1 r r1 q1) λ z s2 ⟨zv,H2,I2,r2,q2⟩=>?_;show iG I2 hN hi hx r2 (λ s3 I3=>⟨_,H2,I3,q2⟩) hf
 rcases l with⟨hk,hm⟩|⟨hk,c,hc,mn⟩
 ·show wpAny_loadName_local I.ok.kind hk hn hm go
 ·rcases hk with hk|hk
  ·show wpAny_loadName_cell I.ok.kind hk hc mn go
  ·rcases hx with k|k
   ·let:X.env.scope.names.lookup x=O .free:=hk;rw[k]at this;cases this
   ·let:X.env.scope.names.lookup x=O .free:=hk;rw[k]at this;cases this
def ZG (to ti te:TE) (Ap:V->V->Hp->VK->Prop) (tip:Z1) (Aq:SE):TS:=λ D σ H=>to σ H λ o H1=>ti σ H1 λ i H2=>Ap o i H2 λ x H3=>te σ H3 λ y H4=>tip x y H4 λ z H5=>Aq o i z H5 λ H6=>D.nx σ H6
def YS (X:Cx) (t:V->V->Hp->VK->Prop):Prop:=
 ∀(gu:List (Á×Obj)) (s:Â) (σ:St) (H:Hp) (o i:V) (ov iv:À) (Q:VK),Inv X gu σ H s->bE o ov->bE i iv->t o i H Q->
  wpAny (model X.prog X.w) X.A (getItem ov iv) (EP X gu σ Q) X.xe s
set_option tactic.hygienic true in
def JT {o i e:Expr}{to ti te:TE}{Ap:V->V->Hp->VK->Prop}{tip:Z1}{Aq:SE}{op:Operator}{Cq:Pos} (ho:PE X o to) (hi:PE X i ti) (hg:YS X Ap) (he:PE X e te) (hp:PIp X op tip) (hs:YR X Aq)
  (ha:∀ ov iv new,augStore i ov iv new=(do holding [new,ov,iv] (setItem ov iv new);release [new,ov,iv] [];pure .next):=by intros;with_unfolding_all rfl):PS X (.AugAssign (.Y o i Cq) op e pos) (ZG to ti te Ap tip Aq):=by
 intro gu s σ H D I h;show wpAny_AugAssign_SubscriptAny (dG (ho gu s σ H _ I h) λ ov s1 ⟨x1,H1,I1,r1,q1⟩=>?_) ha;show dG (hi gu s1 σ H1 _ I1 q1) λ iv s2 ⟨x2,H2,I2,r2,q2⟩=>?_;show dG (hg gu s2 σ H2 x1 x2 ov iv _ I2 r1 r2 q2) λ lj s3 ⟨x3,H3,I3,r3,q3⟩=>?_;show dG (he gu s3 σ H3 _ I3 q3) λ v s4 ⟨x4,H4,I4,r4,q4⟩=>?_;show dG (hp gu s4 σ H4 x3 x4 lj v _ I4 r3 r4 q4) λ new s5 ⟨x5,H5,I5,r5,q5⟩=>?_;show dG (hs gu s5 σ H5 x1 x2 x5 ov iv new _ I5 r1 r2 r5 q5) λ _ s6 ⟨H6,I6,q6⟩=>⟨σ,H6,I6,q6⟩
def ipI (f:Int->Int->Int):Z1:=λ x y H Q=>∃ i j,x=.u i/\y=.u j/\Q (.u (f i j)) H
def CZ:PIp X .Add (ipI λ i j=>i+j):=by
 intro gu s σ H x y v u Q I r1 r2 h;let⟨i,j,e1,e2,q⟩:=h;subst e1;subst e2;let⟨t,Y⟩:=r1;let⟨t',Y⟩:=r2;show iadd_int ⟨.u _,H,I.tok _,⟨_,Y⟩,q⟩
def YC:PIp X .Sub (ipI λ i j=>i - j):=by
 intro gu s σ H x y v u Q I r1 r2 h;let⟨i,j,e1,e2,q⟩:=h;subst e1;subst e2;let⟨t,Y⟩:=r1;let⟨t',Y⟩:=r2;show isub_int ⟨.u _,H,I.tok _,⟨_,Y⟩,q⟩
def WX (c:TT) (tb:TS):TS:=λ D σ H=>∃ E9:Nat->St->Hp->Prop,(∃ m,E9 m σ H)/\∀ m σ H,E9 m σ H->
 c σ H λ b H1=>if b=EA then ∃ N:St->Hp->Prop,(∀ ac H',N ac H'->∃ m',m' < m/\E9 m' ac H')/\tb { D with nx:=N,ct:=N,bk:=D.nx } σ H1 else D.nx σ H1
set_option tactic.hygienic true in
def OZ  (hp:PassesOwn (model X.prog X.w) X.A X.env X.xe) (hc:PT X c tc) (hb:DM X body tb):PS X (.While c body [] pos) (WX tc tb):=by
 intro gu s σ H D I h;let⟨E9,⟨m0,w0⟩,turn⟩:=h;show wpAny_While (codeAny_whileLoop (λ n s'=>∃ ac H',Inv X gu ac H' s'/\E9 n ac H') ?_ m0 ⟨σ,H,I,w0⟩);rintro n s1 zQ;let⟨cu,H1,I1,w1⟩:=zQ;show Ķ hp (dG (hc gu s1 cu H1 _ I1 (turn n cu H1 w1)) λ b s2 ⟨H2,I2,q2⟩=>?_);cases b with
 |true=>
  let⟨N,hN,q2⟩:=q2;rw[Å rfl];show Ķ hp (dG (hb gu s2 cu H2 _ I2 q2) λ f s3 q3=>?_);cases f with
  |next=>
   let⟨aq,H3,I3,n3⟩:=q3;let⟨m',hm,w3⟩:=hN aq H3 n3;show⟨m',hm,aq,H3,I3,w3⟩
  |cont=>
   let⟨aq,H3,I3,n3⟩:=q3;let⟨m',hm,w3⟩:=hN aq H3 n3;show⟨m',hm,aq,H3,I3,w3⟩
  |brk=>show q3
  |ret v=>show q3
 |false=>
  rw[Ä â];show ų ⟨cu,H2,I2,q2⟩
end
structure It where
 go:Nat->Hp->Prop
 yld:Nat->Hp->V->Hp->Prop
 stop:Nat->Hp->Prop
def qQ (X:Cx) (gu:List (Á×Obj)) (H:Hp) (b:Á):Prop:=
 H b=W/\b≠X.env.locals/\b∉X.fs/\(b∈X.ex\/X.s₀.heap.objs.size<=b)/\(∀ x c,X.env.cells.lookup x=O c->c≠b)/\∀ p∈X.pn++gu,p.1≠b
def Inv.fpOk {σ:St}{b:Á} (I:Inv X gu σ H s) (hb:s.L<=b) (hn:H' b=W):qQ X gu H' b:=by
 show⟨hn,Nat.ne_of_gt (é I.lt hb),I.nofs hb,.x (ï I.sz hb),λ x c e z=>?_,λ p hp z=>?_⟩
 ·let⟨v,q⟩:=I.cell x c e;show absurd (é q.lt (by rw[z];show hb)) (Ċ _)
 ·show absurd (é (Ó (I.pin p hp).1) (by rw[z];show hb)) (Ċ _)
structure Turn (P:Ã) (w:World) (K:Ç) (tg:Expr) (J:It) (fp:List Á) (it:Á) (tn:Nat->Heap->Prop):Prop where
 mem:it∈fp
 obj:∀ i h,tn i h->∀ b∈fp,∃ o,h.get? b=O o/\∀ v,o.data≠.cell v
 keep:∀ i h h',tn i h->(∀ b∈fp,∀ o,h.get? b=O o->h'.get? b=O o)->tn i h'
 item:∀(X:Cx),X.prog=P->X.w=w->X.K=K->X.calm=EA->∀(i:Nat) (gu:List (Á×Obj)) (s:Â) (σ:St) (H:Hp) (E:À->Â->Prop),Inv X gu σ H s->(∀ b∈fp,qQ X gu H b)->tn i s.heap->J.go i H->
  wpAny (model P w) X.A (pyNext (.y it)) (λ r s1=>∃ u,r=O u/\
   wpAny (model P w) X.A (letOwnedTupleGo tg (.y it) u) (λ _ s2=>∃ x H',Inv X gu σ H' s2/\bE x u/\J.yld i H x H'/\tn (i+1) s2.heap/\∀ b∈fp,H' b=W) E s1) E s
 done:∀(X:Cx),X.prog=P->X.w=w->X.K=K->X.calm=EA->∀(i:Nat) (gu:List (Á×Obj)) (s:Â) (σ:St) (H:Hp) (E:À->Â->Prop),Inv X gu σ H s->(∀ b∈fp,qQ X gu H b)->tn i s.heap->J.stop i H->
  wpAny (model P w) X.A (pyNext (.y it)) (λ r s1=>r=W/\Inv X gu σ H s1) E s
 self:∀(A:Around) (i:Nat) (s:Â) (Q:À->Â->Prop) (E:À->Â->Prop),tn i s.heap->Q (.y it) s->wpAny (model P w) A (pyIter (.y it)) Q E s
abbrev TI:=St->Hp->(It->Hp->Prop)->Prop
def PIE (X:Cx) (gu:List (Á×Obj)) (σ:St) (tg:Expr) (R:It->Hp->Prop) (Kz:À) (s2:Â):Prop:=
 ∃(it:Á) (fp:List Á) (tn:Nat->Heap->Prop) (J:It) (H':Hp),Kz=.y it/\Inv X gu σ H' s2/\Turn X.prog X.w X.K tg J fp it tn/\tn 0 s2.heap/\(∀ b∈fp,qQ X gu H' b)/\R J H'
def PI (X:Cx) (tg iter:Expr) (wi:TI):Prop:=
 ∀(gu:List (Á×Obj)) (s:Â) (σ:St) (H:Hp) (R:It->Hp->Prop),Inv X gu σ H s->wi σ H R->
  wpAny (model X.prog X.w) X.A (eval iter X.env) (λ v s1=>wpAny (model X.prog X.w) X.A (pyIter v) (PIE X gu σ tg R) X.xe s1) X.xe s
def RB {E:À->Â->Prop}{it:Á}{u:À}{o:Obj}{n:String}{vs:Array À}{Q:Unit->Â->Prop} (ho:s.heap.get? it=O o) (hc:o.cls=.q n) (hd:o.data=.U vs)
  (hn:["enumerate","zip","dict_itemiterator","dict_reverseitemiterator","odict_iterator","itertools.zip_longest","itertools.pairwise"].contains n=JJ) (hQ:Q () s):wpAny M A (letOwnedTupleGo tg (.y it) u) Q E s:=by
 unfold letOwnedTupleGo;ext tg <;> first
  |show Ë hQ
  | (ext u <;> first
    |show Ë hQ
    | (show Æ (wpAny_load ho ?_)
       rw[hc,hd];change wpAny M A (if (["enumerate","zip","dict_itemiterator","dict_reverseitemiterator","odict_iterator","itertools.zip_longest","itertools.pairwise"].contains n && vs[0]?==O (rawInt _))=EA then _ else _) Q E s;rw[Ä (by intro h;rw[hn,Bool.false_and]at h;ext h)];show Ë hQ))
def WS (K:Ç) (a:Á):It:=
 ⟨λ i H=>∃ xs x,bC K H a xs/\xs[i]?=O x,λ i H x H'=>H'=H/\∀ xs,bC K H a xs->xs[i]?=O x,λ i H=>∃ xs,bC K H a xs/\xs.Z<=i⟩
def VP (K:Ç) (a:Á):It:=
 ⟨λ i H=>∃ xs x,bH K H a xs/\xs[i]?=O x,λ i H x H'=>H'=H/\∀ xs,bH K H a xs->xs[i]?=O x,λ i H=>∃ xs,bH K H a xs/\xs.Z<=i⟩
def ST (lo:Int) (n:Nat):It:=⟨λ i _=>i < n,λ i H x H'=>H'=H/\x=.u (lo+i),λ i _=>n<=i⟩
def LO {P:Ã}{w:World}{K:Ç}{tg:Expr} (a it:Á):Turn P w K tg (WS K a) [it] it (λ i h=>h.IsListIter it a i) where
 mem:=by simp
 obj:=λ i h st b hb=>by
  let e:b=it:=by simpa using hb
  subst e;let⟨o,e,c,d⟩:=st;show⟨o,e,λ v z=>by rw[d]at z;ext z⟩
 keep:=λ i h h' st k=>st.at λ o e=>k it JN o e
 item:=by
  intro X hP hw hK hc i gu s σ H E I hf st hg;subst hP hw hK;let⟨xs,x,hq,hx⟩:=hg;let⟨its,rv,p,hz⟩:=I.list hq;let⟨u,hu,ru⟩:=rv.get hx;let⟨f0,f1,f2,f3,f4,f5⟩:=hf it JN;show wpAny_pyNext_list_item st p.isList (x:=u) (by simpa using hu) λ h' Bs sb=>?_;let I1:Inv X gu σ H { s with heap:=h' }:=I.turned (t':=s.M) (λ b o hb e=>(sb.2 b hb).trans e) f0 f1 f3 f4 f5;let⟨o,e,c,d⟩:=id Bs;show⟨u,Y,RB (s:={ s with heap:=h' }) e c d JL ⟨x,H,I1,ru,⟨Y,λ ys hy=>by rw[I.list_inj hy hq];show hx⟩,Bs,λ b hb=>(hf b hb).1⟩⟩
 done:=by
  intro X hP hw hK hc i gu s σ H E I hf st hg;subst hP hw hK;let⟨xs,hq,hx⟩:=hg;let⟨its,rv,p,hz⟩:=I.list hq;let⟨f0,f1,f2,f3,f4,f5⟩:=hf it JN;let hl:=rv.Z;show wpAny_pyNext_list_end (I.ok.hd hc) st p.isList (by simp;lia) λ h' eb=>⟨Y,I.turned (t':=s.M) (λ b o hb e=>eb b o hb e) f0 f1 f3 f4 f5⟩
 self:=λ _ _ _ _ _ st h=>wpAny_pyIter_listiter st h
def GK {P:Ã}{w:World}{K:Ç}{tg:Expr} (a it:Á):Turn P w K tg (VP K a) [it] it (λ i h=>h.IsTupleIter it a i) where
 mem:=by simp
 obj:=λ i h st b hb=>by
  let e:b=it:=by simpa using hb
  subst e;let⟨o,e,c,d⟩:=st;show⟨o,e,λ v z=>by rw[d]at z;ext z⟩
 keep:=λ i h h' st k=>st.at λ o e=>k it JN o e
 item:=by
  intro X hP hw hK hc i gu s σ H E I hf st hg;subst hP hw hK;let⟨xs,x,hq,hx⟩:=hg;let⟨its,rv,p,hz⟩:=I.tuple hq;let⟨u,hu,ru⟩:=rv.get hx;let⟨f0,f1,f2,f3,f4,f5⟩:=hf it JN;show wpAny_pyNext_tuple_item st (show s.heap.IsTuple a its.J from p) (x:=u) (by simpa using hu) λ h' Bs sb=>?_;let I1:Inv X gu σ H { s with heap:=h' }:=I.turned (t':=s.M) (λ b o hb e=>(sb.2 b hb).trans e) f0 f1 f3 f4 f5;let⟨o,e,c,d⟩:=id Bs;show⟨u,Y,RB (s:={ s with heap:=h' }) e c d JL ⟨x,H,I1,ru,⟨Y,λ ys hy=>by rw[I.tuple_inj hy hq];show hx⟩,Bs,λ b hb=>(hf b hb).1⟩⟩
 done:=by
  intro X hP hw hK hc i gu s σ H E I hf st hg;subst hP hw hK;let⟨xs,hq,hx⟩:=hg;let⟨its,rv,p,hz⟩:=I.tuple hq;let⟨f0,f1,f2,f3,f4,f5⟩:=hf it JN;let hl:=rv.Z;show wpAny_pyNext_tuple_end (I.ok.hd hc) st (show s.heap.IsTuple a its.J from p) (by simp;lia) λ h' eb=>⟨Y,I.turned (t':=s.M) (λ b o hb e=>eb b o hb e) f0 f1 f3 f4 f5⟩
 self:=λ _ _ _ _ _ st h=>wpAny_pyIter_tupleiter st h
def GL {P:Ã}{w:World}{K:Ç}{tg:Expr} (it:Á) (lo:Int) (n:Nat):Turn P w K tg (ST lo n) [it] it (λ i h=>IsRangeIter h it (lo+(i:Nat) * 1) ((n:Int) - (i:Nat)) 1) where
 mem:=by simp
 obj:=λ i h st b hb=>by
  let e:b=it:=by simpa using hb
  subst e;show⟨_,st,λ v z=>by
   let z':Data.fields _=Data.cell v:=z;ext z'⟩
 keep:=λ i h h' st k=>k it JN _ st
 item:=by
  intro X hP hw hK hc i gu s σ H E I hf st hg;subst hP hw hK;let⟨f0,f1,f2,f3,f4,f5⟩:=hf it JN;let E9:=Walks.range (prog:=X.prog) (w:=X.w) (I.ok.hd hc) it lo 1 n;show E9.item i s _ _ hg st λ v h' tk hv Bs kk=>?_;let⟨t,Y⟩:=hv;let I1:Inv X gu σ H { s with heap:=h',toks:=tk }:=I.turned (λ b o hb e=>kk b o (by simpa using hb) e) f0 f1 f3 f4 f5;show⟨_,Y,RB (s:={ s with heap:=h',toks:=tk }) (n :="range_iterator") Bs Y Y JL ⟨.u (lo+i),H,I1,⟨t,?_⟩,⟨Y,Y⟩,Bs,λ b hb=>(hf b hb).1⟩⟩;rw[Int.mul_one]
 done:=by
  intro X hP hw hK hc i gu s σ H E I hf st hg;subst hP hw hK;let⟨f0,f1,f2,f3,f4,f5⟩:=hf it JN;show wpAny_pyNext_range_end (I.ok.hd hc) st (by let:n<=i:=hg;lia) λ h' eb=>⟨Y,I.turned (t':=s.M) (λ b o hb e=>eb b o hb e) f0 f1 f3 f4 f5⟩
 self:=λ _ _ _ _ _ st h=>wpAny_pyIter_rangeiter st h
section
def R5 (K:Ç) (tl:TE):TI:=λ σ H R=>tl σ H λ x H1=>∃ a,x=.y a/\(∃ xs,bC K H1 a xs)/\R (WS K a) H1
def YD (K:Ç) (tl:TE):TI:=λ σ H R=>tl σ H λ x H1=>∃ a,x=.y a/\(∃ xs,bH K H1 a xs)/\R (VP K a) H1
def U3  (hl:PE X l tl):PI X tg l (R5 X.K tl):=by
 intro gu s σ H R I h;show dG (hl gu s σ H _ I h) λ v s1 ⟨x,H1,I1,r1,q1⟩=>?_;let⟨a,e,⟨xs,hq⟩,q⟩:=q1;subst e;ext r1;let⟨its,rv,p,hz⟩:=I1.list hq;show ŭ p.isList ?_;show⟨s1.L,[s1.L],_,_,H1,Y,I1.kept (t':=s1.M) λ b o e=>Î _ e,LO a _,⟨_,Ü _ Y,Y,Y⟩,λ b hb=>?_,q⟩;let e:b=s1.L:=by simpa using hb
 subst e;show I1.fpOk (Í _) (I1.hok.fresh (Í _))
def XQ  (hl:PE X l tl):PI X tg l (YD X.K tl):=by
 intro gu s σ H R I h;show dG (hl gu s σ H _ I h) λ v s1 ⟨x,H1,I1,r1,q1⟩=>?_;let⟨a,e,⟨xs,hq⟩,q⟩:=q1;subst e;ext r1;let⟨its,rv,p,hz⟩:=I1.tuple hq;show ū (show s1.heap.IsTuple a its.J from p) ?_;show⟨s1.L,[s1.L],_,_,H1,Y,I1.kept (t':=s1.M) λ b o e=>Î _ e,GK a _,⟨_,Ü _ Y,Y,Y⟩,λ b hb=>?_,q⟩;let e:b=s1.L:=by simpa using hb
 subst e;show I1.fpOk (Í _) (I1.hok.fresh (Í _))
def OP {σ:St}{E:À->Â->Prop}{lo hi:Int}{t u v:Tok}{tk:Nat} (I:Inv X gu σ H s) (h1 : -(2 ^ 62)<=lo) (h2:lo < 2 ^ 62) (h3 : -(2 ^ 62)<=hi) (h4:hi < 2 ^ 62)
  (q:R (ST lo (hi - lo).toNat) H):wpAny (model X.prog X.w) X.A (pyIter (.y s.L)) (PIE X gu σ tg R) E { s with heap:=s.heap.push { cls:=.q "range",data:=.U #[.u lo t,.u hi u,.u 1 v] },toks:=tk }:=by
 show wpAny_pyIter_range (IsRange.new ..) (small_one h1 h2 h3 h4) ?_;let I1:Inv X gu σ H { s with heap:=s.heap.push { cls:=.q "range",data:=.U #[.u lo t,.u hi u,.u 1 v] },toks:=tk }:=I.kept λ b o e=>Î _ e;show⟨(s.heap.push { cls:=.q "range",data:=.U #[.u lo t,.u hi u,.u 1 v] }).objs.size,[(s.heap.push { cls:=.q "range",data:=.U #[.u lo t,.u hi u,.u 1 v] }).objs.size],_,_,H,Y,
  I1.kept (t':=tk) λ b o e=>Î _ e,GL _ lo (hi - lo).toNat,?_,λ b hb=>?_,q⟩
 ·let e1:lo+((0:Nat):Int) * 1=lo:=by simp
  let e2:(((hi - lo).toNat:Nat):Int) - ((0:Nat):Int)=Builtin.Range.rangeSize lo hi 1:=by rw[rangeSize_one];split <;> lia
  change IsRangeIter _ _ (lo+((0:Nat):Int) * 1) ((((hi - lo).toNat:Nat):Int) - ((0:Nat):Int)) 1;rw[e1,e2];show Ü _ Y
 ·let e:b=(s.heap.push { cls:=.q "range",data:=.U #[.u lo t,.u hi u,.u 1 v] }).objs.size:=by simpa using hb
  subst e;show I1.fpOk (Í _) (I1.hok.fresh (Í _))
def iRng1 (ta:TA):TI:=λ σ H R=>ta σ H λ vs H1=>∃ j:Int,vs=[.u j]/\-(2 ^ 62)<=j/\j < 2 ^ 62/\R (ST 0 j.Q) H1
def eX  (hg:Gl X "range") (hm:X.mg "range" =W) (ha:PA X [a] ta) (hs:autoParam (starEach [a] X.env=[(JJ,eval a X.env)]) _0):PI X tg (.rj (.C "range" p) [a] [] pos) (iRng1 ta):=by
 intro gu s σ H R I h;show Call_ (qL I hg hm boot_range (Ō (dG (ha pos gu s σ H _ I h) λ us s1 ⟨vs,H1,I1,r1,q1⟩=>?_) hs Y));let⟨j,e,q1,q2,q⟩:=q1;subst e;cases r1 with
 |cons r rr=>
  ext rr;let⟨t,Y⟩:=r;show call_range_1 (OP I1 JM JM q1 q2 (by simpa using q))
def X0 (wi:TI) (g:TG) (tb:TS):TS:=λ D σ H=>wi σ H λ J H1=>∃ E9:Nat->Nat->St->Hp->Prop,(∃ m,E9 0 m σ H1)/\∀ i m σ H,E9 i m σ H->
 (J.stop i H/\D.nx σ H)\/(J.go i H/\∃ N:St->Hp->Prop,(∀ ac H',N ac H'->∃ m',m' < m/\E9 (i+1) m' ac H')/\∀ x H',J.yld i H x H'->g x σ H' λ ba H2=>tb { D with nx:=N,ct:=N,bk:=D.nx } ba H2)
def wS (fp:List Á) (h:Heap):List (Á×Obj):=fp.filterMap λ b=>(h.get? b).map λ o=>(b,o)
def mO  (hb:b∈fp) (e:h.get? b=O o):(b,o)∈wS fp h:=List.mem_filterMap.mpr ⟨b,hb,by rw[e];rfl⟩
def MD  (hp:p∈wS fp h):p.1∈fp/\h.get? p.1=O p.2:=by
 let⟨b,hb,e⟩:=List.mem_filterMap.mp hp;cases q:h.get? b with
 |none=>rw[q]at e;cases e
 |some o=>
  rw[q]at e;let e':(b,o)=p:=ñ e;subst e';show⟨hb,q⟩
def Inv.pinned {σ:St}{fp:List Á} (I:Inv X gu σ H s) (hf:∀ b∈fp,qQ X gu H b) (ho:∀ b∈fp,∃ o,s.heap.get? b=O o/\∀ v,o.data≠.cell v):Inv X (gu++wS fp s.heap) σ H s:=
 I.pins_of λ p hp=>(ë.mp hp).elim (λ z=>I.pin p (ē _ z)) λ z=>by
  let⟨hb,e⟩:=MD z;let⟨f0,f1,f2,_⟩:=hf p.1 hb;let⟨o,e',d⟩:=ho p.1 hb;rw[e]at e';ext e';show⟨e,f0,f1,f2,d⟩
def Inv.unpinned {σ:St} (I:Inv X (gu++pl) σ H s):Inv X gu σ H s:=I.pins_of λ p hp=>I.pin p (ē _ (į _ hp))
set_option tactic.hygienic true in
def eE  (hp:PassesOwn (model X.prog X.w) X.A X.env X.xe) (hc:X.calm=EA) (hi:PI X tg iter wi) (hg:PG X tg g) (hb:DM X body tb)
  (hs:autoParam (∀ x,foldedSetIterable iter X.env x=pure x) _6):PS X (.For tg iter body [] pos) (X0 wi g tb):=by
 intro gu s σ H D I h;show wpAny_For (dG (hi gu s σ H _ I h) λ v s1 h1=>dG h1 λ Kz s2 h2=>?_) hs;let⟨it,fp,tn,J,H2,e,I2,T,zd,f2,E9,⟨m0,w0⟩,turn⟩:=h2;subst e;let vz:∀ {H':Hp},(∀ b∈fp,H' b=W)->∀ b∈fp,qQ X gu H' b:=λ hn b hb=>⟨hn b hb,(f2 b hb).2⟩;show codeAny_forLoop_any (λ n s'=>∃ i ac H',Inv X gu ac H' s'/\tn i s'.heap/\(∀ b∈fp,H' b=W)/\E9 i n ac H') ?_ m0 ⟨0,σ,H2,I2,zd,λ b hb=>(f2 b hb).1,w0⟩;rintro n s3 zQ;let⟨i,aq,H3,I3,Tz,Ua,w3⟩:=zQ;rcases turn i n aq H3 w3 with⟨stop,qn⟩|⟨go,N,hN,step⟩
 ·show Ķ hp (dG (T.done X Y Y Y hc i gu s3 aq H3 X.xe I3 (vz Ua) Tz stop) λ r s4 ⟨hr,I4⟩=>?_);subst hr;show ų ⟨aq,H3,I4,qn⟩
 ·show Ķ hp (dG (T.item X Y Y Y hc i gu s3 aq H3 X.xe I3 (vz Ua) Tz go) λ r s4 ⟨u,hr,h4⟩=>?_);subst hr;show Ķ hp (dG h4 λ _ s5 ⟨x,H5,I5,r5,y5,Fg,La⟩=>?_);let P_:=I5.pinned (vz La) (T.obj _ _ Fg);show Ķ hp (dG (hg _ s5 aq H5 x u _ P_ r5 (step x H5 y5)) λ _ s6 ⟨σ6,H6,I6,q6⟩=>?_);show Ķ hp (dG (hb _ s6 σ6 H6 _ I6 q6) λ f s7 q7=>?_);let again:∀ {ci:St}{H7:Hp},Inv X (gu++wS fp s5.heap) ci H7 s7->N ci H7->∃ m,m < n/\∃ i ac H',Inv X gu ac H' s7/\tn i s7.heap/\(∀ b∈fp,H' b=W)/\E9 i m ac H':=λ {ci H7} I7 n7=>by
   let⟨m',hm,w7⟩:=hN ci H7 n7;show⟨m',hm,i+1,ci,H7,I7.unpinned,T.keep _ _ _ Fg λ b hb o e=>(I7.pin (b,o) (ē _ (ē _ (mO hb e)))).1,λ b hb=>?_,w7⟩;let⟨o,e,d⟩:=T.obj _ _ Fg b hb;show(I7.pin (b,o) (ē _ (ē _ (mO hb e)))).2.1
  cases f with
  |next=>let⟨ci,H7,I7,n7⟩:=q7;show again I7 n7
  |cont=>let⟨ci,H7,I7,n7⟩:=q7;show again I7 n7
  |brk=>let⟨ci,H7,I7,q7⟩:=q7;show⟨ci,H7,I7.unpinned,q7⟩
  |ret v=>let⟨x7,ci,H7,I7,r7,q7⟩:=q7;show⟨x7,ci,H7,I7.unpinned,r7,q7⟩
end
def oJ {g:TG}{tb:TS}{D:Ends}{σ:St}{H:Hp} (Pv:Nat->St->Hp->Prop) (h0:Pv 0 σ H) (hl:∀ i σ H,i<=xs.Z->Pv i σ H->bC K H a xs)
  (hs:∀ i x σ H,xs[i]?=O x->Pv i σ H->g x σ H λ ba H2=>tb { D with nx:=Pv (i+1),ct:=Pv (i+1),bk:=D.nx } ba H2) (hd:∀ σ H,Pv xs.length σ H->D.nx σ H) :
  ∃ E9:Nat->Nat->St->Hp->Prop,(∃ m,E9 0 m σ H)/\∀ i m σ H,E9 i m σ H->
   ((WS K a).stop i H/\D.nx σ H)\/((WS K a).go i H/\∃ N:St->Hp->Prop,(∀ ac H',N ac H'->∃ m',m' < m/\E9 (i+1) m' ac H')/\∀ x H',(WS K a).yld i H x H'->g x σ H' λ ba H2=>tb { D with nx:=N,ct:=N,bk:=D.nx } ba H2):=by
 show⟨λ i m σ H=>m=xs.Z - i/\i<=xs.Z/\Pv i σ H,⟨xs.Z,JN,ß _,h0⟩,?_⟩;rintro i m σ H ⟨rfl,hi,p⟩;let q:=hl i σ H hi p
 by_cases ki:i < xs.Z
 ·show .x ⟨⟨xs,xs[i],q,by simp[ki]⟩,Pv (i+1),λ ac H' p'=>⟨xs.Z - (i+1),JM,Y,ki,p'⟩,λ x H' y=>?_⟩;let⟨e,y⟩:=y;subst e;show hs i x σ _ (y xs q) p
 ·let e:i=xs.Z:=by lia
  subst e;show .p ⟨⟨xs,q,Í _⟩,hd σ H p⟩
def oY {g:TG}{tb:TS}{D:Ends}{σ:St}{H:Hp} (Pv:Nat->St->Hp->Prop) (h0:Pv 0 σ H) (hl:∀ i σ H,i<=xs.Z->Pv i σ H->bH K H a xs)
  (hs:∀ i x σ H,xs[i]?=O x->Pv i σ H->g x σ H λ ba H2=>tb { D with nx:=Pv (i+1),ct:=Pv (i+1),bk:=D.nx } ba H2) (hd:∀ σ H,Pv xs.length σ H->D.nx σ H) :
  ∃ E9:Nat->Nat->St->Hp->Prop,(∃ m,E9 0 m σ H)/\∀ i m σ H,E9 i m σ H->
   ((VP K a).stop i H/\D.nx σ H)\/((VP K a).go i H/\∃ N:St->Hp->Prop,(∀ ac H',N ac H'->∃ m',m' < m/\E9 (i+1) m' ac H')/\∀ x H',(VP K a).yld i H x H'->g x σ H' λ ba H2=>tb { D with nx:=N,ct:=N,bk:=D.nx } ba H2):=by
 show⟨λ i m σ H=>m=xs.Z - i/\i<=xs.Z/\Pv i σ H,⟨xs.Z,JN,ß _,h0⟩,?_⟩;rintro i m σ H ⟨rfl,hi,p⟩;let q:=hl i σ H hi p
 by_cases ki:i < xs.Z
 ·show .x ⟨⟨xs,xs[i],q,by simp[ki]⟩,Pv (i+1),λ ac H' p'=>⟨xs.Z - (i+1),JM,Y,ki,p'⟩,λ x H' y=>?_⟩;let⟨e,y⟩:=y;subst e;show hs i x σ _ (y xs q) p
 ·let e:i=xs.Z:=by lia
  subst e;show .p ⟨⟨xs,q,Í _⟩,hd σ H p⟩
def jT {lo:Int}{g:TG}{tb:TS}{D:Ends}{σ:St}{H:Hp} (Pv:Nat->St->Hp->Prop) (h0:Pv 0 σ H)
  (hs:∀ i σ H,i < n->Pv i σ H->g (.u (lo+i)) σ H λ ba H2=>tb { D with nx:=Pv (i+1),ct:=Pv (i+1),bk:=D.nx } ba H2) (hd:∀ σ H,Pv n σ H->D.nx σ H) :
  ∃ E9:Nat->Nat->St->Hp->Prop,(∃ m,E9 0 m σ H)/\∀ i m σ H,E9 i m σ H->
   ((ST lo n).stop i H/\D.nx σ H)\/((ST lo n).go i H/\∃ N:St->Hp->Prop,(∀ ac H',N ac H'->∃ m',m' < m/\E9 (i+1) m' ac H')/\∀ x H',(ST lo n).yld i H x H'->g x σ H' λ ba H2=>tb { D with nx:=N,ct:=N,bk:=D.nx } ba H2):=by
 show⟨λ i m σ H=>m=n - i/\i<=n/\Pv i σ H,⟨n,JN,ß _,h0⟩,?_⟩;rintro i m σ H ⟨rfl,hi,p⟩
 by_cases ki:i < n
 ·show .x ⟨ki,Pv (i+1),λ ac H' p'=>⟨n - (i+1),JM,Y,ki,p'⟩,λ x H' y=>?_⟩;let⟨e,y⟩:=y;subst e y;show hs i σ _ ki p
 ·let e:i=n:=by lia
  subst e;show .p ⟨Í _,hd σ H p⟩
abbrev R2:=V->V->Hp->VK->Prop
def jJ (X:Cx) (f:À->À->Sem À) (r:R2):Prop:=
 ∀(gu:List (Á×Obj)) (s:Â) (σ:St) (H:Hp) (x y:V) (v u:À) (Q:VK),Inv X gu σ H s->bE x v->bE y u->r x y H Q->
  wpAny (model X.prog X.w) X.A (f v u) (EP X gu σ Q) X.xe s
def UnR (X:Cx) (f:À->Sem À) (r:V->Hp->VK->Prop):Prop:=
 ∀(gu:List (Á×Obj)) (s:Â) (σ:St) (H:Hp) (x:V) (v:À) (Q:VK),Inv X gu σ H s->bE x v->r x H Q->
  wpAny (model X.prog X.w) X.A (f v) (EP X gu σ Q) X.xe s
def fU (X:Cx) (f:À) (r:List V->Hp->VK->Prop):Prop:=
 ∀(gu:List (Á×Obj)) (s:Â) (σ:St) (H:Hp) (xs:List V) (us:List À) (Q:VK),Inv X gu σ H s->bN xs us->r xs H Q->
  wpAny (model X.prog X.w) X.A (call f us) (EP X gu σ Q) X.xe s
def TruR (X:Cx) (r:V->Hp->(Bool->Hp->Prop)->Prop):Prop:=
 ∀(gu:List (Á×Obj)) (s:Â) (σ:St) (H:Hp) (x:V) (v:À) (Q:Bool->Hp->Prop),Inv X gu σ H s->bE x v->r x H Q->
  wpAny (model X.prog X.w) X.A (truthy v) (TP X gu σ Q) X.xe s
def lC (r:R2) (ta tb:TE):TE:=λ σ H Q=>ta σ H λ x H1=>tb σ H1 λ y H2=>r x y H2 Q
def tUn (r:V->Hp->VK->Prop) (ta:TE):TE:=λ σ H Q=>ta σ H λ x H1=>r x H1 Q
def rI (C:Int->Int->Prop) (g:Int->Int->V):R2:=λ x y H Q=>∃ i j,x=.u i/\y=.u j/\C i j/\Q (g i j) H
def BF (g:Int->Int->V):R2:=λ x y H Q=>∃ i j,x=.u i/\y=.u j/\Q (g i j) H
def rU (g:Int->V):V->Hp->VK->Prop:=λ x H Q=>∃ i,x=.u i/\Q (g i) H
section
variable {X:Cx}{a b c:Expr}{ta tb tc:TE}{pos:Pos}
def YL (ha:PE X a ta) (hb:PE X b tb){σ:St}{R:V->V->Hp->Prop} (I:Inv X gu σ H s)
  (h:ta σ H λ x H1=>tb σ H1 λ y H2=>R x y H2) {Q:À->Â->Prop}{f:À->À->Sem À}
  (hf:∀ v u s2 x y H2,Inv X gu σ H2 s2->bE x v->bE y u->R x y H2->wpAny (model X.prog X.w) X.A (f v u) Q X.xe s2) :
  wpAny (model X.prog X.w) X.A (eval a X.env) (λ v ai=>wpAny (model X.prog X.w) X.A (eval b X.env) (λ u bx=>wpAny (model X.prog X.w) X.A (f v u) Q X.xe bx) X.xe ai) X.xe s:=by
 show dG (ha gu s σ H _ I h) λ v s1 ⟨x,H1,I1,r1,q1⟩=>?_;show dG (hb gu s1 σ H1 _ I1 q1) λ u s2 ⟨y,H2,I2,r2,q2⟩=>?_;show hf v u s2 x y H2 I2 r1 r2 q2
def bA  (ho:jJ X (binaryOp op) r) (ha:PE X a ta) (hb:PE X b tb):PE X (.BinOp a op b pos) (lC r ta tb):=by
 intro gu s σ H Q I h;show wpAny_BinOp (YL ha hb I h λ v u s2 x y H2 I2 rx ry q=>ho gu s2 σ H2 x y v u Q I2 rx ry q)
def pR  (ho:UnR X (unaryOp op) r) (ha:PE X a ta):PE X (.UnaryOp op a pos) (tUn r ta):=by
 intro gu s σ H Q I h;show UnaryOp_ (dG (ha gu s σ H _ I h) λ v s1 ⟨x,H1,I1,r1,q1⟩=>ho gu s1 σ H1 x v Q I1 r1 q1)
def opI {C:Int->Int->Prop}{g:Int->Int->Int}
  (rule:∀(i j:Int) (t u:Tok) (s:Â) (Q:À->Â->Prop) (E:À->Â->Prop),C i j->Q (.u (g i j) s.M) { s with toks:=s.M+1 }->wpAny (model X.prog X.w) X.A (f (.u i t) (.u j u)) Q E s) :
  jJ X f (rI C λ i j=>.int (g i j)):=by
 intro gu s σ H x y v u Q I rx ry h;let⟨i,j,Y,Y,hc,q⟩:=h;let⟨t,Y⟩:=rx;let⟨t',Y⟩:=ry;show rule i j t t' s _ _ hc ⟨.u (g i j),H,I.tok _,⟨_,Y⟩,q⟩
def opI0 {g:Int->Int->Int}
  (rule:∀(i j:Int) (t u:Tok) (s:Â) (Q:À->Â->Prop) (E:À->Â->Prop),Q (.u (g i j) s.M) { s with toks:=s.M+1 }->wpAny (model X.prog X.w) X.A (f (.u i t) (.u j u)) Q E s) :
  jJ X f (BF λ i j=>.int (g i j)):=by
 intro gu s σ H x y v u Q I rx ry h;let⟨i,j,Y,Y,q⟩:=h;let⟨t,Y⟩:=rx;let⟨t',Y⟩:=ry;show rule i j t t' s _ _ ⟨.u (g i j),H,I.tok _,⟨_,Y⟩,q⟩
def UH {g:Int->Int->Bool}
  (rule:∀(i j:Int) (t u:Tok) (s:Â) (Q:À->Â->Prop) (E:À->Â->Prop),Q (.I (g i j)) s->wpAny (model X.prog X.w) X.A (f (.u i t) (.u j u)) Q E s) :
  jJ X f (BF λ i j=>.bl (g i j)):=by
 intro gu s σ H x y v u Q I rx ry h;let⟨i,j,Y,Y,q⟩:=h;let⟨t,Y⟩:=rx;let⟨t',Y⟩:=ry;show rule i j t t' s _ _ ⟨.bl (g i j),H,I,Y,q⟩
def YW (i j:Int):Prop:=0 < j/\j < 1073741824
def YV (i j:Int):Prop:=0<=j/\j<=1000000/\i.natAbs < 2 ^ 64
def GG (i j:Int):Prop:=(-(2 ^ 64) < i/\i < 2 ^ 64)\/(-(2 ^ 64) < j/\j < 2 ^ 64)
def GG.ok  (h:GG i j):IntMulOk i j:=by
 rcases h with⟨h1,h2⟩|⟨h1,h2⟩
 ·show .of_left (intBits_le_64 h1 h2)
 ·show .of_right (intBits_le_64 h1 h2)
def dM:jJ X (binaryOp .Add) (BF λ i j=>.int (i+j)):=opI0 λ _ _ _ _ _ _ _ q=>add_int q
def iM:jJ X (binaryOp .Sub) (BF λ i j=>.int (i - j)):=opI0 λ _ _ _ _ _ _ _ q=>sub_int q
def qG:jJ X (binaryOp .Mult) (rI GG λ i j=>.int (i * j)):=opI λ _ _ _ _ _ _ _ hc q=>mul_int q hc.ok
def mM:jJ X (binaryOp .FloorDiv) (rI YW λ i j=>.int (i / j)):=opI λ i j _ _ _ _ _ hc q=>by
 let h1:(0:Int) < j:=hc.1;let h2:j < 1073741824:=hc.2;show floordiv_int JM (by rw[aft i JM];show q) (.p (PyProof.noPylong_small JM))
def wY:jJ X (binaryOp .Mod) (rI (λ _ j=>0 < j) λ i j=>.int (i % j)):=opI λ i j _ _ _ _ _ hc q=>by
 let h1:(0:Int) < j:=hc;show mod_int' JM (by rw[Int.fmod_eq_emod_of_nonneg i JM];show q)
def PM:jJ X (binaryOp .Pow) (rI YV λ i j=>.int (i ^ j.Q)):=opI λ _ _ _ _ _ _ _ hc q=>pow_int_small hc.1 hc.2.1 hc.2.2 q
def unI {g:Int->Int}
  (rule:∀(i:Int) (t:Tok) (s:Â) (Q:À->Â->Prop) (E:À->Â->Prop),Q (.u (g i) s.M) { s with toks:=s.M+1 }->wpAny (model X.prog X.w) X.A (f (.u i t)) Q E s) :
  UnR X f (rU λ i=>.int (g i)):=by
 intro gu s σ H x v Q I rx h;let⟨i,Y,q⟩:=h;let⟨t,Y⟩:=rx;show rule i t s _ _ ⟨.u (g i),H,I.tok _,⟨_,Y⟩,q⟩
def kZ:UnR X (unaryOp .USub) (rU λ i=>.int (-i)):=unI λ _ _ _ _ _ q=>neg_int q
end
def XC:V->V->Bool
 |.non,.non=>EA|.non,.int _=>EA|.int _,.non=>EA|.non,.bl _=>EA|.bl _,.non=>EA|.non,.str _=>EA|.str _,.non=>EA
 |.int _,.int _=>EA|.bl _,.bl _=>EA|.str _,.str _=>EA|.byt _,.byt _=>EA
 |.int _,.str _=>EA|.str _,.int _=>EA|.bl _,.str _=>EA|.str _,.bl _=>EA
 |_,_=>JJ
def ZY:R2:=λ x y H Q=>XC x y=EA/\Q (.bl (decide (x=y))) H
def rNe:R2:=λ x y H Q=>XC x y=EA/\Q (.bl (!decide (x=y))) H
def KO :decide (V.int i=V.int j)=(i==j):=by
 rw[Ī];simp
def RY :decide (V.bl i=V.bl j)=(i==j):=by
 rw[Ī];simp
def KN :decide (V.str i=V.str j)=(i==j):=by
 rw[Ī];simp
def KP :decide (V.byt i=V.byt j)=(i.toList==j.toList):=by
 rw[Ī];ext i;ext j;simp
section
variable {X:Cx}{a b c:Expr}{ta tb tc:TE}{pos:Pos}
def cF {σ:St}{k k':Bool} (I:Inv X gu σ H s) (q:Q (.bl k) H) (e:k=k'):EP X gu σ Q (.I k') s:=by
 subst e;show⟨.bl k,H,I,Y,q⟩
def eA:jJ X (compareOp .Eq) ZY:=by
 intro gu s σ H x y v u Q I rx ry h;let⟨hs,q⟩:=h;cases x with
 |non=>
  ext rx;cases y with
  |non=>ext ry;show PySem.EqNone.eq_none_none (cF I q JN)
  |bl j=>ext ry;show PySem.EqNone.eq_none_bool (cF I q JN)
  |int j=>let⟨t',Y⟩:=ry;show PySem.EqNone.eq_none_int (cF I q JN)
  |str j=>let⟨t',Y⟩:=ry;show PySem.EqNone.eq_none_str (cF I q JN)
  |_=>show absurd (show JJ=EA from hs) â
 |bl i=>
  ext rx;cases y with
  |non=>ext ry;show PySem.EqNone.eq_bool_none (cF I q JN)
  |bl j=>ext ry;show eq_bool (cF I q RY)
  |str j=>let⟨t',Y⟩:=ry;show PySem.EqMixed.eq_bool_str (cF I q JN)
  |_=>show absurd (show JJ=EA from hs) â
 |int i=>
  let⟨t,Y⟩:=rx;cases y with
  |non=>ext ry;show PySem.EqNone.eq_int_none (cF I q JN)
  |int j=>let⟨t',Y⟩:=ry;show eq_int (cF I q KO)
  |str j=>let⟨t',Y⟩:=ry;show PySem.EqMixed.eq_int_str (cF I q JN)
  |_=>show absurd (show JJ=EA from hs) â
 |str i=>
  let⟨t,Y⟩:=rx;cases y with
  |non=>ext ry;show PySem.EqNone.eq_str_none (cF I q JN)
  |bl j=>ext ry;show PySem.EqMixed.eq_str_bool (cF I q JN)
  |int j=>let⟨t',Y⟩:=ry;show PySem.EqMixed.eq_str_int (cF I q JN)
  |str j=>let⟨t',Y⟩:=ry;show eq_str (cF I q KN)
  |_=>show absurd (show JJ=EA from hs) â
 |byt i=>
  let⟨t,Y⟩:=rx;cases y with
  |byt j=>let⟨t',Y⟩:=ry;show PySem.W.eq_bytes (cF I q KP)
  |_=>show absurd (show JJ=EA from hs) â
 |_=>ext y <;> show absurd (show JJ=EA from hs) â
def zV:jJ X (compareOp .NotEq) rNe:=by
 intro gu s σ H x y v u Q I rx ry h;let⟨hs,q⟩:=h;cases x with
 |non=>
  ext rx;cases y with
  |non=>ext ry;show PySem.EqNone.ne_none_none (cF I q JN)
  |bl j=>ext ry;show PySem.EqNone.ne_none_bool (cF I q JN)
  |int j=>let⟨t',Y⟩:=ry;show PySem.EqNone.ne_none_int (cF I q JN)
  |str j=>let⟨t',Y⟩:=ry;show PySem.EqNone.ne_none_str (cF I q JN)
  |_=>show absurd (show JJ=EA from hs) â
 |bl i=>
  ext rx;cases y with
  |non=>ext ry;show PySem.EqNone.ne_bool_none (cF I q JN)
  |bl j=>ext ry;show ne_bool (cF I q (congrArg not RY))
  |str j=>let⟨t',Y⟩:=ry;show PySem.EqMixed.ne_bool_str (cF I q JN)
  |_=>show absurd (show JJ=EA from hs) â
 |int i=>
  let⟨t,Y⟩:=rx;cases y with
  |non=>ext ry;show PySem.EqNone.ne_int_none (cF I q JN)
  |int j=>let⟨t',Y⟩:=ry;show ne_int (cF I q (congrArg not KO))
  |str j=>let⟨t',Y⟩:=ry;show PySem.EqMixed.ne_int_str (cF I q JN)
  |_=>show absurd (show JJ=EA from hs) â
 |str i=>
  let⟨t,Y⟩:=rx;cases y with
  |non=>ext ry;show PySem.EqNone.ne_str_none (cF I q JN)
  |bl j=>ext ry;show PySem.EqMixed.ne_str_bool (cF I q JN)
  |int j=>let⟨t',Y⟩:=ry;show PySem.EqMixed.ne_str_int (cF I q JN)
  |str j=>let⟨t',Y⟩:=ry;show ne_str (cF I q (congrArg not KN))
  |_=>show absurd (show JJ=EA from hs) â
 |byt i=>
  let⟨t,Y⟩:=rx;cases y with
  |byt j=>let⟨t',Y⟩:=ry;show PySem.W.ne_bytes (cF I q (congrArg not KP))
  |_=>show absurd (show JJ=EA from hs) â
 |_=>ext y <;> show absurd (show JJ=EA from hs) â
def ER:jJ X (compareOp .Lt) (BF λ i j=>.bl (decide (i < j))):=UH λ _ _ _ _ _ _ _ q=>lt_int q
def wZ:jJ X (compareOp .LtE) (BF λ i j=>.bl (decide (i<=j))):=UH λ _ _ _ _ _ _ _ q=>le_int q
def rX:jJ X (compareOp .Gt) (BF λ i j=>.bl (decide (j < i))):=UH λ _ _ _ _ _ _ _ q=>gt_int q
def PQ:jJ X (compareOp .GtE) (BF λ i j=>.bl (decide (j<=i))):=UH λ _ _ _ _ _ _ _ q=>ge_int q
def oC:jJ X (compareOp .Is) (λ x y H Q=>y=.non/\Q (.bl (decide (x=.non))) H):=by
 intro gu s σ H x y v u Q I rx ry h;let⟨Y,q⟩:=h;ext ry;show is_none_gen (cF I q ?_);ext x <;> first
  |(ext rx;rfl)
  |(let⟨t,Y⟩:=rx;rfl)
def UE:jJ X (compareOp .IsNot) (λ x y H Q=>y=.non/\Q (.bl (!decide (x=.non))) H):=by
 intro gu s σ H x y v u Q I rx ry h;let⟨Y,q⟩:=h;ext ry;show isnot_none_gen (cF I q ?_);ext x <;> first
  |(ext rx;rfl)
  |(let⟨t,Y⟩:=rx;rfl)
def jJ.or  (h:jJ X f r) (h':jJ X f r'):jJ X f (λ x y H Q=>r x y H Q\/r' x y H Q):=by
 intro gu s σ H x y v u Q I rx ry q;rcases q with q|q
 ·show h gu s σ H x y v u Q I rx ry q
 ·show h' gu s σ H x y v u Q I rx ry q
def aW (b:Expr) (h:autoParam (op≠.In) _2) (h2:autoParam (op≠.NotIn) _2):behindInMarks op b=false:=by
 let e1:(op==CmpOp.In)=false:=by ext op <;> first|rfl|show absurd Y h
 let e2:(op==CmpOp.NotIn)=false:=by ext op <;> first|rfl|show absurd Y h2
 ext b <;> simp[behindInMarks,e1,e2]
def fH  (ho:jJ X (compareOp op) r) (ha:PE X a ta) (hb:PE X b tb) (hm:behindInMarks op b=JJ):PE X (.Compare a [op] [b] pos) (lC r ta tb):=by
 intro gu s σ H Q I h;show wpAny_Compare1 (YL ha hb I h λ v u s2 x y H2 I2 rx ry q=>ho gu s2 σ H2 x y v u Q I2 rx ry q) hm
def zB (t:TE):TT:=λ σ H Q=>t σ H λ x H'=>∃ k,x=.bl k/\Q k H'
def aR  (ho:jJ X (compareOp op) r) (ha:PE X a ta) (hb:PE X b tb) (hm:behindInMarks op b=JJ):PT X (.Compare a [op] [b] pos) (zB (lC r ta tb)):=by
 intro gu s σ H Q I h;show wpAny_isTrue_Compare1 (dG (ha gu s σ H _ I h) λ v s1 ⟨x,H1,I1,r1,q1⟩=>dG (hb gu s1 σ H1 _ I1 q1) λ u s2 ⟨y,H2,I2,r2,q2⟩=>
  dG (ho gu s2 σ H2 x y v u _ I2 r1 r2 q2) λ c s3 ⟨z,H3,I3,r3,k,e,q3⟩=>?_) hm
 subst e;ext r3;show ħ ⟨H3,I3,q3⟩
def X3 (r r':R2) (ta tb tc:TE):TE:=λ σ H Q=>ta σ H λ x H1=>tb σ H1 λ y H2=>r x y H2 λ z H3=>∃ k,z=.bl k/\
 (if k=EA then tc σ H3 λ w' H4=>r' y w' H4 Q else Q (.bl JJ) H3)
def wW  (ho:jJ X (compareOp op) r) (qh:jJ X (compareOp Nt) r') (ha:PE X a ta) (hb:PE X b tb) (hc:PE X c tc)
  (hm:autoParam (lastMarks [op,Nt] [b,c]=false) _0):PE X (.Compare a [op,Nt] [b,c] pos) (X3 r r' ta tb tc):=by
 intro gu s σ H Q I h;show Compare_chain (dG (ha gu s σ H _ I h) λ v s1 ⟨x,H1,I1,r1,q1⟩=>chain_link (dG (hb gu s1 σ H1 _ I1 q1) λ u s2 ⟨y,H2,I2,r2,q2⟩=>
  dG (ho gu s2 σ H2 x y v u _ I2 r1 r2 q2) λ d s3 ⟨z,H3,I3,r3,k,e,q3⟩=>?_)) hm
 subst e;ext r3;show ħ ?_;cases k with
 |false=>show ite_ff ⟨.bl JJ,H3,I3,Y,q3⟩
 |true=>show ite_tt (chain_last (dG (hc gu s3 σ H3 _ I3 q3) λ w' s4 ⟨z',H4,I4,r4,q4⟩=>qh gu s4 σ H4 y z' u w' Q I4 r2 r4 q4))
def VN (K:Ç) (x:V) (H:Hp) (k:Bool):Prop:=
 match x with
 |.non=>k=JJ
 |.bl b=>k=b
 |.int i=>k=(i != 0)
 |.str y=>y.Z<=sizeLine/\k=((y.Z:Int) != 0)
 |.byt y=>y.S<=sizeLine/\k=((y.S:Int) != 0)
 |.ref p=>(∃ xs,bC K H p xs/\k= !xs.isEmpty)\/(∃ xs,bH K H p xs/\k= !xs.isEmpty)\/∃ ii,H p=O (.dK ii)/\k= !ii.isEmpty
 |_=>False
def IG {be:Type}{ii:List (be×V)}{vs:List (be×À)} (r:KV ii vs):(!vs.isEmpty)= !ii.isEmpty:=by
 ext r <;> rfl
def xX  (r:bN xs its):(!its.toArray.isEmpty)= !xs.isEmpty:=by
 ext r <;> simp
def qK:(sizeLine:Nat) < 2 ^ 63:=by rw[ê];decide
def NS:TruR X (λ x H Q=>∃ k,VN X.K x H k/\Q k H):=by
 intro gu s σ H x v Q I rx h;let⟨k,e,q⟩:=h;let hl:=qK;let hs:sizeLine=16777216:=ê;cases x with
 |non=>
  ext rx;let e':k=false:=e;subst e';show truthy_none ⟨H,I,q⟩
 |bl b=>
  ext rx;let e':k=b:=e;subst e';show ħ ⟨H,I,q⟩
 |int i=>
  let⟨t,Y⟩:=rx;let e':k=(i != 0):=e;subst e';show PySem.P.truthy_int ⟨H,I,q⟩
 |str y=>
  let⟨t,Y⟩:=rx;obtain⟨hy,e'⟩:y.Z<=sizeLine/\k=((y.Z:Int) != 0):=e;subst e';show PySem.P.truthy_str JM ⟨H,I.tok _,q⟩
 |byt y=>
  let⟨t,Y⟩:=rx;obtain⟨hy,e'⟩:y.S<=sizeLine/\k=((y.S:Int) != 0):=e;subst e';show PySem.W.truthy_bytes JM ⟨H,I.tok _,q⟩
 |ref p=>
  ext rx;let e':(∃ xs,bC X.K H p xs/\k= !xs.isEmpty)\/(∃ xs,bH X.K H p xs/\k= !xs.isEmpty)\/∃ ii,H p=O (.dK ii)/\k= !ii.isEmpty:=e;rcases e' with⟨xs,hx,e'⟩|⟨xs,hx,e'⟩|⟨ii,hx,e'⟩
  ·subst e';let⟨its,r,pl,hz⟩:=I.list hx;let io:=r.Z;show wpAny_truthy_list pl.isList (by simp only[Þ];lia) ⟨H,I.tok _,by rw[xX r];show q⟩
  ·subst e';let⟨its,r,pl,hz⟩:=I.tuple hx;let io:=r.Z;show truthy_tuple pl (by simp only[Þ];lia) ⟨H,I.tok _,by rw[xX r];show q⟩
  ·subst e';obtain⟨hz,hS,vs,r,m⟩:ii.Z<=sizeLine/\(p==sysModules)=JJ/\∃ vs,KV ii vs/\s.heap.DictOf (eK X.prog X.w) p vs:=I.hok p _ hx;let io:ii.Z=vs.Z:=Ĺ r;show wpAny_truthy_dict hS m JM ⟨H,I.tok _,by rw[IG r];show q⟩
 |_=>show(show False from e).elim
def OY (ha:PE X a ta) (he:∀ whole,isTrue a X.env whole=(do let v <- whole;standAt a.pos;holding [v] (truthy v))) :
  PT X a (λ σ H Q=>ta σ H λ x H'=>∃ k,VN X.K x H' k/\Q k H'):=by
 intro gu s σ H Q I h;show isTrue_plain (dG (ha gu s σ H _ I h) λ v s1 ⟨x,H1,I1,r1,q1⟩=>NS gu s1 σ H1 x v Q I1 r1 q1) (he _)
def HN:jJ X (binaryOp .Add) (λ x y H Q=>∃ i j,x=.o i/\y=.o j/\i.Z+j.Z<=sizeLine/\Q (.o (i++j)) H):=by
 intro gu s σ H x y v u Q I rx ry h;let⟨i,j,Y,Y,hz,q⟩:=h;let⟨t,Y⟩:=rx;let⟨t',Y⟩:=ry;show add_str (λ t' tk=>⟨.o (i++j),H,I.tok _,⟨_,Y⟩,q⟩) hz
def pH  (r:bN [x] us):∃ u,us=[u]/\bE x u:=by
 cases r with
 |cons r1 r2=>ext r2;show⟨_,Y,r1⟩
def VQ  (r:bN [x,y] us):∃ u w',us=[u,w']/\bE x u/\bE y w':=by
 cases r with
 |cons r1 r2=>
  cases r2 with
  |cons r3 r4=>ext r4;show⟨_,_,Y,r1,r3⟩
def AA (hc:X.calm=EA):fU X (.z "max") (λ xs H Q=>∃ i j,xs=[.u i,.u j]/\Q (.u (if j > i then j else i)) H):=by
 intro gu s σ H xs us Q I r h;let⟨i,j,Y,q⟩:=h;let⟨u,w',Y,⟨t,Y⟩,⟨t',Y⟩⟩:=VQ r;show max_two_ints (I.ok.hd hc) λ h' tk k=>⟨_,H,I.kept k,?_,q⟩
 by_cases hj:j > i
 ·rw[Å hj,Å hj];show⟨_,Y⟩
 ·rw[Ä hj,Ä hj];show⟨_,Y⟩
def iE:fU X (.q "int") (λ xs H Q=>(∃ i,xs=[.u i]/\Q (.u i) H)\/∃ k,xs=[.bl k]/\Q (.u (if k then 1 else 0)) H):=by
 intro gu s σ H xs us Q I r h;rcases h with⟨i,rfl,q⟩|⟨k,rfl,q⟩
 ·let⟨u,Y,t,Y⟩:=pH r;show call_int_int ⟨.u i,H,I,⟨_,Y⟩,q⟩
 ·let⟨u,Y,r1⟩:=pH r;ext r1;show call_int_bool ⟨.u (if k then 1 else 0),H,I.tok _,⟨_,Y⟩,q⟩
def LenV (K:Ç) (x:V) (H:Hp) (n:Nat):Prop:=
 match x with
 |.str y=>y.Z<=sizeLine/\n=y.Z
 |.byt y=>y.S<=sizeLine/\n=y.S
 |.ref p=>(∃ xs,bC K H p xs/\n=xs.Z)\/∃ xs,bH K H p xs/\n=xs.Z
 |_=>False
def S5:fU X (.z "len") (λ xs H Q=>∃ x n,xs=[x]/\LenV X.K x H n/\Q (.u n) H):=by
 intro gu s σ H xs us Q I r h;let⟨x,n,Y,e,q⟩:=h;let⟨u,Y,rx⟩:=pH r;let hl:=qK;let hs:sizeLine=16777216:=ê;cases x with
 |str y=>
  let⟨t,Y⟩:=rx;obtain⟨hy,e'⟩:y.Z<=sizeLine/\n=y.Z:=e;subst e';show len_str JM ⟨.u _,H,I.tok _,⟨_,Y⟩,q⟩
 |byt y=>
  let⟨t,Y⟩:=rx;obtain⟨hy,e'⟩:y.S<=sizeLine/\n=y.S:=e;subst e';show PySem.W.len_bytes JM ⟨.u _,H,I.tok _,⟨_,Y⟩,q⟩
 |ref p=>
  ext rx;let e':(∃ xs,bC X.K H p xs/\n=xs.Z)\/∃ xs,bH X.K H p xs/\n=xs.Z:=e;rcases e' with⟨xs,hx,e'⟩|⟨xs,hx,e'⟩
  ·subst e';let⟨its,r',pl,hz⟩:=I.list hx;let io:=r'.Z;show Calls.call_len_list pl.isList (by simp only[Þ];lia) ⟨.u xs.Z,H,I.tok _,⟨_,by simp only[Þ];rw[io]⟩,q⟩
  ·subst e';let⟨its,r',pl,hz⟩:=I.tuple hx;let io:=r'.Z;show len_tuple pl (by simp only[Þ];lia) ⟨.u xs.Z,H,I.tok _,⟨_,by simp only[Þ];rw[io]⟩,q⟩
 |_=>show(show False from e).elim
end
structure ObjM (h:Heap) (x dx C:Á) (mA:Str->Option À):Prop where
 obj:h.get? x=O (PySem.W.instObj C dx)
 ns:h.Ns1 dx mA
 ne:dx≠x
set_option tactic.hygienic true in
def MH {h:Heap}{dx:Á}{mA:Str->Option À} (n:h.Ns1 dx mA):∃ od,h.get? dx=O od/\∀ name,PySem.W.lookIn name od=O (mA name):=by
 let⟨o,es,ep,ho,hd,hk,_,hm⟩:=n;show⟨o,ho,λ name=>?_⟩;let e:=hm name;unfold nsFind findBy at e;rw[<- Array.find?_toList]at e;unfold PySem.W.lookIn;rw[hd];dsimp only
 split
 ·rename_i y q
  rw[q]at e;show congrArg O e
 ·rename_i q
  rw[q]at e;let a:es.toList.any (·.refKey)=false:=by
   rw[List.any_eq_false];intro y hy;let⟨z,t,Nu⟩:=hk y (Array.mem_toList_iff.mp hy);simp[DictEntry.refKey,Nu]
  let a':¬ es.toList.any (·.refKey)=true:=by rw[a];show â
  rw[Ä a'];show congrArg O e
def ObjM.look {x dx C:Á} (I:ObjM h x dx C mA):∃ od,PySem.W.InstAt h x (PySem.W.instObj C dx) C (O od)/\∀ name,PySem.W.lookIn name od=O (mA name):=
 let ⟨od,ho,hl⟩:=MH I.ns
 ⟨od,⟨I.obj,rfl,rfl,ho⟩,hl⟩
section
variable {prog:Ã}{A:Around}{E:À->Â->Prop}{s:Â}{x dx f:Á}{mA:Str->Option À}{name:Str}{v:À}
def VC {Q:À->Â->Prop} (X:K.In s.heap) (I:ObjM s.heap x dx C mA) (hg:PySem.W.plainGet K C name=EA) (hh:PySem.W.hasDictIn K C=EA)
  (ha:PySem.W.findIn K (.y C) name=O W) (hv:mA name=O v) (Bt:PySem.W.handedIn v=EA) (h:Q v { s with toks:=s.M+1 }) :
  wpAny (model prog w) A (getAttr (.y x) name expr) Q E s:=by
 let⟨od,J,hl⟩:=I.look;show PySem.W.get_value X J (afm hg).1 (PySem.W.findObj_own hh ha Y (by rw[hl,hv])) Bt h
def RH {Q:À×List À->Â->Prop} (X:K.In s.heap) (I:ObjM s.heap x dx C mA) (hg:PySem.W.plainGet K C name=EA)
  (hf:PySem.W.findIn K (.y C) name=O (O (.y f))) (ht:PySem.W.isFn K (.y f)=EA) (hv:mA name=W) (h:Q (.y f,[.y x]) s) :
  wpAny (model prog w) A (getMethod (.y x) name pl) Q E s:=by
 let⟨od,J,hl⟩:=I.look;show PySem.W.method_fn X J (afm hg).1 (afm hg).2 hf (beq_iff_eq.mp ht) (by change(PySem.W.lookIn name od).map (·.isSome)=O JJ;rw[hl,hv];rfl) h
def TC {Q:Unit->Â->Prop} (X:K.In s.heap) (I:ObjM s.heap x dx C mA)
  (hs:PySem.W.findIn K (.y C) "__setattr__"=O (O (.z "object.__setattr__"))) (hp:PySem.W.plainOver K C=EA) (ht:PySem.W.takerIn K C name=O W) (hh:PySem.W.hasDictIn K C=EA)
  (hw:PySem.Within mA ns) (hsz:ns.Z<=sizeLine)
  (h:∀ h',ObjM h' x dx C (λ y=>if y=name then O v else mA y)->Heap.SameBut dx s.heap h'->Q () { s with heap:=h',toks:=s.M+2 }) :
  wpAny (model prog w) A (setAttr (.y x) name v) Q E s:=by
 let⟨od,J,hl⟩:=I.look;show PySem.W.set_plain X J hs (PySem.W.osa_open (s:={ s with toks:=s.M+1 }) (r:=W) X J hp ht λ b=>?_);let⟨cd,hc,Gq⟩:=PySem.W.any_some hh;let hx:s.heap.get? x=O ⟨.y C,O dx,.plain,#[]⟩:=I.obj;show Æ (Ë (Æ (Æ (wpAny_loadPart hx (Æ (PySem.W.Looks.here (s:={ s with toks:=s.M+1 }) (PySem.W.looks_clsIn X hc) ?_))))));rw[Gq];show Ë (a:=O dx) (Æ (Ë (Æ ?_)));show wpAny_nsSet1 (s:={ s with toks:=s.M+1 }) I.ns λ h' Lb yb=>?_;let⟨oD,esD,epD,Q_,R_,S_⟩:=Lb.count (PySem.Within.cons name v hw);show Æ (wpAny_lookBehind Q_ (by rw[R_];show pastItsLine_dict (ï S_ (by rw[æ];lia))) ?_);show Ë (h _ ⟨(yb.2 _ (Ne.symm I.ne)).trans I.obj,Lb,I.ne⟩ yb)
def QI {R:Result->Â->Prop}{vs:List À}{kw:List (Str×À)} (X:K.In s.heap) (hm:PySem.W.makesIn K C=EA)
  (hi:PySem.W.findIn K (.y C) "__init__"=O (O (.y f))) (hf:PySem.W.typeIn K (.y f)=O (.q "function"))
  (h:codeAny (model prog w) (A.under (.z "type.__call__" ⟨.y C::vs,kw⟩)) (.call (.y f) ⟨.y (s.L+1)::vs,kw⟩) (PySem.W.InitBack (s.L+1) R)
   { s with heap:=(s.heap.push PySem.W.emptyDict).push (PySem.W.instObj C s.L) }) :
  codeAny (model prog w) A (.call (.y C) ⟨vs,kw⟩) R s:=by
 let⟨hh,g,d,t,os⟩:=s;show PySem.W.make_core (PySem.W.makes_of X hm) (Ũ X hi) (λ self=>PySem.W.bind_fn X self hf) (.p Y) h
end
def cQ (f:Str) (v:V):List (Str×V)->List (Str×V)
 |[]=>[(f,v)]
 |(g,x)::r=>if g=f then(g,v)::r else(g,x)::cQ f v r
theorem uG (f g:Str) (v:V):∀ fs:List (Str×V),(cQ f v fs).lookup g=if g=f then O v else fs.lookup g
 |[]=>by
  change List.lookup g [(f,v)]=_
  by_cases h:g=f
  ·let hb:(g==f)=true:=beq_iff_eq.mpr h;simp only[List.lookup,hb,Å h]
  ·let hb:(g==f)=false:=beq_eq_false_iff_ne.mpr h;simp only[List.lookup,hb,Ä h]
 | (k,x)::r=>by
  let ih:=uG f g v r;rw[show cQ f v ((k,x)::r)=(if k=f then(k,v)::r else(k,x)::cQ f v r)from rfl]
  by_cases hk:k=f
  ·rw[Å hk]
   by_cases h:g=k
   ·let hb:(g==k)=true:=beq_iff_eq.mpr h;simp only[List.lookup,hb,Å (h.trans hk)]
   ·let hb:(g==k)=false:=beq_eq_false_iff_ne.mpr h;simp only[List.lookup,hb,Ä (λ e:g=f=>h (e.trans hk.symm))]
  ·rw[Ä hk]
   by_cases h:g=k
   ·let hb:(g==k)=true:=beq_iff_eq.mpr h;simp only[List.lookup,hb,Ä (λ e:g=f=>hk (h.symm.trans e))]
   ·let hb:(g==k)=false:=beq_eq_false_iff_ne.mpr h;simp only[List.lookup,hb];show ih
theorem tM (f:Str) (v:V):∀ fs:List (Str×V),f∈(cQ f v fs).map (·.1)/\∀ g,g∈fs.map (·.1)->g∈(cQ f v fs).map (·.1)
 |[]=>⟨by simp[cQ],λ g h=>by simp at h⟩
 | (k,x)::r=>by
  let⟨i1,i2⟩:=tM f v r;rw[show cQ f v ((k,x)::r)=(if k=f then(k,v)::r else(k,x)::cQ f v r)from rfl]
  by_cases hk:k=f
  ·rw[Å hk];subst hk;show⟨JN,λ g h=>by simpa using h⟩
  ·rw[Ä hk];show⟨?_,λ g h=>?_⟩
   ·rw[Ø];show Õ _ i1
   ·rw[Ø]at h ⊢;rcases Ð.mp h with e|e
    ·show Ð.mpr (.p e)
    ·show Õ _ (i2 g e)
theorem uH (f:Str) (v:V):∀ fs:List (Str×V),(cQ f v fs).length<=fs.Z+1
 |[]=>by simp[cQ]
 | (k,x)::r=>by
  let ih:=uH f v r;rw[show cQ f v ((k,x)::r)=(if k=f then(k,v)::r else(k,x)::cQ f v r)from rfl]
  by_cases hk:k=f
  ·rw[Å hk,æ,æ];lia
  ·rw[Ä hk,æ,æ];lia
def mS.some_of  (r:mS (O v) o):∃ u,o=O u/\bE v u:=by
 cases o with
 |none=>show(show False from r).elim
 |some u=>show⟨u,Y,r⟩
def mS.none_of  (r:mS W o):o=none:=by
 cases o with
 |none=>rfl
 |some u=>show(show False from r).elim
def MO  (r:bE v u):PySem.W.handedIn u=true:=by
 cases v with
 |non=>cases(show u=Value.none from r);rfl
 |bl b=>cases(show u=Value.bool b from r);rfl
 |int i=>let⟨t,e⟩:=(show ∃ t,u=Value.int i t from r);ext e;rfl
 |str x=>let⟨t,e⟩:=(show ∃ t,u=Value.str x t from r);ext e;rfl
 |byt b=>let⟨t,e⟩:=(show ∃ t,u=Value.bytes b t from r);ext e;rfl
 |flt b=>let⟨t,e⟩:=(show ∃ t,u=Value.float b t from r);ext e;rfl
 |ref a=>cases(show u=Value.ref a from r);rfl
 |ty n=>cases(show u=Value.type n from r);rfl
section
variable {H H':Hp}{h h':Heap}{a dx:Á}{fs Bq:List (Str×V)}
def vC (hok:pY P w H h) (e:H a=O (.ins C dx fs)):∃ mA,ObjM h a dx C mA/\(∀ f,mS (fs.lookup f) (mA f))/\PySem.Within mA (fs.map (·.1))/\fs.Z<=1000/\H dx=O (.own a):=by
 let⟨d,z,ne,ob,mA,n,r,q⟩:=(show dB P w H h a (.ins C dx fs)from hok a _ e);show⟨mA,⟨ob,n,ne⟩,r,q,z,d⟩
end
structure Cls (K:Ç) (C:Á):Prop where
 pg:PySem.W.plainGet K C Str.empty=EA
 hd:PySem.W.hasDictIn K C=EA
 po:PySem.W.plainOver K C=EA
 sa:PySem.W.findIn K (.y C) "__setattr__"=O (O (.z "object.__setattr__"))
def Cls.get {C:Á} (c:Cls K C) (f:Str):PySem.W.plainGet K C f=true:=c.pg
def kC (K:Ç) (C:Á) (f:Str):Prop:=PySem.W.findIn K (.y C) f=O W
def kC.taker {C:Á} (n:kC K C f):PySem.W.takerIn K C f=O none:=by
 unfold PySem.W.takerIn;rw[show PySem.W.findIn K (.y C) f=O W from n];rfl
structure Meth (K:Ç) (C:Á) (m:Str) (f:Á):Prop where
 at_:PySem.W.findIn K (.y C) m=O (O (.y f))
 fn:PySem.W.isFn K (.y f)=EA
 kp:PySem.W.keepIn K (.y f)=EA
section
variable {X:Cx}{gu:List (Á×Obj)}{σ:St}{H:Hp}{s:Â}{a dx:Á}{fs:List (Str×V)}{f:Str}{v:V}{A:Around}{E:À->Â->Prop}
def IJ {Q:À->Â->Prop} (I:Inv X gu σ H s) (e:H a=O (.ins C dx fs)) (c:Cls X.K C) (n:kC X.K C f) (l:fs.lookup f=O v)
  (h:∀ u s',Inv X gu σ H s'->bE v u->Q u s'):wpAny (model X.prog X.w) A (getAttr (.y a) f b) Q E s:=by
 let⟨mA,E8,r,_,_,_⟩:=vC I.hok e;let⟨u,hu,ru⟩:=mS.some_of (v:=v) (o:=mA f) (by rw[<- l];show r f);show VC I.kIn E8 (c.get f) c.hd n hu (MO ru) (h u _ (I.tok _) ru)
def y6 {Q:À×List À->Â->Prop} (I:Inv X gu σ H s) (e:H a=O (.ins C dx fs)) (c:Cls X.K C) (k:Meth X.K C m g) (l:fs.lookup m=W)
  (h:Q (.y g,[.y a]) s):wpAny (model X.prog X.w) A (getMethod (.y a) m pl) Q E s:=by
 let⟨mA,E8,r,_,_,_⟩:=vC I.hok e;let hn:mA m=none:=mS.none_of (by rw[<- l];show r m);show RH I.kIn E8 (c.get m) k.at_ k.fn hn h
def HA {Q:Unit->Â->Prop} (I:Inv X gu σ H s) (e:H a=O (.ins C dx fs)) (c:Cls X.K C) (n:kC X.K C f) (hl:fs.Z < 1000) (ry:bE y u)
  (h:∀ s',Inv X gu σ (upd H a (.ins C dx (cQ f y fs))) s'->Q () s'):wpAny (model X.prog X.w) A (setAttr (.y a) f u) Q E s:=by
 let⟨mA,E8,r,wi,_,ho⟩:=vC I.hok e;let hz:(fs.map (·.1)).length<=sizeLine:=by rw[Ê,ê];lia
 show TC I.kIn E8 c.sa c.po n.taker c.hd wi hz λ h' O' sb=>h _ ?_;let hd:∃ o,h'.get? dx=O o:=let ⟨o,_,_,e',_⟩:=O'.ns;⟨o,e'⟩;show I.write (x:=a) (e:=dx) (by rw[e];show True.intro) (.x ho) (λ b q hb z=>(sb.2 b hb).trans z) hd ?_;show⟨by rw[aK E8.ne];show ho,?_,E8.ne,O'.obj,_,O'.ns,λ g=>?_,λ g hg=>?_⟩
 ·let:=uH f y fs;lia
 ·change mS ((cQ f y fs).lookup g) (if g=f then O u else mA g);rw[uG]
  by_cases q:g=f
  ·rw[Å q,Å q];show ry
  ·rw[Ä q,Ä q];show r g
 ·by_cases q:g=f
  ·rw[q];show(tM f y fs).1
  ·show(tM f y fs).2 g (wi g λ z=>hg ?_);change(if g=f then O u else mA g)=W;rw[Ä q];show z
def Inv.made (I:Inv X gu σ H s):Inv X gu σ (upd (upd H s.heap.objs.size (.own (s.L+1))) (s.L+1) (.ins C s.heap.objs.size []))
  { s with heap:=(s.heap.push PySem.W.emptyDict).push (PySem.W.instObj C s.L) }:=by
 let e1:(s.heap.push PySem.W.emptyDict).get? s.L=O PySem.W.emptyDict:=Ü s.heap rfl;let e2:((s.heap.push PySem.W.emptyDict).push (PySem.W.instObj C s.L)).get? (s.L+1)=O (PySem.W.instObj C s.L):=by
  let:=Ü (s.heap.push PySem.W.emptyDict) (o:=PySem.W.instObj C s.L) rfl
  rwa [ĉ]at this
 let e3:(s.heap.push PySem.W.emptyDict).Ns s.heap.objs.size (λ _=>W):=⟨PySem.W.emptyDict,#[],_,e1,rfl,(λ e he=>absurd he JN),λ _=>rfl⟩;let I1:=I.laid (a:=s.L) (o:=.own (s.L+1)) (h':=s.heap.push PySem.W.emptyDict) (t':=s.M) (λ b u q=>Î _ q) (Í _) ⟨_,e1⟩;show I1.laid (a:=s.L+1) (o:=.ins C s.heap.objs.size []) (t':=s.M) (λ b u q=>Î _ q) (Ļ (ĉ _ _)) ?_;let ne:s.heap.objs.size≠s.L+1:=ä (agm _);show⟨by rw[aK ne,aD],ß _,ne,e2,λ _=>W,(Heap.Ns1.of_empty e3).at λ o q=>Î _ q,λ _=>True.intro,λ y hy=>absurd Y hy⟩
def VH {prog:Ã}{pos:Pos}{s:Â}{Q:À->Â->Prop} (hb:attributeBase e f env (eval e env)=eval e env)
  (h:wpAny (model prog w) A (eval e env) (λ o ai=>wpAny (model prog w) A (getAttr o f EA) Q E ai) E s):wpAny (model prog w) A (eval (.E e f pos) env) Q E s:=
 Attribute_any_ h (by rw[arm_eval_Attribute,hb])
end
def ZE (K:Ç) (ta:TE) (f:Str):TE:=λ σ H Q=>ta σ H λ x H1=>∃ a C dx fs v,x=.y a/\H1 a=O (.ins C dx fs)/\Cls K C/\kC K C f/\fs.lookup f=O v/\Q v H1
def ZK (K:Ç) (ta tv:TE) (f:Str):TS:=λ D σ H=>tv σ H λ y H1=>ta σ H1 λ x H2=>∃ a C dx fs,x=.y a/\H2 a=O (.ins C dx fs)/\Cls K C/\kC K C f/\fs.Z < 1000/\
 D.nx σ (upd H2 a (.ins C dx (cQ f y fs)))
section
def XV (he:PE X e ta) (hb:attributeBase e f X.env (eval e X.env)=eval e X.env):PE X (.E e f pos) (ZE X.K ta f):=by
 intro gu s σ H Q I h;show VH hb (dG (he gu s σ H _ I h) λ u s1 ⟨x,H1,I1,rx,a,C,dx,fs,v,ex,ea,c,n,l,q⟩=>?_);subst ex;obtain rfl:u=Value.ref a:=rx;show IJ I1 ea c n l λ u' s2 I2 ru=>⟨v,H1,I2,ru,q⟩
def XO (ha:PE X o ta) (hv:PE X value tv) (hs:swapsWith value (O (.E o f pos')) pos.line X.env=pure JJ):PS X (.Assign [.E o f pos'] value pos) (ZK X.K ta tv f):=by
 intro gu s σ H D I h;show plainObj_wpAny_Assign_Attribute (dG (hv gu s σ H _ I h) λ u s1 ⟨y,H1,I1,ry,q⟩=>dG (ha gu s1 σ H1 _ I1 q) λ ov s2 ⟨x,H2,I2,rx,a,C,dx,fs,ex,ea,c,n,l,q2⟩=>?_) hs;subst ex;obtain rfl:ov=Value.ref a:=rx;show HA I2 ea c n l ry λ s3 I3=>⟨σ,_,I3,q2⟩
end
section
variable {X:Cx}{gu:List (Á×Obj)}{σ:St}{H:Hp}{s:Â}{A:Around}{E:À->Â->Prop}{Q:À->Â->Prop}{c:À}{b:Bool}
inductive TyOf (K:Ç) (H:Hp):V->À->Prop where
 |non:TyOf K H .non (.type "NoneType")
 |bl (x:Bool):TyOf K H (.bl x) (.type "bool")
 |int (i:Int):TyOf K H (.int i) (.type "int")
 |str (x:Str):TyOf K H (.str x) (.type "str")
 |flt (x:UInt64):TyOf K H (.flt x) (.type "float")
 |lst {a:Á}{xs:List V} (e:H a=O (.lst xs)):TyOf K H (.ref a) (.type "list")
 |frz {a:Á}{o:Obj}{xs:List V} (e:H a=O (.frz o (.lst xs))):TyOf K H (.ref a) (.type "list")
 |tup {a:Á}{xs:List V} (e:H a=O (.tup xs)):TyOf K H (.ref a) (.type "tuple")
 |dK {a:Á}{ii:List (gS×V)} (e:H a=O (.dK ii)):TyOf K H (.ref a) (.type "dict")
 |dT {a:Á}{ii:List (List gS×V)} (e:H a=O (.dT ii)):TyOf K H (.ref a) (.type "dict")
 |ins {a C dx:Á}{fs:List (Str×V)} (e:H a=O (.ins C dx fs)) (cl:Cls K C) (ha:PySem.W.findIn K (.ref C) "__class__"=O (O (.builtin "object.__class__")))
   (hn:PySem.W.specialIn K (.z "object.__class__") "__get__"=O (O (.z "getset_descriptor.__get__"))) (htk:PySem.W.takesIn K (.z "object.__class__")=O EA)
   (hm:PySem.W.mroIn K C (.q "object")=O EA):TyOf K H (.y a) (.y C)
def lT  (I:Inv X gu σ H s) (rx:bE x u) (ty:TyOf X.K H x t) (e:PySem.W.kitOne X.K t c=O b) (h:∀ tk,Q (.I b) { s with toks:=tk }) :
  wpAny (model X.prog X.w) A (call (.z "isinstance") [u,c]) Q E s:=by
 cases ty with
 |non=>cases(show u=Value.none from rx);show ą PySem.W.kitx_none I.kIn True.intro e (λ z=>nomatch z) h
 |bl y=>cases(show u=Value.bool y from rx);show ą PySem.W.kitx_bool I.kIn True.intro e (λ z=>nomatch z) h
 |int i=>let⟨t,q⟩:=(show ∃ t,u=Value.int i t from rx);ext q;show ą PySem.W.kitx_int I.kIn True.intro e (λ z=>nomatch z) h
 |str y=>let⟨t,q⟩:=(show ∃ t,u=Value.str y t from rx);ext q;show ą PySem.W.kitx_str I.kIn True.intro e (λ z=>nomatch z) h
 |flt y=>let⟨t,q⟩:=(show ∃ t,u=Value.float y t from rx);ext q;show ą PySem.W.kitx_float I.kIn True.intro e (λ z=>nomatch z) h
 | @lst a xs ea=>
  cases(show u=Value.ref a from rx);let⟨_,_,n,_,h1⟩:=(show dB X.prog X.w H s.heap a (.j xs)from I.hok a _ ea);show ą af5 I.kIn ⟨_,h1,Y⟩ e (λ z=>nomatch z) h
 | @frz a ob xs ea=>
  cases(show u=Value.ref a from rx);let⟨_,_,_,n,_,h1⟩:=(show dB X.prog X.w H s.heap a (.frz ob (.j xs))from I.hok a _ ea);show ą af5 I.kIn ⟨_,h1,Y⟩ e (λ z=>nomatch z) h
 | @tup a xs ea=>
  cases(show u=Value.ref a from rx);let⟨_,_,_,p⟩:=(show dB X.prog X.w H s.heap a (.v xs)from I.hok a _ ea);let⟨o,h1,h2,_⟩:=p;show ą afw I.kIn ⟨o,h1,h2⟩ e (λ z=>nomatch z) h
 | @dK a ii ea=>
  cases(show u=Value.ref a from rx);let⟨_,_,vs,_,p⟩:=(show dB X.prog X.w H s.heap a (.dK ii)from I.hok a _ ea);let⟨o,es,ep,h1,h2,_⟩:=p;show ą PySem.W.kitx_dict I.kIn ⟨o,h1,h2.1⟩ e (λ z=>nomatch z) h
 | @dT a ii ea=>
  cases(show u=Value.ref a from rx);let⟨_,_,xs,_,o,es,ep,h1,h2,_⟩:=(show dB X.prog X.w H s.heap a (.dT ii)from I.hok a _ ea);show ą PySem.W.kitx_dict I.kIn ⟨o,h1,h2.1⟩ e (λ z=>nomatch z) h
 | @ins a C dx fs ea cl ha hn Gu hm=>
  cases(show u=Value.ref a from rx);let⟨mA,E8,_⟩:=vC I.hok ea;let⟨od,J,_⟩:=E8.look;show ą (PySem.W.kitx_own (cl.get _) cl.hd ha hn Gu hm) I.kIn J e (λ z=>nomatch z) h
end
structure Room (k:Nat) (A:Around):Prop where
 hd:A.handled=W
 dp:A.depth+3 * k+5 < recursionLimit
 un:A.R+16 * k+200 < cLine
def Room.mono  (r:Room k A) (h:j<=k):Room j A:=⟨r.hd,by let:=r.dp;lia,by let:=r.un;lia⟩
def Room.deeper  (r:Room (k+1) A) (env:Env):Room k (A.deeper env):=
 ⟨r.hd,by let:=r.dp;change A.depth+1+3 * k+5 < _;lia,by let:=r.un;change A.R+3+16 * k+200 < _;lia⟩
def IC {A:Around}{C:Á}{us:List À}{kw:List (Str×À)}:(A.under (.z "type.__call__" ⟨.y C::us,kw⟩)).depth=A.depth+1:=by
 first|rfl|simp[Around.under,Code.weight,Code.isCreation,Code.isGuard,Code.isCaller,Code.frames,Code.isFrame,guardIds]
def IB {A:Around}{C:Á}{us:List À}{kw:List (Str×À)}:(A.under (.z "type.__call__" ⟨.y C::us,kw⟩)).units=A.R+1:=by
 first|rfl|simp[Around.under,Code.cUnits,Code.frames,Code.isFrame]
def Room.make  (r:Room (k+1) A) (C:Á) (us:List À) (kw:List (Str×À)):Room k (A.under (.z "type.__call__" ⟨.y C::us,kw⟩)):=
 ⟨r.hd,by let:=r.dp;rw[IC];lia,by let:=r.un;rw[IB];lia⟩
def Room.depth  (r:Room k A):A.depth < recursionLimit:=by let:=r.dp;lia
def Room.units  (r:Room k A):A.R+64 < cLine:=by let:=r.un;lia
def jC:TA:=λ _ H Q=>Q [] H
def dJ (ta:TE) (tr:TA):TA:=λ σ H Q=>ta σ H λ x H1=>tr σ H1 λ xs H2=>Q (x::xs) H2
section
def aB:PA X [] jC:=λ _ _ _ _ H Q I h=>af6 ⟨[],H,I,.nil,h⟩
def a9 (ha:PE X e te) (hr:PA X es t) (hs:autoParam (starEach (e::es) X.env=(JJ,eval e X.env)::starEach es X.env) _0):PA X (e::es) (dJ te t):=by
 intro pos gu s σ H Q I h;rw[hs];change wpAny _ _ (spliced ((JJ,eval e X.env)::backTo pos (starEach es X.env))) _ _ s;show Ŕ (dG (ha gu s σ H _ I h) λ u s1 ⟨x,H1,I1,r1,q1⟩=>?_);show dG (hr pos gu s1 σ H1 _ I1 q1) λ us s2 ⟨xs,H2,I2,r2,q2⟩=>⟨x::xs,H2,I2,.B r1 r2,q2⟩
def tTup (t:TA):TE:=λ σ H Q=>t σ H λ xs H1=>xs.Z<=sizeLine/\∀ p,H1 p=W->Q (.y p) (upd H1 p (.v xs))
def SZ (t:TA):TE:=λ σ H Q=>t σ H λ xs H1=>xs.Z<=sizeLine/\∀ p,H1 p=W->Q (.y p) (upd H1 p (.j xs))
def bG {x1} (h:PA X es t):PE X (.rq es x1 pos) (tTup t):=by
 intro gu s σ H Q I hq;show wpAny_Tuple_spliced (dG (h pos gu s σ H _ I hq) λ us s1 ⟨xs,H1,I1,r,z,q⟩=>⟨by rw[<- r.Z];show z,?_⟩);let hf:H1 s1.L=none:=I1.hok.fresh (Í _);show⟨.y s1.L,upd H1 s1.heap.objs.size (.v xs),I1.laid (t':=s1.M) (λ b u e=>Î _ e) (Í _) ?_,Y,q _ hf⟩;show⟨z,us,r,⟨_,Ü _ Y,Y,_,Y⟩⟩
def aY (h:PA X es t):PE X (.List es pos) (SZ t):=by
 intro gu s σ H Q I hq;show wpAny_List_spliced (dG (h pos gu s σ H _ I hq) λ us s1 ⟨xs,H1,I1,r,z,q⟩=>⟨by rw[<- r.Z];show z,?_⟩);let hf:H1 s1.L=none:=I1.hok.fresh (Í _);show⟨.y s1.L,upd H1 s1.heap.objs.size (.j xs),I1.laid (t':=s1.M) (λ b u e=>Î _ e) (Í _) ?_,Y,q _ hf⟩;show⟨z,us,0,r,Ü _ Y⟩
end
abbrev Sp:=List V->Hp->VK->XK->Prop
abbrev GH:=List Env->Hp->Â->XK->À->Â->Prop
structure Env0 (P:Ã) (w:World) (K:Ç) (mg:Str->Option À) (base:Heap) (A:Around) (outer:List Env) (s:Â) (H:Hp):Prop where
 frames:A.frames=O outer
 mod:Mod K mg base
 bs:∀ b o,base.get? b=O o->s.heap.get? b=O o/\H b=W
 bsz:base.objs.S<=s.L
 funs:s.heap.FunFrames base outer
 frf:∀ b∈mP outer,H b=W
 hok:pY P w H s.heap
 bare:AllBare s.gens
def CE (outer:List Env) (P:Ã) (w:World) (H:Hp) (s:Â) (Q:VK) (u:À) (s':Â):Prop:=
 ∃ v H',s'.os=s.os/\AllBare s'.gens/\Un (mP outer) [] H H' s.heap s'.heap/\pY P w H' s'.heap/\bE v u/\Q v H'
def CR (CX:GH) (outer:List Env) (P:Ã) (w:World) (H:Hp) (s:Â) (Q:VK) (E:XK) (r:Result) (s':Â):Prop:=
 match r with
 |.ok (.ret u)=>CE outer P w H s Q u s'
 |.ok _=>False
 |.error e=>CX outer H s E e s'
structure FnOk (P:Ã) (w:World) (K:Ç) (mg:Str->Option À) (base:Heap) (CX:GH) (k:Nat) (f:Á) (fd:FuncData) (ps:List Str) (sp:Sp):Prop where
 len:∀ vs H Q E,sp vs H Q E->vs.Z=ps.Z
 run:∀(A:Around) (outer:List Env) (s:Â) (H:Hp) (args:Args) (us:List À) (vs:List V) (Q:VK) (E:XK),Room k A->Env0 P w K mg base A outer s H->BindsTo s fd args (ps.zip us)->bN vs us->sp vs H Q E->
  codeAny (model P w) A (.call (.y f) args) (CR CX outer P w H s Q E) s
def FnOk.imp {P:Ã}{mg:Str->Option À}{CX:GH}{k:Nat}{f:Á}{fd:FuncData}{ps:List Str}{sp Ub:Sp} (F:FnOk P w K mg base CX k f fd ps sp)
  (h:∀ vs H Q E,Ub vs H Q E->sp vs H Q E):FnOk P w K mg base CX k f fd ps Ub:=
 ⟨λ vs H Q E q=>F.len vs H Q E (h _ _ _ _ q),λ A outer s H args us vs Q E hr he hb hv hs=>F.run A outer s H args us vs Q E hr he hb hv (h _ _ _ _ hs)⟩
def Env0.make {P:Ã}{mg:Str->Option À}{A:Around}{outer:List Env}{s:Â}{H:Hp} (e:Env0 P w K mg base A outer s H) (C:Á) (us:List À) (kw:List (Str×À)) :
  Env0 P w K mg base (A.under (.z "type.__call__" ⟨.y C::us,kw⟩)) outer s H:=⟨by first|show e.frames|(simpa [Around.under,Code.envs,Code.isFrame,pushEnvs]using e.frames),e.mod,e.bs,e.bsz,e.funs,e.frf,e.hok,e.bare⟩
section
variable {X:Cx}{gu:List (Á×Obj)}{σ:St}{H:Hp}{s s':Â}
def Inv.env0 (I:Inv X gu σ H s):Env0 X.prog X.w X.K X.mg X.base X.A X.stack s H:=
 ⟨I.ok.frames,I.ok.mod,I.bs,ï I.ok.bsz I.sz,I.stack,I.stkFree,I.hok,I.bare⟩
def Inv.after  (I:Inv X gu σ H s) (h:CE X.stack X.prog X.w H s Q u s'):EP X gu σ Q u s':=by
 let⟨v,H',os,bare,un,hok,r,q⟩:=h;let⟨hh,g,d,t,T_⟩:=s';obtain rfl:T_=s.os:=os;show⟨v,H',I.call (h':=hh) (g':=g) (d':=d) (t':=t) (ch:=[]) un hok bare (λ b z=>absurd z JN),r,q⟩
end
def qU (sp:Sp) (se:List V) (E:XK) (t:TA):TE:=λ σ H Q=>t σ H λ vs H1=>sp (vs++se) H1 Q E
def VT (C:Á) (m:Str) (sp:Sp) (se:List V) (E:XK) (ta:TE) (t:TA):TE:=λ σ H Q=>ta σ H λ x H1=>∃ a dx fs,x=.y a/\H1 a=O (.ins C dx fs)/\fs.lookup m=W/\
 t σ H1 λ vs H2=>sp (x::(vs++se)) H2 Q E
def VU (C:Á) (sp:Sp) (se:List V) (E:XK) (t:TA):TE:=λ σ H Q=>t σ H λ vs H1=>∀ x dx,H1 x=W->H1 dx=W->dx≠x->
 sp (.y x::(vs++se)) (upd (upd H1 dx (.own x)) x (.ins C dx [])) (λ v H2=>v=.non/\Q (.y x) H2) E
def gW (K:Ç) (fd:FuncData) (ps:List Str) (ds:List À):Prop:=
 ∀(s:Â) (us:List À),K.In s.heap->(us++ds).length=ps.Z->BindsTo s fd ⟨us,[]⟩ (ps.zip (us++ds))
def gW.all {ps:List Str} (h:∀ us:List À,us.Z=ps.Z->bindArgs fd ⟨us,[]⟩=pure (ps.zip us)):gW K fd ps []:=λ s us _ hl=>by
 rw[þ]at hl ⊢;show .of_eq (h us hl)
def j8 (CX:GH) (X:Cx) (E:XK):Prop:=∀(gu:List (Á×Obj)) (σ:St) (H:Hp) (s:Â) (e:À) (s':Â),Inv X gu σ H s->CX X.stack H s E e s'->X.xe e s'
section
variable {X:Cx}{CX:GH}{k:Nat}{f:Á}{fd:FuncData}{ps:List Str}{sp:Sp}{se:List V}{ds:List À}{E:XK}{x m:Str}{p pos apos:Pos}{e o:Expr}{es:List Expr}{ta:TE}{t:TA}
set_option tactic.hygienic true in
def BB {σ:St}{us:List À}{vs:List V} (F:FnOk X.prog X.w X.K X.mg X.base CX k f fd ps sp) (hr:Room k X.A) (hb:gW X.K fd ps ds) (hd:bN se ds) (hx:j8 CX X E)
  (I:Inv X gu σ H s) (r:bN vs us) (h:sp (vs++se) H Q E):wpAny (model X.prog X.w) X.A (call (.y f) us) (EP X gu σ Q) X.xe s:=by
 let r2:bN (vs++se) (us++ds):=r.append hd;let hl:(us++ds).length=ps.Z:=by rw[<- r2.Z];show F.len _ _ _ _ h
 show ň (Ň (F.run X.A X.stack s H ⟨us,[]⟩ (us++ds) (vs++se) Q E hr I.env0 (hb s us I.kIn hl) r2 h) λ r s' hq=>?_);cases r with
 |error e=>show hx gu σ H s e s' I hq
 |ok fl=>
  cases fl with
  |ret u=>show I.after hq
  |next=>show False.elim hq
  |brk=>show False.elim hq
  |cont=>show False.elim hq
def bZ (F:FnOk X.prog X.w X.K X.mg X.base CX k f fd ps sp) (hr:Room k X.A) (hg:Gl X x) (hm:X.mg x=O (.y f)) (hk:PySem.W.keepIn X.K (.y f)=EA) (hb:gW X.K fd ps ds) (hd:bN se ds) (hx:j8 CX X E)
  (ha:PA X (e::es) t) (ze:autoParam ((x==("__debug__":Str))=false) _2) (he:autoParam (starEach (e::es) X.env=(JJ,eval e X.env)::starEach es X.env) _0) (pj:autoParam ((backTo pos (starEach es X.env)).any (·.1)=false) _0) :
  PE X (.rj (.C x p) (e::es) [] pos) (qU sp se E t):=by
 intro gu s σ H Q I h;show Ĵ (kW I hg hm ?_ ze);show ŕ (h₀:=X.base) I.ok.mod.kin hk (dG (ha pos gu s σ H _ I h) λ us s1 ⟨vs,H1,I1,r,q⟩=>⟨I1.kIn,?_⟩) he pj;show BB F hr hb hd hx I1 r q
def kU {pl:Sem Bool} (he:PE X o ta) (c:Cls X.K C) (hm:Meth X.K C m f) (F:FnOk X.prog X.w X.K X.mg X.base CX k f fd ps sp) (hr:Room k X.A) (hb:gW X.K fd ps ds) (hd:bN se ds) (hx:j8 CX X E) (ha:PA X (e::es) t)
  (rj:autoParam (starEach (e::es) X.env=(JJ,eval e X.env)::starEach es X.env) _0) (pj:autoParam ((backTo pos (starEach es X.env)).any (·.1)=false) _0)
  (ht:autoParam (eval (.rj (.E o m apos) (e::es) [] pos) X.env=(do
   let ov <- eval o X.env
   standAt apos.atName
   let (f,first) <- holding [ov] (getMethod ov m pl)
   callWith pos f first (backTo pos (starEach (e::es) X.env)) (backToKw pos (keywordEach [] X.env)))) _0) :
  PE X (.rj (.E o m apos) (e::es) [] pos) (VT C m sp se E ta t):=by
 intro gu s σ H Q I h;show PySem.W.methodCall_KW (pl:=pl) (dG (he gu s σ H _ I h) λ u s1 ⟨x,H1,I1,rx,a,dx,fs,ex,ea,l,q⟩=>?_) ht;subst ex;obtain rfl:u=Value.ref a:=rx;show y6 I1 ea c hm l ?_;show ŕ (first:=[.y a]) (h₀:=X.base) I.ok.mod.kin hm.kp (dG (ha pos gu s1 σ H1 _ I1 q) λ us s2 ⟨vs,H2,I2,r,q2⟩=>⟨I2.kIn,?_⟩) rj pj;show BB (us:=.y a::us) (vs:=.y a::vs) F hr hb hd hx I2 (.B Y r) q2
def gB {pl:Sem Bool} (he:PE X o ta) (c:Cls X.K C) (hm:Meth X.K C m f) (F:FnOk X.prog X.w X.K X.mg X.base CX k f fd ps sp) (hr:Room k X.A) (hb:gW X.K fd ps ds) (hd:bN se ds) (hx:j8 CX X E)
  (ht:autoParam (eval (.rj (.E o m apos) [] [] pos) X.env=(do
   let ov <- eval o X.env
   standAt apos.atName
   let (f,first) <- holding [ov] (getMethod ov m pl)
   callWith pos f first (backTo pos (starEach [] X.env)) (backToKw pos (keywordEach [] X.env)))) _0) :
  PE X (.rj (.E o m apos) [] [] pos) (VT C m sp se E ta jC):=by
 intro gu s σ H Q I h;show PySem.W.methodCall_KW (pl:=pl) (dG (he gu s σ H _ I h) λ u s1 ⟨x,H1,I1,rx,a,dx,fs,ex,ea,l,q⟩=>?_) ht;subst ex;obtain rfl:u=Value.ref a:=rx;show y6 I1 ea c hm l ?_;show PySem.W.callWith_K0 (first:=[.y a]) I1.kIn hm.kp (BB (us:=[.y a]) (vs:=[.y a]) F hr hb hd hx I1 (.B Y .nil) q)
structure Mk (K:Ç) (C f:Á):Prop where
 makes:PySem.W.makesIn K C=EA
 init:PySem.W.findIn K (.y C) "__init__"=O (O (.y f))
 fn:PySem.W.isFn K (.y f)=EA
 kp:PySem.W.keepIn K (.y C)=EA
set_option tactic.hygienic true in
def OH {σ:St}{us:List À}{vs:List V} (M:Mk X.K C f) (F:FnOk X.prog X.w X.K X.mg X.base CX k f fd ps sp) (hr:Room (k+1) X.A) (hb:gW X.K fd ps ds) (hd:bN se ds)
  (hx:j8 CX X E) (I:Inv X gu σ H s) (r:bN vs us)
  (h:∀ x dx,H x=W->H dx=W->dx≠x->sp (.y x::(vs++se)) (upd (upd H dx (.own x)) x (.ins C dx [])) (λ v H2=>v=.non/\Q (.y x) H2) E) :
  wpAny (model X.prog X.w) X.A (call (.y C) us) (EP X gu σ Q) X.xe s:=by
 let hq:=h (s.L+1) s.heap.objs.size (I.hok.fresh (Nat.le_succ _)) (I.hok.fresh (Í _)) (ä (agm _));let I2:=Inv.made (C:=C) I;let r2:bN (V.ref (s.L+1)::(vs++se)) (Value.ref (s.L+1)::(us++ds)):=.B rfl (r.append hd);let hl:(Value.ref (s.L+1)::us++ds).length=ps.Z:=by
  let e:=r2.Z;rw[F.len _ _ _ _ hq]at e;show e.symm
 show ň (QI (f:=f) I.kIn M.makes M.init (beq_iff_eq.mp M.fn) (Ň (F.run _ X.stack _ _ ⟨Value.ref (s.L+1)::us,[]⟩ (Value.ref (s.L+1)::(us++ds)) _ _ E (hr.make C us [])
  (I2.env0.make C us []) (hb _ (Value.ref (s.L+1)::us) I2.kIn hl) r2 hq) λ r s' ux=>?_))
 cases r with
 |error e=>show hx gu σ _ _ e s' I2 ux
 |ok fl=>
  cases fl with
  |ret u=>
   let⟨v,H',I3,rv,ev,q3⟩:=I2.after ux;subst ev;show⟨rv,⟨V.ref (s.L+1),H',I3,Y,q3⟩⟩
  |next=>show False.elim ux
  |brk=>show False.elim ux
  |cont=>show False.elim ux
def BN (M:Mk X.K C f) (F:FnOk X.prog X.w X.K X.mg X.base CX k f fd ps sp) (hr:Room (k+1) X.A) (hg:Gl X x) (hm:X.mg x=O (.y C)) (hb:gW X.K fd ps ds) (hd:bN se ds) (hx:j8 CX X E)
  (ha:PA X (e::es) t) (ze:autoParam ((x==("__debug__":Str))=false) _2) (he:autoParam (starEach (e::es) X.env=(JJ,eval e X.env)::starEach es X.env) _0) (pj:autoParam ((backTo pos (starEach es X.env)).any (·.1)=false) _0) :
  PE X (.rj (.C x p) (e::es) [] pos) (VU C sp se E t):=by
 intro gu s σ H Q I h;show Ĵ (kW I hg hm ?_ ze);show ŕ (h₀:=X.base) I.ok.mod.kin M.kp (dG (ha pos gu s σ H _ I h) λ us s1 ⟨vs,H1,I1,r,q⟩=>⟨I1.kIn,?_⟩) he pj;show OH M F hr hb hd hx I1 r q
end
section
end
structure FnScope (N P:List Str) (sc:Scope):Prop where
 kind:sc.kind=.function:=by rfl
 co:sc.isCoroutine=false:=by rfl
 gen:sc.isGenerator=false:=by rfl
 nd:N.Nodup:=by decide +kernel
 pre:N.take P.Z=P:=by rfl
 par:∀ x∈P,sc.names.lookup x=O .local\/sc.names.lookup x=O .cell:=by decide +kernel
 nofree:∀ y∈sc.names,y.2≠.free:=by decide +kernel
theorem AB {kindOf:Str->Option NameKind}:∀ {binds:List (Str×À)}{m:Str->Option À},(∀ v,(x,v)∉binds)->bindL kindOf binds m x=m x
 |[],_,_=>rfl
 | (n,v)::r,m,h=>by
  unfold bindL;rw[AB λ w hw=>h w (Õ _ hw)]
  split
  ·let:x≠n:=by rintro rfl;show h v è
   simp[this]
  ·rfl
theorem AD {kindOf:Str->Option NameKind}:∀ {binds:List (Str×À)}{m:Str->Option À},(∀ v,(x,v)∉binds)->bindC kindOf binds m x=m x
 |[],_,_=>rfl
 | (n,v)::r,m,h=>by
  unfold bindC;rw[AD λ w hw=>h w (Õ _ hw)]
  split
  ·rfl
  ·let:x≠n:=by rintro rfl;show h v è
   simp[this]
theorem AC {kindOf:Str->Option NameKind}:∀ {P:List Str}{vs:List À}{i:Nat}{m:Str->Option À},P.Nodup->P[i]?=O x->vs[i]?=O v->kindOf x=O .local->
  bindL kindOf (P.zip vs) m x=O v
 |[],_,_,_,_,h,_,_=>by simp at h
 |_::_,[],_,_,_,_,h,_=>by simp at h
 |p::P,w::vs,0,m,nd,h1,h2,hk=>by
  simp at h1 h2;subst h1;subst h2;change bindL kindOf ((p,w)::P.zip vs) m p=_;unfold bindL;rw[AB λ v hv=>(õ.mp nd).1 (Ś hv).1,Å hk];simp
 |p::P,w::vs,i+1,m,nd,h1,h2,hk=>by
  change bindL kindOf ((p,w)::P.zip vs) m x=_;unfold bindL;show AC (i:=i) (õ.mp nd).2 (by simpa using h1) (by simpa using h2) hk
theorem AE {kindOf:Str->Option NameKind}:∀ {P:List Str}{vs:List À}{i:Nat}{m:Str->Option À},P.Nodup->P[i]?=O x->vs[i]?=O v->kindOf x≠O .local->
  bindC kindOf (P.zip vs) m x=O v
 |[],_,_,_,_,h,_,_=>by simp at h
 |_::_,[],_,_,_,_,h,_=>by simp at h
 |p::P,w::vs,0,m,nd,h1,h2,hk=>by
  simp at h1 h2;subst h1;subst h2;change bindC kindOf ((p,w)::P.zip vs) m p=_;unfold bindC;rw[AD λ v hv=>(õ.mp nd).1 (Ś hv).1,Ä hk];simp
 |p::P,w::vs,i+1,m,nd,h1,h2,hk=>by
  change bindC kindOf ((p,w)::P.zip vs) m x=_;unfold bindC;show AE (i:=i) (õ.mp nd).2 (by simpa using h1) (by simpa using h2) hk
def kJ (N:List Str) (vs:List V):St:=vs.map O++List.replicate (N.Z - vs.Z) W
def oN (CX:GH) (P:Ã) (w:World) (K:Ç) (mg:Str->Option À) (base:Heap) (N:List Str) (qual:Str) (scope:Scope) (f:Á) (cd:À) (A:Around) (outer:List Env) (s:Â) (H:Hp) (E:XK):Cx where
 prog:=P
 w:=w
 K:=K
 mg:=mg
 base:=base
 A:=A.deeper (envOfC qual scope s.heap.objs.size f cd)
 N:=N
 s₀:=s
 H₀:=H
 env:=envOfC qual scope s.heap.objs.size f cd
 outer:=outer
 stack:=envOfC qual scope s.heap.objs.size f cd::outer
 ex:=[]
 calm:=EA
 fn:=λ _=>EA
 pn:=[]
 xe:=λ e s'=>wpAny (model P w) (A.deeper (envOfC qual scope s.heap.objs.size f cd)) (leaving (envOfC qual scope s.heap.objs.size f cd) e) (λ _ yc=>CX outer H s E e yc) (λ e' yc=>CX outer H s E e' yc) s'
def G0 {sc:Scope} (h:sc.names.lookup x=O .cell):∃ c,(cellsFrom n sc.names []).lookup x=O c:=by
 let q:=aey sc.names n [] (.p h);show Option.isSome_iff_exists.mp q
def A1 {CX:GH}{P:Ã}{w:World}{K:Ç}{mg:Str->Option À}{base:Heap}{N ps:List Str}{qual:Str}{scope:Scope}{f:Á}{cd:À}{A:Around}{outer:List Env}{s s1:Â}{H:Hp}{E:XK}{us:List À}{vs:List V}
  (S:FnScope N ps scope) (hd:A.handled=W) (e0:Env0 P w K mg base A outer s H) (hl:vs.Z=ps.Z) (r:bN vs us)
  (x:InCallC s s.heap.objs.size (bindL (envOfC qual scope s.heap.objs.size f cd).kindOf (ps.zip us) λ _=>W) (cellsFrom (s.L+1) scope.names []) (bindC (envOfC qual scope s.heap.objs.size f cd).kindOf (ps.zip us) λ _=>W) s1) :
  Inv (oN CX P w K mg base N qual scope f cd A outer s H E) [] (kJ N vs) H s1:=by
 let pj:ps.Z<=N.Z:=by let:=congrArg List.length S.pre;rw[ô]at this;lia
 let⟨h1,tk,Y,hk⟩:=x.done;let Cr:∀ b:Á,b∉(oN CX P w K mg base N qual scope f cd A outer s H E).ex:=λ b z=>absurd (show b∈([]:List Á) from z) JN;show⟨⟨e0.mod,S.kind,Y,Y,Í _,λ y z c h1 h2=>?_,λ y hy=>?_,λ y c _ h=>?_,λ _=>hd,Around.frames_deeper e0.frames,.x ⟨Y,Y⟩,λ b z=>absurd z (Cr b),e0.bs,e0.bsz,λ b _ _=>Cr b,λ b z=>absurd z (Cr b),e0.funs,e0.frf⟩,
  rfl,e0.bare,Un.kept hk,⟨_,x.toInCall.ns,λ i y v h1 h2 h3=>?_⟩,λ y c h=>⟨_,x.cell y c h⟩,e0.hok.fresh (Í _),λ y c h=>?_,λ p hp=>absurd (show p∈([]:List (Á×Obj))from hp) JN,e0.hok.kept hk,?_⟩
 ·show name_of_addr x.apart (Ĉ h1) (Ĉ h2)
 ·let hy:scope.names.lookup y=O .cell\/scope.names.lookup y=O .free:=hy;rcases hy with hy|hy
  ·show G0 hy
  ·show absurd Y (S.nofree _ (Ĉ hy))
 ·show ğ (x.above y c (Ĉ h))
 ·let hi:i < vs.Z:=by
   unfold kJ at h2
   by_cases hi:i < vs.Z
   ·show hi
   ·rw[Š (by simpa using hi)] at h2;rw[age] at h2
    split at h2 <;> cases h2
  let ha:vs[i]?=O v:=by
   unfold kJ at h2;rw[š (by simpa using hi),Ö]at h2;cases e:vs[i]? with
   |none=>rw[e]at h2;cases h2
   |some a=>rw[e]at h2;ext h2;rfl
  let⟨u,hu,rv⟩:=r.get ha;let hp:ps[i]?=O y:=by
   rw[<- S.pre,aeq JM];show h1
  let Lc:ps.Nodup:=by rw[<- S.pre];show S.nd.sublist (List.take_sublist _ _)
  show⟨u,rv,?_⟩;rcases S.par y (Ô hp)with k|k
  ·show .p ⟨k,AC Lc hp hu k⟩
  ·let⟨c,e⟩:=G0 (n:=s.L+1) k;show .x ⟨.p k,c,e,?_⟩;let q:=x.cell y c e;rw[AE Lc hp hu (by change scope.names.lookup y≠_;rw[k];decide)]at q;show q
 ·show e0.hok.fresh (ğ (x.above y c (Ĉ h)))
 ·unfold kJ;change _=N.Z;rw[Ý,Ê,List.length_replicate];lia
set_option tactic.hygienic true in
def RN {CX:GH}{P:Ã}{w:World}{K:Ç}{mg:Str->Option À}{base:Heap}{k:Nat}{f:Á}{name qual:Str}{params:Arguments}{body:List Stmt}{scope:Scope}{dV kV doc pm ir ct oc:À}{an od:Option Á}
  {uy:Array (Option À)}{N ps:List Str}{sp:Sp} (lk:K.lookup f=O ⟨oc,od,.func (PySem.W.fnOf name qual params body scope dV kV doc pm an ir ct),uy⟩) (qi:PySem.W.codeIn K ir qual=EA) (S:FnScope N ps scope)
  (len:∀ vs H Q E,sp vs H Q E->vs.Z=ps.Z)
  (lq:∀(A:Around) (outer:List Env) (s:Â) (H:Hp) (vs:List V) (Q:VK) (E:XK),Room k (A.deeper (envOfC qual scope s.heap.objs.size f ir))->sp vs H Q E->
   ∃ t,DM (oN CX P w K mg base N qual scope f ir A outer s H E) body t/\t { nx:=λ _ H'=>Q .non H',rt:=Q } (kJ N vs) H) :
  FnOk P w K mg base CX (k+1) f (PySem.W.fnOf name qual params body scope dV kV doc pm an ir ct) ps sp:=by
 show⟨len,λ A outer s H args us vs Q E hr e0 hb r lw=>?_⟩;let hl:=len _ _ _ _ lw;let KX:K.In s.heap:=e0.mod.kin.keeps λ b o e=>(e0.bs b o e).1;let jr:s.heap.NoLimit:=e0.mod.nolimit.keeps λ b o e=>(e0.bs b o e).1;let zf:∀ y∈ps.zip us,scope.names.lookup y.1=O .local\/(scope.names.lookup y.1=O .cell/\((cellsFrom (s.L+1) scope.names []).lookup y.1).isSome=EA):=λ⟨n,v⟩ hy=>by
  rcases S.par n (Ś hy).1 with q|q
  ·show .p q
  ·show .x ⟨q,aey _ _ _ (.p q)⟩
 show codeAny_call_function hr.depth (KX _ _ lk) Y S.co S.gen Y (PySem.W.codeRec_of KX qi) (hb _ _ _ _ ?_);show wpAny_newFunctionEnv_cells S.kind zf λ env he s1 x=>?_;subst he;show⟨jr.keeps x.toInCall.keep,codeAny_func ?_⟩;let⟨t,ht,hq⟩:=lq A outer s H vs Q E (hr.deeper _) lw;let I:Inv (oN CX P w K mg base N qual scope f ir A outer s H E) [] (kJ N vs) H s1:=A1 S hr.hd e0 hl r x;show î (ht [] s1 (kJ N vs) H _ I hq) (λ fl s' hs=>?_) λ e s' hs=>hs;let fin:∀ {ac:St}{H':Hp}{v:V}{u:À},Inv (oN CX P w K mg base N qual scope f ir A outer s H E) [] ac H' s'->bE v u->Q v H'->CE outer P w H s Q u s':=
  λ {ac H' v u} J rv q=>⟨v,H',J.os,J.bare,J.base,J.hok,rv,q⟩
 cases fl with
 |ret u=>
  let⟨v,ac,H',J,rv,q⟩:=hs;show fin J rv q
 |next=>
  let⟨ac,H',J,q⟩:=hs;show fin (v:=V.non) (u:=Value.none) J Y q
 |brk=>
  let⟨_,_,_,q⟩:=hs;show False.elim q
 |cont=>
  let⟨_,_,_,q⟩:=hs;show False.elim q
section
variable {X:Cx}{x:Str}{p pos:Pos}{e:Expr}{es:List Expr}{t:TA}{id T:String}{r:List V->Hp->VK->Prop}
def SN (r:List V->Hp->VK->Prop) (t:TA):TE:=λ σ H Q=>t σ H λ vs H1=>r vs H1 Q
def bJ (hc:fU X (.z id) r) (hg:Gl X x) (hm:X.mg x=W) (hv:bootBuiltins x=O (.z id)) (ha:PA X (e::es) t) (hn:autoParam (x ≠ "__name__") _2) (ze:autoParam ((x==("__debug__":Str))=false) _2)
  (he:autoParam (starEach (e::es) X.env=(JJ,eval e X.env)::starEach es X.env) _0) (pj:autoParam ((backTo pos (starEach es X.env)).any (·.1)=false) _0):PE X (.rj (.C x p) (e::es) [] pos) (SN r t):=by
 intro gu s σ H Q I h;show Ĵ (qL I hg hm hv ?_ hn ze);show PyProof.Rows.callWith_builtin1 (dG (ha pos gu s σ H _ I h) λ us s1 ⟨vs,H1,I1,r1,q1⟩=>hc gu s1 σ H1 vs us Q I1 r1 q1) he pj
def aP (hc:fU X (.q T) r) (hg:Gl X x) (hm:X.mg x=W) (hv:bootBuiltins x=O (.q T)) (ha:PA X (e::es) t) (hn:autoParam (x ≠ "__name__") _2) (ze:autoParam ((x==("__debug__":Str))=false) _2)
  (he:autoParam (starEach (e::es) X.env=(JJ,eval e X.env)::starEach es X.env) _0) (pj:autoParam ((backTo pos (starEach es X.env)).any (·.1)=false) _0):PE X (.rj (.C x p) (e::es) [] pos) (SN r t):=by
 intro gu s σ H Q I h;show Ĵ (qL I hg hm hv ?_ hn ze);show Ō (dG (ha pos gu s σ H _ I h) λ us s1 ⟨vs,H1,I1,r1,q1⟩=>hc gu s1 σ H1 vs us Q I1 r1 q1) he pj
end
end L2
namespace HT
open PySem PyProof.Rows
section
open PySem.SeqAt
open PySem.AutoSeq1 (wpAny_loadPart')
open PySem.MeetsSeq PySem.MeetsSeq2 PySem.MeetsSeq3
end
section
variable {prog:Ã}{A:Around}{E:À->Â->Prop}{s:Â}
def cat_tup {t b:Á}{vs ws:List À}{Q:À->Â->Prop} (ht:IsTup s.heap t vs.J) (hb:IsTup s.heap b ws.J) (hv:vs≠[])
  (h1:ws=[]->Q (.y t) s) (h2:ws≠[]->Q (.y s.L) { s with heap:=s.heap.push { cls:=.q "tuple",data:=.V (vs++ws).toArray } })
  (hsz:vs.Z+ws.Z<=sizeLine):wpAny (model prog w) A (binaryOp .Add (.y t) (.y b)) Q E s:=by
 let⟨⟨cls,dd,data,sl⟩,ho,hc,n,hd⟩:=id ht;let⟨⟨Gv,Bu,data2,Bv⟩,Aj,ye,n2,hd2⟩:=id hb;simp only at hc hd ye hd2;subst hc hd ye hd2;let e:vs.J++ws.J=(vs++ws).toArray:=by simp
 by_cases hw:ws=[]
 ·show concat_meets ⟨_,ho,Y⟩ ⟨_,Aj,Y⟩ agn seq_tuple_add aez aeu (aer _ _)
   (tuple_addW1 t b vs.toArray ws.toArray n n2 dd Bu sl Bv (by simpa using hv) (by simp[hw])) ⟨ho,Aj,h1 hw⟩
 ·show concat_meets ⟨_,ho,Y⟩ ⟨_,Aj,Y⟩ agn seq_tuple_add aez aeu (aer _ _)
   (tuple_addW2 t b vs.toArray ws.toArray n n2 dd Bu sl Bv (by simpa using hv) (by simpa using hw) (by rw[Þ,Þ];show hsz)) ⟨ho,Aj,?_⟩
  rw[e];show h2 hw
def sIx (n d:Nat):Option Int->Nat
 |none=>d
 |some v=>if v < 0 then(v+(n:Int)).toNat else min v.toNat n
def sIx_none (n d:Nat):sIx n d W=d:=rfl
def sIx_nat (n d k:Nat):sIx n d (O (k:Int))=min k n:=by
 change(if (k:Int) < 0 then((k:Int)+(n:Int)).toNat else min (k:Int).toNat n)=min k n;rw[Ä JM,af8]
def XD (n d:Nat) (hd:d<=n) (o:Option Int):sIx n d o<=n:=by
 cases o with
 |none=>show hd
 |some v=>
  change(if v < 0 then(v+(n:Int)).toNat else min v.toNat n)<=n
  by_cases hv:v < 0
  ·rw[Å hv];lia
  ·rw[Ä hv];show Nat.min_le_right _ _
def KR (v:Int) (n d:Nat):(if v < 0 then max (v+(n:Int)) 0 else min v (n:Int))=((sIx n d (O v):Nat):Int):=by
 change(if v < 0 then max (v+(n:Int)) 0 else min v (n:Int))=(((if v < 0 then(v+(n:Int)).toNat else min v.toNat n):Nat):Int)
 by_cases hv:v < 0
 ·simp only[Å hv];lia
 ·simp only[Ä hv];lia
def IP (lo hi:Option Int) (n:Nat):Builtin.Slice.sliceAdjust lo hi 1 (n:Int)=(((sIx n 0 lo:Nat):Int),((sIx n n hi:Nat):Int)):=by
 let h1:¬ ((1:Int) < 0):=by lia
 unfold Builtin.Slice.sliceAdjust;simp only[h1,if_false];show Prod.ext ?_ ?_
 ·cases lo with
  |none=>rfl
  |some v=>show KR v n 0
 ·cases hi with
  |none=>rfl
  |some v=>show KR v n n
def HG (i j:Nat):Builtin.Slice.slicePlaces (i:Int) (j:Int) 1=j - i:=by
 unfold Builtin.Slice.slicePlaces;let h1:(1:Int) > 0:=by lia
 simp only[h1,if_true,Int.ediv_one]
 split <;> lia
def wF {v:À}{Q:Option Int->Â->Prop} (p:IsPart v o) (h:Q o s):wpAny (model prog w) A (Builtin.Slice.slicePartIndex v) Q E s:=by
 cases p with
 |none=>show slicePart_none h
 |int i t=>show slicePart_int h
def sX {sl:Á}{vl vu:À}{lo hi:Option Int}{Q:Int×Int×Nat->Â->Prop} (hs:s.heap.IsSliceOf sl vl vu .none) (pl:IsPart vl lo) (pu:IsPart vu hi)
  (h:Q (((sIx n 0 lo:Nat):Int),1,sIx n n hi - sIx n 0 lo) s):wpAny (model prog w) A (Builtin.Slice.sliceApplied (.y sl) (pure (n:Int))) Q E s:=by
 let⟨os,Gw,Fh,Ld⟩:=id hs;unfold Builtin.Slice.sliceApplied Builtin.Slice.sliceFields;show Æ (Æ (ì Gw Ld (x:=vl) Y (Æ (ì Gw Ld (x:=vu) Y (Æ (ì Gw Ld (x:=.none) Y (Ë ?_)))))));show Æ (slicePart_none ?_);change wpAny _ _ (if ((1:Int)== 0)=EA then _ else _) _ _ s;rw[Ä JL];show Æ (wF pl (Æ (wF pu (Æ (Ë ?_)))));change wpAny _ _ (match Builtin.Slice.sliceAdjust lo hi 1 (n:Int)with|(lo,hi)=>pure (lo,(1:Int),Builtin.Slice.slicePlaces lo hi 1)) _ _ s;rw[IP lo hi n];change wpAny _ _ (pure (((sIx n 0 lo:Nat):Int),(1:Int),Builtin.Slice.slicePlaces ((sIx n 0 lo:Nat):Int) ((sIx n n hi:Nat):Int) 1)) _ _ s;rw[HG];show Ë h
def P3 (xs:Array À) (i k:Nat):((List.range k).filterMap λ(m:Nat)=>xs[((i:Int)+(m:Int) * 1).toNat]?).toArray=((xs.toList.drop i).take k).toArray:=by
 let e:(λ(m:Nat)=>xs[((i:Int)+(m:Int) * 1).toNat]?)=λ m=>xs[i+m]?:=by
  funext m;let:((i:Int)+(m:Int) * 1).toNat=i+m:=by lia
  rw[this]
 rw[e];let:=pick_run xs i k;rw[List.filterMap_map]at this;let e2:((λ x=>xs[x]?) ∘ λ x=>i+x)=λ m=>xs[i+m]?:=rfl;rw[e2]at this;rw[this]
def getItem_tuple_cut {t sl:Á}{items:Array À}{vl vu:À}{lo hi:Option Int}{Q:À->Â->Prop} (ht:IsTup s.heap t items) (hs:s.heap.IsSliceOf sl vl vu .none) (pl:IsPart vl lo) (pu:IsPart vu hi)
  (hw:¬ (sIx items.size 0 lo=0/\sIx items.size items.size hi=items.S))
  (h:Q (.y s.L) { s with heap:=s.heap.push { cls:=.q "tuple",data:=.V ((items.toList.drop (sIx items.size 0 lo)).take (sIx items.size items.size hi - sIx items.size 0 lo)).toArray } })
  (hsz:items.S<=sizeLine):wpAny (model prog w) A (getItem (.y t) (.y sl)) Q E s:=by
 let xc:sizeOk (.V ((items.toList.drop (sIx items.size 0 lo)).take (sIx items.size items.size hi - sIx items.size 0 lo)).toArray):=by
  change((items.toList.drop (sIx items.size 0 lo)).take (sIx items.size items.size hi - sIx items.size 0 lo)).toArray.size<=sizeLine;rw[Þ,ô,Ű,afk];lia
 let hj:sIx items.size items.size hi<=items.S:=XD _ _ (Í _) hi;let⟨os,Gw,Fh,Ld⟩:=id hs;let V_:s.TypeIs (.y sl) "slice" :=⟨os,Gw,Fh⟩;unfold getItem
 try with_reducible show ó ?_
 first|show Æ (Ë ?_)|skip
 show Æ (wpAny_sequenceKey ht.typeIs JL ?_);show Æ (Ŏ (name:=Str.ofString "__getitem__") ht.typeIs ae5
  (Ĝ ae5 ht.typeIs entry_tuple_getitem ?_ (args_tuple_getitem _ _)))
 change wpAny _ _ (Builtin.Tuple.tupleItemsOf (.y t) >>= _) _ _ s;show Æ (tupleItemsOf_ ht ?_);show Æ (wpAny_typeOf V_ ?_);rw[Å JL];show Æ (sX hs pl pu ?_);let Fi:¬ ((((sIx items.size 0 lo:Nat):Int)== 0 && (1:Int)== 1 && (sIx items.size items.size hi - sIx items.size 0 lo)==items.S)=EA):=by
  intro q;rw[ģ,ģ]at q;let q1:((sIx items.size 0 lo:Nat):Int)=0:=eq_of_beq q.1.1;let q2:sIx items.size items.size hi - sIx items.size 0 lo=items.S:=eq_of_beq q.2;show hw ⟨JM,JM⟩
 change wpAny _ _ (if (((sIx items.size 0 lo:Nat):Int)== 0 && (1:Int)== 1 && (sIx items.size items.size hi - sIx items.size 0 lo)==items.S)=EA then _ else _) _ _ s;rw[Ä Fi,P3]
 first
  |show Æ (m:=Builtin.Tuple.tupleExact _) (Ģ (Ë ⟨_,Y,Ë h⟩) xc)
  |show Æ (m:=Builtin.Tuple.tupleExact _) (Ģ (Æ (Ë (Ë ⟨_,Y,Ë h⟩))) xc)
  |show Æ (Æ (m:=Builtin.Tuple.tupleExact _) (Ģ (Ë (Ë ⟨_,Y,Ë h⟩)) xc))
  |show Æ (Æ (m:=Builtin.Tuple.tupleExact _) (Ģ (Ë ⟨_,Y,Ë h⟩) xc))
end
end HT
namespace L2
open PySem PySem.Spec PyProof.Rows
abbrev TO:=St->Hp->(Option Int->Hp->Prop)->Prop
def PO (X:Cx) (e:Option Expr) (t:TO):Prop:=
 ∀(gu:List (Á×Obj)) (s:Â) (σ:St) (H:Hp) (Q:Option Int->Hp->Prop),Inv X gu σ H s->t σ H Q->
  wpAny (model X.prog X.w) X.A (evalPart e X.env) (λ u s'=>∃ o H',Inv X gu σ H' s'/\IsPart u o/\Q o H') X.xe s
def SY:TO:=λ _ H Q=>Q W H
def ZB (t:TE):TO:=λ σ H Q=>t σ H λ x H1=>∃ i,x=.u i/\Q (O i) H1
def IH :∀ {us:List À},bN (ns.map V.int) us->IntsAre us ns:=by
 induction ns with
 |nil=>intro us r;rw[Ă]at r;ext r;show .nil
 |cons n ns ih=>
  intro us r;rw[Ø]at r;cases r with
  |cons r1 r2=>
   let⟨t,e⟩:=r1;subst e;show .B n t (ih r2)
section
variable {X:Cx}{e:Expr}{te:TE}{lo hi:Option Expr}{tl th:TO}{pos p2:Pos}
def BI:PO X W SY:=by
 intro gu s σ H Q I h;rw[evalPart_none];show Ë ⟨W,H,I,.none,h⟩
def BH (h:PE X e te):PO X (O e) (ZB te):=by
 intro gu s σ H Q I hw;rw[evalPart_some];show dG (h gu s σ H _ I hw) λ u s1 ⟨x,H1,I1,r1,q1⟩=>?_;let⟨i,Y,q⟩:=q1;let⟨t,Y⟩:=r1;show⟨O i,H1,I1,.u i t,q⟩
def SlR (X:Cx) (r:V->Option Int->Option Int->Hp->VK->Prop):Prop:=
 ∀(gu:List (Á×Obj)) (s:Â) (σ:St) (H:Hp) (x:V) (v vl vu:À) (lo hi:Option Int) (sl:Á) (Q:VK),Inv X gu σ H s->bE x v->s.heap.IsSliceOf sl vl vu .none->IsPart vl lo->IsPart vu hi->r x lo hi H Q->
  ∃ T id,typeLookup (.q T) "__getitem__" =pure (O (.z id))/\s.TypeIs v T/\wpAny (model X.prog X.w) X.A (getItem v (.y sl)) (EP X gu σ Q) X.xe s
def tSl (r:V->Option Int->Option Int->Hp->VK->Prop) (te:TE) (tl th:TO):TE:=λ σ H Q=>te σ H λ x H1=>tl σ H1 λ l H2=>th σ H2 λ u H3=>r x l u H3 Q
def wT  (hr:SlR X r) (he:PE X e te) (hl:PO X lo tl) (hu:PO X hi th):PE X (.Y e (.Slice lo hi W p2) pos) (tSl r te tl th):=by
 intro gu s σ H Q I h;show Subscript_ (dG (he gu s σ H _ I h) λ v s1 ⟨x,H1,I1,r1,q1⟩=>?_);show wpAny_Slice (dG (hl gu s1 σ H1 _ I1 q1) λ vl s2 ⟨l,H2,I2,pl,q2⟩=>dG (hu gu s2 σ H2 _ I2 q2) λ vu s3 ⟨u,H3,I3,pu,q3⟩=>?_);rw[evalPart_none];show Ë ?_;let I4:Inv X gu σ H3 { s3 with heap:=s3.heap.push { cls:=.q "slice",data:=.U #[vl,vu,.none] } }:=I3.kept (t':=s3.M) λ b ob q=>Î _ q;let⟨T,id,hT,ht,hg⟩:=hr gu { s3 with heap:=s3.heap.push { cls:=.q "slice",data:=.U #[vl,vu,.none] } } σ H3 x v vl vu l u s3.heap.objs.size Q I4 r1 (Heap.IsSliceOf.new ..) pl pu q3;change wpAny (model X.prog X.w) X.A (subscriptTail e (.Slice lo hi W p2) v (.y s3.L)) (EP X gu σ Q) X.xe { s3 with heap:=s3.heap.push { cls:=.q "slice",data:=.U #[vl,vu,.none] } };show tail_any (ops:=[.y s3.L,v]) ht hT hg (by with_unfolding_all rfl)
def tQ (xs:List V) (lo hi:Option Int):List V:=(xs.drop (HT.sIx xs.length 0 lo)).take (HT.sIx xs.length xs.length hi - HT.sIx xs.length 0 lo)
def uJ (xs:List V) (lo hi:Option Int):(tQ xs lo hi).length<=xs.Z:=by
 unfold tQ;rw[ô,Ű];lia
def ZN (K:Ç):V->Option Int->Option Int->Hp->VK->Prop:=λ x lo hi H Q=>∃ a xs,x=.y a/\bH K H a xs/\
 ¬ (HT.sIx xs.length 0 lo=0/\HT.sIx xs.length xs.length hi=xs.Z)/\∀ p,H p=W->Q (.y p) (upd H p (.v (tQ xs lo hi)))
def XB:SlR X (ZN X.K):=by
 intro gu s σ H x v vl vu lo hi sl Q I rx hs pl pu h;let⟨a,xs,Y,hx,hw,q⟩:=h;ext rx;let⟨its,r,ht,hz⟩:=I.tuple hx;let io:its.toArray.S=xs.Z:=by rw[Þ];show r.length.symm
 show⟨"tuple",_,PyProof.Rows.slot_tuple_getitem.lookup,ht.typeIs,?_⟩;show HT.getItem_tuple_cut ht hs pl pu (by rw[io];show hw) ?_ (by rw[io];show hz);rw[io];show⟨.y s.L,_,I.laid (t':=s.M) (o:=.v (tQ xs lo hi)) (λ b ob q=>Î _ q) (Í _) ?_,Y,q _ (I.hok.fresh (Í _))⟩;show⟨ï (uJ xs lo hi) hz,_,(r.drop (HT.sIx xs.length 0 lo)).take (HT.sIx xs.length xs.length hi - HT.sIx xs.length 0 lo),IsTup.new _ _⟩
def W9 (K:Ç):R2:=λ x y H Q=>∃ a b xs ys,x=.y a/\y=.y b/\bH K H a xs/\bH K H b ys/\xs≠[]/\xs.Z+ys.Z<=sizeLine/\
 (ys=[]->Q (.y a) H)/\(ys≠[]->∀ p,H p=W->Q (.y p) (upd H p (.v (xs++ys))))
def bN.nil_iff  (r:bN xs us):us=[]↔xs=[]:=by
 cases r with
 |nil=>simp
 |cons _ _=>simp
def K0:jJ X (binaryOp .Add) (W9 X.K):=by
 intro gu s σ H x y v u Q I rx ry h;let⟨a,b,xs,ys,Y,Y,ha,hb,hx,hz,q1,q2⟩:=h;ext rx;ext ry;let⟨its,r1,p1,_⟩:=I.tuple ha;let⟨pd,r2,p2,_⟩:=I.tuple hb;show HT.cat_tup p1 p2 (λ z=>hx (r1.nil_iff.mp z)) (λ z=>⟨.y a,H,I,Y,q1 (r2.nil_iff.mp z)⟩) (λ z=>?_) (by rw[<- r1.Z,<- r2.Z];show hz);show⟨.y s.L,_,I.laid (t':=s.M) (o:=.v (xs++ys)) (λ b ob q=>Î _ q) (Í _) ?_,Y,q2 (λ w=>z (r2.nil_iff.mpr w)) _ (I.hok.fresh (Í _))⟩;show⟨by rw[Ý];show hz,_,r1.append r2,IsTup.new _ _⟩
end
def R0 (n:Nat) (i:Int):Option Nat:=if 0<=i then(if i < n then O i.Q else W)else if -(n:Int)<=i then O (i+n).toNat else W
def KU {ag:Type} (xs:List ag) (i:Int):Option ag:=(R0 xs.length i).bind λ j=>xs[j]?
def KC  (h:R0 n i=O j):seqIndex? i n=O j/\j < n/\-(n:Int)<=i/\i < n:=by
 unfold R0 at h
 by_cases h0:0<=i
 ·rw[Å h0]at h
  by_cases h1:i < n
  ·rw[Å h1]at h;let e:i.Q=j:=ñ h;show⟨by rw[seqIndex_of h0 h1,e],JM,JM,h1⟩
  ·rw[Ä h1]at h;cases h
 ·rw[Ä h0]at h
  by_cases h1 : -(n:Int)<=i
  ·rw[Å h1]at h;let e:(i+n).toNat=j:=ñ h;show⟨by rw[seqIndex_neg JM h1,e],JM,h1,JM⟩
  ·rw[Ä h1]at h;cases h
def DG {ag:Type}{xs:List ag}{v:ag} (h:KU xs i=O v):∃ j,seqIndex? i xs.Z=O j/\xs[j]?=O v/\j < xs.Z/\-(xs.Z:Int)<=i/\i < xs.Z:=by
 unfold KU at h;cases e:R0 xs.length i with
 |none=>rw[e]at h;cases h
 |some j=>
  rw[e]at h;let⟨h1,h2,h3,h4⟩:=KC e;show⟨j,h1,h,h2,h3,h4⟩
def hW {ag:Type}{xs:List ag}{j:Nat}{v:ag} (h:xs[j]?=O v):KU xs (j:Int)=O v:=by
 let hj:j < xs.Z:=(à.mp h).1;let e:R0 xs.length (j:Int)=O j:=by
  unfold R0;rw[Å JM,Å JM];simp
 unfold KU;rw[e];show h
def iO {ag:Type} (xs:List ag) (v:ag):KU (xs++[v]) (-1)=O v:=by
 let hl:(xs++[v]).length=xs.Z+1:=by simp
 let e:R0 (xs++[v]).length (-1)=O xs.Z:=by
  unfold R0;rw[hl,Ä JL,Å JM];congr 1;lia
 unfold KU;rw[e];change(xs++[v])[xs.Z]?=O v;simp
def LA (b:Expr):Prop:=∀ o i,subscripted b JJ o i=operate [o,i] (getItem o i)
def NK (X:Cx) (r:R2):Prop:=
 ∀(value slice:Expr) (gu:List (Á×Obj)) (s:Â) (σ:St) (H:Hp) (x y:V) (v u:À) (Q:VK),Inv X gu σ H s->bE x v->bE y u->r x y H Q->
  subscripted slice JJ v u=operate [v,u] (getItem v u)->wpAny (model X.prog X.w) X.A (subscriptTail value slice v u) (EP X gu σ Q) X.xe s
def NJ (X:Cx) (id:String) (r:V->List V->Hp->VK->Prop):Prop:=
 ∀(gu:List (Á×Obj)) (s:Â) (σ:St) (H:Hp) (x:V) (xs:List V) (v:À) (us:List À) (Q:VK),Inv X gu σ H s->bE x v->bN xs us->r x xs H Q->
  wpAny (model X.prog X.w) X.A (call (.z id) (v::us)) (EP X gu σ Q) X.xe s
section
variable {X:Cx}{a b:Expr}{ta tb:TE}{pos:Pos}
def NK.or  (h:NK X r) (h':NK X r'):NK X (λ x y H Q=>r x y H Q\/r' x y H Q):=by
 intro value slice gu s σ H x y v u Q I rx ry q hs;rcases q with q|q
 ·show h value slice gu s σ H x y v u Q I rx ry q hs
 ·show h' value slice gu s σ H x y v u Q I rx ry q hs
def P8  (hr:NK X r) (ha:PE X a ta) (hb:PE X b tb) (hs:LA b):PE X (.Y a b pos) (lC r ta tb):=by
 intro gu s σ H Q I h;show Subscript_ (YL ha hb I h λ v u s2 x y H2 I2 rx ry q=>hr a b gu s2 σ H2 x y v u Q I2 rx ry q (hs _ _))
def ZS (K:Ç):R2:=λ x y H Q=>∃ p xs i v,x=.y p/\y=.u i/\bC K H p xs/\KU xs i=O v/\Q v H
def ZQ (K:Ç):R2:=λ x y H Q=>∃ p xs i v,x=.y p/\y=.u i/\bH K H p xs/\KU xs i=O v/\Q v H
def ZR:R2:=λ x y H Q=>∃ z i c,x=.o z/\y=.u i/\z.Z<=sizeLine/\KU z.cps.toList i=O c/\Q (.o ⟨#[c]⟩) H
def V9:NK X (ZS X.K):=by
 intro value slice gu s σ H x y v u Q I rx ry h hs;let⟨p,xs,i,z,Y,Y,hq,he,q⟩:=h;ext rx;let⟨t,Y⟩:=ry;let⟨its,r,pl,hz⟩:=I.list hq;let⟨j,h1,h2,h3,h4,h5⟩:=DG he;let⟨w,ew,uw⟩:=r.get h2;let hl:=r.Z;let hn:=qK;let fin:EP X gu σ Q w s:=⟨z,H,I,uw,q⟩
 by_cases h0:0<=i
 ·let hj:i.Q=j:=by
   rw[seqIndex_of h0 h5]at h1;show ñ h1
  show item_listR pl.isList h0 JM (by rw[hj];simpa using ew) fin hs
 ·let hj:(i+(its.toArray.S:Int)).toNat=j:=by
   rw[seqIndex_neg JM h4]at h1;rw[Þ,<- hl];show ñ h1
  show ae0 (x:=w) pl.isList.typeIs slot_list_getitem.lookup
   (wpAny_getItem_list_neg (Q:=λ r s'=>r=w/\EP X gu σ Q r s') pl.isList JM (by rw[Þ] <;> lia) JM (by rw[hj];simpa using ew) ⟨rfl,fin⟩) hs
def Y8:NK X (ZQ X.K):=by
 intro value slice gu s σ H x y v u Q I rx ry h hs;let⟨p,xs,i,z,Y,Y,hq,he,q⟩:=h;ext rx;let⟨t,Y⟩:=ry;let⟨its,r,pl,hz⟩:=I.tuple hq;let⟨j,h1,h2,h3,h4,h5⟩:=DG he;let⟨w,ew,uw⟩:=r.get h2;let hl:=r.Z;let hn:=qK;let fin:EP X gu σ Q w s:=⟨z,H,I,uw,q⟩;show ae0 (x:=w) pl.typeIs slot_tuple_getitem.lookup
  (getItem_tuple (j:=j) (Q:=λ r s'=>r=w/\EP X gu σ Q r s') pl JM JM (by rw[Þ,<- hl];show h1) (by simpa using ew) ⟨rfl,fin⟩) hs
def Y9:NK X ZR:=by
 intro value slice gu s σ H x y v u Q I rx ry h hs;let⟨z,i,c,Y,Y,hz,he,q⟩:=h;let⟨t,Y⟩:=rx;let⟨t',Y⟩:=ry;let⟨j,h1,h2,h3,h4,h5⟩:=DG he;let hl:z.cps.toList.Z=z.Z:=by simp[Str.length]
 rw[hl]at h1 h4 h5;let hn:=qK;show tail_any (Ŋ s z t) slot_str_getitem.lookup (getItem_str (c:=c) (by
  let e1:decide (i < -(2 ^ 63:Int))=false:=ò JM;let e2:decide (i ≥ 2 ^ 63)=false:=ò JM;rw[e1,e2,Bool.or_false]) (by rw[h1];simpa using h2) ⟨.o ⟨#[c]⟩,H,I.tok _,⟨_,Y⟩,q⟩) hs
def HE (K:Ç):R2:=λ x y H Q=>ZS K x y H Q\/ZQ K x y H Q\/ZR x y H Q
def YA:NK X (HE X.K):=V9.or (Y8.or Y9)
def IA (its:List À) (n j:Nat) (u:À):Obj.mapSeq (·.setIfInBounds j u) { cls:=.q "list",data:=.V its.toArray n }={ cls:=.q "list",data:=.V (its.set j u).toArray n }:=by
 simp[Obj.mapSeq]
def Inv.lst {σ:St}{xs:List V} (I:Inv X gu σ H s) (h:H p=O (.j xs)) :
  ∃(its:List À) (n:Nat),bN xs its/\s.heap.get? p=O { cls:=.q "list",data:=.V its.toArray n }/\xs.Z<=sizeLine:=by
 let⟨z,its,n,r,e⟩:=I.hok p _ h;show⟨its,n,r,e,z⟩
def Inv.lstUpd {σ:St}{xs ys:List V}{its its':List À}{n n':Nat}{f:Obj->Obj} (I:Inv X gu σ H s) (h:H p=O (.j xs))
  (ho:s.heap.get? p=O { cls:=.q "list",data:=.V its.toArray n }) (hf:f { cls:=.q "list",data:=.V its.toArray n }={ cls:=.q "list",data:=.V its'.toArray n' }) (r:bN ys its') (hz:ys.Z<=sizeLine) (t:Nat) :
  Inv X gu σ (upd H p (.j ys)) { s with heap:=s.heap.update p f,toks:=t }:=by
 let e:(s.heap.update p f).get? p=O { cls:=.q "list",data:=.V its'.toArray n' }:=by
  rw[afb f ho (by rw[hf] <;> rfl),hf]
 show I.write (x:=p) (e:=p) (by rw[h];trivial) (.p Y) (λ b u hb q=>(Heap.get?_update_other _ _ (Ne.symm hb)).trans q) ⟨_,e⟩ ?_;show⟨hz,its',n',r,e⟩
def EF:V->V->V->Hp->(Hp->Prop)->Prop:=λ o i v H Q=>∃ p xs k j,o=.y p/\i=.u k/\H p=O (.j xs)/\R0 xs.length k=O j/\Q (upd H p (.j (xs.set j v)))
def jD:YR X EF:=by
 intro gu s σ H o i v ov iv u Q I ro ri rv h;let⟨p,xs,k,j,Y,Y,hp,hj,q⟩:=h;ext ro;let⟨t,Y⟩:=ri;let⟨its,n,r,ho,hz⟩:=I.lst hp;let⟨h1,h2,h3,h4⟩:=KC hj;let hl:=r.Z;let hn:=qK;let I':Inv X gu σ (upd H p (.j (xs.set j v))) { s with heap:=s.heap.update p (Obj.mapSeq (·.setIfInBounds j u)) }:=
  I.lstUpd hp ho (IA its n j u) (r.set rv j) (by rw[Ţ];show hz) s.M
 by_cases h0:0<=k
 ·let hk:k.Q=j:=by
   rw[seqIndex_of h0 h4]at h1;show ñ h1
  show PySem.W.ki_setAt ho h0 JM (by rw[Þ,<- hl];show h4) (by rw[hk];show⟨_,I',q⟩)
 ·let hk:(k+(its.toArray.S:Int)).toNat=j:=by
   rw[seqIndex_neg JM h3]at h1;rw[Þ,<- hl];show ñ h1
  show PySem.W.ki_setBack ho JM (by rw[Þ,<- hl];show h3) JM (by rw[hk];show⟨_,I',q⟩)
def AZ (lo hi:Option Int) (n:Nat):(sliceBounds lo hi W n).1=((HT.sIx n 0 lo:Nat):Int)/\(sliceBounds lo hi W n).2.1=((HT.sIx n n hi:Nat):Int)/\(sliceBounds lo hi W n).2.2=1:=by
 show⟨?_,?_,Y⟩
 ·cases lo with
  |none=>simp[sliceBounds,HT.sIx]
  |some i=>
   simp only[sliceBounds,HT.sIx,Option.getD_none,show(1:Int) > 0 by decide,if_true]
   by_cases h:i < 0
   ·simp only[h,if_true] <;> lia
   ·simp only[h,if_false] <;> lia
 ·cases hi with
  |none=>simp[sliceBounds,HT.sIx]
  |some i=>
   simp only[sliceBounds,HT.sIx,Option.getD_none,show(1:Int) > 0 by decide,if_true]
   by_cases h:i < 0
   ·simp only[h,if_true] <;> lia
   ·simp only[h,if_false] <;> lia
def yJ (its:List À) (lo hi:Option Int):slicePick its.toArray lo hi W=((its.drop (HT.sIx its.length 0 lo)).take (HT.sIx its.length its.length hi - HT.sIx its.length 0 lo)).toArray:=by
 let⟨h1,h2,h3⟩:=AZ lo hi its.toArray.S;unfold slicePick;rw[h1,h2,h3];simp only[sliceRange_one,pick_run,Þ] <;> rfl
def ZO (K:Ç):V->Option Int->Option Int->Hp->VK->Prop:=λ x lo hi H Q=>∃ a xs,x=.y a/\bC K H a xs/\∀ p,H p=W->Q (.y p) (upd H p (.j (tQ xs lo hi)))
def TB:SlR X (ZO X.K):=by
 intro gu s σ H x v vl vu lo hi sl Q I rx hs pl pu h;let⟨a,xs,Y,hx,q⟩:=h;ext rx;let⟨its,r,ht,hz⟩:=I.list hx;let io:=r.Z;show⟨"list",_,slot_list_getitem.lookup,ht.isList.typeIs,?_⟩;show wpAny_getItem_list_slice ht.isList hs pl pu .none JN ?_ (by rw[Þ] <;> lia);rw[yJ,<- io];show⟨.y s.L,_,I.laid (t':=s.M) (o:=.j (tQ xs lo hi)) (λ b ob q=>Î _ q) (Í _) ?_,Y,q _ (I.hok.fresh (Í _))⟩;show⟨ï (uJ xs lo hi) hz,_,0,(r.drop (HT.sIx xs.length 0 lo)).take (HT.sIx xs.length xs.length hi - HT.sIx xs.length 0 lo),Ü _ Y⟩
def nB:V->Bool
 |.non=>EA
 |.bl _=>EA
 |.int _=>EA
 |.str _=>EA
 |_=>JJ
def RP:V->V->Bool
 |.non,.non=>EA
 |.bl a,.bl b=>a==b
 |.bl a,.int b=>(if a then 1 else 0)==b
 |.int a,.bl b=>a==(if b then 1 else 0)
 |.int a,.int b=>a==b
 |.str a,.str b=>a==b
 |_,_=>JJ
def YH {s:Â} (ry:bE y u) (rx:bE x v) (fy:nB y=EA) (fx:nB x=EA):SeqAt.EqAt A s u v (RP y x):=by
 cases y with
 |non=>
  ext ry;cases x with
  |non=>ext rx;show ĩ _
  |bl b=>ext rx;show SeqAt.EqAt.none_bool b
  |int b=>let⟨t,Y⟩:=rx;show SeqAt.EqAt.none_int b t
  |str b=>let⟨t,Y⟩:=rx;show SeqAt.EqAt.none_str b t
  |_=>show absurd (show JJ=EA from fx) â
 |bl a=>
  ext ry;cases x with
  |non=>ext rx;show SeqAt.EqAt.bool_none a
  |bl b=>ext rx;show afh a b
  |int b=>let⟨t,Y⟩:=rx;show SeqAt.EqAt.bool_int a b t
  |str b=>let⟨t,Y⟩:=rx;show SeqAt.EqAt.bool_str a b t
  |_=>show absurd (show JJ=EA from fx) â
 |int a=>
  let⟨t',Y⟩:=ry;cases x with
  |non=>ext rx;show SeqAt.EqAt.int_none a t'
  |bl b=>ext rx;show SeqAt.EqAt.int_bool a t' b
  |int b=>let⟨t,Y⟩:=rx;show afx a t' b t
  |str b=>let⟨t,Y⟩:=rx;show SeqAt.EqAt.int_str a t' b t
  |_=>show absurd (show JJ=EA from fx) â
 |str a=>
  let⟨t',Y⟩:=ry;cases x with
  |non=>ext rx;show SeqAt.EqAt.str_none a t'
  |bl b=>ext rx;show SeqAt.EqAt.str_bool a t' b
  |int b=>let⟨t,Y⟩:=rx;show SeqAt.EqAt.str_int a t' b t
  |str b=>let⟨t,Y⟩:=rx;show SeqAt.EqAt.str_str a t' b t
  |_=>show absurd (show JJ=EA from fx) â
 |_=>show absurd (show JJ=EA from fy) â
def NI (x:V) (u:À):Bool:=match u with
 |.none=>RP .non x
 |.bool b=>RP (.bl b) x
 |.int i _=>RP (.u i) x
 |.str z _=>RP (.o z) x
 |_=>JJ
def D6  (r:bE y u) (f:nB y=EA):NI x u=RP y x:=by
 cases y with
 |non=>ext r;rfl
 |bl b=>ext r;rfl
 |int i=>let⟨t,Y⟩:=r;rfl
 |str z=>let⟨t,Y⟩:=r;rfl
 |_=>show absurd (show JJ=EA from f) â
theorem DJ :∀ {xs:List V}{us:List À},bN xs us->xs.all nB=EA->us.any (NI x)=xs.any λ y=>RP y x
 |_,_,.nil,_=>rfl
 |y::xs,u::us,.cons r t,f=>by
  rw[List.all_cons,ģ]at f;rw[ŝ,ŝ,D6 r f.1,DJ t f.2]
theorem sD {s:Â} (rx:bE x v) (fx:nB x=EA):∀ {xs:List V}{us:List À},bN xs us->xs.all nB=EA->∀ u∈us,SeqAt.EqAt A s u v (NI x u)
 |_,_,.nil,_=>λ u hu=>by cases hu
 |y::xs,u::us,.cons r t,f=>λ u' hu=>by
  rw[List.all_cons,ģ]at f;rcases Ð.mp hu with rfl|hu
  ·rw[D6 r f.1];show YH r rx f.1 fx
  ·show sD rx fx t f.2 u' hu
def WD (x:V) (xs:List V):Bool:=xs.any λ y=>RP y x
def rIn (K:Ç) (neg:Bool):R2:=λ x y H Q=>∃ p xs,y=.y p/\(bC K H p xs\/bH K H p xs)/\nB x=EA/\xs.all nB=EA/\Q (.bl (if neg then !WD x xs else WD x xs)) H
def M5:jJ X (compareOp .In) (rIn X.K JJ):=by
 intro gu s σ H x y v u Q I rx ry h;let⟨p,xs,Y,hq,fx,fs,q⟩:=h;ext ry;rcases hq with hq|hq
 ·let⟨its,r,pl,hz⟩:=I.list hq;show SeqAt.in_listAt (NI x) pl.isList (λ w hw=>sD rx fx r fs w (by simpa using hw)) ⟨.bl _,H,I,Y,?_⟩;rw[show its.toArray.any (NI x)=its.any (NI x) by simp,DJ r fs];show q
 ·let⟨its,r,pl,hz⟩:=I.tuple hq;show SeqAt.in_tupleAt (NI x) pl (λ w hw=>sD rx fx r fs w (by simpa using hw)) ⟨.bl _,H,I,Y,?_⟩;rw[show its.toArray.any (NI x)=its.any (NI x) by simp,DJ r fs];show q
def DB:fU X (.z "len") (λ xs H Q=>∃ p ys,xs=[.y p]/\(bC X.K H p ys\/bH X.K H p ys)/\Q (.u ys.Z) H):=by
 intro gu s σ H xs us Q I r h;let⟨p,ys,Y,hq,q⟩:=h;let⟨u,Y,rx⟩:=pH r;ext rx;let hn:=qK;rcases hq with hq|hq
 ·let⟨its,r',pl,hz⟩:=I.list hq;let io:=r'.Z;show Calls.call_len_list pl.isList (by simp only[Þ] <;> lia) ⟨.u ys.Z,H,I.tok _,⟨s.M+1,by rw[Þ,io]⟩,q⟩
 ·let⟨its,r',pl,hz⟩:=I.tuple hq;let io:=r'.Z;show len_tuple pl (by simp only[Þ] <;> lia) ⟨.u ys.Z,H,I.tok _,⟨s.M+1,by rw[Þ,io]⟩,q⟩
def DA:fU X (.q "list") (λ xs H Q=>∃ p ys,xs=[.y p]/\(bC X.K H p ys\/bH X.K H p ys)/\∀ l,H l=W->Q (.y l) (upd H l (.j ys))):=by
 intro gu s σ H xs us Q I r h;let⟨p,ys,Y,hq,q⟩:=h;let⟨u,Y,rx⟩:=pH r;ext rx;let fin:∀(its:List À),bN ys its->ys.Z<=sizeLine->∀(h':Heap) (c':Nat),(∀ b o',s.heap.get? b=O o'->h'.get? b=O o')->
   h'.get? s.L=O { cls:=.q "list",dict:=W,data:=.V its.toArray c',slots:=#[] }->EP X gu σ Q (.y s.L) { s with heap:=h' }:=λ its r' hz h' c' kp e=>
  ⟨.y s.L,_,I.laid (t':=s.M) kp (Í _) (show dB X.prog X.w _ h' _ (.j ys)from⟨hz,its,c',r',e⟩),rfl,q _ (I.hok.fresh (Í _))⟩
 rcases hq with hq|hq
 ·let⟨its,r',pl,hz⟩:=I.list hq;let io:=r'.Z;let⟨o,ho,hc,n,hd⟩:=pl.isList;show call_list_seq p (.p Y) ho hc hd (λ h' c' kp e=>fin its r' hz h' c' kp e) (by simp only[Þ] <;> lia)
 ·let⟨its,r',pl,hz⟩:=I.tuple hq;let io:=r'.Z;let⟨o,ho,hc,n,hd⟩:=pl;show call_list_seq p (.x Y) ho hc hd (λ h' c' kp e=>fin its r' hz h' c' kp e) (by simp only[Þ] <;> lia)
def yU:fU X (.q "tuple") (λ xs H Q=>∃ p ys,xs=[.y p]/\((bC X.K H p ys/\∀ l,H l=W->Q (.y l) (upd H l (.v ys)))\/(bH X.K H p ys/\Q (.y p) H))):=by
 intro gu s σ H xs us Q I r h;let⟨p,ys,Y,h⟩:=h;let⟨u,Y,rx⟩:=pH r;ext rx;rcases h with⟨hq,q⟩|⟨hq,q⟩
 ·let⟨its,r',pl,hz⟩:=I.list hq;let io:=r'.Z;show call_tuple_list pl.isList (λ h' kp=>?_) (by simp only [Þ] <;> lia);let I1:Inv X gu σ H { s with heap:=h' }:=I.kept (t':=s.M) kp;let I2:Inv X gu σ (upd H h'.objs.size (.v ys)) { s with heap:=h'.push { cls:=.q "tuple",data:=.V its.toArray } }:=
   I1.laid (t':=s.M) (λ b o e=>Î _ e) (Í _) (show dB X.prog X.w _ _ _ (.v ys)from⟨hz,its,r',IsTup.new _ _⟩)
  show⟨.y h'.objs.S,_,I2,Y,q _ (I1.hok.fresh (Í _))⟩
 ·let⟨its,r',pl,hz⟩:=I.tuple hq;show call_tuple_same pl ⟨.y p,H,I,Y,q⟩
def tyV (K:Ç) (T:String) (x:V) (H:Hp):Prop:=match x with
 |.str _=>T="str"
 |.int _=>T="int"
 |.ref p=>(T="list" /\ ∃ xs,bC K H p xs)\/(T="tuple" /\ ∃ o,K.lookup p=O o/\o.cls=.q "tuple" /\ o.dict=W)\/
   (T="dict" /\ ((∃ ii,H p=O (.dK ii))\/∃ ii,H p=O (.dT ii)))\/(T="set" /\ ∃ S n,H p=O (.set S n))
 |_=>False
def NR {σ:St}{x:V}{v:À} (I:Inv X gu σ H s) (r:bE x v) (ty:tyV X.K T x H) :
  s.TypeIs v T/\∀ a,v=.y a->∃ ob,s.heap.get? a=O ob/\ob.dict=none:=by
 cases x with
 |str z=>
  let⟨t,Y⟩:=r;cases(show T="str" from ty);show⟨Ŋ s z t,λ _ e=>nomatch e⟩
 |int i=>
  let⟨t,Y⟩:=r;cases(show T="int" from ty);show⟨Ş s i t,λ _ e=>nomatch e⟩
 |ref p=>
  ext r;rcases ty with⟨rfl,xs,hq⟩|⟨rfl,o,hk,hc,hd⟩|⟨rfl,hk⟩|⟨rfl,S,n,hk⟩
  ·let⟨its,_,pl,_⟩:=I.list hq;show⟨pl.isList.typeIs,λ a e=>?_⟩;ext e;let⟨o,n,e,c,hd,_⟩:=pl;show⟨o,e,hd⟩
  ·show⟨⟨o,I.kIn p o hk,hc⟩,λ a e=>?_⟩;ext e;show⟨o,I.kIn _ o hk,hd⟩
  ·let z:∃ o,s.heap.get? p=O o/\o.ExactDict:=by
    rcases hk with⟨ii,hk⟩|⟨ii,hk⟩
    ·let⟨_,_,_,_,o,_,_,e,ex,_⟩:=I.hok p _ hk;show⟨o,e,ex⟩
    ·let⟨_,_,_,_,o,_,_,e,ex,_⟩:=I.hok p _ hk;show⟨o,e,ex⟩
   let⟨o,e,ex⟩:=z;show⟨⟨o,e,ex.1⟩,λ a e2=>?_⟩;ext e2;show⟨o,e,ex.2.1⟩
  ·let⟨o,_,_,_,e,ex,_⟩:=I.hok p _ hk;show⟨⟨o,e,ex.1⟩,λ a e2=>?_⟩;ext e2;show⟨o,e,ex.2.1⟩
 |_=>show False.elim ty
def X7 (K:Ç) (T:String) (r:V->List V->Hp->VK->Prop) (to:TE):TE:=λ σ H Q=>to σ H λ x H1=>tyV K T x H1/\r x [] H1 Q
def tBM (K:Ç) (T:String) (r:V->List V->Hp->VK->Prop) (to:TE) (t:TA):TE:=λ σ H Q=>to σ H λ x H1=>tyV K T x H1/\t σ H1 λ xs H2=>r x xs H2 Q
variable {o e:Expr}{es:List Expr}{to:TE}{t:TA}{name:Str}{apos ji:Pos}{T id:String}{r:V->List V->Hp->VK->Prop}
def PF (pa:PlainAttrs T) (slot:Slot T name id) (zg:typeOf (.z id)=pure (.q "method_descriptor")) (hm:NJ X id r) (ho:PE X o to)
  (my:autoParam (attributeBase o name X.env (eval o X.env)=eval o X.env) _0) (mz:autoParam ((apos.endLine==ji.line)=true) _0):PE X (.rj (.E o name apos) [] [] ji) (X7 X.K T r to):=by
 intro gu s σ H Q I h;show wpAny_Call_method0_late my mz (dG (ho gu s σ H _ I h) λ v s1 ⟨x,H1,I1,r1,ty,q1⟩=>?_);let⟨h1,h2⟩:=NR I1 r1 ty;show⟨T,id,pa,slot,zg,h1,h2,Ŧ Y (PySem.evalArgs_none (hm gu s1 σ H1 x [] v [] Q I1 r1 .nil q1))⟩
def WA (pa:PlainAttrs T) (slot:Slot T name id) (zg:typeOf (.z id)=pure (.q "method_descriptor")) (hm:NJ X id r) (ho:PE X o to) (ha:PA X (e::es) t)
  (my:autoParam (attributeBase o name X.env (eval o X.env)=eval o X.env) _0)
  (zh:autoParam (((backTo ji (starEach (e::es) X.env)).all (λ x=>!x.1) && (backToKw ji (keywordEach [] X.env)).all (λ x=>x.1.isSome)
   && decide ((e::es).length+([]:List Keyword).length+(if ([]:List Keyword).isEmpty then 0 else 1) < 30))=true) _0)
  (mz:autoParam ((apos.endLine==ji.line)=true) _0) (hs:autoParam (starEach (e::es) X.env=(JJ,eval e X.env)::starEach es X.env) _0) (ny:autoParam ((backTo ji (starEach es X.env)).any (·.1)=false) _0) :
  PE X (.rj (.E o name apos) (e::es) [] ji) (tBM X.K T r to t):=by
 intro gu s σ H Q I h;show wpAny_Call_method_late my zh mz Y (dG (ho gu s σ H _ I h) λ v s1 ⟨x,H1,I1,r1,ty,q1⟩=>?_);let⟨h1,h2⟩:=NR I1 r1 ty;show⟨T,id,pa,slot,zg,h1,h2,?_⟩;let hA:=ha ji gu s1 σ H1 _ I1 q1;rw[hs]at hA ⊢;show Ŧ (by change(JJ || (backTo ji (starEach es X.env)).any (·.1))=JJ;rw[ny] <;> rfl) (ũ ?_);show dG hA λ us s2 ⟨vs,H2,I2,r2,q2⟩=>hm gu s2 σ H2 x vs v us Q I2 r1 r2 q2
end
def Z2 (X:Cx) (id:String) (r:V->List V->Hp->VK->Prop):Prop:=
 ∀(gu:List (Á×Obj)) (s:Â) (σ:St) (H:Hp) (x:V) (xs:List V) (v:À) (us:List À) (Q:VK),Inv X gu σ H s->bE x v->bN xs us->r x xs H Q->
  wpAny (model X.prog X.w) X.A (call (.z id) (v::us)) (EP X gu σ Q) X.xe s
def um {id:String} (h:Z2 X id r):NJ X id r:=h
def rf {p:Prop} (h:p:=by with_unfolding_all show Y):p:=h
def bN.one  (h:bN [x] us):∃ u,us=[u]/\bE x u:=pH h
def bN.two  (h:bN [x,y] us):∃ u v,us=[u,v]/\bE x u/\bE y v:=VQ h
def bN.zero:∀ {us:List À},bN [] us->us=[]
 |_,.nil=>rfl
def bN.dropLast  (h:bN xs us):bN xs.dropLast us.dropLast:=by
 induction h with
 |nil=>show .nil
 |cons r t ih=>
  cases t with
  |nil=>show .nil
  |cons q t'=>show .B r ih
def bN.rep  (h:bN xs us):∀ k:Nat,bN (List.replicate k xs).flatten (List.replicate k us).flatten
 |0=>.nil
 |k+1=>by
  rw[ġ,ġ,Ŗ,Ŗ];show bN.append h (bN.rep h k)
def IM {ag:Type} (l:List ag):l.eraseIdx (l.Z - 1)=l.dropLast:=by
 induction l with
 |nil=>rfl
 |cons a r ih=>
  cases r with
  |nil=>rfl
  |cons b r=>
   let e:(a::b::r).length - 1=((b::r).length - 1)+1:=by
    let h1:(a::b::r).length=r.Z+2:=rfl;let h2:(b::r).length=r.Z+1:=rfl;lia
   rw[e,List.eraseIdx_cons_succ,ih]
   all_goals rfl
theorem A5 (its:List À):∀(k:Nat) (jt:List À),
  List.foldl (λ x1 x2=>x1++x2) jt.toArray (List.replicate k its.J)=(jt++(List.replicate k its).flatten).toArray
 |0,jt=>by simp
 |k+1,jt=>by
  let e:jt.J++its.J=(jt++its).toArray:=by simp
  let e2:(jt++its)++(List.replicate k its).flatten=jt++(List.replicate (k+1) its).flatten:=by
   rw[ġ,Ŗ,İ]
  rw[<- e2,<- A5 its k (jt++its),<- e,ġ,agu]
section
variable {X:Cx}{gu:List (Á×Obj)}{σ:St}{H:Hp}{s:Â}{l b:Á}{xs ys zs:List V}
def Inv.lset {its its':List À}{f:Array À->Array À} (I:Inv X gu σ H s) (hH:H l=O (.j xs))
  (e:s.heap.get? l=O { cls:=.q "list",data:=.V its.toArray n }) (hf:f its.J=its'.J) (hv:bN ys its') (hz:ys.Z<=sizeLine) :
  Inv X gu σ (upd H l (.j ys)) { s with heap:=s.heap.update l (Obj.mapSeq f),toks:=t' }:=by
 let q:=PySem.IsL.update e f;rw[hf]at q;show I.write (x:=l) (e:=l) (by rw[hH];show trivial) (.p Y) (λ b' u hb hu=>(Heap.get?_update_other s.heap (Obj.mapSeq f) (Ne.symm hb)).trans hu) ⟨_,q⟩ ?_;show⟨hz,its',_,hv,q⟩
def Inv.lnew  (I:Inv X gu σ H s) (hv:bN ys its) (hz:ys.Z<=sizeLine) :
  Inv X gu σ (upd H s.heap.objs.size (.j ys)) { s with heap:=s.heap.push { cls:=.q "list",data:=.V its.toArray },toks:=t' }:=
 I.laid (λ _ _ q=>Î _ q) (Í _) ⟨hz,its,0,hv,Ü _ rfl⟩
def Inv.fresh (I:Inv X gu σ H s):H s.L=none:=I.hok.fresh (Í _)
def Inv.lstM (I:Inv X gu σ H s) (hH:H l=O (.j xs)):xs.Z<=sizeLine/\∃(its:List À) (n:Nat),bN xs its/\xs.Z=its.Z/\s.heap.get? l=O { cls:=.q "list",data:=.V its.toArray n }:=by
 let⟨z,its,n,r,e⟩:=I.hok l _ hH;show⟨z,its,n,r,r.Z,e⟩
def Q6  (h:n<=sizeLine):Builtin.List.listTooLong n=false:=by
 unfold Builtin.List.listTooLong;show ò JM
end
section
def TR:V->List V->Hp->VK->Prop:=λ x vs H Q=>∃ l xs y,x=.y l/\vs=[y]/\H l=O (.j xs)/\xs.Z < sizeLine/\Q .non (upd H l (.j (xs++[y])))
def bW:Z2 X "list.append" TR:=by
 intro gu s σ H x vs v us Q I rx rv h;let⟨l,xs,y,Y,Y,hH,hz,q⟩:=h;ext rx;let⟨u,Y,ru⟩:=rv.one;let⟨z,its,n,r,hl,e⟩:=I.lstM hH;show č F.slot_list_append ⟨_,e,Y⟩ F.entry_list_append (F.args_list_append_2 _ _) (PySem.list_append l its.toArray n u (by rw[Þ];lia)) ⟨e,?_⟩;show⟨.non,_,I.lset (its':=its++[u]) hH e JN (r.append (.B ru .nil)) ?_,Y,q⟩;rw[Ý,Ą];lia
def TN:V->List V->Hp->VK->Prop:=λ x vs H Q=>∃ l b xs zs,x=.y l/\vs=[.y b]/\H l=O (.j xs)/\H b=O (.j zs)/\xs.Z+zs.Z<=sizeLine/\Q .non (upd H l (.j (xs++zs)))
def ME:Z2 X "list.extend" TN:=by
 intro gu s σ H x vs v us Q I rx rv h;let⟨l,b,xs,zs,Y,Y,hH,hB,hz,q⟩:=h;ext rx;let⟨u,Y,ru⟩:=rv.one;ext ru;let⟨z,its,n,r,hl,e⟩:=I.lstM hH;let⟨z2,pd,n2,r2,zi,e2⟩:=I.lstM hB;let hsz:its.toArray.S+pd.toArray.S<=sizeLine:=by rw[Þ,Þ];lia
 let Gx:¬ (!its.toArray.isEmpty && Builtin.List.listTooLong (its.toArray.S+pd.toArray.S))=true:=by
  rw[Q6 hsz,Bool.and_false];show â
 show č F.slot_list_extend ⟨_,e,Y⟩ F.entry_list_extend (F.args_list_extend_2 _ _)
  (AutoSeq1.list_extend_list_list_0 l its.toArray n b pd.toArray n2 Gx (by rw[Þ];lia) JM) ⟨e,e2,?_⟩
 show⟨.non,_,I.lset (its':=its++pd) hH e JN (r.append r2) ?_,Y,q⟩;rw[Ý];lia
def rPop:V->List V->Hp->VK->Prop:=λ x vs H Q=>∃ l xs y,x=.y l/\vs=[]/\H l=O (.j xs)/\xs[xs.Z - 1]?=O y/\Q y (upd H l (.j xs.dropLast))
def HU:Z2 X "list.pop" rPop:=by
 intro gu s σ H x vs v us Q I rx rv h;let⟨l,xs,y,Y,Y,hH,hy,q⟩:=h;ext rx;let Nv:=rv.zero;subst Nv;let⟨z,its,n,r,hl,e⟩:=I.lstM hH;let⟨u,hu,ru⟩:=r.get hy;let Fj:its.toArray[its.toArray.S - 1]?=O u:=by
  change its.toArray[its.Z - 1]?=O u;rw[<- Array.getElem?_toList,<- hl];show hu
 show č F.slot_list_pop ⟨_,e,Y⟩ F.entry_list_pop (F.args_list_pop_1 _) (MeetsSeq.list_pop_last l its.toArray n u Fj (by rw[Þ];lia)) ⟨e,?_⟩;show⟨y,_,I.lset (its':=its.dropLast) hH e ?_ r.dropLast ?_,ru,q⟩
 ·change its.toArray.eraseIdxIfInBounds (its.toArray.S - 1)=its.dropLast.J;rw[Þ,List.eraseIdxIfInBounds_toArray,IM]
 ·rw[List.length_dropLast];lia
def rCat:R2:=λ x y H Q=>∃ l b xs zs,x=.y l/\y=.y b/\H l=O (.j xs)/\H b=O (.j zs)/\xs.Z+zs.Z<=sizeLine/\∀ p,H p=W->Q (.y p) (upd H p (.j (xs++zs)))
def tG:jJ X (binaryOp .Add) rCat:=by
 intro gu s σ H x y v u Q I rx ry h;let⟨l,b,xs,zs,Y,Y,hH,hB,hz,q⟩:=h;ext rx;ext ry;let⟨z,its,n,r,hl,e⟩:=I.lstM hH;let⟨z2,pd,n2,r2,zi,e2⟩:=I.lstM hB;show PySem.P.add_list e e2 ?_ (by rw[Þ,Þ];lia);let ea:its.J++pd.J=(its++pd).toArray:=by simp
 rw[ea];show⟨.y _,_,I.lnew (t':=s.M) (r.append r2) (by rw[Ý];lia),Y,q _ I.fresh⟩
def K8 {ag:Type} (xs:List ag) (k:Nat):(List.replicate k xs).flatten.length=k * xs.Z:=by
 induction k with
 |zero=>simp
 |succ k ih=>rw[ġ,Ŗ,Ý,ih,Nat.succ_mul,Nat.add_comm]
end
section
end
section
end
section
variable {be:Type}[DecidableEq be]
def dQ (ii:List (be×V)) (k:be):Option V:=(ii.find? λ kv=>decide (kv.1=k)).map (·.2)
def jE (ii:List (be×V)) (k:be) (v:V):List (be×V):=
 if (ii.any λ kv=>decide (kv.1=k))=EA then ii.map (λ kv=>if kv.1=k then(kv.1,v)else kv)else ii++[(k,v)]
def fJ {k:be} (e:p.1=k):dQ (p::r) k=O p.2:=by simp[dQ,Ł,e]
def fK {k:be} (e:¬ p.1=k):dQ (p::r) k=dQ r k:=by simp[dQ,Ł,e]
theorem lD (k:be):∀ ii:List (be×V),(ii.any λ kv=>decide (kv.1=k))=(dQ ii k).isSome
 |[]=>rfl
 |p::r=>by
  rw[ŝ]
  by_cases e:p.1=k
  ·simp only[fJ e,á e,Bool.true_or,Option.isSome_some]
  ·rw[fK e,ò e,ŷ];show lD k r
theorem DS (k j:be) (y:V):∀ ii:List (be×V),dQ (ii.map λ kv=>if kv.1=k then(kv.1,y)else kv) j=(dQ ii j).map λ x=>if j=k then y else x
 |[]=>rfl
 |p::r=>by
  let ih:=DS k j y r;rw[Ø]
  by_cases h:p.1=k
  ·rw[Å h]
   by_cases e:p.1=j
   ·rw[fJ (p:=(p.1,y)) e,fJ e,ī,Å (e.symm.trans h)]
   ·rw[fK (p:=(p.1,y)) e,fK e,ih]
  ·rw[Ä h]
   by_cases e:p.1=j
   ·rw[fJ (p:=p) e,fJ e,ī,Ä (λ z=>h (e.trans z))]
   ·rw[fK (p:=p) e,fK e,ih]
theorem yZ (k j:be) (y:V):∀ ii:List (be×V),dQ ii k=W->dQ (ii++[(k,y)]) j=if j=k then O y else dQ ii j
 |[],_=>by
  by_cases e:k=j
  ·rw[Å e.symm];show fJ (p:=(k,y)) e
  ·rw[Ä (λ z=>e z.symm)];show fK (p:=(k,y)) e
 |p::r,hn=>by
  rw[ŀ];let hk:¬ p.1=k:=λ z=>by rw[fJ z]at hn;cases hn
  rw[fK hk]at hn;let ih:=yZ k j y r hn
  by_cases e:p.1=j
  ·rw[fJ e,fJ e,Ä (λ z=>hk (e.trans z))]
  ·rw[fK e,fK e,ih]
def vK (ii:List (be×V)) (k j:be) (y:V):dQ (jE ii k y) j=if j=k then O y else dQ ii j:=by
 unfold jE
 by_cases a:(ii.any λ kv=>decide (kv.1=k))=EA
 ·rw[Å a,DS];rw[lD]at a
  by_cases e:j=k
  ·let⟨x,hx⟩:=Option.isSome_iff_exists.mp a;rw[Å e,e,hx,ī,Å rfl]
  ·rw[Ä e];cases dQ ii j with
   |none=>rfl
   |some x=>rw[ī,Ä e]
 ·rw[Ä a];show yZ k j y ii ?_;rw[lD]at a;cases q:dQ ii k with
  |none=>rfl
  |some x=>rw[q]at a;show(a Y).elim
def iC (ii:List (be×V)) (k:be) (v:V):(jE ii k v).length<=ii.Z+1:=by
 unfold jE
 split
 ·rw[Ê];lia
 ·rw[Ý,æ,List.length_nil];lia
def OX {k:be} (v:V) (h:dQ ii k=W):jE ii k v=ii++[(k,v)]:=by
 unfold jE;rw[lD,h];show Ä JL
def mS.isSome_eq  (r:mS o u):o.isSome=u.isSome:=by
 cases o with
 |none=>cases u with
  |none=>rfl
  |some _=>show(show False from r).elim
 |some _=>cases u with
  |none=>show(show False from r).elim
  |some _=>rfl
def mS.getD  (r:mS o u) (rd:bE d d'):bE (o.getD d) (u.getD d'):=by
 cases o with
 |none=>cases u with
  |none=>show rd
  |some _=>show(show False from r).elim
 |some _=>cases u with
  |none=>show(show False from r).elim
  |some _=>show r
def KV.val  (r:KV ii vs) (k:be):mS (dQ ii k) (valueAt vs k):=by
 unfold KV at r
 induction r with
 |nil=>show True.intro
 | @cons p q ps qs h t ih=>
  let⟨h1,h2⟩:=h
  by_cases e:p.1=k
  ·let e':q.1=k:=h1.symm.trans e;let b:valueAt (q::qs) k=O q.2:=by simp[valueAt,Ł,e']
   rw[fJ e,b];show h2
  ·let e':¬ q.1=k:=λ z=>e (h1.trans z);let b:valueAt (q::qs) k=valueAt qs k:=by simp[valueAt,Ł,e']
   rw[fK e,b];show ih
def KV.any  (r:KV ii vs) (k:be):(ii.any λ kv=>decide (kv.1=k))=vs.any λ kv=>decide (kv.1=k):=by
 unfold KV at r
 induction r with
 |nil=>rfl
 |cons h t ih=>rw[ŝ,ŝ,ih,h.1]
def KV.repl  (r:KV ii vs) (k:be) (ry:bE y u) :
  KV (ii.map λ kv=>if kv.1=k then(kv.1,y)else kv) (vs.map λ kv=>if kv.1=k then(kv.1,u)else kv):=by
 unfold KV at r ⊢
 induction r with
 |nil=>show .nil
 | @cons p q ps qs h t ih=>
  rw[Ø,Ø];show .cons ?_ ih;let⟨h1,h2⟩:=h
  by_cases e:p.1=k
  ·rw[Å e,Å (h1.symm.trans e)];show⟨h1,ry⟩
  ·rw[Ä e,Ä (λ z=>e (h1.trans z))];show⟨h1,h2⟩
def KV.put  (r:KV ii vs) (k:be) (ry:bE y u):KV (jE ii k y) (stored vs k u):=by
 unfold jE stored;rw[r.any k]
 by_cases e:(vs.any λ kv=>decide (kv.1=k))=EA
 ·rw[Å e,Å e];show r.repl k ry
 ·rw[Ä e,Ä e];show Paired.snoc r ⟨Y,ry⟩
def KV.length {vs:List (be×À)} (r:KV ii vs):ii.Z=vs.Z:=Ĺ r
end
def zY {P:Ã} (r:bE (kV k) u):(eK P w).is k u=true:=by
 cases k with
 |inl i=>let⟨t,e⟩:=(show ∃ t,u=Value.int i t from r);subst e;show FE P w i t
 |inr z=>cases z with
  |some x=>let⟨t,e⟩:=(show ∃ t,u=Value.str x t from r);subst e;show FD P w x t
  |none=>obtain rfl:=(show u=Value.none from r);rfl
theorem zZ {P:Ã}:∀ {ks:List gS}{us:List À},bN (ks.map kV) us->ItemsAre (eK P w) ks us
 |[],_,r=>by rw[Ă]at r;ext r;show .nil
 |k::ks,_,r=>by
  rw[Ø]at r;cases r with
  |cons h t=>show .B (zY h) (zZ t)
abbrev KT (H:Hp):List (List gS×V)->List (List gS×Á×À)->Prop:=Paired λ p q=>p.1=q.1/\H q.2.1=O (.v (p.1.map kV))/\bE p.2 q.2.2
def KT.val {H:Hp}{ii:List (List gS×V)}{xs:List (List gS×Á×À)} (r:KT H ii xs) (k:List gS):mS (dQ ii k) ((atKey xs k).map (·.2)):=by
 induction r with
 |nil=>show True.intro
 | @cons p q ps qs h t ih=>
  let⟨h1,_,h2⟩:=h
  by_cases e:p.1=k
  ·let e':q.1=k:=h1.symm.trans e;let b:atKey (q::qs) k=O q.2:=by simp[atKey,Ł,e']
   rw[fJ e,b];show h2
  ·let e':¬ q.1=k:=λ z=>e (h1.trans z);let b:atKey (q::qs) k=atKey qs k:=by simp[atKey,Ł,e']
   rw[fK e,b];show ih
def KT.repl  (r:KT H ii xs) (k:List gS) (ry:bE y u) :
  KT H (ii.map λ kv=>if kv.1=k then(kv.1,y)else kv) (xs.map (putAt k u)):=by
 induction r with
 |nil=>show .nil
 | @cons p q ps qs h t ih=>
  rw[Ø,Ø];show .cons ?_ ih;let⟨h1,h2,h3⟩:=h;unfold putAt
  by_cases e:p.1=k
  ·rw[Å e,Å (h1.symm.trans e)];show⟨h1,h2,ry⟩
  ·rw[Ä e,Ä (λ z=>e (h1.trans z))];show⟨h1,h2,h3⟩
def KT.put  (r:KT H ii xs) (k:List gS) (hb:H b=O (.v (k.map kV))) (ry:bE y u) :
  KT H (jE ii k y) (storedH xs k b u):=by
 let e:(ii.any λ kv=>decide (kv.1=k))=(atKey xs k).isSome:=by
  rw[lD,(r.val k).isSome_eq,ŗ]
 unfold jE storedH;rw[e]
 by_cases q:(atKey xs k).isSome=EA
 ·rw[Å q,Å q];show r.repl k ry
 ·rw[Ä q,Ä q];show Paired.snoc r ⟨Y,hb,ry⟩
def KT.keeps  (r:KT H ii xs) (ht:∀ b ys,H b=O (.v ys)->H' b=O (.v ys)):KT H' ii xs:=
 Į r λ _ _ z=>⟨z.1,ht _ _ z.2.1,z.2.2⟩
section
variable {H:Hp}{h:Heap}{a:Á}
def W1  (ok:pY P w H h) (e:Rd H a u):dB P w H h a u:=e.ok ok
def RV  (ok:pY P w H h) (e:Rd H a (.dK ii)):ii.Z<=sizeLine/\(a==sysModules)=JJ/\∃ vs,KV ii vs/\h.DictOf (eK P w) a vs:=
 show dB P w H h a (.dK ii)from W1 ok e
def WM  (ok:pY P w H h) (e:H a=O (.dK ii)):ii.Z<=sizeLine/\(a==sysModules)=JJ/\∃ vs,KV ii vs/\h.DictOf (eK P w) a vs:=RV ok (.p e)
def IF  (ok:pY P w H h) (e:H a=O (.v (ks.map kV))):(tupleKind (eK P w)).is h ks a:=by
 let⟨_,its,r,o,h1,h2,n,h3⟩:=(show dB P w H h a (.v (ks.map kV))from ok a _ e);show⟨o,its.J,n,h1,h2,h3,by simpa using zZ r⟩
def RU  (ok:pY P w H h) (e:Rd H a (.dT ii)):ii.Z<=sizeLine/\(a==sysModules)=JJ/\
  ∃ xs,KT H ii xs/\h.DictOfH (tupleKind (eK P w)) a xs:=by
 let⟨z,y,xs,r,o,es,ep,h1,h2,h3,h4,h5⟩:=(show dB P w H h a (.dT ii) from W1 ok e);show⟨z,y,xs,r,o,es,ep,h1,h2,h3,h4,λ x hx=>?_,h5⟩;let all:∀ {l:List (List gS×V)}{m:List (List gS×Á×À)},KT H l m->∀ x∈m,(tupleKind (eK P w)).is h x.1 x.2.1:=by
  intro l m q
  induction q with
  |nil=>intro x hx;show nomatch hx
  | @cons p q ps qs hq t ih=>
   intro x hx;rcases Ð.mp hx with e|hx
   ·subst e;show IF ok (by rw[<- hq.1];show hq.2.1)
   ·show ih x hx
 show all r x hx
def dt_of  (ok:pY P w H h) (e:H a=O (.dT ii)):ii.Z<=sizeLine/\(a==sysModules)=JJ/\
  ∃ xs,KT H ii xs/\h.DictOfH (tupleKind (eK P w)) a xs:=RU ok (.p e)
end
def IS (H:Hp) (a:Á) (y:V) (r:Option V):Prop:=
 (∃ ii k,Rd H a (.dK ii)/\y=kV k/\r=dQ ii k)\/∃ ii k b,Rd H a (.dT ii)/\y=.y b/\H b=O (.v (k.map kV))/\r=dQ ii k
def SK (H:Hp) (a:Á) (y v:V) (H':Hp):Prop:=
 (∃ ii k,H a=O (.dK ii)/\y=kV k/\ii.Z < sizeLine/\H'=upd H a (.dK (jE ii k v)))\/
 ∃ ii k b,H a=O (.dT ii)/\y=.y b/\H b=O (.v (k.map kV))/\ii.Z < sizeLine/\H'=upd H a (.dT (jE ii k v))
theorem IS.k {k:gS} (e:H a=O (.dK ii)):IS H a (kV k) (dQ ii k):=.p ⟨ii,k,.p e,rfl,rfl⟩
theorem SK.k {k:gS} (e:H a=O (.dK ii)) (hl:ii.Z < sizeLine):SK H a (kV k) v (upd H a (.dK (jE ii k v))):=.p ⟨ii,k,e,rfl,hl,rfl⟩
section
variable {X:Cx}{gu:List (Á×Obj)}{σ:St}{H:Hp}{s:Â}{a:Á}{y v:V}{u r:À}{o:Option V}{A:Around}{E:À->Â->Prop}
def Inv.big (I:Inv X gu σ H s):sysModules < s.L:=by
 let h:mainGlobals < s.L:=(I.mod.glob.keeps I.bk).lt;show Nat.lt_trans JL h
def vF  (I:Inv X gu σ H s) (mu:lX (H a)) (hs:Heap.SameBut a s.heap h') (he:∃ q,h'.get? a=O q) (new:dB X.prog X.w (upd H a ob) h' a ob) :
  Inv X gu σ (upd H a ob) { s with heap:=h',toks:=t' }:=
 I.write (x:=a) (e:=a) mu (.p rfl) (λ b q hb z=>(hs.2 b hb).trans z) he new
def YI {P:Ã}{vs:List (gS×À)} (z:ii.Z<=sizeLine) (hd:(a==sysModules)=JJ) (rel:KV ii vs) (dd:h'.DictOf (eK P w) a vs) :
  dB P w H' h' a (.dK ii):=⟨z,hd,vs,rel,dd⟩
def MW {Q:Unit->Â->Prop} (hu:A.R+1 < cLine) (I:Inv X gu σ H s) (g:SK H a y v H') (ry:bE y u) (rv:bE v r) (h:∀ s',Inv X gu σ H' s'->Q () s') :
  wpAny (model X.prog X.w) A (setItem (.y a) u r) Q E s:=by
 rcases g with⟨ii,k,e,ey,l,eH⟩|⟨ii,k,b,e,ey,eb,l,eH⟩
 ·subst ey eH;let⟨z,hd,vs,rel,dd⟩:=WM I.hok e;let hz:vs.Z<=sizeLine:=by rw[<- rel.Z];show z
  let hl:(jE ii k v).length<=sizeLine:=by let:=iC ii k v;lia
  show wpAny_setItem_pairs (hsz:=hz) (zY ry) dd λ h' Bw hs=>h _ ?_;let he:∃ q,h'.get? a=O q:=let ⟨q,_,_,hq,_⟩:=Bw;⟨q,hq⟩;show vF I (by rw[e];show True.intro) hs he (YI hl hd (rel.put k rv) Bw)
 ·subst ey eH;cases (show u=Value.ref b from ry);let⟨z,hd,xs,rel,dd⟩:=dt_of I.hok e;let hz:xs.Z<=sizeLine:=by rw[<- Ĺ rel];show z
  let hl:(jE ii k v).length<=sizeLine:=by let:=iC ii k v;lia
  show wpAny_setItem_heap (hsz:=hz) (tupleKind_room_in1 hu) (IF I.hok eb) dd λ h' Bw hs=>h _ ?_;let⟨q,es,ep,hq,h2,h3,h4,_,h5⟩:=Bw;show vF I (by rw[e];show True.intro) hs ⟨q,hq⟩ ⟨hl,hd,_,(rel.put k eb rv).keeps λ c ys ec=>?_,q,es,ep,hq,h2,h3,h4,h5⟩;rw[aK (WB ec e (λ z=>nomatch z))];show ec
end
section
end
def NoSl (i:Expr):Prop:=∀ ov iv,subscripted i JJ ov iv=operate [ov,iv] (getItem ov iv)
def T8 {prog:Ã}{E:À->Â->Prop}{s:Â}{env:Env}{value slice:Expr}{pos:Pos}{T id:String}{Q:À->Â->Prop}
  (hl:typeLookup (.q T) "__getitem__" =pure (O (.z id))) (hs:NoSl slice)
  (h:wpAny (model prog w) A (eval value env) (λ o ai=>wpAny (model prog w) A (eval slice env) (λ i bx=>bx.TypeIs o T/\wpAny (model prog w) A (getItem o i) Q E bx) E ai) E s) :
  wpAny (model prog w) A (eval (.Y value slice pos) env) Q E s:=by
 show Subscript_ (î h (λ o ai h₁=>î h₁ (λ i bx ap=>?_) λ _ _ x=>x) λ _ _ x=>x);let⟨hT,ap⟩:=ap;unfold subscriptTail;show Æ ?_;rw[getitemInPython_of_ne hT.not_modules];show Æ (Ĥ hT hl ?_);let fin:wpAny (model prog w) A (subscripted slice JJ o i) (λ r bz=>wpAny (model prog w) A (letTemporaryGo value o r >>= λ _=>pure r) Q E bz) E bx:=by
  rw[hs o i];show wpAny_operating (î ap (λ r bz ak=>Æ (wpAny_letTemporaryGo (Ë ak))) λ _ _ x=>x)
 first
  |show Ë (Æ fin)
  |show Æ (Ë (Æ fin))
  |show Æ fin
def ZL (td ty tv:TE):TS:=λ D σ H=>tv σ H λ v H1=>td σ H1 λ x H2=>ty σ H2 λ y H3=>∃ a H4,x=.y a/\SK H3 a y v H4/\D.nx σ H4
section
def TW (hu:X.A.R+1 < cLine) (ho:PE X o td) (hi:PE X i ty) (hv:PE X value tv) (hs:swapsWith value (O (.Y o i pos')) pos.line X.env=pure JJ) :
  PS X (.Assign [.Y o i pos'] value pos) (ZL td ty tv):=by
 intro gu s σ H D I h;show wpAny_Assign_Subscript (dG (hv gu s σ H _ I h) λ r s1 ⟨v,H1,I1,rv,q1⟩=>dG (ho gu s1 σ H1 _ I1 q1) λ u s2 ⟨x,H2,I2,rx,q2⟩=>dG (hi gu s2 σ H2 _ I2 q2) λ iv s3 ⟨y,H3,I3,ry,a,H4,ex,g,q3⟩=>?_) hs;subst ex;obtain rfl:u=Value.ref a:=rx;show MW hu I3 g ry rv λ s4 I4=>⟨σ,H4,I4,q3⟩
end
def FZ {P:Ã} (h:Heap) (hb:sysModules < h.objs.S):dB P w H (h.push { cls:=.q "dict",data:=.dict #[] }) h.objs.size (.dK []):=
 ⟨ß _,beq_eq_false_iff_ne.mpr (Ne.symm (ä hb)),[],.nil,Heap.DictOf.new h⟩
def X1:TE:=λ _ H Q=>∀ p,H p=W->Q (.y p) (upd H p (.dK []))
section
def wU:PE X (.Dict [] [] pos) X1:=λ gu s σ H Q I h=>
 wpAny_Dict_empty ⟨.y s.L,_,I.laid (a:=s.L) (o:=.dK []) (t':=s.M) (λ _ _ q=>Î _ q) (Í _) (FZ s.heap I.big),rfl,h _ (I.hok.fresh (Í _))⟩
end
def NY:List (TE×TE)->St->Hp->(List (V×V)->Hp->Prop)->Prop
 |[],_,H,Q=>Q [] H
 |(tk,tv)::r,σ,H,Q=>tk σ H λ x H1=>tv σ H1 λ y H2=>NY r σ H2 λ ps H3=>Q ((x,y)::ps) H3
abbrev VV:List (V×V)->List (À×À)->Prop:=Paired λ p q=>bE p.1 q.1/\bE p.2 q.2
def PPs (X:Cx) (pos:Pos) (keys:List (Option Expr)) (values:List Expr) (Le:List (TE×TE)):Prop:=
 ∀(gu:List (Á×Obj)) (s:Â) (σ:St) (H:Hp) (Q:List (V×V)->Hp->Prop),Inv X gu σ H s->NY Le σ H Q->
  wpAny (model X.prog X.w) X.A (evalPairs (pairTrees keys values X.env pos)) (λ vs s'=>∃ ps H',Inv X gu σ H' s'/\VV ps vs/\Q ps H') X.xe s
def TZ :PPs X pos [] [] []:=λ gu s σ H Q I h=>pairTrees_nil_walk ⟨[],H,I,.nil,h⟩
def P2  (hk:PE X k tk) (hv:PE X v tv) (hr:PPs X pos ks vs Le) :
  PPs X pos (O k::ks) (v::vs) ((tk,tv)::Le):=λ gu s σ H Q I h=>
 pairTrees_cons_walk (dG (hk gu s σ H _ I h) λ u s1 ⟨x,H1,I1,rx,q1⟩=>dG (hv gu s1 σ H1 _ I1 q1) λ w2 s2 ⟨y,H2,I2,ry,q2⟩=>
  dG (hr gu s2 σ H2 _ I2 q2) λ ws s3 ⟨ps,H3,I3,rel,q3⟩=>⟨(x,y)::ps,H3,I3,.B ⟨rx,ry⟩ rel,q3⟩)
structure M2 (X:Cx) (o:Expr) (m:Str) (apos:Pos) (e f:Expr) (ji:Pos):Prop where
 base:attributeBase o m X.env (eval o X.env)=eval o X.env
 few:((backTo ji (starEach [e,f] X.env)).all (λ x=>!x.1) && (backToKw ji (keywordEach [] X.env)).all (λ x=>x.1.isSome)
  && decide (([e,f]:List Expr).length+([]:List Keyword).length+(if ([]:List Keyword).isEmpty then 0 else 1) < 30))=EA
 line:(apos.endLine==ji.line)=EA
 trees:backTo ji (starEach [e,f] X.env)=[(JJ,eval e X.env),(JJ,eval f X.env)]
def IsD (H:Hp) (a:Á):Prop:=(∃ ii,Rd H a (.dK ii))\/∃ ii,Rd H a (.dT ii)
def YB {σ:St}{a:Á} (I:Inv X gu σ H s) (d:IsD H a) :
  s.TypeIs (.y a) "dict" /\ (∀ b,Value.ref a=.y b->∃ ob,s.heap.get? b=O ob/\ob.dict=W)/\(a==sysModules)=false:=by
 rcases d with⟨ii,e⟩|⟨ii,e⟩
 ·let⟨_,hd,vs,_,dd⟩:=RV I.hok e;show⟨dd.typeIs,λ b q=>?_,hd⟩;ext q;let⟨ob,_,_,h1,h2,_⟩:=dd;show⟨ob,h1,h2.2.1⟩
 ·let⟨_,hd,xs,_,dd⟩:=RU I.hok e;show⟨dd.typeIs,λ b q=>?_,hd⟩;ext q;let⟨ob,_,_,h1,h2,_⟩:=dd;show⟨ob,h1,h2.2.1⟩
section
variable {X:Cx}{gu:List (Á×Obj)}{σ:St}{H:Hp}{s:Â}{a:Á}{y d:V}{u r:À}{o:Option V}{A:Around}{E:À->Â->Prop}
def YJ {Q:À->Â->Prop} (hu:A.R+1 < cLine) (I:Inv X gu σ H s) (g:IS H a y o) (ry:bE y u) (rd:bE d r) (h:∀ w' s',Inv X gu σ H s'->bE (o.getD d) w'->Q w' s') :
  wpAny (model X.prog X.w) A (call (.z "dict.get") [.y a,u,r]) Q E s:=by
 rcases g with⟨ii,k,e,ey,l⟩|⟨ii,k,b,e,ey,eb,l⟩
 ·subst ey;let⟨z,hd,vs,rel,dd⟩:=RV I.hok e;show call_meetsIn ő dd.typeIs ae1 (aev _ _ _) (meets_dict_get_default (eK X.prog X.w) a (zY ry) hd r) ⟨_,dd.mapOf,h _ _ (I.tok _) ?_⟩;rw[l];show(rel.val k).getD rd
 ·subst ey;cases(show u=Value.ref b from ry);let⟨z,hd,xs,rel,dd⟩:=RU I.hok e;show call_meetsIn ő dd.typeIs ae1 (aev _ _ _) (meetsH_dict_get_default (tupleKind (eK X.prog X.w)) a b hd r) ⟨tupleKind_room_in1 hu,k,xs,IF I.hok eb,dd,h _ _ (I.tok _) ?_⟩;rw[l];show(rel.val k).getD rd
end
def X2 (td ty tx:TE):TE:=λ σ H Q=>td σ H λ x H1=>∃ a,x=.y a/\IsD H1 a/\ty σ H1 λ y H2=>tx σ H2 λ z H3=>∃ o,IS H3 a y o/\Q (o.getD z) H3
section
def wV (hu:X.A.R+1 < cLine) (ho:PE X o td) (he:PE X e ty) (hf:PE X f tx) (m:M2 X o "get" apos e f ji):PE X (.rj (.E o "get" apos) [e,f] [] ji) (X2 td ty tx):=by
 intro gu s σ H Q I h;show wpAny_Call_method m.base m.few m.line agg ő PySem.F.type_dict_get (dG (ho gu s σ H _ I h) λ u s1 ⟨x,H1,I1,rx,a,ex,d,q1⟩=>?_);subst ex;obtain rfl:u=Value.ref a:=rx;let⟨t1,t2,_⟩:=YB I1 d;show⟨t1,t2,?_⟩;rw[m.trees];show Ŧ Y (ũ (Ŕ (dG (he gu s1 σ H1 _ I1 q1) λ iv s2 ⟨y,H2,I2,ry,q2⟩=>
  Ŕ (dG (hf gu s2 σ H2 _ I2 q2) λ fv s3 ⟨z,H3,I3,rz,ov,g,q3⟩=>af6 ?_))))
 show YJ hu I3 g ry rz λ w' s4 I4 uw=>⟨_,H3,I4,uw,q3⟩
end
section
end
section
end
end L2
namespace Att
open PySem PySem.W PySem.Calls PyProof.Rows
def uU {P:Params}:∀(ns:List Int) (vs:List À),WellAll P h vs (ns.map WData.int)->IntsAre vs ns:=by
 intro ns
 induction ns with
 |nil=>
  intro vs w;rw[Ă]at w;ext w;show .nil
 |cons n ns ih=>
  intro vs w;rw[Ø]at w;cases w with
  |cons a b=>
   ext a;show .B _ _ (ih _ b)
def LU {l:OpenLaw} (hn:l.most=O n) {P:Params}{vals:List À}
  (Ar:l.row.toRowW.claim.pre args=EA) (Bx:WellAll P h vals args) :
  ∃ a vs ns,vals=[Value.ref a]/\args=[WData.list (ns.map WData.int)]/\h.get? a=O { cls:=.q "list",data:=.V vs.toArray }/\IntsAre vs ns/\ns.Z<=n:=by
 let W_:WShape.hasAll [] args [.list .int]=true:=(pre_splitW Ar).1;let hc:l.pre.holds [] { args:=args }=true:=(pre_splitW Ar).2;let⟨d,r,Y,h1,h2⟩:=hasAllW_cons W_;obtain rfl:=hasAllW_nil h2;let⟨xs,Y,h3⟩:=hasW_list h1;let⟨ns,Y⟩:=items_int h3;let io:ns.Z<=n:=by
  unfold OpenLaw.pre at hc;let h4:(WTm.not (.lt (.lit (.u (n:Int))) (.len (.arg 0)))).holds [] { args:=[.list (ns.map .int)] }=true:=by
   let h4:=(holds_andW hc).1;rw[hn]at h4;show h4
  let h5:=condW_of h4 (w_not (w_lt w_lit (w_len_list (w_arg rfl))));rw[Ê]at h5;show Nat.le_of_not_lt λ q=>?_;let q':(n:Int) < ((ns.Z:Nat):Int):=by lia
  first
   |(rw[á q']at h5;show absurd h5 JL)
   |(simp at h5;lia)
 cases Bx with
 |cons w1 w2=>
  ext w2;cases w1 with
  |list ho pe=>show⟨_,_,ns,Y,Y,ho,uU ns _ pe,io⟩
def LZ (l:OpenLaw) (args:List WData):l.row.toRowW.claim.post args (.I EA) args=true:=
 postW_of (r:=l.row.toRowW) (X:=(EA==EA))
  (show WShape.has [] (.I EA) .bool=EA by first|rfl|decide|simp[WShape.has,WShape.arms,WShape.armsAll])
  (show(WTm.eq .res (.lit (.I EA))).value [] { args:=args,res:=O (.I EA),after:=args }=O (.I (EA==EA))from w_eq_bool (w_res rfl) w_lit) rfl
def attach_call {l:OpenLaw}{q:Ã}{XP:(Str->Option À)->Heap->Prop}{YP:World->Heap->Prop}{d:DefRec}
  (hn:l.most=O n) (Gy:d.params.defaults=[])
  (call:∀(w:World) (s₀ ai:Â) (mg mb:Str->Option À) (fa:Á) (o:Obj) (pm cd doc:À) (a:Á) (vs:List À) (ns:List Int),
   Ground q loose [] XP w s₀ mg mb ai.heap->YP w ai.heap->
   ai.heap.get? fa=O o->o.data=.func (docDef d.name d.params d.body d.scope pm cd doc)->ai.heap.CodeRec cd d.name->mg d.name=O (.y fa)->
   ai.heap.get? a=O { cls:=.q "list",data:=.V vs.toArray }->IntsAre vs ns->ns.Z<=n->ai.gens= #[]->
   codeAny (model l.prog w) callerA (.call (.y fa) ⟨[.y a],[]⟩) (λ r s'=>r=.ok (.ret (.I EA))/\OldK ai.heap s'.heap/\s'.os=ai.os/\AllBare s'.gens) ai) :
  WalkO q loose XP YP l.row.toRowW d [] (λ f vs=>PySem.call f vs):=by
 intro w s₀ ai mg mb G E7 fa o pm cd doc dV kV ho hd qi hD Gz hg args vals as Ar X_ Fk Bx Hc;obtain rfl:dV=.none:=Dflts.none hD Gy;obtain rfl:kV=.none:=Dflts.noKw hD;let⟨a,vs,ns,Y,Y,Cs,hints,io⟩:=LU hn Ar Bx;show enter_call (Ň (call w s₀ ai mg mb fa o pm cd doc a vs ns G E7 ho (fd_plain hd) qi Gz Cs hints io hg) λ r s' hq=>?_);let⟨Y,h2,h3,h4⟩:=hq;show⟨.p ⟨.I EA,.I EA,[],Y,λ _=>Y,.I EA,LZ l _,λ _=>⟨List.Pairwise.nil,λ _ hm=>(nomatch hm)⟩⟩,h2,h3,h4⟩
section
end
end Att
namespace L2
open PySem PySem.Spec PyProof.Rows
theorem yY:∀ {vs:List À}{ns:List Int},IntsAre vs ns->bN (ns.map V.int) vs
 |_,_,.nil=>.nil
 |_,_,.cons n t h=>.cons ⟨t,rfl⟩ (yY h)
def bM (s:Stmt) (j:Nat):Stmt:=match s with
 |.ClassDef _ _ _ body _ _ _ _ _ _ _=>body.getD j (.Pass ⟨0,0,0,0⟩)
 |_=>.Pass ⟨0,0,0,0⟩
def fZ (s:Stmt):Arguments:=match s with
 |.FunctionDef _ a _ _ _ _ _ _ _ _=>a
 |_=>{ posonlyargs:=[],args:=[],vararg:=W,kwonlyargs:=[],kw_defaults:=[],kwarg:=W,defaults:=[] }
def dS (s:Stmt):List Stmt:=match s with
 |.FunctionDef _ _ b _ _ _ _ _ _ _=>b
 |_=>[]
def aJ (s:Stmt):Scope:=match s with
 |.FunctionDef _ _ _ _ _ _ sc _ _ _=>sc
 |_=>{ kind:=.function,names:=[],isGenerator:=JJ,isCoroutine:=JJ }
abbrev gT:GH:=λ _ _ _ _ _ _=>False
abbrev E0:XK:=λ _ _ _=>False
def jY :j8 gT X E0:=λ _ _ _ _ _ _ _ h=>h.elim
structure Fun (K:Ç) (x qual:Str) (st:Stmt) (f:Á) (fd:FuncData):Prop where
 ex:∃(oc:À) (od:Option Á) (kV doc pm:À) (an:Option Á) (cdv ct:À) (osl:Array (Option À)),
  fd=PySem.W.fnOf x qual (fZ st) (dS st) (aJ st) .none kV doc pm an cdv ct/\K.lookup f=O ⟨oc,od,.func fd,osl⟩/\PySem.W.codeIn K cdv qual=EA
 kp:PySem.W.keepIn K (.y f)=EA
def Fun.ok {x qual:Str}{st:Stmt}{ps:List Str}{k:Nat}{sp:Sp} (F:Fun K x qual st f fd) (N) (lq:FnScope N ps (aJ st)->∀(ir:À) (A:Around) (outer:List Env) (s:Â) (H:Hp) (vs:List V) (Q:VK) (E:XK),Room k (A.deeper (envOfC qual (aJ st) s.heap.objs.size f ir))->sp vs H Q E->
   ∃ t,DM (oN gT P w K mg base N qual (aJ st) f ir A outer s H E).nox (dS st) t/\t { nx:=λ _ H'=>Q .non H',rt:=Q } (kJ N vs) H) (S:autoParam (FnScope N ps (aJ st)) _C) (len:autoParam (∀ vs H Q E,sp vs H Q E->vs.Z=ps.Z) _E):FnOk P w K mg base gT (k+1) f fd ps sp:=by
 let⟨oc,od,kV,doc,pm,an,ir,ct,uy,Y,lk,qi⟩:=F.ex;show RN lk qi S len λ A outer s H vs Q E hr lw=>?_;let⟨t,h,q⟩:=lq S ir A outer s H vs Q E hr lw;show⟨t,h.nox,q⟩
def Fun.binds {st:Stmt}{ps:List Str} (F:Fun K x qual st f fd)
  (h:∀(kV doc pm:À) (an:Option Á) (ir ct:À) (us:List À),us.Z=ps.Z->bindArgs (PySem.W.fnOf x qual (fZ st) (dS st) (aJ st) .none kV doc pm an ir ct) ⟨us,[]⟩=pure (ps.zip us)):gW K fd ps []:=by
 let⟨oc,od,kV,doc,pm,an,ir,ct,uy,Y,lk,qi⟩:=F.ex;show .all (h kV doc pm an ir ct)
def D5 {st:Stmt}{f:Á}{oc:À}{od an:Option Á}{uy:Array (Option À)}{kV doc pm ir ct:À} (l:K.lookup f=O ⟨oc,od,.func (PySem.W.fnOf x qual (fZ st) (dS st) (aJ st) .none kV doc pm an ir ct),uy⟩)
  (c:PySem.W.codeIn K ir qual=EA) (k:PySem.W.keepIn K (.y f)=EA):Fun K x qual st f (PySem.W.fnOf x qual (fZ st) (dS st) (aJ st) .none kV doc pm an ir ct):=⟨⟨oc,od,kV,doc,pm,an,ir,ct,uy,rfl,l,c⟩,k⟩
def WH  (hr:Room k A):A.R+1 < cLine:=afy (Nat.add_le_add_left (by decide:1<=64) _) hr.R
def bB  (h:n<=1000):n < sizeLine:=afy h JL
section
variable {X:Cx}
def pv (i:Nat){pos:Pos} (hN:autoParam (X.N[i]?=O x) _0) (hv:Z0 X.env.scope x:=by with_unfolding_all first|show Or.inl Y|show Or.inr (Or.inl Y)|show Or.inr (Or.inr Y)) (hd:autoParam ((x==("__debug__":Str))=false) _2)
  (qi:autoParam ((x==("__classdict__":Str))=false) _2):PE X (.C x pos) (eB i):=HI hN hv hd qi
end
def bR {A B:Prop} (h:B):if JJ=EA then A else B:=by
 rw[Ä â];show h
def cH {A B:Prop} (h:A):if EA=EA then A else B:=by
 rw[Å rfl];show h
def iN {c A B:Prop} [Decidable c] (h1:c->A) (h2:¬ c->B):if c then A else B:=by
 by_cases h:c
 ·rw[Å h];show h1 h
 ·rw[Ä h];show h2 h
def iteNS {c A B:Prop} [Decidable c] (hc:c) (h:B):if (!decide c)=EA then A else B:=by
 rw[á hc];show bR h
def aI (H H':Hp):Prop:=∀ b o,H b=O o->H' b=O o
def aI.refl (H:Hp):aI H H:=λ _ _ h=>h
def Ć:=@aI.refl
def aI.trans  (a:aI H H1) (b:aI H1 H2):aI H H2:=λ c o h=>b c o (a c o h)
def aI.free  (e:aI H H') (h:H' l=Option.none):H l=Option.none:=by
 cases q:H l with
 |none=>rfl
 |some o=>
  rw[e l o q]at h;cases h
def aI.seq  (e:aI H H') (h:bC K H a xs):bC K H' a xs:=by
 rcases h with(h|⟨o,h⟩)|h
 ·show .p (.p (e _ _ h))
 ·show .p (.x ⟨o,e _ _ h⟩)
 ·show .x h
end L2
set_option maxHeartbeats 4000000
namespace L2
open PySem PySem.Spec PyProof.Rows
theorem jM {env:Env} (hk:env.scope.kind=.function):∀ {names:List (Str×NameKind)}{x:Str},names.lookup x=O .free->env.kindOf x=O .cell->
  (names.map λ(n,k)=>if (k==NameKind.free && env.scope.kind== .function && env.kindOf n==O .cell)then(n,NameKind.cell)else(n,k)).lookup x=O .cell
 |[],_,h,_=>by simp at h
 | (n,k)::r,x,h,hc=>by
  let ih:=@jM env hk r x;change List.lookup x ((if (k==NameKind.free && env.scope.kind== .function && env.kindOf n==O .cell)=EA then(n,NameKind.cell)else(n,k))::_)=_;cases hx:x==n with
  |true=>
   simp only[Ĩ,hx]at h;ext h;let e:x=n:=by simpa using hx
   subst e;rw[Å (by rw[hk,hc];decide)];simp[Ĩ]
  |false=>
   simp only[Ĩ,hx]at h
   by_cases hq:(k==NameKind.free && env.scope.kind== .function && env.kindOf n==O .cell)=EA
   ·rw[Å hq];simp only[Ĩ,hx];show ih h hc
   ·rw[Ä hq];simp only[Ĩ,hx];show ih h hc
def SL (env:Env):List (Str×Á)->Prop
 |[]=>True
 |p::r=>env.cells.lookup p.1=O p.2/\SL env r
def SL.get :∀ {cl:List (Str×Á)},SL env cl->∀ x c,cl.lookup x=O c->env.cells.lookup x=O c
 |[],_,_,_,e=>by simp at e
 | (n,a)::r,h,x,c,e=>by
  cases hx:x==n with
  |true=>
   simp only[Ĩ,hx]at e;ext e;let e':x=n:=by simpa using hx
   subst e';show h.1
  |false=>
   simp only[Ĩ,hx]at e;show SL.get h.2 x c e
def GF (X:Cx) (scope:Scope) (N':List Str):List (Option Nat)->Nat->Prop
 |[],_=>True
 |none::r,i=>GF X scope N' r (i+1)
 |some j::r,i=>(∃ x,N'[i]?=O x/\X.N[j]?=O x/\scope.names.lookup x=O .free/\X.env.kindOf x=O .cell)/\GF X scope N' r (i+1)
def GF.get :∀ {fr:List (Option Nat)}{k:Nat},GF X scope N' fr k->∀ i j,fr[i]?=O (O j)->
  ∃ x,N'[k+i]?=O x/\X.N[j]?=O x/\scope.names.lookup x=O .free/\X.env.kindOf x=O .cell
 |[],_,_,i,j,e=>by simp at e
 |none::r,k,h,0,j,e=>by simp at e
 |some _::r,k,h,0,j,e=>by simp at e;subst e;show h.1
 |none::r,k,h,i+1,j,e=>by
  let:=GF.get (k:=k+1) (show GF X scope N' r (k+1)from h) i j (by simpa using e)
  rwa [Nat.add_right_comm]at this
 |some _::r,k,h,i+1,j,e=>by
  let:=GF.get (k:=k+1) h.2 i j (by simpa using e)
  rwa [Nat.add_right_comm]at this
structure LcOk (X:Cx) (scope:Scope) (cl:List (Str×Á)) (N':List Str) (fr:List (Option Nat)):Prop where
 clos:closureFor scope X.env=pure cl
 cls:SL X.env cl
 kind:scope.kind=.function
 nocell:(scope.names.all λ p=>p.2 != NameKind.cell)=EA
 locs:(scope.names.all λ p=>p.2 != NameKind.local || scope.names.lookup p.1==O NameKind.local)=EA
 frees:(scope.names.all λ p=>p.2 != NameKind.free || (cl.lookup p.1).isSome)=EA
 len:fr.Z=N'.Z
 fr:GF X scope N' fr 0
def KK (fr:List (Option Nat)) (σ:St):St:=fr.map λ o=>o.bind λ j=>(σ[j]?).join
def DN (X:Cx) (N':List Str) (scope:Scope) (cl:List (Str×Á)) (fp:List Á) (s:Â) (H:Hp):Cx:=
 { X with N:=N',s₀:=s,H₀:=H,env:=compEnvC scope cl s.heap.objs.size X.env,outer:=X.stack,ex:=fp,fn:=λ _=>JJ,pn:=[] }
def PIf (X:Cx) (ifs:List Expr) (t:TT):Prop:=
 ∀(gu:List (Á×Obj)) (s:Â) (σ:St) (H:Hp) (Q:Bool->Hp->Prop),Inv X gu σ H s->t σ H Q->
  wpAny (model X.prog X.w) X.A (forIn ifs EA λ c r=>if r=EA then do let ok <- isTrue c X.env (eval c X.env);pure (ForInStep.yield ok)else pure (ForInStep.yield r)) (TP X gu σ Q) X.xe s
def GN:TT:=λ _ H Q=>Q EA H
def cP :PIf X [] GN:=λ _ _ _ H _ I h=>wpAny_tests_nil ⟨H,I,h⟩
def BK  (h:PT X c t):PIf X [c] t:=λ gu s σ H Q I hw=>wpAny_tests_one (h gu s σ H Q I hw)
def lA (J:It) (g:TG) (tc:TT) (te:TE) (fr:List (Option Nat)) (σ:St) (H1:Hp) (Q:Á->Hp->Prop):Prop:=
 ∀ D,H1 D=W->∃ E9:Nat->Nat->List V->St->Hp->Prop,(∃ m,E9 0 m [] (KK fr σ) (upd H1 D (.j [])))/\
  ∀ i m ys ac H',E9 i m ys ac H'->(J.stop i H'/\Q D H')\/
   (J.go i H'/\∃ N:List V->St->Hp->Prop,(∀ As fz tw,N As fz tw->∃ m',m' < m/\E9 (i+1) m' As fz tw)/\
    ∀ x H2,J.yld i H' x H2->g x ac H2 λ aq H3=>tc aq H3 λ b H4=>
    if b=EA then te aq H4 λ y H5=>H5 D=O (.j ys)/\ys.Z < sizeLine/\N (ys++[y]) aq (upd H5 D (.j (ys++[y])))
    else N ys aq H4)
def xT  (Pv:Á->Nat->List V->St->Hp->Prop)
  (h0:∀ D,H1 D=W->Pv D 0 [] (KK fr σ) (upd H1 D (.j [])))
  (kj:∀ D ys ac H',Pv D n ys ac H'->J.stop n H'/\Q D H')
  (sf:∀ D i ys ac H',i < n->Pv D i ys ac H'->J.go i H'/\∀ x H2,J.yld i H' x H2->g x ac H2 λ aq H3=>tc aq H3 λ b H4=>
    if b=EA then te aq H4 λ y H5=>H5 D=O (.j ys)/\ys.Z < sizeLine/\Pv D (i+1) (ys++[y]) aq (upd H5 D (.j (ys++[y])))
    else Pv D (i+1) ys aq H4):lA J g tc te fr σ H1 Q:=by
 intro D hD;show⟨λ i m ys σ H=>m=n - i/\i<=n/\Pv D i ys σ H,⟨n,JN,ß _,h0 D hD⟩,?_⟩;rintro i m ys ac H' zQ;let⟨Y,hi,p⟩:=zQ
 by_cases ki:i < n
 ·let⟨go,step⟩:=sf D i ys ac H' ki p;show .x ⟨go,Pv D (i+1),λ As fz tw p'=>⟨n - (i+1),JM,Y,ki,p'⟩,step⟩
 ·let e:i=n:=by lia
  subst e;show .p (kj D ys ac H' p)
def KL {J:It}{g:TG}{tb:TS}{D:Ends}{σ:St}{H:Hp} (Pv:Nat->St->Hp->Prop) (h0:Pv 0 σ H) (kj:∀ σ H,Pv n σ H->J.stop n H/\D.nx σ H)
  (sf:∀ i σ H,i < n->Pv i σ H->J.go i H/\∀ x H',J.yld i H x H'->g x σ H' λ ba H2=>tb { D with nx:=Pv (i+1),ct:=Pv (i+1),bk:=D.nx } ba H2) :
  ∃ E9:Nat->Nat->St->Hp->Prop,(∃ m,E9 0 m σ H)/\∀ i m σ H,E9 i m σ H->
   (J.stop i H/\D.nx σ H)\/(J.go i H/\∃ N:St->Hp->Prop,(∀ ac H',N ac H'->∃ m',m' < m/\E9 (i+1) m' ac H')/\∀ x H',J.yld i H x H'->g x σ H' λ ba H2=>tb { D with nx:=N,ct:=N,bk:=D.nx } ba H2):=by
 show⟨λ i m σ H=>m=n - i/\i<=n/\Pv i σ H,⟨n,JN,ß _,h0⟩,?_⟩;rintro i m σ H ⟨rfl,hi,p⟩
 by_cases ki:i < n
 ·let⟨go,step⟩:=sf i σ H ki p;show .x ⟨go,Pv (i+1),λ ac H' p'=>⟨n - (i+1),JM,Y,ki,p'⟩,step⟩
 ·let e:i=n:=by lia
  subst e;show .p (kj σ H p)
def tLC (wi:TI) (fr:List (Option Nat)) (g:TG) (tc:TT) (te:TE):TE:=λ σ H Q=>wi σ H λ J H1=>lA J g tc te fr σ H1 λ D H'=>Q (.y D) H'
section
variable {prog:Ã}{A:Around}{R:Result->Â->Prop}{s:Â}
set_option tactic.hygienic true in
def D7 {elt target iter:Expr}{ifs:List Expr}{scope:Scope}{pos:Pos}{it jt:À}{env:Env} (I:Nat->Â->Prop)
  (turn:∀ n s,I n s->wpAny (model prog w) A (pyNext it) (λ r ai=>match r with
   |none=>R (.ok .next) ai
   | some v=>wpAny (model prog w) A (letOwnedTupleGo target it v) (λ _ ge=>wpAny (model prog w) A (assign target env v) (λ _ bx=>
     wpAny (model prog w) A (forIn ifs EA λ c r=>if r=EA then do let ok <- isTrue c env (eval c env);pure (ForInStep.yield ok)else pure (ForInStep.yield r)) (λ ok bz=>
      if ok=EA then wpAny (model prog w) A (eval elt env) (λ x dt=>
       wpAny (model prog w) A (call (.z "list.append") [jt,x]) (λ _ gn=>∃ m,m < n/\I m gn) (notedBy (model prog w) A env λ e s'=>R (.error e) s') dt) (notedBy (model prog w) A env λ e s'=>R (.error e) s') bz
      else ∃ m,m < n/\I m bz) (notedBy (model prog w) A env λ e s'=>R (.error e) s') bx) (notedBy (model prog w) A env λ e s'=>R (.error e) s') ge) (notedBy (model prog w) A env λ e s'=>R (.error e) s') ai)
    (notedBy (model prog w) A env λ e s'=>R (.error e) s') s)
  (n:Nat) (h:I n s) :
  codeAny (model prog w) A (.compLoop (.ListComp elt [⟨target,iter,ifs,0⟩] scope pos) 0 it jt env) R s:=by
 show codeAny_loop Y I (λ n s hI=>?_) n h;change wpAny _ A ((compTurn (.ListComp elt [⟨target,iter,ifs,0⟩] scope pos) 0 it jt env).onRaise (λ x=>do noteFrame x env;theTreesLotGoes x)) _ _ s;show wpAny_noted ?_;rw[compTurn_list];show Æ (ĺ (Æ (î (turn n s hI) (λ r ai h₁=>?_) λ _ _ h'=>h')));cases r with
 |none=>show Ë h₁
 |some v=>
  show Æ (î h₁ (λ _ ge Y_=>?_) λ _ _ h'=>h');show Æ (î Y_ (λ _ bx ap=>Æ (î ap (λ ok bz ak=>?_) λ _ _ h'=>h')) λ _ _ h'=>h');cases ok with
  |false=>show Ë ⟨Y,ak⟩
  |true=>
   show Æ (Æ (î ak (λ x dt au=>Æ (î au (λ _ gn bn=>Ë (Ë ⟨Y,bn⟩)) λ _ _ h'=>h')) λ _ _ h'=>h'))
end
section
set_option tactic.hygienic true in
def LcOk.invC {fr:List (Option Nat)}{σ:St}{H:Hp}{s:Â}{h1:Heap}{fp:List Á}{m1:Str->Option À}{tk:Nat}
  (S:LcOk X scope cl N' fr) (I:Inv X gu σ H s) (hf:∀ b∈fp,qQ X gu H b) (Lf:∀ b∈fp,b < s.L)
  (k:∀ b o,s.heap.get? b=O o->h1.get? b=O o) (hn:h1.Ns s.heap.objs.size m1):Inv (DN X N' scope cl fp s H) [] (KK fr σ) H { s with heap:=h1,toks:=tk }:=by
 let ou:=S.frees;let mn:=S.nocell;rw[Ĕ]at ou mn;let fresh:H s.L=none:=I.hok.fresh (Í _);let Fl:=S.cls.get;show⟨⟨I.ok.mod,S.kind,I.ok.glob,I.ok.blt,Í _,λ x y c e1 e2=>I.ok.inj x y c (Fl x c e1) (Fl y c e2),λ x hx=>?_,(λ x c e=>nomatch e),I.ok.hd,I.ok.frames,.p Y,λ b hb=>⟨ä (Lf b hb),λ x c e=>(hf b hb).2.2.2.2.1 x c (Fl x c e)⟩,
  I.bs,ï I.ok.bsz I.sz,λ b o e hb=>?_,λ b hb hz=>?_,I.stack,I.stkFree⟩,Y,I.bare,Un.kept k,⟨m1,hn,λ i x v e1 e2 e3=>?_⟩,λ x c e=>?_,fresh,λ x c e=>I.freeC x c (Fl x c e),λ p hp=>absurd (show p∈([]:List (Á×Obj))from hp) JN,I.hok.kept k,?_⟩
 ·
  let hm:∃ k',(x,k')∈scope.names/\k'=NameKind.free:=by
   let xt:(relabel scope X.env).names.lookup x=O .cell\/(relabel scope X.env).names.lookup x=O .free:=hx;obtain⟨k',e,yf⟩:∃ k',(relabel scope X.env).names.lookup x=O k'/\(k'=.cell\/k'=.free):=by
    rcases xt with e|e
    ·show⟨_,e,.p Y⟩
    ·show⟨_,e,.x Y⟩
   let Ct:=Ĉ e;let⟨⟨n,kn⟩,hp,he⟩:=Ù.mp Ct;dsimp only at he
   split at he
   ·rename_i hc
    ext he;let:kn=.free:=by
     simp only[ģ,ş]at hc;show hc.1.1
    show⟨kn,hp,this⟩
   ·ext he;rcases yf with e'|e'
    ·subst e';let:=mn _ hp;simp at this
    ·show⟨_,hp,e'⟩
  let⟨k',hp,Y⟩:=hm;let:=ou _ hp;simp only[bne_self_eq_false,ŷ]at this;show Option.isSome_iff_exists.mp this
 ·rcases (hf b hb).2.2.2.1 with z|z
  ·show I.ok.noex b o e z
  ·let:=Ó e;show absurd (é this (ï I.ok.bsz z)) (Ċ _)
 ·let⟨_,f1,f2,_⟩:=hf b hb;rcases Ð.mp (I.stkSub b hz)with e|e
  ·show f1 e
  ·show f2 e
 ·
  unfold KK at e2;rw[Ö]at e2;cases ef:fr[i]? with
  |none=>rw[ef]at e2;cases e2
  |some o=>
   rw[ef]at e2;cases o with
   |none=>simp at e2
   |some j=>
    let He:(σ[j]?).join=O v:=by simpa using e2
    let⟨x',Cu,Fn,Cv,Nw⟩:=S.fr.get i j ef;rw[ź]at Cu;let ex:x'=x:=by
     let:N'[i]?=O x:=e1;rw[Cu]at this;show ñ this
    subst ex;let Nx:σ[j]?=O (O v):=by
     cases q:σ[j]? with
     |none=>rw[q]at He;cases He
     |some z=>rw[q]at He;simp at He;rw[He]
    let⟨m,hm,hl⟩:=I.loc;let⟨u,r,lk⟩:=hl j x' v Fn Nx (.x (.p Nw));show⟨u,r,?_⟩;rcases lk with⟨q,_⟩|⟨_,c,hc,z⟩
    ·rw[Nw]at q;cases q
    ·let vt:∃ c',cl.lookup x'=O c':=by
      let:=ou _ (Ĉ Cv);simp only[bne_self_eq_false,ŷ]at this;show Option.isSome_iff_exists.mp this
     let⟨c',vy⟩:=vt;let e':=Fl x' c' vy;rw[hc]at e';ext e';let⟨oc,xq,hd⟩:=z;show .x ⟨.inl ?_,c,vy,oc,k c oc xq,hd⟩;show jM I.ok.kind Cv Nw
 ·let⟨v,oc,xq,hd⟩:=I.cell x c (Fl x c e);show⟨v,oc,k c oc xq,hd⟩
 ·change(KK fr σ).length=N'.Z;unfold KK;rw[Ê,S.len]
def Inv.outC {σ ac:St}{H H':Hp}{s s':Â}{fp:List Á} (I:Inv X gu σ H s) (J:Inv (DN X N' scope cl fp s H) xb ac H' s')
  (hf:∀ b∈fp,qQ X gu H b):Inv X gu σ H' s':=
 I.call' (ch:=fp) J.os J.base J.hok J.bare λ b hb=>by
  let⟨_,f1,_,f3,f4,f5⟩:=hf b hb;show⟨f3,f1,f4,f5⟩
def Inv.letgo {σ:St}{C:Á}{h':Heap} (I:Inv X gu σ H s) (f:qQ X gu H C) (yg:Heap.SameBut C s.heap h'):Inv X gu σ H { s with heap:=h' }:=by
 let⟨f0,f1,f2,f3,f4,f5⟩:=f;show I.turned (t':=s.M) (it:=C) (h':=h') (λ b o hb e=>(yg.2 b hb).trans e) f0 f1 f3 f4 f5
set_option tactic.hygienic true in
def FM {fr:List (Option Nat)}{cl:List (Str×Á)}{g:TG}{tc:TT}{te:TE}
  {gu:List (Á×Obj)}{σ:St}{H:Hp}{s:Â}{J:It}{fp:List Á}{it:Á}{tn:Nat->Heap->Prop}{Q:Á->Hp->Prop}{RR:À->Á->Result->Â->Prop}{E:À->Â->Prop}
  (hx:∀ e s,¬ X.xe e s) (hc:X.calm=EA) (S:LcOk X scope cl N' fr)
  (hg:∀ fp s H,PG (DN X N' scope cl fp s H) tg g) (ht:∀ fp s H,PIf (DN X N' scope cl fp s H) ifs tc) (he:∀ fp s H,PE (DN X N' scope cl fp s H) elt te)
  (I:Inv X gu σ H s) (T:Turn X.prog X.w X.K tg J fp it tn) (st:tn 0 s.heap) (hf:∀ b∈fp,qQ X gu H b) (h:lA J g tc te fr σ H Q)
  (Z_:∀ D C H' s' m',Inv X gu σ H' s'->Q D H'->s'.heap.Ns C m'->qQ X gu H' C->RR (.y D) C (.ok .next) s') :
  wpAny (model X.prog X.w) X.A (newList []) (λ jt bz=>wpAny (model X.prog X.w) X.A (newFunctionEnv scope X.env.globals cl [] X.env.qual W .none (O X.env)) (λ Hf dt=>
   codeAny (model X.prog X.w) X.A (.compStart (.ListComp elt [⟨tg,iter,ifs,0⟩] scope pos) 0 (.y it) jt { Hf with scope:=relabel scope X.env }) (RR jt Hf.locals) dt) E bz) E s:=by
 let mn:=S.nocell;rw[Ĕ] at mn;show Ģ (wpAny_newFunctionEnv (λ x xt=>by simpa using mn x xt) (by intro y hy;simp at hy) (λ h₁ db df=>?_) S.kind);dsimp only at db df ⊢;let fresh:H s.L=none:=I.hok.fresh (Í _);let I3:Inv X gu σ (upd H s.heap.objs.size (.j [])) { s with heap:=s.heap.push { cls:=.q "list",data:=.V ([]:List À).toArray },toks:=s.toks }:=I.lnew (ys:=[]) (its:=[]) .nil (ß _);let Ny:∀ b∈fp,qQ X gu (upd H s.heap.objs.size (.j [])) b:=λ b hb=>by
  let⟨o,ho,_⟩:=T.obj _ _ st b hb;show⟨by rw[aK (ä (Ó ho))];show(hf b hb).1,(hf b hb).2⟩
 generalize Uc:({ s with heap:=s.heap.push { cls:=.q "list",data:=.V ([]:List À).toArray },toks:=s.toks }:Â)=s3 at I3;let e3:s3.heap=s.heap.push { cls:=.q "list",dict:=W,data:=.V ([]:List À).toArray }:=by rw[<- Uc]
 let Ud:({ s with heap:=s.heap.push { cls:=.q "list",dict:=W,data:=.V ([]:List À).toArray } }:Â)=s3:=Uc;let Nz:s3.L=s.L+1:=by rw[e3,ĉ]
 let Lf:∀ b∈fp,b < s3.L:=λ b hb=>by
  let⟨o,ho,_⟩:=T.obj _ _ st b hb;rw[Nz];show Nat.lt_succ_of_lt (Ó ho)
 rw[<- e3]at db df ⊢;let Cw:∀ b o,s3.heap.get? b=O o->h₁.get? b=O o:=λ b o e=>df.extBut b o (ä (Ó e)) (Î _ e);let lj:∀ b o,s.heap.get? b=O o->s3.heap.get? b=O o:=λ b o e=>by rw[e3];show Î _ e
 let I4:=S.invC (tk:=s3.M) I3 Ny Lf Cw db;let⟨E9,⟨m0,w0⟩,turn⟩:=h s.heap.objs.size fresh;let vz:∀ {H':Hp},(∀ b∈fp,H' b=W)->∀ b∈fp,qQ (DN X N' scope cl fp s3 (upd H s.heap.objs.size (.j []))) [] H' b:=λ hn b hb=>by
  show⟨hn b hb,ä (Lf b hb),?_,.p hb,λ x c e=>(hf b hb).2.2.2.2.1 x c (S.cls.get x c e),λ p hp=>absurd (show p∈([]:List (Á×Obj))from hp) JN⟩;intro hz;let⟨_,f1,f2,_⟩:=hf b hb;rcases Ð.mp (I.stkSub b hz)with e|e
  ·show f1 e
  ·show f2 e
 let loop:∀ s4:Â,s4={ s3 with heap:=h₁,toks:=s3.toks }->
   codeAny (model X.prog X.w) X.A (.compLoop (.ListComp elt [⟨tg,iter,ifs,0⟩] scope pos) 0 (.y it) (.y s.L) (compEnvC scope cl s3.heap.objs.size X.env)) (RR (.y s.L) s3.L) s4:=by
  intro s4 Cy;show D7 (λ n s'=>∃ i ys ac H',Inv (DN X N' scope cl fp s3 (upd H s.heap.objs.size (.j []))) [] ac H' s'/\tn i s'.heap/\(∀ b∈fp,H' b=W)/\E9 i n ys ac H') ?_ m0
   ⟨0,[],KK fr σ,_,by rw[Cy];show I4,by rw[Cy];show T.keep _ _ _ st λ b _ o e=>Cw b o (lj b o e),λ b hb=>(Ny b hb).1,w0⟩
  rintro n s5 zQ;let⟨i,ys,fj,H5,I5,Fg,La,w5⟩:=zQ;rcases turn i n ys fj H5 w5 with⟨stop,qn⟩|⟨go,N,hN,step⟩
  ·show dG (T.done (DN X N' scope cl fp s3 (upd H s.heap.objs.size (.j []))) Y Y Y hc i [] s5 fj H5 _ I5 (vz La) Fg stop) λ r s6 ⟨hr,I6⟩=>?_;subst hr;let⟨m',Lg,_⟩:=I6.loc;show Z_ _ _ H5 s6 m' (I3.outC I6 Ny) qn Lg (I3.fpOk (Í _) I6.free)
  ·show dG (T.item (DN X N' scope cl fp s3 (upd H s.heap.objs.size (.j []))) Y Y Y hc i [] s5 fj H5 _ I5 (vz La) Fg go) λ r s6 ⟨u,hr,h6⟩=>?_;subst hr;show dG h6 λ _ s7 ⟨x,H7,I7,r7,y7,Oa,B'⟩=>?_;let F':=I7.pinned (vz B') (T.obj _ _ Oa);show î (hg fp s3 _ _ s7 fj H7 x u _ F' r7 (step x H7 y7)) (λ _ s8 ⟨cw,H8,I8,q8⟩=>?_) λ e s' z=>(hx e s' z).elim;show î (ht fp s3 _ _ s8 cw H8 _ I8 q8) (λ ok s9 ⟨H9,I9,q9⟩=>?_) λ e s' z=>(hx e s' z).elim;let again:∀ {zj:Â}{wa:Hp}{As:List V},Inv (DN X N' scope cl fp s3 (upd H s.heap.objs.size (.j []))) ([]++wS fp s7.heap) cw wa zj->N As cw wa->
     ∃ m,m < n/\∃ i ys ac H',Inv (DN X N' scope cl fp s3 (upd H s.heap.objs.size (.j []))) [] ac H' zj/\tn i zj.heap/\(∀ b∈fp,H' b=W)/\E9 i m ys ac H':=λ {zj wa As} Hg G'=>by
    let⟨m',hm,Hh⟩:=hN As cw wa G';show⟨m',hm,i+1,As,cw,wa,Hg.unpinned,T.keep _ _ _ Oa λ b hb o e=>(Hg.pin (b,o) (ē _ (ē _ (mO hb e)))).1,λ b hb=>?_,Hh⟩;let⟨o,e,d⟩:=T.obj _ _ Oa b hb;show(Hg.pin (b,o) (ē _ (ē _ (mO hb e)))).2.1
   cases ok with
   |false=>
    rw[Ä â]at q9 ⊢;show again I9 q9
   |true=>
    rw[Å rfl]at q9 ⊢;show î (he fp s3 _ _ s9 cw H9 _ I9 q9) (λ y zj ⟨yv,wa,Hg,Fo,hD,io,J'⟩=>?_) λ e s' z=>(hx e s' z).elim;show î (bW (X:=DN X N' scope cl fp s3 (upd H s.heap.objs.size (.j []))) _ zj cw wa (.y s.L) [yv] (.y s.L) [y] (λ _ Lh=>Lh=upd wa s.heap.objs.size (.j (ys++[yv]))) Hg Y (.B Fo .nil)
     ⟨_,ys,yv,Y,Y,hD,io,Y⟩) (λ _ s11 ⟨_,Lh,K',_,M'⟩=>?_) λ e s' z=>(hx e s' z).elim
    subst M';show again K' J'
 show codeAny_compStart_list (loop _ (by rw[<- Ud];rfl)) (T.self X.A 0 _ _ _ (T.keep _ _ _ st λ b _ o e=>Cw b o (lj b o e)) (loop _ (by rw[<- Ud];rfl)))
def hJ 
  (hx:∀ e s,¬ X.xe e s) (hc:X.calm=EA) (S:LcOk X scope cl N' fr) (hi:PI X tg iter wi)
  (hg:∀ fp s H,PG (DN X N' scope cl fp s H) tg g) (ht:∀ fp s H,PIf (DN X N' scope cl fp s H) ifs tc) (he:∀ fp s H,PE (DN X N' scope cl fp s H) elt te)
  (hs:autoParam (∀ x,foldedSetIterable iter X.env x=pure x) _6):PE X (.ListComp elt [⟨tg,iter,ifs,0⟩] scope pos) (tLC wi fr g tc te):=by
 intro gu s σ H Q I h;let zk:=S.locs;rw[Ĕ]at zk;rw[eval_ListComp];show wpAny_comprehension_free (use:=W) Y hs S.clos S.kind (λ x xt hl=>by let:=zk x xt;rw[hl]at this;simpa using this) (dG (hi gu s σ H _ I h) λ v s1 h1=>dG h1 λ Kz s2 h2=>?_);let⟨it,fp,tn,J,H2,e,I2,T,zd,f2,js⟩:=h2;subst e;show FM (RR:=λ jt C=>compPost (model X.prog X.w) X.A X.xe W (EP X gu σ Q) jt C) hx hc S hg ht he I2 T zd f2 js ?_;intro D C H' s' m' I' q hn f;show⟨m',hn,λ h' yg=>⟨.y D,H',I'.letgo f yg,Y,q⟩⟩
set_option tactic.hygienic true in
def jS {Hi:Pos}{ifs:List Expr}{scope:Scope}{pos:Pos}{N':List Str}{fr:List (Option Nat)}{cl:List (Str×Á)}{wi:TI}{g:TG}{tc:TT}{te:TE}
  (hN:X.N.Nodup) (hy:X.N[i]?=O y) (hk:X.env.scope.names.lookup y=O .local)
  (hx:∀ e s,¬ X.xe e s) (hc:X.calm=EA) (S:LcOk X scope cl N' fr) (hi:PI X tg iter wi)
  (hg:∀ fp s H,PG (DN X N' scope cl fp s H) tg g) (ht:∀ fp s H,PIf (DN X N' scope cl fp s H) ifs tc) (he:∀ fp s H,PE (DN X N' scope cl fp s H) elt te)
  (V':autoParam (swapsWith (.ListComp elt [⟨tg,iter,ifs,0⟩] scope pos) (O (.C y py)) Hi.line X.env=pure true) _0)
  (hs:autoParam (∀ x,foldedSetIterable iter X.env x=pure x) _6):PS X (.Assign [.C y py] (.ListComp elt [⟨tg,iter,ifs,0⟩] scope pos) Hi) (pD (tLC wi fr g tc te) (cZ i)):=by
 intro gu s σ H D I h;let zk:=S.locs;rw[Ĕ]at zk;rw[exec_Assign_Name_used _ _ _ _ V'];show Æ (ĺ (Æ ?_));change wpAny _ X.A (do let _ <- comprehension (.ListComp elt [⟨tg,iter,ifs,0⟩] scope pos) scope X.env _ (newList []) JJ (eval iter X.env) (O (assign (.C y py) X.env))) _ _ s;show Æ (î (wpAny_comprehension_free (use:=O (assign (.C y py) X.env)) (Q:=λ _ s'=>SP X gu D .next s') Y hs S.clos S.kind (λ x xt hl=>by let:=zk x xt;rw[hl]at this;simpa using this)
  (dG (hi gu s σ H _ I h) λ v s1 h1=>dG h1 λ Kz s2 h2=>?_)) (λ _ s' hq=>Ë (Ë hq)) λ _ _ e=>e)
 let⟨it,fp,tn,J,H2,e,I2,T,zd,f2,js⟩:=h2;subst e;show FM (RR:=λ jt C=>compPost (model X.prog X.w) X.A X.xe (O (assign (.C y py) X.env)) (λ _ s'=>SP X gu D .next s') jt C) hx hc S hg ht he I2 T zd f2 js ?_;intro Da C H' s' m' I' q hn f;change wpAny _ X.A (assign (.C y py) X.env (.y Da)) _ _ _;show wpAny_assign_Name (zD I' hN hy (.p hk) (v:=.y Da) Y (λ yc W' uv=>?_) (.x hk));let⟨a,yg,ha⟩:=uv;let X':a≠C:=by
  rcases ha with e|e
  ·rw[e];show Ne.symm f.2.1
  ·show f.2.2.2.2.1 _ _ e
 show⟨m',hn.sameBut yg (Ne.symm X'),λ h' By=>⟨_,H',W'.letgo f By,q⟩⟩
end
end L2
namespace TwZ
open PySem
open Sem (wp)
def fE (h:Heap) (t:Bool) (it a:Á) (i:Nat):Prop:=if t=EA then h.IsTupleIter it a i else h.IsListIter it a i
def cC (h:Heap) (t:Bool) (a:Á) (items:Array À):Prop:=if t=EA then h.IsTuple a items else h.IsList a items
def fE.at  (x:fE h t it a i) (k:∀ o,h.get? it=O o->h'.get? it=O o):fE h' t it a i:=by
 ext t <;> (let⟨o,ho,r⟩:=x;show⟨o,k o ho,r⟩)
def ex {b c:Á} (hs:Heap.SameBut b h h') (hc:@Ne Nat c b) (e:h.get? c=O o):h'.get? c=O o:=hs.extBut _ _ hc e
def fE.ext {it a b:Á} (x:fE h t it a i) (hs:Heap.SameBut b h h') (yh:@Ne Nat it b):fE h' t it a i:=x.at λ o e=>hs.extBut _ _ yh e
def cC.at  (x:cC h t a xs) (k:∀ o,h.get? a=O o->h'.get? a=O o):cC h' t a xs:=by
 ext t <;> (let⟨o,ho,r⟩:=x;show⟨o,k o ho,r⟩)
def cC.ext {a b:Á} (x:cC h t a xs) (hs:Heap.SameBut b h h') (yh:@Ne Nat a b):cC h' t a xs:=x.at λ o e=>hs.extBut _ _ yh e
def cC.lt  (x:cC h t a xs):a < h.objs.S:=by
 ext t <;> (let⟨o,ho,r⟩:=x;show Ó ho)
def fE.obj  (x:fE h t it a i):∃ o,h.get? it=O o/\∀ v,o.data≠.cell v:=by
 ext t <;> (let⟨o,ho,_,d⟩:=x;show⟨o,ho,λ v z=>by rw[d]at z;ext z⟩)
section
variable {prog:Ã}{M:Model}{A:Around}{E:À->Â->Prop}{s:Â}
def tU {a:Á}{Q:Option Obj->Â->Prop} (h:Q (s.heap.get? a) s):wpAny M A (loadIfAlive a) Q E s:=λ Γ p _=>by
 unfold loadIfAlive;rw[Sem.wp_loadIfAlive];show h
def rZ {it l:Á}{items}{x:À}{Q:À->Â->Prop} (hit:s.heap.IsTupleIter it l i)
  (hl:s.heap.IsTuple l items) (hx:items[i]?=O x)
  (hQ:∀ h',h'.IsTupleIter it l (i+1)->Heap.SameBut it s.heap h'->Q x { s with heap:=h' }) :
  wpAny (model prog w) A (Builtin.SmallTypes.nextOf (.y it)) Q E s:=by
 let⟨o,ho,hc,hd⟩:=id hit;let⟨ol,At,_,nl,Cz⟩:=hl;unfold Builtin.SmallTypes.nextOf;show Æ (Ŏ (name:=Str.ofString "__next__") hit.typeIs ţ
  (Ĝ ţ hit.typeIs F.entry_tuple_iterator_next ?_ (afj _)))
 change wpAny _ _ (field (.y it) 0 >>= _) _ _ s;show Æ (ì ho hd (x:=.y l) Y ?_);change wpAny _ _ (if (Value.ref l == Value.none)=EA then _ else _) _ _ s;rw[Ä (show ¬ ((Value.ref l == Value.none)=EA) from â)];change wpAny _ _ (field (.y it) 1 >>= _) _ _ s;show Æ (ì ho hd (x:=.u i 0) Y ?_);change wpAny _ _ (seqItems? (.y l) >>= _) _ _ s;show Æ (Ā At Cz ?_);simp only [af8,hx];show Æ (wpAny_setField ho hd JN (Ë ⟨x,Y,Ë (hQ _ ?_ (afn ..))⟩));show⟨_,afb _ ho (Obj.isFreed_of_fields (Obj.data_mapFields hd _)),(Obj.cls_mapFields ..).trans hc,by
  rw[Obj.data_mapFields hd];simp[rawInt]⟩
def tK {it l:Á}{items}{Q:À->Â->Prop} (hh:A.handled=W)
  (hit:s.heap.IsTupleIter it l i) (hl:s.heap.IsTuple l items) (hx:items[i]?=W)
  (hE:∀ h' e,Heap.ExtBut it s.heap h'->(∃ o,h'.get? e=O o/\o.cls=.q "StopIteration")->E (.y e) { s with heap:=h' }) :
  wpAny (model prog w) A (Builtin.SmallTypes.nextOf (.y it)) Q E s:=by
 let⟨o,ho,hc,hd⟩:=id hit;let⟨ol,At,_,nl,Cz⟩:=hl;unfold Builtin.SmallTypes.nextOf;show Æ (Ŏ (name:=Str.ofString "__next__") hit.typeIs ţ
  (Ĝ ţ hit.typeIs F.entry_tuple_iterator_next ?_ (afj _)))
 change wpAny _ _ (field (.y it) 0 >>= _) _ _ s;show Æ (ì ho hd (x:=.y l) Y ?_);change wpAny _ _ (if (Value.ref l==Value.none)=EA then _ else _) _ _ s;rw[Ä (show ¬ ((Value.ref l==Value.none)=EA)from â)];change wpAny _ _ (field (.y it) 1 >>= _) _ _ s;show Æ (ì ho hd (x:=.u i 0) Y ?_);change wpAny _ _ (seqItems? (.y l) >>= _) _ _ s;show Æ (Ā At Cz ?_);simp only[af8,hx];show Æ (Ė (Æ (wpAny_setField ho hd JN ?_)));change wpAny _ _ (newExc (.q "StopIteration") [] >>= _) _ _ _;show Æ ?_;simp only[newExc,newTuple];show Æ (Ģ ?_ (by size_fits));show Æ (m:=firstArgMember _ _) (wpAny_of_eq (a:=Value.none) (by first|rfl|(simp only[firstArgMember];rfl)) ?_);show Ģ ?_ (by size_fits);simp only[raiseNew];show Æ (wpAny_handled ?_)
 first|rw[show A.in1.handled=W from hh]|rw[hh]
 show Æ (Ë (wpAny_throw ?_));show hE _ _ (((afn ..).extBut.push _).push _) ⟨_,Ü _ Y,Y⟩
def bT {items}{Q:À->Â->Prop} (hit:fE s.heap t it l i)
  (hl:cC s.heap t l items) (hx:items[i]?=O x)
  (hQ:∀ h',fE h' t it l (i+1)->Heap.SameBut it s.heap h'->Q x { s with heap:=h' }) :
  wpAny (model prog w) A (Builtin.SmallTypes.nextOf (.y it)) Q E s:=by
 cases t with
 |true=>show rZ hit hl hx hQ
 |false=>show wpAny_nextOf_list_item hit hl hx hQ
def eI {items}{Q:À->Â->Prop} (hh:A.handled=W)
  (hit:fE s.heap t it l i) (hl:cC s.heap t l items) (hx:items[i]?=W)
  (hE:∀ h' e,Heap.ExtBut it s.heap h'->(∃ o,h'.get? e=O o/\o.cls=.q "StopIteration")->E (.y e) { s with heap:=h' }) :
  wpAny (model prog w) A (Builtin.SmallTypes.nextOf (.y it)) Q E s:=by
 cases t with
 |true=>show tK hh hit hl hx hE
 |false=>show wpAny_nextOf_list_end hh hit hl hx hE
abbrev qP (h:Heap) (z TI TO:Á) (f0:À) (f1:Bool):Prop:=
 h.get? z=O { cls:=.q "zip",dict:=W,data:=.U #[f0,.I f1,.I JJ,.y TI,.y TO],slots:=#[] }
abbrev eW (h:Heap) (T:Á) (vs:Array À):Prop:=h.get? T=O { cls:=.q "tuple",data:=.V vs }
def jF (f0:À):Prop:=f0=.none\/∃ a:Int,f0=.u a 0
def mL {Q:Bool->Â->Prop} (hz:qP s.heap z TI TO f0 f1) (hf:jF f0) (yes:Q EA s)
  (no:∀ h',qP h' z TI TO f0 EA->Heap.SameBut z s.heap h'->Q JJ { s with heap:=h' }):wpAny (model prog w) A (Builtin.SmallTypes.ownedTupleIsFree (.y z)) Q E s:=by
 unfold Builtin.SmallTypes.ownedTupleIsFree;show Æ (ì hz Y (x:=f0) Y ?_);rcases hf with rfl|⟨a,rfl⟩
 ·show Ë yes
 ·show Æ (tU ?_);cases h:s.heap.get? a.Q with
  |none=>show Ë yes
  |some o=>
   change wpAny _ _ (field (.y z) 1 >>= _) _ _ _;show Æ (ì hz Y (x:=.I f1) Y ?_);cases f1 with
   |true=>show Ë (no s.heap hz (Ů ..))
   |false=>
    change wpAny _ _ (setField (.y z) 1 (.I EA) >>= _) _ _ _;show Æ (ÿ hz JN λ h₁ ao ae=>Ë (no h₁ ao ae))
def KH {T:Á}{Q:Unit->Â->Prop} (hz:qP s.heap z TI TO f0 f1)
  (h:∀ h',qP h' z TI TO (rawInt T) JJ->Heap.SameBut z s.heap h'->Q () { s with heap:=h' }):wpAny (model prog w) A (Builtin.SmallTypes.ownedTupleHandOut (.y z) (.y T)) Q E s:=by
 unfold Builtin.SmallTypes.ownedTupleHandOut;show Æ (ÿ hz JN λ h₁ ao ae=>?_);replace ao:qP h₁ z TI TO (rawInt T) f1:=ao;show ÿ ao JN λ ap cg af=>?_;show h ap cg (Heap.SameBut.trans ae af)
def kK {T:Á}{vs:Array À}{x:À}{k:Nat}{Q:Unit->Â->Prop} (hT:eW s.heap T vs) (h3:vs.S<=3)
  (h:∀ h',eW h' T (vs.setIfInBounds k x)->Heap.SameBut T s.heap h'->Q () { s with heap:=h' }):wpAny (model prog w) A (updateSeq T (·.setIfInBounds k x)) Q E s:=by
 let hl:vs.S<=sizeLine:=ï h3 JL;show wpAny_updateSeq (hz:=hl) (_hz':=by rw[Array.size_setIfInBounds];lia) hT Y (h _ ?_ (afn ..));change Heap.get? _ _=_;rw[afb _ hT rfl];simp[Obj.mapSeq]
def nn {n i j:Nat} (h:i≠j):n+i≠n+j:=λ e=>h (Nat.add_left_cancel e)
def n0  (h:0 < j):n≠n+j:=λ e=>absurd e (ä (Nat.lt_add_of_pos_right h))
def n0'  (h:0 < j):n+j≠n:=Ne.symm (n0 h)
def al  (h:a < n) (j:Nat):a≠n+j:=ä (é h (ĵ n j))
def al0 {a n:Nat} (h:a < n):a≠n:=ä h
def co {c n m k:Nat} (h:c < n\/n+m < c) (hk:k<=m):c≠n+k:=λ e=>h.elim (λ h=>absurd e (al h k)) λ h=>absurd (afy (Nat.add_le_add_left hk n) h) (by rw[e];show Ċ _)
def co0 {c n m:Nat} (h:c < n\/n+m < c):c≠n:=co (k:=0) h (ß m)
def aZ  (h:@Ne Nat a b:=by first|show nn JL|show n0 JL|show n0' JL|show al l1 _|show al l2 _|show al l3 _|show al0 l1|show al0 l2|show al0 l3|show co hc JL|show co0 hc|lia):@Ne Nat a b:=h
def LG {n a1 a2 a3:Nat}{f1:Bool}{Q:À->Â->Prop} (hf:jF f0)
  (hz:qP s.heap (n+5) (n+3) (n+4) f0 f1) (nz:eW s.heap (n+3) #[.y n,.y (n+1),.y (n+2)]) (oj:eW s.heap (n+4) #[c1,c2,c3])
  (i1:fE s.heap t1 n a1 k) (i2:fE s.heap t2 (n+1) a2 k) (i3:fE s.heap t3 (n+2) a3 k) (s1:cC s.heap t1 a1 xs) (s2:cC s.heap t2 a2 ys) (s3:cC s.heap t3 a3 zs)
  (l1:a1 < n) (l2:a2 < n) (l3:a3 < n) (hx:xs[k]?=O x) (hy:ys[k]?=O y) (hw:zs[k]?=O z)
  (hQ:∀(T:Nat) h' uz yi d1 d2 d3,s.L<=T->jF uz->qP h' (n+5) (n+3) (n+4) uz yi->eW h' (n+3) #[.y n,.y (n+1),.y (n+2)]->eW h' (n+4) #[d1,d2,d3]->
   fE h' t1 n a1 (k+1)->fE h' t2 (n+1) a2 (k+1)->fE h' t3 (n+2) a3 (k+1)->eW h' T #[x,y,z]->
   (∀(c:Nat) o,(c < n\/n+5 < c)->s.heap.get? c=O o->h'.get? c=O o)->Q (.y T) { s with heap:=h' }) :
  wpAny (model prog w) A (Builtin.«zip.__next__» ⟨[.y (n+5)],[]⟩) (λ fin s'=>∃ v,fin=.done (.ret v)/\Q v s') E s:=by
 let Db:n+5 < s.L:=Ó hz;change wpAny _ _ (field (.y (n+5)) 2 >>= _) _ _ _;show Æ (ì hz Y (x:=.I JJ) Y ?_);change wpAny _ _ (field (.y (n+5)) 3 >>= _) _ _ _;show Æ (ì hz Y (x:=.y (n+3)) Y ?_);show Æ (Ā nz Y ?_);change wpAny _ _ (Builtin.SmallTypes.ownedTupleIsFree (.y (n+5)) >>= _) _ _ _;show Æ (mL hz hf ?_ ?_)
 ·simp only[if_true];show Æ (Ė ?_);show Æ (ì hz Y (x:=.y (n+4)) Y ?_);show Æ (ÿ hz JN λ h₁ ao ae=>?_);replace ao:qP h₁ (n+5) (n+3) (n+4) .ellipsis f1:=ao;show Æ ?_;simp only[ű,Ŵ,Ĭ,ĭ];show Æ (Æ (Ě ?_));change wpAny _ _ (Builtin.SmallTypes.nextOf (.y n) >>= _) _ _ _;show Æ (bT (i1.ext ae aZ) (s1.ext ae aZ) hx λ ap bp af=>Ë ?_);let bo:eW ap (n+4) #[c1,c2,c3]:=ex af aZ (ex ae aZ oj);show Æ (Ā bo Y ?_);show Æ (kK bo JN λ ak bi ah=>?_);replace bi:eW ak (n+4) #[x,c2,c3]:=bi;show Æ (ĥ (Ë ?_));show Æ (Æ (Ě ?_));change wpAny _ _ (Builtin.SmallTypes.nextOf (.y (n+1)) >>= _) _ _ _;show Æ (bT (((i2.ext ae aZ).ext af aZ).ext ah aZ) (((s2.ext ae aZ).ext af aZ).ext ah aZ) hy λ au cn aj=>Ë ?_);let bw:eW au (n+4) #[x,c2,c3]:=ex aj aZ bi;show Æ (Ā bw Y ?_);show Æ (kK bw JN λ bn cp az=>?_);replace cp:eW bn (n+4) #[x,y,c3]:=cp;show Æ (ĥ (Ë ?_));show Æ (Æ (Ě ?_));change wpAny _ _ (Builtin.SmallTypes.nextOf (.y (n+2)) >>= _) _ _ _;show Æ (bT (((((i3.ext ae aZ).ext af aZ).ext ah aZ).ext aj aZ).ext az aZ)
   (((((s3.ext ae aZ).ext af aZ).ext ah aZ).ext aj aZ).ext az aZ) hw λ cj Y' bg=>Ë ?_)
  let fk:eW cj (n+4) #[x,y,c3]:=ex bg aZ cp;show Æ (Ā fk Y ?_);show Æ (kK fk JN λ bc bq bj=>?_);replace bq:eW bc (n+4) #[x,y,z]:=bq;show Æ (ĥ (Ë (Ë ?_)));show Æ (Ā bq Y ?_);show Æ (ś ?_);let hsz:bc.objs.S=s.L:=by rw[bj.1,bg.1,az.1,aj.1,ah.1,af.1,ae.1]
  let keep:∀(c:Nat) o,(c < n\/n+5 < c)->s.heap.get? c=O o->bc.get? c=O o:=λ c o hc e=>
   ex bj aZ (ex bg aZ (ex az aZ (ex aj aZ (ex ah aZ (ex af aZ (ex ae aZ e))))))
  let du:qP bc (n+5) (n+3) (n+4) .ellipsis f1:=ex bj aZ (ex bg aZ (ex az aZ (ex aj aZ (ex ah aZ (ex af aZ ao)))));let dh:eW bc (n+3) #[.y n,.y (n+1),.y (n+2)]:=ex bj aZ (ex bg aZ (ex az aZ (ex aj aZ (ex ah aZ (ex af aZ (ex ae aZ nz))))));let dv:=((((bp.ext ah aZ).ext aj aZ).ext az aZ).ext bg aZ).ext bj aZ;let dw:=((cn.ext az aZ).ext bg aZ).ext bj aZ;let Z':=Y'.ext bj aZ;let gk:n+5 < bc.objs.S:=by rw[hsz];show Db
  let up:∀ {c o},bc.get? c=O o->(bc.push { cls:=.q "tuple",data:=.V #[x,y,z] }).get? c=O o:=λ e=>Î _ e;show Æ (KH (z:=n+5) (TI:=n+3) (TO:=n+4) (f0:=.ellipsis) (f1:=f1) (up du) λ dm dy cq=>?_);let yj:∀ {c:Nat}{o},c≠n+5->bc.get? c=O o->dm.get? c=O o:=λ hc e=>ex cq hc (up e);show Ë ⟨_,Y,hQ bc.objs.size dm (rawInt bc.objs.S) JJ x y z (by rw[hsz];show Í _) (.x ⟨_,Y⟩) dy (yj aZ dh) (yj aZ bq) (dv.at λ o e=>yj aZ e) (dw.at λ o e=>yj aZ e) (Z'.at λ o e=>yj aZ e)
   (ex cq aZ (Ü _ Y)) λ c o hc e=>yj aZ (keep c o hc e)⟩
 ·intro h₁ ao ae;simp only[ě,if_false];show Æ ?_;rw[<- Ŀ];simp only[Ĭ,ĭ];show Æ (Æ (ó ?_));change wpAny _ _ (Builtin.SmallTypes.nextOf (.y n) >>= _) _ _ _;show Æ (bT (i1.ext ae aZ) (s1.ext ae aZ) hx λ ap bp af=>Ë (Ë ?_));show Æ (Æ (ó ?_));change wpAny _ _ (Builtin.SmallTypes.nextOf (.y (n+1)) >>= _) _ _ _;show Æ (bT ((i2.ext ae aZ).ext af aZ) ((s2.ext ae aZ).ext af aZ) hy λ ak gf ah=>Ë (Ë ?_));show Æ (Æ (ó ?_));change wpAny _ _ (Builtin.SmallTypes.nextOf (.y (n+2)) >>= _) _ _ _;show Æ (bT (((i3.ext ae aZ).ext af aZ).ext ah aZ) (((s3.ext ae aZ).ext af aZ).ext ah aZ) hw λ au i3₄ aj=>Ë (Ë (Ë ?_)));show Æ (ś (hsz:=by change 3<=sizeLine;decide) (Ë ⟨_,Y,?_⟩));let hsz:au.objs.S=s.L:=by rw[aj.1,ah.1,af.1,ae.1]
  let up:∀ {c o},au.get? c=O o->(au.push { cls:=.q "tuple",data:=.V #[x,y,z] }).get? c=O o:=λ e=>Î _ e;let keep:∀ (c:Nat) o,(c < n\/n+5 < c)->s.heap.get? c=O o->au.get? c=O o:=λ c o hc e=>ex aj aZ (ex ah aZ (ex af aZ (ex ae aZ e)));show hQ au.objs.size (au.push { cls:=.q "tuple",data:=.V #[x,y,z] }) f0 EA c1 c2 c3 (by rw[hsz];show Í _) hf (up (ex aj aZ (ex ah aZ (ex af aZ ao))))
   (up (ex aj aZ (ex ah aZ (ex af aZ (ex ae aZ nz))))) (up (ex aj aZ (ex ah aZ (ex af aZ (ex ae aZ oj)))))
   (((bp.ext ah aZ).ext aj aZ).at λ o e=>up e) ((gf.ext aj aZ).at λ o e=>up e) (i3₄.at λ o e=>up e) (Ü _ rfl) λ c o hc e=>up (keep c o hc e)
def NL {n a1 a2 a3:Nat}{f1:Bool}{Q:Fin->Â->Prop} (hh:A.handled=W) (hf:jF f0)
  (hz:qP s.heap (n+5) (n+3) (n+4) f0 f1) (nz:eW s.heap (n+3) #[.y n,.y (n+1),.y (n+2)]) (oj:eW s.heap (n+4) #[c1,c2,c3])
  (i1:fE s.heap t1 n a1 k) (i2:fE s.heap t2 (n+1) a2 k) (i3:fE s.heap t3 (n+2) a3 k) (s1:cC s.heap t1 a1 xs) (s2:cC s.heap t2 a2 ys) (s3:cC s.heap t3 a3 zs)
  (l1:a1 < n) (l2:a2 < n) (l3:a3 < n) (si:xs[k]?=W\/ys[k]?=W\/zs[k]?=W)
  (hE:∀ h' e,(∀(c:Nat) o,(c < n\/n+5 < c)->s.heap.get? c=O o->h'.get? c=O o)->(∃ o,h'.get? e=O o/\o.cls=.q "StopIteration")->E (.y e) { s with heap:=h' }) :
  wpAny (model prog w) A (Builtin.«zip.__next__» ⟨[.y (n+5)],[]⟩) Q E s:=by
 change wpAny _ _ (field (.y (n+5)) 2 >>= _) _ _ _;show Æ (ì hz Y (x:=.I JJ) Y ?_);change wpAny _ _ (field (.y (n+5)) 3 >>= _) _ _ _;show Æ (ì hz Y (x:=.y (n+3)) Y ?_);show Æ (Ā nz Y ?_);change wpAny _ _ (Builtin.SmallTypes.ownedTupleIsFree (.y (n+5)) >>= _) _ _ _;show Æ (mL hz hf ?_ ?_)
 ·simp only[if_true];show Æ (Ė ?_);show Æ (ì hz Y (x:=.y (n+4)) Y ?_);show Æ (ÿ hz JN λ h₁ ao ae=>?_);replace ao:qP h₁ (n+5) (n+3) (n+4) .ellipsis f1:=ao;show Æ ?_;simp only[ű,Ŵ,Ĭ,ĭ];let fin:∀ {ap ak:Heap}{e j:Nat}{oe:Obj},qP ap (n+5) (n+3) (n+4) .ellipsis f1->Heap.ExtBut j ap ak->@Ne Nat (n+5) j->(n<=j/\j<=n+5)->(∀(c:Nat) o,(c < n\/n+5 < c)->s.heap.get? c=O o->ap.get? c=O o)->ak.get? e=O oe->oe.cls=.q "StopIteration" ->
    wpAny (model prog w) A (setField (.y (n+5)) 0 .none) (λ _ s'=>E (.y e) s') E { s with heap:=ak }:=λ {ap ak e j oe} cg hx hj hr hk tz wb=>by
   let bv:qP ak (n+5) (n+3) (n+4) .ellipsis f1:=hx _ _ hj cg;let Ob:e≠n+5:=λ q=>by subst q;rw[bv]at tz;ext tz;simp at wb
   show ÿ bv JN λ au _ aj=>hE au e (λ c o hc q=>ex aj aZ (hx c o (show @Ne Nat c j by lia) (hk c o hc q))) ⟨oe,aj.extBut _ _ Ob tz,wb⟩
  show Æ (Æ (Ě ?_));change wpAny _ _ (Builtin.SmallTypes.nextOf (.y n) >>= _) _ _ _;cases hx:xs[k]? with
  |none=>
   show Æ (eI hh (i1.ext ae aZ) (s1.ext ae aZ) hx λ ap e af he=>?_);let⟨oe,tz,wb⟩:=he;show fin ao af aZ JM (λ c o hc q=>ex ae aZ q) tz wb
  |some x=>
   show Æ (bT (i1.ext ae aZ) (s1.ext ae aZ) hx λ ap bp af=>Ë ?_);let bo:eW ap (n+4) #[c1,c2,c3]:=ex af aZ (ex ae aZ oj);show Æ (Ā bo Y ?_);show Æ (kK bo JN λ ak bi ah=>?_);replace bi:eW ak (n+4) #[x,c2,c3]:=bi;show Æ (ĥ (Ë ?_));let bv:qP ak (n+5) (n+3) (n+4) .ellipsis f1:=ex ah aZ (ex af aZ ao);let dz:∀(c:Nat) o,(c < n\/n+5 < c)->s.heap.get? c=O o->ak.get? c=O o:=λ c o hc e=>ex ah aZ (ex af aZ (ex ae aZ e));show Æ (Æ (Ě ?_));change wpAny _ _ (Builtin.SmallTypes.nextOf (.y (n+1)) >>= _) _ _ _;cases hy:ys[k]? with
   |none=>
    show Æ (eI hh (((i2.ext ae aZ).ext af aZ).ext ah aZ) (((s2.ext ae aZ).ext af aZ).ext ah aZ) hy λ au e aj he=>?_);let⟨oe,tz,wb⟩:=he;show fin bv aj aZ JM dz tz wb
   |some y=>
    let hw:zs[k]?=none:=by rcases si with h|h|h;rw[hx]at h;ext h;rw[hy]at h;ext h;show h
    show Æ (bT (((i2.ext ae aZ).ext af aZ).ext ah aZ) (((s2.ext ae aZ).ext af aZ).ext ah aZ) hy λ au cn aj=>Ë ?_);let bw:eW au (n+4) #[x,c2,c3]:=ex aj aZ bi;show Æ (Ā bw Y ?_);show Æ (kK bw JN λ bn cp az=>?_);show Æ (ĥ (Ë ?_));show Æ (Æ (Ě ?_));change wpAny _ _ (Builtin.SmallTypes.nextOf (.y (n+2)) >>= _) _ _ _;show Æ (eI hh (((((i3.ext ae aZ).ext af aZ).ext ah aZ).ext aj aZ).ext az aZ)
     (((((s3.ext ae aZ).ext af aZ).ext ah aZ).ext aj aZ).ext az aZ) hw λ cj e bg he=>?_)
    let⟨oe,tz,wb⟩:=he;show fin (ex az aZ (ex aj aZ bv)) bg aZ JM (λ c o hc q=>ex az aZ (ex aj aZ (dz c o hc q))) tz wb
 ·intro h₁ ao ae;simp only[ě,if_false];show Æ ?_;rw[<- Ŀ];simp only[Ĭ,ĭ];show Æ (Æ (ó ?_));change wpAny _ _ (Builtin.SmallTypes.nextOf (.y n) >>= _) _ _ _;cases hx:xs[k]? with
  |none=>
   show Æ (eI hh (i1.ext ae aZ) (s1.ext ae aZ) hx λ ap e af he=>?_);show hE ap e (λ c o hc q=>af c o (show @Ne Nat c n by lia) (ex ae aZ q)) he
  |some x=>
   show Æ (bT (i1.ext ae aZ) (s1.ext ae aZ) hx λ ap bp af=>Ë (Ë ?_));show Æ (Æ (ó ?_));change wpAny _ _ (Builtin.SmallTypes.nextOf (.y (n+1)) >>= _) _ _ _;cases hy:ys[k]? with
   |none=>
    show Æ (eI hh ((i2.ext ae aZ).ext af aZ) ((s2.ext ae aZ).ext af aZ) hy λ ak e ah he=>?_);show hE ak e (λ c o hc q=>ah c o (show @Ne Nat c (n+1) by lia) (ex af aZ (ex ae aZ q))) he
   |some y=>
    let hw:zs[k]?=none:=by rcases si with h|h|h;rw[hx]at h;ext h;rw[hy]at h;ext h;show h
    show Æ (bT ((i2.ext ae aZ).ext af aZ) ((s2.ext ae aZ).ext af aZ) hy λ ak gf ah=>Ë (Ë ?_));show Æ (Æ (ó ?_));change wpAny _ _ (Builtin.SmallTypes.nextOf (.y (n+2)) >>= _) _ _ _;show Æ (eI hh (((i3.ext ae aZ).ext af aZ).ext ah aZ) (((s3.ext ae aZ).ext af aZ).ext ah aZ) hw λ au e aj he=>?_);show hE au e (λ c o hc q=>aj c o (show @Ne Nat c (n+2) by lia) (ex ah aZ (ex af aZ (ex ae aZ q)))) he
def LH {n a1 a2:Nat}{f1:Bool}{Q:À->Â->Prop} (hf:jF f0)
  (hz:qP s.heap (n+4) (n+2) (n+3) f0 f1) (nz:eW s.heap (n+2) #[.y n,.y (n+1)]) (oj:eW s.heap (n+3) #[c1,c2])
  (i1:fE s.heap t1 n a1 k) (i2:fE s.heap t2 (n+1) a2 k) (s1:cC s.heap t1 a1 xs) (s2:cC s.heap t2 a2 ys)
  (l1:a1 < n) (l2:a2 < n) (hx:xs[k]?=O x) (hy:ys[k]?=O y)
  (hQ:∀(T:Nat) h' uz yi d1 d2,s.L<=T->jF uz->qP h' (n+4) (n+2) (n+3) uz yi->eW h' (n+2) #[.y n,.y (n+1)]->eW h' (n+3) #[d1,d2]->
   fE h' t1 n a1 (k+1)->fE h' t2 (n+1) a2 (k+1)->eW h' T #[x,y]->
   (∀(c:Nat) o,(c < n\/n+4 < c)->s.heap.get? c=O o->h'.get? c=O o)->Q (.y T) { s with heap:=h' }) :
  wpAny (model prog w) A (Builtin.«zip.__next__» ⟨[.y (n+4)],[]⟩) (λ fin s'=>∃ v,fin=.done (.ret v)/\Q v s') E s:=by
 let Db:n+4 < s.L:=Ó hz;change wpAny _ _ (field (.y (n+4)) 2 >>= _) _ _ _;show Æ (ì hz Y (x:=.I JJ) Y ?_);change wpAny _ _ (field (.y (n+4)) 3 >>= _) _ _ _;show Æ (ì hz Y (x:=.y (n+2)) Y ?_);show Æ (Ā nz Y ?_);change wpAny _ _ (Builtin.SmallTypes.ownedTupleIsFree (.y (n+4)) >>= _) _ _ _;show Æ (mL hz hf ?_ ?_)
 ·simp only[if_true];show Æ (Ė ?_);show Æ (ì hz Y (x:=.y (n+3)) Y ?_);show Æ (ÿ hz JN λ h₁ ao ae=>?_);replace ao:qP h₁ (n+4) (n+2) (n+3) .ellipsis f1:=ao;show Æ ?_;simp only[ű,Ŵ,Ĭ,ĭ];show Æ (Æ (Ě ?_));change wpAny _ _ (Builtin.SmallTypes.nextOf (.y n) >>= _) _ _ _;show Æ (bT (i1.ext ae aZ) (s1.ext ae aZ) hx λ ap bp af=>Ë ?_);let bo:eW ap (n+3) #[c1,c2]:=ex af aZ (ex ae aZ oj);show Æ (Ā bo Y ?_);show Æ (kK bo JN λ ak bi ah=>?_);replace bi:eW ak (n+3) #[x,c2]:=bi;show Æ (ĥ (Ë ?_));show Æ (Æ (Ě ?_));change wpAny _ _ (Builtin.SmallTypes.nextOf (.y (n+1)) >>= _) _ _ _;show Æ (bT (((i2.ext ae aZ).ext af aZ).ext ah aZ) (((s2.ext ae aZ).ext af aZ).ext ah aZ) hy λ au cn aj=>Ë ?_);let bw:eW au (n+3) #[x,c2]:=ex aj aZ bi;show Æ (Ā bw Y ?_);show Æ (kK bw JN λ bc bq bj=>?_);replace bq:eW bc (n+3) #[x,y]:=bq;show Æ (ĥ (Ë (Ë ?_)));show Æ (Ā bq Y ?_);show Æ (ś ?_);let hsz:bc.objs.S=s.L:=by rw[bj.1,aj.1,ah.1,af.1,ae.1]
  let keep:∀(c:Nat) o,(c < n\/n+4 < c)->s.heap.get? c=O o->bc.get? c=O o:=λ c o hc e=>
   ex bj aZ (ex aj aZ (ex ah aZ (ex af aZ (ex ae aZ e))))
  let du:qP bc (n+4) (n+2) (n+3) .ellipsis f1:=ex bj aZ (ex aj aZ (ex ah aZ (ex af aZ ao)));let dh:eW bc (n+2) #[.y n,.y (n+1)]:=ex bj aZ (ex aj aZ (ex ah aZ (ex af aZ (ex ae aZ nz))));let dv:=((bp.ext ah aZ).ext aj aZ).ext bj aZ;let dw:=cn.ext bj aZ;let gk:n+4 < bc.objs.S:=by rw[hsz];show Db
  let up:∀ {c o},bc.get? c=O o->(bc.push { cls:=.q "tuple",data:=.V #[x,y] }).get? c=O o:=λ e=>Î _ e;show Æ (KH (z:=n+4) (TI:=n+2) (TO:=n+3) (f0:=.ellipsis) (f1:=f1) (up du) λ dm dy cq=>?_);let yj:∀ {c:Nat}{o},c≠n+4->bc.get? c=O o->dm.get? c=O o:=λ hc e=>ex cq hc (up e);show Ë ⟨_,Y,hQ bc.objs.size dm (rawInt bc.objs.S) JJ x y (by rw[hsz];show Í _) (.x ⟨_,Y⟩) dy (yj aZ dh) (yj aZ bq) (dv.at λ o e=>yj aZ e) (dw.at λ o e=>yj aZ e)
   (ex cq aZ (Ü _ Y)) λ c o hc e=>yj aZ (keep c o hc e)⟩
 ·intro h₁ ao ae;simp only[ě,if_false];show Æ ?_;rw[<- Ŀ];simp only[Ĭ,ĭ];show Æ (Æ (ó ?_));change wpAny _ _ (Builtin.SmallTypes.nextOf (.y n) >>= _) _ _ _;show Æ (bT (i1.ext ae aZ) (s1.ext ae aZ) hx λ ap bp af=>Ë (Ë ?_));show Æ (Æ (ó ?_));change wpAny _ _ (Builtin.SmallTypes.nextOf (.y (n+1)) >>= _) _ _ _;show Æ (bT ((i2.ext ae aZ).ext af aZ) ((s2.ext ae aZ).ext af aZ) hy λ au cn aj=>Ë (Ë (Ë ?_)));show Æ (ś (hsz:=by change 2<=sizeLine;decide) (Ë ⟨_,Y,?_⟩));let hsz:au.objs.S=s.L:=by rw[aj.1,af.1,ae.1]
  let up:∀ {c o},au.get? c=O o->(au.push { cls:=.q "tuple",data:=.V #[x,y] }).get? c=O o:=λ e=>Î _ e;let keep:∀ (c:Nat) o,(c < n\/n+4 < c)->s.heap.get? c=O o->au.get? c=O o:=λ c o hc e=>ex aj aZ (ex af aZ (ex ae aZ e));show hQ au.objs.size (au.push { cls:=.q "tuple",data:=.V #[x,y] }) f0 EA c1 c2 (by rw[hsz];show Í _) hf (up (ex aj aZ (ex af aZ ao)))
   (up (ex aj aZ (ex af aZ (ex ae aZ nz)))) (up (ex aj aZ (ex af aZ (ex ae aZ oj))))
   ((bp.ext aj aZ).at λ o e=>up e) (cn.at λ o e=>up e) (Ü _ rfl) λ c o hc e=>up (keep c o hc e)
def NM {n a1 a2:Nat}{f1:Bool}{Q:Fin->Â->Prop} (hh:A.handled=W) (hf:jF f0)
  (hz:qP s.heap (n+4) (n+2) (n+3) f0 f1) (nz:eW s.heap (n+2) #[.y n,.y (n+1)]) (oj:eW s.heap (n+3) #[c1,c2])
  (i1:fE s.heap t1 n a1 k) (i2:fE s.heap t2 (n+1) a2 k) (s1:cC s.heap t1 a1 xs) (s2:cC s.heap t2 a2 ys)
  (l1:a1 < n) (l2:a2 < n) (si:xs[k]?=W\/ys[k]?=W)
  (hE:∀ h' e,(∀(c:Nat) o,(c < n\/n+4 < c)->s.heap.get? c=O o->h'.get? c=O o)->(∃ o,h'.get? e=O o/\o.cls=.q "StopIteration")->E (.y e) { s with heap:=h' }) :
  wpAny (model prog w) A (Builtin.«zip.__next__» ⟨[.y (n+4)],[]⟩) Q E s:=by
 change wpAny _ _ (field (.y (n+4)) 2 >>= _) _ _ _;show Æ (ì hz Y (x:=.I JJ) Y ?_);change wpAny _ _ (field (.y (n+4)) 3 >>= _) _ _ _;show Æ (ì hz Y (x:=.y (n+2)) Y ?_);show Æ (Ā nz Y ?_);change wpAny _ _ (Builtin.SmallTypes.ownedTupleIsFree (.y (n+4)) >>= _) _ _ _;show Æ (mL hz hf ?_ ?_)
 ·simp only[if_true];show Æ (Ė ?_);show Æ (ì hz Y (x:=.y (n+3)) Y ?_);show Æ (ÿ hz JN λ h₁ ao ae=>?_);replace ao:qP h₁ (n+4) (n+2) (n+3) .ellipsis f1:=ao;show Æ ?_;simp only[ű,Ŵ,Ĭ,ĭ];let fin:∀ {ap ak:Heap}{e j:Nat}{oe:Obj},qP ap (n+4) (n+2) (n+3) .ellipsis f1->Heap.ExtBut j ap ak->@Ne Nat (n+4) j->(n<=j/\j<=n+4)->(∀(c:Nat) o,(c < n\/n+4 < c)->s.heap.get? c=O o->ap.get? c=O o)->ak.get? e=O oe->oe.cls=.q "StopIteration" ->
    wpAny (model prog w) A (setField (.y (n+4)) 0 .none) (λ _ s'=>E (.y e) s') E { s with heap:=ak }:=λ {ap ak e j oe} cg hx hj hr hk tz wb=>by
   let bv:qP ak (n+4) (n+2) (n+3) .ellipsis f1:=hx _ _ hj cg;let Ob:e≠n+4:=λ q=>by subst q;rw[bv]at tz;ext tz;simp at wb
   show ÿ bv JN λ au _ aj=>hE au e (λ c o hc q=>ex aj aZ (hx c o (show @Ne Nat c j by lia) (hk c o hc q))) ⟨oe,aj.extBut _ _ Ob tz,wb⟩
  show Æ (Æ (Ě ?_));change wpAny _ _ (Builtin.SmallTypes.nextOf (.y n) >>= _) _ _ _;cases hx:xs[k]? with
  |none=>
   show Æ (eI hh (i1.ext ae aZ) (s1.ext ae aZ) hx λ ap e af he=>?_);let⟨oe,tz,wb⟩:=he;show fin ao af aZ JM (λ c o hc q=>ex ae aZ q) tz wb
  |some x=>
   let hy:ys[k]?=none:=by rcases si with h|h;rw[hx]at h;ext h;show h
   show Æ (bT (i1.ext ae aZ) (s1.ext ae aZ) hx λ ap bp af=>Ë ?_);let bo:eW ap (n+3) #[c1,c2]:=ex af aZ (ex ae aZ oj);show Æ (Ā bo Y ?_);show Æ (kK bo JN λ ak bi ah=>?_);show Æ (ĥ (Ë ?_));let bv:qP ak (n+4) (n+2) (n+3) .ellipsis f1:=ex ah aZ (ex af aZ ao);let dz:∀(c:Nat) o,(c < n\/n+4 < c)->s.heap.get? c=O o->ak.get? c=O o:=λ c o hc e=>ex ah aZ (ex af aZ (ex ae aZ e));show Æ (Æ (Ě ?_));change wpAny _ _ (Builtin.SmallTypes.nextOf (.y (n+1)) >>= _) _ _ _;show Æ (eI hh (((i2.ext ae aZ).ext af aZ).ext ah aZ) (((s2.ext ae aZ).ext af aZ).ext ah aZ) hy λ au e aj he=>?_);let⟨oe,tz,wb⟩:=he;show fin bv aj aZ JM dz tz wb
 ·intro h₁ ao ae;simp only[ě,if_false];show Æ ?_;rw[<- Ŀ];simp only[Ĭ,ĭ];show Æ (Æ (ó ?_));change wpAny _ _ (Builtin.SmallTypes.nextOf (.y n) >>= _) _ _ _;cases hx:xs[k]? with
  |none=>
   show Æ (eI hh (i1.ext ae aZ) (s1.ext ae aZ) hx λ ap e af he=>?_);show hE ap e (λ c o hc q=>af c o (show @Ne Nat c n by lia) (ex ae aZ q)) he
  |some x=>
   let hy:ys[k]?=none:=by rcases si with h|h;rw[hx]at h;ext h;show h
   show Æ (bT (i1.ext ae aZ) (s1.ext ae aZ) hx λ ap bp af=>Ë (Ë ?_));show Æ (Æ (ó ?_));change wpAny _ _ (Builtin.SmallTypes.nextOf (.y (n+1)) >>= _) _ _ _;show Æ (eI hh ((i2.ext ae aZ).ext af aZ) ((s2.ext ae aZ).ext af aZ) hy λ ak e ah he=>?_);show hE ak e (λ c o hc q=>ah c o (show @Ne Nat c (n+1) by lia) (ex af aZ (ex ae aZ q))) he
def mH {Q:Option À->Â->Prop} (hz:qP s.heap z TI TO f0 f1)
  (h:wpAny (model prog w) A.in1 (Builtin.«zip.__next__» ⟨[.y z],[]⟩) (λ fin s'=>∃ v,fin=.done (.ret v)/\Q (O v) s') (λ e s'=>(∃ a o,e=.y a/\s'.heap.get? a=O o/\o.cls=.q "StopIteration")/\Q W s') s) :
  wpAny (model prog w) A (pyNext (.y z)) Q E s:=by
 let hT:s.TypeIs (.y z) "zip" :=⟨_,hz,rfl⟩;unfold pyNext;show Æ (Ÿ (Ŏ (name:=Str.ofString "__next__") hT F.slot_zip_next
  (Ĝ F.slot_zip_next hT F.entry_zip_next (î h (λ fin s' h'=>?_) λ e s' h'=>?_) (F.args_zip_next_1 _))))
 ·let⟨v,Y,q⟩:=h';show⟨v,Y,Ë q⟩
 ·let⟨⟨a,o,Y,ho,hc⟩,q⟩:=h';show Æ (ago (T :="StopIteration") (b:=EA) ⟨o,ho,hc⟩ isSubtype_stop (Ë q))
def zX {z TI TO T:Á}{Q:Unit->Â->Prop} (hf:jF f0) (hz:qP s.heap z TI TO f0 f1)
  (hQ:∀ h' uz,jF uz->qP h' z TI TO uz f1->Heap.SameBut z s.heap h'->Q () { s with heap:=h' }):wpAny (model prog w) A (letOwnedTupleGo tg (.y z) (.y T)) Q E s:=by
 let same:Q () s:=hQ s.heap f0 hf hz (Ů ..);let core:wpAny (model prog w) A (do
   let o <- load z
   match o.cls,o.data with
   |.type n,.fields vs=>
    if ["enumerate","zip","dict_itemiterator","dict_reverseitemiterator","odict_iterator","itertools.zip_longest","itertools.pairwise"].contains n && vs[0]?==O (rawInt T)then
     rule "for.unpacks-the-owned-tuple"
     updateField z 0 .none
   |_,_=>pure ()) Q E s:=by
  show Æ (wpAny_load hz ?_);change wpAny _ _ (if (["enumerate","zip","dict_itemiterator","dict_reverseitemiterator","odict_iterator","itertools.zip_longest","itertools.pairwise"].contains "zip" &&
   (#[f0,.I f1,.I JJ,.y TI,.y TO]:Array À)[0]?==O (rawInt T))=EA then _ else _) Q E s
  split
  ·show Æ (Ė ?_);change wpAny _ _ (setField (.y z) 0 .none) Q E s;show ÿ hz JN λ h' wc By=>hQ h' .none (.p Y) wc By
  ·show Ë same
 unfold letOwnedTupleGo;ext tg <;> first
  |show Ë same
  |show core
def mI {Q:À->Â->Prop} (hz:qP s.heap z TI TO f0 f1) (h:Q (.y z) s):wpAny (model prog w) A (pyIter (.y z)) Q E s:=by
 let hT:s.TypeIs (.y z) "zip" :=⟨_,hz,rfl⟩;show wpAny_pyIter_slot hT F.slot_zip_iter (Ĝ F.slot_zip_iter hT F.entry_zip_iter ?_ (F.args_zip_iter_1 _));change wpAny _ _ (ret (.y z)) _ _ s;show Ë ⟨_,Y,"zip",_,hT,F.slot_zip_next.lookup,h⟩
def xU (t:Bool) (a:Á):Obj:={ cls:=.q (if t=EA then "tuple_iterator" else "list_iterator"),data:=.U #[.y a,.u 0 0] }
def gK {Q:À->Â->Prop} (hs:cC s.heap t a items) (hQ:Q (.y s.L) { s with heap:=s.heap.push (xU t a) }) :
  wpAny (model prog w) A (pyIter (.y a)) Q E s:=by
 cases t with
 |true=>show ū hs hQ
 |false=>show ŭ hs hQ
def lS  (e:h.get? it=O (xU t a)):fE h t it a 0:=by
 ext t <;> show⟨_,e,Y,Y⟩
abbrev zA (h:Heap) (t:Bool) (a:Á):Heap:=h.push (xU t a)
abbrev SU (h:Heap) (vs:List À):Heap:=h.push { cls:=.q "tuple",data:=.V vs.toArray }
abbrev z2B (h:Heap) (t1 t2:Bool) (l1 l2:Á):Heap:=SU (zA (zA h t1 l1) t2 l2) [.y h.objs.S,.y (zA h t1 l1).objs.size]
abbrev z2H (h:Heap) (t1 t2:Bool) (l1 l2:Á):Heap:=SU (z2B h t1 t2 l1 l2) [.none,.none]
abbrev YX (h:Heap) (t1 t2:Bool) (l1 l2:Á):Heap:=(z2H h t1 t2 l1 l2).push { cls:=.q "zip",data:=.U #[.none,.I JJ,.I JJ,.y (zA (zA h t1 l1) t2 l2).objs.size,.y (z2B h t1 t2 l1 l2).objs.size] }
abbrev z3B (h:Heap) (t1 t2 t3:Bool) (l1 l2 l3:Á):Heap:=SU (zA (zA (zA h t1 l1) t2 l2) t3 l3) [.y h.objs.S,.y (zA h t1 l1).objs.size,.y (zA (zA h t1 l1) t2 l2).objs.size]
abbrev z3H (h:Heap) (t1 t2 t3:Bool) (l1 l2 l3:Á):Heap:=SU (z3B h t1 t2 t3 l1 l2 l3) [.none,.none,.none]
abbrev WU (h:Heap) (t1 t2 t3:Bool) (l1 l2 l3:Á):Heap:=(z3H h t1 t2 t3 l1 l2 l3).push { cls:=.q "zip",data:=.U #[.none,.I JJ,.I JJ,.y (zA (zA (zA h t1 l1) t2 l2) t3 l3).objs.size,.y (z3B h t1 t2 t3 l1 l2 l3).objs.size] }
def HY (t1 t2:Bool) (l1 l2:Á) (xs ys:Array À) :
  Meets (Builtin.«zip.__new__» ⟨[.q "zip",.y l1,.y l2],[]⟩) (λ _ R s=>cC s.heap t1 l1 xs/\cC s.heap t2 l2 ys/\
   R (.ok (.ret (.y (z2H s.heap t1 t2 l1 l2).objs.size))) { s with heap:=YX s.heap t1 t2 l1 l2 }):=
 .of_wp λ prog w A R s h=>by
  let⟨hp,g,d,tk,os⟩:=s;let⟨yk,zi,h⟩:=h;let zm:=sub_zip;let Oc:cC (Shared.heap ⟨hp,g,d,tk,os⟩) t1 l1 xs:=yk;let Od:cC (Shared.heap ⟨hp.push (xU t1 l1),g,d,tk,os⟩) t2 l2 ys:=zi.at λ o e=>Î _ e
  wp_walk using gK Oc,gK Od
  show⟨_,Y,h⟩
def HX (t1 t2 t3:Bool) (l1 l2 l3:Á) (xs ys zs:Array À) :
  Meets (Builtin.«zip.__new__» ⟨[.q "zip",.y l1,.y l2,.y l3],[]⟩) (λ _ R s=>cC s.heap t1 l1 xs/\cC s.heap t2 l2 ys/\cC s.heap t3 l3 zs/\
   R (.ok (.ret (.y (z3H s.heap t1 t2 t3 l1 l2 l3).objs.size))) { s with heap:=WU s.heap t1 t2 t3 l1 l2 l3 }):=
 .of_wp λ prog w A R s h=>by
  let⟨hp,g,d,tk,os⟩:=s;let⟨yk,zi,Hj,h⟩:=h;let zm:=sub_zip;let Oc:cC (Shared.heap ⟨hp,g,d,tk,os⟩) t1 l1 xs:=yk;let Od:cC (Shared.heap ⟨hp.push (xU t1 l1),g,d,tk,os⟩) t2 l2 ys:=zi.at λ o e=>Î _ e;let hL3:cC (Shared.heap ⟨(hp.push (xU t1 l1)).push (xU t2 l2),g,d,tk,os⟩) t3 l3 zs:=Hj.at λ o e=>Î _ (Î _ e)
  wp_walk using gK Oc,gK Od,gK hL3
  show⟨_,Y,h⟩
def vL (a b c:À):checkTypeCall "zip" ⟨[a,b,c],[]⟩=pure ():=by kernel_rfl
def yS (a b c:À):checkBuiltinCall "zip.__new__" ⟨[.q "zip",a,b,c],[]⟩=pure ():=by kernel_rfl
def qN (a b c d:À):argsOk "object.__init__" ⟨[a,b,c,d],[]⟩:=by
 unfold argsOk;rw[signature?_of (id :="object.__init__") (n:=['_','_','t','i','n','i','_','_']) (o:=['t','c','e','j','b','o']) (by kernel_rfl) F.owner_object];kernel_rfl
def N0 {Q:À->Â->Prop} (yk:cC s.heap t1 l1 xs) (zi:cC s.heap t2 l2 ys)
  (h:∀ h',qP h' (s.L+4) (s.L+2) (s.L+3) .none JJ->eW h' (s.L+2) #[.y s.L,.y (s.L+1)]->
   eW h' (s.L+3) #[.none,.none]->fE h' t1 s.heap.objs.size l1 0->fE h' t2 (s.L+1) l2 0->
   (∀ c o,s.heap.get? c=O o->h'.get? c=O o)->Q (.y (s.L+4)) { s with heap:=h' }):wpAny (model prog w) A (call (.q "zip") [.y l1,.y l2]) Q E s:=by
 show callType_new F.called_zip JL (F.typeCall_zip_2 _ _) (F.newCall_zip_2 _ _) (λ obj=>F.args_object_init_3 obj _ _) F.entry_zip_new (HY t1 t2 l1 l2 xs ys) ⟨yk,zi,?_⟩;generalize s.heap=h0 at *;let z1:(zA h0 t1 l1).objs.size=h0.objs.S+1:=ĉ ..;let z2:(zA (zA h0 t1 l1) t2 l2).objs.size=h0.objs.S+2:=by rw[ĉ,z1]
 let z3:(z2B h0 t1 t2 l1 l2).objs.size=h0.objs.S+3:=by rw[ĉ,z2]
 let z4:(z2H h0 t1 t2 l1 l2).objs.size=h0.objs.S+4:=by rw[ĉ,z3]
 let g5:(YX h0 t1 t2 l1 l2).get? (z2H h0 t1 t2 l1 l2).objs.size=O _:=Ü _ rfl;let g4:(YX h0 t1 t2 l1 l2).get? (z2B h0 t1 t2 l1 l2).objs.size=O _:=Î _ (Ü _ rfl);let g3:(YX h0 t1 t2 l1 l2).get? (zA (zA h0 t1 l1) t2 l2).objs.size=O _:=Î _ (Î _ (Ü _ rfl));let g2:(YX h0 t1 t2 l1 l2).get? (zA h0 t1 l1).objs.size=O _:=Î _ (Î _ (Î _ (Ü _ rfl)));let g1:(YX h0 t1 t2 l1 l2).get? h0.objs.S=O _:=Î _ (Î _ (Î _ (Î _ (Ü _ rfl))));change _/\_;rw[z2,z3,z4]at g5;rw[z1,z2]at g3;rw[z3]at g4;rw[z1]at g2;rw[z4];show⟨⟨_,g5,Y⟩,h _ g5 g3 g4 (lS g1) (lS g2) λ c o x=>Î _ (Î _ (Î _ (Î _ (Î _ x))))⟩
def MZ {Q:À->Â->Prop} (yk:cC s.heap t1 l1 xs) (zi:cC s.heap t2 l2 ys) (Hj:cC s.heap t3 l3 zs)
  (h:∀ h',qP h' (s.L+5) (s.L+3) (s.L+4) .none JJ->eW h' (s.L+3) #[.y s.L,.y (s.L+1),.y (s.L+2)]->
   eW h' (s.L+4) #[.none,.none,.none]->fE h' t1 s.heap.objs.size l1 0->fE h' t2 (s.L+1) l2 0->fE h' t3 (s.L+2) l3 0->
   (∀ c o,s.heap.get? c=O o->h'.get? c=O o)->Q (.y (s.L+5)) { s with heap:=h' }):wpAny (model prog w) A (call (.q "zip") [.y l1,.y l2,.y l3]) Q E s:=by
 show callType_new F.called_zip JL (vL _ _ _) (yS _ _ _) (λ obj=>qN obj _ _ _) F.entry_zip_new (HX t1 t2 t3 l1 l2 l3 xs ys zs) ⟨yk,zi,Hj,?_⟩;generalize s.heap=h0 at *;let z1:(zA h0 t1 l1).objs.size=h0.objs.S+1:=ĉ ..;let z2:(zA (zA h0 t1 l1) t2 l2).objs.size=h0.objs.S+2:=by rw[ĉ,z1]
 let Oe:(zA (zA (zA h0 t1 l1) t2 l2) t3 l3).objs.size=h0.objs.S+3:=by rw[ĉ,z2]
 let z3:(z3B h0 t1 t2 t3 l1 l2 l3).objs.size=h0.objs.S+4:=by rw[ĉ,Oe]
 let z4:(z3H h0 t1 t2 t3 l1 l2 l3).objs.size=h0.objs.S+5:=by rw[ĉ,z3]
 let g5:(WU h0 t1 t2 t3 l1 l2 l3).get? (z3H h0 t1 t2 t3 l1 l2 l3).objs.size=O _:=Ü _ rfl;let g4:(WU h0 t1 t2 t3 l1 l2 l3).get? (z3B h0 t1 t2 t3 l1 l2 l3).objs.size=O _:=Î _ (Ü _ rfl);let g3:(WU h0 t1 t2 t3 l1 l2 l3).get? (zA (zA (zA h0 t1 l1) t2 l2) t3 l3).objs.size=O _:=Î _ (Î _ (Ü _ rfl));let Li:(WU h0 t1 t2 t3 l1 l2 l3).get? (zA (zA h0 t1 l1) t2 l2).objs.size=O _:=Î _ (Î _ (Î _ (Ü _ rfl)));let g2:(WU h0 t1 t2 t3 l1 l2 l3).get? (zA h0 t1 l1).objs.size=O _:=Î _ (Î _ (Î _ (Î _ (Ü _ rfl))));let g1:(WU h0 t1 t2 t3 l1 l2 l3).get? h0.objs.S=O _:=Î _ (Î _ (Î _ (Î _ (Î _ (Ü _ rfl)))));change _/\_;rw[Oe,z3,z4]at g5;rw[z1,z2,Oe]at g3;rw[z3]at g4;rw[z2]at Li;rw[z1]at g2;rw[z4];show⟨⟨_,g5,Y⟩,h _ g5 g3 g4 (lS g1) (lS g2) (lS Li) λ c o x=>Î _ (Î _ (Î _ (Î _ (Î _ (Î _ x)))))⟩
end
end TwZ
namespace TwZ
open PySem
open Sem (wp)
open AutoSeq1 (wpAny_loadPart')
section
variable {prog:Ã}{M:Model}{A:Around}{E:À->Â->Prop}{s:Â}
abbrev lB (h:Heap) (e it:Á) (f0:À) (f1:Bool) (i:Int) (lj:À):Prop:=
 h.get? e=O { cls:=.q "enumerate",dict:=W,data:=.U #[f0,.I f1,.y it,rawInt i,.none,lj],slots:=#[] }
def EO {Q:Bool->Â->Prop} (hz:lB s.heap e it f0 f1 i lj) (hf:jF f0) (yes:Q EA s)
  (no:∀ h',lB h' e it f0 EA i lj->Heap.SameBut e s.heap h'->Q JJ { s with heap:=h' }):wpAny (model prog w) A (Builtin.SmallTypes.ownedTupleIsFree (.y e)) Q E s:=by
 unfold Builtin.SmallTypes.ownedTupleIsFree;show Æ (ì hz Y (x:=f0) Y ?_);rcases hf with rfl|⟨a,rfl⟩
 ·show Ë yes
 ·show Æ (tU ?_);cases h:s.heap.get? a.Q with
  |none=>show Ë yes
  |some o=>
   change wpAny _ _ (field (.y e) 1 >>= _) _ _ _;show Æ (ì hz Y (x:=.I f1) Y ?_);cases f1 with
   |true=>show Ë (no s.heap hz (Ů ..))
   |false=>
    change wpAny _ _ (setField (.y e) 1 (.I EA) >>= _) _ _ _;show Æ (ÿ hz JN λ h₁ ao ae=>Ë (no h₁ ao ae))
def R9 {T:Á}{Q:Unit->Â->Prop} (hz:lB s.heap e it f0 f1 i lj)
  (h:∀ h',lB h' e it (rawInt T) JJ i lj->Heap.SameBut e s.heap h'->Q () { s with heap:=h' }):wpAny (model prog w) A (Builtin.SmallTypes.ownedTupleHandOut (.y e) (.y T)) Q E s:=by
 unfold Builtin.SmallTypes.ownedTupleHandOut;show Æ (ÿ hz JN λ h₁ ao ae=>?_);replace ao:lB h₁ e it (rawInt T) f1 i lj:=ao;show ÿ ao JN λ ap cg af=>?_;show h ap cg (Heap.SameBut.trans ae af)
def MR {n a:Nat}{k:Nat}{f1:Bool}{Q:À->Â->Prop} (hf:jF f0)
  (he:lB s.heap (n+1) n f0 f1 k lj) (i1:fE s.heap t n a k) (s1:cC s.heap t a xs) (l1:a < n) (hx:xs[k]?=O x)
  (hQ:∀(T:Nat) h' uz yi Au,s.L<=T->jF uz->lB h' (n+1) n uz yi ((k:Int)+1) Au->fE h' t n a (k+1)->eW h' T #[.u k s.M,x]->
   (∀(c:Nat) o,(c < n\/n+1 < c)->s.heap.get? c=O o->h'.get? c=O o)->Q (.y T) { s with heap:=h',toks:=s.M+1 }) :
  wpAny (model prog w) A (Builtin.«enumerate.__next__» ⟨[.y (n+1)],[]⟩) (λ fin s'=>∃ v,fin=.done (.ret v)/\Q v s') E s:=by
 let⟨hp,g,d,tk,os⟩:=s;let Of:n+1 < hp.objs.S:=Ó he;change wpAny _ _ (field (.y (n+1)) 2 >>= _) _ _ _;show Æ (ì he Y (x:=.y n) Y ?_);show Æ (bT i1 s1 hx λ h₁ i1₁ ae=>?_);replace ae:Heap.SameBut n hp h₁:=ae;let ee:lB h₁ (n+1) n f0 f1 k lj:=ex ae JM he;change wpAny _ _ (field (.y (n+1)) 3 >>= _) _ _ ⟨h₁,g,d,tk,os⟩;show Æ (ì ee Y (x:=rawInt k) Y ?_);change wpAny _ _ (field (.y (n+1)) 4 >>= _) _ _ ⟨h₁,g,d,tk,os⟩;show Æ (ì ee Y (x:=.none) Y ?_);change wpAny _ _ (mkInt k >>= _) _ _ ⟨h₁,g,d,tk,os⟩;show Æ (wpAny_mkInt ?_);change wpAny _ _ (setField (.y (n+1)) 3 (rawInt ((k:Int)+1)) >>= _) _ _ ⟨h₁,g,d,tk+1,os⟩;show Æ (ÿ ee JN λ ap ez af=>?_);replace af:Heap.SameBut (n+1) h₁ ap:=af;replace ez:lB ap (n+1) n f0 f1 ((k:Int)+1) lj:=ez;change wpAny _ _ (setField (.y (n+1)) 4 .none >>= _) _ _ ⟨ap,g,d,tk+1,os⟩;show Æ (ÿ ez JN λ ak fb ah=>?_);replace ah:Heap.SameBut (n+1) ap ak:=ah;replace fb:lB ak (n+1) n f0 f1 ((k:Int)+1) lj:=fb;change wpAny _ _ (newTuple [.u k tk,x] >>= _) _ _ ⟨ak,g,d,tk+1,os⟩;show Æ (ś ?_);let cy:lB (ak.push { cls:=.q "tuple",data:=.V #[.u k tk,x] }) (n+1) n f0 f1 ((k:Int)+1) lj:=Î _ fb;let hsz:ak.objs.S=hp.objs.S:=by rw[ah.1,af.1,ae.1]
 let fc:eW (ak.push { cls:=.q "tuple",data:=.V #[.u k tk,x] }) ak.objs.size #[.u k tk,x]:=Ü _ rfl;let gd:∀(c:Nat) o,(c < n\/n+1 < c)->hp.get? c=O o->(ak.push { cls:=.q "tuple",data:=.V #[.u k tk,x] }).get? c=O o:=λ c o hc e=>
  Î _ (ex ah JM (ex af JM (ex ae JM e)))
 let fe:fE (ak.push { cls:=.q "tuple",data:=.V #[.u k tk,x] }) t n a (k+1):=((i1₁.ext af JM).ext ah JM).at λ o e=>Î _ e;have hlt₃:n+1 < ak.objs.S:=by rw[hsz];show Of
 generalize hh₄:ak.push { cls:=.q "tuple",data:=.V #[.u k tk,x] }=au at cy fc gd fe;let Hk:hp.objs.S<=ak.objs.S:=Ļ hsz.symm;change wpAny _ _ (Builtin.SmallTypes.ownedTupleIsFree (.y (n+1)) >>= _) _ _ ⟨au,g,d,tk+1,os⟩;show Æ (EO cy hf ?_ ?_)
 ·simp only[if_true];show Æ (Ė ?_);show Æ (ì cy Y (x:=lj) Y ?_);show Æ (ÿ cy JN λ bn cr az=>?_);replace az:Heap.SameBut (n+1) au bn:=az;replace cr:lB bn (n+1) n f0 f1 ((k:Int)+1) x:=cr;show Æ (R9 (s:=⟨bn,g,d,tk+1,os⟩) cr λ cj he₆ bg=>?_);replace bg:Heap.SameBut (n+1) bn cj:=bg;show Æ (ĥ (Ë ⟨_,Y,?_⟩));show hQ ak.objs.size cj _ _ _ Hk (.x ⟨_,Y⟩) he₆ ((fe.ext az JM).ext bg JM) (ex bg JM (ex az JM fc)) λ c o hc e=>ex bg JM (ex az JM (gd c o hc e))
 ·intro bn cr az;replace az:Heap.SameBut (n+1) au bn:=az;simp only[ě,if_false];show Ë ⟨_,Y,?_⟩;show hQ ak.objs.size bn _ _ _ Hk hf cr (fe.ext az JM) (ex az JM fc) λ c o hc e=>ex az JM (gd c o hc e)
def RQ {n a:Nat}{k:Nat}{f1:Bool}{Q:Fin->Â->Prop} (hh:A.handled=W)
  (he:lB s.heap (n+1) n f0 f1 k lj) (i1:fE s.heap t n a k) (s1:cC s.heap t a xs) (hx:xs[k]?=W)
  (hE:∀ h' e,(∀(c:Nat) o,(c < n\/n+1 < c)->s.heap.get? c=O o->h'.get? c=O o)->(∃ o,h'.get? e=O o/\o.cls=.q "StopIteration")->E (.y e) { s with heap:=h' }) :
  wpAny (model prog w) A (Builtin.«enumerate.__next__» ⟨[.y (n+1)],[]⟩) Q E s:=by
 change wpAny _ _ (field (.y (n+1)) 2 >>= _) _ _ _;show Æ (ì he Y (x:=.y n) Y ?_);show Æ (eI hh i1 s1 hx λ h' e hk Hl=>hE h' e (λ c o hc q=>hk c o (show @Ne Nat c n by lia) q) Hl)
def uD {Q:Option À->Â->Prop} (he:lB s.heap e it f0 f1 i lj)
  (h:wpAny (model prog w) A.in1 (Builtin.«enumerate.__next__» ⟨[.y e],[]⟩) (λ fin s'=>∃ v,fin=.done (.ret v)/\Q (O v) s') (λ e s'=>(∃ a o,e=.y a/\s'.heap.get? a=O o/\o.cls=.q "StopIteration")/\Q W s') s) :
  wpAny (model prog w) A (pyNext (.y e)) Q E s:=by
 let hT:s.TypeIs (.y e) "enumerate" :=⟨_,he,rfl⟩;unfold pyNext;show Æ (Ÿ (Ŏ (name:=Str.ofString "__next__") hT F.slot_enumerate_next
  (Ĝ F.slot_enumerate_next hT F.entry_enumerate_next (î h (λ fin s' h'=>?_) λ e s' h'=>?_) (F.args_enumerate_next_1 _))))
 ·let⟨v,Y,q⟩:=h';show⟨v,Y,Ë q⟩
 ·let⟨⟨a,o,Y,ho,hc⟩,q⟩:=h';show Æ (ago (T :="StopIteration") (b:=EA) ⟨o,ho,hc⟩ isSubtype_stop (Ë q))
def ID {e it T:Á}{lj:À}{Q:Unit->Â->Prop} (hf:jF f0) (hz:lB s.heap e it f0 f1 i lj)
  (hQ:∀ h' uz,jF uz->lB h' e it uz f1 i lj->Heap.SameBut e s.heap h'->Q () { s with heap:=h' }):wpAny (model prog w) A (letOwnedTupleGo tg (.y e) (.y T)) Q E s:=by
 let same:Q () s:=hQ s.heap f0 hf hz (Ů ..);let core:wpAny (model prog w) A (do
   let o <- load e
   match o.cls,o.data with
   |.type n,.fields vs=>
    if ["enumerate","zip","dict_itemiterator","dict_reverseitemiterator","odict_iterator","itertools.zip_longest","itertools.pairwise"].contains n && vs[0]?==O (rawInt T)then
     rule "for.unpacks-the-owned-tuple"
     updateField e 0 .none
   |_,_=>pure ()) Q E s:=by
  show Æ (wpAny_load hz ?_);change wpAny _ _ (if (["enumerate","zip","dict_itemiterator","dict_reverseitemiterator","odict_iterator","itertools.zip_longest","itertools.pairwise"].contains "enumerate" &&
   (#[f0,.I f1,.y it,rawInt i,.none,lj]:Array À)[0]?==O (rawInt T))=EA then _ else _) Q E s
  split
  ·show Æ (Ė ?_);change wpAny _ _ (setField (.y e) 0 .none) Q E s;show ÿ hz JN λ h' wc By=>hQ h' .none (.p Y) wc By
  ·show Ë same
 unfold letOwnedTupleGo;ext tg <;> first
  |show Ë same
  |show core
def uE {Q:À->Â->Prop} (he:lB s.heap e it f0 f1 i lj) (h:Q (.y e) s):wpAny (model prog w) A (pyIter (.y e)) Q E s:=by
 let hT:s.TypeIs (.y e) "enumerate" :=⟨_,he,rfl⟩;show wpAny_pyIter_slot hT F.slot_enumerate_iter (Ĝ F.slot_enumerate_iter hT F.entry_enumerate_iter ?_ (F.args_enumerate_iter_1 _));change wpAny _ _ (ret (.y e)) _ _ s;show Ë ⟨_,Y,"enumerate",_,hT,F.slot_enumerate_next.lookup,h⟩
set_option tactic.hygienic true in
def HZ (t:Bool) (l:Á) (xs:Array À) :
  Meets (Builtin.«enumerate.__new__» ⟨[.q "enumerate",.y l],[]⟩) (λ _ R s=>cC s.heap t l xs/\
   R (.ok (.ret (.y (zA s.heap t l).objs.size))) { s with heap:=(zA s.heap t l).push { cls:=.q "enumerate",data:=.U #[.none,.I JJ,.y s.L,rawInt 0,.none,.none] } }):=
 .of_wp λ prog w A R s h=>by
  let⟨hp,g,d,tk,os⟩:=s;let⟨hl,h⟩:=h;let zm:=sub_enumerate;let hL:cC (Shared.heap ⟨hp,g,d,tk,os⟩) t l xs:=hl
  wp_walk
  show wpAny_stack_any λ st=>Ë ?_
  split
  ·rename_i c _ _ _ _ _
   cases(c==Value.type "enumerate")
   ·wp_walk using gK hL
    show⟨_,Y,h⟩
   ·wp_walk using gK hL
    show⟨_,Y,h⟩
  ·wp_walk using gK hL
   show⟨_,Y,h⟩
def N7 {Q:À->Â->Prop} (hL:cC s.heap t l xs)
  (h:∀ h',lB h' (s.L+1) s.heap.objs.size .none JJ 0 .none->fE h' t s.heap.objs.size l 0->(∀ b o,s.heap.get? b=O o->h'.get? b=O o)->Q (.y (s.L+1)) { s with heap:=h' }) :
  wpAny (model prog w) A (call (.q "enumerate") [.y l]) Q E s:=by
 show callType_new F.called_enumerate JL (F.typeCall_enumerate_1 _) (F.newCall_enumerate_1 _) (λ obj=>F.args_object_init_2 obj _) F.entry_enumerate_new (HZ t l xs) ⟨hL,?_⟩;let hz:(zA s.heap t l).objs.size=s.L+1:=ĉ ..;change _/\_;rw[hz];let he:lB ((zA s.heap t l).push { cls:=.q "enumerate",data:=.U #[.none,.I JJ,.y s.L,rawInt 0,.none,.none] }) (s.L+1) s.heap.objs.size .none JJ 0 .none:=by
  let:=Ü (zA s.heap t l) (o:={ cls:=.q "enumerate",data:=.U #[.none,.I JJ,.y s.L,rawInt 0,.none,.none] }) rfl;rw[hz]at this;show this
 show⟨⟨_,he,Y⟩,h _ he (lS (Î _ (Ü _ Y))) λ b o x=>Î _ (Î _ x)⟩
end
end TwZ
namespace L2
open PySem PySem.Spec PyProof.Rows TwZ
def kD (K:Ç) (H:Hp) (t:Bool) (a:Á) (xs:List V):Prop:=if t=EA then bH K H a xs else bC K H a xs
section
variable {X:Cx}{gu:List (Á×Obj)}{σ:St}{H:Hp}{s:Â}
def Inv.src  (I:Inv X gu σ H s) (h:kD X.K H t a xs):∃ its:List À,bN xs its/\cC s.heap t a its.J/\xs.Z<=sizeLine:=by
 cases t with
 |true=>
  let⟨its,r,p,z⟩:=I.tuple h;show⟨its,r,(show s.heap.IsTuple a its.J from p),z⟩
 |false=>
  let⟨its,r,p,z⟩:=I.list h;show⟨its,r,p.isList,z⟩
def Inv.src_inj  (I:Inv X gu σ H s) (h:kD X.K H t a xs) (h':kD X.K H t a ys):xs=ys:=by
 cases t with
 |true=>show I.tuple_inj h h'
 |false=>show I.list_inj h h'
def Inv.turnedT {fp:List Á}{T:Á}{its:List À} (I:Inv X gu σ H s) (hf:∀ b∈fp,qQ X gu H b) (k:∀ b o,b∉fp->s.heap.get? b=O o->h'.get? b=O o)
  (hT:s.L<=T) (hv:bN xs its) (hz:xs.Z<=sizeLine) (ht:IsTup h' T its.J):Inv X gu σ (upd H T (.v xs)) { s with heap:=h',toks:=t' }:=by
 let hn:H T=none:=I.hok.fresh hT;let nT:∀ b u,H b=O u->b≠T:=λ b u e=>aM e hn;let Dc:∀ b u,H b=O u->b∉fp:=λ b u e hb=>by rw[(hf b hb).1]at e;cases e
 let nTh:∀ b o,s.heap.get? b=O o->b≠T:=λ b o e z=>by rw[z]at e;show absurd (é (Ó e) hT) (Ċ _)
 show I.step (g':=s.gens) (d':=s.drawn) (ch:=fp) (λ b hb=>?_) (λ b o _ _ hc e _=>k b o hc e) (λ b o _ _ hc e _=>⟨o.slots,k b o hc e⟩) (λ b o hc e n=>by rw[aK (nTh b o e)];show n)
  (λ b o hc e=>⟨o,k b o hc e⟩) (λ b ys e=>by rw[aK (nT b _ e)];show e) (λ b o u e=>by rw[aK (nT b _ e)];show e) (λ b ps e=>⟨#[],by rw[aK (nT b _ e),e];simp⟩) (λ m hm=>?_) (λ b u e=>?_) I.bare
 ·let⟨_,f1,_,f3,f4,f5⟩:=hf b hb;show⟨f3,f1,f4,f5⟩
 ·let⟨o,es,ep,ho,r⟩:=hm;show⟨o,es,ep,k _ o (λ hb=>(hf _ hb).2.1 Y) ho,r⟩
 ·by_cases hb:b=T
  ·subst hb;rw[aD]at e;ext e;show⟨hz,its,hv,ht⟩
  ·rw[aK hb]at e;show(I.hok b u e).stay (λ c v hc q=>k c v ?_ q) (λ c q=>by rw[aK (nT c _ q)];show q) λ c ys q=>by rw[aK (nT c _ q)];show q
   rcases hc with z|z
   ·rw[z];show Dc b u e
   ·show Dc c _ z
def Inv.turnedL {fp:List Á} (I:Inv X gu σ H s) (hf:∀ b∈fp,qQ X gu H b) (k:∀ b o,b∉fp->s.heap.get? b=O o->h'.get? b=O o):Inv X gu σ H { s with heap:=h',toks:=t' }:=by
 let Dc:∀ b u,H b=O u->b∉fp:=λ b u e hb=>by rw[(hf b hb).1]at e;cases e
 show I.step (g':=s.gens) (d':=s.drawn) (ch:=fp) (λ b hb=>?_) (λ b o _ _ hc e _=>k b o hc e) (λ b o _ _ hc e _=>⟨o.slots,k b o hc e⟩) (λ b o hc e n=>n)
  (λ b o hc e=>⟨o,k b o hc e⟩) (λ b ys e=>e) (λ b o u e=>e) (λ b ps e=>⟨#[],by rw[e];simp⟩) (λ m hm=>?_) (λ b u e=>?_) I.bare
 ·let⟨_,f1,_,f3,f4,f5⟩:=hf b hb;show⟨f3,f1,f4,f5⟩
 ·let⟨o,es,ep,ho,r⟩:=hm;show⟨o,es,ep,k _ o (λ hb=>(hf _ hb).2.1 Y) ho,r⟩
 ·show(I.hok b u e).stay (λ c v hc q=>k c v ?_ q) (λ c q=>q) λ c ys q=>q;rcases hc with z|z
  ·rw[z];show Dc b u e
  ·show Dc c _ z
end
def YU (K:Ç) (t1 t2 t3:Bool) (a1 a2 a3:Á):It:=
 ⟨λ i H=>∃ xs ys zs x y z,kD K H t1 a1 xs/\kD K H t2 a2 ys/\kD K H t3 a3 zs/\xs[i]?=O x/\ys[i]?=O y/\zs[i]?=O z,
  λ i H v H'=>∃ T x y z,H T=W/\v=.y T/\(∀ xs,kD K H t1 a1 xs->xs[i]?=O x)/\(∀ xs,kD K H t2 a2 xs->xs[i]?=O y)/\(∀ xs,kD K H t3 a3 xs->xs[i]?=O z)/\H'=upd H T (.v [x,y,z]),
  λ i H=>∃ xs ys zs,kD K H t1 a1 xs/\kD K H t2 a2 ys/\kD K H t3 a3 zs/\(xs.Z<=i\/ys.Z<=i\/zs.Z<=i)⟩
def Z7 (n a1 a2 a3:Nat) (t1 t2 t3:Bool) (i:Nat) (h:Heap):Prop:=
 ∃ f0 f1 c1 c2 c3,jF f0/\qP h (n+5) (n+3) (n+4) f0 f1/\eW h (n+3) #[.y n,.y (n+1),.y (n+2)]/\eW h (n+4) #[c1,c2,c3]/\
  fE h t1 n a1 i/\fE h t2 (n+1) a2 i/\fE h t3 (n+2) a3 i/\a1 < n/\a2 < n/\a3 < n
def IK (n:Nat) (m:Nat):List Á:=(List.range m).map λ k=>(n+k:Nat)
def fI :b∈IK n m↔∃ k,k < m/\b=n+k:=by
 unfold IK;rw[Ù];constructor
 ·rintro zQ;let⟨k,hk,e⟩:=zQ;show⟨k,Ĳ.mp hk,e.symm⟩
 ·rintro zQ;let⟨k,hk,e⟩:=zQ;show⟨k,Ĳ.mpr hk,e.symm⟩
def jO {b:Nat} (h:(b:Á)∉IK n m) (hm:0 < m):b < n\/n+(m - 1) < b:=by
 by_cases h1:b < n
 ·show .p h1
 ·by_cases h2:n+(m - 1) < b
  ·show .x h2
  ·show absurd (fI.mpr ⟨b - n,JM,by change(b:Nat)=n+(b - n);lia⟩) h
def LM {P:Ã}{w:World}{K:Ç}{tg:Expr} (n a1 a2 a3:Nat) (t1 t2 t3:Bool):Turn P w K tg (YU K t1 t2 t3 a1 a2 a3) (IK n 6) (n+5) (Z7 n a1 a2 a3 t1 t2 t3) where
 mem:=fI.mpr ⟨5,JL,rfl⟩
 obj:=λ i h st b hb=>by
  let⟨f0,f1,c1,c2,c3,hf,hz,nz,oj,i1,i2,i3,_⟩:=st;let⟨k,hk,Y⟩:=fI.mp hb;let yf:k=0\/k=1\/k=2\/k=3\/k=4\/k=5:=by lia
  rcases yf with rfl|rfl|rfl|rfl|rfl|rfl
  ·show i1.obj
  ·show i2.obj
  ·show i3.obj
  ·show⟨_,nz,λ v z=>by ext z⟩
  ·show⟨_,oj,λ v z=>by ext z⟩
  ·show⟨_,hz,λ v z=>by ext z⟩
 keep:=λ i h h' st k=>by
  let⟨f0,f1,c1,c2,c3,hf,hz,nz,oj,i1,i2,i3,l⟩:=st;let m:∀ j,j < 6->((n+j:Nat):Á)∈IK n 6:=λ j hj=>fI.mpr ⟨j,hj,rfl⟩;show⟨f0,f1,c1,c2,c3,hf,k _ (m 5 JL) _ hz,k _ (m 3 JL) _ nz,k _ (m 4 JL) _ oj,i1.at λ o e=>k _ (m 0 JL) _ e,i2.at λ o e=>k _ (m 1 JL) _ e,i3.at λ o e=>k _ (m 2 JL) _ e,l⟩
 item:=by
  intro X hP hw hK hc i gu s σ H E I hf st hg;subst hP hw hK;let⟨f0,f1,c1,c2,c3,f,hz,nz,oj,i1,i2,i3,l1,l2,l3⟩:=st;let⟨xs,ys,zs,x,y,z,q1,q2,q3,hx,hy,hw⟩:=hg;let⟨us,r1,p1,_⟩:=I.src q1;let⟨vs,r2,p2,_⟩:=I.src q2;let⟨ws,r3,p3,_⟩:=I.src q3;let⟨u,hu,ru⟩:=r1.get hx;let⟨v,hv,rv⟩:=r2.get hy;let⟨w',hw',uw⟩:=r3.get hw;show mH hz (LG f hz nz oj i1 i2 i3 p1 p2 p3 l1 l2 l3 (by simpa using hu) (by simpa using hv) (by simpa using hw') λ T h' uz yi d1 d2 d3 hT f' wc Dd De Hm Og i3' Hn hk=>?_);show⟨_,Y,zX (s:={ s with heap:=h' }) f' wc λ ym xu Ho Df hs=>?_⟩;replace hs:Heap.SameBut (n+5) h' ym:=hs;let Ue:n+5 < T:=é (Ó hz) hT;let zn:eW ym T #[u,v,w']:=ex hs JM Hn;let IT:Inv X gu σ (upd H T (.v [x,y,z])) { s with heap:=ym,toks:=s.toks }:=I.turnedT (fp:=IK n 6) hf (λ b o hb e=>ex (c:=b) hs (by let:=jO (b:=b) hb JL;let:n+(6 - 1)=n+5:=rfl;lia) (hk b o (jO (b:=b) hb JL) e)) hT (its:=[u,v,w']) (.B ru (.B rv (.B uw .nil))) (by change 3<=sizeLine;decide) ⟨_,zn,rfl,_,rfl⟩;show⟨.y T,upd H T (.v [x,y,z]),IT,Y,
   ⟨T,x,y,z,I.hok.fresh hT,Y,λ as q=>by rw[I.src_inj q q1];show hx,λ as q=>by rw[I.src_inj q q2];show hy,λ as q=>by rw[I.src_inj q q3];show hw,Y⟩,
   ⟨xu,yi,d1,d2,d3,Ho,Df,ex hs JM Dd,ex hs JM De,Hm.ext hs JM,Og.ext hs JM,i3'.ext hs JM,l1,l2,l3⟩,λ b hb=>?_⟩
  ·let⟨j,hj,Y⟩:=fI.mp hb;rw[aK (show((n+j:Nat):Á)≠T from(show @Ne Nat (n+j) T by lia))];show(hf _ hb).1
 done:=by
  intro X hP hw hK hc i gu s σ H E I hf st hg;subst hP hw hK;let⟨f0,f1,c1,c2,c3,f,hz,nz,oj,i1,i2,i3,l1,l2,l3⟩:=st;let⟨xs,ys,zs,q1,q2,q3,si⟩:=hg;let⟨us,r1,p1,_⟩:=I.src q1;let⟨vs,r2,p2,_⟩:=I.src q2;let⟨ws,r3,p3,_⟩:=I.src q3;let e1:=r1.Z;let e2:=r2.Z;let e3:=r3.Z;show mH hz (NL (I.ok.hd hc) f hz nz oj i1 i2 i3 p1 p2 p3 l1 l2 l3 (by
   rcases si with h|h|h
   ·show .p (by simp;lia)
   ·show .x (.p (by simp;lia))
   ·show .x (.x (by simp;lia))) λ h' e hk he=>?_)
  let⟨o,ho,vt⟩:=he;show⟨⟨e,o,Y,ho,vt⟩,Y,I.turnedL (t':=s.M) hf λ b o hb q=>hk b o (jO (b:=b) hb JL) q⟩
 self:=λ _ _ _ _ _ st h=>by
  let⟨f0,f1,c1,c2,c3,f,hz,_⟩:=st;show mI hz h
def VO (K:Ç) (t1 t2:Bool) (a1 a2:Á):It:=
 ⟨λ i H=>∃ xs ys x y,kD K H t1 a1 xs/\kD K H t2 a2 ys/\xs[i]?=O x/\ys[i]?=O y,
  λ i H v H'=>∃ T x y,H T=W/\v=.y T/\(∀ xs,kD K H t1 a1 xs->xs[i]?=O x)/\(∀ xs,kD K H t2 a2 xs->xs[i]?=O y)/\H'=upd H T (.v [x,y]),
  λ i H=>∃ xs ys,kD K H t1 a1 xs/\kD K H t2 a2 ys/\(xs.Z<=i\/ys.Z<=i)⟩
def Z8 (n a1 a2:Nat) (t1 t2:Bool) (i:Nat) (h:Heap):Prop:=
 ∃ f0 f1 c1 c2,jF f0/\qP h (n+4) (n+2) (n+3) f0 f1/\eW h (n+2) #[.y n,.y (n+1)]/\eW h (n+3) #[c1,c2]/\fE h t1 n a1 i/\fE h t2 (n+1) a2 i/\a1 < n/\a2 < n
def LN {P:Ã}{w:World}{K:Ç}{tg:Expr} (n a1 a2:Nat) (t1 t2:Bool):Turn P w K tg (VO K t1 t2 a1 a2) (IK n 5) (n+4) (Z8 n a1 a2 t1 t2) where
 mem:=fI.mpr ⟨4,JL,rfl⟩
 obj:=λ i h st b hb=>by
  let⟨f0,f1,c1,c2,hf,hz,nz,oj,i1,i2,_⟩:=st;let⟨k,hk,Y⟩:=fI.mp hb;let yf:k=0\/k=1\/k=2\/k=3\/k=4:=by lia
  rcases yf with rfl|rfl|rfl|rfl|rfl
  ·show i1.obj
  ·show i2.obj
  ·show⟨_,nz,λ v z=>by ext z⟩
  ·show⟨_,oj,λ v z=>by ext z⟩
  ·show⟨_,hz,λ v z=>by ext z⟩
 keep:=λ i h h' st k=>by
  let⟨f0,f1,c1,c2,hf,hz,nz,oj,i1,i2,l⟩:=st;let m:∀ j,j < 5->((n+j:Nat):Á)∈IK n 5:=λ j hj=>fI.mpr ⟨j,hj,rfl⟩;show⟨f0,f1,c1,c2,hf,k _ (m 4 JL) _ hz,k _ (m 2 JL) _ nz,k _ (m 3 JL) _ oj,i1.at λ o e=>k _ (m 0 JL) _ e,i2.at λ o e=>k _ (m 1 JL) _ e,l⟩
 item:=by
  intro X hP hw hK hc i gu s σ H E I hf st hg;subst hP hw hK;let⟨f0,f1,c1,c2,f,hz,nz,oj,i1,i2,l1,l2⟩:=st;let⟨xs,ys,x,y,q1,q2,hx,hy⟩:=hg;let⟨us,r1,p1,_⟩:=I.src q1;let⟨vs,r2,p2,_⟩:=I.src q2;let⟨u,hu,ru⟩:=r1.get hx;let⟨v,hv,rv⟩:=r2.get hy;show mH hz (LH f hz nz oj i1 i2 p1 p2 l1 l2 (by simpa using hu) (by simpa using hv) λ T h' uz yi d1 d2 hT f' wc Dd De Hm Og Hn hk=>?_);show⟨_,Y,zX (s:={ s with heap:=h' }) f' wc λ ym xu Ho Df hs=>?_⟩;replace hs:Heap.SameBut (n+4) h' ym:=hs;let Ue:n+4 < T:=é (Ó hz) hT;let zn:eW ym T #[u,v]:=ex hs JM Hn;let IT:Inv X gu σ (upd H T (.v [x,y])) { s with heap:=ym,toks:=s.toks }:=I.turnedT (fp:=IK n 5) hf (λ b o hb e=>ex (c:=b) hs (by let:=jO (b:=b) hb JL;let:n+(5 - 1)=n+4:=rfl;lia) (hk b o (jO (b:=b) hb JL) e)) hT (its:=[u,v]) (.B ru (.B rv .nil)) (by change 2<=sizeLine;decide) ⟨_,zn,rfl,_,rfl⟩;show⟨.y T,upd H T (.v [x,y]),IT,Y,
   ⟨T,x,y,I.hok.fresh hT,Y,λ as q=>by rw[I.src_inj q q1];show hx,λ as q=>by rw[I.src_inj q q2];show hy,Y⟩,
   ⟨xu,yi,d1,d2,Ho,Df,ex hs JM Dd,ex hs JM De,Hm.ext hs JM,Og.ext hs JM,l1,l2⟩,λ b hb=>?_⟩
  ·let⟨j,hj,Y⟩:=fI.mp hb;rw[aK (show((n+j:Nat):Á)≠T from(show @Ne Nat (n+j) T by lia))];show(hf _ hb).1
 done:=by
  intro X hP hw hK hc i gu s σ H E I hf st hg;subst hP hw hK;let⟨f0,f1,c1,c2,f,hz,nz,oj,i1,i2,l1,l2⟩:=st;let⟨xs,ys,q1,q2,si⟩:=hg;let⟨us,r1,p1,_⟩:=I.src q1;let⟨vs,r2,p2,_⟩:=I.src q2;let e1:=r1.Z;let e2:=r2.Z;show mH hz (NM (I.ok.hd hc) f hz nz oj i1 i2 p1 p2 l1 l2 (by
   rcases si with h|h
   ·show .p (by simp;lia)
   ·show .x (by simp;lia)) λ h' e hk he=>?_)
  let⟨o,ho,vt⟩:=he;show⟨⟨e,o,Y,ho,vt⟩,Y,I.turnedL (t':=s.M) hf λ b o hb q=>hk b o (jO (b:=b) hb JL) q⟩
 self:=λ _ _ _ _ _ st h=>by
  let⟨f0,f1,c1,c2,f,hz,_⟩:=st;show mI hz h
def Ite (K:Ç) (t:Bool) (a:Á):It:=
 ⟨λ i H=>∃ xs x,kD K H t a xs/\xs[i]?=O x,
  λ i H v H'=>∃ T x,H T=W/\v=.y T/\(∀ xs,kD K H t a xs->xs[i]?=O x)/\H'=upd H T (.v [.u i,x]),
  λ i H=>∃ xs,kD K H t a xs/\xs.Z<=i⟩
def tne (n a:Nat) (t:Bool) (i:Nat) (h:Heap):Prop:=∃ f0 f1 lj,jF f0/\lB h (n+1) n f0 f1 i lj/\fE h t n a i/\a < n
def LP {P:Ã}{w:World}{K:Ç}{tg:Expr} (n a:Nat) (t:Bool):Turn P w K tg (Ite K t a) (IK n 2) (n+1) (tne n a t) where
 mem:=fI.mpr ⟨1,JL,rfl⟩
 obj:=λ i h st b hb=>by
  let⟨f0,f1,lj,hf,he,i1,_⟩:=st;let⟨k,hk,Y⟩:=fI.mp hb;let yf:k=0\/k=1:=by lia
  rcases yf with rfl|rfl
  ·show i1.obj
  ·show⟨_,he,λ v z=>by ext z⟩
 keep:=λ i h h' st k=>by
  let⟨f0,f1,lj,hf,he,i1,l⟩:=st;let m:∀ j,j < 2->((n+j:Nat):Á)∈IK n 2:=λ j hj=>fI.mpr ⟨j,hj,rfl⟩;show⟨f0,f1,lj,hf,k _ (m 1 JL) _ he,i1.at λ o e=>k _ (m 0 JL) _ e,l⟩
 item:=by
  intro X hP hw hK hc i gu s σ H E I hf st hg;subst hP hw hK;let⟨f0,f1,lj,f,he,i1,l1⟩:=st;let⟨xs,x,q1,hx⟩:=hg;let⟨us,r1,p1,_⟩:=I.src q1;let⟨u,hu,ru⟩:=r1.get hx;show uD he (MR f he i1 p1 l1 (by simpa using hu) λ T h' uz yi Au hT f' Hl Hm Hn hk=>?_);show⟨_,Y,ID (s:={ s with heap:=h',toks:=s.M+1 }) f' Hl λ ym xu Ho Oh hs=>?_⟩;replace hs:Heap.SameBut (n+1) h' ym:=hs;let Ue:n+1 < T:=é (Ó he) hT;let zn:eW ym T #[.u i s.M,u]:=ex hs JM Hn;let IT:Inv X gu σ (upd H T (.v [.u i,x])) { s with heap:=ym,toks:=s.M+1 }:=I.turnedT (fp:=IK n 2) hf (λ b o hb e=>ex (c:=b) hs (by let:=jO (b:=b) hb JL;let:n+(2 - 1)=n+1:=rfl;lia) (hk b o (jO (b:=b) hb JL) e)) hT (its:=[.u i s.M,u]) (.B ⟨_,rfl⟩ (.B ru .nil)) (by change 2<=sizeLine;decide) ⟨_,zn,rfl,_,rfl⟩;let he2:lB ym (n+1) n xu yi ((i+1:Nat):Int) Au:=by
   let:((i+1:Nat):Int)=(i:Int)+1:=by push_cast;rfl
   rw[this];show Oh
  show⟨.y T,upd H T (.v [.u i,x]),IT,Y,⟨T,x,I.hok.fresh hT,Y,λ as q=>by rw[I.src_inj q q1];show hx,Y⟩,⟨xu,yi,Au,Ho,he2,Hm.ext hs JM,l1⟩,λ b hb=>?_⟩
  ·let⟨j,hj,Y⟩:=fI.mp hb;rw[aK (show((n+j:Nat):Á)≠T from(show @Ne Nat (n+j) T by lia))];show(hf _ hb).1
 done:=by
  intro X hP hw hK hc i gu s σ H E I hf st hg;subst hP hw hK;let⟨f0,f1,lj,f,he,i1,l1⟩:=st;let⟨xs,q1,si⟩:=hg;let⟨us,r1,p1,_⟩:=I.src q1;let e1:=r1.Z;show uD he (RQ (I.ok.hd hc) he i1 p1 (by simp;lia) λ h' e hk he=>?_);let⟨o,ho,vt⟩:=he;show⟨⟨e,o,Y,ho,vt⟩,Y,I.turnedL (t':=s.M) hf λ b o hb q=>hk b o (jO (b:=b) hb JL) q⟩
 self:=λ _ _ _ _ _ st h=>by
  let⟨f0,f1,lj,f,he,_⟩:=st;show uE he h
section
variable {X:Cx}{tg:Expr}
def G4:bootBuiltins "zip"=O (.q "zip"):=by decide +kernel
def N9:bootBuiltins "enumerate"=O (.q "enumerate"):=by decide +kernel
def WF (K:Ç) (ta:TA):TI:=λ σ H R=>ta σ H λ vs H1=>∃ t1 t2 a1 a2,vs=[.y a1,.y a2]/\(∃ xs,kD K H1 t1 a1 xs)/\(∃ xs,kD K H1 t2 a2 xs)/\R (VO K t1 t2 a1 a2) H1
def WE (K:Ç) (ta:TA):TI:=λ σ H R=>ta σ H λ vs H1=>∃ t1 t2 t3 a1 a2 a3,vs=[.y a1,.y a2,.y a3]/\(∃ xs,kD K H1 t1 a1 xs)/\(∃ xs,kD K H1 t2 a2 xs)/\(∃ xs,kD K H1 t3 a3 xs)/\R (YU K t1 t2 t3 a1 a2 a3) H1
def WG (K:Ç) (ta:TA):TI:=λ σ H R=>ta σ H λ vs H1=>∃ t a,vs=[.y a]/\(∃ xs,kD K H1 t a xs)/\R (Ite K t a) H1
def U4  (hg:Gl X "enumerate") (hm:X.mg "enumerate" =W) (ha:PA X [a] ta) (hs:autoParam (starEach [a] X.env=[(JJ,eval a X.env)]) _0):PI X tg (.rj (.C "enumerate" p) [a] [] pos) (WG X.K ta):=by
 intro gu s σ H R I h;show Call_ (qL I hg hm N9 (Ō (dG (ha pos gu s σ H _ I h) λ us s1 ⟨vs,H1,I1,r1,q1⟩=>?_) hs Y));let⟨t,a1,e,⟨xs,hq⟩,q⟩:=q1;subst e;cases r1 with
 |cons r rr=>
  ext rr;ext r;let⟨its,rv,p,hz⟩:=I1.src hq;show N7 p λ h' he i1 hk=>?_;show uE (s:={ s1 with heap:=h' }) he ?_;show⟨_,IK s1.heap.objs.size 2,tne s1.heap.objs.size a1 t,_,H1,Y,I1.kept (t':=s1.M) hk,LP _ _ _,⟨.none,JJ,.none,.p Y,he,i1,p.lt⟩,λ b hb=>?_,q⟩;let⟨k,_,Y⟩:=fI.mp hb;show I1.fpOk (ĵ _ _) (I1.hok.fresh (ĵ _ _))
def U2 {p pos:Pos} (hg:Gl X "zip") (hm:X.mg "zip" =W) (ha:PA X [a,b] ta) (hs:autoParam (starEach [a,b] X.env=[(JJ,eval a X.env),(JJ,eval b X.env)]) _0) (yb:autoParam (starEach [b] X.env=[(JJ,eval b X.env)]) _0) :
  PI X tg (.rj (.C "zip" p) [a,b] [] pos) (WF X.K ta):=by
 intro gu s σ H R I h;show Call_ (qL I hg hm G4 (Ō (dG (ha pos gu s σ H _ I h) λ us s1 ⟨vs,H1,I1,r1,q1⟩=>?_) (by rw[hs,yb]) (by rw[yb];rfl)));let⟨t1,t2,a1,a2,e,⟨xs,Av⟩,⟨ys,xf⟩,q⟩:=q1;subst e;cases r1 with
 |cons r rr=>
  cases rr with
  |cons r' rr=>
   ext rr;ext r;ext r';let⟨its,rv,p1,hz⟩:=I1.src Av;let⟨pd,rv2,p2,Oi⟩:=I1.src xf;show N0 p1 p2 λ h' wc nz oj i1 i2 hk=>?_;show mI (s:={ s1 with heap:=h' }) wc ?_;show⟨_,IK s1.heap.objs.size 5,Z8 s1.heap.objs.size a1 a2 t1 t2,_,H1,Y,I1.kept (t':=s1.M) hk,LN _ _ _ _ _,⟨.none,JJ,_,_,.p Y,wc,nz,oj,i1,i2,p1.lt,p2.lt⟩,λ b hb=>?_,q⟩;let⟨k,_,Y⟩:=fI.mp hb;show I1.fpOk (ĵ _ _) (I1.hok.fresh (ĵ _ _))
def U0 {p pos:Pos} (hg:Gl X "zip") (hm:X.mg "zip" =W) (ha:PA X [a,b,c] ta) (hs:autoParam (starEach [a,b,c] X.env=[(JJ,eval a X.env),(JJ,eval b X.env),(JJ,eval c X.env)]) _0)
  (yb:autoParam (starEach [b,c] X.env=[(JJ,eval b X.env),(JJ,eval c X.env)]) _0) :
  PI X tg (.rj (.C "zip" p) [a,b,c] [] pos) (WE X.K ta):=by
 intro gu s σ H R I h;show Call_ (qL I hg hm G4 (Ō (dG (ha pos gu s σ H _ I h) λ us s1 ⟨vs,H1,I1,r1,q1⟩=>?_) (by rw[hs,yb]) (by rw[yb];rfl)));let⟨t1,t2,t3,a1,a2,a3,e,⟨xs,Av⟩,⟨ys,xf⟩,⟨zs,Lj⟩,q⟩:=q1;subst e;cases r1 with
 |cons r rr=>
  cases rr with
  |cons r' rr=>
   cases rr with
   |cons r'' rr=>
    ext rr;ext r;ext r';ext r'';let⟨its,rv,p1,hz⟩:=I1.src Av;let⟨pd,rv2,p2,Oi⟩:=I1.src xf;let⟨its3,rv3,p3,hz3⟩:=I1.src Lj;show MZ p1 p2 p3 λ h' wc nz oj i1 i2 i3 hk=>?_;show mI (s:={ s1 with heap:=h' }) wc ?_;show⟨_,IK s1.heap.objs.size 6,Z7 s1.heap.objs.size a1 a2 a3 t1 t2 t3,_,H1,Y,I1.kept (t':=s1.M) hk,LM _ _ _ _ _ _ _,⟨.none,JJ,_,_,_,.p Y,wc,nz,oj,i1,i2,i3,p1.lt,p2.lt,p3.lt⟩,λ b hb=>?_,q⟩;let⟨k,_,Y⟩:=fI.mp hb;show I1.fpOk (ĵ _ _) (I1.hok.fresh (ĵ _ _))
end
section
variable {prog:Ã}{A:Around}{E:À->Â->Prop}{s:Â}{l:Á}{xs:Array (Int×Tok)}
def GO {Q:À->Â->Prop} (hh:A.handled=W) (hl:s.heap.IsTuple l (intItems xs))
  (h:∀ h' tk t',(∀ b o,s.heap.get? b=O o->h'.get? b=O o)->Q (.u (preSum (numAt xs) xs.S) t') { s with heap:=h',toks:=tk }) :
  wpAny (model prog w) A (call (.z "sum") [.y l]) Q E s:=by
 let ki:l < s.L:=by let⟨_,e,_⟩:=hl;show Ó e
 show call_sum_walkG (ū hl ?_);show⟨_,_,_,_,_,_,numAt xs,Y,Walks.tuple (A:=A.in1) hh _ l (ä ki) (intItems xs),⟨⟨_,Ü _ Y,Y,Y⟩,hl.push _⟩,λ b hb=>?_,(λ _ _=>intItems_at),λ h' tk t' hk=>?_⟩
 ·change b < (s.heap.push _).objs.size;rw[ĉ];rcases Ð.mp hb with rfl|hb
  ·show agm _
  ·rcases Ð.mp hb with rfl|hb
   ·show Nat.lt_succ_of_lt ki
   ·cases hb
 ·let:=h h' tk t' (λ b o e=>hk b o (λ hm=>by rw[ã.mp hm]at e;show Ċ _ (Ó e)) (Î _ e));simpa [intItems]using this
def GP {vs:List À}{Q:À->Â->Prop} (hh:A.handled=W) (hl:cC s.heap t l vs.J) (hi:IntsAre vs ns)
  (h:∀ h' tk t',(∀ b o,s.heap.get? b=O o->h'.get? b=O o)->Q (.u ns.sum t') { s with heap:=h',toks:=tk }) :
  wpAny (model prog w) A (call (.z "sum") [.y l]) Q E s:=by
 let⟨xs,hx⟩:=hi.allInts.items;let hn:numsOf vs.toArray.toList=ns:=by rw[show vs.toArray.toList=vs from rfl,hi.numsOf]
 rw[hx]at hl hn;rw[nums_intItems]at hn;let e:preSum (numAt xs) xs.S=ns.sum:=by rw[preSum_eq,ù JN,hn]
 cases t with
 |true=>show GO hh hl λ h' tk t' hk=>by rw[e];show h h' tk t' hk
 |false=>show sum_intListG hh hl λ h' tk t' hk=>by rw[e];show h h' tk t' hk
def VL {bs:List Bool}{Q:À->Â->Prop} (hh:A.handled=W) (hl:cC s.heap t l vs.J) (hb:bN (bs.map V.bl) vs)
  (h:∀ h' tk,(∀ b o,s.heap.get? b=O o->h'.get? b=O o)->Q (.I (bs.all id)) { s with heap:=h',toks:=tk }):wpAny (model prog w) A (call (.z "all") [.y l]) Q E s:=by
 let ki:l < s.L:=hl.lt;let io:=hb.Z;rw[Ê]at io;let key:∀(P:Nat->À->Prop),(∀ i v,P i v->vs[i]?=O v)->TruthOf prog w A.in1 P (λ i=>(bs[i]?).getD EA):=λ P hP i v s' Q' E' hp hQ=>by
  let hv:=hP i v hp;let hi:i < vs.Z:=(à.mp hv).1;let mq:(bs.map V.bl)[i]?=O (V.bl bs[i]):=by simp[show i < bs.Z by lia]
  let⟨u,hu,ru⟩:=hb.get mq;rw[hv]at hu;ext hu;ext ru;let e:(bs[i]?).getD EA=bs[i]:=by simp[show i < bs.Z by lia]
  let Uf:Q' ((bs[i]?).getD EA) s':=hQ;rw[e]at Uf;show ħ Uf
 let rng:((List.range vs.toArray.S).all λ i=>(bs[i]?).getD EA)=bs.all id:=by
  rw[Þ,<- io,Ī,Ĕ,Ĕ];constructor
  ·intro hq b mq;let⟨i,hi,Y⟩:=List.getElem_of_mem mq;let:=hq i (Ĳ.mpr hi);simpa [hi]using this
  ·intro hq i hi;let uo:=Ĳ.mp hi;let:=hq bs[i] (ı uo);simpa [uo]using this
 let kept:∀ {h':Heap}{o:Obj},(∀ b x,b∉[s.L]->(s.heap.push o).get? b=O x->h'.get? b=O x)->∀ b x,s.heap.get? b=O x->h'.get? b=O x:=λ hk b x e=>
  hk b x (λ hm=>by rw[ã.mp hm]at e;show Ċ _ (Ó e)) (Î _ e)
 cases t with
 |true=>
  show call_all_walk (ū hl ?_);show⟨s.L,[s.L,l],[s.L],vs.toArray.S,_,_,λ i=>(bs[i]?).getD EA,Y,Walks.tuple (A:=A.in1) hh _ l (ä ki) vs.J,
   ⟨⟨_,Ü _ Y,Y,Y⟩,Heap.IsTuple.push hl _⟩,key _ (λ i v hp=>by simpa using hp),λ h' tk hk=>?_⟩
  rw[rng];show h h' tk (kept hk)
 |false=>
  show call_all_walk (ŭ hl ?_);show⟨s.L,[s.L,l],[s.L],vs.toArray.S,_,_,λ i=>(bs[i]?).getD EA,Y,Walks.list (A:=A.in1) hh _ l (ä ki) vs.J,
   ⟨⟨_,Ü _ Y,Y,Y⟩,Heap.IsList.push hl _⟩,key _ (λ i v hp=>by simpa using hp),λ h' tk hk=>?_⟩
  rw[rng];show h h' tk (kept hk)
end
section
def ZM (K:Ç):List V->Hp->VK->Prop:=λ xs H Q=>∃(t:Bool) (p:Á) (ns:List Int),xs=[.y p]/\kD K H t p (ns.map V.int)/\Q (.u ns.sum) H
def N2 (hc:X.calm=EA):fU X (.z "sum") (ZM X.K):=by
 intro gu s σ H xs us Q I r h;let⟨t,p,ns,Y,hq,q⟩:=h;let⟨u,Y,ru⟩:=r.one;ext ru;let⟨its,rv,p1,hz⟩:=I.src hq;show GP (I.ok.hd hc) p1 (IH rv) λ h' tk t' hk=>⟨.u ns.sum,H,I.kept hk,⟨t',Y⟩,q⟩
def ZZ (K:Ç):List V->Hp->VK->Prop:=λ xs H Q=>∃(t:Bool) (p:Á) (bs:List Bool),xs=[.y p]/\kD K H t p (bs.map V.bl)/\Q (.bl (bs.all id)) H
def N8 (hc:X.calm=EA):fU X (.z "all") (ZZ X.K):=by
 intro gu s σ H xs us Q I r h;let⟨t,p,bs,Y,hq,q⟩:=h;let⟨u,Y,ru⟩:=r.one;ext ru;let⟨its,rv,p1,hz⟩:=I.src hq;show VL (I.ok.hd hc) p1 rv λ h' tk hk=>⟨.bl (bs.all id),H,I.kept hk,Y,q⟩
def TyS (K:Ç) (H:Hp) (x:V) (t:À):Prop:=TyOf K H x t\/∃ a ys,x=.y a/\bH K H a ys/\t=.q "tuple"
def ZU (K:Ç):List V->Hp->VK->Prop:=λ xs H Q=>∃ x T t b,xs=[x,.ty T]/\TyS K H x t/\PySem.W.kitOne K t (.q T)=O b/\Q (.bl b) H
def S6:fU X (.z "isinstance") (ZU X.K):=by
 intro gu s σ H xs us Q I r h;let⟨x,T,t,b,Y,ty,e,q⟩:=h;let⟨u,v,Y,ru,rv⟩:=r.two;ext rv;rcases ty with ty|⟨a,ys,rfl,hq,rfl⟩
 ·show lT I ru ty e λ tk=>⟨.bl b,H,I.tok tk,Y,q⟩
 ·cases(show u=Value.ref a from ru);let⟨its,Ug,⟨o,h1,h2,_⟩,_⟩:=I.tuple hq;show ą afw I.kIn ⟨o,h1,h2⟩ e (λ z=>nomatch z) λ tk=>⟨.bl b,H,I.tok tk,Y,q⟩
end
def lJ:fillsNumberSlot (.q "tuple") "mul" =pure false:=
 PySem.fillsNumberSlot_seq (id :="tuple.__mul__") (r:=O (.z "tuple.__rmul__")) F.slot_tuple_mul.lookup JK F.slot_tuple_rmul.lookup JK
def rP:seqRepeat? (.q "tuple")=pure (O (.z "tuple.__mul__")):=by
 unfold seqRepeat?;rw[PySem.seqSlot_of (T :="tuple") (name :="__mul__") (id :="tuple.__mul__") F.slot_tuple_mul.lookup JK,PySem.seqSlot_of (T :="tuple") (name :="__rmul__") (id :="tuple.__rmul__") F.slot_tuple_rmul.lookup JK];rfl
def oG (a:Int) (t:Tok) (l:Á) (items:Array À) (n:Nat) (dd:Option Á) (sl:Array (Option À)) :
  Meets (Builtin.«int.__rmul__» ⟨[.u a t,.y l],[]⟩) (λ _ R s=>s.heap.get? l=O { cls:=.q "tuple",dict:=dd,data:=.V items n,slots:=sl }/\R (.ok (.ret Value.notImplemented)) s):=
 .of_wp λ prog w A R s h=>by let⟨hp,g,d,tk,os⟩:=s;let⟨hl,h⟩:=h;wp_walk;show⟨_,Y,h⟩
def yH (l:Á) (items:Array À) (n:Nat) (u:Tok) (dd:Option Á) (sl:Array (Option À)) :
  Meets (Builtin.«tuple.__mul__» ⟨[.y l,.u 1 u],[]⟩) (λ _ R s=>s.heap.get? l=O { cls:=.q "tuple",dict:=dd,data:=.V items n,slots:=sl }/\R (.ok (.ret (.y l))) s):=
 .of_wp λ prog w A R s h=>by
  let⟨hp,g,d,tk,os⟩:=s;let⟨hl,h⟩:=h;let c1:(items.isEmpty || (1:Int)== 1)=true:=by simp
  wp_walk
  show⟨_,Y,h⟩
def vN (l:Á) (items:Array À) (n:Nat) (x:Int) (u:Tok) (dd:Option Á) (sl:Array (Option À)) (c0:¬ (decide (x < -(2 ^ 63)) || decide (x ≥ 2 ^ 63))=EA) (c1:¬ (items.isEmpty || x== 1)=EA)
  (c2:¬ (decide (x<=0) || items.isEmpty)=EA) (c3:¬ (items.S:Int) * x > (2 ^ 63 - 1) / 8) (c4:¬ Builtin.Tuple.tupleTooMany ((items.S:Int) * x)=EA) (hsz:(List.foldl (λ x1 x2=>x1++x2) #[] (List.replicate x.toNat items)).size<=sizeLine) :
  Meets (Builtin.«tuple.__mul__» ⟨[.y l,.u x u],[]⟩) (λ _ R s=>s.heap.get? l=O { cls:=.q "tuple",dict:=dd,data:=.V items n,slots:=sl }/\
   R (.ok (.ret (.y s.L))) { s with heap:=s.heap.push { cls:=.q "tuple",data:=.V (List.foldl (λ x1 x2=>x1++x2) #[] (List.replicate x.toNat items)) } }):=
 .of_wp λ prog w A R s h=>by
  let⟨hp,g,d,tk,os⟩:=s;let⟨hl,h⟩:=h
  wp_walk
  rw[Ä c0]
  wp_walk
  all_goals (try rw[Ä c1])
  wp_walk
  all_goals (try rw[Ä c2])
  wp_walk
  all_goals (try rw[Ä c3])
  wp_walk
  all_goals (try rw[Ä c4])
  wp_walk
  show⟨_,Y,h⟩
def aI.tup  (e:aI H H') (h:bH K H a xs):bH K H' a xs:=by
 rcases h with(h|⟨o,h⟩)|h
 ·show .p (.p (e _ _ h))
 ·show .p (.x ⟨o,e _ _ h⟩)
 ·show .x h
def aI.new  (h:H p=W):aI H (upd H p o):=λ b u e=>by rw[aK (aM e h)];show e
def È:=@aI.new
section
def W4 (K:Ç):R2:=λ x y H Q=>∃(l:Á) (k:Int) (xs:List V),x=.y l/\y=.u k/\bH K H l xs/\1<=k/\k < 1000000/\xs≠[]/\xs.Z<=10/\
 ∀ p H',aI H H'->bH K H' p (List.replicate k.toNat xs).flatten->Q (.y p) H'
def JY:jJ X (binaryOp .Mult) (W4 X.K):=by
 intro gu s σ H x y v u Q I rx ry h;let⟨l,k,xs,Y,Y,hq,h1,h2,uq,Hq,q⟩:=h;ext rx;let⟨t,Y⟩:=ry;let⟨its,r,ht,z⟩:=I.tuple hq;let io:=r.Z;let⟨⟨cls,dd,data,sl⟩,e,hc,n,hd⟩:=id ht;simp only at hc hd;subst hc hd;show wpAny_binaryOp_repeat_ref (T :="tuple") (U :="int") JL ⟨_,e,Y⟩ (λ s'=>Ş s' k t) lJ F.fills_int_mul ŵ rP F.slot_int_index.lookup
  (č ŵ (Ş s k t) F.entry_int_rmul (F.args_int_rmul_2 _ _) (oG k t l its.toArray n dd sl) ⟨e,rfl,⟨_,e,rfl⟩,?_⟩)
 by_cases hk:k=1
 ·subst hk;show č agp ⟨_,e,Y⟩ aga (afz _ _) (yH l its.toArray n t dd sl) ⟨e,?_⟩;show⟨.y l,H,I,Y,q l H (Ć H) ?_⟩;let e1:(List.replicate (1:Int).toNat xs).flatten=xs:=by simp
  rw[e1];show hq
 ·let Dg:its≠[]:=λ z=>by rw[z]at io;show uq (ċ io)
  let f0:List.foldl (λ x1 x2=>x1++x2) #[] (List.replicate k.toNat its.J)=(List.replicate k.toNat its).flatten.toArray:=by
   let:=A5 its k.toNat [];rw[ł]at this;show this
  let Aw:its.toArray.isEmpty=false:=by cases its with
   |nil=>show absurd Y Dg
   |cons a r=>rfl
  let Hr:k.Q * its.Z<=sizeLine:=by
   let a1:its.Z<=10:=by lia
   let a2:k.Q<=1000000:=by lia
   let:=Nat.mul_le_mul a2 a1;rw[ê];lia
  let Uh:((its.toArray.S:Nat):Int) * k<=16777216:=by
   let a1:((its.toArray.S:Nat):Int)<=10:=by rw[Þ];lia
   let:=Int.mul_le_mul a1 (show k<=1000000 by lia) JM JM;lia
  show č agp ⟨_,e,Y⟩ aga (afz _ _) (vN l its.toArray n k t dd sl (by simp;lia) (by rw[Aw];simp;show hk) (by rw[Aw];simp;lia) JM (by
    unfold Builtin.Tuple.tupleTooMany;rw[decide_eq_true_iff];rw[ê];lia) (by rw[f0,Þ,K8];show Hr)) ⟨e,?_⟩
  let I1:=I.laid (a:=s.L) (o:=.v (List.replicate k.toNat xs).flatten) (h':=s.heap.push { cls:=.q "tuple",data:=.V (List.foldl (λ x1 x2=>x1++x2) #[] (List.replicate k.toNat its.J)) }) (t':=s.M)
   (λ _ _ q=>Î _ q) (Í _) ⟨by rw[K8,io];show Hr,(List.replicate k.toNat its).flatten,r.rep k.Q,⟨_,Ü _ Y,Y,0,by simp only[f0]⟩⟩
  show⟨.y _,_,I1,Y,q _ _ (È I.fresh) (Ï aD)⟩
end
open MeetsSeq in
set_option tactic.hygienic true in
def GM (l b:Á) (items ko:Array À) (n n2:Nat) (dd Bu:Option Á) (sl Bv:Array (Option À)) (hsz:items.S=ko.S) :
  Meets (Builtin.«tuple.__ne__» ⟨[.y l,.y b],[]⟩)
   (λ A R s=>s.heap.get? l=O { cls:=.q "tuple",dict:=dd,data:=.V items n,slots:=sl }/\s.heap.get? b=O { cls:=.q "tuple",dict:=Bu,data:=.V ko n2,slots:=Bv }/\
    (∀ j (h1:j < items.S) (h2:j < ko.S),SeqAt.EqAt A.in1 s items[j] ko[j] EA)/\
    R (.ok (.ret (.I JJ))) s):=
 .of_wp λ prog w A R s h=>by
  let⟨hp,g,d,tk,os⟩:=s;let⟨hl,hb,he,h⟩:=h;let f2:=AutoSeq1.sub_tuple_tuple;let hZ:(items.toList.zip ko.toList).length=min items.size ko.S:=by simp
  wp_walk using AutoSeq1.wpAny_loadPart' hl,AutoSeq1.wpAny_loadPart' hb,agq _ (λ js b s'=>b.1=W/\s'=⟨hp,g,d,tk,os⟩/\∃ i,js=(items.toList.zip ko.toList).drop i) _
  case turn=>
   rintro⟨y,x⟩ js b s' ⟨mq,rfl,i,hz⟩;let ki:i < (items.toList.zip ko.toList).length:=by
    rcases Nat.lt_or_ge i (items.toList.zip ko.toList).length with h'|h'
    ·show h'
    ·rw[ags h']at hz;cases hz
   let hm:i < min items.size ko.S:=hZ ▸ ki;let h1:i < items.S:=é hm (Nat.min_le_left _ _);let h2:i < ko.S:=é hm (Nat.min_le_right _ _);rw[List.drop_eq_getElem_cons ki]at hz;injection hz with Ui Hs;let hy:y=items[i]:=by let:=congrArg Prod.fst Ui;simpa using this
   let hx:x=ko[i]:=by let:=congrArg Prod.snd Ui;simpa using this
   subst hy hx;show Æ (he i h1 h2 prog w _ _ ?_)
   wp_walk
   show⟨Y,Y,i+1,Hs⟩
  case fin=>
   rintro⟨b1,b2⟩ s' ⟨mq,rfl,i,hz⟩;simp only at mq;subst mq
   wp_walk
   show⟨_,Y,by simpa [Builtin.Tuple.tupleCompareSizes,hsz]using h⟩
  case h=>
   show⟨Y,Y,0,Y⟩
inductive D where
 |non|bl (b:Bool)|int (i:Int)|str (x:Str)|tup (ds:List D)
mutual
def Is (K:Ç) (H:Hp):D->V->Prop
 |.non,v=>v=.non
 |.bl b,v=>v=.bl b
 |.int i,v=>v=.u i
 |.str x,v=>v=.o x
 |.tup ds,v=>∃ a xs,v=.y a/\bH K H a xs/\IsL K H ds xs
def IsL (K:Ç) (H:Hp):List D->List V->Prop
 |[],xs=>xs=[]
 |d::ds,xs=>∃ x r,xs=x::r/\Is K H d x/\IsL K H ds r
end
def bU (K:Ç) (H H':Hp):Prop:=∀ a xs,bH K H a xs->bH K H' a xs
def bU.refl  (H:Hp):bU K H H:=λ _ _ h=>h
def bU.trans  (a:bU K H H1) (b:bU K H1 H2):bU K H H2:=λ c xs h=>b c xs (a c xs h)
def aI.ts  (e:aI H H'):bU K H H':=λ _ _ h=>e.tup h
mutual
theorem Is.mono {K:Ç}{H H':Hp} (t:bU K H H'):∀(d:D) (v:V),Is K H d v->Is K H' d v
 |.non,_,h=>h
 |.bl _,_,h=>h
 |.int _,_,h=>h
 |.str _,_,h=>h
 |.tup ds,v,h=>by
  rw[Is]at h ⊢;let⟨a,xs,e,q,l⟩:=h;show⟨a,xs,e,t a xs q,IsL.mono t ds xs l⟩
theorem IsL.mono {K:Ç}{H H':Hp} (t:bU K H H'):∀(ds:List D) (xs:List V),IsL K H ds xs->IsL K H' ds xs
 |[],xs,h=>h
 |d::ds,xs,h=>by
  rw[IsL]at h ⊢;let⟨x,r,e,hx,hr⟩:=h;show⟨x,r,e,Is.mono t d x hx,IsL.mono t ds r hr⟩
end
def Ì:=@Is.mono
def Ò:=@IsL.mono
def IsL.length :∀ {ds:List D}{xs:List V},IsL K H ds xs->xs.Z=ds.Z
 |[],xs,h=>by rw[IsL]at h;subst h;rfl
 |d::ds,xs,h=>by
  rw[IsL]at h;let⟨x,r,Y,_,hr⟩:=h;rw[æ,æ,IsL.length hr]
def IsL.get :∀ {ds:List D}{xs:List V}{i:Nat}{d:D},IsL K H ds xs->ds[i]?=O d->∃ x,xs[i]?=O x/\Is K H d x
 |[],_,_,_,_,e=>by simp at e
 |d::ds,xs,0,d',h,e=>by
  rw[IsL]at h;let⟨x,r,Y,hx,hr⟩:=h;simp at e;subst e;show⟨x,Y,hx⟩
 |d::ds,xs,i+1,d',h,e=>by
  rw[IsL]at h;let⟨x,r,Y,hx,hr⟩:=h;let⟨y,h1,h2⟩:=IsL.get hr (i:=i) (by simpa using e);show⟨y,by simpa using h1,h2⟩
def IsL.get' {i:Nat}{x:V} (h:IsL K H ds xs) (e:xs[i]?=O x):∃ d,ds[i]?=O d/\Is K H d x:=by
 let hl:=h.Z;let hi:i < ds.Z:=by rw[<- hl];show(à.mp e).1
 let⟨y,h1,h2⟩:=h.get (i:=i) (d:=ds[i]) (by simp[hi]);rw[e]at h1;ext h1;show⟨ds[i],by simp[hi],h2⟩
def IsL.snoc  (hd:Is K H d x):∀ {ds:List D}{xs:List V},IsL K H ds xs->IsL K H (ds++[d]) (xs++[x])
 |[],xs,h=>by
  rw[IsL]at h;subst h;change IsL K H [d] [x];rw[IsL];show⟨x,[],Y,hd,by rw[IsL]⟩
 |d'::ds,xs,h=>by
  rw[IsL]at h;let⟨y,r,Y,hy,hr⟩:=h;change IsL K H (d'::(ds++[d])) (y::(r++[x]));rw[IsL];show⟨y,r++[x],Y,hy,IsL.snoc hd hr⟩
def ď:=@IsL.snoc
def IsL.ints :∀ {ns:List Int}{xs:List V},IsL K H (ns.map D.int) xs->xs=ns.map V.int
 |[],xs,h=>by rw[Ă,IsL]at h;show h
 |n::ns,xs,h=>by
  rw[Ø,IsL]at h;let⟨x,r,Y,hx,hr⟩:=h;rw[Is]at hx;rw[hx,IsL.ints hr,Ø]
def IsL.of_ints :∀(ns:List Int),IsL K H (ns.map D.int) (ns.map V.int)
 |[]=>by rw[Ă,Ă,IsL]
 |n::ns=>by
  rw[Ø,Ø,IsL];show⟨_,_,Y,by rw[Is],IsL.of_ints ns⟩
def ż:=@IsL.of_ints
def IsL.bools :∀ {ns:List Bool}{xs:List V},IsL K H (ns.map D.bl) xs->xs=ns.map V.bl
 |[],xs,h=>by rw[Ă,IsL]at h;show h
 |n::ns,xs,h=>by
  rw[Ø,IsL]at h;let⟨x,r,Y,hx,hr⟩:=h;rw[Is]at hx;rw[hx,IsL.bools hr,Ø]
def IsL.of_bools :∀(ns:List Bool),IsL K H (ns.map D.bl) (ns.map V.bl)
 |[]=>by rw[Ă,Ă,IsL]
 |n::ns=>by
  rw[Ø,Ø,IsL];show⟨_,_,Y,by rw[Is],IsL.of_bools ns⟩
mutual
def D.depth:D->Nat
 |.tup ds=>dF ds+1
 |_=>0
def dF:List D->Nat
 |[]=>0
 |d::ds=>max d.depth (dF ds)
end
section
variable {X:Cx}{gu:List (Á×Obj)}{σ:St}{H:Hp}{s:Â}
mutual
theorem Is.eqAt (I:Inv X gu σ H s):∀(d:D) (A:Around) (x y:V) (u v:À),A.R+d.depth < cLine->Is X.K H d x->Is X.K H d y->bE x u->bE y v->SeqAt.EqAt A s u v EA
 |.non,A,x,y,u,v,_,hx,hy,rx,ry=>by
  rw[Is]at hx hy;subst hx hy;ext rx;ext ry;show ĩ _
 |.bl b,A,x,y,u,v,_,hx,hy,rx,ry=>by
  rw[Is]at hx hy;subst hx hy;ext rx;ext ry;show ĩ _
 |.int i,A,x,y,u,v,_,hx,hy,rx,ry=>by
  rw[Is]at hx hy;subst hx hy;let⟨t,Y⟩:=rx;let⟨t',Y⟩:=ry;let:=afx (A:=A) (s:=s) i t i t';simpa using this
 |.str z,A,x,y,u,v,_,hx,hy,rx,ry=>by
  rw[Is]at hx hy;subst hx hy;let⟨t,Y⟩:=rx;let⟨t',Y⟩:=ry;let:=SeqAt.EqAt.str_str (A:=A) (s:=s) z t z t';simpa using this
 |.tup ds,A,x,y,u,v,hu,hx,hy,rx,ry=>by
  rw[Is]at hx hy;let⟨a,xs,Y,q1,l1⟩:=hx;let⟨b,ys,Y,q2,l2⟩:=hy;ext rx;cases ry
  by_cases yh:a=b
  ·subst yh;show ĩ _
  ·let⟨us,r1,p1,_⟩:=I.tuple q1;let⟨vs,r2,p2,_⟩:=I.tuple q2;let vb:D.depth (.v ds)=dF ds+1:=by rw[D.depth]
   rw[vb]at hu;let e1:=r1.Z;let e2:=r2.Z;let e3:=l1.Z;let e4:=l2.Z;let hu2:A.in1.R+dF ds < cLine:=by
    let:A.in1.R<=A.R+1:=by change A.R+1<=A.R+1;show Í _
    lia
   let all:=IsL.eqAt I ds A.in1 xs ys us vs hu2 l1 l2 r1 r2;let hsz:us.toArray.S=vs.toArray.S:=by simp;lia
   let:=SeqAt.RcAt.tuples (A:=A) (s:=s) (e:=λ _=>EA) (show s.heap.IsTuple a us.J from p1) (show s.heap.IsTuple b vs.J from p2) JM λ j h1 h2=>all j us.toArray[j] vs.toArray[j] JN JN;let e5:((List.range (min us.toArray.size vs.toArray.S)).all (λ _=>EA) && us.toArray.S == vs.toArray.S)=true:=by
    rw[hsz];simp
   rw[e5]at this;show af0 yh this
theorem IsL.eqAt (I:Inv X gu σ H s):∀(ds:List D) (A:Around) (xs ys:List V) (us vs:List À),A.R+dF ds < cLine->IsL X.K H ds xs->IsL X.K H ds ys->bN xs us->bN ys vs->∀(j:Nat) (u v:À),us[j]?=O u->vs[j]?=O v->SeqAt.EqAt A s u v EA
 |[],A,xs,ys,us,vs,_,hx,hy,rx,ry,j,u,v,eu,ev=>by
  rw[IsL]at hx;subst hx;ext rx;simp at eu
 |d::ds,A,xs,ys,us,vs,hu,hx,hy,rx,ry,j,u,v,eu,ev=>by
  rw[IsL]at hx hy;let⟨x,xr,Y,hx,hxr⟩:=hx;let⟨y,yr,Y,hy,hyr⟩:=hy;let hd:dF (d::ds)=max d.depth (dF ds):=by rw[dF]
  rw[hd]at hu;cases rx with
  |cons rx rxr=>
   cases ry with
   |cons ry ryr=>
    cases j with
    |zero=>
     simp at eu ev;subst eu ev;show Is.eqAt I d A x y _ _ JM hx hy rx ry
    |succ j=>show IsL.eqAt I ds A xr yr _ _ JM hxr hyr rxr ryr j u v (by simpa using eu) (by simpa using ev)
end
end
section
def BE (K:Ç):R2:=λ x y H Q=>∃ ds,ds.Z<=1000/\dF ds<=20/\Is K H (.v ds) x/\Is K H (.v ds) y/\Q (.bl JJ) H
def M4 (hu:X.A.R+64 < cLine):jJ X (compareOp .NotEq) (BE X.K):=by
 intro gu s σ H x y v u Q I rx ry h;let⟨ds,hl,vb,hx,hy,q⟩:=h;rw[Is] at hx hy;let⟨a,xs,Y,q1,l1⟩:=hx;let⟨b,ys,Y,q2,l2⟩:=hy;ext rx;ext ry;let⟨us,r1,p1,_⟩:=I.tuple q1;let⟨vs,r2,p2,_⟩:=I.tuple q2;let e1:=r1.Z;let e2:=r2.Z;let e3:=l1.Z;let e4:=l2.Z;let⟨⟨cls,dd,data,sl⟩,ho,hc,n,hd⟩:=id p1;let⟨⟨Gv,Bu,data2,Bv⟩,Aj,ye,n2,hd2⟩:=id p2;simp only at hc hd ye hd2;subst hc hd ye hd2;let ow:∀ A:Around,A.in1.R=A.R+1:=λ A=>rfl;show richCompare_meets_room (op:=.NotEq) ⟨_,ho,Y⟩ ⟨_,Aj,Y⟩ F.slot_tuple_ne F.entry_tuple_ne (F.args_tuple_ne_2 _ _) (GM a b us.toArray vs.toArray n n2 dd Bu sl Bv (by simp;lia))
  ⟨ho,Aj,λ j h1 h2=>IsL.eqAt I ds _ xs ys us vs (by rw[ow];lia) l1 l2 r1 r2 j _ _ JN JN,show Value.bool JJ≠Value.notImplemented/\EP X gu σ Q (.I JJ) s from⟨(λ x=>nomatch x),.bl JJ,H,I,rfl,q⟩⟩ JM
def XN:V->List V->Hp->VK->Prop:=λ x vs H Q=>∃(l:Á) (xs:List V) (y:V) (j:Nat),x=.y l/\vs=[y]/\H l=O (.j xs)/\nB y=EA/\xs.all nB=EA/\j < xs.Z/\(∀ z,xs[j]?=O z->RP z y=EA)/\(∀ i z,i < j->xs[i]?=O z->RP z y=JJ)/\Q (.u j) H
def QH:Z2 X "list.index" XN:=by
 intro gu s σ H x vs v us Q I rx rv h;let⟨l,xs,y,j,Y,Y,hH,fy,fx,hj,h1,h2,q⟩:=h;ext rx;let⟨u,Y,ru⟩:=rv.one;let⟨z,its,n,r,hl,e⟩:=I.lstM hH;let key:∀ i (hi:i < its.Z),∃ x,xs[i]?=O x/\bE x its[i]/\nB x=true:=λ i hi=>by
  let hx:xs[i]?=O xs[i]:=by simp[show i < xs.Z by lia]
  let⟨w',h1,h2⟩:=r.get hx;let:its[i]?=O its[i]:=by simp[hi]
  rw[this]at h1;ext h1;show⟨_,hx,h2,(Ĕ.mp fx) _ (ı _)⟩
 show č F.slot_list_index ⟨_,e,Y⟩ F.entry_list_index (F.args_list_index_2 _ _)
  (SeqAt.list_indexAt l its.toArray n W #[] u (NI y) j (by rw[Þ];lia) (by rw[ê]at z;lia) ?_ ?_) ⟨e,λ w' hw=>?_,⟨.u j,H,I.tok _,⟨_,rfl⟩,q⟩⟩
 ·let⟨x,hx,rx,Oj⟩:=key j JM;let:=D6 (x:=y) rx Oj;change NI y its[j]=EA;rw[this];show h1 x hx
 ·intro i hi ki;let uo:i < its.Z:=by simpa using hi
  let⟨x,hx,rx,Oj⟩:=key i uo;let:=D6 (x:=y) rx Oj;change NI y its[i]=JJ;rw[this];show h2 i x ki hx
 ·show sD ru fy r fx w' (by simpa using hw)
end
structure Callee (P:Ã) (w:World) (K:Ç) (mg:Str->Option À) (base:Heap) (x:Str) (ps:List Str) (k:Nat) (sp:Sp) (f:Á) (fd:FuncData):Prop where
 ok:FnOk P w K mg base gT k f fd ps sp
 mg:mg x=O (.y f)
 kp:PySem.W.keepIn K (.y f)=EA
 bd:gW K fd ps []
def cD {X:Cx}{x:Str}{ps:List Str}{k n:Nat}{sp:Sp}{f:Á}{fd:FuncData}{e:Expr}{es:List Expr}{t:TA}{p pos:Pos} (G:Callee X.prog X.w X.K X.mg X.base x ps k sp f fd) (hr:Room n X.A) (ha:PA X (e::es) t) (hg:autoParam (Gl X x) _0) (hle:autoParam (k<=n) _2)
  (ze:autoParam ((x==("__debug__":Str))=false) _2) (he:autoParam (starEach (e::es) X.env=(JJ,eval e X.env)::starEach es X.env) _0) (pj:autoParam ((backTo pos (starEach es X.env)).any (·.1)=false) _0) :
  PE X (.rj (.C x p) (e::es) [] pos) (qU sp [] E0 t):=bZ G.ok (hr.mono hle) hg G.mg G.kp G.bd .nil jY ha ze he pj
def dH:bootBuiltins "isinstance"=O (.z "isinstance"):=by decide +kernel
def cI (t:Á) (H H':Hp):Prop:=∀ b o,b≠t->H b=O o->H' b=O o
def cI.refl  (H:Hp):cI t H H:=λ _ _ _ h=>h
def Đ:=@cI.refl
def cI.trans  (a:cI t H H1) (b:cI t H1 H2):cI t H H2:=λ c o hc h=>b c o hc (a c o hc h)
def aI.but  (a:aI H H'):cI t H H':=λ b o _ h=>a b o h
def cI.upd :cI t H (upd H t o):=λ b u hb h=>by rw[aK hb];show h
def Û:=@cI.upd
def cI.ts  (a:cI t H H') (hm:lX (H t)):bU K H H':=by
 intro b xs h;let ne:∀ {o:HO},H b=O o->¬ lX (O o)->b≠t:=λ e n z=>by rw[<- z,e]at hm;show n hm
 rcases h with(h|⟨o,h⟩)|h
 ·show .p (.p (a _ _ (ne h (λ z=>z)) h))
 ·show .p (.x ⟨o,a _ _ (ne h (λ z=>z)) h⟩)
 ·show .x h
def ă:=@cI.ts
def cI.free  (a:cI t H H') (hl:l≠t) (h:H' l=W):H l=none:=by
 cases q:H l with
 |none=>rfl
 |some o=>rw[a l o hl q]at h;cases h
def W8 (K:Ç):V->V->Hp->VK->Prop:=λ o i H Q=>∃(p:Á) (xs:List V) (k:Int) (v:V),o=.y p/\i=.u k/\bC K H p xs/\0<=k/\k < 2 ^ 63/\xs[k.Q]?=O v/\Q v H
def RI :YS X (W8 X.K):=by
 intro gu s σ H o i ov iv Q I ro ri h;let⟨p,xs,k,v,Y,Y,hq,h0,h1,hx,q⟩:=h;ext ro;let⟨t,Y⟩:=ri;let⟨its,r,pl,hz⟩:=I.list hq;let⟨w',ew,uw⟩:=r.get hx;show wpAny_getItem_list pl.isList h0 h1 (by simpa using ew) ⟨v,H,I,uw,q⟩
def CY {n:Nat}{k:Int} (h0:0<=k) (h1:k < n):R0 n k=O k.Q:=by
 unfold R0;rw[Å h0,Å h1]
def sO {ag:Type}{xs:List ag}{v:ag} (h0:0<=k) (h:xs[k.Q]?=O v):KU xs k=O v:=by
 let⟨j,Y⟩:=Ē h0;show hW (by simpa using h)
def Is.tupOf  (q:bH K H a xs) (l:IsL K H ds xs):Is K H (.v ds) (.y a):=by
 rw[Is];show⟨a,xs,Y,q,l⟩
def Ú:=@Is.tupOf
def Is.un  (h:Is K H (.v ds) v):∃ a xs,v=.y a/\bH K H a xs/\IsL K H ds xs:=by
 rw[Is]at h;show h
def IsL.un  (h:IsL K H (d::ds) xs):∃ x r,xs=x::r/\Is K H d x/\IsL K H ds r:=by
 rw[IsL]at h;show h
def IsL.un0  (h:IsL K H [] xs):xs=[]:=by
 rw[IsL]at h;show h
def IsL.cons  (hd:Is K H d x) (h:IsL K H ds xs):IsL K H (d::ds) (x::xs):=by
 rw[IsL];show⟨x,xs,Y,hd,h⟩
def IsL.nil :IsL K H [] []:=by rw[IsL]
theorem Is.i  (i:Int):Is K H (.u i) (.u i):=by rw[Is]
def Is.b  (i:Bool):Is K H (.bl i) (.bl i):=by rw[Is]
def Is.s  (i:Str):Is K H (.o i) (.o i):=by rw[Is]
def Is.n :Is K H .non .non:=by rw[Is]
def Is.ui {i:Int} (h:Is K H (.u i) v):v=.u i:=by rw[Is]at h;show h
def Is.ub {i:Bool} (h:Is K H (.bl i) v):v=.bl i:=by rw[Is]at h;show h
def Is.us {i:Str} (h:Is K H (.o i) v):v=.o i:=by rw[Is]at h;show h
def Is.u0  (h:Is K H .non v):v=.non:=by rw[Is]at h;show h
end L2
namespace Tw
open PySem L2
structure Vs where
 size:Int
 brim:Int
 outs:List (Option Int×Int)
 holds:Bool
 spill:Option Int
 acts:List (Str×Int)
abbrev oP:=Int×Int×Bool
structure Net where
 vs:List Vs
 sps:List oP
def VR:Option Int->D
 |none=>.non
 |some i=>.int i
def oR:Option Int->V
 |none=>.non
 |some i=>.int i
def BQ (o:Option Int×Int):D:=.v [VR o.1,.u o.2]
def DK (a:Str×Int):D:=.v [.o a.1,.u a.2]
def AH (v:Vs):D:=.v [.u v.S,.u v.brim,.v (v.outs.map BQ),.bl v.holds,VR v.spill,.v (v.acts.map DK)]
def SO (s:oP):D:=.v [.u s.1,.u s.2.1,.bl s.2.2]
def gE (n:Net):D:=.v [.v (n.vs.map AH),.v (n.sps.map SO)]
def yG (held coming:List Int) (doors:List Bool):D:=.v [.v (held.map D.int),.v (coming.map D.int),.v (doors.map D.bl)]
def Is.tg  (h:Is K H (VR t) v):v=oR t:=by
 cases t with
 |none=>show h.u0
 |some i=>show h.ui
def Is.tgOf  (t:Option Int):Is K H (VR t) (oR t):=by
 cases t with
 |none=>show Is.n
 |some i=>show Is.i i
structure OutOk (n:Nat) (o:Option Int×Int):Prop where
 tg:∀ t,o.1=O t->0<=t/\t < n
 lo:1<=o.2
 hi:o.2<=60
structure ActOk (m:Nat) (a:Str×Int):Prop where
 word:a.1="open" \/ a.1="shut" \/ a.1="turn"
 lo:0<=a.2
 hi:a.2 < m
structure VOk (n m:Nat) (v:Vs):Prop where
 size:1<=v.S
 ne:v.outs≠[]
 o3:v.outs.Z<=3
 outs:∀ o∈v.outs,OutOk n o
 spill:∀ t,v.spill=O t->0<=t/\t < n
 a3:v.acts.Z<=3
 acts:∀ a∈v.acts,ActOk m a
structure NetOk (net:Net):Prop where
 lo:1<=net.vs.Z
 hi:net.vs.Z<=12
 sp:net.sps.Z<=12
 vs:∀ v∈net.vs,VOk net.vs.length net.sps.length v
 sps:∀ s∈net.sps,0<=s.1/\s.1 < net.vs.Z
def whole (outs:List (Option Int×Int)):Int:=(outs.map (·.2)).sum
def sS :∀ {outs:List (Option Int×Int)},outs≠[]->(∀ o∈outs,OutOk n o)->1<=whole outs
 |[],h,_=>absurd rfl h
 |o::r,_,h=>by
  let h1:=(h o è).lo;let h2:0<=whole r:=by
   clear h1;let:∀(r:List (Option Int×Int)),(∀ o∈r,OutOk n o)->0<=whole r:=by
    intro r
    induction r with
    |nil=>intro _;show û _
    |cons o r ih=>
     intro h;let h1:=(h o è).lo;let h2:=ih λ o ho=>h o (Õ _ ho);change 0<=o.2+whole r;lia
   show this r λ o ho=>h o (Õ _ ho)
  change 1<=o.2+whole r;lia
theorem DQ :∀ {outs:List (Option Int×Int)},(∀ o∈outs,OutOk n o)->whole outs<=60 * outs.Z
 |[],_=>û _
 |o::r,h=>by
  let h1:=(h o è).hi;let h2:=DQ λ o ho=>h o (Õ _ ho);change o.2+whole r<=_;rw[æ];lia
def dW (k:Option Int):List (Option Int×Int)->Int
 |[]=>0
 |g::r=>(if g.1=k then g.2 else 0)+dW k r
theorem pI (k:Option Int):∀(a b:List (Option Int×Int)),dW k (a++b)=dW k a+dW k b
 |[],b=>by simp[dW]
 |g::r,b=>by
  change(if g.1=k then g.2 else 0)+dW k (r++b)=(if g.1=k then g.2 else 0)+dW k r+dW k b;rw[pI k r b];lia
def dC (v:Vs) (has:Int):Int:=min has v.brim
def qT (v:Vs) (has:Int):Bool:=decide (v.S<=dC v has)
def mD (v:Vs) (here:Int):List (Option Int×Int):=v.outs.map λ o=>(o.1,here / whole v.outs * o.2)
def iA (v:Vs) (has:Int):List (Option Int×Int):=
 (v.spill,has - dC v has)::(if qT v has=EA then mD v (dC v has)++(if v.holds=EA then[]else[(W,dC v has % whole v.outs)])else[])
def jK (v:Vs) (has:Int):Int:=if qT v has=EA then(if v.holds=EA then dC v has % whole v.outs else 0)else dC v has
def LL  (ok:VOk n m v) (has:Int):(iA v has).length<=5:=by
 unfold iA mD;let:=ok.o3
 split
 ·split <;> simp <;> lia
 ·simp
def oK (has:List Int) (s:oP) (d:Bool):List Int:=if d=EA then has.set s.1.toNat (has.getD s.1.toNat 0+s.2.1)else has
def hV:List Int->List oP->List Bool->List Int
 |has,s::ss,d::ds=>hV (oK has s d) ss ds
 |has,_,_=>has
def kH:List Int->List Int->List Int->List Int
 |a::as,b::bs,c::cs=>(a+b+c)::kH as bs cs
 |_,_,_=>[]
def cG (net:Net) (held coming poured:List Int) (doors:List Bool):List Int:=hV (kH held coming poured) net.sps doors
def eP:List Vs->List Int->List (Option Int×Int)
 |v::vs,h::hs=>iA v h++eP vs hs
 |_,_=>[]
def fB:List Vs->List Int->List Int
 |v::vs,h::hs=>jK v h::fB vs hs
 |_,_=>[]
def gH:Nat->List Vs->List Int->List Nat
 |i,v::vs,h::hs=>if qT v h=EA then i::gH (i+1) vs hs else gH (i+1) vs hs
 |_,_,_=>[]
def NG (doors:List Bool) (a:Str×Int):List Bool:=doors.set a.2.toNat (if a.1="open" then EA else if a.1="turn" then !(doors.getD a.2.toNat JJ)else JJ)
def iQ (doors:List Bool) (as:List (Str×Int)):List Bool:=as.foldl NG doors
def eU (vs:List Vs) (doors:List Bool) (tip:List Nat):List Bool:=tip.foldl (λ ds i=>match vs[i]? with|some v=>iQ ds v.acts|none=>ds) doors
def eT (n:Nat) (Ol:List (Option Int×Int)):List Int:=(List.range n).map λ(k:Nat)=>dW (O (k:Int)) Ol
structure Tick where
 held:List Int
 coming:List Int
 doors:List Bool
 tip:List Nat
 ground:Int
def l7 (net:Net) (held coming poured:List Int) (doors:List Bool):Tick:=
 let hs:=cG net held coming poured doors
 ⟨fB net.vs hs,eT net.vs.length (eP net.vs hs),eU net.vs doors (gH 0 net.vs hs),gH 0 net.vs hs,dW W (eP net.vs hs)⟩
def IW (t:Tick):D:=.v [yG t.held t.coming t.doors,.v (t.tip.map λ(i:Nat)=>D.int (i:Int)),.u t.ground]
end Tw
namespace L2
open PySem PySem.Spec PyProof.Rows TwZ
section
variable {g:TG}{tc:TT}{te:TE}{fr:List (Option Nat)}{σ:St}{H1:Hp}{Q:Á->Hp->Prop}
def i9  (Pv:Á->Nat->List V->St->Hp->Prop) (hq:∀ D i ys σ H,Pv D i ys σ H->bH K H a xs)
  (h0:∀ D,H1 D=W->Pv D 0 [] (KK fr σ) (upd H1 D (.j []))) (kj:∀ D ys ac H',Pv D xs.length ys ac H'->Q D H')
  (sf:∀ D i x ys ac H',xs[i]?=O x->Pv D i ys ac H'->g x ac H' λ aq H3=>tc aq H3 λ b H4=>
    if b=EA then te aq H4 λ y H5=>H5 D=O (.j ys)/\ys.Z < sizeLine/\Pv D (i+1) (ys++[y]) aq (upd H5 D (.j (ys++[y])))
    else Pv D (i+1) ys aq H4):lA (VP K a) g tc te fr σ H1 Q:=by
 show xT (n:=xs.Z) Pv h0 (λ D ys ac H' p=>⟨⟨xs,hq D _ ys ac H' p,Í _⟩,kj D ys ac H' p⟩) λ D i ys ac H' hi p=>⟨⟨xs,xs[i],hq D _ ys ac H' p,by simp[hi]⟩,λ x H2 y=>?_⟩;let⟨e,y⟩:=y;subst e;show sf D i x ys ac _ (y xs (hq D _ ys ac _ p)) p
def oX  (Pv:Á->Nat->List V->St->Hp->Prop) (hq:∀ D i ys σ H,Pv D i ys σ H->bC K H a xs)
  (h0:∀ D,H1 D=W->Pv D 0 [] (KK fr σ) (upd H1 D (.j []))) (kj:∀ D ys ac H',Pv D xs.length ys ac H'->Q D H')
  (sf:∀ D i x ys ac H',xs[i]?=O x->Pv D i ys ac H'->g x ac H' λ aq H3=>tc aq H3 λ b H4=>
    if b=EA then te aq H4 λ y H5=>H5 D=O (.j ys)/\ys.Z < sizeLine/\Pv D (i+1) (ys++[y]) aq (upd H5 D (.j (ys++[y])))
    else Pv D (i+1) ys aq H4):lA (WS K a) g tc te fr σ H1 Q:=by
 show xT (n:=xs.Z) Pv h0 (λ D ys ac H' p=>⟨⟨xs,hq D _ ys ac H' p,Í _⟩,kj D ys ac H' p⟩) λ D i ys ac H' hi p=>⟨⟨xs,xs[i],hq D _ ys ac H' p,by simp[hi]⟩,λ x H2 y=>?_⟩;let⟨e,y⟩:=y;subst e;show sf D i x ys ac _ (y xs (hq D _ ys ac _ p)) p
def xS  (Pv:Á->Nat->List V->St->Hp->Prop)
  (h0:∀ D,H1 D=W->Pv D 0 [] (KK fr σ) (upd H1 D (.j []))) (kj:∀ D ys ac H',Pv D n ys ac H'->Q D H')
  (sf:∀ D i ys ac H',i < n->Pv D i ys ac H'->g (.u (i:Int)) ac H' λ aq H3=>tc aq H3 λ b H4=>
    if b=EA then te aq H4 λ y H5=>H5 D=O (.j ys)/\ys.Z < sizeLine/\Pv D (i+1) (ys++[y]) aq (upd H5 D (.j (ys++[y])))
    else Pv D (i+1) ys aq H4):lA (ST 0 n) g tc te fr σ H1 Q:=by
 show xT (n:=n) Pv h0 (λ D ys ac H' p=>⟨Í _,kj D ys ac H' p⟩) λ D i ys ac H' hi p=>⟨hi,λ x H2 y=>?_⟩;let⟨e,y⟩:=y;subst e y;rw[Ż];show sf D i ys ac _ hi p
def V5  (h1:xs.Z=n) (h2:ys.Z=n) (h3:zs.Z=n) (Pv:Á->Nat->List V->St->Hp->Prop)
  (hq:∀ D i r σ H,Pv D i r σ H->kD K H t1 a1 xs/\kD K H t2 a2 ys/\kD K H t3 a3 zs)
  (h0:∀ D,H1 D=W->Pv D 0 [] (KK fr σ) (upd H1 D (.j []))) (kj:∀ D r ac H',Pv D n r ac H'->Q D H')
  (sf:∀ D i x y z r ac H' T,xs[i]?=O x->ys[i]?=O y->zs[i]?=O z->Pv D i r ac H'->H' T=W->g (.y T) ac (upd H' T (.v [x,y,z])) λ aq H3=>tc aq H3 λ b H4=>
    if b=EA then te aq H4 λ y H5=>H5 D=O (.j r)/\r.Z < sizeLine/\Pv D (i+1) (r++[y]) aq (upd H5 D (.j (r++[y])))
    else Pv D (i+1) r aq H4):lA (YU K t1 t2 t3 a1 a2 a3) g tc te fr σ H1 Q:=by
 show xT (n:=n) Pv h0 (λ D r ac H' p=>?_) λ D i r ac H' hi p=>?_
 ·let⟨q1,q2,q3⟩:=hq D _ r ac H' p;show⟨⟨xs,ys,zs,q1,q2,q3,.p JM⟩,kj D r ac H' p⟩
 ·let⟨q1,q2,q3⟩:=hq D _ r ac H' p;show⟨⟨xs,ys,zs,xs[i]'JM,ys[i]'JM,zs[i]'JM,q1,q2,q3,JN,JN,JN⟩,?_⟩;rintro v H2 zQ;let⟨T,x,y,z,hT,Y,e1,e2,e3,Y⟩:=zQ;show sf D i x y z r ac H' T (e1 xs q1) (e2 ys q2) (e3 zs q3) p hT
end
section
variable {g:TG}{tb:TS}{D:Ends}{σ:St}{H:Hp}
abbrev LD (J:It) (g:TG) (tb:TS) (D:Ends) (σ:St) (H:Hp):Prop:=
 ∃ E9:Nat->Nat->St->Hp->Prop,(∃ m,E9 0 m σ H)/\∀ i m σ H,E9 i m σ H->
   (J.stop i H/\D.nx σ H)\/(J.go i H/\∃ N:St->Hp->Prop,(∀ ac H',N ac H'->∃ m',m' < m/\E9 (i+1) m' ac H')/\∀ x H',J.yld i H x H'->g x σ H' λ ba H2=>tb { D with nx:=N,ct:=N,bk:=D.nx } ba H2)
def RK  (h1:xs.Z=n) (h2:ys.Z=n) (Pv:Nat->St->Hp->Prop) (hq:∀ i σ H,Pv i σ H->kD K H t1 a1 xs/\kD K H t2 a2 ys)
  (h0:Pv 0 σ H) (kj:∀ σ H,Pv n σ H->D.nx σ H)
  (sf:∀ i x y σ H T,xs[i]?=O x->ys[i]?=O y->Pv i σ H->H T=W->g (.y T) σ (upd H T (.v [x,y])) λ ba H2=>tb { D with nx:=Pv (i+1),ct:=Pv (i+1),bk:=D.nx } ba H2):LD (VO K t1 t2 a1 a2) g tb D σ H:=by
 show KL (n:=n) Pv h0 (λ σ H p=>?_) λ i σ H hi p=>?_
 ·let⟨q1,q2⟩:=hq _ σ H p;show⟨⟨xs,ys,q1,q2,.p JM⟩,kj σ H p⟩
 ·let⟨q1,q2⟩:=hq _ σ H p;show⟨⟨xs,ys,xs[i]'JM,ys[i]'JM,q1,q2,JN,JN⟩,?_⟩;rintro v H2 zQ;let⟨T,x,y,hT,Y,e1,e2,Y⟩:=zQ;show sf i x y σ H T (e1 xs q1) (e2 ys q2) p hT
def FW  (Pv:Nat->St->Hp->Prop) (hq:∀ i σ H,Pv i σ H->kD K H t a xs)
  (h0:Pv 0 σ H) (kj:∀ σ H,Pv xs.length σ H->D.nx σ H)
  (sf:∀ i x σ H T,xs[i]?=O x->Pv i σ H->H T=W->g (.y T) σ (upd H T (.v [.u (i:Int),x])) λ ba H2=>tb { D with nx:=Pv (i+1),ct:=Pv (i+1),bk:=D.nx } ba H2):LD (Ite K t a) g tb D σ H:=by
 show KL (n:=xs.Z) Pv h0 (λ σ H p=>?_) λ i σ H hi p=>?_
 ·show⟨⟨xs,hq _ σ H p,Í _⟩,kj σ H p⟩
 ·show⟨⟨xs,xs[i],hq _ σ H p,by simp[hi]⟩,?_⟩;rintro v H2 zQ;let⟨T,x,hT,Y,e1,Y⟩:=zQ;show sf i x σ H T (e1 xs (hq _ σ H p)) p hT
end
def GI {A B:Hp->Prop} (h:A H):GN σ H λ b H4=>if b=EA then A H4 else B H4:=by
 change if EA=EA then A H else B H
 rw[Å rfl];show h
def gN {A B:St->Hp->Prop} (h:A (σ.set i (O v)) H):cZ i v σ H λ aq H3=>GN aq H3 λ b H4=>if b=EA then A aq H4 else B aq H4:=GI (σ:=σ.set i (O v)) (A:=A (σ.set i (O v))) (B:=B (σ.set i (O v))) h
def aI.put  (a:aI H H') (h:H p=W):aI H (upd H' p o):=λ b u e=>by rw[aK (aM e h)];show a b u e
def bU.put  (a:bU K H H') (h:H' p=W\/lX (H' p)):bU K H (upd H' p o):=a.trans (by
 rcases h with h|h
 ·show(È h).ts
 ·show ă Û h)
def WT (i j:Int):Prop:=0 < j/\j < 2 ^ 200
def PR :jJ X (binaryOp .FloorDiv) (rI WT λ i j=>.int (i / j)):=opI λ i j _ _ _ _ _ hc q=>by
 let h1:(0:Int) < j:=hc.1;let h2:j < 2 ^ 200:=hc.2;show floordiv_int JM (by rw[aft i JM];show q) (.p (PyProof.noPylong_of_log2 ?_));let h0:j.natAbs≠0:=by lia
 let h3:j.natAbs < 2 ^ 200:=by lia
 let:=(Nat.log2_lt h0).mpr h3;lia
def j7:bootBuiltins "int"=O (.q "int"):=by decide +kernel
def dY:bootBuiltins "tuple"=O (.q "tuple"):=by decide +kernel
def sM:bootBuiltins "list"=O (.q "list"):=by decide +kernel
def vG:bootBuiltins "bool"=O (.q "bool"):=by decide +kernel
section
variable {X:Cx}{tg:Expr}{pos:Pos}
def aV {es:List Expr}{k:Nat}{t:L8}{n:Nat} (hK:X.K=K) (hc:X.calm=EA) (h:SS X es t)
  (hn:autoParam ((assignEach es X.env).length=n) _0) (rj:autoParam ((assignEach es X.env).findIdx? (·.1)=none) _0):PG X (.rq es k pos) (gTup K n t):=by
 subst hK;show XR hc h hn rj
def V8 (hK:X.K=K):NK X (HE K):=by subst hK;show YA
def TM (K:Ç):List V->Hp->VK->Prop:=λ xs H Q=>∃ p ys,xs=[.y p]/\(bC K H p ys\/bH K H p ys)/\Q (.u ys.Z) H
def N4 (hK:X.K=K):fU X (.z "len") (TM K):=by subst hK;show DB
def lU (hK:X.K=K) (hc:X.calm=EA):fU X (.z "sum") (ZM K):=by subst hK;show N2 hc
def oZ (hK:X.K=K) (hc:X.calm=EA):fU X (.z "all") (ZZ K):=by subst hK;show N8 hc
def j6 (hK:X.K=K):fU X (.z "isinstance") (ZU K):=by subst hK;show S6
def XH (K:Ç):List V->Hp->VK->Prop:=λ xs H Q=>∃ p ys,xs=[.y p]/\((bC K H p ys/\∀ l,H l=W->Q (.y l) (upd H l (.v ys)))\/(bH K H p ys/\Q (.y p) H))
def dU (hK:X.K=K):fU X (.q "tuple") (XH K):=by subst hK;show yU
def XL (K:Ç):List V->Hp->VK->Prop:=λ xs H Q=>∃ p ys,xs=[.y p]/\(bC K H p ys\/bH K H p ys)/\∀ l,H l=W->Q (.y l) (upd H l (.j ys))
def lV (hK:X.K=K):fU X (.q "list") (XL K):=by subst hK;show DA
def gA  (hK:X.K=K) (hl:PE X l tl):PI X tg l (R5 K tl):=by subst hK;show U3 hl
def dR  (hK:X.K=K) (hl:PE X l tl):PI X tg l (YD K tl):=by subst hK;show XQ hl
def EK  (hK:X.K=K) (hg:Gl X "enumerate") (hm:X.mg "enumerate" =W) (ha:PA X [a] ta) (hs:autoParam (starEach [a] X.env=[(JJ,eval a X.env)]) _0):PI X tg (.rj (.C "enumerate" p) [a] [] pos) (WG K ta):=by
 subst hK;show U4 hg hm ha hs
def EJ {p:Pos} (hK:X.K=K) (hg:Gl X "zip") (hm:X.mg "zip" =W) (ha:PA X [a,b] ta) (hs:autoParam (starEach [a,b] X.env=[(JJ,eval a X.env),(JJ,eval b X.env)]) _0) (yb:autoParam (starEach [b] X.env=[(JJ,eval b X.env)]) _0) :
  PI X tg (.rj (.C "zip" p) [a,b] [] pos) (WF K ta):=by subst hK;show U2 hg hm ha hs yb
def P4 {p:Pos} (hK:X.K=K) (hg:Gl X "zip") (hm:X.mg "zip" =W) (ha:PA X [a,b,c] ta) (hs:autoParam (starEach [a,b,c] X.env=[(JJ,eval a X.env),(JJ,eval b X.env),(JJ,eval c X.env)]) _0)
  (yb:autoParam (starEach [b,c] X.env=[(JJ,eval b X.env),(JJ,eval c X.env)]) _0):PI X tg (.rj (.C "zip" p) [a,b,c] [] pos) (WE K ta):=by subst hK;show U0 hg hm ha hs yb
def PL (hK:X.K=K):jJ X (binaryOp .Mult) (W4 K):=by subst hK;show JY
def HM (hK:X.K=K) (hu:X.A.R+64 < cLine):jJ X (compareOp .NotEq) (BE K):=by subst hK;show M4 hu
def A3 (hK:X.K=K):YS X (W8 K):=by subst hK;show RI
def eF {o e:Expr}{es:List Expr}{to:TE}{t:TA}{name:Str}{apos ji:Pos}{T id:String}{r:V->List V->Hp->VK->Prop} (hK:X.K=K)
  (pa:PlainAttrs T) (slot:Slot T name id) (zg:typeOf (.z id)=pure (.q "method_descriptor")) (hm:NJ X id r) (ho:PE X o to) (ha:PA X (e::es) t)
  (my:autoParam (attributeBase o name X.env (eval o X.env)=eval o X.env) _0)
  (zh:autoParam (((backTo ji (starEach (e::es) X.env)).all (λ x=>!x.1) && (backToKw ji (keywordEach [] X.env)).all (λ x=>x.1.isSome)
   && decide ((e::es).length+([]:List Keyword).length+(if ([]:List Keyword).isEmpty then 0 else 1) < 30))=true) _0)
  (mz:autoParam ((apos.endLine==ji.line)=true) _0) (hs:autoParam (starEach (e::es) X.env=(JJ,eval e X.env)::starEach es X.env) _0) (ny:autoParam ((backTo ji (starEach es X.env)).any (·.1)=false) _0) :
  PE X (.rj (.E o name apos) (e::es) [] ji) (tBM K T r to t):=by subst hK;show WA pa slot zg hm ho ha my zh mz hs ny
end
section
variable {X:Cx}{pos p:Pos}
def pL (i:Nat){pos':Pos} (hN:X.N.Nodup) (he:PE X e te) (hi:autoParam (X.N[i]?=O x) _0) (hx:autoParam (WR X.env.scope x) _A) (hs:autoParam (swapsWith e (O (.C x pos')) pos.line X.env=pure false) _0) (hf:autoParam (X.fn x=EA\/X.env.scope.names.lookup x=O .local) _4) :
  PS X (.Assign [.C x pos'] e pos) (pD te (cZ i)):=wQ hN hi hx he hs hf
def gL (i:Nat) (hN:X.N.Nodup) (hi:autoParam (X.N[i]?=O x) _0) (hx:autoParam (WR X.env.scope x) _A) (hf:autoParam (X.fn x=EA\/X.env.scope.names.lookup x=O .local) _4):PG X (.C x pos) (cZ i):=mK hN hi hx hf
def gC (i:Nat) (N:List Str) {x:Str} (hN:N.Nodup:=by decide +kernel) (e:autoParam (X.N=N) _0) (hi:autoParam (N[i]?=O x) _0) (hx:autoParam (WR X.env.scope x) _A) (hf:X.fn x=EA\/X.env.scope.names.lookup x=O .local:=by with_unfolding_all show Or.inr Y):PG X (.C x pos) (cZ i):=mK (by rw[e];show hN) (by rw[e];show hi) hx hf
def px (K:Ç) (ha:PE X a ta) (hb:PE X b tb) (hK:autoParam (X.K=K) _0) (hs:LA b:=by with_unfolding_all show λ _ _=>Y):PE X (.Y a b pos) (lC (HE K) ta tb):=P8 (V8 hK) ha hb hs
def zU (K:Ç) (hm:X.mg "len" =W) (ha:PE X a ta) (hK:autoParam (X.K=K) _0) (hg:Gl X "len" := by with_unfolding_all rfl) (hs:autoParam (starEach [a] X.env=[(JJ,eval a X.env)]) _0):PE X (.rj (.C "len" p) [a] [] pos) (SN (TM K) (dJ ta jC)):=
 bJ (N4 hK) hg hm PySem.boot_len (a9 ha aB hs) JL JL hs rfl
end
end L2
namespace Tw
open PySem L2
def mQ {g:TG}{tb:TS}{D:Ends}{σ:St}{H:Hp} (Pv:Nat->St->Hp->Prop) (h0:Pv 0 σ H)
  (hs:∀(E:Ends) i,E.rt=D.rt->(∀ σ H,Pv (i+1) σ H->E.nx σ H)->∀ σ H,i < n->Pv i σ H->g (.u (lo+i)) σ H λ ba H2=>tb E ba H2) (hd:∀ σ H,Pv n σ H->D.nx σ H) :
  ∃ E9:Nat->Nat->St->Hp->Prop,(∃ m,E9 0 m σ H)/\∀ i m σ H,E9 i m σ H->
   ((ST lo n).stop i H/\D.nx σ H)\/((ST lo n).go i H/\∃ N:St->Hp->Prop,(∀ ac H',N ac H'->∃ m',m' < m/\E9 (i+1) m' ac H')/\∀ x H',(ST lo n).yld i H x H'->g x σ H' λ ba H2=>tb { D with nx:=N,ct:=N,bk:=D.nx } ba H2):=
 jT Pv h0 (λ i σ H hi p=>hs { D with nx:=Pv (i+1),ct:=Pv (i+1),bk:=D.nx } i rfl (λ _ _ q=>q) σ H hi p) hd
def RL {g:TG}{tb:TS}{D:Ends}{σ:St}{H:Hp} (Pv:Nat->St->Hp->Prop) (h0:Pv 0 σ H) (hl:∀ i σ H,i<=xs.Z->Pv i σ H->bH K H a xs)
  (hs:∀(E:Ends) i,E.rt=D.rt->(∀ σ H,Pv (i+1) σ H->E.nx σ H)->∀ x σ H,xs[i]?=O x->Pv i σ H->g x σ H λ ba H2=>tb E ba H2) (hd:∀ σ H,Pv xs.length σ H->D.nx σ H) :
  ∃ E9:Nat->Nat->St->Hp->Prop,(∃ m,E9 0 m σ H)/\∀ i m σ H,E9 i m σ H->
   ((VP K a).stop i H/\D.nx σ H)\/((VP K a).go i H/\∃ N:St->Hp->Prop,(∀ ac H',N ac H'->∃ m',m' < m/\E9 (i+1) m' ac H')/\∀ x H',(VP K a).yld i H x H'->g x σ H' λ ba H2=>tb { D with nx:=N,ct:=N,bk:=D.nx } ba H2):=
 oY Pv h0 hl (λ i x σ H hi p=>hs { D with nx:=Pv (i+1),ct:=Pv (i+1),bk:=D.nx } i rfl (λ _ _ q=>q) x σ H hi p) hd
def aX (i:Nat):Stmt:=PySem.Challenge.pw_tipwell_k32_whole_desks_of_all_rows.main.body.getD i (.Pass ⟨0,0,0,0⟩)
structure Txt (mg:Str->Option À):Prop where
 b_len:mg "len" =W
 b_sum:mg "sum" =W
 b_all:mg "all" =W
 b_max:mg "max" =W
 b_min:mg "min" =W
 b_int:mg "int" =W
 b_tuple:mg "tuple" =W
 b_list:mg "list" =W
 b_bool:mg "bool" =W
 b_range:mg "range" =W
 b_zip:mg "zip" =W
 b_enumerate:mg "enumerate" =W
 b_isinstance:mg "isinstance" =W
 b_divmod:mg "divmod" =W
 b_set:mg "set" =W
 b_sorted:mg "sorted" =W
def sF:Option Int->gS
 |none=>.inr W
 |some i=>.inl i
def QX (k:Option Int):kV (sF k)=oR k:=by ext k <;> rfl
def QW  (h:sF a=sF b):a=b:=by
 ext a <;> ext b <;> simp_all [sF]
def nC (H:Hp) (d:Á) (gs:List (Option Int×Int)):Prop:=
 ∃ ii:List (gS×V),H d=O (.dK ii)/\ii.Z<=gs.Z/\∀ k:Option Int,(dQ ii (sF k)).getD (.u 0)=.u (dW k gs)
def nC.mut  (h:nC H d gs):lX (H d):=by
 let⟨ii,e,_⟩:=h;rw[e];show trivial
def GX:Sp:=λ vs H Q _=>∃(d:Á) (t:Option Int) (a:Int) (gs:List (Option Int×Int)),vs=[.y d,oR t,.u a]/\nC H d gs/\gs.Z<=1000/\
 ∀ H',cI d H H'->nC H' d (gs++[(t,a)])->Q .non H'
def UJ (F:Fun K "send" "send" (aX 18) f fd) (T:Txt mg):FnOk P w K mg base gT 1 f fd ["sent","target","amount"] GX:=by
 show F.ok ["sent","target","amount"] λ sc ir A outer s H vs Q E hr h=>?_
 ·let⟨d,t,a,gs,Y,⟨ii,hd,hl,hv⟩,hg,k⟩:=h;let hu:=WH hr;show⟨_,(aG (TW hu (pv 0) (pv 1) (bA dM (wV hu (pv 0) (pv 1) aH ⟨Y,Y,Y,Y⟩) (pv 2)) Y)),?_⟩;let Ht:=IS.k (k:=sF t) hd;rw[QX]at Ht;let Hu:=SK.k (k:=sF t) (v:=V.int (dW t gs+a)) hd (bB JM);rw[QX]at Hu;show⟨_,Y,d,Y,.p ⟨ii,.p hd⟩,_,Y,dQ ii (sF t),Ht,_,Y,_,_,hv t,Y,_,Y,_,Y,d,_,Y,Hu,?_⟩;show k _ Û ⟨_,aD,?_,λ k'=>?_⟩
  ·let:=iC ii (sF t) (V.int (dW t gs+a));rw[Ý];simp;lia
  ·rw[vK,pI]
   by_cases e:k'=t
   ·subst e;rw[Å rfl];change V.int _=V.int _;simp[dW]
   ·rw[Ä (λ z=>e (QW z)),hv k'];let:¬ t=k':=λ z=>e z.symm;simp[dW,this]
def cS {ag:Type}{xs:List ag}{x:ag} (h:xs[i]?=O x):xs.take (i+1)=xs.take i++[x]:=by
 rw[Ħ,h];rfl
def rT {outs:List (Option Int×Int)}{i:Nat} (l:IsL K H (outs.map BQ) xs) (h:xs[i]?=O x) :
  ∃ o,outs[i]?=O o/\∃ a,x=.y a/\bH K H a [oR o.1,.u o.2]:=by
 let⟨d,hd,hx⟩:=l.get' h;rw[Ö]at hd;cases e:outs[i]? with
 |none=>rw[e]at hd;cases hd
 |some o=>
  rw[e]at hd;ext hd;show(bO o Y ?_);let⟨a,ys,Y,q,l⟩:=(show Is K H (.v [VR o.1,.u o.2]) x from hx).un;let⟨y,r,Y,hy,l⟩:=l.un;let⟨z,r,Y,hz,l⟩:=l.un;let:=l.un0;subst this;rw[Is.tg hy,hz.ui]at q;show(bO a Y q)
def J0 (K:Ç):Sp:=λ vs H Q _=>∃(o d:Á) (has:Int) (outs gs:List (Option Int×Int)) (n:Nat),vs=[.y o,.u has,.y d]/\Is K H (.v (outs.map BQ)) (.y o)/\nC H d gs/\gs.Z+3<=1000/\
 outs≠[]/\outs.Z<=3/\(∀ x∈outs,OutOk n x)/\∀ H',cI d H H'->nC H' d (gs++outs.map λ x=>(x.1,has / whole outs * x.2))->Q (.u (has % whole outs)) H'
def BT (F:Fun K "share_out" "share_out" (aX 17) f fd) (T:Txt mg) (ua:Callee P w K mg base "send" ["sent","target","amount"] 1 GX fS Dh):FnOk P w K mg base gT 2 f fd ["outs","has","sent"] (J0 K):=by
 show F.ok ["outs","has","sent","whole","times","target","parts"] λ sc ir A outer s H vs Q E hr h=>?_
 ·let⟨o,d,has,outs,gs,n,Y,ho,hd,hg,uq,h3,hok,k⟩:=h;show⟨_,(aE (pL 3 sc.nd (bJ (lU (K:=K) Y Y) Y T.b_sum Œ (a9 (hJ (λ _ _ h=>h) Y (LcOk.mk (N':=["target","parts"]) (fr:=[W,W]) Y trivial Y Y Y Y Y trivial) (dR (K:=K) Y (pv 0)) (λ _ _ _=>(aV (K:=K) (n:=2) Y Y (aF (gC 0 ["target","parts"]) (aF (gC 1 ["target","parts"]) aQ)))) (λ _ _ _=>cP) (λ _ _ _=>(pv 1))) aB)))
   (aE (pL 4 sc.nd (bA mM (pv 1) (bJ (AA Y) Y T.b_max PyProof.Rows.boot_max (a9 aH (a9 (pv 3) aB)))))
   (aE (eE ú Y (dR (K:=K) Y (pv 0)) (aV (K:=K) (n:=2) Y Y (aF (gL 5 sc.nd) (aF (gL 6 sc.nd) aQ))) (aG (bL (cD ua hr (a9 (pv 2) (a9 (pv 5) (a9 (bA qG (pv 6) (pv 4)) aB)))))))
   (aG (aO (bA iM (pv 1) (bA qG (pv 3) (pv 4)))))))),?_⟩
  let hw1:=sS uq hok;let yn:=DQ hok;let⟨o',xs,e,hq,hl⟩:=ho.un;ext e;let Hv:xs.Z=outs.Z:=by rw[hl.Z,Ê]
  show⟨_,Y,o,Y,⟨_,hq⟩,i9 (K:=K) (a:=o) (xs:=xs) (λ D i ys ac H'=>H D=W/\aI H H'/\H' D=O (.j ys)/\ys=(outs.take i).map (λ x=>V.int x.2)/\∃ x y,ac=[x,y])
   (λ D i ys ac H' p=>p.2.1.tup hq) (λ D hD=>⟨hD,È hD,aD,JN,W,W,Y⟩) ?_ ?_⟩
  rotate_left
  ·rintro D i x ys ac H' hx zQ;let⟨hD,sm,jc,Y,v1,v2,Y⟩:=zQ;let⟨ot,Ax,a,Y,qa⟩:=rT hl hx;let we:=(à.mp Ax).1;show(eO a _ Y ⟨sm.tup qa,Y,(eO _ _ Y (eO _ _ Y ⟨Y,?_⟩))⟩);show GI ⟨_,Y,jc,bB (by simp;lia),hD,sm.put hD,aD,?_,_,_,Y⟩;rw[cS Ax];simp
  ·rintro D ys ac H1 zQ;let⟨hD,sm,jc,Y,_⟩:=zQ;rw[Hv,ý] at jc;show⟨JJ,D,outs.map (·.2),Y,É (by rw[đ];show jc),?_⟩;show(bO _ Y (bO _ Y (eO _ _ Y (eO _ _ Y ⟨Y,?_,?_⟩))))
   ·change 0 < (if whole outs > 1 then whole outs else 1)/\(if whole outs > 1 then whole outs else 1) < 1073741824
    split <;> lia
   let hm:(if whole outs > 1 then whole outs else 1)=whole outs:=by split <;> lia
   change jG _ _ _ [O (V.ref o),O (V.int has),O (V.ref d),O (V.int (whole outs)),O (V.int (has / (if whole outs > 1 then whole outs else 1))),W,W] _;rw[hm];let Om:nC H1 d gs:=by let⟨ii,e,r⟩:=hd;show⟨ii,sm _ _ e,r⟩
   let Hw:bU K H H1:=sm.ts;show⟨_,Y,o,Y,⟨_,sm.tup hq⟩,RL (K:=K) (a:=o) (xs:=xs) (λ i ac H'=>cI d H1 H'/\nC H' d (gs++(outs.take i).map λ x=>(x.1,has / whole outs * x.2))/\
    ∃ x y,ac=[O (V.ref o),O (V.int has),O (V.ref d),O (V.int (whole outs)),O (V.int (has / whole outs)),x,y]) ⟨Đ _,by simpa using Om,W,W,Y⟩
    (λ i ac H' _ p=>(p.1.ts Om.mut) _ _ (sm.tup hq)) ?_ ?_⟩
   ·rintro DD i - Ak x ac H2 hx ⟨bt,dg,v1,v2,rfl⟩;let⟨ot,Ax,a,Y,qa⟩:=rT hl hx;let we:=(à.mp Ax).1;let Uj:=hok ot (Ô Ax);show(eO a _ Y ⟨(bt.ts Om.mut) _ _ (sm.tup qa),Y,(eO _ _ Y (eO _ _ Y ⟨Y,?_⟩))⟩);show⟨_,Y,_,Y,_,Y,_,Y,_,_,Y,Y,.p ⟨by let:=Uj.lo;lia,by let:=Uj.hi;lia⟩,d,ot.1,ot.2 * (has / whole outs),_,Y,dg,by simp;lia,λ H' bt' Uk=>?_⟩;show Ak _ _ ⟨bt.trans bt',?_,_,_,Y⟩;rw[cS Ax,Ñ,<- İ];rw[Int.mul_comm]at Uk;show Uk
   ·rintro ac H2 zQ;let⟨bt,dg,v1,v2,Y⟩:=zQ;rw[Hv,ý]at dg;show(bO _ Y (bO _ Y (bO _ Y (eO _ _ Y ⟨Y,.p ⟨JM,JM⟩,(eO _ _ Y ⟨Y,?_⟩)⟩))));let e:has - whole outs * (has / whole outs)=has % whole outs:=by
     let:=Int.emod_add_mul_ediv has (whole outs);lia
    change Q (V.int (has - whole outs * (has / whole outs))) H2;rw[e];show k H2 (sm.but.trans bt) dg
def yW  (h:Is K H (AH v) x):∃(a:Á) (o c:V),x=.y a/\bH K H a [.u v.S,.u v.brim,o,.bl v.holds,oR v.spill,c]/\Is K H (.v (v.outs.map BQ)) o/\Is K H (.v (v.acts.map DK)) c:=by
 let⟨a,xs,Y,q,l⟩:=(show Is K H (.v [.u v.S,.u v.brim,.v (v.outs.map BQ),.bl v.holds,VR v.spill,.v (v.acts.map DK)]) x from h).un;let⟨x1,r,Y,h1,l⟩:=l.un;let⟨x2,r,Y,h2,l⟩:=l.un;let⟨x3,r,Y,h3,l⟩:=l.un;let⟨x4,r,Y,h4,l⟩:=l.un;let⟨x5,r,Y,h5,l⟩:=l.un;let⟨x6,r,Y,h6,l⟩:=l.un;let:=l.un0;subst this;rw[h1.ui,h2.ui,h4.ub,Is.tg h5]at q;show(WL a x3 x6 Y ⟨q,h3,h6⟩)
def w4 (K:Ç):Sp:=λ vs H Q _=>∃(x:V) (d:Á) (has:Int) (v:Vs) (gs:List (Option Int×Int)) (n m:Nat),vs=[x,.u has,.y d]/\Is K H (AH v) x/\nC H d gs/\gs.Z+5<=1000/\VOk n m v/\
 ∀ p H',cI d H H'->nC H' d (gs++iA v has)->bH K H' p [.u (jK v has),.bl (qT v has)]->Q (.y p) H'
def M7 (F:Fun K "settle" "settle" (aX 16) f fd) (T:Txt mg) (ua:Callee P w K mg base "send" ["sent","target","amount"] 1 GX fS Dh)
  (vd:Callee P w K mg base "share_out" ["outs","has","sent"] 2 (J0 K) fO On):FnOk P w K mg base gT 3 f fd ["vessel","has","sent"] (w4 K):=by
 show F.ok ["vessel","has","sent","size","brim","outs","holds","spill","acts","over","left"] λ sc ir A outer s H vs Q E hr h=>?_
 ·let⟨x,d,has,v,gs,n,m,Y,hx,hd,hg,ok,k⟩:=h;show⟨_,(aE (bF (pv 0) (aV (K:=K) (n:=6) Y Y (aF (gL 3 sc.nd) (aF (gL 4 sc.nd) (aF (gL 5 sc.nd) (aF (gL 6 sc.nd) (aF (gL 7 sc.nd) (aF (gL 8 sc.nd) aQ))))))))
   (aE (pL 9 sc.nd (bJ (AA Y) Y T.b_max PyProof.Rows.boot_max (a9 aH (a9 (bA iM (pv 1) (pv 4)) aB))))
   (aE (bL (cD ua hr (a9 (pv 2) (a9 (pv 7) (a9 (pv 9) aB)))))
   (aE (HF (i:=1) sc.nd Y (Or.inl Y) (pv 9) YC)
   (aE (bK (aR ER (pv 1) (pv 3) (aW _)) (aG (aO (bG (a9 (pv 1) (a9 iL aB))))) aS)
   (aE (pL 10 sc.nd (cD vd hr (a9 (pv 5) (a9 (pv 1) (a9 (pv 2) aB)))))
   (aE (bK (dI (pv 6)) (aG (aO (bG (a9 (pv 10) (a9 iL aB))))) aS)
   (aE (bL (cD ua hr (a9 (pv 2) (a9 eQ (a9 (pv 10) aB)))))
   (aG (aO (bG (a9 aH (a9 iL aB))))))))))))),?_⟩
  let⟨a,o,c,Y,q,ho,hc⟩:=yW hx;show⟨_,Y,a,_,Y,q,Y,_,_,Y,_,_,Y,_,_,Y,_,_,Y,_,_,Y,_,_,Y,Y,?_⟩;show(bO _ Y (bO _ Y (eO _ _ Y ⟨Y,(eO _ _ Y ?_)⟩)));let eo:(if has - v.brim > 0 then has - v.brim else 0)=has - dC v has:=by unfold dC;split <;> lia
  change jG _ _ _ [O (V.ref a),O (V.int has),O (V.ref d),O (V.int v.S),O (V.int v.brim),O o,O (V.bl v.holds),O (oR v.spill),O c,O (V.int (if has - v.brim > 0 then has - v.brim else 0)),W] _;rw[eo];show(bO _ Y (bO _ Y (bO _ Y ⟨d,v.spill,has - dC v has,(bO gs Y ⟨hd,JM,λ H1 b1 d1=>?_⟩)⟩)));let Di:bU K H H1:=b1.ts hd.mut;show(bO _ Y (bO _ Y (eO _ _ Y ⟨Y,?_⟩)));let eh:has - (has - dC v has)=dC v has:=by lia
  change jG _ _ _ [O (V.ref a),O (V.int (has - (has - dC v has))),O (V.ref d),O (V.int v.S),O (V.int v.brim),O o,O (V.bl v.holds),O (oR v.spill),O c,O (V.int (has - dC v has)),W] _;rw[eh];show(bO _ Y (bO _ Y (eO _ _ Y ⟨Y,(bO _ Y ?_)⟩)));show iN (λ ki=>?_) (λ Hy=>?_)
  ·let Ay:dC v has < v.S:=ð ki;let ht:qT v has=false:=ò JM;show(bO _ Y ⟨(sz0 2),λ p hp=>?_⟩);show k p _ (b1.trans (È hp).but) ?_ ?_
   ·let:iA v has=[(v.spill,has - dC v has)]:=by unfold iA;rw[ht];rfl
    rw[this];let⟨ii,e,r⟩:=d1;show⟨ii,È hp _ _ e,r⟩
   ·let:jK v has=dC v has:=by unfold jK;rw[ht];rfl
    rw[this,ht];show Ï aD
  ·let Oo:v.S<=dC v has:=by simpa using Hy
   let ht:qT v has=true:=á Oo;let⟨oa,os,Y,_,_⟩:=ho.un;show⟨_,Y,_,Y,_,Y,oa,d,dC v has,v.outs,_,n,Y,Ì Di _ _ ho,d1,by simp;lia,ok.ne,ok.o3,ok.outs,λ H2 b2 d2=>?_⟩;show(bO _ Y (bO _ Y ?_));cases hh:v.holds with
   |true=>
    show cH ?_;show(bO _ Y ⟨(sz0 2),λ p hp=>?_⟩);show k p _ (b1.trans (b2.trans (È hp).but)) ?_ ?_
    ·let:gs++iA v has=(gs++[(v.spill,has - dC v has)])++v.outs.map λ x=>(x.1,dC v has / whole v.outs * x.2):=by
      unfold iA mD;rw[ht,hh];simp
     rw[this];let⟨ii,e,r⟩:=d2;show⟨ii,È hp _ _ e,r⟩
    ·let:jK v has=dC v has % whole v.outs:=by unfold jK;rw[ht,hh];rfl
     rw[this,ht];show Ï aD
   |false=>
    show bR ?_;show⟨_,Y,_,Y,d,W,dC v has % whole v.outs,_,Y,d2,by simp;let:=ok.o3;lia,λ H3 b3 d3=>?_⟩;show⟨(sz0 2),λ p hp=>?_⟩;show k p _ (b1.trans (b2.trans (b3.trans (È hp).but))) ?_ ?_
    ·let:gs++iA v has=((gs++[(v.spill,has - dC v has)])++v.outs.map λ x=>(x.1,dC v has / whole v.outs * x.2))++[(W,dC v has % whole v.outs)]:=by
      unfold iA mD;rw[ht,hh];simp
     rw[this];let⟨ii,e,r⟩:=d3;show⟨ii,È hp _ _ e,r⟩
    ·let:jK v has=0:=by unfold jK;rw[ht,hh];rfl
     rw[this,ht];show Ï aD
def sR {acts:List (Str×Int)}{i:Nat} (l:IsL K H (acts.map DK) xs) (h:xs[i]?=O x) :
  ∃ o,acts[i]?=O o/\∃ a,x=.y a/\bH K H a [.o o.1,.u o.2]:=by
 let⟨d,hd,hx⟩:=l.get' h;rw[Ö]at hd;cases e:acts[i]? with
 |none=>rw[e]at hd;cases hd
 |some o=>
  rw[e]at hd;ext hd;show(bO o Y ?_);let⟨a,ys,Y,q,l⟩:=(show Is K H (.v [.o o.1,.u o.2]) x from hx).un;let⟨y,r,Y,hy,l⟩:=l.un;let⟨z,r,Y,hz,l⟩:=l.un;let:=l.un0;subst this;rw[hy.us,hz.ui]at q;show(bO a Y q)
def SB (ds:List Bool) (a:Str×Int):(NG ds a).length=ds.Z:=by unfold NG;simp
theorem tT:∀(as:List (Str×Int)) (ds:List Bool),(iQ ds as).length=ds.Z
 |[],ds=>rfl
 |a::as,ds=>by
  change(iQ (NG ds a) as).length=_;rw[tT as,SB]
theorem k9 (vs:List Vs):∀(tip:List Nat) (ds:List Bool),(eU vs ds tip).length=ds.Z
 |[],ds=>rfl
 |i::r,ds=>by
  change(eU vs (match vs[i]? with|some v=>iQ ds v.acts|none=>ds) r).length=_;rw[k9 vs r];cases vs[i]? with
  |none=>rfl
  |some v=>show tT _ _
def IQ (ds:List Bool) (as:List (Str×Int)) (a:Str×Int):iQ ds (as++[a])=NG (iQ ds as) a:=by
 unfold iQ;rw[ů];rfl
def FY (vs:List Vs) (ds:List Bool) (tip:List Nat) (i:Nat) (v:Vs) (h:vs[i]?=O v):eU vs ds (tip++[i])=iQ (eU vs ds tip) v.acts:=by
 unfold eU;rw[ů];change(match vs[i]? with|some v=>_|none=>_)=_;rw[h]
def AV (K:Ç):Sp:=λ args H Q _=>∃(x y:V) (t:Á) (vs:List Vs) (doors:List Bool) (tip:List Nat) (n:Nat),args=[x,y,.y t]/\Is K H (.v (vs.map AH)) x/\Is K H (.v (doors.map D.bl)) y/\
 bC K H t (tip.map λ(i:Nat)=>V.int (i:Int))/\(∀ i∈tip,i < vs.Z)/\(∀ v∈vs,VOk n doors.length v)/\doors.Z<=12/\
 ∀ p H',aI H H'->Is K H' (.v ((eU vs doors tip).map D.bl)) p->Q p H'
def uQ (F:Fun K "doors_behind" "doors_behind" (aX 19) f fd) (T:Txt mg):FnOk P w K mg base gT 1 f fd ["vessels","doors","tipped"] (AV K):=by
 show F.ok ["vessels","doors","tipped","behind","number","size","brim","outs","holds","spill","acts","word","spout"] λ sc ir A outer s H vs Q E hr h=>?_
 ·let⟨x,y,t,vs,doors,tip,n,Y,hx,hy,ht,Op,hok,hm,k⟩:=h;show⟨_,(aE (pL 3 sc.nd (aP (lV (K:=K) Y) Y T.b_list sM (a9 (pv 1) aB)))
   (aE (eE ú Y (gA (K:=K) Y (pv 2)) (gL 4 sc.nd) (aE (bF (px K (pv 0) (pv 4)) (aV (K:=K) (n:=6) Y Y (aF (gL 5 sc.nd) (aF (gL 6 sc.nd) (aF (gL 7 sc.nd) (aF (gL 8 sc.nd) (aF (gL 9 sc.nd) (aF (gL 10 sc.nd) aQ))))))))
   (aG (eE ú Y (dR (K:=K) Y (pv 10)) (aV (K:=K) (n:=2) Y Y (aF (gL 11 sc.nd) (aF (gL 12 sc.nd) aQ))) (aG (bF (P6 (fH eA (pv 11) aL (aW _)) (iJ (i5 (fH eA (pv 11) aL (aW _)) (iJ (BM (px K (pv 3) (pv 12))))))) (tF (pv 3) (pv 12) jD)))))))
   (aG (aO (aP (dU (K:=K) Y) Y T.b_tuple dY (a9 (pv 3) aB)))))),?_⟩
  let⟨ax,xs,Y,qx,lx⟩:=hx.un;let⟨ay,ys,Y,qy,ly⟩:=hy.un;let ey:=ly.bools;subst ey;let ve:xs.Z=vs.Z:=by rw[lx.Z,Ê]
  show(bO _ Y (eO ay _ Y ⟨.x qy,λ b hb=>?_⟩));let nb:∀ {c:Á}{o:HO},H c=O o->c≠b:=λ e=>aM e hb;show⟨_,Y,t,Y,⟨_,(È hb).seq ht⟩,oJ (K:=K) (a:=t) (xs:=tip.map λ(i:Nat)=>V.int (i:Int))
   (λ i ac H'=>aI H H'/\H' b=O (.j ((eU vs doors (tip.take i)).map V.bl))/\∃ v4 v5 v6 v7 v8 v9 nk om v12,ac=[O (.y ax),O (.y ay),O (.y t),O (.y b),v4,v5,v6,v7,v8,v9,nk,om,v12])
   ⟨È hb,aD,W,W,W,W,W,W,W,W,W,Y⟩ (λ i ac H' _ p=>p.1.seq ht) ?_ ?_⟩
  ·rintro i x ac H1 hi zQ;let⟨sm,Ll,v4,v5,v6,v7,v8,v9,nk,om,v12,Y⟩:=zQ;rw[Ö]at hi;let⟨j,hj,Y⟩:=ç.mp hi;let Ul:=Op j (Ô hj);let hv:vs[j]?=O vs[j]:=by simp[Ul]
   let Oq:=hok vs[j] (ı Ul);let⟨xv,Hz,Ia⟩:=lx.get (i:=j) (d:=AH vs[j]) (by rw[Ö,hv];rfl);let⟨va,o,c,Y,qv,ho,hc⟩:=yW Ia;show(bO _ Y (bO _ Y (.x (.p (MS ax xs j _ Y ⟨Y,sm.tup qx,hW Hz,(eO va _ Y ⟨sm.tup qv,Y,(eO _ _ Y (eO _ _ Y (eO _ _ Y (eO _ _ Y (eO _ _ Y (eO _ _ Y ⟨Y,?_⟩))))))⟩)⟩)))));let⟨ca,cs,Y,qc,lc⟩:=hc.un;let ecs:cs.Z=vs[j].acts.length:=by rw[lc.Z,Ê]
   show⟨_,Y,ca,Y,⟨_,sm.tup qc⟩,oY (K:=K) (a:=ca) (xs:=cs)
    (λ l ac H'=>aI H H'/\H' b=O (.j ((iQ (eU vs doors (tip.take i)) (vs[j].acts.take l)).map V.bl))/\
     ∃ Ib Ic,ac=[O (.y ax),O (.y ay),O (.y t),O (.y b),O (.u (j:Int)),O (.u vs[j].size),O (.u vs[j].brim),O o,O (.bl vs[j].holds),O (oR vs[j].spill),O (.y ca),Ib,Ic])
    ⟨sm,Ll,om,v12,Y⟩ (λ l ac H' _ p=>p.1.tup qc) ?_ ?_⟩
   ·rintro l x ac H2 hl zQ;let⟨mw,sw,Ib,Ic,Y⟩:=zQ;let⟨at',Bz,aa,Y,qa⟩:=sR lc hl;let Lm:=Oq.acts at' (Ô Bz);show(eO aa _ Y ⟨mw.tup qa,Y,(eO _ _ Y (eO _ _ Y ⟨Y,?_⟩))⟩);let Cz:(iQ (eU vs doors (tip.take i)) (vs[j].acts.take l)).length=doors.Z:=by rw[tT,k9]
    let lw:at'.2.toNat < (iQ (eU vs doors (tip.take i)) (vs[j].acts.take l)).length:=by rw[Cz];let:=Lm.lo;let:=Lm.hi;lia
    let fin:∀ c:Bool,c=(if at'.1="open" then EA else if at'.1="turn" then !((iQ (eU vs doors (tip.take i)) (vs[j].acts.take l)).getD at'.2.toNat JJ)else JJ)->
      aI H (upd H2 b (.j (((iQ (eU vs doors (tip.take i)) (vs[j].acts.take l)).map V.bl).set at'.2.toNat (.bl c))))/\
      upd H2 b (.j (((iQ (eU vs doors (tip.take i)) (vs[j].acts.take l)).map V.bl).set at'.2.toNat (.bl c))) b=O (.j ((iQ (eU vs doors (tip.take i)) (vs[j].acts.take (l+1))).map V.bl)):=λ c hc=>by
     show⟨mw.put hb,?_⟩;rw[aD,cS Bz,IQ,NG,<- hc,List.map_set]
    let set:∀ c:Bool,c=(if at'.1="open" then EA else if at'.1="turn" then !((iQ (eU vs doors (tip.take i)) (vs[j].acts.take l)).getD at'.2.toNat JJ)else JJ)->
      RJ (eB 3) (eB 12) EF (.bl c) [O (.y ax),O (.y ay),O (.y t),O (.y b),O (.u (j:Int)),O (.u vs[j].size),O (.u vs[j].brim),O o,O (.bl vs[j].holds),O (oR vs[j].spill),O (.y ca),O (.o at'.1),O (.u at'.2)] H2
       λ ac H'=>aI H H'/\H' b=O (.j ((iQ (eU vs doors (tip.take i)) (vs[j].acts.take (l+1))).map V.bl))/\
        ∃ Ib Ic,ac=[O (.y ax),O (.y ay),O (.y t),O (.y b),O (.u (j:Int)),O (.u vs[j].size),O (.u vs[j].brim),O o,O (.bl vs[j].holds),O (oR vs[j].spill),O (.y ca),Ib,Ic]:=λ c hc=>by
     let⟨f1,f2⟩:=fin c hc;show⟨_,Y,_,Y,b,_,at'.2,at'.2.toNat,Y,Y,sw,CY Lm.lo (by rw[Ê];lia),f1,f2,_,_,Y⟩
    show(bO _ Y ⟨Y,(bO _ Y ?_)⟩);show iN (λ h1=>?_) (λ h1=>?_)
    ·let e1:at'.1="open" := by let:=ð h1;injection this
     show set EA (by rw[Å e1])
    ·let e1:¬ at'.1 = "open" := λ z=>h1 (á (by rw[z]));show(bO _ Y ⟨Y,(bO _ Y ?_)⟩);show iN (λ h2=>?_) (λ h2=>?_)
     ·let e2:at'.1="turn" := by let:=ð h2;injection this
      let hg:((iQ (eU vs doors (tip.take i)) (vs[j].acts.take l)).map V.bl)[at'.2.toNat]?=O (.bl ((iQ (eU vs doors (tip.take i)) (vs[j].acts.take l)).getD at'.2.toNat JJ)):=by
       rw[Ö,ć];simp[lw]
      show(bO _ Y (bO _ Y (.p ⟨b,_,at'.2,(bO _ Y ⟨Y,É sw,sO Lm.lo hg,(bO _ Y ?_)⟩)⟩)));show set _ (by rw[Ä e1,Å e2])
     ·let e2:¬ at'.1="turn" := λ z=>h2 (á (by rw[z]));show set JJ (by rw[Ä e1,Ä e2])
   ·rintro ac H2 zQ;let⟨mw,sw,Ib,Ic,Y⟩:=zQ;rw[ecs,ý]at sw;show⟨mw,?_,_,_,_,_,_,_,_,_,_,Y⟩;rw[cS hj,FY vs doors _ j vs[j] hv];show sw
  ·rintro ac H1 zQ;let⟨sm,Ll,v4,v5,v6,v7,v8,v9,nk,om,v12,Y⟩:=zQ;rw[Ê,ý]at Ll;show(bO _ Y (eO b _ Y (.p ⟨É Ll,λ l hl=>?_⟩)));show k _ _ (sm.trans (È hl)) (Ú (Ï aD) (IsL.of_bools _))
theorem kB:∀ {a b c:List Int}{n:Nat},a.Z=n->b.Z=n->c.Z=n->(kH a b c).length=n
 |[],b,c,n,h,_,_=>by simp at h;subst h;rfl
 |x::a,[],c,n,h1,h2,_=>by simp at h1 h2;lia
 |x::a,y::b,[],n,h1,_,h3=>by simp at h1 h3;lia
 |x::a,y::b,z::c,n,h1,h2,h3=>by
  simp at h1 h2 h3;change(kH a b c).length+1=n;rw[kB (n:=n - 1) JM JM JM];lia
theorem GE:∀ {a b c:List Int}{i:Nat}{x y z:Int},a[i]?=O x->b[i]?=O y->c[i]?=O z->(kH a b c)[i]?=O (x+y+z)
 |[],_,_,i,_,_,_,h,_,_=>by simp at h
 |_::_,[],_,i,_,_,_,_,h,_=>by simp at h
 |_::_,_::_,[],i,_,_,_,_,_,h=>by simp at h
 |a::as,b::bs,c::cs,0,x,y,z,h1,h2,h3=>by simp at h1 h2 h3;subst h1 h2 h3;rfl
 |a::as,b::bs,c::cs,i+1,x,y,z,h1,h2,h3=>by
  change(kH as bs cs)[i]?=_;show GE (by simpa using h1) (by simpa using h2) (by simpa using h3)
def A7 (has:List Int) (s:oP) (d:Bool):(oK has s d).length=has.Z:=by unfold oK;split <;> simp
theorem jU:∀(ss:List oP) (ds:List Bool) (has:List Int),(hV has ss ds).length=has.Z
 |[],ds,has=>by ext ds <;> rfl
 |s::ss,[],has=>rfl
 |s::ss,d::ds,has=>by change(hV (oK has s d) ss ds).length=_;rw[jU ss ds,A7]
theorem y9:∀(ss:List oP) (ds:List Bool) (i:Nat) (has:List Int) (s:oP) (d:Bool),ss[i]?=O s->ds[i]?=O d->hV has (ss.take (i+1)) (ds.take (i+1))=oK (hV has (ss.take i) (ds.take i)) s d
 |[],_,i,_,_,_,h,_=>by simp at h
 |_::_,[],i,_,_,_,_,h=>by simp at h
 |a::ss,b::ds,0,has,s,d,h1,h2=>by simp at h1 h2;subst h1 h2;simp[hV]
 |a::ss,b::ds,i+1,has,s,d,h1,h2=>by
  simp only[ľ,hV];show y9 ss ds i _ s d (by simpa using h1) (by simpa using h2)
theorem xZ:∀(vs:List Vs) (hs:List Int) (i:Nat) (v:Vs) (h:Int),vs[i]?=O v->hs[i]?=O h->eP (vs.take (i+1)) (hs.take (i+1))=eP (vs.take i) (hs.take i)++iA v h
 |[],_,i,_,_,h,_=>by simp at h
 |_::_,[],i,_,_,_,h=>by simp at h
 |a::vs,b::hs,0,v,h,h1,h2=>by simp at h1 h2;subst h1 h2;simp[eP]
 |a::vs,b::hs,i+1,v,h,h1,h2=>by
  simp only[ľ,eP,İ];rw[xZ vs hs i v h (by simpa using h1) (by simpa using h2)]
theorem tV:∀(vs:List Vs) (hs:List Int) (i:Nat) (v:Vs) (h:Int),vs[i]?=O v->hs[i]?=O h->fB (vs.take (i+1)) (hs.take (i+1))=fB (vs.take i) (hs.take i)++[jK v h]
 |[],_,i,_,_,h,_=>by simp at h
 |_::_,[],i,_,_,_,h=>by simp at h
 |a::vs,b::hs,0,v,h,h1,h2=>by simp at h1 h2;subst h1 h2;simp[fB]
 |a::vs,b::hs,i+1,v,h,h1,h2=>by
  simp only[ľ,fB,ŀ];rw[tV vs hs i v h (by simpa using h1) (by simpa using h2)]
theorem vQ:∀(vs:List Vs) (hs:List Int) (i j:Nat) (v:Vs) (h:Int),vs[i]?=O v->hs[i]?=O h->gH j (vs.take (i+1)) (hs.take (i+1))=gH j (vs.take i) (hs.take i)++(if qT v h=EA then[j+i]else[])
 |[],_,i,_,_,_,h,_=>by simp at h
 |_::_,[],i,_,_,_,_,h=>by simp at h
 |a::vs,b::hs,0,j,v,h,h1,h2=>by
  simp at h1 h2;subst h1 h2;simp only[ľ,Ŝ,gH,Nat.add_zero,ł]
 |a::vs,b::hs,i+1,j,v,h,h1,h2=>by
  simp only[ľ,gH];rw[vQ vs hs i (j+1) v h (by simpa using h1) (by simpa using h2)];let e:j+1+i=j+(i+1):=by lia
  rw[e]
  split <;> simp
theorem vR:∀(vs:List Vs) (hs:List Int) (j k:Nat),k∈gH j vs hs->j<=k/\k < j+vs.Z
 |[],_,_,k,h=>by simp[gH]at h
 |_::_,[],_,k,h=>by simp[gH]at h
 |a::vs,b::hs,j,k,h=>by
  simp only[gH]at h;let ih:=vR vs hs (j+1) k;simp only[æ]
  split at h
  ·rcases Ð.mp h with rfl|h
   ·lia
   ·let:=ih h;lia
  ·let:=ih h;lia
theorem sV:∀(vs:List Vs) (hs:List Int) (j:Nat),(gH j vs hs).length<=vs.Z
 |[],_,_=>by simp[gH]
 |_::_,[],_=>by simp[gH]
 |a::vs,b::hs,j=>by
  simp only[gH,æ];let:=sV vs hs (j+1)
  split
  ·rw[æ];lia
  ·lia
theorem A2 :∀(vs:List Vs) (hs:List Int),(∀ v∈vs,VOk n m v)->(eP vs hs).length<=5 * vs.Z
 |[],_,_=>by simp[eP]
 |_::_,[],_=>by simp[eP]
 |a::vs,b::hs,h=>by
  simp only[eP,Ý,æ];let h1:=LL (h a è) b;let h2:=A2 vs hs λ v hv=>h v (Õ _ hv);lia
def AL {sps:List oP}{i:Nat} (l:IsL K H (sps.map SO) xs) (h:xs[i]?=O x) :
  ∃ s,sps[i]?=O s/\∃ a,x=.y a/\bH K H a [.u s.1,.u s.2.1,.bl s.2.2]:=by
 let⟨d,hd,hx⟩:=l.get' h;rw[Ö]at hd;cases e:sps[i]? with
 |none=>rw[e]at hd;cases hd
 |some o=>
  rw[e]at hd;ext hd;show(bO o Y ?_);let⟨a,ys,Y,q,l⟩:=(show Is K H (.v [.u o.1,.u o.2.1,.bl o.2.2]) x from hx).un;let⟨y,r,Y,hy,l⟩:=l.un;let⟨z,r,Y,hz,l⟩:=l.un;let⟨z2,r,Y,Oi,l⟩:=l.un;let:=l.un0;subst this;rw[hy.ui,hz.ui,Oi.ub]at q;show(bO a Y q)
def zE  (h:Is K H (yG held coming doors) y):∃(a b c d:Á),y=.y a/\bH K H a [.y b,.y c,.y d]/\bH K H b (held.map V.int)/\bH K H c (coming.map V.int)/\bH K H d (doors.map V.bl):=by
 let⟨a,xs,Y,q,l⟩:=(show Is K H (.v [.v (held.map D.int),.v (coming.map D.int),.v (doors.map D.bl)]) y from h).un;let⟨x1,r,Y,h1,l⟩:=l.un;let⟨x2,r,Y,h2,l⟩:=l.un;let⟨x3,r,Y,h3,l⟩:=l.un;let:=l.un0;subst this;let⟨b,ys,Y,q1,l1⟩:=h1.un;let⟨c,zs,Y,q2,l2⟩:=h2.un;let⟨d,us,Y,q3,l3⟩:=h3.un;rw[l1.ints]at q1;rw[l2.ints]at q2;rw[l3.bools]at q3;show(MS a b c d Y ⟨q,q1,q2,q3⟩)
def VX  (q:bH K H a [.y b,.y c,.y d]) (q1:bH K H b (held.map V.int)) (q2:bH K H c (coming.map V.int)) (q3:bH K H d (doors.map V.bl)):Is K H (yG held coming doors) (.y a):=
 Ú q (.B (Ú q1 (ż _)) (.B (Ú q2 (ż _)) (.B (Ú q3 (IsL.of_bools _)) .nil)))
def wE (K:Ç):Sp:=λ args H Q _=>∃(x y:V) (z:Á) (sps:List oP) (held coming poured:List Int) (doors:List Bool) (n:Nat),args=[x,y,.y z]/\Is K H (.v (sps.map SO)) x/\Is K H (yG held coming doors) y/\bH K H z (poured.map V.int)/\
 held.Z=n/\coming.Z=n/\poured.Z=n/\doors.Z=sps.Z/\n<=12/\(∀ s∈sps,0<=s.1/\s.1 < n)/\
 ∀ p H',aI H H'->H p=W->H' p=O (.j ((hV (kH held coming poured) sps doors).map V.int))->Q (.y p) H'
def MB (F:Fun K "filled" "filled" (aX 15) f fd) (T:Txt mg):FnOk P w K mg base gT 1 f fd ["spouts","state","poured"] (wE K):=by
 show F.ok ["spouts","state","poured","held","coming","doors","has","target","flow","first_door","door"] λ sc ir A outer s H vs Q E hr h=>?_
 ·let⟨x,y,z,sps,held,coming,poured,doors,n,Y,hx,hy,qz,l1,l2,l3,l4,hn,lw,k⟩:=h;show⟨_,(aE (bF (pv 1) (aV (K:=K) (n:=3) Y Y (aF (gL 3 sc.nd) (aF (gL 4 sc.nd) (aF (gL 5 sc.nd) aQ)))))
   (aE (jS (i:=6) sc.nd Y Y (λ _ _ h=>h) Y (LcOk.mk (N':=["amounts"]) (fr:=[W]) Y trivial Y Y Y Y Y trivial) (P4 (K:=K) Y Y T.b_zip (a9 (pv 3) (a9 (pv 4) (a9 (pv 2) aB)))) (λ _ _ _=>(gC 0 ["amounts"])) (λ _ _ _=>cP) (λ _ _ _=>(bJ (lU (K:=K) Y Y) Y T.b_sum Œ (a9 (pv 0) aB))))
   (aE (eE ú Y (EJ (K:=K) Y Y T.b_zip (a9 (pv 0) (a9 (pv 5) aB))) (aV (K:=K) (n:=2) Y Y (aF (aV (K:=K) (n:=3) Y Y (aF (gL 7 sc.nd) (aF (gL 8 sc.nd) (aF (gL 9 sc.nd) aQ)))) (aF (gL 10 sc.nd) aQ))) (aG (bK (dI (pv 10)) (aG (JT (pv 6) (pv 7) (A3 (K:=K) Y) (pv 8) CZ jD)) aS)))
   (aG (aO (pv 6)))))),?_⟩
  let⟨ax,xs,Y,qx,lx⟩:=hx.un;let⟨ay,a1,a2,a3,Y,qy,q1,q2,q3⟩:=zE hy;let ve:xs.Z=sps.Z:=by rw[lx.Z,Ê]
  show⟨_,Y,ay,_,Y,qy,Y,_,_,Y,_,_,Y,_,_,Y,Y,?_⟩;let la:=kB l1 l2 l3;show⟨_,Y,_,Y,_,Y,EA,EA,EA,a1,a2,z,Y,⟨_,q1⟩,⟨_,q2⟩,⟨_,qz⟩,V5 (K:=K) (xs:=held.map V.int) (ys:=coming.map V.int) (zs:=poured.map V.int) (n:=n) (by simpa using l1) (by simpa using l2) (by simpa using l3)
   (λ D i r ac H'=>H D=W/\aI H H'/\H' D=O (.j r)/\r=((kH held coming poured).take i).map V.int/\∃ v,ac=[v])
   (λ D i r ac H' p=>⟨p.2.1.tup q1,p.2.1.tup q2,p.2.1.tup qz⟩) (λ D hD=>⟨hD,È hD,aD,JN,W,Y⟩) ?_ ?_⟩
  rotate_left
  ·rintro D i x0 y0 z0 r ac H' Tt Dj Ln Um ⟨hD,sm,jc,rfl,v,rfl⟩ hT;rw[Ö] at Dj Ln Um;let⟨x,hx,Y⟩:=ç.mp Dj;let⟨y,hy,Y⟩:=ç.mp Ln;let⟨z',hz,Y⟩:=ç.mp Um;let hi:=GE hx hy hz;let we:=(à.mp hi).1;let nT:D≠Tt:=aM jc hT;show gN ?_;show⟨_,Y,EA,Tt,[x,y,z'],Y,Ï aD,by rw[aK nT];show jc,bB (by simp;lia),hD,?_,aD,?_,_,Y⟩
   ·intro b o e;rw[aK (aM e hD)];show È hT b o (sm b o e)
   ·rw[cS hi,Ñ];let:[x,y,z'].sum=x+y+z':=by simp;lia
    rw[this];rfl
  ·rintro D r ac H1 zQ;let⟨hD,sm,jc,Y,_⟩:=zQ;rw[<- la,ý] at jc;show⟨_,Y,_,Y,EA,EA,ax,a3,Y,⟨_,sm.tup qx⟩,⟨_,sm.tup q3⟩,RK (K:=K) (xs:=xs) (ys:=doors.map V.bl) (n:=sps.Z) ve (by rw[Ê,l4])
    (λ i ac H'=>aI H H'/\H' D=O (.j ((hV (kH held coming poured) (sps.take i) (doors.take i)).map V.int))/\
     ∃ v7 v8 v9 nk,ac=[O (.y ax),O (.y ay),O (.y z),O (.y a1),O (.y a2),O (.y a3),O (.y D),v7,v8,v9,nk])
    (λ i ac H' p=>⟨p.1.tup qx,p.1.tup q3⟩) ⟨sm,by ext sps <;> show jc,W,W,W,W,rfl⟩ ?_ ?_⟩
   ·rintro ac H2 zQ;let⟨mw,h2,v7,v8,v9,nk,Y⟩:=zQ;rw[<- l4,ý]at h2;rw[l4,ý]at h2;show(bO _ Y ?_);show k D H2 mw hD h2
   ·rintro i x y ac H2 Tt hx hy ⟨mw,h2,v7,v8,v9,nk,rfl⟩ hT;let⟨sp,vf,sa,Y,qs⟩:=AL lx hx;rw[Ö]at hy;let⟨dr,Os,Y⟩:=ç.mp hy;let nT:D≠Tt:=aM h2 hT;let nj:aI H (upd H2 Tt (.v [.y sa,.bl dr])):=λ b o e=>È hT b o (mw b o e);let h3:upd H2 Tt (.v [.y sa,.bl dr]) D=O (.j ((hV (kH held coming poured) (sps.take i) (doors.take i)).map V.int)):=by rw[aK nT];show h2
    show(eO Tt _ Y ⟨Ï aD,Y,(eO _ _ Y (eO sa _ Y ⟨nj.tup qs,Y,(eO _ _ Y (eO _ _ Y (eO _ _ Y ⟨Y,(eO _ _ Y ⟨Y,?_⟩)⟩)))⟩))⟩);show(bO _ Y (bO _ Y ?_));let snoc:=y9 sps doors i (kH held coming poured) sp dr vf Os;cases dr with
    |false=>
     show bR ?_;show⟨nj,?_,_,_,_,_,Y⟩;rw[snoc];show h3
    |true=>
     show cH ?_;let hs:=lw sp (Ô vf);let io:(hV (kH held coming poured) (sps.take i) (doors.take i)).length=n:=by rw[jU,la]
     let ki:sp.1.toNat < (hV (kH held coming poured) (sps.take i) (doors.take i)).length:=by rw[io];lia
     let hg:((hV (kH held coming poured) (sps.take i) (doors.take i)).map V.int)[sp.1.toNat]?=O (.u ((hV (kH held coming poured) (sps.take i) (doors.take i)).getD sp.1.toNat 0)):=by
      rw[Ö,ć];simp[ki]
     show⟨_,Y,_,Y,D,_,sp.1,_,Y,Y,É h3,hs.1,JM,hg,_,Y,_,_,Y,Y,D,_,sp.1,sp.1.toNat,Y,Y,h3,CY hs.1 (by rw[Ê,io];lia),?_⟩;show⟨nj.put hD,?_,_,_,_,_,Y⟩;rw[aD,snoc,oK,Å rfl,List.map_set]
theorem jV:∀(vs:List Vs) (hs:List Int),vs.Z=hs.Z->(fB vs hs).length=vs.Z
 |[],_,_=>by simp[fB]
 |_::_,[],h=>by simp at h
 |a::vs,b::hs,h=>by simp only[fB,æ];rw[jV vs hs (by simpa using h)]
def j5  (h:Is K H (gE net) x):∃(a b c:Á) (xs ys:List V),x=.y a/\bH K H a [.y b,.y c]/\bH K H b xs/\IsL K H (net.vs.map AH) xs/\bH K H c ys/\IsL K H (net.sps.map SO) ys:=by
 let⟨a,zs,Y,q,l⟩:=(show Is K H (.v [.v (net.vs.map AH),.v (net.sps.map SO)]) x from h).un;let⟨x1,r,Y,h1,l⟩:=l.un;let⟨x2,r,Y,h2,l⟩:=l.un;let:=l.un0;subst this;let⟨b,xs,Y,q1,l1⟩:=h1.un;let⟨c,ys,Y,q2,l2⟩:=h2.un;show(SQ a b c xs ys Y ⟨q,q1,l1,q2,l2⟩)
structure StOk (net:Net) (held coming:List Int) (doors:List Bool):Prop where
 h:held.Z=net.vs.Z
 c:coming.Z=net.vs.Z
 d:doors.Z=net.sps.Z
def vX (K:Ç):Sp:=λ args H Q _=>∃(x y:V) (z:Á) (net:Net) (held coming poured:List Int) (doors:List Bool),args=[x,y,.y z]/\Is K H (gE net) x/\Is K H (yG held coming doors) y/\bH K H z (poured.map V.int)/\
 NetOk net/\StOk net held coming doors/\poured.Z=net.vs.Z/\∀(p:Á) (ys:List V) H',aI H H'->bH K H' p ys->Is K H' (IW (l7 net held coming poured doors)) (.y p)->Q (.y p) H'
def gP (H:Hp) (t sl:Á):Prop:=∃(ns:List Int) (pos cell:Int),H t=O (.j [.y sl,.u pos,.u cell])/\H sl=O (.j (ns.map V.int))/\ns.Z<=1000
def gP.mut  (h:gP H t sl):lX (H t):=by let⟨ns,pos,cell,e,_⟩:=h;rw[e];show trivial
def gP.same  (h:gP H t sl) (s:aI H H'):gP H' t sl:=by
 let⟨ns,pos,cell,e,f,g⟩:=h;show⟨ns,pos,cell,s _ _ e,s _ _ f,g⟩
def mB:Sp:=λ vs H Q _=>∃(t sl:Á) (many:Int),vs=[.y t,.u many]/\gP H t sl/\0 < many/\many < 1000000/\
 ∀(r:Int) H',cI t H H'->gP H' t sl->0<=r->r < many->Q (.u r) H'
def AU:Sp:=λ vs H Q _=>∃(t sl:Á) (many:Int),vs=[.y t,.u many]/\gP H t sl/\0 < many/\many < 2 ^ 200/\
 ∀(r:Int) H',cI t H H'->gP H' t sl->0<=r->r < many->Q (.u r) H'
abbrev BC (K:Ç):TS:=jG (pD (lC (rI (λ _ j=>0 < j) λ i j=>.int (i % j)) (lC (HE K) (eB 0) (tC (.u 2))) (eB 1)) (cZ 4)) (jG (pD (lC (rI WT λ i j=>.int (i / j)) (lC (HE K) (eB 0) (tC (.u 2))) (eB 1)) (RJ (eB 0) (tC (.u 2)) EF)) (ZA (eB 4)))
abbrev ON (K:Ç):TS:=jG (pD (lC (BF λ i j=>.int (i+j)) (lC (HE K) (eB 0) (tC (.u 1))) (tC (.u 1))) (RJ (eB 0) (tC (.u 1)) EF)) (pD (eB 3) (RJ (eB 0) (tC (.u 2)) EF))
abbrev OO (K:Ç):TS:=jG (pD (lC (rI (λ _ j=>0 < j) λ i j=>.int (i % j)) (lC (BF λ i j=>.int (i+j)) (eB 3) (lC (rI GG λ i j=>.int (i * j)) (tC (.u 1000003)) (lC (HE K) (eB 0) (tC (.u 1))))) (eB 2)) (cZ 3)) (jG (pD (lC (rI (λ _ j=>0 < j) λ i j=>.int (i % j)) (lC (BF λ i j=>.int (i+j)) (lC (BF λ i j=>.int (i+j)) (lC (rI GG λ i j=>.int (i * j)) (eB 3) (eB 3)) (lC (rI GG λ i j=>.int (i * j)) (tC (.u 1181783497276652981)) (eB 3))) (tC (.u 2049848353892358983))) (eB 2)) (cZ 3)) (pD (lC (rI (λ _ j=>0 < j) λ i j=>.int (i % j)) (lC (BF λ i j=>.int (i+j)) (lC (rI GG λ i j=>.int (i * j)) (eB 3) (eB 3)) (tC (.u 1442695040888963407))) (eB 2)) (cZ 3)))
abbrev XG (K:Ç):TT:=tOr (zB (lC (BF λ i j=>.bl (decide (j<=i))) (lC (HE K) (eB 0) (tC (.u 1))) (SN (TM K) (dJ (lC (HE K) (eB 0) (tC (.u 0))) jC)))) (zB (lC (BF λ i j=>.bl (decide (i < j))) (eB 3) (lC (rI YV λ i j=>.int (i ^ j.Q)) (tC (.u 10)) (tC (.u 18)))))
abbrev dE (Q:VK):Ends:={ nx:=λ _ H'=>Q .non H',rt:=Q }
def pS (F:Fun K "_law_draw" "_law_draw" (aX 98) f fd) (T:Txt mg):FnOk P w K mg base gT 1 f fd ["tape","many"] AU:=by
 show F.ok ["tape","many","prime","cell","found"] λ sc ir A outer s H vs Q E hr h=>?_
 ·let⟨t,sl,many,Y,⟨ns,pos,cell,ht,qj,mx⟩,wf,Fp,k⟩:=h;show⟨_,(aE (pL 2 sc.nd aH)
   (aE (bK (aR ER (px K (pv 0) aH) (pv 1) (aW _)) (aE (pL 3 sc.nd aH)
   (aE (bK (aR rX (zU K T.b_len (px K (pv 0) aH)) aH (aW _)) (aG (pL 3 sc.nd (px K (px K (pv 0) aH) (bA wY (px K (pv 0) aH) (zU K T.b_len (px K (pv 0) aH)))))) aS)
   (aE (bK (Ď (uF (aR PQ (px K (pv 0) aH) (zU K T.b_len (px K (pv 0) aH)) (aW _)) (qD (aR ER (pv 3) (bA PM aH aH) (aW _))))) (aE (pL 3 sc.nd (bA wY (bA dM (pv 3) (bA qG aH (px K (pv 0) aH))) (pv 2)))
   (aE (pL 3 sc.nd (bA wY (bA dM (bA dM (bA qG (pv 3) (pv 3)) (bA qG aH (pv 3))) aH) (pv 2)))
   (aG (pL 3 sc.nd (bA wY (bA dM (bA qG (pv 3) (pv 3)) aH) (pv 2)))))) aS)
   (aE (bF (bA dM (px K (pv 0) aH) aH) (tF (pv 0) aH jD))
   (aG (bF (pv 3) (tF (pv 0) aH jD))))))) aS)
   (aE (pL 4 sc.nd (bA wY (px K (pv 0) aH) (pv 1)))
   (aE (bF (bA PR (px K (pv 0) aH) (pv 1)) (tF (pv 0) aH jD))
   (aG (aO (pv 4))))))),?_⟩
  let Az:sl≠t:=WB qj ht (by intro z;injection z with z;ext ns <;> simp at z);let ix:∀ {H1:Hp}{p' c':Int}{Q:VK},H1 t=O (.j [.y sl,.u p',.u c'])->Q (.y sl) H1->HE K (.y t) (.u 0) H1 Q:=λ e q=>.inl ⟨t,_,0,_,rfl,rfl,É e,rfl,q⟩;let Lo:∀ {H1:Hp}{p' c':Int}{Q:VK},H1 t=O (.j [.y sl,.u p',.u c'])->Q (.u p') H1->HE K (.y t) (.u 1) H1 Q:=λ e q=>.inl ⟨t,_,1,_,rfl,rfl,É e,rfl,q⟩;let Ot:∀ {H1:Hp}{p' c':Int}{Q:VK},H1 t=O (.j [.y sl,.u p',.u c'])->Q (.u c') H1->HE K (.y t) (.u 2) H1 Q:=λ e q=>.inl ⟨t,_,2,_,rfl,rfl,É e,rfl,q⟩;let tail:∀ (v3:Option V) (H1:Hp) (p' c':Int),cI t H H1->H1 t=O (.j [.y sl,.u p',.u c'])->BC K (dE Q) [O (.y t),O (.u many),O (.u 2305843009213693951),v3,W] H1:=by
   intro v3 H1 p' c' bt e;show(bO _ Y (Ot e (bO _ Y (eO _ _ Y ⟨Y,wf,?_⟩))));show⟨_,Y,Ot e ⟨_,Y,_,_,Y,Y,⟨wf,Fp⟩,_,Y,t,_,2,2,Y,Y,e,Y,_,Y,?_⟩⟩;show k _ _ (bt.trans Û) ⟨ns,p',c' / many,aD,?_,mx⟩ (Ń _ JM) (Ŭ _ wf);rw[aK Az];show bt sl _ Az qj
  show(bO _ Y (Ot ht (bO _ Y (eO _ _ Y ⟨Y,(bO _ Y ?_)⟩))));show iN (λ _=>?_) (λ _=>tail W H pos cell (Đ H) ht);let mid:∀(c':Int),ON K { nx:=BC K (dE Q),rt:=Q } [O (.y t),O (.u many),O (.u 2305843009213693951),O (.u c'),W] H:=by
   intro c';show⟨_,Y,Lo ht ⟨_,_,Y,Y,_,Y,t,_,1,1,Y,Y,ht,Y,?_⟩⟩;show⟨_,Y,_,Y,t,_,2,2,Y,Y,aD,Y,?_⟩;show tail (O (.u c')) _ (pos+1) c' (cI.upd.trans Û) aD
  let Uo:∀(c':Int),jG (NZ (XG K) (OO K) eD) (ON K) { nx:=BC K (dE Q),rt:=Q } [O (.y t),O (.u many),O (.u 2305843009213693951),O (.u c'),W] H:=by
   intro c';let body:∀ σ,σ=[O (.y t),O (.u many),O (.u 2305843009213693951),O (.u c'),W]->OO K { nx:=ON K { nx:=BC K (dE Q),rt:=Q },rt:=Q } σ H:=by
    rintro σ rfl;let prime:(0:Int) < 2305843009213693951:=by decide
    show(bO _ Y (bO _ Y (Lo ht (eO _ _ Y ⟨Y,.p ⟨JL,JL⟩,(eO _ _ Y ⟨Y,(bO _ Y (eO _ _ Y ⟨Y,prime,?_⟩))⟩)⟩))));let b1:=Ń (c'+1000003 * pos) (show(2305843009213693951:Int)≠0 by decide);let b2:=Ŭ (c'+1000003 * pos) prime;generalize(c'+1000003 * pos) % 2305843009213693951=c1 at b1 b2;show(bO _ Y (bO _ Y (eO _ _ Y ⟨Y,.p ⟨JM,JM⟩,(bO _ Y (eO _ _ Y ⟨Y,.p ⟨JL,JL⟩,(eO _ _ Y ⟨Y,(eO _ _ Y ⟨Y,(bO _ Y (eO _ _ Y ⟨Y,prime,?_⟩))⟩)⟩)⟩))⟩)));let b3:=Ń (c1 * c1+1181783497276652981 * c1+2049848353892358983) (show(2305843009213693951:Int)≠0 by decide);let b4:=Ŭ (c1 * c1+1181783497276652981 * c1+2049848353892358983) prime;generalize(c1 * c1+1181783497276652981 * c1+2049848353892358983) % 2305843009213693951=c2 at b3 b4;show(bO _ Y (bO _ Y (eO _ _ Y ⟨Y,.p ⟨JM,JM⟩,(eO _ _ Y ⟨Y,(bO _ Y (eO _ _ Y ⟨Y,prime,?_⟩))⟩)⟩)));show mid _
   show(bO _ Y (Lo ht (bO _ Y (ix ht (eO sl _ Y ⟨.p (É qj),(eO _ _ Y ⟨Y,(bO _ Y ?_)⟩)⟩)))));show iN (λ _=>?_) (λ _=>?_)
   ·show cH ?_;show body _ Y
   ·show(bO _ Y (eO _ _ Y ⟨Y,⟨JL,JL,JL⟩,(eO _ _ Y ⟨Y,(bO _ Y ?_)⟩)⟩));show iN (λ _=>body _ Y) (λ _=>mid _)
  show(bO _ Y (ix ht (eO sl _ Y ⟨.p (É qj),(eO _ _ Y ⟨Y,(bO _ Y ?_)⟩)⟩)));show iN (λ io=>?_) (λ _=>Uo 0);let Id:0 < ns.Z:=by let:=ð io;simpa using this
  show⟨_,Y,ix ht ⟨_,Y,Lo ht ⟨_,Y,ix ht ⟨sl,_,Y,.p (É qj),_,_,Y,Y,(show (0:Int) < (((ns.map V.int).length:Nat):Int) by rw[Ê];lia),?_⟩⟩⟩⟩;let m1:=Ń pos (show (((ns.map V.int).length:Nat):Int)≠0 by rw[Ê];lia);let m2:=Ŭ pos (show (0:Int) < (((ns.map V.int).length:Nat):Int) by rw[Ê];lia);rw[Ê] at m1 m2;let hix:(ns.map V.int)[(pos % ((ns.map V.int).length:Int)).toNat]? = O (.u (ns[(pos % (ns.Z:Int)).toNat]'JM)):=by
   rw[Ê,Ö];simp[show(pos % (ns.Z:Int)).toNat < ns.Z by lia]
  show .p ⟨sl,_,_,_,Y,Y,É qj,sO (by rw[Ê];show m1) hix,?_⟩;show Uo _
def CN (F:Fun K "_law_draw" "_law_draw" (aX 98) f fd) (T:Txt mg):FnOk P w K mg base gT 1 f fd ["tape","many"] mB:=
 (pS F T).imp λ vs H Q E ⟨t,sl,many,e,tp,h0,h1,k⟩=>⟨t,sl,many,e,tp,h0,Int.lt_of_lt_of_le h1 JL,k⟩
structure Ext (t sl:Á) (H H':Hp):Prop where
 bt:cI t H H'
 tp:gP H' t sl
def gP.some  (h:gP H t sl):∃ o,H t=O o:=by let⟨ns,pos,cell,e,_⟩:=h;show⟨_,e⟩
def gP.put  (h:gP H t sl) (h1:p≠t) (h2:p≠sl):gP (upd H p o) t sl:=by
 let⟨ns,pos,cell,e,f,g⟩:=h;show⟨ns,pos,cell,by rw[aK (Ne.symm h1)];show e,by rw[aK (Ne.symm h2)];show f,g⟩
def gP.ne_sl  (h:gP H t sl) (hp:H p=W):p≠sl:=by
 let⟨ns,pos,cell,e,f,g⟩:=h;show λ z=>by rw[z,f]at hp;cases hp
def Ext.new  (e:Ext t sl H H') (hp:H' p=W):Ext t sl H (upd H' p o):=⟨e.bt.trans (È hp).but,e.tp.same (È hp)⟩
def Ext.ne  (e:Ext t sl H H') (hp:H' p=W):p≠t:=by
 let⟨o,h⟩:=e.tp.some;intro z;rw[z,h]at hp;cases hp
def Ext.ts  (e:Ext t sl H H') (tp:gP H t sl):bU K H H':=e.bt.ts tp.mut
def Gn (t sl:Á) (σ:St) (H0:Hp) (P:V->Prop) (te:TE):Prop:=∀ H Q,Ext t sl H0 H->(∀ v H',Ext t sl H0 H'->cI t H H'->P v->Q v H')->te σ H Q
section
variable {t sl:Á}{σ:St}{H0:Hp}{P:V->Prop}{a b c d:TE}
def fG (lo hi:Int):V->Prop:=λ v=>∃ i,v=.u i/\lo<=i/\i < hi
def Gn.imp  (h:Gn t sl σ H0 P a) (f:∀ v,P v->P' v):Gn t sl σ H0 P' a:=λ H Q e k=>h H Q e λ v H' e' b p=>k v H' e' b (f v p)
def y4  (h:P v):Gn t sl σ H0 P (tC v):=λ H Q e k=>k v H e (Đ H) h
def gn_v  (bf:σ[i]?=O (O v)) (h:P v):Gn t sl σ H0 P (eB i):=λ H Q e k=>⟨v,bf,k v H e (Đ H) h⟩
def jZ (ha:Gn t sl σ H0 P a) (hb:Gn t sl σ H0 P b) (hc:Gn t sl σ H0 (fG 0 2) c):Gn t sl σ H0 P (lC (HE K) (SZ (dJ a (dJ b jC))) c):=by
 intro H Q e k;show ha H _ e λ v1 H1 e1 b1 p1=>hb H1 _ e1 λ v2 H2 e2 b2 p2=>⟨(sz0 2),λ p hp=>hc _ _ (e2.new hp) λ v H3 e3 b3 ⟨i,hi,h0,h1⟩=>?_⟩;subst hi;let hl:=b3 p _ (e2.ne hp) aD;let hb:cI t H H3:=b1.trans (b2.trans ((È hp).but.trans b3));rcases (show i=0\/i=1 by lia)with rfl|rfl
 ·show .p (MS p _ 0 v1 Y ⟨Y,É hl,Y,k v1 H3 e3 hb p1⟩)
 ·show .p (MS p _ 1 v2 Y ⟨Y,É hl,Y,k v2 H3 e3 hb p2⟩)
def FV (ha:Gn t sl σ H0 P a) (hb:Gn t sl σ H0 P b) (hd:Gn t sl σ H0 P d) (hc:Gn t sl σ H0 (fG 0 3) c):Gn t sl σ H0 P (lC (HE K) (SZ (dJ a (dJ b (dJ d jC)))) c):=by
 intro H Q e k;show ha H _ e λ v1 H1 e1 b1 p1=>hb H1 _ e1 λ v2 H2 e2 b2 p2=>hd H2 _ e2 λ v4 H4 e4 b4 p4=>⟨(sz0 3),λ p hp=>hc _ _ (e4.new hp) λ v H3 e3 b3 ⟨i,hi,h0,h1⟩=>?_⟩;subst hi;let hl:=b3 p _ (e4.ne hp) aD;let hb:cI t H H3:=b1.trans (b2.trans (b4.trans ((È hp).but.trans b3)));rcases (show i=0\/i=1\/i=2 by lia)with rfl|rfl|rfl
 ·show .p (MS p _ 0 v1 Y ⟨Y,É hl,Y,k v1 H3 e3 hb p1⟩)
 ·show .p (MS p _ 1 v2 Y ⟨Y,É hl,Y,k v2 H3 e3 hb p2⟩)
 ·show .p (MS p _ 2 v4 Y ⟨Y,É hl,Y,k v4 H3 e3 hb p4⟩)
def D3  (bf:σ[i]?=O (O (.y t))) (Hc:0 < lo) (Dk:hi<=1000000) (ha:Gn t sl σ H0 (fG lo hi) a):Gn t sl σ H0 (λ v=>∃ r m,v=.u r/\0<=r/\r < m/\lo<=m/\m < hi) (qU mB [] E0 (dJ (eB i) (dJ a jC))):=by
 intro H Q e k;show⟨_,bf,ha H _ e λ v H1 e1 b1 ⟨m,hm,h0,h1⟩=>?_⟩;subst hm;show(WL t sl m Y ⟨e1.tp,JM,JM,λ r H2 b2 t2 r0 r1=>k _ H2 ⟨e1.bt.trans b2,t2⟩ (b1.trans b2) (eO r m Y ⟨r0,r1,h0,h1⟩)⟩)
def cJ  (bf:σ[i]?=O (O (.y t))) (h0:0 < m) (h1:m < 1000000):Gn t sl σ H0 (fG 0 m) (qU mB [] E0 (dJ (eB i) (dJ (tC (.u m)) jC))):=
 (D3 (lo:=m) (hi:=m+1) bf h0 JM (y4 (bO m rfl ⟨JM,JM⟩))).imp λ v ⟨r,m',e,a,b,c,d⟩=>⟨r,e,a,JM⟩
def oH  (bf:σ[i]?=O (O (.y t))) (hj:σ[j]?=O (O (.u m))) (h0:0 < m) (h1:m < 1000000):Gn t sl σ H0 (fG 0 m) (qU mB [] E0 (dJ (eB i) (dJ (eB j) jC))):=
 (D3 (lo:=m) (hi:=m+1) bf h0 JM (gn_v hj (bO m rfl ⟨JM,JM⟩))).imp λ v ⟨r,m',e,a,b,c,d⟩=>⟨r,e,a,JM⟩
def D4  (ha:Gn t sl σ H0 (fG x y) a) (hb:Gn t sl σ H0 (fG l h) b):Gn t sl σ H0 (fG (x+l) (y+h - 1)) (lC (BF λ i j=>.int (i+j)) a b):=by
 intro H Q e k;show ha H _ e λ v1 H1 e1 b1 ⟨i,hi,i0,i1⟩=>hb H1 _ e1 λ v2 H2 e2 b2 ⟨j,hj,j0,j1⟩=>?_;subst hi hj;show(eO i j Y ⟨Y,k _ H2 e2 (b1.trans b2) (bO _ Y ⟨JM,JM⟩)⟩)
def RG  (hm:0 < m) (hm2:m < 1000000) (ha:Gn t sl σ H0 (fG 0 y) a):Gn t sl σ H0 (λ v=>∃ i,v=.u (i / m)/\0<=i/\i < y) (lC (rI YW λ i j=>.int (i / j)) a (tC (.u m))):=by
 intro H Q e k;show ha H _ e λ v1 H1 e1 b1 ⟨i,hi,i0,i1⟩=>?_;subst hi;show(eO i m Y ⟨Y,⟨hm,JM⟩,k _ H1 e1 b1 (bO i Y ⟨i0,i1⟩)⟩)
def II  (ha:Gn t sl σ H0 (fG 0 y) a):Gn t sl σ H0 (λ v=>∃ b:Bool,v=.bl b) (lC ZY a (tC (.u c0))):=by
 intro H Q e k;show ha H _ e λ v1 H1 e1 b1 ⟨i,hi,i0,i1⟩=>?_;subst hi;show⟨Y,k _ H1 e1 b1 ⟨_,Y⟩⟩
def YE  (ha:Gn t sl σ H0 (fG 0 y) a):Gn t sl σ H0 (λ v=>∃ b:Bool,v=.bl b) (lC (BF λ i j=>.bl (decide (j < i))) a (tC (.u c0))):=by
 intro H Q e k;show ha H _ e λ v1 H1 e1 b1 ⟨i,hi,i0,i1⟩=>?_;subst hi;show(eO i c0 Y ⟨Y,k _ H1 e1 b1 ⟨_,Y⟩⟩)
abbrev OT:List V->Hp->VK->Prop:=λ xs H Q=>(∃ i,xs=[.u i]/\Q (.u i) H)\/∃ k,xs=[.bl k]/\Q (.u (if k then 1 else 0)) H
def RE  (bf:σ[i]?=O (O (.bl s))):Gn t sl σ H0 (fG 0 2) (SN OT (dJ (eB i) jC)):=by
 intro H Q e k;show⟨_,bf,.x (bO s Y (k _ H e (Đ H) ?_))⟩;cases s
 ·show(bO 0 Y ⟨JM,JM⟩)
 ·show(bO 1 Y ⟨JM,JM⟩)
def vD  (bf:σ[i]?=O (O (.bl s))) (h1:lo<=x/\x < hi) (h2:lo<=y/\y < hi):Gn t sl σ H0 (fG lo hi) (lC (HE K) (SZ (dJ (tC (.u x)) (dJ (tC (.u y)) jC))) (SN OT (dJ (eB i) jC))):=
 jZ (y4 (bO x rfl ⟨h1.1,h1.2⟩)) (y4 (bO y rfl ⟨h2.1,h2.2⟩)) (RE bf)
def vE (ha:Gn t sl σ H0 (fG 0 4) a):Gn t sl σ H0 (fG 0 2) (lC (rI YW λ i j=>.int (i / j)) a (tC (.u 3))):=
 (RG JL JL ha).imp λ v ⟨i,e,a,b⟩=>⟨i / 3,e,JM,JM⟩
def pX  (h:Gn t sl σ H0 (fG lo hi) a) (h1:Up<=lo) (h2:hi<=uo):Gn t sl σ H0 (fG Up uo) a:=h.imp λ v ⟨i,e,a,b⟩=>⟨i,e,JM,JM⟩
def oI  (bf:σ[i]?=O (O (.y t))) (Hc:0 < lo) (Dk:hi<=1000000) (ha:Gn t sl σ H0 (fG lo hi) a):Gn t sl σ H0 (fG 0 (hi - 1)) (qU mB [] E0 (dJ (eB i) (dJ a jC))):=
 (D3 bf Hc Dk ha).imp λ v ⟨r,m,e,a,b,c,d⟩=>⟨r,e,a,JM⟩
end
def O8 (K:Ç):Sp:=λ args H Q _=>∃(t sl:Á) (n:Nat) (jz:Bool),args=[.y t,.u (n:Int),.bl jz]/\gP H t sl/\1<=n/\n<=12/\
 ∀(outs:List (Option Int×Int)) p H',Ext t sl H H'->outs≠[]->outs.Z<=3->(∀ o∈outs,OutOk n o)->Is K H' (.v (outs.map BQ)) p->Q p H'
def CJ (F:Fun K "_law_outs" "_law_outs" (aX 100) f fd) (T:Txt mg) (ib:Callee P w K mg base "_law_draw" ["tape","many"] 1 mB fD Ba):FnOk P w K mg base gT 2 f fd ["tape","many","small"] (O8 K):=by
 show F.ok ["tape","many","small","outs","k","target","parts"] λ sc ir A outer s H vs Q E hr h=>?_
 ·let⟨t,sl,n,jz,Y,tp,n1,n2,k⟩:=h;show⟨_,(aE (pL 3 sc.nd (aY aB))
   (aE (eE ú Y (eX Y T.b_range (a9 (bA dM aH (px K (aY (a9 (cD ib hr (a9 (pv 0) (a9 aH aB))) (a9 (cD ib hr (a9 (pv 0) (a9 aH aB))) aB))) (cD ib hr (a9 (pv 0) (a9 aH aB))))) aB)) (gL 4 sc.nd) (aE (pL 5 sc.nd (px K (aY (a9 eQ (a9 (cD ib hr (a9 (pv 0) (a9 (pv 1) aB))) (a9 (cD ib hr (a9 (pv 0) (a9 (pv 1) aB))) aB)))) (cD ib hr (a9 (pv 0) (a9 aH aB)))))
   (aE (pL 6 sc.nd (px K (aY (a9 (cD ib hr (a9 (pv 0) (a9 aH aB))) (a9 (cD ib hr (a9 (pv 0) (a9 (px K (aY (a9 aH (a9 aH aB))) (aP iE Y T.b_int j7 (a9 (pv 2) aB))) aB))) aB))) (bA mM (cD ib hr (a9 (pv 0) (a9 aH aB))) aH)))
   (aG (bL (eF (K:=K) Y í ö ø bW (pv 3) (a9 (bG (a9 (pv 5) (a9 (bA dM aH (pv 6)) aB))) aB)))))))
   (aG (aO (aP (dU (K:=K) Y) Y T.b_tuple dY (a9 (pv 3) aB)))))),?_⟩
  show⟨ß _,λ ol At=>?_⟩;let e0:Ext t sl H (upd H ol (.j [])):=Ext.new ⟨Đ H,tp⟩ At;let no:ol≠t:=Ext.ne ⟨Đ H,tp⟩ At;show D4 (x:=1) (y:=2) (l:=0) (h:=3) (H0:=upd H ol (.j [])) (t:=t) (sl:=sl) (y4 (bO 1 Y ⟨JM,JM⟩))
   (jZ (pX (cJ rfl JL JL) (û _) JL) (cJ rfl JL JL) (cJ rfl JL JL)) _ _ ⟨Đ _,e0.tp⟩ ?_
  rintro v H1 e1 _ zQ;let⟨m,Y,m0,m1⟩:=zQ;show(bO m Y ⟨JM,JM,?_⟩);show mQ (lo:=0) (n:=m.Q) (λ i ac H'=>Ext t sl H H'/\∃(outs:List (Option Int×Int)) (xs:List V),H' ol=O (.j xs)/\IsL K H' (outs.map BQ) xs/\outs.Z=i/\(∀ o∈outs,OutOk n o)/\
   ∃ v4 v5 v6,ac=[O (.y t),O (.u (n:Int)),O (.bl jz),O (.y ol),v4,v5,v6]) ?_ ?_ ?_
  ·show⟨⟨e0.bt.trans e1.bt,e1.tp⟩,[],[],e1.bt ol _ no aD,.nil,Y,λ o ho=>(nomatch ho),W,W,W,Y⟩
  ·rintro DD i - Ak ac H2 hi ⟨e2,outs,xs,ho,hl,io,hok,v4,v5,v6,rfl⟩;show FV (H0:=H2) (t:=t) (sl:=sl) (P:=λ v=>∃ o:Option Int,v=oR o/\∀ z,o=O z->0<=z/\z < n) (y4 (bO W Y (λ z h=>nomatch h)))
    ((oH (m:=(n:Int)) rfl rfl JM JM).imp λ v ⟨r,e,a,b⟩=>⟨O r,e,λ z h=>by ext h;show⟨a,JM⟩⟩)
    ((oH (m:=(n:Int)) rfl rfl JM JM).imp λ v ⟨r,e,a,b⟩=>⟨O r,e,λ z h=>by ext h;show⟨a,JM⟩⟩) (cJ rfl JL JL) _ _ ⟨Đ _,e2.tp⟩ ?_
   rintro v H3 e3 _ zQ;let⟨tg,Y,htg⟩:=zQ;show jZ (H0:=H3) (t:=t) (sl:=sl) (P:=fG 0 60) (pX (cJ Y JL JL) (û _) JL)
    (pX (oI (lo:=3) (hi:=61) rfl JL JL (vD rfl ⟨JL,JL⟩ ⟨JL,JL⟩)) (û _) JL) (vE (cJ rfl JL JL)) _ _ ⟨Đ _,e3.tp⟩ ?_
   rintro v H4 e4 _ zQ;let⟨pt,Y,p0,p1⟩:=zQ;let Ie:H4 ol=O (.j xs):=e4.bt ol _ no (e3.bt ol _ no ho);show(bO _ Y ⟨.p ⟨Y,_,É Ie⟩,(bO _ Y (bO _ Y (eO _ _ Y ⟨Y,(sz0 2),λ q hq=>?_⟩)))⟩);let nq:ol≠q:=aM Ie hq;let Hv:xs.Z=outs.Z:=by rw[hl.Z,Ê]
   let hm3:m.Q<=3:=by lia
   show⟨ol,xs,_,Y,Y,by rw[aK nq];show Ie,bB JM,?_⟩;let e5:Ext t sl H2 (upd H4 q (.v [oR tg,.u (1+pt)])):=Ext.new ⟨e3.bt.trans e4.bt,e4.tp⟩ hq;let ts:bU K H2 (upd (upd H4 q (.v [oR tg,.u (1+pt)])) ol (.j (xs++[.y q]))):=bU.put (e5.ts e2.tp) (.x (by rw[aK nq,Ie];show trivial));show Ak _ _ ⟨⟨λ b o hb e=>?_,?_⟩,outs++[(tg,1+pt)],xs++[.y q],aD,?_,by simp[io],?_,_,_,_,Y⟩
   ·rw[aK (aM e At)];show e5.bt b o hb (e2.bt b o hb e)
   ·show e5.tp.put no (gP.ne_sl tp At)
   ·rw[Ñ];show ď (Ú (ds:=[VR tg,.u (1+pt)]) (bU.put (bU.refl _) (.x (by rw[aK nq,Ie];show trivial)) _ _ (Ï aD)) (.B (Is.tgOf tg) (.B (Is.i _) .nil))) (Ò ts _ _ hl)
   ·intro o ho;rcases ë.mp ho with ho|ho
    ·show hok o ho
    ·rw[ã.mp ho];show⟨λ z hz=>htg z hz,by change 1<=1+pt;lia,by change 1+pt<=60;lia⟩
  ·rintro ac H2 zQ;let⟨e2,outs,xs,ho,hl,io,hok,v4,v5,v6,Y⟩:=zQ;show(bO _ Y (eO ol _ Y (.p ⟨É ho,λ l Ig=>?_⟩)));show k outs _ _ (e2.new Ig) (λ z=>by rw[z]at io;simp at io;lia) JM hok (Ú (Ï aD) (Ò (È Ig).ts _ _ hl))
end Tw
namespace L2
def R4 {D:Ends} (I:St->Hp->Prop) (h1:∀ D':Ends,(∀ ac H',I ac H'->D'.nx ac H')->NZ c a b D' σ H) (h2:∀ ac H',I ac H'->D.nx ac H'):NZ c a b D σ H:=h1 D h2
def YF {D:Ends}{H:Hp} (I:St->Hp->Prop) (h1:∀ D':Ends,(∀ ac H',I ac H'->D'.nx ac H')->X0 i g b D' σ H) (h2:∀ ac H',I ac H'->D.nx ac H'):X0 i g b D σ H:=h1 D h2
def B2 {D:Ends} (I:St->Hp->Prop) (h1:∀ D':Ends,(∀ ac H',I ac H'->D'.nx ac H')->s D' σ H) (h2:∀ ac H',I ac H'->R D ac H'):jG s R D σ H:=h1 _ h2
end L2
namespace Tw
open PySem L2
section
def R3  (ha:Gn t sl σ H0 (fG 0 y) a) (e:Ext t sl H0 H) (k:∀(b:Bool) H',Ext t sl H0 H'->cI t H H'->if b=EA then t' D' σ H' else u' D' σ H'):NZ (zB (lC ZY a (tC (.u c0)))) t' u' D' σ H:=
 II ha H _ e λ v H' e' b ⟨c,hc⟩=>⟨c,hc,k c H' e' b⟩
def MP  (bf:σ[i]?=O (O (.bl s))) (ha:Gn t sl σ H0 (fG 0 2) a):Gn t sl σ H0 (fG 0 2) (lC (rI GG λ i j=>.int (i * j)) a (SN OT (dJ (VS (eB i)) jC))):=by
 intro H Q e k;show ha H _ e λ v1 H1 e1 b1 ⟨j,hj,j0,j1⟩=>⟨_,bf,s,Y,.x ⟨!s,Y,?_⟩⟩;subst hj;show(eO j _ Y ⟨Y,.p ⟨JM,JM⟩,k _ H1 e1 b1 ?_⟩);cases s
 ·show⟨j,JN,j0,j1⟩
 ·show⟨0,JN,JM,JM⟩
def RD  (hj:σ[j]?=O (O (.u y))):Gn t sl σ H0 (fG (x - y) (x - y+1)) (lC (BF λ i j=>.int (i - j)) (tC (.u x)) (eB j)):=λ H Q e k=>
 ⟨_,hj,x,y,rfl,rfl,k _ H e (Đ H) ⟨_,rfl,JM,JM⟩⟩
def KJ  (hj:σ[j]?=O (O (.u y))) (hb:Gn t sl σ H0 (fG l h) b):Gn t sl σ H0 (fG (y+l) (y+h)) (lC (BF λ i j=>.int (i+j)) (eB j) b):=
 pX (D4 (x:=y) (y:=y+1) (gn_v hj (bO y rfl ⟨JM,JM⟩)) hb) JM JM
end
structure VFull (i:Nat) (v:Vs):Prop where
 sz:v.S<=60
 br:v.S<=v.brim
 bh:v.brim<=200
 sp:∀ t,v.spill=O t->(i:Int) < t
structure NetFull (net:Net):Prop where
 vs:∀ i v,net.vs[i]?=O v->VFull i v
 sps:∀ s∈net.sps,0<=s.2.1/\s.2.1<=60
def DY (K:Ç):Sp:=λ args H Q _=>∃(t sl:Á) (i n m:Nat) (jz:Bool),args=[.y t,.u (i:Int),.u (n:Int),.u (m:Int),.bl jz]/\gP H t sl/\i < n/\n<=12/\m<=12/\
 ∀(v:Vs) p H',Ext t sl H H'->VOk n m v->VFull i v->Is K H' (AH v) p->Q p H'
def xN (F:Fun K "_law_vessel" "_law_vessel" (aX 101) f fd) (T:Txt mg) (ib:Callee P w K mg base "_law_draw" ["tape","many"] 1 mB fD Ba)
  (vg:Callee P w K mg base "_law_outs" ["tape","many","small"] 2 (O8 K) fO On):FnOk P w K mg base gT 3 f fd ["tape","number","many","spouts","small"] (DY K):=by
 show F.ok ["tape","number","many","spouts","small","size","brim","spill","acts","k"] λ sc ir A outer s H vs Q E hr h=>?_
 ·let⟨t,sl,i,n,m,jz,Y,tp,hi,hn,hm,k⟩:=h;refine⟨_,(aE (pL 5 sc.nd (bA dM aH (px K (aY (a9 (cD ib hr (a9 (pv 0) (a9 (px K (aY (a9 aH (a9 aH aB))) (aP iE Y T.b_int j7 (a9 (pv 4) aB))) aB))) (a9 (cD ib hr (a9 (pv 0) (a9 (px K (aY (a9 aH (a9 aH aB))) (aP iE Y T.b_int j7 (a9 (pv 4) aB))) aB))) aB))) (bA mM (cD ib hr (a9 (pv 0) (a9 aH aB))) aH))))
   (aE (pL 6 sc.nd (bA dM (pv 5) (px K (aY (a9 aH (a9 (cD ib hr (a9 (pv 0) (a9 (bA iM aH (pv 5)) aB))) aB))) (bA qG (cD ib hr (a9 (pv 0) (a9 aH aB))) (aP iE Y T.b_int j7 (a9 (BM (pv 4)) aB))))))
   (aE (bK (aR eA (cD ib hr (a9 (pv 0) (a9 aH aB))) aH (aW _)) (aG (pL 6 sc.nd (bA dM (pv 5) (cD ib hr (a9 (pv 0) (a9 aH aB)))))) aS)
   (aE (pL 7 sc.nd eQ)
   (aE (bK (Ď (qE (aR ER (bA dM (pv 1) aH) (pv 2) (aW _)) (mJ (aR eA (cD ib hr (a9 (pv 0) (a9 aH aB))) aH (aW _))))) (aG (pL 7 sc.nd (bA dM (bA dM (pv 1) aH) (cD ib hr (a9 (pv 0) (a9 (bA iM (bA iM (pv 2) (pv 1)) aH) aB)))))) aS)
   (aE (pL 8 sc.nd (aY aB))
   (aE (bK (aR rX (pv 3) aH (aW _)) (aG (eE ú Y (eX Y T.b_range (a9 (bA mM (cD ib hr (a9 (pv 0) (a9 aH aB))) aH) aB)) (gL 9 sc.nd) (aG (bL (eF (K:=K) Y í ö ø bW (pv 8) (a9 (bG (a9 (px K (aY (a9 aL (a9 aL (a9 aL aB)))) (cD ib hr (a9 (pv 0) (a9 aH aB)))) (a9 (cD ib hr (a9 (pv 0) (a9 (pv 3) aB))) aB))) aB)))))) aS)
   (aG (aO (bG (a9 (pv 5) (a9 (pv 6) (a9 (cD vg hr (a9 (pv 0) (a9 (pv 2) (a9 (pv 4) aB)))) (a9 (fH eA (cD ib hr (a9 (pv 0) (a9 aH aB))) aH (aW _)) (a9 (pv 7) (a9 (aP (dU (K:=K) Y) Y T.b_tuple dY (a9 (pv 8) aB)) aB)))))))))))))))),?_⟩
  show D4 (t:=t) (sl:=sl) (H0:=H) (x:=1) (y:=2) (l:=0) (h:=60) (y4 (bO 1 Y ⟨JM,JM⟩))
   (jZ (pX (oI (lo:=4) (hi:=10) rfl JL JL (vD rfl ⟨JL,JL⟩ ⟨JL,JL⟩)) (û _) JL)
    (pX (oI (lo:=4) (hi:=61) rfl JL JL (vD rfl ⟨JL,JL⟩ ⟨JL,JL⟩)) (û _) JL) (vE (cJ rfl JL JL))) _ _ ⟨Đ _,tp⟩ ?_
  rintro v H1 e1 _ zQ;let⟨size,Y,s0,s1⟩:=zQ;show KJ (t:=t) (sl:=sl) (H0:=H) (y:=size) (l:=0) (h:=201 - size) Y (jZ (y4 (bO 0 Y ⟨JM,JM⟩))
   (pX (oI (lo:=201 - size) (hi:=201 - size+1) Y JM JM (RD Y)) (û _) JM) (MP Y (cJ Y JL JL))) _ _ e1 ?_
  rintro v H2 e2 _ zQ;let⟨brim,Y,br0,br1⟩:=zQ;dsimp only[jG,pD,tC,cZ];show R4 (λ ac H'=>Ext t sl H H'/\∃ brim,size<=brim/\brim<=200/\ac=[O (.y t),O (.u (i:Int)),O (.u (n:Int)),O (.u (m:Int)),O (.bl jz),O (.u size),O (.u brim),W,W,W]) (λ D' hD=>?_) ?_
  ·show R3 (t:=t) (sl:=sl) (H0:=H) (cJ Y JL JL) e2 λ b H3 e3 _=>?_;cases b with
   |false=>show bR (hD _ _ ⟨e3,brim,JM,JM,Y⟩)
   |true=>
    show cH ?_;show KJ (t:=t) (sl:=sl) (H0:=H) (y:=size) (l:=0) (h:=3) Y (cJ Y JL JL) _ _ e3 ?_;rintro v H4 e4 _ zQ;let⟨b2,Y,c0,c1⟩:=zQ;show hD _ _ ⟨e4,b2,JM,JM,Y⟩
  rintro aq H3 zQ;let⟨e3,brim,Lp,sw,Y⟩:=zQ;dsimp only[jG,pD,tC,cZ];show R4 (λ ac H'=>Ext t sl H H'/\∃ sp:Option Int,(∀ z,sp=O z->(0<=z/\z < n)/\(i:Int) < z)/\ac=[O (.y t),O (.u (i:Int)),O (.u (n:Int)),O (.u (m:Int)),O (.bl jz),O (.u size),O (.u brim),O (oR sp),W,W]) (λ D' hD=>?_) ?_
  ·show(bO _ Y (eO _ _ Y ⟨Y,(bO _ Y (eO _ _ Y ⟨Y,(bO _ Y ?_)⟩))⟩));show iN (λ ki=>?_) (λ _=>bR (hD _ _ ⟨e3,W,(λ z h=>nomatch h),Y⟩));let Ay:(i:Int)+1 < n:=ð ki;show II (t:=t) (sl:=sl) (H0:=H) (cJ Y JL JL) _ _ e3 ?_;rintro v H4 e4 _ ⟨b,rfl⟩;show(bO b Y ?_);cases b with
   |false=>show bR (hD _ _ ⟨e4,W,(λ z h=>nomatch h),Y⟩)
   |true=>
    show cH ?_;show(bO _ Y (eO _ _ Y ⟨Y,(bO _ Y (bO _ Y (bO _ Y (eO _ _ Y ⟨Y,(eO _ _ Y ⟨Y,t,sl,(n:Int) - i - 1,Y,e4.tp,JM,JM,λ r H5 b5 t5 r0 r1=>(eO _ _ Y ⟨Y,?_⟩)⟩)⟩))))⟩));show hD _ _ ⟨⟨e4.bt.trans b5,t5⟩,O ((i:Int)+1+r),λ z h=>by ext h;lia,Y⟩
  rintro σ4 H4 ⟨e4,sp,lw,rfl⟩;refine⟨ß _,λ al yo=>?_⟩;dsimp only[jG,pD,tC,cZ];let Uq:H al=none:=e4.bt.free (e4.ne yo) yo;let Fq:al≠t:=e4.ne yo;show R4 (λ ac H'=>Ext t sl H H'/\∃(acts:List (Str×Int)) (xs:List V),H' al=O (.j xs)/\L2.IsL K H' (acts.map DK) xs/\acts.Z<=3/\(∀ a∈acts,ActOk m a)/\
   ∃ v9,ac=[O (.y t),O (.u (i:Int)),O (.u (n:Int)),O (.u (m:Int)),O (.bl jz),O (.u size),O (.u brim),O (oR sp),O (.y al),v9]) (λ D' hD=>?_) ?_
  ·show(bO _ Y (eO _ _ Y ⟨Y,(bO _ Y ?_)⟩));show iN (λ ki=>?_) (λ _=>hD _ _ ⟨e4.new yo,[],[],aD,.nil,JN,λ a ha=>(nomatch ha),W,Y⟩);let wf:(0:Int) < m:=ð ki;show RG (t:=t) (sl:=sl) (H0:=H) JL JL (cJ (m:=11) Y JL JL) _ _ (e4.new yo) ?_;rintro v H5 e5 b5 zQ;let⟨c,Y,c0,c1⟩:=zQ;show(bO _ Y ⟨JM,JM,?_⟩);show mQ (lo:=0) (n:=(c / 3).toNat) (λ j ac H'=>Ext t sl H H'/\∃(acts:List (Str×Int)) (xs:List V),H' al=O (.j xs)/\L2.IsL K H' (acts.map DK) xs/\acts.Z=j/\(∀ a∈acts,ActOk m a)/\
    ∃ v9,ac=[O (.y t),O (.u (i:Int)),O (.u (n:Int)),O (.u (m:Int)),O (.bl jz),O (.u size),O (.u brim),O (oR sp),O (.y al),v9]) ?_ ?_ ?_
   ·refine⟨e5,[],[],b5 al _ Fq aD,.nil,Y,λ a ha=>(nomatch ha),W,Y⟩
   ·rintro DD j - Ak ac H6 hj ⟨e6,acts,xs,ha,hl,io,hok,v9,rfl⟩;show(bO _ Y ⟨.p ⟨Y,_,É ha⟩,?_⟩);show FV (t:=t) (sl:=sl) (H0:=H) (P:=λ v=>∃ wd:Str,v=.o wd/\(wd="open" \/ wd="shut" \/ wd="turn")) (y4 (bO _ Y (.p Y))) (y4 (bO _ Y (.x (.p Y)))) (y4 (bO _ Y (.x (.x Y)))) (cJ Y JL JL) _ _ e6 ?_;rintro v H7 e7 b7 zQ;let⟨wd,Y,Ih⟩:=zQ;show oH (t:=t) (sl:=sl) (H0:=H) (m:=(m:Int)) Y Y wf JM _ _ e7 ?_;rintro v H8 e8 b8 zQ;let⟨r,Y,r0,r1⟩:=zQ;refine⟨(sz0 2),λ q hq=>?_⟩;let Ou:H8 al=O (.j xs):=b8 al _ Fq (b7 al _ Fq ha);let nq:al≠q:=aM Ou hq;let Hv:xs.Z=acts.Z:=by rw[hl.Z,Ê]
    refine⟨al,xs,_,Y,Y,by rw[aK nq];show Ou,bB JM,?_⟩;let e9:Ext t sl H (upd H8 q (.v [.o wd,.u r])):=e8.new hq;let mt:lX (upd H8 q (.v [.o wd,.u r]) al):=by rw[aK nq,Ou];show trivial
    let ts:bU K H6 (upd (upd H8 q (.v [.o wd,.u r])) al (.j (xs++[.y q]))):=bU.put (((b7.trans b8).trans (È hq).but).ts e6.tp.mut) (.x mt);show Ak _ _ ⟨⟨λ b o hb e=>?_,e9.tp.put Fq (gP.ne_sl tp Uq)⟩,acts++[(wd,r)],xs++[.y q],aD,?_,by simp[io],?_,_,Y⟩
    ·rw[aK (aM e Uq)];show e9.bt b o hb e
    ·rw[Ñ];show ď (Ú (ds:=[.o wd,.u r]) (bU.put (bU.refl _) (.x mt) _ _ (Ï aD)) (.B (Is.s _) (.B (Is.i _) .nil))) (Ò ts _ _ hl)
    ·intro a Ca;rcases ë.mp Ca with Ca|Ca
     ·show hok a Ca
     ·rw[ã.mp Ca];refine⟨Ih,r0,r1⟩
   ·rintro ac H6 zQ;let⟨e6,acts,xs,ha,hl,io,hok,v9,Y⟩:=zQ;show hD _ _ ⟨e6,acts,xs,ha,hl,JM,hok,v9,Y⟩
  rintro fj H5 zQ;let⟨e5,acts,xs,ha,hl,io,hok,v9,Y⟩:=zQ;show(bO _ Y (bO _ Y (bO _ Y (bO _ Y (bO _ Y (MS t sl n jz Y ⟨e5.tp,JM,hn,λ outs p H6 e6 o1 o2 o3 hp=>?_⟩))))));show II (t:=t) (sl:=sl) (H0:=H) (cJ Y JL JL) _ _ ⟨e5.bt.trans e6.bt,e6.tp⟩ ?_;rintro v H7 e7 b7 ⟨b,rfl⟩;let ha7:H7 al=O (.j xs):=b7 al _ Fq (e6.bt al _ Fq ha);let b57:cI t H5 H7:=e6.bt.trans b7;show(bO _ Y (bO _ Y (eO al _ Y (.p ⟨É ha7,λ q hq=>⟨(sz0 6),λ r xg=>?_⟩⟩))));let m1:=È (o:=HO.tup xs) hq;let m2:aI (upd H7 q (.v xs)) (upd (upd H7 q (.v xs)) r (.v [.u size,.u brim,p,.bl b,oR sp,.y q])):=È xg;show k ⟨size,brim,outs,b,sp,acts⟩ _ _ ((e7.new hq).new xg) ⟨s0,o1,o2,o3,λ z h=>(lw z h).1,io,hok⟩ ⟨by change size<=60;lia,Lp,sw,λ z h=>(lw z h).2⟩ ?_;show Ú (Ï aD) (.B (Is.i _) (.B (Is.i _) (.cons ?_ (.B (Is.b _) (.B (Is.tgOf _) (.cons ?_ .nil))))))
  ·show Ì m2.ts _ _ (Ì m1.ts _ _ (Ì (b7.ts e6.tp.mut) _ _ hp))
  ·show Ì m2.ts _ _ (Ú (Ï aD) (Ò m1.ts _ _ (Ò (b57.ts e5.tp.mut) _ _ hl)))
def Ext.put  (e:Ext t sl H H') (tp:gP H t sl) (hp:H p=W):Ext t sl H (upd H' p o):=
 ⟨λ b u hb e1=>by rw[aK (aM e1 hp)];show e.bt b u hb e1,e.tp.put (λ z=>by let⟨o,h⟩:=tp.some;rw[z,h]at hp;ext hp) (gP.ne_sl tp hp)⟩
def Ext.trans  (a:Ext t sl H H1) (b:Ext t sl H1 H2):Ext t sl H H2:=⟨a.bt.trans b.bt,b.tp⟩
def OA (K:Ç):Sp:=λ args H Q _=>∃(t sl:Á) (il:Int) (jz:Bool),args=[.y t,.u il,.bl jz]/\1<=il/\il<=12/\gP H t sl/\
 ∀(net:Net) p H',Ext t sl H H'->NetOk net->NetFull net->(net.vs.Z:Int)<=il->Is K H' (gE net) p->Q p H'
def CL (F:Fun K "_law_net" "_law_net" (aX 102) f fd) (T:Txt mg) (ib:Callee P w K mg base "_law_draw" ["tape","many"] 1 mB fD Ba)
  (sj:Callee P w K mg base "_law_vessel" ["tape","number","many","spouts","small"] 3 (DY K) fV fdV):FnOk P w K mg base gT 4 f fd ["tape","most","small"] (OA K):=by
 show F.ok ["tape","most","small","many","spouts","vessels","found","k","flow"] λ sc ir A outer s H vs Q E hr h=>?_
 ·let⟨t,sl,il,jz,Y,mo1,mo2,tp,k⟩:=h;show⟨_,(aE (wQ (i:=3) sc.nd Y (Or.inr Y) (bA dM aH (cD ib hr (a9 (pv 0) (a9 (pv 1) aB)))))
   (aE (wQ (i:=4) sc.nd Y (Or.inr Y) (px K (aY (a9 (cD ib hr (a9 (pv 0) (a9 aH aB))) (a9 (cD ib hr (a9 (pv 0) (a9 aH aB))) aB))) (bA mM (cD ib hr (a9 (pv 0) (a9 aH aB))) aH)))
   (aE (jS (i:=5) sc.nd Y Y (λ _ _ h=>h) Y (LcOk.mk (N':=["k","tape","many","spouts","small"]) (fr:=[W,O 0,O 3,O 4,O 2]) Y ⟨Y,Y,Y,Y,trivial⟩ Y Y Y Y Y ⟨⟨_,Y,Y,Y,Y⟩,⟨_,Y,Y,Y,Y⟩,⟨_,Y,Y,Y,Y⟩,⟨_,Y,Y,Y,Y⟩,trivial⟩) (eX Y T.b_range (a9 (pv 3) aB)) (λ _ _ _=>(gC 0 ["k","tape","many","spouts","small"])) (λ _ _ _=>cP) (λ _ _ _=>(cD sj hr (a9 (pv 1) (a9 (pv 0) (a9 (pv 2) (a9 (pv 3) (a9 (pv 4) aB))))))))
   (aE (pL 6 sc.nd (aY aB))
   (aE (eE ú Y (eX Y T.b_range (a9 (pv 4) aB)) (gL 7 sc.nd) (aE (pL 8 sc.nd (px K (aY (a9 (cD ib hr (a9 (pv 0) (a9 aH aB))) (a9 (cD ib hr (a9 (pv 0) (a9 (px K (aY (a9 aH (a9 aH aB))) (aP iE Y T.b_int j7 (a9 (pv 2) aB))) aB))) aB))) (bA mM (cD ib hr (a9 (pv 0) (a9 aH aB))) aH)))
   (aG (bL (eF (K:=K) Y í ö ø bW (pv 6) (a9 (bG (a9 (cD ib hr (a9 (pv 0) (a9 (pv 3) aB))) (a9 (pv 8) (a9 (fH rX (cD ib hr (a9 (pv 0) (a9 aH aB))) aH (aW _)) aB)))) aB))))))
   (aG (aO (bG (a9 (aP (dU (K:=K) Y) Y T.b_tuple dY (a9 (pv 5) aB)) (a9 (aP (dU (K:=K) Y) Y T.b_tuple dY (a9 (pv 6) aB)) aB)))))))))),?_⟩
  show D4 (t:=t) (sl:=sl) (H0:=H) (x:=1) (y:=2) (l:=0) (h:=il) (y4 (bO 1 Y ⟨JM,JM⟩)) (oH (m:=il) Y Y JM JM) _ _ ⟨Đ _,tp⟩ ?_;rintro v H1 e1 _ zQ;let⟨n',Y,n0,n1⟩:=zQ;let⟨n,Y⟩:=Ē (show 0<=n' by lia);show jZ (t:=t) (sl:=sl) (H0:=H) (P:=fG 0 13) (pX (cJ Y JL JL) (û _) JL) (cJ Y JL JL) (vE (cJ Y JL JL)) _ _ e1 ?_;rintro v H2 e2 _ zQ;let⟨m',Y,m0,m1⟩:=zQ;let⟨m,Y⟩:=Ē m0;show(bO _ Y (bO _ Y ⟨JM,JM,?_⟩));show xS (n:=n) (λ D i r ac H'=>H2 D=W/\Ext t sl H H'/\H' D=O (.j r)/\∃ vs:List Vs,vs.Z=i/\L2.IsL K H' (vs.map AH) r/\(∀ v∈vs,VOk n m v)/\(∀ i v,vs[i]? = O v->VFull i v)/\∃ v0,ac=[v0,O (.y t),O (.u (n:Int)),O (.u (m:Int)),O (.bl jz)])
   (λ D hD=>⟨hD,e2.new hD,aD,[],rfl,.nil,(λ v hv=>nomatch hv),(λ i v hv=>by simp at hv),W,rfl⟩) ?_ ?_
  rotate_left
  ·rintro D i r ac H3 hi zQ;let⟨hD,e3,hl,vs,io,Cb,hok,Ov,v0,Y⟩:=zQ;show gN ?_;show(bO _ Y (bO _ Y (bO _ Y (bO _ Y (bO _ Y (eA6 t sl i n m jz Y ⟨e3.tp,hi,JM,JM,λ v p H4 e4 yp Ow hp=>?_⟩))))));let nD:D≠t:=e2.ne hD;let fD:H D=none:=e2.bt.free nD hD;let yq:H4 D=O (.j r):=e4.bt D _ nD hl;let pk:r.Z=vs.Z:=by rw[Cb.Z,Ê]
   let mt:lX (H4 D):=by rw[yq];show trivial
   show⟨yq,bB JM,hD,(e3.trans e4).put tp fD,aD,vs++[v],by simp[io],?_,?_,?_,_,Y⟩
   ·rw[Ñ];show ď (Ì (bU.put (bU.refl _) (.x mt)) _ _ hp) (Ò (bU.put (e4.bt.ts e3.tp.mut) (.x mt)) _ _ Cb)
   ·intro u hu;rcases ë.mp hu with hu|hu
    ·show hok u hu
    ·rw[ã.mp hu];show yp
   ·intro j u hu;rcases Nat.lt_or_ge j vs.Z with hj|hj
    ·rw[š hj]at hu;show Ov j u hu
    ·rw[Š hj]at hu;let e0:j - vs.Z=0:=by
      rcases Nat.eq_zero_or_pos (j - vs.Z)with h|h
      ·show h
      ·rw[ž (show[v].length<=j - vs.Z from h)]at hu;cases hu
     rw[e0]at hu;let e1:j=i:=by lia
     ext hu;rw[e1];show Ow
  rintro D r ac H3 zQ;let⟨hD,e3,hl,vs,io,Cb,hok,Ov,_⟩:=zQ;let nD:D≠t:=e2.ne hD;let fD:H D=none:=e2.bt.free nD hD;show⟨ß _,λ fl zo=>?_⟩;let nf:fl≠t:=e3.ne zo;let ff:H fl=none:=e3.bt.free nf zo;let Ur:D≠fl:=aM hl zo;show(bO _ Y (bO _ Y ⟨JM,JM,?_⟩));show mQ (lo:=0) (n:=m) (λ j ac H'=>Ext t sl H H'/\H' D=O (.j r)/\L2.IsL K H' (vs.map AH) r/\∃(sps:List oP) (xs:List V),H' fl=O (.j xs)/\L2.IsL K H' (sps.map SO) xs/\sps.Z=j/\(∀ s∈sps,(0<=s.1/\s.1 < n)/\0<=s.2.1/\s.2.1<=60)/\
   ∃ v7 v8,ac=[O (.y t),O (.u il),O (.bl jz),O (.u (n:Int)),O (.u (m:Int)),O (.y D),O (.y fl),v7,v8]) ?_ ?_ ?_
  ·show⟨e3.new zo,by rw[aK Ur];show hl,Ò (È zo).ts _ _ Cb,[],[],aD,.nil,Y,(λ s hs=>nomatch hs),W,W,Y⟩
  ·rintro DD j - Ak ac H4 hj ⟨e4,yq,Ox,sps,xs,Lq,Cy,zp,Bb,v7,v8,rfl⟩;show jZ (t:=t) (sl:=sl) (H0:=H) (P:=fG 0 61) (pX (cJ Y JL JL) (û _) JL)
    (pX (oI (lo:=4) (hi:=62) rfl JL JL (vD rfl ⟨JL,JL⟩ ⟨JL,JL⟩)) (û _) JL) (vE (cJ rfl JL JL)) _ _ e4 ?_
   rintro v H5 e5 b5 zQ;let⟨zq,Y,fl0,fl1⟩:=zQ;let hf5:H5 fl=O (.j xs):=b5 fl _ nf Lq;show(bO _ Y ⟨.p ⟨Y,_,É hf5⟩,?_⟩);show oH (t:=t) (sl:=sl) (H0:=H) (m:=(n:Int)) Y Y JM JM _ _ e5 ?_;rintro v H6 e6 b6 zQ;let⟨tg,Y,tg0,tg1⟩:=zQ;show(bO _ Y ?_);show YE (t:=t) (sl:=sl) (H0:=H) (cJ Y JL JL) _ _ e6 ?_;rintro v H7 e7 b7 ⟨dr,rfl⟩;show⟨(sz0 3),λ q hq=>?_⟩;let Oy:cI t H4 H7:=b5.trans (b6.trans b7);let Oz:H7 fl=O (.j xs):=Oy fl _ nf Lq;let Us:H7 D=O (.j r):=Oy D _ nD yq;let nq:fl≠q:=aM Oz hq;let nDq:D≠q:=aM Us hq;let Hv:xs.Z=sps.Z:=by rw[Cy.Z,Ê]
   show⟨fl,xs,_,Y,Y,by rw[aK nq];show Oz,bB JM,?_⟩;let mt:lX (upd H7 q (.v [.u tg,.u zq,.bl dr]) fl):=by rw[aK nq,Oz];show trivial
   let ts:bU K H4 (upd (upd H7 q (.v [.u tg,.u zq,.bl dr])) fl (.j (xs++[.y q]))):=bU.put ((Oy.trans (È hq).but).ts e4.tp.mut) (.x mt);show Ak _ _ ⟨(e7.new hq).put tp ff,by rw[aK Ur,aK nDq];show Us,Ò ts _ _ Ox,sps++[(tg,zq,dr)],xs++[.y q],aD,?_,by simp[zp],?_,_,_,Y⟩
   ·rw[Ñ];show ď (Ú (ds:=[.u tg,.u zq,.bl dr]) (bU.put (bU.refl _) (.x mt) _ _ (Ï aD)) (.B (Is.i _) (.B (Is.i _) (.B (Is.b _) .nil)))) (Ò ts _ _ Cy)
   ·intro s hs;rcases ë.mp hs with hs|hs
    ·show Bb s hs
    ·rw[ã.mp hs];show⟨⟨tg0,tg1⟩,fl0,show zq<=60 by lia⟩
  ·rintro ac H4 zQ;let⟨e4,yq,Ox,sps,xs,Lq,Cy,zp,Bb,v7,v8,Y⟩:=zQ;show(bO _ Y (eO D _ Y (.p ⟨É yq,λ q1 Av=>(bO _ Y (eO fl _ Y (.p ⟨É (È Av _ _ Lq),λ q2 xf=>⟨(sz0 2),λ q3 Lj=>?_⟩⟩)))⟩)));let m1:aI H4 (upd H4 q1 (.v r)):=È Av;let m2:aI (upd H4 q1 (.v r)) (upd (upd H4 q1 (.v r)) q2 (.v xs)):=È xf;let m3:aI (upd (upd H4 q1 (.v r)) q2 (.v xs)) (upd (upd (upd H4 q1 (.v r)) q2 (.v xs)) q3 (.v [.y q1,.y q2])):=È Lj;show k ⟨vs,sps⟩ _ _ (((e4.new Av).new xf).new Lj) ⟨by change 1<=vs.Z;lia,by change vs.Z<=12;lia,by change sps.Z<=12;lia,λ v hv=>by rw[io,zp];show hok v hv,λ s hs=>by rw[io];show(Bb s hs).1⟩ ⟨Ov,λ s hs=>(Bb s hs).2⟩ (by change (vs.Z:Int)<=il;lia) ?_;show Ú (Ï aD) (.B (Ú (m3.tup (m2.tup (Ï aD))) ?_) (.B (Ú (m3.tup (Ï aD)) ?_) .nil))
   ·show Ò m3.ts _ _ (Ò m2.ts _ _ (Ò m1.ts _ _ Ox))
   ·show Ò m3.ts _ _ (Ò m2.ts _ _ (Ò m1.ts _ _ Cy))
theorem XF:∀ n:Nat,(List.replicate n [V.int 0]).flatten=(List.replicate n (0:Int)).map V.int
 |0=>rfl
 |n+1=>by rw[ġ,ġ,Ŗ,XF n,Ø];rfl
def cA (n:Nat):List Int:=List.replicate n 0
def qX (K:Ç):Sp:=λ args H Q _=>∃(x:V) (net:Net),args=[x]/\Is K H (gE net) x/\NetOk net/\
 ∀ p H',aI H H'->Is K H' (yG (cA net.vs.Z) (cA net.vs.Z) (net.sps.map (·.2.2))) p->Q p H'
def xG (F:Fun K "first_state" "first_state" (aX 11) f fd) (T:Txt mg):FnOk P w K mg base gT 1 f fd ["net"] (qX K):=by
 show F.ok ["net","vessels","spouts","empty"] λ sc ir A outer s H vs Q E hr h=>?_
 ·let⟨x,net,Y,hx,nok,k⟩:=h;show⟨_,(aE (bF (pv 0) (aV (K:=K) (n:=2) Y Y (aF (gL 1 sc.nd) (aF (gL 2 sc.nd) aQ))))
   (aE (pL 3 sc.nd (bA (PL (K:=K) Y) (bG (a9 aH aB)) (zU K T.b_len (pv 1))))
   (aG (aO (bG (a9 (pv 3) (a9 (pv 3) (a9 (aP (dU (K:=K) Y) Y T.b_tuple dY (a9 (hJ (λ _ _ h=>h) Y (LcOk.mk (N':=["target","flow","door"]) (fr:=[W,W,W]) Y trivial Y Y Y Y Y trivial) (dR (K:=K) Y (pv 2)) (λ _ _ _=>(aV (K:=K) (n:=3) Y Y (aF (gC 0 ["target","flow","door"]) (aF (gC 1 ["target","flow","door"]) (aF (gC 2 ["target","flow","door"]) aQ))))) (λ _ _ _=>cP) (λ _ _ _=>(pv 2))) aB)) aB)))))))),?_⟩
  let⟨a,b,c,xs,ys,Y,q,q1,l1,q2,l2⟩:=j5 hx;let ve:xs.Z=net.vs.Z:=by rw[l1.Z,Ê]
  let Ii:ys.Z=net.sps.Z:=by rw[l2.Z,Ê]
  let n1:=nok.lo;let n2:=nok.hi;let n3:=nok.sp;show⟨_,Y,a,_,Y,q,Y,_,_,Y,_,_,Y,Y,?_⟩;show⟨(sz0 1),λ z hz=>(bO _ Y (eO b xs Y ⟨.x ((È hz).tup q1),(WL z _ [.u 0] Y ⟨Y,Ï aD,JM,JM,JN,JN,λ e H1 pq qe=>?_⟩)⟩))⟩;let s1:aI H H1:=(È hz).trans pq;let en:((xs.Z:Nat):Int).toNat=net.vs.Z:=by rw[ve];simp
  rw[en,XF]at qe;show⟨_,Y,_,Y,_,Y,c,Y,⟨_,s1.tup q2⟩,i9 (K:=K) (a:=c) (xs:=ys) (λ D i r ac H'=>H1 D=W/\aI H1 H'/\H' D=O (.j r)/\r=((net.sps.take i).map (·.2.2)).map V.bl/\∃ u v w,ac=[u,v,w])
   (λ D i r ac H' p=>p.2.1.tup (s1.tup q2)) (λ D hD=>⟨hD,È hD,aD,JN,W,W,W,Y⟩) ?_ ?_⟩
  rotate_left
  ·rintro D i x r ac H2 hx zQ;let⟨hD,sm,jc,Y,u,v,w',Y⟩:=zQ;let⟨sp,vf,sa,Y,qs⟩:=AL l2 hx;let we:=(à.mp vf).1;show(eO sa _ Y ⟨sm.tup (s1.tup qs),Y,(eO _ _ Y (eO _ _ Y (eO _ _ Y ⟨Y,?_⟩)))⟩);show GI ⟨_,Y,jc,bB (by simp;lia),hD,sm.put hD,aD,?_,_,_,_,Y⟩;rw[cS vf];simp
  ·rintro D r ac H2 zQ;let⟨hD,sm,jc,Y,_⟩:=zQ;rw[Ii,ý]at jc;show(eO D _ Y (.p ⟨É jc,λ d hd=>⟨(sz0 3),λ r xg=>?_⟩⟩));let m1:aI H2 (upd H2 d (.v ((net.sps.map (·.2.2)).map V.bl))):=È hd;let m2:aI (upd H2 d (.v ((net.sps.map (·.2.2)).map V.bl))) (upd (upd H2 d (.v ((net.sps.map (·.2.2)).map V.bl))) r (.v [.y e,.y e,.y d])):=È xg;show k _ _ (((s1.trans sm).trans m1).trans m2) (VX (Ï aD) ?_ ?_ (m2.tup (Ï aD)))
   ·show m2.tup (m1.tup (sm.tup qe))
   ·show m2.tup (m1.tup (sm.tup qe))
def LQ (gs:List (Option Int×Int)):Int:=(gs.map (·.2)).sum
def vP (a b:List (Option Int×Int)):LQ (a++b)=LQ a+LQ b:=by
 unfold LQ;rw[Ñ,ķ]
def vO (v:Vs) (here:Int):LQ (mD v here)=here / whole v.outs * whole v.outs:=by
 unfold mD LQ whole;generalize here / (v.outs.map (·.2)).sum=q
 induction v.outs with
 |nil=>simp
 |cons o r ih=>
  simp only[Ø,ĕ,Int.mul_add];rw[ih]
def Z6 (v:Vs) (h:Int):jK v h+LQ (iA v h)=h:=by
 let e:dC v h % whole v.outs+dC v h / whole v.outs * whole v.outs=dC v h:=by
  rw[Int.mul_comm];show Int.emod_add_mul_ediv _ _
 unfold jK iA
 by_cases t:qT v h=EA
 ·rw[Å t,Å t]
  by_cases q:v.holds=EA
  ·rw[Å q,Å q,þ];change _+(h - dC v h+LQ (mD v (dC v h)))=h;rw[vO];lia
  ·rw[Ä q,Ä q];change _+(h - dC v h+LQ (mD v (dC v h)++_))=h;rw[vP,vO];change 0+(_+(_+(dC v h % whole v.outs+0)))=h;lia
 ·rw[Ä t,Ä t];change _+(h - dC v h+0)=h;lia
theorem vT:∀(vs:List Vs) (hs:List Int),vs.Z=hs.Z->(fB vs hs).sum+LQ (eP vs hs)=hs.sum
 |[],[],_=>rfl
 |[],_::_,h=>by simp at h
 |_::_,[],h=>by simp at h
 |v::vs,b::hs,h=>by
  let ih:=vT vs hs (by simpa using h);let e:=Z6 v b;change jK v b+(fB vs hs).sum+LQ (iA v b++eP vs hs)=b+hs.sum;rw[vP];lia
def IE:∀ n:Nat,(eT n []).sum=0:=by
 intro n;unfold eT dW
 induction n with
 |zero=>rfl
 |succ n ih=>rw[ŋ,Ñ,ķ,ih];rfl
def FN (n:Nat) (g:Option Int×Int) (r:List (Option Int×Int)) :
  (eT n (g::r)).sum=((List.range n).map λ(k:Nat)=>if g.1=O (k:Int)then g.2 else 0).sum+(eT n r).sum:=by
 unfold eT
 induction n with
 |zero=>rfl
 |succ n ih=>
  rw[ŋ,Ñ,Ñ,Ñ,ķ,ķ,ķ,ih];simp only[Ø,Ă,ĕ,List.sum_nil,dW];lia
def UI (n:Nat) (t:Option Int) (a:Int):((List.range n).map λ(k:Nat)=>if t=O (k:Int)then a else 0).sum=(match t with|none=>0|some i=>if 0<=i/\i < n then a else 0):=by
 induction n with
 |zero=>cases t with
  |none=>rfl
  |some i=>show(0:Int)=_;rw[show(match O i with|none=>(0:Int)|some i=>if 0<=i/\i < ((0:Nat):Int)then a else 0)=if 0<=i/\i < ((0:Nat):Int)then a else 0 from rfl,Ä JM]
 |succ n ih=>
  rw[ŋ,Ñ,ķ,ih];cases t with
  |none=>simp
  |some i=>
   simp only[Ø,Ă,ĕ,List.sum_nil,Option.some.injEq]
   by_cases h1:i=(n:Int)
   ·rw[Å h1,Ä JM,Å JM];lia
   ·rw[Ä h1]
    by_cases h2:0<=i/\i < (n:Int)
    ·rw[Å h2,Å JM];lia
    ·rw[Ä h2,Ä JM];lia
theorem vU (n:Nat):∀ gs:List (Option Int×Int),(∀ g∈gs,∀ t,g.1=O t->0<=t/\t < n)->(eT n gs).sum+dW W gs=LQ gs
 |[],_=>by rw[IE];rfl
 |g::r,h=>by
  let ih:=vU n r λ x hx=>h x (Õ _ hx);let hg:=h g è;rw[FN,UI];change _+_+((if g.1=W then g.2 else 0)+dW W r)=g.2+LQ r;let⟨t,a⟩:=g;cases t with
  |none=>simp only[Å];lia
  |some i=>
   let:=hg i rfl;simp only[Å this];rw[Ä JN];lia
def NQ  (ok:VOk n m v) (h:Int):∀ g∈iA v h,∀ t,g.1=O t->0<=t/\t < n:=by
 intro g hg t e;unfold iA at hg;rcases Ð.1 hg with q|q
 ·subst q;show ok.spill t e
 ·split at q
  ·rcases ë.1 q with q|q
   ·unfold mD at q;let⟨o,ho,Y⟩:=Ù.1 q;show(ok.outs o ho).tg t e
   ·split at q
    ·cases q
    ·rw[ã]at q;subst q;cases e
  ·cases q
theorem FU :∀(vs:List Vs) (hs:List Int),(∀ v∈vs,VOk n m v)->∀ g∈eP vs hs,∀ t,g.1=O t->0<=t/\t < n
 |[],_,_,g,hg,_,_=>by simp[eP]at hg
 |_::_,[],_,g,hg,_,_=>by simp[eP]at hg
 |v::vs,b::hs,ok,g,hg,t,e=>by
  rcases ë.1 (show g∈iA v b++eP vs hs from hg)with q|q
  ·show NQ (ok v è) b g q t e
  ·show FU vs hs (λ x hx=>ok x (Õ _ hx)) g q t e
def kept  (nok:NetOk net) (hl:(cG net held coming poured doors).length=net.vs.Z) :
  (cG net held coming poured doors).sum=(l7 net held coming poured doors).held.sum+(l7 net held coming poured doors).coming.sum+(l7 net held coming poured doors).ground:=by
 let a:=vT net.vs _ hl.symm;let b:=vU net.vs.length (eP net.vs (cG net held coming poured doors)) (FU _ _ nok.vs);change _=(fB net.vs _).sum+(eT net.vs.length _).sum+dW W _;lia
theorem tP {ag:Type} (f:ag->L2.D) (hf:∀ a,(f a).depth=0):∀ l:List ag,dF (l.map f)=0
 |[]=>by rw[Ă,dF]
 |a::r=>by rw[Ø,dF,hf,tP f hf r];rfl
set_option tactic.hygienic true in
def MV (i:Int):(L2.D.int i).depth=0:=by rw[L2.D.depth] <;> intros <;> (first|rfl|(intro z;ext z)|(rename_i z;ext z))
set_option tactic.hygienic true in
def RX (i:Bool):(L2.D.bl i).depth=0:=by rw[L2.D.depth] <;> intros <;> (first|rfl|(intro z;ext z)|(rename_i z;ext z))
def yA (held coming:List Int) (doors:List Bool):dF [.v (held.map L2.D.int),.v (coming.map L2.D.int),.v (doors.map L2.D.bl)]=1:=by
 simp only[dF,L2.D.depth,tP _ MV,tP _ RX];rfl
def Y3 (K:Ç):PySem.W.kitOne K (.q "tuple") (.q "tuple")=O true:=by
 unfold PySem.W.kitOne;rw[Å JK]
def QR (K:Ç):PySem.W.kitOne K (.q "bool") (.q "bool")=O true:=by
 unfold PySem.W.kitOne;rw[Å JK]
def QP (K:Ç):PySem.W.kitOne K (.q "int") (.q "bool")=O false:=by
 unfold PySem.W.kitOne;rw[Ä JK];change(if PySem.W.kitMeta "bool" =EA then PySem.W.subIn K (.q "int") (.q "bool")else W)=O JJ;rw[Å JK];change(PySem.fastBuiltinMro "int").map (·.contains (.q "bool"))=O JJ;decide +kernel
def sQ (n:Nat):(List.replicate n EA).all id=true:=by
 rw[Ĕ];intro x hx;rw[ō hx];rfl
end Tw
namespace L2
open PySem PySem.Spec PyProof.Rows TwZ
section
variable {X:Cx}
def bV  (hg:Gl X x) (h:∃ u,X.mg x=O u/\bE v u) (hd:autoParam ((x==("__debug__":Str))=false) _2):PE X (.C x pos) (tC v):=by
 let⟨u,e,r⟩:=h;show U8 hg e r hd
def BR (hK:X.K=K):jJ X (compareOp .In) (rIn K JJ):=by subst hK;show M5
end
def FR {c A B:Prop} [Decidable c] (hc:c) (h:A):if decide c=EA then A else B:=by
 rw[Å (á hc)];show h
end L2
namespace Tw
open PySem L2
structure TxtN (K:Ç) (mg:Str->Option À) (aw:Á):Prop where
 g_MOST_VESSELS:∃ u,mg "MOST_VESSELS"=O u/\bE (.u 12) u
 g_MOST_SPOUTS:∃ u,mg "MOST_SPOUTS"=O u/\bE (.u 12) u
 g_MOST_SIZE:∃ u,mg "MOST_SIZE"=O u/\bE (.u 60) u
 g_MOST_BRIM:∃ u,mg "MOST_BRIM"=O u/\bE (.u 200) u
 g_MOST_OUTS:∃ u,mg "MOST_OUTS"=O u/\bE (.u 3) u
 g_MOST_PARTS:∃ u,mg "MOST_PARTS"=O u/\bE (.u 60) u
 g_MOST_ACTS:∃ u,mg "MOST_ACTS"=O u/\bE (.u 3) u
 g_MOST_FLOW:∃ u,mg "MOST_FLOW"=O u/\bE (.u 60) u
 g_ACT_WORDS:∃ u,mg "ACT_WORDS"=O u/\bE (.y aw) u
 words:∀ H,bH K H aw [.o "open",.o "shut",.o "turn"]
def QO (K:Ç):PySem.W.kitOne K (.q "int") (.q "int")=O true:=by
 unfold PySem.W.kitOne;rw[Å JK]
section
variable {aw:Á}
def sW (K:Ç):Sp:=λ vs H Q _=>∃(a:Á) (xs:List V) (lo hi:Int),vs=[.y a,.u lo,.u hi]/\bH K H a xs/\lo<=(xs.Z:Int)/\(xs.Z:Int)<=hi/\Q (.bl EA) H
def qV:Sp:=λ vs H Q _=>∃(n lo hi:Int),vs=[.u n,.u lo,.u hi]/\lo<=n/\n<=hi/\Q (.bl EA) H
def JD (K:Ç):Sp:=λ vs H Q _=>∃(a:Á) (n:Nat) (o:Option Int×Int),vs=[.y a,.u (n:Int)]/\bH K H a [oR o.1,.u o.2]/\OutOk n o/\Q (.bl EA) H
def JE (K:Ç):Sp:=λ vs H Q _=>∃(a:Á) (m:Nat) (c:Str×Int),vs=[.y a,.u (m:Int)]/\bH K H a [.o c.1,.u c.2]/\ActOk m c/\Q (.bl EA) H
def zJ (K:Ç):Sp:=λ vs H Q _=>∃(a:Á) (n:Nat) (s:oP),vs=[.y a,.u (n:Int)]/\bH K H a [.u s.1,.u s.2.1,.bl s.2.2]/\(0<=s.1/\s.1 < n)/\(0<=s.2.1/\s.2.1<=60)/\Q (.bl EA) H
def wC (K:Ç):Sp:=λ vs H Q _=>∃(x:V) (i n m:Nat) (v:Vs),vs=[x,.u (i:Int),.u (n:Int),.u (m:Int)]/\Is K H (AH v) x/\VOk n m v/\VFull i v/\∀ H',aI H H'->Q (.bl EA) H'
def AS (K:Ç):Sp:=λ vs H Q _=>∃(x:V) (net:Net),vs=[x]/\Is K H (gE net) x/\NetOk net/\NetFull net/\∀ H',aI H H'->Q (.bl EA) H'
def EU (F:Fun K "is_tuple" "is_tuple" (aX 46) f fd) (T:Txt mg):FnOk P w K mg base gT 1 f fd ["thing","least","most"] (sW K):=by
 show F.ok ["thing","least","most"] λ sc ir A outer s H vs Q E hr h=>?_
 ·let⟨a,xs,lo,hi,Y,q,h1,h2,k⟩:=h;show⟨_,(aG (aO (i5 (bJ (j6 (K:=K) Y) Y T.b_isinstance dH (a9 (pv 0) (a9 (jB (v:=.ty "tuple") Y T.b_tuple dY Y) aB))) (iJ (wW wZ wZ (pv 1) (zU K T.b_len (pv 0)) (pv 2)))))),?_⟩;show⟨_,Y,_,"tuple",_,EA,Y,.x ⟨a,xs,Y,q,Y⟩,Y3 K,_,Y,cH ?_⟩;show⟨_,Y,_,Y,a,xs,Y,.x q,_,_,Y,Y,_,Y,FR h1 ⟨_,Y,_,_,Y,Y,?_⟩⟩;change Q (.bl (decide _)) H;rw[á h2];show k
def ET (F:Fun K "is_whole" "is_whole" (aX 47) f fd) (T:Txt mg):FnOk P w K mg base gT 1 f fd ["thing","least","most"] qV:=by
 show F.ok ["thing","least","most"] λ sc ir A outer s H vs Q E hr h=>?_
 ·let⟨n,lo,hi,Y,h1,h2,k⟩:=h;show⟨_,(aG (aO (i5 (bJ (j6 (K:=K) Y) Y T.b_isinstance dH (a9 (pv 0) (a9 (jB (v:=.ty "int") Y T.b_int j7 Y) aB))) (i5 (BM (bJ (j6 (K:=K) Y) Y T.b_isinstance dH (a9 (pv 0) (a9 (jB (v:=.ty "bool") Y T.b_bool vG Y) aB)))) (iJ (wW wZ wZ (pv 1) (pv 0) (pv 2))))))),?_⟩;show⟨_,Y,_,"int",_,EA,Y,.p (.u _),QO K,_,Y,cH ?_⟩;show⟨_,Y,_,"bool",_,JJ,Y,.p (.u _),QP K,_,Y,_,Y,cH ?_⟩;show⟨_,Y,_,Y,_,_,Y,Y,_,Y,FR h1 ⟨_,Y,_,_,Y,Y,?_⟩⟩;change Q (.bl (decide _)) H;rw[á h2];show k
def M8 (F:Fun K "is_out" "is_out" (aX 41) f fd) (T:Txt mg) (U:TxtN K mg aw) (ja:Callee P w K mg base "is_tuple" ["thing","least","most"] 1 (sW K) f1 jf)
  (jb:Callee P w K mg base "is_whole" ["thing","least","most"] 1 qV f2 ka):FnOk P w K mg base gT 2 f fd ["thing","vessel_count"] (JD K):=by
 show F.ok ["thing","vessel_count","target","parts"] λ sc ir A outer s H vs Q E hr h=>?_
 ·let⟨a,n,o,Y,q,ok,k⟩:=h;show⟨_,(aE (bK (fC (dI (cD ja hr (a9 (pv 0) (a9 aH (a9 aH aB)))))) (aG (aO iL)) aS)
   (aE (bF (pv 0) (aV (K:=K) (n:=2) Y Y (aF (gL 2 sc.nd) (aF (gL 3 sc.nd) aQ))))
   (aG (aO (i5 (P6 (fH oC (pv 2) eQ (aW _)) (iJ (cD jb hr (a9 (pv 2) (a9 aH (a9 (bA iM (pv 1) aH) aB)))))) (iJ (cD jb hr (a9 (pv 3) (a9 aH (a9 (bV Y U.g_MOST_PARTS) aB)))))))))),?_⟩
  show⟨_,Y,a,_,2,2,Y,q,(show(2:Int)<=2 by decide),(show(2:Int)<=2 by decide),_,Y,bR ?_⟩;show⟨_,Y,a,_,Y,q,Y,_,_,Y,_,_,Y,Y,?_⟩;let⟨tg,pa⟩:=o;cases tg with
  |none=>
   show⟨_,Y,Y,_,Y,FR Y ⟨_,Y,cH ?_⟩⟩;show⟨_,Y,pa,1,60,Y,ok.lo,ok.hi,k⟩
  |some i=>
   let hi:=ok.tg i rfl;show⟨_,Y,Y,_,Y,bR ⟨_,Y,_,Y,_,_,Y,Y,i,0,_,Y,hi.1,JM,_,Y,cH ?_⟩⟩;show⟨_,Y,pa,1,60,Y,ok.lo,ok.hi,k⟩
def MA (F:Fun K "is_act" "is_act" (aX 42) f fd) (T:Txt mg) (U:TxtN K mg aw) (ja:Callee P w K mg base "is_tuple" ["thing","least","most"] 1 (sW K) f1 jf)
  (jb:Callee P w K mg base "is_whole" ["thing","least","most"] 1 qV f2 ka):FnOk P w K mg base gT 2 f fd ["thing","spout_count"] (JE K):=by
 show F.ok ["thing","spout_count","word","spout"] λ sc ir A outer s H vs Q E hr h=>?_
 ·let⟨a,m,c,Y,q,ok,k⟩:=h;show⟨_,(aE (bK (fC (dI (cD ja hr (a9 (pv 0) (a9 aH (a9 aH aB)))))) (aG (aO iL)) aS)
   (aE (bF (pv 0) (aV (K:=K) (n:=2) Y Y (aF (gL 2 sc.nd) (aF (gL 3 sc.nd) aQ))))
   (aG (aO (i5 (fH (BR (K:=K) Y) (pv 2) (bV Y U.g_ACT_WORDS) (by rfl)) (iJ (cD jb hr (a9 (pv 3) (a9 aH (a9 (bA iM (pv 1) aH) aB)))))))))),?_⟩
  show⟨_,Y,a,_,2,2,Y,q,(show (2:Int)<=2 by decide),(show (2:Int)<=2 by decide),_,Y,bR ?_⟩;show⟨_,Y,a,_,Y,q,Y,_,_,Y,_,_,Y,Y,?_⟩;let ow:WD (.o c.1) [.o "open",.o "shut",.o "turn"]=true:=by
   rcases ok.word with e|e|e <;> rw[e] <;> decide +kernel
  show⟨_,Y,aw,_,Y,.x (U.words _),Y,Y,_,Y,?_⟩;rw[show(if JJ=EA then !WD (V.str c.1) [.o "open",.o "shut",.o "turn"]else WD (V.str c.1) [.o "open",.o "shut",.o "turn"])=EA from ow];show cH ?_;show⟨_,Y,_,Y,_,_,Y,Y,c.2,0,_,Y,ok.lo,by let:=ok.hi;lia,k⟩
def EV (F:Fun K "is_spout" "is_spout" (aX 43) f fd) (T:Txt mg) (U:TxtN K mg aw) (ja:Callee P w K mg base "is_tuple" ["thing","least","most"] 1 (sW K) f1 jf)
  (jb:Callee P w K mg base "is_whole" ["thing","least","most"] 1 qV f2 ka):FnOk P w K mg base gT 2 f fd ["thing","vessel_count"] (zJ K):=by
 show F.ok ["thing","vessel_count","target","flow","door"] λ sc ir A outer s H vs Q E hr h=>?_
 ·let⟨a,n,s,Y,q,ok1,Ut,k⟩:=h;show⟨_,(aE (bK (fC (dI (cD ja hr (a9 (pv 0) (a9 aH (a9 aH aB)))))) (aG (aO iL)) aS)
   (aE (bF (pv 0) (aV (K:=K) (n:=3) Y Y (aF (gL 2 sc.nd) (aF (gL 3 sc.nd) (aF (gL 4 sc.nd) aQ)))))
   (aG (aO (i5 (cD jb hr (a9 (pv 2) (a9 aH (a9 (bA iM (pv 1) aH) aB)))) (i5 (cD jb hr (a9 (pv 3) (a9 aH (a9 (bV Y U.g_MOST_FLOW) aB)))) (iJ (bJ (j6 (K:=K) Y) Y T.b_isinstance dH (a9 (pv 4) (a9 (jB (v:=.ty "bool") Y T.b_bool vG Y) aB)))))))))),?_⟩
  show⟨_,Y,a,_,3,3,Y,q,(show(3:Int)<=3 by decide),(show(3:Int)<=3 by decide),_,Y,bR ?_⟩;show⟨_,Y,a,_,Y,q,Y,_,_,Y,_,_,Y,_,_,Y,Y,?_⟩;show⟨_,Y,_,Y,_,_,Y,Y,s.1,0,_,Y,ok1.1,JM,_,Y,cH ?_⟩;show⟨_,Y,s.2.1,0,60,Y,Ut.1,Ut.2,_,Y,cH ?_⟩;show⟨_,Y,_,"bool",_,EA,Y,.p (.bl _),QR K,k⟩
def BZ (F:Fun K "is_vessel" "is_vessel" (aX 40) f fd) (T:Txt mg) (U:TxtN K mg aw) (ja:Callee P w K mg base "is_tuple" ["thing","least","most"] 1 (sW K) f1 jf)
  (jb:Callee P w K mg base "is_whole" ["thing","least","most"] 1 qV f2 ka) (zr:Callee P w K mg base "is_out" ["thing","vessel_count"] 2 (JD K) f3 oq) (zt:Callee P w K mg base "is_act" ["thing","spout_count"] 2 (JE K) f4 wg) :
  FnOk P w K mg base gT 3 f fd ["thing","number","vessel_count","spout_count"] (wC K):=by
 show F.ok ["thing","number","vessel_count","spout_count","size","brim","outs","holds","spill","acts"] λ sc ir A outer s H vs Q E hr h=>?_
 ·let⟨x,i,n,m,v,Y,hx,ok,fu,k⟩:=h;refine⟨_,(aE (bK (fC (dI (cD ja hr (a9 (pv 0) (a9 aH (a9 aH aB)))))) (aG (aO iL)) aS)
   (aE (bF (pv 0) (aV (K:=K) (n:=6) Y Y (aF (gL 4 sc.nd) (aF (gL 5 sc.nd) (aF (gL 6 sc.nd) (aF (gL 7 sc.nd) (aF (gL 8 sc.nd) (aF (gL 9 sc.nd) aQ))))))))
   (aE (bK (Ď (uF (fC (dI (cD jb hr (a9 (pv 4) (a9 aH (a9 (bV Y U.g_MOST_SIZE) aB)))))) (qD (fC (dI (cD jb hr (a9 (pv 5) (a9 (pv 4) (a9 (bV Y U.g_MOST_BRIM) aB))))))))) (aG (aO iL)) aS)
   (aE (bK (Ď (uF (fC (dI (cD ja hr (a9 (pv 6) (a9 aH (a9 (bV Y U.g_MOST_OUTS) aB)))))) (qD (fC (dI (cD ja hr (a9 (pv 9) (a9 aH (a9 (bV Y U.g_MOST_ACTS) aB))))))))) (aG (aO iL)) aS)
   (aG (aO (i5 (bJ (oZ (K:=K) Y Y) Y T.b_all ŧ (a9 (hJ (λ _ _ h=>h) Y (LcOk.mk (N':=["out","vessel_count"]) (fr:=[W,O 2]) Y ⟨Y,trivial⟩ Y Y Y Y Y ⟨⟨_,Y,Y,Y,Y⟩,trivial⟩) (dR (K:=K) Y (pv 6)) (λ _ _ _=>(gC 0 ["out","vessel_count"])) (λ _ _ _=>cP) (λ _ _ _=>(cD zr hr (a9 (pv 0) (a9 (pv 1) aB))))) aB)) (i5 (bJ (j6 (K:=K) Y) Y T.b_isinstance dH (a9 (pv 7) (a9 (jB (v:=.ty "bool") Y T.b_bool vG Y) aB))) (i5 (P6 (fH oC (pv 8) eQ (aW _)) (iJ (cD jb hr (a9 (pv 8) (a9 (bA dM (pv 1) aH) (a9 (bA iM (pv 2) aH) aB)))))) (iJ (bJ (oZ (K:=K) Y Y) Y T.b_all ŧ (a9 (hJ (λ _ _ h=>h) Y (LcOk.mk (N':=["act","spout_count"]) (fr:=[W,O 3]) Y ⟨Y,trivial⟩ Y Y Y Y Y ⟨⟨_,Y,Y,Y,Y⟩,trivial⟩) (dR (K:=K) Y (pv 9)) (λ _ _ _=>(gC 0 ["act","spout_count"])) (λ _ _ _=>cP) (λ _ _ _=>(cD zt hr (a9 (pv 0) (a9 (pv 1) aB))))) aB)))))))))))),?_⟩
  let⟨va,o,cc,Y,qv,ho,hc⟩:=yW hx;let⟨oa,os,Y,qo,lo⟩:=ho.un;let⟨ca,cs,Y,qc,lc⟩:=hc.un;let Lr:os.Z=v.outs.Z:=by rw[lo.Z,Ê]
  let Dl:cs.Z=v.acts.Z:=by rw[lc.Z,Ê]
  let ne1:1<=v.outs.Z:=by
   rcases Nat.eq_zero_or_pos v.outs.Z with e|e
   ·show absurd (ċ e) ok.ne
   ·show e
  let o3:=ok.o3;let a3:=ok.a3;refine⟨_,Y,va,_,6,6,Y,qv,(show (6:Int)<=6 by decide),(show (6:Int)<=6 by decide),_,Y,bR ?_⟩;refine⟨_,Y,va,_,Y,qv,Y,_,_,Y,_,_,Y,_,_,Y,_,_,Y,_,_,Y,_,_,Y,Y,?_⟩;refine⟨_,Y,v.S,1,60,Y,ok.S,fu.sz,_,Y,bR ?_⟩;refine⟨_,Y,_,Y,v.brim,v.S,200,Y,fu.br,fu.bh,_,Y,bR ?_⟩;refine⟨_,Y,oa,_,1,3,Y,qo,JM,JM,_,Y,bR ?_⟩;refine⟨_,Y,ca,_,0,3,Y,qc,JM,JM,_,Y,bR ?_⟩;refine⟨_,Y,oa,Y,⟨_,qo⟩,i9 (K:=K) (a:=oa) (xs:=os) (λ D i r ac H'=>H D=W/\aI H H'/\H' D=O (.j r)/\r=(List.replicate i EA).map V.bl/\∃ u,ac=[u,O (.u (n:Int))])
   (λ D i r ac H' p=>p.2.1.tup qo) (λ D hD=>⟨hD,È hD,aD,Y,W,Y⟩) ?_ ?_⟩
  rotate_left
  ·rintro D j y r ac H2 hy zQ;let⟨hD,sm,jc,Y,u,Y⟩:=zQ;let⟨ot,Ax,oad,Y,qot⟩:=rT lo hy;let Ij:=(à.mp Ax).1;show gN ?_;refine⟨_,Y,_,Y,oad,n,ot,Y,sm.tup qot,ok.outs _ (Ô Ax),jc,bB (by simp;lia),hD,sm.put hD,aD,?_,_,Y⟩;rw[œ,Ñ];rfl
  rintro D r ac H2 zQ;let⟨hD,mw,jc,Y,_⟩:=zQ;refine⟨JJ,D,_,Y,É jc,_,Y,?_⟩;rw[sQ];show cH ?_;refine⟨_,Y,_,"bool",_,EA,Y,.p (.bl _),QR K,_,Y,cH ?_⟩;cases lw:v.spill with
  |none=>
   rw[lw]at qv;refine⟨_,Y,Y,_,Y,FR Y ⟨_,Y,cH ?_⟩⟩;refine⟨_,Y,ca,Y,⟨_,mw.tup qc⟩,i9 (K:=K) (a:=ca) (xs:=cs) (λ D i r ac H'=>H2 D=W/\aI H2 H'/\H' D=O (.j r)/\r=(List.replicate i EA).map V.bl/\∃ u,ac=[u,O (.u (m:Int))])
    (λ D i r ac H' p=>p.2.1.tup (mw.tup qc)) (λ D hD=>⟨hD,È hD,aD,Y,W,Y⟩) ?_ ?_⟩
   rotate_left
   ·rintro D j y r ac H3 hy zQ;let⟨hD,sm,jc,Y,u,Y⟩:=zQ;let⟨at',Bz,aa,Y,qa⟩:=sR lc hy;let Ij:=(à.mp Bz).1;show gN ?_;refine⟨_,Y,_,Y,aa,m,at',Y,sm.tup (mw.tup qa),ok.acts _ (Ô Bz),jc,bB (by simp;lia),hD,sm.put hD,aD,?_,_,Y⟩;rw[œ,Ñ];rfl
   rintro D r ac H3 zQ;let⟨hD,nj,jc,Y,_⟩:=zQ;refine⟨JJ,D,_,Y,É jc,?_⟩;rw[sQ];show k _ (mw.trans nj)
  |some t=>
   let h1:=ok.spill t lw;let h2:=fu.sp t lw;rw[lw]at qv;refine⟨_,Y,Y,_,Y,bR ⟨_,Y,_,Y,_,_,Y,Y,_,Y,_,_,Y,Y,t,_,_,Y,JM,JM,_,Y,cH ?_⟩⟩;refine⟨_,Y,ca,Y,⟨_,mw.tup qc⟩,i9 (K:=K) (a:=ca) (xs:=cs) (λ D i r ac H'=>H2 D=W/\aI H2 H'/\H' D=O (.j r)/\r=(List.replicate i EA).map V.bl/\∃ u,ac=[u,O (.u (m:Int))])
    (λ D i r ac H' p=>p.2.1.tup (mw.tup qc)) (λ D hD=>⟨hD,È hD,aD,Y,W,Y⟩) ?_ ?_⟩
   rotate_left
   ·rintro D j y r ac H3 hy zQ;let⟨hD,sm,jc,Y,u,Y⟩:=zQ;let⟨at',Bz,aa,Y,qa⟩:=sR lc hy;let Ij:=(à.mp Bz).1;show gN ?_;refine⟨_,Y,_,Y,aa,m,at',Y,sm.tup (mw.tup qa),ok.acts _ (Ô Bz),jc,bB (by simp;lia),hD,sm.put hD,aD,?_,_,Y⟩;rw[œ,Ñ];rfl
   rintro D r ac H3 zQ;let⟨hD,nj,jc,Y,_⟩:=zQ;refine⟨JJ,D,_,Y,É jc,?_⟩;rw[sQ];show k _ (mw.trans nj)
def M9 (F:Fun K "is_net" "is_net" (aX 39) f fd) (T:Txt mg) (U:TxtN K mg aw) (ja:Callee P w K mg base "is_tuple" ["thing","least","most"] 1 (sW K) f1 jf)
  (vh:Callee P w K mg base "is_vessel" ["thing","number","vessel_count","spout_count"] 3 (wC K) f2 ka) (wj:Callee P w K mg base "is_spout" ["thing","vessel_count"] 2 (zJ K) f3 oq):FnOk P w K mg base gT 4 f fd ["thing"] (AS K):=by
 show F.ok ["thing","vessels","spouts","number","vessel"] λ sc ir A outer s H vs Q E hr h=>?_
 ·let⟨x,net,Y,hx,nok,pf,k⟩:=h;show⟨_,(aE (bK (fC (dI (cD ja hr (a9 (pv 0) (a9 aH (a9 aH aB)))))) (aG (aO iL)) aS)
   (aE (bF (pv 0) (aV (K:=K) (n:=2) Y Y (aF (mK (i:=1) sc.nd Y (Or.inr Y)) (aF (gL 2 sc.nd) aQ))))
   (aE (bK (Ď (uF (fC (dI (cD ja hr (a9 (pv 1) (a9 aH (a9 (bV Y U.g_MOST_VESSELS) aB)))))) (qD (fC (dI (cD ja hr (a9 (pv 2) (a9 aH (a9 (bV Y U.g_MOST_SPOUTS) aB))))))))) (aG (aO iL)) aS)
   (aE (eE ú Y (EK (K:=K) Y Y T.b_enumerate (a9 (pv 1) aB)) (aV (K:=K) (n:=2) Y Y (aF (gL 3 sc.nd) (aF (gL 4 sc.nd) aQ))) (aG (bK (fC (dI (cD vh hr (a9 (pv 4) (a9 (pv 3) (a9 (zU K T.b_len (pv 1)) (a9 (zU K T.b_len (pv 2)) aB))))))) (aG (aO iL)) aS)))
   (aG (aO (bJ (oZ (K:=K) Y Y) Y T.b_all ŧ (a9 (hJ (λ _ _ h=>h) Y (LcOk.mk (N':=["spout","vessels"]) (fr:=[W,O 1]) Y ⟨Y,trivial⟩ Y Y Y Y Y ⟨⟨_,Y,Y,Y,Y⟩,trivial⟩) (dR (K:=K) Y (pv 2)) (λ _ _ _=>(gC 0 ["spout","vessels"])) (λ _ _ _=>cP) (λ _ _ _=>(cD wj hr (a9 (pv 0) (a9 (zU K T.b_len (pv 1)) aB))))) aB)))))))),?_⟩
  let⟨a,b,c,xs,ys,Y,q,q1,l1,q2,l2⟩:=j5 hx;let ve:xs.Z=net.vs.Z:=by rw[l1.Z,Ê]
  let Ii:ys.Z=net.sps.Z:=by rw[l2.Z,Ê]
  let n1:=nok.lo;let n2:=nok.hi;let n3:=nok.sp;show⟨_,Y,a,_,2,2,Y,q,(show (2:Int)<=2 by decide),(show (2:Int)<=2 by decide),_,Y,bR ?_⟩;show⟨_,Y,a,_,Y,q,Y,_,_,Y,_,_,Y,Y,?_⟩;show⟨_,Y,b,_,1,12,Y,q1,JM,JM,_,Y,bR ?_⟩;show⟨_,Y,c,_,0,12,Y,q2,JM,JM,_,Y,bR ?_⟩;show⟨_,Y,EA,b,Y,⟨_,q1⟩,FW (K:=K) (t:=EA) (a:=b) (xs:=xs) (λ i ac H'=>aI H H'/\∃ v3 v4,ac=[O (.y a),O (.y b),O (.y c),v3,v4])
   (λ i ac H' p=>p.1.tup q1) ⟨λ _ _ h=>h,W,W,Y⟩ ?_ ?_⟩
  rotate_left
  ·rintro i y ac H2 Tt hy ⟨sm,v3,v4,rfl⟩ hT;let⟨d,hd,iy⟩:=l1.get' hy;rw[Ö]at hd;let⟨v,hv,Y⟩:=ç.mp hd;let Al:=È (o:=HO.tup [.u (i:Int),y]) hT;let nj:=sm.trans Al;show⟨Tt,_,Y,Ï aD,Y,_,_,Y,_,_,Y,Y,?_⟩;show⟨_,Y,_,Y,_,Y,b,xs,Y,.x (nj.tup q1),_,Y,c,ys,Y,.x (nj.tup q2),y,i,net.vs.Z,net.sps.Z,v,by rw[ve,Ii];rfl,Ì nj.ts _ _ iy,nok.vs v (Ô hv),pf.vs i v hv,λ H4 xw=>⟨_,Y,bR ?_⟩⟩;show⟨nj.trans xw,_,_,Y⟩
  rintro ac H2 zQ;let⟨mw,v3,v4,Y⟩:=zQ;show⟨_,Y,c,Y,⟨_,mw.tup q2⟩,i9 (K:=K) (a:=c) (xs:=ys) (λ D i r ac H'=>H2 D=W/\aI H2 H'/\H' D=O (.j r)/\r=(List.replicate i EA).map V.bl/\∃ u,ac=[u,O (.y b)])
   (λ D i r ac H' p=>p.2.1.tup (mw.tup q2)) (λ D hD=>⟨hD,È hD,aD,Y,W,Y⟩) ?_ ?_⟩
  rotate_left
  ·rintro D j y r ac H3 hy zQ;let⟨hD,sm,jc,Y,u,Y⟩:=zQ;let⟨sp,vf,sa,Y,qs⟩:=AL l2 hy;let Ij:=(à.mp vf).1;let hm:=Ô vf;show gN ?_;show⟨_,Y,_,Y,b,xs,Y,.x (sm.tup (mw.tup q1)),sa,net.vs.Z,sp,by rw[ve];rfl,sm.tup (mw.tup qs),nok.sps sp hm,pf.sps sp hm,jc,bB (by simp;lia),hD,sm.put hD,aD,?_,_,Y⟩;rw[œ,Ñ];rfl
  rintro D r ac H3 zQ;let⟨hD,nj,jc,Y,_⟩:=zQ;show⟨JJ,D,_,Y,É jc,?_⟩;rw[sQ];show k _ (mw.trans nj)
end
end Tw
namespace L2
open PySem PySem.Spec PyProof.Rows
def gLst (K:Ç) (n:Nat) (t:L8):TG:=λ v σ H Q=>∃ a xs,v=.y a/\bC K H a xs/\xs.Z=n/\t xs σ H Q
def XS {X:Cx}{pos:Pos}{es:List Expr}{k:Nat}{t:L8}{n:Nat} (hc:X.calm=EA) (h:SS X es t)
  (hn:autoParam ((assignEach es X.env).length=n) _0) (rj:autoParam ((assignEach es X.env).findIdx? (·.1)=none) _0):PG X (.rq es k pos) (gLst X.K n t):=by
 intro gu s σ H v u Q I r hw;let⟨a,xs,e1,hq,hl,hw⟩:=hw;subst e1;ext r;let⟨its,rv,ht,hz⟩:=I.list hq;rw[assign_Tuple];show Æ (ĺ ?_);unfold unpack;let e:(assignEach es X.env).length=its.toArray.S:=by simp[hn,<- hl,rv.Z]
 rw[e,rj];show Æ (ó (PySem.W.kun_itemsOf (I.ok.hd hc) ht.isList λ h' hx=>?_));let I1:Inv X gu σ H { s with heap:=h' }:=I.kept (t':=s.M) λ b o e=>hx b o (ä (Ó e)) e;show h gu _ σ H xs _ Q I1 (by simpa using rv) hw
def vA {X:Cx}{K:Ç}{pos:Pos}{es:List Expr}{k:Nat}{t:L8}{n:Nat} (hK:X.K=K) (hc:X.calm=EA) (h:SS X es t)
  (hn:autoParam ((assignEach es X.env).length=n) _0) (rj:autoParam ((assignEach es X.env).findIdx? (·.1)=none) _0):PG X (.rq es k pos) (gLst K n t):=by
 subst hK;show XS hc h hn rj
end L2
namespace L2
open PySem PySem.Spec PyProof.Rows TwZ
section
variable {X:Cx}
def TX {st:Stmt}:PS X st (λ _ _ _=>False):=λ _ _ _ _ _ _ h=>h.elim
def bY  (hK:X.K=K) (he:PE X e ta) (hb:attributeBase e f X.env (eval e X.env)=eval e X.env):PE X (.E e f pos) (ZE K ta f):=by subst hK;show XV he hb
def rS  (hK:X.K=K) (ha:PE X o ta) (hv:PE X value tv) (hs:swapsWith value (O (.E o f pos')) pos.line X.env=pure JJ):PS X (.Assign [.E o f pos'] value pos) (ZK K ta tv f):=by subst hK;show XO ha hv hs
def PX (hK:X.K=K):jJ X (binaryOp .Add) (W9 K):=by subst hK;show K0
def vM (l:Á) (items:Array À) (n:Nat) (x:Int) (u:Tok) (dd:Option Á) (sl:Array (Option À)) (c0:¬ (decide (x < -(2 ^ 63)) || decide (x ≥ 2 ^ 63))=EA) (c1:¬ (items.isEmpty || x== 1)=EA)
  (c2:(decide (x<=0) || items.isEmpty)=EA) :
  Meets (Builtin.«tuple.__mul__» ⟨[.y l,.u x u],[]⟩) (λ _ R s=>s.heap.get? l=O { cls:=.q "tuple",dict:=dd,data:=.V items n,slots:=sl }/\
   R (.ok (.ret (.y s.L))) { s with heap:=s.heap.push { cls:=.q "tuple",data:=.V #[] } }):=
 .of_wp λ prog w A R s h=>by
  let⟨hp,g,d,tk,os⟩:=s;let⟨hl,h⟩:=h
  wp_walk
  rw[Ä c0]
  wp_walk
  all_goals (try rw[Ä c1])
  wp_walk
  all_goals (try rw[Å c2])
  wp_walk
  show⟨_,Y,h⟩
def W3 (K:Ç):R2:=λ x y H Q=>∃(l:Á) (k:Int) (xs:List V),x=.y l/\y=.u k/\bH K H l xs/\0<=k/\k < 1000000/\xs≠[]/\xs.Z<=10/\
 ∀ p H',aI H H'->bH K H' p (List.replicate k.toNat xs).flatten->Q (.y p) H'
def UD:jJ X (binaryOp .Mult) (W3 X.K):=by
 intro gu s σ H x y v u Q I rx ry h;let⟨l,k,xs,Y,Y,hq,h1,h2,uq,Hq,q⟩:=h
 by_cases hk:1<=k
 ·show JY gu s σ H _ _ v u Q I rx ry ⟨l,k,xs,Y,Y,hq,hk,h2,uq,Hq,q⟩
 ·let hk0:k=0:=by lia
  subst hk0;ext rx;let⟨t,Y⟩:=ry;let⟨its,r,ht,z⟩:=I.tuple hq;let io:=r.Z;let⟨⟨cls,dd,data,sl⟩,e,hc,n,hd⟩:=id ht;simp only at hc hd;subst hc hd;show wpAny_binaryOp_repeat_ref (T :="tuple") (U :="int") JL ⟨_,e,Y⟩ (λ s'=>Ş s' 0 t) lJ F.fills_int_mul ŵ rP F.slot_int_index.lookup
   (č ŵ (Ş s 0 t) F.entry_int_rmul (F.args_int_rmul_2 _ _) (oG 0 t l its.toArray n dd sl) ⟨e,rfl,⟨_,e,rfl⟩,?_⟩)
  let Dg:its≠[]:=λ z=>by rw[z]at io;show uq (ċ io)
  let Aw:its.toArray.isEmpty=false:=by cases its with
   |nil=>show absurd Y Dg
   |cons a r=>rfl
  show č agp ⟨_,e,Y⟩ aga (afz _ _) (vM l its.toArray n 0 t dd sl JL (by rw[Aw];decide) JN) ⟨e,?_⟩;let I1:=I.laid (a:=s.L) (o:=.v []) (h':=s.heap.push { cls:=.q "tuple",data:=.V #[] }) (t':=s.M)
   (λ _ _ q=>Î _ q) (Í _) ⟨ß _,[],.nil,⟨_,Ü _ rfl,rfl,0,rfl⟩⟩
  show⟨.y _,_,I1,Y,q _ _ (È I.fresh) (Ï aD)⟩
def PK (hK:X.K=K):jJ X (binaryOp .Mult) (W3 K):=by subst hK;show UD
end
structure MCal (P:Ã) (w:World) (K:Ç) (mg:Str->Option À) (base:Heap) (C:Á) (m:Str) (ps:List Str) (k:Nat) (sp:Sp) (f:Á) (fd:FuncData):Prop where
 cls:Cls K C
 mt:Meth K C m f
 ok:FnOk P w K mg base gT k f fd ps sp
 bd:gW K fd ps []
structure MkCal (P:Ã) (w:World) (K:Ç) (mg:Str->Option À) (base:Heap) (C:Á) (x:Str) (ps:List Str) (k:Nat) (sp:Sp) (f:Á) (fd:FuncData):Prop where
 make:Mk K C f
 ok:FnOk P w K mg base gT k f fd ps sp
 mg:mg x=O (.y C)
 bd:gW K fd ps []
def dP (fp:List Á) (H H':Hp):Prop:=∀ b o,b∉fp->H b=O o->H' b=O o
def dP.trans  (a:dP fp H H1) (b:dP fp H1 H2):dP fp H H2:=λ c o hc h=>b c o hc (a c o hc h)
def aI.butL  (a:aI H H'):dP fp H H':=λ b o _ h=>a b o h
def dP.upd  (ha:a∈fp):dP fp H (upd H a o):=λ b u hb h=>by
 let ne:b≠a:=λ e=>hb (by rw[e];show ha);rw[aK ne];show h
section
variable {g:TG}{tc:TT}{te:TE}{fr:List (Option Nat)}{σ:St}{H1:Hp}{Q:Á->Hp->Prop}
def V6  (h1:xs.Z=n) (h2:ys.Z=n) (Pv:Á->Nat->List V->St->Hp->Prop)
  (hq:∀ D i r σ H,Pv D i r σ H->kD K H t1 a1 xs/\kD K H t2 a2 ys)
  (h0:∀ D,H1 D=W->Pv D 0 [] (KK fr σ) (upd H1 D (.j []))) (kj:∀ D r ac H',Pv D n r ac H'->Q D H')
  (sf:∀ D i x y r ac H' T,xs[i]?=O x->ys[i]?=O y->Pv D i r ac H'->H' T=W->g (.y T) ac (upd H' T (.v [x,y])) λ aq H3=>tc aq H3 λ b H4=>
    if b=EA then te aq H4 λ y H5=>H5 D=O (.j r)/\r.Z < PySem.sizeLine/\Pv D (i+1) (r++[y]) aq (upd H5 D (.j (r++[y])))
    else Pv D (i+1) r aq H4):lA (VO K t1 t2 a1 a2) g tc te fr σ H1 Q:=by
 show xT (n:=n) Pv h0 (λ D r ac H' p=>?_) λ D i r ac H' hi p=>?_
 ·let⟨q1,q2⟩:=hq D _ r ac H' p;show⟨⟨xs,ys,q1,q2,.p JM⟩,kj D r ac H' p⟩
 ·let⟨q1,q2⟩:=hq D _ r ac H' p;show⟨⟨xs,ys,xs[i]'JM,ys[i]'JM,q1,q2,JN,JN⟩,?_⟩;rintro v H2 zQ;let⟨T,x,y,hT,Y,e1,e2,Y⟩:=zQ;show sf D i x y r ac H' T (e1 xs q1) (e2 ys q2) p hT
end
end L2
namespace Tw
open PySem L2
structure Mom where
 tick:Int
 held:List Int
 coming:List Int
 doors:List Bool
 poured:List Int
 came:Int
 ground:Int
def oF (m:Mom):L2.D:=.v [.u m.tick,yG m.held m.coming m.doors,.v (m.poured.map L2.D.int),.u m.came,.u m.ground]
def cU:List oP->List Bool->Int
 |s::ss,d::ds=>(if d=EA then s.2.1 else 0)+cU ss ds
 |_,_=>0
structure MomOk (net:Net) (m:Mom):Prop where
 st:StOk net m.held m.coming m.doors
 pl:m.poured.Z=net.vs.Z
def Mom.tk (net:Net) (m:Mom):Tick:=l7 net m.held m.coming m.poured m.doors
def Mom.step (net:Net) (m:Mom):Mom:=
 { tick:=m.tick+1,held:=(m.tk net).held,coming:=(m.tk net).coming,doors:=(m.tk net).doors,poured:=cA net.vs.Z,came:=m.came+(m.poured.sum+cU net.sps m.doors),ground:=m.ground+(m.tk net).ground }
def Mom.pour (m:Mom) (v a:Int):Mom:={ m with poured:=m.poured.set v.toNat (m.poured.getD v.toNat 0+a) }
def i8 (net:Net) (m:Mom):Nat->Mom
 |0=>m
 |i+1=>(i8 net m i).step net
def vS (net:Net) (m:Mom):List (Int×Nat):=(m.tk net).tip.map λ k=>(m.tick,k)
def hX (net:Net) (m:Mom):Nat->List (Int×Nat)
 |0=>[]
 |i+1=>hX net m i++vS net (i8 net m i)
inductive Row where
 |pour (v a:Int)
 |go (many:Int) (tips:List (Int×Nat))
def yI (t:Int×Nat):L2.D:=.v [.u t.1,.u (t.2:Int)]
def yK:Row->L2.D
 |.pour v a=>.tup [.o "pour",.u v,.u a]
 |.go n ts=>.tup [.o "go",.u n,.v (ts.map yI)]
structure RunS where
 net:Net
 rows:List Row
 pre:List Mom
 cur:Mom
 tips:List (List Int)
def addTip (ts:List (List Int)) (t:Int×Nat):List (List Int):=ts.set t.2 (ts.getD t.2 []++[t.1])
def RunS.pour (S:RunS) (v a:Int):RunS:={ S with rows:=S.rows++[.pour v a],pre:=S.pre++[S.cur],cur:=S.cur.pour v a }
def RunS.go (S:RunS) (k:Nat):RunS:={ S with rows:=S.rows++[.go (k:Int) (hX S.net S.cur k)],pre:=S.pre++[S.cur],cur:=i8 S.net S.cur k,tips:=(hX S.net S.cur k).foldl addTip S.tips }
def HW (net:Net):Mom:=⟨0,cA net.vs.Z,cA net.vs.Z,net.sps.map (·.2.2),cA net.vs.Z,0,0⟩
def qA (net:Net):RunS:=⟨net,[],[],HW net,List.replicate net.vs.length []⟩
structure RunOk (S:RunS):Prop where
 nok:NetOk S.net
 cur:MomOk S.net S.cur
 tl:S.tips.Z=S.net.vs.Z
structure RunSz (S:RunS) (B:Nat):Prop where
 rows:S.rows.Z<=B
 pre:S.pre.Z<=B
 tips:∀ l∈S.tips,l.Z<=B
def oQ (n:Nat):(cA n).length=n:=by simp[cA]
def lY  (h:1<=n):(0:Int)::cA (n - 1)=cA n:=by
 obtain⟨k,rfl⟩:∃ k,n=k+1:=⟨n - 1,JM⟩;simp[cA,ġ]
def UW (net:Net):MomOk net (HW net):=⟨⟨oQ _,oQ _,by simp[HW]⟩,oQ _⟩
def Mom.hs_len  (h:MomOk net m):(cG net m.held m.coming m.poured m.doors).length=net.vs.Z:=by
 unfold cG;rw[jU,kB h.st.h h.st.c h.pl]
def MomOk.step  (h:MomOk net m):MomOk net (m.step net):=
 ⟨⟨jV _ _ (Mom.hs_len h).symm,by change(eT _ _).length=_;unfold eT;simp,by change(eU _ _ _).length=_;rw[k9];show h.st.d⟩,oQ _⟩
def MomOk.pour  (h:MomOk net m) (v a:Int):MomOk net (m.pour v a):=⟨h.st,by change(List.set _ _ _).length=_;rw[Ţ];show h.pl⟩
theorem sB  (h:MomOk net m):∀ i,MomOk net (i8 net m i)
 |0=>h
 |i+1=>(sB h i).step
def Z9 {m:Mom} (h:k∈(m.tk net).tip):k < net.vs.Z:=by
 let:=vR _ _ _ _ (show k∈gH 0 net.vs _ from h);lia
def NT (net:Net) (m:Mom):(m.tk net).tip.length<=net.vs.Z:=sV _ _ _
theorem AI :∀(i:Nat) (t:Int×Nat),t∈hX net m i->t.2 < net.vs.Z
 |0,t,h=>by simp[hX]at h
 |i+1,t,h=>by
  rcases ë.1 h with h|h
  ·show AI i t h
  ·let⟨k,hk,Y⟩:=Ù.1 h;show Z9 hk
theorem nG  (nok:NetOk net):∀(i:Nat),(hX net m i).length<=12 * i
 |0=>by simp[hX]
 |i+1=>by
  let h1:=nG (m:=m) nok i;let h2:=NT net (i8 net m i);let h3:=nok.hi;change(hX net m i++vS net (i8 net m i)).length<=_;rw[Ý];unfold vS;rw[Ê];lia
theorem kX:∀(l:List (Int×Nat)) (ts:List (List Int)),(l.foldl addTip ts).length=ts.Z
 |[],_=>rfl
 |t::l,ts=>by change(l.foldl addTip (addTip ts t)).length=_;rw[kX l];unfold addTip;simp
def RunOk.pour  (h:RunOk S) (v a:Int):RunOk (S.pour v a):=⟨h.nok,h.cur.pour v a,h.tl⟩
def RunOk.go  (h:RunOk S) (k:Nat):RunOk (S.go k):=⟨h.nok,sB h.cur k,by change(List.foldl addTip S.tips (hX S.net S.cur k)).length=_;rw[kX];show h.tl⟩
def JR  (nok:NetOk net):RunOk (qA net):=⟨nok,UW net,by simp[qA]⟩
def FX (np:V) (R M T:Á):List (Str×V):=[("net",np),("rows",.y R),("moments",.y M),("tip_ticks",.y T)]
def qJ :(FX np R M T).lookup ("net":Str)=O np:=rfl
def oW :(FX np R M T).lookup ("rows":Str)=O (.y R):=rfl
def eJ :(FX np R M T).lookup ("moments":Str)=O (.y M):=rfl
def CQ :(FX np R M T).lookup ("tip_ticks":Str)=O (.y T):=rfl
structure RunC (K:Ç) (C:Á) (H:Hp) (r:Á) (S:RunS) (dx:Á) (np:V) (R M T:Á) (ts:List Á) (rs ms:List V) (mv:V):Prop where
 ins:H r=O (.ins C dx (FX np R M T))
 net:Is K H (gE S.net) np
 hR:H R=O (.j rs)
 lR:IsL K H (S.rows.map yK) rs
 hM:H M=O (.j (ms++[mv]))
 lM:IsL K H (S.pre.map oF) ms
 cM:Is K H (oF S.cur) mv
 hT:H T=O (.j (ts.map V.ref))
 tl:ts.Z=S.tips.Z
 ti:∀(i:Nat) (t:Á) (l:List Int),ts[i]?=O t->S.tips[i]?=O l->H t=O (.j (l.map V.int))
 nd:(R::M::T::ts).Nodup
 ok:RunOk S
def bP (K:Ç) (C:Á) (H:Hp) (r:Á) (S:RunS) (fp:List Á):Prop:=∃ dx np R M T ts rs ms mv,RunC K C H r S dx np R M T ts rs ms mv/\fp=R::M::T::ts
structure RunTx (K:Ç) (C:Á):Prop where
 cls:Cls K C
 net:kC K C "net"
 rows:kC K C "rows"
 moments:kC K C "moments"
 tips:kC K C "tip_ticks"
section
variable {r dx R M T:Á}{H H':Hp}{S:RunS}{fp:List Á}{np mv:V}{ts:List Á}{rs ms:List V}
def RunC.lists (c:RunC K C H r S dx np R M T ts rs ms mv):∀ b∈R::M::T::ts,∃ xs,H b=O (.j xs):=by
 intro b hb;rcases Ð.1 hb with rfl|hb
 ·show⟨_,c.hR⟩
 rcases Ð.1 hb with rfl|hb
 ·show⟨_,c.hM⟩
 rcases Ð.1 hb with rfl|hb
 ·show⟨_,c.hT⟩
 let⟨i,hi,Y⟩:=List.mem_iff_getElem.1 hb;let hl:i < S.tips.Z:=by rw[<- c.tl];show hi
 show⟨_,c.ti i ts[i] S.tips[i] JN JN⟩
def bP.lists (c:bP K C H r S fp):∀ b∈fp,∃ xs,H b=O (.j xs):=by
 let⟨dx,np,R,M,T,ts,rs,ms,mv,c,Y⟩:=c;show c.lists
def bP.notfp (c:bP K C H r S fp) (h:H b=W):b∉fp:=λ hb=>by
 let⟨xs,e⟩:=c.lists b hb;rw[e]at h;cases h
def RunC.r_notin (c:RunC K C H r S dx np R M T ts rs ms mv):r∉R::M::T::ts:=λ hb=>by
 let⟨xs,e⟩:=c.lists r hb;rw[c.ins]at e;cases e
def RunC.keep (c:RunC K C H r S dx np R M T ts rs ms mv) (t:bU K H H') (k:∀ b∈r::R::M::T::ts,H' b=H b):RunC K C H' r S dx np R M T ts rs ms mv where
 ins:=by rw[k r JN];show c.ins
 net:=Ì t _ _ c.net
 hR:=by rw[k R JN];show c.hR
 lR:=Ò t _ _ c.lR
 hM:=by rw[k M JN];show c.hM
 lM:=Ò t _ _ c.lM
 cM:=Ì t _ _ c.cM
 hT:=by rw[k T JN];show c.hT
 tl:=c.tl
 ti:=λ i t l h1 h2=>by rw[k t (by let:=Ô h1;simp[this])];show c.ti i t l h1 h2
 nd:=c.nd
 ok:=c.ok
def bP.same (c:bP K C H r S fp) (s:aI H H'):bP K C H' r S fp:=by
 let⟨dx,np,R,M,T,ts,rs,ms,mv,c,Y⟩:=c;show⟨dx,np,R,M,T,ts,rs,ms,mv,c.keep s.ts λ b hb=>?_,Y⟩;rcases Ð.1 hb with rfl|hb
 ·rw[s _ _ c.ins,c.ins]
 ·let⟨xs,e⟩:=c.lists b hb;rw[s _ _ e,e]
def bP.but  (c:bP K C H r S fp) (s:cI t H H') (hm:lX (H t)) (h1:t≠r) (h2:t∉fp):bP K C H' r S fp:=by
 let⟨dx,np,R,M,T,ts,rs,ms,mv,c,Y⟩:=c;show⟨dx,np,R,M,T,ts,rs,ms,mv,c.keep (s.ts hm) λ b hb=>?_,Y⟩;rcases Ð.1 hb with rfl|hb
 ·rw[s _ _ (Ne.symm h1) c.ins,c.ins]
 ·let⟨xs,e⟩:=c.lists b hb;rw[s _ _ (λ z=>h2 (by rw[<- z];show hb)) e,e]
def l9  (h:Is K H (oF m) v):∃(a po:Á) (st:V),v=.y a/\bH K H a [.u m.tick,st,.y po,.u m.came,.u m.ground]/\Is K H (yG m.held m.coming m.doors) st/\bH K H po (m.poured.map V.int):=by
 let⟨a,zs,Y,q,l⟩:=(show Is K H (.v [.u m.tick,yG m.held m.coming m.doors,.v (m.poured.map L2.D.int),.u m.came,.u m.ground]) v from h).un;let⟨x1,r,Y,h1,l⟩:=l.un;let⟨x2,r,Y,h2,l⟩:=l.un;let⟨x3,r,Y,h3,l⟩:=l.un;let⟨x4,r,Y,h4,l⟩:=l.un;let⟨x5,r,Y,h5,l⟩:=l.un;let:=l.un0;subst this;let:=h1.ui;subst this;let:=h4.ui;subst this;let:=h5.ui;subst this;let⟨po,xs,Y,q1,l1⟩:=h3.un;let:=l1.ints;subst this;show(WL a po x2 Y ⟨q,h2,q1⟩)
def HV  (q:bH K H a [.u m.tick,st,.y po,.u m.came,.u m.ground]) (hs:Is K H (yG m.held m.coming m.doors) st) (hp:bH K H po (m.poured.map V.int)):Is K H (oF m) (.y a):=
 Ú q (.B (Is.i _) (.B hs (.B (Ú hp (ż _)) (.B (Is.i _) (.B (Is.i _) .nil)))))
end
def jR (K:Ç):Sp:=λ vs H Q _=>∃(x:V) (net:Net) (v:Int),vs=[x,.u v]/\Is K H (gE net) x/\NetOk net/\∀ p H',aI H H'->bH K H' p ((v::cA (net.vs.Z - 1)).map V.int)->Q (.y p) H'
def HQ (F:Fun K "pouring" "pouring" (aX 12) f fd) (T:Txt mg):FnOk P w K mg base gT 1 f fd ["net","amount"] (jR K):=by
 show F.ok ["net","amount","vessels","spouts"] λ sc ir A outer s H vs Q E hr h=>?_
 ·let⟨x,net,v,Y,hx,nok,k⟩:=h;show⟨_,(aE (bF (pv 0) (aV (K:=K) (n:=2) Y Y (aF (gL 2 sc.nd) (aF (gL 3 sc.nd) aQ))))
   (aG (aO (bA (PX (K:=K) Y) (bG (a9 (pv 1) aB)) (bA (PK (K:=K) Y) (bG (a9 aH aB)) (bA iM (zU K T.b_len (pv 2)) aH)))))),?_⟩
  let⟨a,b,c,xs,ys,Y,q,q1,l1,q2,l2⟩:=j5 hx;let ve:xs.Z=net.vs.Z:=by rw[l1.Z,Ê]
  let n1:=nok.lo;let n2:=nok.hi;show⟨_,Y,a,_,Y,q,Y,_,_,Y,_,_,Y,Y,?_⟩;show(bO _ Y ⟨(sz0 1),λ y hy=>⟨(sz0 1),λ z hz=>?_⟩⟩);let m1:=È (o:=HO.tup [.u v]) hy;let m2:=È (o:=HO.tup [.u 0]) hz;show(bO _ Y (eO b xs Y ⟨.x (m2.tup (m1.tup q1)),(eO _ _ Y ⟨Y,(WL z _ [.u 0] Y ⟨Y,Ï aD,JM,JM,JN,JN,λ e H1 pq qe=>?_⟩)⟩)⟩));let en:(((xs.Z:Nat):Int) - 1).toNat=net.vs.Z - 1:=by rw[ve];lia
  rw[en,XF]at qe;show⟨y,e,[.u v],_,Y,Y,pq.tup (m2.tup (Ï aD)),qe,JN,bB (by simp;lia) |> ğ,λ he=>?_,λ _ p hp=>?_⟩
  ·show k _ _ ((m1.trans m2).trans pq) ?_;let e0:cA (net.vs.Z - 1)=[]:=List.map_eq_nil_iff.mp he;rw[e0];show pq.tup (m2.tup (Ï aD))
  ·show k _ _ (((m1.trans m2).trans pq).trans (È hp)) (Ï aD)
def E3 (K:Ç):Sp:=λ vs H Q _=>∃(x y:V) (z:Á) (net:Net) (held coming poured:List Int) (doors:List Bool),vs=[x,y,.y z]/\Is K H (gE net) x/\Is K H (yG held coming doors) y/\bH K H z (poured.map V.int)/\
 NetOk net/\StOk net held coming doors/\∀ H',aI H H'->Q (.u (poured.sum+cU net.sps doors)) H'
theorem rW:∀(ss:List oP) (ds:List Bool) (i:Nat) (s:oP) (d:Bool),ss[i]?=O s->ds[i]?=O d->cU (ss.take (i+1)) (ds.take (i+1))=cU (ss.take i) (ds.take i)+(if d=EA then s.2.1 else 0)
 |[],_,i,_,_,h,_=>by simp at h
 |_::_,[],i,_,_,_,h=>by simp at h
 |a::ss,b::ds,0,s,d,h1,h2=>by simp at h1 h2;subst h1 h2;simp[cU]
 |a::ss,b::ds,i+1,s,d,h1,h2=>by
  simp only[ľ,cU];rw[rW ss ds i s d (by simpa using h1) (by simpa using h2)];lia
def HR (F:Fun K "came_in" "came_in" (aX 14) f fd) (T:Txt mg):FnOk P w K mg base gT 1 f fd ["net","state","poured"] (E3 K):=by
 show F.ok ["net","state","poured","vessels","spouts","held","coming","doors"] λ sc ir A outer s H vs Q E hr h=>?_
 ·let⟨x,y,z,net,held,coming,poured,doors,Y,hx,hy,qz,nok,ur,k⟩:=h;show⟨_,(aE (bF (pv 0) (aV (K:=K) (n:=2) Y Y (aF (gL 3 sc.nd) (aF (gL 4 sc.nd) aQ))))
   (aE (bF (pv 1) (aV (K:=K) (n:=3) Y Y (aF (gL 5 sc.nd) (aF (gL 6 sc.nd) (aF (gL 7 sc.nd) aQ)))))
   (aG (aO (bA dM (bJ (lU (K:=K) Y Y) Y T.b_sum Œ (a9 (pv 2) aB)) (bJ (lU (K:=K) Y Y) Y T.b_sum Œ (a9 (hJ (λ _ _ h=>h) Y (LcOk.mk (N':=["target","flow","first_door","door"]) (fr:=[W,W,W,W]) Y trivial Y Y Y Y Y trivial) (EJ (K:=K) Y Y T.b_zip (a9 (pv 4) (a9 (pv 7) aB))) (λ _ _ _=>(aV (K:=K) (n:=2) Y Y (aF (aV (K:=K) (n:=3) Y Y (aF (gC 0 ["target","flow","first_door","door"]) (aF (gC 1 ["target","flow","first_door","door"]) (aF (gC 2 ["target","flow","first_door","door"]) aQ)))) (aF (gC 3 ["target","flow","first_door","door"]) aQ)))) (λ _ _ _=>BK (dI (pv 3))) (λ _ _ _=>(pv 1))) aB))))))),?_⟩
  let⟨a,b,c,xs,ys,Y,q,q1,l1,q2,l2⟩:=j5 hx;let⟨ay,b1,b2,b3,Y,qy,qb1,qb2,Uu⟩:=zE hy;let Ii:ys.Z=net.sps.Z:=by rw[l2.Z,Ê]
  let n3:=nok.sp;show⟨_,Y,a,_,Y,q,Y,_,_,Y,_,_,Y,Y,?_⟩;show⟨_,Y,ay,_,Y,qy,Y,_,_,Y,_,_,Y,_,_,Y,Y,?_⟩;show⟨_,Y,EA,z,_,Y,qz,?_⟩;show⟨_,Y,_,Y,EA,EA,c,b3,Y,⟨_,q2⟩,⟨_,Uu⟩,V6 (K:=K) (t1:=EA) (t2:=EA) (xs:=ys) (ys:=doors.map V.bl) (n:=net.sps.Z) Ii (by rw[Ê];show ur.d)
   (λ D i r ac H'=>H D=W/\aI H H'/\H' D=O (.j r)/\(∃ ns:List Int,r=ns.map V.int/\ns.sum=cU (net.sps.take i) (doors.take i)/\ns.Z<=i)/\∃ u1 u2 u3 u4,ac=[u1,u2,u3,u4])
   (λ D i r ac H' p=>⟨p.2.1.tup q2,p.2.1.tup Uu⟩) (λ D hD=>⟨hD,È hD,aD,⟨[],Y,by simp[cU],JN⟩,W,W,W,W,Y⟩) ?_ ?_⟩
  rotate_left
  ·rintro D i x y r ac H2 Tt hx hy ⟨hD,sm,jc,⟨ns,rfl,mx,Cc⟩,u1,u2,u3,u4,rfl⟩ hT;let⟨sp,vf,sa,Y,qs⟩:=AL l2 hx;let we:=(à.mp vf).1;obtain⟨d,Os,rfl⟩:∃ d,doors[i]?=O d/\y=V.bl d:=by
    rw[Ö]at hy;cases hd:doors[i]? with
    |none=>rw[hd]at hy;cases hy
    |some d=>rw[hd]at hy;ext hy;show⟨d,Y,Y⟩
   let mT:=È (o:=HO.tup [.y sa,.bl d]) hT;let hs:=rW net.sps doors i sp d vf Os;show⟨Tt,_,Y,Ï aD,Y,_,_,Y,sa,_,Y,mT.tup (sm.tup qs),Y,_,_,Y,_,_,Y,_,_,Y,Y,_,_,Y,Y,?_⟩;show⟨_,Y,_,Y,?_⟩;let Al:=sm.trans mT;cases d with
   |false=>
    show bR ⟨hD,Al,mT _ _ jc,⟨ns,Y,by rw[hs,mx];simp,JM⟩,_,_,_,_,Y⟩
   |true=>
    show cH ⟨_,Y,mT _ _ jc,bB (by simp;lia),hD,Al.put hD,aD,⟨ns++[sp.2.1],by rw[Ñ];rfl,by rw[hs,ķ,mx];simp,by simp;lia⟩,_,_,_,_,Y⟩
  ·rintro D r ac H2 zQ;let⟨hD,sm,jc,⟨ns,Y,mx,Cc⟩,_⟩:=zQ;show⟨JJ,D,_,Y,É jc,_,_,Y,Y,?_⟩;rw[mx,ù (Í _),ù (Ļ ur.d)];show k _ sm
def E2 (K:Ç):Sp:=λ vs H Q _=>∃(x y:V) (net:Net) (m:Mom),vs=[x,y]/\Is K H (gE net) x/\Is K H (oF m) y/\NetOk net/\MomOk net m/\
 ∀ p p1 p2 H',aI H H'->bH K H' p [p1,.y p2]->Is K H' (oF (m.step net)) p1->bH K H' p2 ((m.tk net).tip.map λ(k:Nat)=>V.int (k:Int))->Q (.y p) H'
def tI (F:Fun K "moment_behind" "moment_behind" (aX 26) f fd) (T:Txt mg) (jd:Callee P w K mg base "tick_behind" ["net","state","poured"] 4 (vX K) f1 jf)
  (xx:Callee P w K mg base "came_in" ["net","state","poured"] 1 (E3 K) f2 ka) (jx:Callee P w K mg base "pouring" ["net","amount"] 1 (jR K) f3 oq):FnOk P w K mg base gT 5 f fd ["net","moment"] (E2 K):=by
 show F.ok ["net","moment","tick","state","poured","came","grounded","behind","tipped","lost"] λ sc ir A outer s H vs Q E hr h=>?_
 ·let⟨x,y,net,m,Y,hx,hy,nok,pw,k⟩:=h;show⟨_,(aE (bF (pv 1) (aV (K:=K) (n:=5) Y Y (aF (gL 2 sc.nd) (aF (gL 3 sc.nd) (aF (gL 4 sc.nd) (aF (gL 5 sc.nd) (aF (gL 6 sc.nd) aQ)))))))
   (aE (bF (cD jd hr (a9 (pv 0) (a9 (pv 3) (a9 (pv 4) aB)))) (aV (K:=K) (n:=3) Y Y (aF (gL 7 sc.nd) (aF (gL 8 sc.nd) (aF (gL 9 sc.nd) aQ)))))
   (aE (HF (i:=5) sc.nd Y (Or.inl Y) (cD xx hr (a9 (pv 0) (a9 (pv 3) (a9 (pv 4) aB)))) CZ)
   (aG (aO (bG (a9 (bG (a9 (bA dM (pv 2) aH) (a9 (pv 7) (a9 (cD jx hr (a9 (pv 0) (a9 aH aB))) (a9 (pv 5) (a9 (bA dM (pv 6) (pv 9)) aB)))))) (a9 (pv 8) aB)))))))),?_⟩
  let⟨a,po,st,Y,q,hs,hp⟩:=l9 hy;show⟨_,Y,a,_,Y,q,Y,_,_,Y,_,_,Y,_,_,Y,_,_,Y,_,_,Y,Y,?_⟩;show⟨_,Y,_,Y,_,Y,x,st,po,net,m.held,m.coming,m.poured,m.doors,Y,hx,hs,hp,nok,pw.st,pw.pl,λ f fxs H1 pq _ if1=>?_⟩;let⟨fa,Pa,ef,qf,lf⟩:=(show Is K H1 (.v [yG (m.tk net).held (m.tk net).coming (m.tk net).doors,.v ((m.tk net).tip.map λ (i:Nat)=>L2.D.int (i:Int)),.u (m.tk net).ground]) (.y f) from if1).un;ext ef;let⟨y1,r,Y,j1,lf⟩:=lf.un;let⟨y2,r,Y,j2,lf⟩:=lf.un;let⟨y3,r,Y,j3,lf⟩:=lf.un;let:=lf.un0;subst this;let:=j3.ui;subst this;let⟨p2,ts,Y,qt,lt⟩:=j2.un;let et:ts=(m.tk net).tip.map λ (k:Nat)=>V.int (k:Int):=by
   let e1:((m.tk net).tip.map λ(i:Nat)=>L2.D.int (i:Int))=((m.tk net).tip.map λ(i:Nat)=>(i:Int)).map L2.D.int:=by rw[đ];rfl
   rw[e1]at lt;rw[lt.ints,đ];rfl
  subst et;show⟨f,_,Y,qf,Y,_,_,Y,_,_,Y,_,_,Y,Y,?_⟩;show⟨_,Y,_,Y,_,Y,_,Y,x,st,po,net,m.held,m.coming,m.poured,m.doors,Y,Ì pq.ts _ _ hx,Ì pq.ts _ _ hs,pq.tup hp,nok,pw.st,λ H2 mw=>⟨_,_,Y,Y,?_⟩⟩;let s2:aI H H2:=pq.trans mw;show⟨_,Y,_,_,Y,Y,_,Y,_,Y,x,net,0,Y,Ì s2.ts _ _ hx,nok,λ z H3 nj qz=>?_⟩;rw[lY nok.lo]at qz;show⟨_,Y,_,Y,_,Y,_,_,Y,Y,(sz0 5),λ p1 Ce=>?_⟩;let m1:aI H3 _:=È (o:=HO.tup [.u (m.tick+1),y1,.y z,.u (m.came+(m.poured.sum+cU net.sps m.doors)),.u (m.ground+(m.tk net).ground)]) Ce;show⟨_,Y,(sz0 2),λ p Pb=>?_⟩;let m2:aI _ _:=È (o:=HO.tup [.y p1,.y p2]) Pb;show k p (.y p1) p2 _ (((s2.trans nj).trans m1).trans m2) (Ï aD) (HV (m:=m.step net) (m2.tup (Ï aD)) ?_ ?_) ?_
  ·show Ì m2.ts _ _ (Ì m1.ts _ _ (Ì nj.ts _ _ (Ì mw.ts _ _ j1)))
  ·show m2.tup (m1.tup qz)
  ·show m2.tup (m1.tup (nj.tup (mw.tup qt)))
def IsL.app :∀ {ds es:List L2.D}{xs ys:List V},L2.IsL K H ds xs->L2.IsL K H es ys->L2.IsL K H (ds++es) (xs++ys)
 |[],_,_,_,h1,h2=>by let:=h1.un0;subst this;show h2
 |d::ds,_,_,_,h1,h2=>by
  let⟨x,r,Y,h,h1⟩:=h1.un;show .B h (IsL.app h1 h2)
def oT  (h:n<=10000000):n < sizeLine:=by rw[ê];lia
def wD (K:Ç):Sp:=λ vs H Q _=>∃(x:V) (net:Net),vs=[x]/\Is K H (gE net) x/\NetOk net/\∀ p H',aI H H'->Is K H' (oF (HW net)) (.y p)->Q (.y p) H'
def uP (F:Fun K "first_moment" "first_moment" (aX 23) f fd) (T:Txt mg)
  (jj:Callee P w K mg base "first_state" ["net"] 1 (qX K) f1 jf) (jx:Callee P w K mg base "pouring" ["net","amount"] 1 (jR K) f2 ka):FnOk P w K mg base gT 2 f fd ["net"] (wD K):=by
 show F.ok ["net"] λ sc ir A outer s H vs Q E hr h=>?_
 ·let⟨x,net,Y,hx,nok,k⟩:=h;show⟨_,(aG (aO (bG (a9 aH (a9 (cD jj hr (a9 (pv 0) aB)) (a9 (cD jx hr (a9 (pv 0) (a9 aH aB))) (a9 aH (a9 aH aB)))))))),?_⟩;show⟨_,Y,x,net,Y,hx,nok,λ st H4 xw rj=>⟨_,Y,x,net,0,Y,Ì xw.ts _ _ hx,nok,λ z H5 Uv qz=>⟨(sz0 5),λ p hp=>?_⟩⟩⟩;rw[lY nok.lo]at qz;let sp:aI H5 (upd H5 p (.v [.u 0,st,.y z,.u 0,.u 0])):=È hp;show k p _ ((xw.trans Uv).trans sp) (HV (m:=HW net) (Ï aD) (Ì sp.ts _ _ (Ì Uv.ts _ _ rj)) (sp.tup qz))
def zI (K:Ç):Sp:=λ vs H Q _=>∃(x:V) (n:Nat) (m:Mom) (v a:Int),vs=[x,.u v,.u a]/\Is K H (oF m) x/\m.poured.Z=n/\n<=12/\0<=v/\v < n/\
 ∀ p H',aI H H'->Is K H' (oF (m.pour v a)) (.y p)->Q (.y p) H'
def tH (F:Fun K "moment_poured" "moment_poured" (aX 24) f fd) (T:Txt mg):FnOk P w K mg base gT 1 f fd ["moment","vessel","amount"] (zI K):=by
 show F.ok ["moment","vessel","amount","tick","state","poured","came","grounded","more"] λ sc ir A outer s H vs Q E hr h=>?_
 ·let⟨x,n,m,v,a,Y,hx,pl,Uw,v0,v1,k⟩:=h;show⟨_,(aE (bF (pv 0) (aV (K:=K) (n:=5) Y Y (aF (gL 3 sc.nd) (aF (gL 4 sc.nd) (aF (gL 5 sc.nd) (aF (gL 6 sc.nd) (aF (gL 7 sc.nd) aQ)))))))
   (aE (pL 8 sc.nd (aP (lV (K:=K) Y) Y T.b_list sM (a9 (pv 5) aB)))
   (aE (JT (pv 8) (pv 1) (A3 (K:=K) Y) (pv 2) CZ jD)
   (aG (aO (bG (a9 (pv 3) (a9 (pv 4) (a9 (aP (dU (K:=K) Y) Y T.b_tuple dY (a9 (pv 8) aB)) (a9 (pv 6) (a9 (pv 7) aB))))))))))),?_⟩
  let⟨ma,po,st,Y,q,hs,hp⟩:=l9 hx;show⟨_,Y,ma,_,Y,q,Y,_,_,Y,_,_,Y,_,_,Y,_,_,Y,_,_,Y,Y,?_⟩;show⟨_,Y,po,_,Y,.x hp,λ l hl=>?_⟩;let ki:v.Q < m.poured.Z:=by lia
  let hg:m.poured[v.Q]?=O (m.poured.getD v.toNat 0):=by rw[ć,Ğ ki];rfl
  show⟨_,Y,_,Y,l,_,v,_,Y,Y,É aD,v0,JM,(by rw[Ö,hg];rfl),_,Y,_,_,Y,Y,l,_,v,v.Q,Y,Y,aD,CY v0 (by rw[Ê];lia),?_⟩;let e2:upd (upd H l (.j (m.poured.map V.int))) l (.j ((m.poured.map V.int).set v.toNat (.u (m.poured.getD v.toNat 0+a))))=upd H l (.j ((m.pour v a).poured.map V.int)):=by
   rw[SV];change _=upd H l (.j ((m.poured.set v.toNat (m.poured.getD v.toNat 0+a)).map V.int));rw[List.map_set]
  rw[e2];let s1:aI H (upd H l (.j ((m.pour v a).poured.map V.int))):=È hl;let yk:upd H l (.j ((m.pour v a).poured.map V.int)) l=O (.j ((m.pour v a).poured.map V.int)):=aD;generalize upd H l (.j ((m.pour v a).poured.map V.int))=H1 at s1 yk;show⟨_,Y,_,Y,_,Y,l,_,Y,.p ⟨É yk,λ p Ik=>⟨_,Y,_,Y,(sz0 5),λ p2 rk=>?_⟩⟩⟩;let m2:aI H1 (upd H1 p (.v ((m.pour v a).poured.map V.int))):=È Ik;let m3:aI (upd H1 p (.v ((m.pour v a).poured.map V.int))) (upd (upd H1 p (.v ((m.pour v a).poured.map V.int))) p2 (.v [.u m.tick,st,.y p,.u m.came,.u m.ground])):=È rk;show k p2 _ ((s1.trans m2).trans m3) (HV (m:=m.pour v a) (Ï aD) (Ì m3.ts _ _ (Ì m2.ts _ _ (Ì s1.ts _ _ hs))) (m3.tup (Ï aD)))
def JC (K:Ç):Sp:=λ vs H Q _=>∃(x y:V) (net:Net) (m:Mom) (n:Nat),vs=[x,y,.u (n:Int)]/\Is K H (gE net) x/\Is K H (oF m) y/\NetOk net/\MomOk net m/\n<=100000/\
 ∀ p p1 p2 rm H',aI H H'->bH K H' p [p1,.y p2]->Is K H' (oF (i8 net m n)) p1->bH K H' p2 rm->IsL K H' ((hX net m n).map yI) rm->Q (.y p) H'
def xF (F:Fun K "moment_gone" "moment_gone" (aX 25) f fd) (T:Txt mg) (ph:Callee P w K mg base "moment_behind" ["net","moment"] 5 (E2 K) f1 jf) :
  FnOk P w K mg base gT 6 f fd ["net","moment","many"] (JC K):=by
 show F.ok ["net","moment","many","tipped","step","tick","numbers"] λ sc ir A outer s H vs Q E hr h=>?_
 ·let⟨x,y,net,m,n,Y,hx,hy,nok,pw,hn,k⟩:=h;refine⟨_,(aE (pL 3 sc.nd (aY aB))
   (aE (eE ú Y (eX Y T.b_range (a9 (pv 2) aB)) (gL 4 sc.nd) (aE (wQ (i:=5) sc.nd Y (Or.inr Y) (px K (pv 1) aH))
   (aE (bF (cD ph hr (a9 (pv 0) (a9 (pv 1) aB))) (aV (K:=K) (n:=2) Y Y (aF (gL 1 sc.nd) (aF (gL 6 sc.nd) aQ))))
   (aG (bL (eF (K:=K) Y í PySem.F.slot_list_extend PySem.F.type_list_extend ME (pv 3) (a9 (hJ (λ _ _ h=>h) Y (LcOk.mk (N':=["number","tick"]) (fr:=[W,O 5]) Y ⟨Y,trivial⟩ Y Y Y Y Y ⟨⟨_,Y,Y,Y,Y⟩,trivial⟩) (dR (K:=K) Y (pv 6)) (λ _ _ _=>(gC 0 ["number","tick"])) (λ _ _ _=>cP) (λ _ _ _=>(bG (a9 (pv 1) (a9 (pv 0) aB))))) aB)))))))
   (aG (aO (bG (a9 (pv 1) (a9 (aP (dU (K:=K) Y) Y T.b_tuple dY (a9 (pv 3) aB)) aB))))))),?_⟩
  refine⟨ß _,λ tl rp=>?_⟩;let s0:aI H (upd H tl (.j [])):=È rp;let g0:upd H tl (.j []) tl=O (.j []):=aD;generalize upd H tl (.j [])=H0 at s0 g0;dsimp only[jG];show YF (λ ac H'=>aI H H'/\(∃ rm,H' tl=O (.j rm)/\IsL K H' ((hX net m n).map yI) rm)/\∃ mi,Is K H' (oF (i8 net m n)) mi/\
   ∃ v4 v5 v6,ac=[O x,O mi,O (.u (n:Int)),O (.y tl),v4,v5,v6]) (λ D' hD=>?_) ?_
  rotate_left
  ·rintro ac H1 zQ;let⟨s1,⟨rm,Il,Cf⟩,mi,Ft,v4,v5,v6,Y⟩:=zQ;refine⟨_,Y,_,Y,tl,_,Y,.p ⟨É Il,λ p2 rk=>⟨(sz0 2),λ p hp=>?_⟩⟩⟩;let m2:aI H1 (upd H1 p2 (.v rm)):=È rk;let m3:aI (upd H1 p2 (.v rm)) (upd (upd H1 p2 (.v rm)) p (.v [mi,.y p2])):=È hp;show k p mi p2 rm _ ((s1.trans m2).trans m3) (Ï aD) (Ì (m2.trans m3).ts _ _ Ft) (m3.tup (Ï aD)) (Ò (m2.trans m3).ts _ _ Cf)
  refine⟨_,Y,_,Y,JM,JM,?_⟩;show jT (lo:=0) (n:=n) (λ i ac H'=>aI H H'/\(∃ rm,H' tl=O (.j rm)/\IsL K H' ((hX net m i).map yI) rm)/\∃ mi,Is K H' (oF (i8 net m i)) mi/\
   ∃ v4 v5 v6,ac=[O x,O mi,O (.u (n:Int)),O (.y tl),v4,v5,v6]) ?_ ?_ ?_
  ·refine⟨s0,⟨[],g0,.nil⟩,y,Ì s0.ts _ _ hy,_,_,_,Y⟩
  ·rintro i ac H1 hi zQ;let⟨s1,⟨rm,Il,Cf⟩,mi,Ft,v4,v5,v6,Y⟩:=zQ;let⟨ma,po,st,Y,q,hs,hp⟩:=l9 Ft;refine⟨_,Y,.x (.p ⟨ma,_,0,_,Y,Y,q,Y,?_⟩)⟩;refine⟨_,Y,_,Y,x,.y ma,net,i8 net m i,Y,Ì s1.ts _ _ hx,Ft,nok,sB pw i,λ p p1 p2 H2 mw qp i1 q2=>?_⟩;refine⟨p,_,Y,qp,Y,_,_,Y,_,_,Y,Y,?_⟩;let Lu:=mw _ _ Il;let ltk:=NT net (i8 net m i);let hn12:=nok.hi;refine⟨_,Y,.p ⟨Y,_,É Lu⟩,?_⟩;refine⟨_,Y,p2,Y,⟨_,q2⟩,i9 (K:=K) (a:=p2) (xs:=((i8 net m i).tk net).tip.map λ(k:Nat)=>V.int (k:Int))
    (λ D j rr ac H'=>H2 D=W/\aI H2 H'/\H' D=O (.j rr)/\IsL K H' (((((i8 net m i).tk net).tip.take j).map λ k=>((i8 net m i).tick,k)).map yI) rr/\∃ u,ac=[u,O (.u (i8 net m i).tick)])
    (λ D j rr ac H' p=>p.2.1.tup q2) (λ D hD=>⟨hD,È hD,aD,.nil,W,Y⟩) ?_ ?_⟩
   rotate_left
   ·rintro D j x' rr ac H3 hx zQ;let⟨hD,nj,jc,lr,u,Y⟩:=zQ;rw[Ö]at hx;let⟨kk,hk,Y⟩:=ç.mp hx;let Ij:=(à.mp hk).1;let pk:rr.Z<=12:=by rw[lr.Z];simp;lia
    show gN ?_;refine⟨_,Y,_,Y,(sz0 2),λ e he=>?_⟩;let me:=È (o:=HO.tup [.u (i8 net m i).tick,.u (kk:Int)]) he;let nDe:D≠e:=aM jc he;let Ux:lX (upd H3 e (.v [.u (i8 net m i).tick,.u (kk:Int)]) D):=by rw[me _ _ jc];show trivial
    refine⟨me _ _ jc,bB JM,hD,(nj.trans me).put hD,aD,?_,_,Y⟩;rw[cS hk,Ñ,Ñ];show ď (Ú (ds:=[.u (i8 net m i).tick,.u (kk:Int)]) (ă (K:=K) Û Ux _ _ (Ï aD)) (.B (Is.i _) (.B (Is.i _) .nil))) (Ò (me.ts.trans (ă Û Ux)) _ _ lr)
   ·rintro D rr ac H3 zQ;let⟨hD,nj,jc,lr,_⟩:=zQ;rw[Ê,ý]at lr;let Lv:=nj _ _ Lu;let l1:rm.Z<=12 * i:=by rw[Cf.Z,Ê];show nG nok i
    let l2:rr.Z<=12:=by rw[lr.Z];simp;lia
    refine⟨tl,D,_,_,Y,Y,Lv,jc,ğ (oT JM),?_⟩;let mu3:lX (H3 tl):=by rw[Lv];show trivial
    let zu:bU K H3 (upd H3 tl (.j (rm++rr))):=ă Û mu3;let wk:=mw.trans nj;refine⟨(s1.trans wk).put rp,⟨_,aD,?_⟩,p1,Ì zu _ _ (Ì nj.ts _ _ i1),_,_,_,Y⟩;change IsL K _ ((hX net m i++vS net (i8 net m i)).map yI) _;rw[Ñ];show IsL.app (Ò (wk.ts.trans zu) _ _ Cf) (Ò zu _ _ lr)
  ·show λ ac H' p=>hD _ _ p
theorem qO :∀(l:List (Int×Nat)) (ts:List (List Int)),(∀ x∈ts,x.Z<=B)->∀ x∈l.foldl addTip ts,x.Z<=B+l.Z
 |[],ts,h,x,hx=>by let:=h x hx;simp;lia
 |t::l,ts,h,x,hx=>by
  let h2:∀ y∈addTip ts t,y.Z<=B+1:=λ y hy=>by
   unfold addTip at hy;rcases Ť hy with hy|rfl
   ·let:=h y hy;lia
   ·rw[Ý,Ą];let:(ts.getD t.2 []).length<=B:=by
     rw[ć];cases e:ts[t.2]? with
     |none=>simp
     |some z=>show h z (Ô e)
    lia
  let:=qO (B:=B+1) l (addTip ts t) h2 x hx;rw[æ];lia
def RunSz.pour  (h:RunSz S B) (v a:Int):RunSz (S.pour v a) (B+1):=
 ⟨by let:=h.rows;change(S.rows++_).length<=_;rw[Ý,Ą];lia,by let:=h.pre;change(S.pre++_).length<=_;rw[Ý,Ą];lia,λ l hl=>by let:=h.tips l hl;lia⟩
def RunSz.go  (h:RunSz S B) (nok:NetOk S.net) (k:Nat):RunSz (S.go k) (B+12 * k+1):=
 ⟨by let:=h.rows;change(S.rows++_).length<=_;rw[Ý,Ą];lia,by let:=h.pre;change(S.pre++_).length<=_;rw[Ý,Ą];lia,λ l hl=>by
  let h1:=qO (B:=B) _ _ h.tips l hl;let h2:=nG (m:=S.cur) nok k;lia⟩
def TF (net:Net):RunSz (qA net) 0:=⟨Í _,Í _,λ l hl=>by
 let:=ō (show l∈List.replicate net.vs.length []from hl);subst this;show Í _⟩
def AT (K:Ç) (C:Á):Sp:=λ vs H Q _=>∃(r dx:Á) (x:V) (net:Net),vs=[.y r,x]/\H r=O (.ins C dx [])/\Is K H (gE net) x/\NetOk net/\NetFull net/\
 ∀ fp H',(∀ b∈fp,H b=W)->cI r H H'->bP K C H' r (qA net) fp->Q .non H'
def UL (F:Fun K "__init__" "Run.__init__" (bM (aX 53) 0) f fd) (T:Txt mg) (tx:RunTx K C)
  (qm:Callee P w K mg base "is_net" ["thing"] 4 (AS K) f1 jf) (qr:Callee P w K mg base "first_moment" ["net"] 2 (wD K) f2 ka) :
  FnOk P w K mg base gT 5 f fd ["self","net"] (AT K C):=by
 show F.ok ["self","net"] λ sc ir A outer s H vs Q E hr h=>?_
 ·let⟨r,dx,x,net,Y,hi,hx,nok,pf,k⟩:=h;show⟨_,(aE (bK (fC (dI (cD qm hr (a9 (pv 1) aB)))) (aG TX) aS)
   (aE (rS (K:=K) Y (pv 0) (pv 1) Y)
   (aE (rS (K:=K) Y (pv 0) (aY aB) Y)
   (aE (rS (K:=K) Y (pv 0) (aY (a9 (cD qr hr (a9 (pv 1) aB)) aB)) Y)
   (aG (rS (K:=K) Y (pv 0) (hJ (λ _ _ h=>h) Y (LcOk.mk (N':=["vessel"]) (fr:=[W]) Y trivial Y Y Y Y Y trivial) (dR (K:=K) Y (px K (pv 1) aH)) (λ _ _ _=>(gC 0 ["vessel"])) (λ _ _ _=>cP) (λ _ _ _=>(aY aB))) Y)))))),?_⟩
  show⟨_,Y,x,net,Y,hx,nok,pf,λ H1 pq=>⟨_,Y,bR ?_⟩⟩;show⟨_,Y,_,Y,r,C,dx,[],Y,pq _ _ hi,tx.cls,tx.net,JL,?_⟩;let Pc:lX (H1 r):=by rw[pq _ _ hi];show trivial
  let i2:upd H1 r (.ins C dx (cQ "net" x [])) r=O (.ins C dx (cQ "net" x [])):=aD;let b2:cI r H (upd H1 r (.ins C dx (cQ "net" x []))):=pq.but.trans Û;let Lw:Is K (upd H1 r (.ins C dx (cQ "net" x []))) (gE net) x:=Ì (ă Û Pc) _ _ (Ì pq.ts _ _ hx);generalize upd H1 r (.ins C dx (cQ "net" x []))=H2 at i2 b2 Lw;show⟨ß _,λ R hR=>⟨_,Y,r,C,dx,_,Y,È hR _ _ i2,tx.cls,tx.rows,(show 1 < 1000 by decide),?_⟩⟩;let Lx:R≠r:=λ z=>by rw[z,i2]at hR;cases hR
  let fR:H R=none:=b2.free Lx hR;let Bc:lX (upd H2 R (.j []) r):=by rw[È hR _ _ i2];show trivial
  let i3:upd (upd H2 R (.j [])) r (.ins C dx (cQ "rows" (.y R) (cQ "net" x []))) r=O (.ins C dx (cQ "rows" (.y R) (cQ "net" x []))):=aD;let b3:cI r H (upd (upd H2 R (.j [])) r (.ins C dx (cQ "rows" (.y R) (cQ "net" x [])))):=(b2.trans (È hR).but).trans Û;let Pd:Is K (upd (upd H2 R (.j [])) r (.ins C dx (cQ "rows" (.y R) (cQ "net" x [])))) (gE net) x:=Ì (ă Û Bc) _ _ (Ì (È hR).ts _ _ Lw);let Pe:upd (upd H2 R (.j [])) r (.ins C dx (cQ "rows" (.y R) (cQ "net" x []))) R=O (.j []):=by rw[aK Lx];show aD
  generalize upd (upd H2 R (.j [])) r (.ins C dx (cQ "rows" (.y R) (cQ "net" x [])))=H3 at i3 b3 Pd Pe;show⟨_,Y,x,net,Y,Pd,nok,λ p H6 Dm cm=>⟨(sz0 1),λ M hM=>⟨_,Y,r,C,dx,cQ "rows" (.y R) (cQ "net" x []),Y,È hM _ _ (Dm _ _ i3),tx.cls,tx.moments,(show 2 < 1000 by decide),?_⟩⟩⟩;let i6:=Dm _ _ i3;let Pf:M≠r:=λ z=>by rw[z,i6]at hM;cases hM
  let nMR:M≠R:=λ z=>by rw[z,Dm _ _ Pe]at hM;cases hM
  let fM:H M=none:=(b3.trans Dm.but).free Pf hM;let Fu:lX (upd H6 M (.j [.y p]) r):=by rw[È hM _ _ i6];show trivial
  let rq:bU K H6 (upd (upd H6 M (.j [.y p])) r (.ins C dx (cQ "moments" (.y M) (cQ "rows" (.y R) (cQ "net" x []))))):=(È hM).ts.trans (ă Û Fu);let i7:upd (upd H6 M (.j [.y p])) r (.ins C dx (cQ "moments" (.y M) (cQ "rows" (.y R) (cQ "net" x [])))) r=O (.ins C dx (cQ "moments" (.y M) (cQ "rows" (.y R) (cQ "net" x [])))):=aD;let b7:cI r H (upd (upd H6 M (.j [.y p])) r (.ins C dx (cQ "moments" (.y M) (cQ "rows" (.y R) (cQ "net" x []))))):=((b3.trans Dm.but).trans (È hM).but).trans Û;let Ly:upd (upd H6 M (.j [.y p])) r (.ins C dx (cQ "moments" (.y M) (cQ "rows" (.y R) (cQ "net" x [])))) M=O (.j [.y p]):=by rw[aK Pf];show aD
  let Lz:upd (upd H6 M (.j [.y p])) r (.ins C dx (cQ "moments" (.y M) (cQ "rows" (.y R) (cQ "net" x [])))) R=O (.j []):=by rw[aK Lx];show È hM _ _ (Dm _ _ Pe)
  let Im:=Ì rq _ _ (Ì Dm.ts _ _ Pd);let Uy:=Ì rq _ _ cm;generalize upd (upd H6 M (.j [.y p])) r (.ins C dx (cQ "moments" (.y M) (cQ "rows" (.y R) (cQ "net" x []))))=H7 at i7 b7 Ly Lz Im Uy;let⟨a,b,c,xs,ys,Y,q,q1,l1,q2,l2⟩:=j5 Im;let ve:xs.Z=net.vs.Z:=by rw[l1.Z,Ê]
  let n2:=nok.hi;show⟨_,Y,.x (.p ⟨a,_,0,_,Y,Y,q,Y,b,Y,⟨_,q1⟩,i9 (K:=K) (a:=b) (xs:=xs) (λ D i rr ac H'=>H7 D=W/\aI H7 H'/\H' D=O (.j rr)/\(∃ ts:List Á,rr=ts.map V.ref/\ts.Z=i/\(D::ts).Nodup/\∀ t∈ts,H7 t=W/\H' t=O (.j []))/\∃ u,ac=[u])
   (λ D i rr ac H' p=>p.2.1.tup q1) (λ D hD=>⟨hD,È hD,aD,⟨[],Y,Y,JN,λ t ht=>(nomatch ht)⟩,W,Y⟩) ?_ ?_⟩)⟩
  rotate_left
  ·rintro D i v rr ac H8 hv zQ;let⟨hD,sm,jc,⟨ts,Y,xh,Dn,pe⟩,u,Y⟩:=zQ;let we:=(à.mp hv).1;show gN ?_;show⟨ß _,λ t ht=>⟨È ht _ _ jc,bB (by simp;lia),hD,(sm.trans (È ht)).put hD,aD,⟨ts++[t],by rw[Ñ];rfl,by simp [xh],?_,?_⟩,_,Y⟩⟩
   ·let Pg:D≠t:=λ z=>by rw[<- z,jc]at ht;cases ht
    let nts:t∉ts:=λ z=>by rw[(pe t z).2]at ht;cases ht
    rw[õ]at Dn ⊢;show⟨λ z=>?_,?_⟩
    ·rcases ë.1 z with z|z
     ·show Dn.1 z
     ·show Pg (by simpa using z)
    ·rw[List.nodup_append];show⟨Dn.2,JN,λ a ha b hb=>by rw[ã]at hb;subst hb;show λ z=>nts (z ▸ ha)⟩
   ·intro t' ht';let Pg:t≠D:=λ z=>by rw[z,jc]at ht;cases ht
    rcases ë.1 ht' with z|z
    ·let h1:=pe t' z;let ne1:t'≠D:=λ z2=>by rw[õ]at Dn;show Dn.1 (z2 ▸ z)
     show⟨h1.1,by rw[aK ne1];show È ht _ _ h1.2⟩
    ·let:t'=t:=by simpa using z
     subst this;show⟨sm.free ht,by rw[aK Pg];show aD⟩
  ·rintro D rr ac H8 zQ;let⟨hD,sm,jc,⟨ts,Y,xh,Dn,pe⟩,_⟩:=zQ;show⟨_,Y,r,C,dx,_,Y,sm _ _ i7,tx.cls,tx.tips,(show 3 < 1000 by decide),?_⟩;let Uz:D≠r:=λ z=>by rw[z,i7] at hD;cases hD
   let nDR:D≠R:=λ z=>by rw[z,Lz]at hD;cases hD
   let nDM:D≠M:=λ z=>by rw[z,Ly]at hD;cases hD
   let Va:∀ t∈ts,t≠r:=λ t ht z=>by let:=(pe t ht).1;rw[z,i7]at this;cases this
   let Fv:∀ t∈ts,t≠R:=λ t ht z=>by let:=(pe t ht).1;rw[z,Lz]at this;cases this
   let Fx:∀ t∈ts,t≠M:=λ t ht z=>by let:=(pe t ht).1;rw[z,Ly]at this;cases this
   let Ph:lX (H8 r):=by rw[sm _ _ i7];show trivial
   let Vb:bU K H7 (upd H8 r (.ins C dx (cQ "tip_ticks" (.y D) (cQ "moments" (.y M) (cQ "rows" (.y R) (cQ "net" (.y a) [])))))):=sm.ts.trans (ă Û Ph);show k (R::M::D::ts) _ (λ y hy=>?_) ((b7.trans sm.but).trans Û) ⟨dx,.y a,R,M,D,ts,[],[],.y p,?_,Y⟩
   ·rcases Ð.1 hy with rfl|hy
    ·show fR
    rcases Ð.1 hy with rfl|hy
    ·show fM
    rcases Ð.1 hy with rfl|hy
    ·show b7.free Uz hD
    show b7.free (Va y hy) (pe y hy).1
   ·show {
     ins:=aD
     net:=Ì Vb _ _ Im
     hR:=by rw[aK Lx];show sm _ _ Lz
     lR:=.nil
     hM:=by rw[aK Pf];show sm _ _ Ly
     lM:=.nil
     cM:=Ì Vb _ _ Uy
     hT:=by rw[aK Uz];show jc
     tl:=by rw[xh,ve];simp[qA]
     ti:=λ i t l h1 h2=>by
      let hm:=Ô h1;let hl:=Ô h2;let:=ō (show l∈List.replicate net.vs.length []from hl);subst this;rw[aK (Va t hm)];show(pe t hm).2
     nd:=by
      rw[õ];show⟨λ z=>?_,?_⟩
      ·rcases Ð.1 z with z|z
       ·show nMR z.symm
       rcases Ð.1 z with z|z
       ·show nDR z.symm
       show Fv R z Y
      rw[õ];show⟨λ z=>?_,Dn⟩;rcases Ð.1 z with z|z
      ·show nDM z.symm
      show Fx M z Y
     ok:=JR nok }
def iX (K:Ç) (C:Á) (dn:RunS->V->Hp->Prop):Sp:=λ vs H Q _=>∃(r:Á) (S:RunS) (fp:List Á),vs=[.y r]/\bP K C H r S fp/\∀ v,dn S v H->Q v H
def Q0 (F:Fun K "state" "Run.state" (bM (aX 53) 5) f fd) (T:Txt mg) (tx:RunTx K C):FnOk P w K mg base gT 1 f fd ["self"] (iX K C λ S v H=>Is K H (yG S.cur.held S.cur.coming S.cur.doors) v):=by
 show F.ok ["self"] λ sc ir A outer s H vs Q E hr h=>?_
 ·let⟨r,S,fp,Y,⟨dx,np,R,M,T',ts,rs,ms,mv,c,Y⟩,k⟩:=h;show⟨_,(aG (aO (px K (px K (bY (K:=K) Y (pv 0) Y) (pR kZ aH)) aH))),?_⟩;let⟨a,po,st,Y,q,hs,hp⟩:=l9 c.cM;show⟨_,Y,r,C,dx,_,_,Y,c.ins,tx.cls,tx.moments,eJ,1,Y,.p ⟨M,_,-1,_,Y,Y,É c.hM,iO _ _,.x (.p ⟨a,_,1,_,Y,Y,q,Y,k _ hs⟩)⟩⟩
def UN (F:Fun K "came" "Run.came" (bM (aX 53) 7) f fd) (T:Txt mg) (tx:RunTx K C):FnOk P w K mg base gT 1 f fd ["self"] (iX K C λ S v H=>v=.u S.cur.came):=by
 show F.ok ["self"] λ sc ir A outer s H vs Q E hr h=>?_
 ·let⟨r,S,fp,Y,⟨dx,np,R,M,T',ts,rs,ms,mv,c,Y⟩,k⟩:=h;show⟨_,(aG (aO (px K (px K (bY (K:=K) Y (pv 0) Y) (pR kZ aH)) aH))),?_⟩;let⟨a,po,st,Y,q,hs,hp⟩:=l9 c.cM;show⟨_,Y,r,C,dx,_,_,Y,c.ins,tx.cls,tx.moments,eJ,1,Y,.p ⟨M,_,-1,_,Y,Y,É c.hM,iO _ _,.x (.p ⟨a,_,3,_,Y,Y,q,Y,k _ Y⟩)⟩⟩
def EW (F:Fun K "grounded" "Run.grounded" (bM (aX 53) 8) f fd) (T:Txt mg) (tx:RunTx K C):FnOk P w K mg base gT 1 f fd ["self"] (iX K C λ S v H=>v=.u S.cur.ground):=by
 show F.ok ["self"] λ sc ir A outer s H vs Q E hr h=>?_
 ·let⟨r,S,fp,Y,⟨dx,np,R,M,T',ts,rs,ms,mv,c,Y⟩,k⟩:=h;show⟨_,(aG (aO (px K (px K (bY (K:=K) Y (pv 0) Y) (pR kZ aH)) aH))),?_⟩;let⟨a,po,st,Y,q,hs,hp⟩:=l9 c.cM;show⟨_,Y,r,C,dx,_,_,Y,c.ins,tx.cls,tx.moments,eJ,1,Y,.p ⟨M,_,-1,_,Y,Y,É c.hM,iO _ _,.x (.p ⟨a,_,4,_,Y,Y,q,Y,k _ Y⟩)⟩⟩
def Q2 (F:Fun K "tick" "Run.tick" (bM (aX 53) 4) f fd) (T:Txt mg) (tx:RunTx K C):FnOk P w K mg base gT 1 f fd ["self"] (iX K C λ S v H=>v=.u S.cur.tick):=by
 show F.ok ["self"] λ sc ir A outer s H vs Q E hr h=>?_
 ·let⟨r,S,fp,Y,⟨dx,np,R,M,T',ts,rs,ms,mv,c,Y⟩,k⟩:=h;show⟨_,(aG (aO (px K (px K (bY (K:=K) Y (pv 0) Y) (pR kZ aH)) aH))),?_⟩;let⟨a,po,st,Y,q,hs,hp⟩:=l9 c.cM;show⟨_,Y,r,C,dx,_,_,Y,c.ins,tx.cls,tx.moments,eJ,1,Y,.p ⟨M,_,-1,_,Y,Y,É c.hM,iO _ _,.x (.p ⟨a,_,0,_,Y,Y,q,Y,k _ Y⟩)⟩⟩
section
variable {r dx R M T:Á}{H H':Hp}{S:RunS}{fp:List Á}{np mv:V}{ts:List Á}{rs ms:List V}
def EY {ag:Type}{xs:List ag} (h:xs.Nodup) {i j:Nat}{x:ag} (h1:xs[i]?=O x) (h2:xs[j]?=O x):i=j:=by
 let⟨a1,b1⟩:=à.mp h1;let⟨a2,b2⟩:=à.mp h2;show(agl h (h₀:=a1) (h₁:=a2)).1 (b1.trans b2.symm)
def RunC.addTip (c:RunC K C H r S dx np R M T ts rs ms mv) (h1:ts[p.2]?=O t) (h2:S.tips[p.2]?=O l) :
  RunC K C (upd H t (.j ((l++[p.1]).map V.int))) r { S with tips:=addTip S.tips p } dx np R M T ts rs ms mv:=by
 let hm:=Ô h1;let ht:=c.ti _ _ _ h1 h2;let mu:lX (H t):=by rw[ht];show trivial
 let Do:bU K H (upd H t (.j ((l++[p.1]).map V.int))):=ă Û mu;let nd:=c.nd;rw[õ]at nd;let uu:=nd.2;rw[õ]at uu;let Dp:=uu.2;rw[õ]at Dp;let nR:R≠t:=λ z=>nd.1 (by rw[z];simp[hm]);let nM:M≠t:=λ z=>uu.1 (by rw[z];simp[hm]);let nT:T≠t:=λ z=>Dp.1 (by rw[z];show hm);let nr:r≠t:=λ z=>c.r_notin (by rw[z];simp[hm]);let ki:p.2 < S.tips.Z:=(à.mp h2).1;let hgd:S.tips.getD p.2 []=l:=by rw[ć,h2];rfl
 show {
  ins:=by rw[aK nr];show c.ins
  net:=Ì Do _ _ c.net
  hR:=by rw[aK nR];show c.hR
  lR:=Ò Do _ _ c.lR
  hM:=by rw[aK nM];show c.hM
  lM:=Ò Do _ _ c.lM
  cM:=Ì Do _ _ c.cM
  hT:=by rw[aK nT];show c.hT
  tl:=by change _=(List.set S.tips p.2 _).length;rw[Ţ];show c.tl
  ti:=λ i t' l' e1 e2=>by
   by_cases hi:i=p.2
   ·subst hi;rw[h1]at e1;ext e1;let e3:(S.tips.set p.2 (S.tips.getD p.2 []++[p.1]))[p.2]?=O l':=e2;rw[hgd,ļ ki]at e3;ext e3;show aD
   ·let e3:(S.tips.set p.2 (S.tips.getD p.2 []++[p.1]))[i]?=O l':=e2;rw[Ľ (Ne.symm hi)]at e3;let ne:t'≠t:=λ z=>hi (EY Dp.2 (by rw[<- z];show e1) h1);rw[aK ne];show c.ti i t' l' e1 e3
  nd:=c.nd
  ok:=⟨c.ok.nok,c.ok.cur,by change(List.set S.tips p.2 _).length=_;rw[Ţ];show c.ok.tl⟩ }
end
def XA (K:Ç) (C:Á):Sp:=λ vs H Q _=>∃(r:Á) (S:RunS) (fp:List Á) (k B:Nat),vs=[.y r,.u (k:Int)]/\bP K C H r S fp/\RunSz S B/\B<=1000000/\k<=100000/\
 ∀ H',dP fp H H'->bP K C H' r (S.go k) fp->Q .non H'
def ok_go (F:Fun K "go" "Run.go" (bM (aX 53) 2) f fd) (T:Txt mg) (tx:RunTx K C) (sk:Callee P w K mg base "moment_gone" ["net","moment","many"] 6 (JC K) f1 jf) :
  FnOk P w K mg base gT 7 f fd ["self","many"] (XA K C):=by
 show F.ok ["self","many","moment","tipped","tick","number"] λ sc ir A outer s H vs Q E hr h=>?_
 ·let⟨r,S,fp,n,B,Y,⟨dx,np,R,M,T',ts,rs,ms,mv,c,Y⟩,sz,hB,hn,k⟩:=h;show⟨_,(aE (bF (cD sk hr (a9 (bY (K:=K) Y (pv 0) Y) (a9 (px K (bY (K:=K) Y (pv 0) Y) (pR kZ aH)) (a9 (pv 1) aB)))) (aV (K:=K) (n:=2) Y Y (aF (gL 2 sc.nd) (aF (gL 3 sc.nd) aQ))))
   (aE (bL (eF (K:=K) Y í ö ø bW (bY (K:=K) Y (pv 0) Y) (a9 (pv 2) aB)))
   (aE (bL (eF (K:=K) Y í ö ø bW (bY (K:=K) Y (pv 0) Y) (a9 (bG (a9 aL (a9 (pv 1) (a9 (pv 3) aB)))) aB)))
   (aG (eE ú Y (dR (K:=K) Y (pv 3)) (aV (K:=K) (n:=2) Y Y (aF (gL 4 sc.nd) (aF (gL 5 sc.nd) aQ))) (aG (bL (eF (K:=K) Y í ö ø bW (px K (bY (K:=K) Y (pv 0) Y) (pv 5)) (a9 (pv 4) aB))))))))),?_⟩
  let nok:=c.ok.nok;let pw:=c.ok.cur;let nd:=c.nd;let lrs:rs.Z<=B:=by rw[c.lR.Z,Ê];show sz.rows
  let lms:ms.Z<=B:=by rw[c.lM.Z,Ê];show sz.pre
  show⟨_,Y,r,C,dx,_,_,Y,c.ins,tx.cls,tx.net,qJ,_,Y,r,C,dx,_,_,Y,c.ins,tx.cls,tx.moments,eJ,1,Y,.p ⟨M,_,-1,_,Y,Y,É c.hM,iO _ _,_,Y,np,mv,S.net,S.cur,n,Y,c.net,c.cM,nok,pw,hn,λ pp mi tl rm H1 s1 qpp Ft qtl Cf=>?_⟩⟩;show⟨pp,_,Y,qpp,Y,_,_,Y,_,_,Y,Y,?_⟩;let ltv:rm.Z<=12 * n:=by rw[Cf.Z,Ê];show nG nok n
  let Am:R≠M:=λ z=>by rw[õ]at nd;show nd.1 (by rw[z];simp)
  let ox:r≠M:=λ z=>c.r_notin (by rw[z];simp);let vi:r≠R:=λ z=>c.r_notin (by rw[z];simp);show⟨_,Y,r,C,dx,_,_,Y,s1 _ _ c.ins,tx.cls,tx.moments,eJ,.p ⟨Y,_,É (s1 _ _ c.hM)⟩,_,Y,M,_,_,Y,Y,s1 _ _ c.hM,oT (by simp;lia),?_⟩;let muM:lX (H1 M):=by rw[s1 _ _ c.hM];show trivial
  let vv:bU K H1 (upd H1 M (.j (ms++[mv]++[mi]))):=ă Û muM;let Pi:=vv _ _ qtl;let k2:∀(b:Á) (o:HO),b≠M->H b=O o->upd H1 M (.j (ms++[mv]++[mi])) b=O o:=λ b o h e=>by rw[aK h];show s1 _ _ e
  let Ma:upd H1 M (.j (ms++[mv]++[mi])) M=O (.j (ms++[mv]++[mi])):=aD;let Io:bU K H (upd H1 M (.j (ms++[mv]++[mi]))):=s1.ts.trans vv;let Mb:=Ì vv _ _ Ft;let Pj:=Ò vv _ _ Cf;generalize upd H1 M (.j (ms++[mv]++[mi]))=H2 at Pi k2 Ma Io Mb Pj;show⟨_,Y,r,C,dx,_,_,Y,k2 _ _ ox c.ins,tx.cls,tx.rows,oW,.p ⟨Y,_,É (k2 _ _ Am c.hR)⟩,?_⟩;show⟨_,Y,_,Y,(sz0 3),λ p3 Ip=>?_⟩;let xy:aI H2 (upd H2 p3 (.v [.o "go",.u (n:Int),.y tl])):=È Ip;let Iq:Is K (upd H2 p3 (.v [.o "go",.u (n:Int),.y tl])) (yK (.go (n:Int) (hX S.net S.cur n))) (.y p3):=
   Ú (ds:=[.o "go",.u (n:Int),.v ((hX S.net S.cur n).map yI)]) (Ï aD) (.B (Is.s _) (.B (Is.i _) (.B (Ú (xy.tup Pi) (Ò xy.ts _ _ Pj)) .nil)))
  generalize upd H2 p3 (.v [.o "go",.u (n:Int),.y tl])=H4 at Iq xy;let Ir:=xy _ _ (k2 _ _ Am c.hR);show⟨R,_,_,Y,Y,Ir,oT JM,?_⟩;let Pk:lX (H4 R):=by rw[Ir];show trivial
  let sx:bU K H4 (upd H4 R (.j (rs++[.y p3]))):=ă Û Pk;let Bd:bU K H (upd H4 R (.j (rs++[.y p3]))):=(Io.trans xy.ts).trans sx;let keep:∀(b:Á) (o:HO),b≠M->b≠R->H b=O o->upd H4 R (.j (rs++[.y p3])) b=O o:=λ b o h1 h2 e=>by
   rw[aK h2];show xy _ _ (k2 _ _ h1 e)
  let Pm:=sx _ _ (xy.tup Pi);let Fy:=Ò (xy.ts.trans sx) _ _ Pj;rw[õ]at nd;let uu:=nd.2;rw[õ]at uu;let c5:RunC K C (upd H4 R (.j (rs++[.y p3]))) r { S with
   rows:=S.rows++[.go (n:Int) (hX S.net S.cur n)],pre:=S.pre++[S.cur],cur:=i8 S.net S.cur n } dx np R M T' ts (rs++[.y p3]) (ms++[mv]) mi:={
   ins:=keep _ _ ox vi c.ins
   net:=Ì Bd _ _ c.net
   hR:=aD
   lR:=by
    change IsL K _ ((S.rows++[Row.go (n:Int) (hX S.net S.cur n)]).map yK) _;rw[Ñ];show ď (Ì sx _ _ Iq) (Ò Bd _ _ c.lR)
   hM:=by rw[aK (Ne.symm Am)];show xy _ _ Ma
   lM:=by
    change IsL K _ ((S.pre++[S.cur]).map oF) _;rw[Ñ];show ď (Ì Bd _ _ c.cM) (Ò Bd _ _ c.lM)
   cM:=Ì (xy.ts.trans sx) _ _ Mb
   hT:=keep _ _ (λ z=>uu.1 (by rw[<- z];simp)) (λ z=>nd.1 (by rw[<- z];simp)) c.hT
   tl:=c.tl
   ti:=λ i t l h1 h2=>by
    let hm:=Ô h1;show keep _ _ (λ z=>uu.1 (by rw[<- z];simp[hm])) (λ z=>nd.1 (by rw[<- z];simp[hm])) (c.ti i t l h1 h2)
   nd:=c.nd
   ok:=⟨c.ok.nok,sB pw n,c.ok.tl⟩ }
  let b5:dP (R::M::T'::ts) H (upd H4 R (.j (rs++[.y p3]))):=λ b o hb e=>keep b o (λ z=>hb (by rw[z];simp)) (λ z=>hb (by rw[z];simp)) e;generalize upd H4 R (.j (rs++[.y p3]))=H5 at Pm Fy c5 b5;show⟨_,Y,tl,Y,⟨_,Pm⟩,oY (K:=K) (a:=tl) (xs:=rm)
   (λ i ac H'=>bH K H' tl rm/\IsL K H' ((hX S.net S.cur n).map yI) rm/\dP (R::M::T'::ts) H H'/\
    RunC K C H' r { S with rows:=S.rows++[.go (n:Int) (hX S.net S.cur n)],pre:=S.pre++[S.cur],cur:=i8 S.net S.cur n,tips:=((hX S.net S.cur n).take i).foldl addTip S.tips } dx np R M T' ts (rs++[V.ref p3]) (ms++[mv]) mi/\
    ∃ v4 v5,ac=[O (.y r),O (.u (n:Int)),O mi,O (.y tl),v4,v5])
   ⟨Pm,Fy,b5,by rw[Ŝ];show c5,_,_,Y⟩ (λ i ac H' _ p=>p.1) ?_ ?_⟩
  ·rintro i x ac H6 hx zQ;let⟨Vc,Pn,b6,c6,v4,v5,Y⟩:=zQ;let⟨d,hd,ix⟩:=L2.IsL.get' Pn hx;rw[Ö] at hd;let⟨⟨tk,nu⟩,Ik,Y⟩:=ç.mp hd;let we:=(à.mp Ik).1;let Vd:nu < S.net.vs.Z:=AI n _ (Ô Ik);let⟨e,zs,Y,qe,le⟩:=(show Is K H6 (.v [.u tk,.u (nu:Int)]) x from ix).un;let⟨x1,rr,Y,h1,le⟩:=le.un;let⟨x2,rr,Y,h2,le⟩:=le.un;let:=le.un0;subst this;let:=h1.ui;subst this;let:=h2.ui;subst this;show⟨e,_,Y,qe,Y,_,_,Y,_,_,Y,Y,?_⟩;let lt6':=c6.ok.tl;let xh:nu < ts.Z:=by rw[c.tl,c.ok.tl];show Vd
   let Fz:ts[nu]?=O ts[nu]:=by simp[xh]
   let Ve:nu < (((hX S.net S.cur n).take i).foldl addTip S.tips).length:=by rw[kX,c.ok.tl];show Vd
   let Dq:(((hX S.net S.cur n).take i).foldl addTip S.tips)[nu]?=O (((hX S.net S.cur n).take i).foldl addTip S.tips)[nu]:=by simp[Ve]
   let hsz:=qO (B:=B) ((hX S.net S.cur n).take i) S.tips sz.tips _ (ı Ve);generalize(((hX S.net S.cur n).take i).foldl addTip S.tips)[nu]=l at Dq hsz;let Gu:=nG (m:=S.cur) nok n;rw[ô]at hsz;let yt:=c6.ti nu _ l Fz Dq;show⟨_,Y,r,C,dx,_,_,Y,c6.ins,tx.cls,tx.tips,CQ,_,Y,.p ⟨T',_,(nu:Int),.y ts[nu],Y,Y,É c6.hT,hW (by rw[Ö,Fz];rfl),.p ⟨Y,_,É yt⟩,_,Y,ts[nu],_,_,Y,Y,yt,oT (by rw[Ê];lia),?_⟩⟩;let c7:=c6.addTip (p:=(tk,nu)) Fz Dq;let Ct:ts[nu]∈R::M::T'::ts:=by simp
   let Fu:lX (H6 ts[nu]):=by rw[yt];show trivial
   rw[Ñ]at c7;show⟨ă (K:=K) Û Fu _ _ Vc,Ò (ă Û Fu) _ _ Pn,b6.trans (dP.upd Ct),?_,_,_,Y⟩;rw[cS Ik,ů];show c7
  ·rintro ac H6 zQ;let⟨Vc,Pn,b6,c6,_⟩:=zQ;let el:rm.Z=(hX S.net S.cur n).length:=by rw[Cf.Z,Ê]
   rw[el,ý]at c6;show k _ b6 ⟨dx,np,R,M,T',ts,_,_,_,c6,Y⟩
theorem IX:∀(l:List Int) (i:Nat) (a:Int),i < l.Z->(l.set i (l.getD i 0+a)).sum=l.sum+a
 |[],i,a,h=>by simp at h
 |x::l,0,a,_=>by simp;lia
 |x::l,i+1,a,h=>by
  let:=IX l i a (by simpa using h);simp only[List.set_cons_succ,ĕ,List.getD_cons_succ];lia
theorem A6 :∀(ss:List oP) (ds:List Bool) (has:List Int),has.Z=n->(∀ s∈ss,0<=s.1/\s.1 < n)->(hV has ss ds).sum=has.sum+cU ss ds
 |[],ds,has,_,_=>by ext ds <;> simp[hV,cU]
 |s::ss,[],has,_,_=>by simp[hV,cU]
 |s::ss,d::ds,has,hl,h=>by
  let h1:=h s è;change(hV (oK has s d) ss ds).sum=has.sum+((if d=EA then s.2.1 else 0)+cU ss ds);rw[A6 (n:=n) ss ds (oK has s d) (by rw[A7];show hl) λ s hs=>h s (Õ _ hs)];unfold oK
  by_cases e:d=EA
  ·rw[Å e,Å e,IX _ _ _ JM];lia
  ·rw[Ä e,Ä e];lia
theorem GD:∀ {a b c:List Int}{n:Nat},a.Z=n->b.Z=n->c.Z=n->(kH a b c).sum=a.sum+b.sum+c.sum
 |[],b,c,n,h,h2,h3=>by
  simp at h;subst h;let:=ċ h2;let:=ċ h3;subst b c;rfl
 |x::a,[],c,n,h1,h2,_=>by simp at h1 h2;lia
 |x::a,y::b,[],n,h1,_,h3=>by simp at h1 h3;lia
 |x::a,y::b,z::c,n,h1,h2,h3=>by
  simp at h1 h2 h3;change x+y+z+(kH a b c).sum=_;rw[GD (n:=n - 1) JM JM JM];simp only[ĕ];lia
def LI (n:Nat):(cA n).sum=0:=by
 unfold cA
 induction n with
 |zero=>rfl
 |succ n ih=>rw[ġ,ĕ,ih];rfl
def VA  (nok:NetOk net) (pw:MomOk net m):(cG net m.held m.coming m.poured m.doors).sum=m.held.sum+m.coming.sum+m.poured.sum+cU net.sps m.doors:=by
 unfold cG;rw[A6 (n:=net.vs.Z) _ _ _ (kB pw.st.h pw.st.c pw.pl) nok.sps,GD pw.st.h pw.st.c pw.pl]
def Mom.fair (m:Mom):Prop:=m.came=m.held.sum+m.coming.sum+m.ground
def MG (net:Net):(HW net).fair:=by
 change(0:Int)=(cA _).sum+(cA _).sum+0;rw[LI];rfl
def Mom.fair_step  (nok:NetOk net) (pw:MomOk net m) (h:m.fair):(m.step net).fair:=by
 let hk:=kept nok (Mom.hs_len pw);let hs:=VA nok pw;unfold Mom.fair at h ⊢;change m.came+(m.poured.sum+cU net.sps m.doors)=(m.tk net).held.sum+(m.tk net).coming.sum+(m.ground+(m.tk net).ground);let:(m.tk net)=l7 net m.held m.coming m.poured m.doors:=rfl;rw[this];lia
section
end
def nF  (m:Str) (h:(FX np R M T).lookup m=W):(FX np R M T).lookup m=none:=h
section
variable {H:Hp}{r:Á}{S:RunS}{fp:List Á}
def bP.ins (c:bP K C H r S fp):∃ dx np R M T,H r=O (.ins C dx (FX np R M T)):=by
 let⟨dx,np,R,M,T,ts,rs,ms,mv,c,_⟩:=c;show⟨dx,np,R,M,T,c.ins⟩
end
end Tw
namespace L2
open PySem PySem.Spec PyProof.Rows TwZ
def EqE (K:Ç) (H:Hp) (x y:V):Prop:=(∃ d:D,d.depth<=20/\Is K H d x/\Is K H d y)\/
 ∃ a b xs ys ds,x=.y a/\y=.y b/\bC K H a xs/\bC K H b ys/\IsL K H ds xs/\IsL K H ds ys/\dF ds<=20
def YO (K:Ç) (H:Hp) (x y:V):Prop:=∃ a b xs ys,x=.y a/\y=.y b/\bC K H a xs/\bC K H b ys/\xs.Z=ys.Z/\∀(i:Nat) u v,xs[i]?=O u->ys[i]?=O v->EqE K H u v
section
variable {X:Cx}{gu:List (Á×Obj)}{σ:St}{H:Hp}{s:Â}
def EqE.at (I:Inv X gu σ H s) (hu:A.R+22 < cLine) (h:EqE X.K H x y) (rx:bE x u) (ry:bE y v):SeqAt.EqAt A s u v true:=by
 rcases h with⟨d,hd,h1,h2⟩|⟨a,b,xs,ys,ds,rfl,rfl,q1,q2,l1,l2,hd⟩
 ·show Is.eqAt I d A x y u v JM h1 h2 rx ry
 ·ext rx;cases ry
  by_cases yh:a=b
  ·subst yh;show ĩ _
  ·let⟨us,r1,p1,_⟩:=I.list q1;let⟨vs,r2,p2,_⟩:=I.list q2;let e1:=r1.Z;let e2:=r2.Z;let e3:=l1.Z;let e4:=l2.Z;let ow:A.in1.R=A.R+1:=rfl;let all:=IsL.eqAt I ds A.in1 xs ys us vs JM l1 l2 r1 r2;let:=SeqAt.RcAt.lists (A:=A) (s:=s) (e:=λ _=>EA) p1.isList p2.isList (by simp;lia) JM λ j h1 h2=>all j us.toArray[j] vs.toArray[j] JN JN;let e5:((List.range us.toArray.S).all (λ _=>EA))=true:=by simp
   rw[e5]at this;show af0 yh this
def EG (K:Ç):R2:=λ x y H Q=>YO K H x y/\Q (.bl JJ) H
def HL (hu:X.A.R+64 < cLine):jJ X (compareOp .NotEq) (EG X.K):=by
 intro gu s σ H x y v u Q I rx ry h;let⟨⟨a,b,xs,ys,Y,Y,q1,q2,hl,he⟩,q⟩:=h;ext rx;ext ry;let⟨us,r1,p1,_⟩:=I.list q1;let⟨vs,r2,p2,_⟩:=I.list q2;let e1:=r1.Z;let e2:=r2.Z;let ow:X.A.in1.R=X.A.R+1:=rfl;show SeqAt.RcNeAt.lists (A:=X.A) (s:=s) (e:=λ _=>EA) p1.isList p2.isList (by simp;lia) JM (λ j h1 h2=>?_) X.prog X.w X.xe _ ?_
 ·let j1:j < xs.Z:=by rw[e1];simpa using h1
  let j2:j < ys.Z:=by rw[e2];simpa using h2
  let⟨w1,g1,t1⟩:=r1.get (i:=j) (x:=xs[j]) JN;let⟨w2,g2,t2⟩:=r2.get (i:=j) (x:=ys[j]) JN;let k1:us.toArray[j]=w1:=by
   let:us[j]?=O us.toArray[j]:=by simp
   rw[this]at g1;show ñ g1
  let k2:vs.toArray[j]=w2:=by
   let:vs[j]?=O vs.toArray[j]:=by simp
   rw[this]at g2;show ñ g2
  rw[k1,k2];show(he j _ _ JN JN).at I JM t1 t2
 ·let e5:((List.range us.toArray.S).all (λ _=>EA))=true:=by simp
  rw[e5];show⟨.bl JJ,H,I,Y,q⟩
def EQ  (hK:X.K=K) (hu:X.A.R+64 < cLine):jJ X (compareOp .NotEq) (EG K):=by subst hK;show HL hu
end
section
end
def dB.some {P:Ã}{o:HO} (x:dB P w H h a o):∃ ob,h.get? a=O ob:=by
 cases o with
 |lst xs=>let⟨_,_,_,_,e⟩:=x;show⟨_,e⟩
 |tup xs=>let⟨_,_,_,ob,e,_⟩:=x;show⟨_,e⟩
 |dK ii=>let⟨_,_,_,_,o,_,_,e,_⟩:=x;show⟨_,e⟩
 |dT ii=>let⟨_,_,_,_,o,_,_,e,_⟩:=x;show⟨_,e⟩
 |set S n=>let⟨o,_,_,_,e,_⟩:=x;show⟨_,e⟩
 |ins C dx fs=>let⟨_,_,_,e,_⟩:=x;show⟨_,e⟩
 |own y=>let⟨_,e⟩:=x;show⟨_,e⟩
 |xd fs=>let⟨_,⟨_,_,_,e,_⟩,_⟩:=x;show⟨_,e⟩
 |rng lo hi=>let⟨_,_,_,e⟩:=x;show⟨_,e⟩
 |frz ob u=>let⟨e,_⟩:=x;show⟨_,e⟩
 |tbl ps=>show⟨_,(show h.get? a=Option.some _ from x)⟩
 |met f y=>show⟨_,(show h.get? a=Option.some _ from x)⟩
 |ext dn=>let⟨_,⟨_,e⟩,_⟩:=x;show⟨_,e⟩
structure Fly (P:Ã) (w:World) (stack:List Env) (H:Hp) (h:Heap) (ea:Á) (cls a0:À) (H':Hp) (h' B:Heap):Prop where
 fl:Heap.FlyingW B stack ea cls a0 h'
 keep:∀ b o,h.get? b=O o->H b=W->b∉mP stack->B.get? b=O o
 slot:∀ b o,h.get? b=O o->H b=W->b∈mP stack->∃ sl,h'.get? b=O { o with slots:=sl }
 free:∀ b o,h.get? b=O o->H b=W->H' b=W
 there:∀ b o,h.get? b=O o->b∉mP stack->∃ o',B.get? b=O o'
 tups:∀ b xs,H b=O (.v xs)->H' b=O (.v xs)
 frzs:∀ b o u,H b=O (.frz o u)->H' b=O (.frz o u)
 tbls:∀ b ps,H b=O (.tbl ps)->∃ more,H' b=O (.tbl (ps++more))
 hok:pY P w H' B
def iS (P:Ã) (w:World):GH:=λ outer H s E e s'=>∃(ea:Á) (cls a0:À) (H':Hp) (B:Heap),e=.y ea/\s'.os=s.os/\AllBare s'.gens/\Fly P w outer H s.heap ea cls a0 H' s'.heap B/\E cls W H'
structure Leaves (X:Cx) (E:XK):Prop where
 stk:X.stack=X.env::X.outer
 fr:X.env.frame=O X.env.locals
 ex:X.ex=[]
 xe:∀ e s',wpAny (model X.prog X.w) X.A (leaving X.env e) (λ _ s''=>iS X.prog X.w X.outer X.H₀ X.s₀ E e s'') (λ e' s''=>iS X.prog X.w X.outer X.H₀ X.s₀ E e' s'') s'->X.xe e s'
section
variable {X:Cx}{gu:List (Á×Obj)}{σ:St}{H H':Hp}{s s':Â}{E:XK}
def UY {b:Á}{env:Env} (he:env∈l) (hf:env.frame=O b):b∈mP l:=List.mem_filterMap.mpr ⟨env,he,hf⟩
def sC {b L:Á}{env:Env} (hf:env.frame=O L) (h:b∈mP (env::l)):b=L\/b∈mP l:=by
 unfold mP at h ⊢;rw[Ġ,hf]at h;show Ð.1 h
def OQ {ea:Á}{cls:À}{vs:List À} (L:Leaves X E) (I:Inv X gu σ H s) (hx:Heap.MadeExcOf s.heap h' ea cls vs) (hE:E cls W H):X.xe (.y ea) { s with heap:=h' }:=by
 show L.xe _ _ ?_;let fr:X.A.frames=O (X.env::X.outer):=by rw[<- L.stk];show I.ok.frames
 let hs:s.heap.FunFrames X.base (X.env::X.outer):=by rw[<- L.stk];show I.stack
 let ou:∀ b∈mP (X.env::X.outer),H b=none:=by rw[<- L.stk];show I.stkFree
 let yu:∀ b:Á,b∉X.ex:=λ b z=>by rw[L.ex]at z;cases z
 let out:∀ b o,X.s₀.heap.get? b=O o->b∉mP X.outer->b∉mP (X.env::X.outer):=λ b o e hb z=>by
  rcases sC L.fr z with z|z
  ·show absurd (é (Ó e) I.ok.above) (by rw[z];show Ċ _)
  ·show hb z
 show wpAny_leaves_madeW (base:=PySem.W.hideAll s.heap (mP (X.env::X.outer))) fr L.fr (λ b o q=>PySem.W.of_hideAll _ q) (PySem.W.funFrames_hide hs λ env he a hf=>UY he hf) hx λ h2 t x1 x2 x3 x4=>?_;show⟨ea,cls,.y t,H,_,Y,I.os,I.bare,⟨x1,λ b o e n hb=>?_,λ b o e n hb=>?_,λ b o e n=>I.base.free b o e n (yu b),λ b o e hb=>?_,I.base.tups,I.base.frzs,I.base.tbls,λ a o e=>?_⟩,hE⟩
 ·show Ū _ (I.base.keep b o e n hb (yu b)) (out b o e hb)
 ·let⟨sl,e1⟩:=I.base.slot b o e n hb (yu b);let⟨_,o',qh,hd⟩:=I.ok.funs.mem hb;rw[e]at qh;ext qh;let⟨Br,e2⟩:=x4 b _ (hx.keeps _ _ e1) hd;show⟨Br,e2⟩
 ·let⟨o',e1⟩:=I.base.there b o e (yu b);show⟨o',Ū _ e1 (out b o e hb)⟩
 ·show(I.hok a o e).stay (λ b u hb q=>Ū _ q λ z=>?_) (λ _ q=>q) λ _ _ q=>q;let:=ou b z;rcases hb with rfl|hb
  ·rw[e]at this;cases this
  ·rw[hb]at this;cases this
def bX (L:Leaves X E):j8 (iS X.prog X.w) X E:=by
 intro gu σ H s e s' I h;let⟨ea,cls,a0,H',B,Y,os,bare,F,hE⟩:=h;show L.xe _ _ ?_;let fr:X.A.frames=O (X.env::X.outer):=by rw[<- L.stk];show I.ok.frames
 let yu:∀ b:Á,b∉X.ex:=λ b z=>by rw[L.ex]at z;cases z
 let out:∀ b o,X.s₀.heap.get? b=O o->b∉mP X.outer->b∉mP X.stack:=λ b o e hb z=>by
  rw[L.stk]at z;rcases sC L.fr z with z|z
  ·show absurd (é (Ó e) I.ok.above) (by rw[z];show Ċ _)
  ·show hb z
 let inn:∀ b,b∈mP X.outer->b∈mP X.stack:=λ b hb=>by
  rw[L.stk];unfold mP at hb ⊢;rw[Ġ,L.fr];show Õ _ hb
 show wpAny_leaves_onW fr L.fr (by rw[<- L.stk];show F.fl) λ h2 x1 x2=>?_;show⟨ea,cls,a0,H',B,Y,os.trans I.os,bare,⟨x1,λ b o e n hb=>?_,λ b o e n hb=>?_,λ b o e n=>?_,λ b o e hb=>?_,λ b xs e=>F.tups b xs (I.base.tups b xs e),λ b o u e=>F.frzs b o u (I.base.frzs b o u e),λ b ps e=>?_,F.hok⟩,hE⟩
 ·show F.keep b o (I.base.keep b o e n hb (yu b)) (I.base.free b o e n (yu b)) (out b o e hb)
 ·let⟨sl,e1⟩:=I.base.slot b o e n hb (yu b);let⟨Br,e2⟩:=F.slot b _ e1 (I.base.free b o e n (yu b)) (inn b hb);let⟨_,o',qh,hd⟩:=I.ok.funs.mem hb;rw[e]at qh;ext qh;let⟨Po,e3⟩:=x2 b _ e2 hd;show⟨Po,e3⟩
 ·let⟨o',e1⟩:=I.base.there b o e (yu b);show F.free b o' e1 (I.base.free b o e n (yu b))
 ·let⟨o',e1⟩:=I.base.there b o e (yu b);show F.there b o' e1 (out b o e hb)
 ·let⟨m1,e1⟩:=I.base.tbls b ps e;let⟨m2,e2⟩:=F.tbls b _ e1;show⟨m1++m2,by rw[e2,Array.append_assoc]⟩
def HJ {P:Ã}:j8 (iS P w) X E0:=λ _ _ _ _ _ _ _ h=>by
 let⟨_,_,_,_,_,_,_,_,_,h⟩:=h;show h.elim
def IL (ea:Á) (cls:À):HO:=.ext λ h=>∃ o,h.get? ea=O o/\o.cls=cls
def Inv.caught  (I:Inv X gu σ H s) (os:s'.os=s.os) (bare:AllBare s'.gens) (F:Fly X.prog X.w X.stack H s.heap ea cls a0 H' s'.heap B):H' ea=W/\Inv X gu σ (upd H' ea (IL ea cls)) s':=by
 let⟨ob,Ga,xp⟩:=F.fl.there;let⟨oe,vs,tz,_,hfd,_⟩:=F.fl.first
 let yw:H' ea=none:=by
  cases q:H' ea with
  |none=>rfl
  |some o=>
   let⟨o',e⟩:=(F.hok ea o q).some;rw[F.fl.2.1]at e;cases e
 let Pp:∀ b∈mP X.stack,b≠ea:=λ b hb z=>by
  let⟨_,o',qh,hd⟩:=F.fl.2.2.1.mem hb;rw[z,tz]at qh;ext qh;show hd _ hfd
 let ne:∀ b o,s.heap.get? b=O o->b≠ea:=λ b o e z=>by
  by_cases hb:b∈mP X.stack
  ·show Pp b hb z
  ·let⟨o',e'⟩:=F.there b o e hb;rw[z,F.fl.2.1]at e';cases e'
 let kb:∀ b u,B.get? b=O u->s'.heap.get? b=O u:=F.fl.1;show⟨yw,I.call' (ch:=[]) os ⟨λ b o e n hb _=>kb _ _ (F.keep b o e n hb),λ b o e n hb _=>F.slot b o e n hb,λ b o e n _=>?_,λ b o e _=>?_,λ b xs e=>?_,λ b o u e=>?_,λ b ps e=>?_⟩ (λ b u e=>?_) bare (λ b z=>absurd z JN)⟩
 ·rw[aK (ne b o e)];show F.free b o e n
 ·by_cases hb:b∈mP X.stack
  ·let⟨_,o',qh,_⟩:=F.fl.2.2.1.mem hb;show⟨o',qh⟩
  ·let⟨o',e'⟩:=F.there b o e hb;show⟨o',kb _ _ e'⟩
 ·let:=F.tups b xs e;rw[aK (aM this yw)];show this
 ·let:=F.frzs b o u e;rw[aK (aM this yw)];show this
 ·let⟨m,e1⟩:=F.tbls b ps e;show⟨m,by rw[aK (aM e1 yw)];show e1⟩
 ·by_cases hb:b=ea
  ·subst hb;rw[aD]at e;ext e;show⟨⟨ob,Ga,xp⟩,⟨ob,Ga⟩,λ h1 h2 ⟨o,e1,e2⟩ k=>⟨o,k _ e1,e2⟩⟩
  ·rw[aK hb]at e;show(F.hok b u e).stay (λ c v _ q=>kb c v q) (λ c q=>by rw[aK (aM q yw)];show q) λ c xs q=>by rw[aK (aM q yw)];show q
def WY (E:XK) (C:Á) (t:TA):TS:=λ _ σ H=>t σ H λ vs H1=>vs.Z<=100/\E (.y C) W H1
set_option tactic.hygienic true in
def eY {x:Str}{C:Á}{bm:List À}{newId Dr B:String}{np ji pos:Pos}{fg:Expr}{js:List Expr}{t:TA} (L:Leaves X E) (hc:X.calm=EA) (hg:Gl X x) (E8:PySem.W.excIn X.K C bm newId=EA) (hm:PySem.W.nsIn X.K mainGlobals x=O (O (.y C))) (FB:ExcBaseFacts B newId Dr bm) (ha:PA X (fg::js) t)
  (he:autoParam (starEach (fg::js) X.env=(JJ,eval fg X.env)::starEach js X.env) _0) (ny:autoParam ((backTo ji (starEach js X.env)).any (·.1)=false) _0) (hd:autoParam ((x==("__debug__":Str))=false) _2) :
  PS X (.Raise (O (.rj (.C x np) (fg::js) [] ji)) W pos) (WY E C t):=by
 intro gu s σ H D I h;let G:X.mg x=O (.y C):=å I.ok.mod.kin I.ok.mod.glob hm;let ocl:OwnCls x C bm newId X.mg X.base:=by
  show⟨G,?_⟩;let q:=E8;unfold PySem.W.excIn at q
  split at q
  ·rename_i dd cd sl ho
   split at q
   ·rename_i C' bm' k0 k1 k2 k3 n k5 Lg hs
    simp only[ģ,Bool.not_eq_true',ş]at q;let⟨⟨⟨⟨⟨Y,Y⟩,Iu⟩,ht⟩,hok⟩,Mc⟩:=q;let⟨nm,bs,mro,ns,qn,Gq,sn,sub,ab,col,del⟩:=cd;dsimp only at Lg Iu hok Mc;subst Lg Iu;let qj:sl= #[k0,k1,k2,k3,O (.z n),k5]:=by let⟨l⟩:=sl;simp only at hs;rw[hs]
    subst qj;show⟨bm',ns,nm,qn,bs,Gq,sn,sub,ab,col,dd,k0,k1,k2,k3,k5,_,I.ok.mod.kin _ _ ho,.of_isNs (PySem.W.isNs_of_in I.ok.mod.kin hok),PySem.W.nsMap_none_of_in I.ok.mod.kin hok Mc,PySem.W.tail_of_in I.ok.mod.kin ht⟩
   ·cases q
  ·cases q
 let⟨tl,N,nm,q,bs,hdct,sn,sub,ab,col,dd,k0,k1,k2,k3,k5,mN,hC,hN,Mc,T⟩:=ocl.obj;show wpAny_Raise_call_subT (C:=C) (nm:=nm) (q:=q) (N:=N) (bs:=bs) (bm:=tl) (hdct:=hdct) (sn:=sn) (sub:=sub) (ab:=ab) (col:=col) (dd:=dd) (k0:=k0) (k1:=k1) (k2:=k2) (k3:=k3) (k5:=k5) FB (mN:=mN) (T.hasType FB.hasBase) (I.ok.hd hc) (by rw[he];change(JJ || (backTo ji (starEach js X.env)).any (·.1))=JJ;rw[ny];rfl) Mc (kW I hg G ⟨Y,?_⟩ hd);let Ca:=ha ji gu s σ H _ I h;rw[he]at Ca ⊢;show ũ (î Ca (λ us bx ⟨vs,H1,I1,r1,io,hE⟩=>⟨Y,?_,I1.bk _ _ hC,hN.keeps I1.bk,T.keeps I1.bk,λ h' e hme=>OQ L I1 hme hE⟩) λ _ _ y=>y);let:=r1.Z;change us.Z<=sizeLine;rw[ê];lia
end
abbrev Cx.within (X:Cx) (pn:List (Á×Obj)) (E:À->Â->Prop):Cx:={ X with pn:=pn,xe:=E }
abbrev Cx.caughtIn (X:Cx) (ea:Á):Cx:={ X with A:=X.A.mark (O (.y ea)),calm:=JJ,xe:=λ _ _=>False }
section
variable {X:Cx}{gu:List (Á×Obj)}{σ:St}{H:Hp}{s:Â}{pn:List (Á×Obj)}{E:À->Â->Prop}{ea:Á}
def Cx.Ok.within (ok:X.Ok):(X.within pn E).Ok:=
 ⟨ok.mod,ok.kind,ok.glob,ok.blt,ok.above,ok.inj,ok.has,ok.cab,ok.hd,ok.frames,ok.stk,ok.exf,ok.bs,ok.bsz,ok.noex,ok.exfs,ok.funs,ok.frf⟩
def Cx.Ok.unwithin (ok:(X.within pn E).Ok):X.Ok:=
 ⟨ok.mod,ok.kind,ok.glob,ok.blt,ok.above,ok.inj,ok.has,ok.cab,ok.hd,ok.frames,ok.stk,ok.exf,ok.bs,ok.bsz,ok.noex,ok.exfs,ok.funs,ok.frf⟩
def Inv.within (I:Inv X gu σ H s):Inv (X.within (X.pn++gu) E) [] σ H s:=
 ⟨I.ok.within,I.os,I.bare,I.base,I.loc,I.cell,I.free,I.freeC,λ p hp=>I.pin p (by simpa using hp),I.hok,I.len⟩
def Inv.unwithin  (I:Inv (X.within (X.pn++gu) E) p2 σ H s):Inv X gu σ H s:=
 ⟨I.ok.unwithin,I.os,I.bare,I.base,I.loc,I.cell,I.free,I.freeC,λ p hp=>I.pin p (į _ hp),I.hok,I.len⟩
def Inv.mark (I:Inv X gu σ H s):Inv (X.caughtIn ea) gu σ H s:=
 ⟨⟨I.ok.mod,I.ok.kind,I.ok.glob,I.ok.blt,I.ok.above,I.ok.inj,I.ok.has,I.ok.cab,λ z=>Bool.noConfusion z,I.ok.frames,I.ok.stk,I.ok.exf,I.ok.bs,I.ok.bsz,I.ok.noex,I.ok.exfs,I.ok.funs,I.ok.frf⟩,I.os,I.bare,I.base,I.loc,I.cell,I.free,I.freeC,I.pin,I.hok,I.len⟩
def Inv.unmark (ok:X.Ok) (I:Inv (X.caughtIn ea) gu σ H s):Inv X gu σ H s:=
 ⟨ok,I.os,I.bare,I.base,I.loc,I.cell,I.free,I.freeC,I.pin,I.hok,I.len⟩
def QE {M:Model}{A:Around}{E:À->Â->Prop}{i:Nat}{n:Str}{pos:Pos}{Q:Unit->Â->Prop} (I:Inv X gu σ H s) (hN:X.N.Nodup) (hi:X.N[i]?=O n) (hk:X.env.scope.names.lookup n=O .local)
  (h:∀ s',Inv X gu (σ.set i W) H s'->Q () s'):wpAny M A (do bindName X.env n .none;unbindBehindTheSuite X.env n pos) Q E s:=by
 let⟨m,hn,hl⟩:=id I.loc;let xp:(X.env.scope.kind== .class || (X.env.scope.kind== .module && X.env.locals != X.env.globals))=false:=by rw[I.ok.kind];rfl
 let Hc:X.env.kindOf n=O .local:=hk;let dq:i < σ.Z:=by rw[I.len];show(à.mp hi).1
 show Æ (Ņ (wpAny_storeName_local hk hn (λ h₁ hn₁ ae=>?_) xp));unfold unbindBehindTheSuite;show Ě ?_;unfold unbindName;show Æ (wpAny_point (Æ ?_));unfold deleteName;simp only[Hc,xp];rw[Ä JL];show Æ (wpAny_nsDel_keeps hn₁ λ ap v hn₂ af=>?_);simp only[if_true,Option.isSome_some,agz,ě,if_false];let hs:=ae.trans af;let⟨oL,_,_,Tx,_⟩:=id hn;let Fe:=I.cne;show Ë (wpAny_point (h _ ⟨I.ok,I.os,I.bare,⟨λ b o e n hb hx=>?_,λ b o e n hb hx=>?_,I.base.free,λ b o e hx=>?_,I.base.tups,I.base.frzs,I.base.tbls⟩,⟨_,hn₂,λ j y v' e1 e2 e3=>?_⟩,λ y c e=>?_,I.free,I.freeC,λ p hp=>?_,λ b ob e=>?_,by simpa using I.len⟩))
 ·show(hs.2 b (ä (é (Ó e) I.ok.above))).trans (I.base.keep b o e n hb hx)
 ·let⟨sl,e1⟩:=I.base.slot b o e n hb hx;show⟨sl,(hs.2 b (ä (é (Ó e) I.ok.above))).trans e1⟩
 ·let⟨o',e1⟩:=I.base.there b o e hx;show⟨o',(hs.2 b (ä (é (Ó e) I.ok.above))).trans e1⟩
 ·by_cases hj:j=i
  ·subst hj;rw[ļ dq]at e2;cases e2
  ·rw[Ľ (Ne.symm hj)]at e2;let⟨u',r',q⟩:=hl j y v' e1 e2 e3;show⟨u',r',?_⟩;rcases q with⟨k,e⟩|⟨k,c,e,z⟩
   ·show .p ⟨k,?_⟩;let:y≠n:=λ e=>hj (xP hN e1 (e ▸ hi));simp[this,e]
   ·show .x ⟨k,c,e,z.sameBut hs (Fe y c e)⟩
 ·let⟨w',z⟩:=I.cell y c e;show⟨w',z.sameBut hs (Fe y c e)⟩
 ·let⟨e,n,ne,nf,d⟩:=I.pin p hp;show⟨(hs.2 p.1 ne).trans e,n,ne,nf,d⟩
 ·show(I.hok b ob e).stay (λ c w' hc q=>(hs.2 c ?_).trans q) (λ _ q=>q) λ _ _ q=>q;rintro rfl;rcases hc with rfl|hc
  ·rw[I.free]at e;cases e
  ·rw[I.free]at hc;cases hc
def tTry (K:Ç) (E:XK) (CT:Á) (k i:Nat) (tb ts:TS):TS:=λ D σ H=>tb D σ H/\
 ∀(cls:À) (H':Hp) (ea:Á) (ac:St),E cls W H'->ac.Z=k->H' ea=W->PySem.W.exmOne K cls (.y CT)=O EA/\
  ts { nx:=λ ba H2=>D.nx (ba.set i W) H2,rt:=λ _ _=>False } (ac.set i (O (.y ea))) (upd H' ea (IL ea cls))
set_option tactic.hygienic true in
def P0 {CT:Á}{gp:Stmt}{np Id pos:Pos}{tb ts:TS} (so:X.stack=X.env::X.outer) (xi:X.env.frame=O X.env.locals)
  (hb:∀(pn:List (Á×Obj)) (xe:À->Â->Prop),j8 (iS X.prog X.w) (X.within pn xe) EX->DM (X.within pn xe) body tb)
  (hg:Gl X x) (hm:X.mg x=O (.y CT)) (hN:X.N.Nodup) (hi:X.N[i]?=O n) (hk:X.env.scope.names.lookup n=O .local)
  (hs:∀ ea:Á,DM (X.caughtIn ea) (gp::Cg) ts) (hd:autoParam ((x==("__debug__":Str))=false) _2) :
  PS X (.Try body [.ExceptHandler (O (.C x np)) (O n) (gp::Cg) Id] [] [] pos) (tTry X.K EX CT X.N.length i tb ts):=by
 intro gu s σ H D I h;let⟨h1,h2⟩:=h;show wpAny_Try_except ?_;refine_lift let XE:À->Â->Prop:=λ e s'=>∃(σ:St) (H:Hp) (s:Â) (ea:Á) (cls a0:À) (H':Hp) (B:Heap),e=.y ea/\Inv X gu σ H s/\s'.os=s.os/\AllBare s'.gens/\Fly X.prog X.w X.stack H s.heap ea cls a0 H' s'.heap B/\EX cls W H';?_;let Iv:j8 (iS X.prog X.w) (X.within (X.pn++gu) XE) EX:=by
  intro p2 σ H s e s' J hx;let⟨ea,cls,a0,H',B,Y,os,bare,F,hE⟩:=hx;show⟨σ,H,s,ea,cls,a0,H',B,Y,J.unwithin,os,bare,F,hE⟩
 show î (hb (X.pn++gu) XE Iv [] s σ H D I.within h1) (λ f ai hf=>?_) λ e ai hx=>?_
 ·cases f with
  |next=>
   let⟨ac,H',J,q⟩:=hf;show aS gu ai ac H' D J.unwithin q
  |brk=>let⟨ac,H',J,q⟩:=hf;show⟨ac,H',J.unwithin,q⟩
  |cont=>let⟨ac,H',J,q⟩:=hf;show⟨ac,H',J.unwithin,q⟩
  |ret u=>let⟨v,ac,H',J,r,q⟩:=hf;show⟨v,ac,H',J.unwithin,r,q⟩
 ·let⟨ac,H0,s0,ea,cls,a0,H',B,Y,J,os,bare,F,hE⟩:=hx;let fr:X.A.frames=O (X.env::X.outer):=by rw[<- so];show I.ok.frames
  let again:∀ h',Heap.FlyingW B X.stack ea cls a0 h'->ai.heap.UpToSlots h'->Fly X.prog X.w X.stack H0 s0.heap ea cls a0 H' h' B:=λ h' fl sm=>
   ⟨fl,F.keep,λ b o e n hb=>by
    let⟨sl,e1⟩:=F.slot b o e n hb;let⟨_,o',qh,hd⟩:=J.stack.mem hb;rw[e]at qh;ext qh;let⟨Br,e2⟩:=sm b _ e1 hd;show⟨Br,e2⟩,F.free,F.there,F.tups,F.frzs,F.tbls,F.hok⟩
  show wpAny_looks_onW fr xi (by rw[<- so];show F.fl) λ au gm gh=>?_;show wpAny_landsW gm λ bn fi gi=>?_;let F5:=again bn (by rw[so];show fi) (gh.trans gi);let⟨yw,J5⟩:=J.caught (s':={ ai with heap:=bn }) os bare F5;let io:ac.Z=X.N.Z:=J.len;let⟨Pq,xh⟩:=h2 cls H' ea ac hE io yw;show wpAny_handleBy_cons (codeAny_handlers_test (kW (X:=X.caughtIn ea) J5.mark hg hm ?_ hd)) (by intro q;ext q);let⟨ob,Ga,Pr⟩:=fi.there;let LT0:PySem.W.Looks (model X.prog X.w) bn (typeOf (.y ea)) ob.cls:=(PySem.W.Looks.ld Ga).andThen .now;let LT:PySem.W.Looks (model X.prog X.w) bn (typeOf (.y ea)) cls:=by rw[<- Pr];show LT0
  show(PySem.W.exm_one (M:=model X.prog X.w) J5.kIn LT Pq).here ?_;show codeAny_handlers_suite_as (lands_againW fi λ cj fl₆ sm₆=>?_);let F6:=again cj (by rw[so];show fl₆) ((gh.trans gi).trans sm₆);let⟨_,J6⟩:=J.caught (s':={ ai with heap:=cj }) os bare F6;show iG (X:=X.caughtIn ea) J6.mark hN hi (.p hk) (v:=.y ea) Y (λ s7 J7=>?_) (.x hk);show î (hs ea gu s7 _ _ _ J7 xh) (λ f s8 hf=>?_) λ _ _ z=>False.elim z;cases f with
  |next=>
   let⟨cw,H8,J8,q⟩:=hf;show QE (J8.unmark I.ok) hN hi hk λ s9 J9=>⟨_,_,J9,q⟩
  |brk=>let⟨_,_,_,q⟩:=hf;show False.elim q
  |cont=>let⟨_,_,_,q⟩:=hf;show False.elim q
  |ret u=>let⟨_,_,_,_,_,q⟩:=hf;show False.elim q
end
end L2
namespace L2
open PySem PySem.Spec PyProof.Rows TwZ PySem.Builtin PySem.Builtin.ObjectAttr PySem.Builtin.Getset_descriptor
structure ExcKit (K:Ç) (D:Á):Prop where
 ga:PySem.W.findIn K (.y D) "__getattribute__"=O (O (.z "BaseException.__getattribute__"))
 gt:PySem.W.findIn K (.y D) "__getattr__"=O W
 ca:PySem.W.findIn K (.y D) "__class__"=O (O (.z "object.__class__"))
 gg:PySem.W.specialIn K (.z "object.__class__") "__get__"=O (O (.z "getset_descriptor.__get__"))
 tk:PySem.W.takesIn K (.z "object.__class__")=O EA
 mo:PySem.W.mroIn K D (.q "object")=O EA
 mb:PySem.W.mroIn K D (.q "BaseException")=O EA
def LE (x D:Á) (h:Heap):Prop:=∃ o,h.get? x=O o/\o.cls=.y D
def LE.ty {x D:Á} (p:LE x D h) (M:Model):PySem.W.Looks M h (typeOf (.y x)) (.y D):=by
 let⟨o,h1,h2⟩:=p;show h2 ▸ (PySem.W.Looks.ld h1).andThen .now
section
variable {prog:Ã}{x D:Á}
def S4 {E:À->Â->Prop} (Ch:À) {Q:Unit->Â->Prop} (L0:PySem.W.Looks M s.heap (typeOf (.y x)) (.y D)) (LB:PySem.W.Looks M s.heap (isSubtype (.y D) (.q "BaseException")) EA) (hq:Q () s) :
  wpAny M A (checkBuiltinCall "BaseException.__getattribute__" ⟨[.y x,Ch],[]⟩) Q E s:=by
 let⟨h,g,d,t,os⟩:=s;let hk:builtinKind "BaseException.__getattribute__"=O .slot:=by decide +kernel
 let zw:splitId "BaseException.__getattribute__"=O ("BaseException","__getattribute__"):=by decide +kernel
 let ha:=PySem.F.args_bexc_ga (.y x) Ch;simp only[checkBuiltinCall,hk,zw];show Æ ?_;unfold isInstance
 repeat (first|with_reducible show L0.at ?_|with_reducible show LB.at ?_|wp_step)
 show hq
def MQ {E:À->Â->Prop}{s:Â}{Q:Option À->Â->Prop} (Z:ExcKit K D) (X:K.In s.heap) (p:LE x D s.heap) (hq:Q (O (.y D)) { s with toks:=s.M+1 }):wpAny (model prog w) A (getAttr? (.y x) "__class__") Q E s:=by
 let⟨hh,g,d,t,os⟩:=s;let L0:=p.ty (model prog w);let L1:=Ũ (M:=model prog w) X Z.ga;let L2:=Ũ (M:=model prog w) X Z.gt;let L3:=Ũ (M:=model prog w) X Z.ca;let L4:PySem.W.Looks (model prog w) hh (getOf (O (.z "object.__class__"))) (O (.z "getset_descriptor.__get__")):=PySem.W.looks_specialIn X Z.gg;let L5:=PySem.W.looks_takesIn (M:=model prog w) X Z.tk;let L6:=PySem.W.looks_mroIn (M:=model prog w) X Z.mo;let LF:PySem.W.Looks (model prog w) hh (find (.y x) (.y D) "__class__") (.bind (.z "getset_descriptor.__get__") (.z "object.__class__")):=
  L3.andThen (L4.andThen ((show PySem.W.Looks (model prog w) hh (dataDescriptor? (O (.z "object.__class__")) (O (.z "getset_descriptor.__get__"))) (O (.z "getset_descriptor.__get__",.z "object.__class__"))from L5.andThen .now).andThen (PySem.W.Looks.tag .now)))
 let LB:=PySem.W.looks_mroIn (M:=model prog w) X Z.mb;let hk:builtinKind "BaseException.__getattribute__"=O .slot:=by decide +kernel
 let zw:splitId "BaseException.__getattribute__"=O ("BaseException","__getattribute__"):=by decide +kernel
 let Lw:(Value.builtin "BaseException.__getattribute__" ==Value.builtin "object.__getattribute__")=false:=by decide +kernel
 unfold getAttr? getAttrBy? getAttrBy;show Æ (wpAny_mkText (Æ (Ÿ (ó (Æ (L0.at (Æ (L1.at ?_))))))));simp only[Lw,Bool.and_false,ě,if_false];unfold getAttrByItsOwn hookBefore;show Æ ?_;rw[show onTheHeap (Value.ref D)=EA from rfl,Å rfl];show L2.at (Æ (Ÿ (ó ?_)));unfold callGetattribute boundAndCalled;rw[Ä JL];show Æ (wpAny_of_eq (PySem.F.excAttr_ValueError.ga.bind (.y x)) ?_);change wpAny _ _ (call (.z "BaseException.__getattribute__") [.y x,.o "__class__" t]) _ _ _;show ň (codeAny_call_builtin PySem.F.excAttr_ValueError.ga.plain PySem.F.entry_bexc_ga ?_);show S4 (.o "__class__" t) L0 LB ?_;unfold Builtin.«object.__getattribute__»;show Æ (Ë ?_);show Æ (Ë ?_);show Æ (L0.at (Æ (LF.at ?_)));change wpAny _ _ (holding [.z "object.__class__"] (call (.z "getset_descriptor.__get__") [.z "object.__class__",.y x,.y D]) >>= ret) _ _ _;show Æ (ó (ň ?_));show codeAny_call_builtin PySem.W.KF.slot_gs.plain PySem.W.KF.entry_gs (PySem.W.KF.slot_gs.check _ _ _ _ _ _ _ _ PySem.W.KF.type_class (PySem.W.KF.args_gs _ _ _) ?_);unfold Builtin.«getset_descriptor.__get__» descrGet;rw[PySem.W.dga_obj];show Æ (Ë ?_);unfold descrGetter descrCheckInstance descrNameAndClass isInstance;simp only[PySem.W.KF.owner_class];repeat lk
 show⟨Code.quiet_builtin _ JK,codeAny_builtin PySem.W.KF.entry_class ?_⟩;unfold Builtin.«object.__class__» shownTypeOf;repeat lk
 show hq
def QN (Z:ExcKit K D) (vt:∃ c d cd sl,K.lookup D=O ⟨c,d,.cls cd,sl⟩):PySem.W.KitX K (.y x) (.y D) (LE x D) where
 ty:=λ M _ _ p=>p.ty M
 it:=λ _ _ X _=>by
  let⟨c',d',cd',Br,ho⟩:=vt;intro A' Q' E' s' k q;unfold isType loadHead;show Æ (wpAny_loadPart (k _ _ (X _ _ ho)) (Ë q))
 ne:=λ _ _ _ _ _ _ X wm=>by
  let⟨c',d',cd',Br,ho⟩:=vt;show Bool.eq_false_iff.mpr λ q=>?_;let e:=Value.ref.inj (beq_iff_eq.mp q);rw[<- e,X _ _ ho]at wm;cases wm
 ca:=λ X p k=>MQ Z X p k
end
def W6 (K:Ç):List V->Hp->VK->Prop:=λ xs H Q=>∃(ea D:Á) (c:V) (cv:À) (b:Bool),xs=[.y ea,c]/\bE c cv/\H ea=O (IL ea (.y D))/\ExcKit K D/\(∃ c d cd sl,K.lookup D=O ⟨c,d,.cls cd,sl⟩)/\PySem.W.kitOne K (.y D) cv=O b/\(∀ u,bE c u->u=cv)/\Q (.bl b) H
section
variable {X:Cx}
def N5:fU X (.z "isinstance") (W6 X.K):=by
 intro gu s σ H xs us Q I r h;let⟨ea,D,c,cv,b,Y,rc,he,Z,vt,e,hu,q⟩:=h;let⟨u,v,Y,ru,rv⟩:=r.two;cases(show u=Value.ref ea from ru);let:=hu v rv;subst this;let⟨p,_,_⟩:=(show dB X.prog X.w H s.heap ea (IL ea (.y D))from I.hok ea _ he);show ą (QN Z vt) I.kIn p e (λ z=>nomatch z) λ tk=>⟨.bl b,H,I.tok tk,Y,q⟩
def g7  (hK:X.K=K):fU X (.z "isinstance") (W6 K):=by subst hK;show N5
def TQ:V->List V->Hp->VK->Prop:=λ x vs H Q=>∃(l:Á) (bs:List Bool),x=.y l/\vs=[.bl EA]/\H l=O (.j (bs.map V.bl))/\Q (.u (bs.countP id:Nat)) H
def MF:Z2 X "list.count" TQ:=by
 intro gu s σ H x vs v us Q I rx rv h;let⟨l,bs,Y,Y,hH,q⟩:=h;ext rx;let⟨u,Y,ru⟩:=rv.one;ext ru;let⟨z,its,n,r,hl,e⟩:=I.lstM hH;let key:∀(bs:List Bool) (its:List À),bN (bs.map V.bl) its->its=bs.map Value.bool:=by
  intro bs
  induction bs with
  |nil=>intro its r;ext r;rfl
  |cons b bs ih=>intro its r;cases r with|cons r1 r2=>ext r1;rw[ih _ r2];rfl
 let ek:=key bs its r;subst ek;show č F.slot_list_count ⟨_,e,Y⟩ F.entry_list_count (F.args_list_count_2 _ _) (SeqAt.list_countAt l (bs.map Value.bool).toArray n W #[] (.I EA) (λ v=>match v with|.bool b=>b|_=>JJ)) ⟨e,λ y hy=>?_,?_⟩
 ·let⟨b,_,Y⟩:=Ù.1 (show y∈bs.map Value.bool by simpa using hy);cases b
  ·show afh JJ EA
  ·show ĩ _
 ·let ec:(List.countP (λ v=>match v with|Value.bool b=>b|_=>JJ) (bs.map Value.bool).toArray.toList)=bs.countP id:=by
   rw[List.toList_toArray,List.countP_map];rfl
  rw[ec];show⟨.u _,H,I.tok _,⟨_,Y⟩,q⟩
def OU (K:Ç):R2:=λ x y H Q=>∃ a b xs ys,x=.y a/\y=.y b/\bH K H a xs/\bH K H b ys/\xs.Z+ys.Z<=sizeLine/\∀ p H',aI H H'->bH K H' p (xs++ys)->Q (.y p) H'
def PV:jJ X (binaryOp .Add) (OU X.K):=by
 intro gu s σ H x y v u Q I rx ry h;let⟨a,b,xs,ys,Y,Y,ha,hb,hz,q⟩:=h
 by_cases hx:xs=[]
 ·subst hx;ext rx;ext ry;let⟨its,r1,p1,_⟩:=I.tuple ha;let⟨pd,r2,p2,_⟩:=I.tuple hb;ext r1;let⟨⟨cls,dd,data,sl⟩,ho,hc,n,hd⟩:=id p1;let⟨⟨Gv,Bu,data2,Bv⟩,Aj,ye,n2,hd2⟩:=id p2;simp only at hc hd ye hd2;subst hc hd ye hd2;show concat_meets ⟨_,ho,Y⟩ ⟨_,Aj,Y⟩ agn seq_tuple_add aez aeu (aer _ _) (tuple_addW0 a b _ pd.toArray n n2 dd Bu sl Bv JN) ⟨ho,Aj,⟨.y b,H,I,Y,q b H (Ć H) hb⟩⟩
 ·show K0 gu s σ H _ _ v u Q I rx ry ⟨a,b,xs,ys,Y,Y,ha,hb,hx,hz,λ e=>?_,λ _ p hp=>?_⟩
  ·subst e;show q a H (Ć H) (by rw[þ];show ha)
  ·show q p _ (È hp) (Ï aD)
def zW (hK:X.K=K):jJ X (binaryOp .Add) (OU K):=by subst hK;show PV
def JH (hK:X.K=K):SlR X (ZN K):=by subst hK;show XB
def OE (hK:X.K=K):SlR X (ZO K):=by subst hK;show TB
end
def Fun.okR {x qual:Str}{st:Stmt}{ps:List Str}{k:Nat}{sp:Sp} (F:Fun K x qual st f fd) (N) (lq:FnScope N ps (aJ st)->∀(ir:À) (A:Around) (outer:List Env) (s:Â) (H:Hp) (vs:List V) (Q:VK) (E:XK),Room k (A.deeper (envOfC qual (aJ st) s.heap.objs.size f ir))->sp vs H Q E->
   Leaves (oN (iS P w) P w K mg base N qual (aJ st) f ir A outer s H E) E->
   ∃ t,DM (oN (iS P w) P w K mg base N qual (aJ st) f ir A outer s H E) (dS st) t/\t { nx:=λ _ H'=>Q .non H',rt:=Q } (kJ N vs) H) (S:autoParam (FnScope N ps (aJ st)) _C) (len:autoParam (∀ vs H Q E,sp vs H Q E->vs.Z=ps.Z) _E):FnOk P w K mg base (iS P w) (k+1) f fd ps sp:=by
 let⟨oc,od,kV,doc,pm,an,ir,ct,uy,Y,lk,qi⟩:=F.ex;show RN lk qi S len λ A outer s H vs Q E hr lw=>lq S ir A outer s H vs Q E hr lw ⟨Y,Y,Y,λ _ _ h=>h⟩
structure CalleeR (P:Ã) (w:World) (K:Ç) (mg:Str->Option À) (base:Heap) (x:Str) (ps:List Str) (k:Nat) (sp:Sp) (f:Á) (fd:FuncData):Prop where
 ok:FnOk P w K mg base (iS P w) k f fd ps sp
 mg:mg x=O (.y f)
 kp:PySem.W.keepIn K (.y f)=EA
 bd:gW K fd ps []
structure MCalR (P:Ã) (w:World) (K:Ç) (mg:Str->Option À) (base:Heap) (C:Á) (m:Str) (ps:List Str) (k:Nat) (sp:Sp) (f:Á) (fd:FuncData):Prop where
 cls:Cls K C
 mt:Meth K C m f
 ok:FnOk P w K mg base (iS P w) k f fd ps sp
 bd:gW K fd ps []
structure ExC (K:Ç) (x:Str) (C:Á):Prop where
 ns:PySem.W.nsIn K mainGlobals x=O (O (.y C))
 exc:PySem.W.excIn K C [.q "ValueError",.q "Exception",.q "BaseException",.q "object"] "ValueError.__new__" =EA
def U9  :
  PA X [.rk (.o a1) k1 p1,.rk (.o a2) k2 p2,.rk (.o a3) k3 p3,.rk (.o a4) k4 p4,.rk (.o a5) k5 p5,.rk (.o a6) k6 p6,.rk (.o a7) k7 p7,.rk (.o a8) k8 p8]
   (dJ (tC (.o a1)) (dJ (tC (.o a2)) (dJ (tC (.o a3)) (dJ (tC (.o a4)) (dJ (tC (.o a5)) (dJ (tC (.o a6)) (dJ (tC (.o a7)) (dJ (tC (.o a8)) jC)))))))):=
 have h8:=a9 (X:=X) (aL (x:=a8)) aB;have h7:=a9 (aL (x:=a7)) h8;have h6:=a9 (aL (x:=a6)) h7;have h5:=a9 (aL (x:=a5)) h6;have h4:=a9 (aL (x:=a4)) h5;have h3:=a9 (aL (x:=a3)) h4;have h2:=a9 (aL (x:=a2)) h3
 a9 (aL (x:=a1)) h2
def yV:bootBuiltins "ValueError"=O (.q "ValueError"):=by decide +kernel
end L2
namespace Tw
open PySem L2
structure TxtW (mg:Str->Option À) (ik im gv gy gz gx ia ig ic:Á):Prop where
 m_TipError:mg "TipError"=O (.y ik)
 m_NoNet:mg "NoNet"=O (.y im)
 m_NoVessel:mg "NoVessel"=O (.y gv)
 m_TooLong:mg "TooLong"=O (.y gy)
 m_TooMany:mg "TooMany"=O (.y gz)
 m_TooMuch:mg "TooMuch"=O (.y gx)
 m_Nothing:mg "Nothing"=O (.y ia)
 m_NoText:mg "NoText"=O (.y ig)
 m_NoRow:mg "NoRow"=O (.y ic)
 b_ValueError:mg "ValueError" =W
structure KindOf (K:Ç) (im gv gy gz gx ia ig ic:Á) (D:Á) (bs:List Bool):Prop where
 kit:ExcKit K D
 cl:∃ c d cd sl,K.lookup D=O ⟨c,d,.cls cd,sl⟩
 val:PySem.W.kitOne K (.y D) (.q "ValueError")=O EA
 ks:∃ b0 b1 b2 b3 b4 b5 b6 b7,bs=[b0,b1,b2,b3,b4,b5,b6,b7]/\PySem.W.kitOne K (.y D) (.y im)=O b0/\PySem.W.kitOne K (.y D) (.y gv)=O b1/\PySem.W.kitOne K (.y D) (.y gy)=O b2/\
  PySem.W.kitOne K (.y D) (.y gz)=O b3/\PySem.W.kitOne K (.y D) (.y gx)=O b4/\PySem.W.kitOne K (.y D) (.y ia)=O b5/\PySem.W.kitOne K (.y D) (.y ig)=O b6/\PySem.W.kitOne K (.y D) (.y ic)=O b7
def vV:Sp:=λ vs H Q _=>∃(n lo hi:Int),vs=[.u n,.u lo,.u hi]/\Q (.bl (decide (lo<=n) && decide (n<=hi))) H
def BY (F:Fun K "is_whole" "is_whole" (aX 47) f fd) (T:Txt mg):FnOk P w K mg base gT 1 f fd ["thing","least","most"] vV:=by
 show F.ok ["thing","least","most"] λ sc ir A outer s H vs Q E hr h=>?_
 ·let⟨n,lo,hi,Y,k⟩:=h;show⟨_,(aG (aO (i5 (bJ (j6 (K:=K) Y) Y T.b_isinstance dH (a9 (pv 0) (a9 (jB (v:=.ty "int") Y T.b_int j7 Y) aB))) (i5 (BM (bJ (j6 (K:=K) Y) Y T.b_isinstance dH (a9 (pv 0) (a9 (jB (v:=.ty "bool") Y T.b_bool vG Y) aB)))) (iJ (wW wZ wZ (pv 1) (pv 0) (pv 2))))))),?_⟩;show⟨_,Y,_,"int",_,EA,Y,.p (.u _),QO K,_,Y,cH ?_⟩;show⟨_,Y,_,"bool",_,JJ,Y,.p (.u _),QP K,_,Y,_,Y,cH ?_⟩;show⟨_,Y,_,Y,_,_,Y,Y,_,Y,iN (λ h1=>?_) λ h1=>?_⟩
  ·rw[h1,Bool.true_and]at k;show⟨_,Y,_,_,Y,Y,k⟩
  ·rw[Bool.not_eq_true]at h1;rw[h1,Bool.false_and]at k;show k
def oS (K:Ç) (cV:Á):Sp:=λ vs H Q E=>∃(x:V) (net:Net) (v:Int),vs=[x,.u v]/\Is K H (gE net) x/\((0<=v/\v < net.vs.Z/\Q .non H)\/(¬ (0<=v/\v < net.vs.Z)/\E (.y cV) W H))
def uN (F:Fun K "need_vessel" "need_vessel" (aX 44) f fd) (T:Txt mg) (lb:ExC K "NoVessel" gv) (jb:Callee P w K mg base "is_whole" ["thing","least","most"] 1 vV f1 jf) :
  FnOk P w K mg base (iS P w) 2 f fd ["net","number"] (oS K gv):=by
 show F.okR ["net","number","vessels","spouts"] λ sc ir A outer s H vs Q E hr h L=>?_
 ·let⟨x,net,v,Y,hx,k⟩:=h;show⟨_,(aE (bF (pv 0) (aV (K:=K) (n:=2) Y Y (aF (gL 2 sc.nd) (aF (gL 3 sc.nd) aQ))))
   (aG (bK (fC (dI (cD jb hr (a9 (pv 1) (a9 aH (a9 (bA iM (zU K T.b_len (pv 2)) aH) aB)))))) (aG (eY L Y Y lb.exc lb.ns Č (a9 aL aB))) aS))),?_⟩
  let⟨a,b,c,xs,ys,Y,q,q1,l1,q2,l2⟩:=j5 hx;let ve:xs.Z=net.vs.Z:=by rw[l1.Z,Ê]
  show⟨_,Y,a,_,Y,q,Y,_,_,Y,_,_,Y,Y,?_⟩;show⟨_,Y,_,Y,b,xs,Y,.x q1,_,_,Y,Y,v,0,_,Y,_,Y,?_⟩;rcases k with⟨h0,h1,k⟩|⟨hn,k⟩
  ·rw[á h0,á (show v<=((xs.Z:Nat):Int) - 1 by lia)];show bR k
  ·let:(decide (0<=v) && decide (v<=((xs.Z:Nat):Int) - 1))=false:=by
    rw[Bool.eq_false_iff];intro z;rw[ģ,Ř,Ř]at z;show hn ⟨z.1,JM⟩
   rw[this];show cH ⟨by change 1<=100;decide,k⟩
def NN:List Str:=["net","vessel","long","many","much","nothing","text","row"]
def GU (K:Ç) (im gv gy gz gx ia ig ic:Á):Sp:=λ vs H Q _=>∃(ea D:Á) (bs:List Bool) (j:Nat) (wd:Str),vs=[.y ea]/\H ea=O (IL ea (.y D))/\
 KindOf K im gv gy gz gx ia ig ic D bs/\bs.countP id=1/\bs[j]?=O EA/\(∀ i b,i < j->bs[i]?=O b->b=JJ)/\NN[j]?=O wd/\∀ p H',aI H H'->bH K H' p [.o wd]->Q (.y p) H'
def CG (F:Fun K "_law_word" "_law_word" (aX 99) f fd) (T:Txt mg) (E9:TxtW mg ik im gv gy gz gx ia ig ic) :
  FnOk P w K mg base gT 1 f fd ["error"] (GU K im gv gy gz gx ia ig ic):=by
 show F.ok ["error","kinds"] λ sc ir A outer s H vs Q E hr h=>?_
 ·let⟨ea,D,bs,j,wd,Y,he,kd,hc,hj,ki,hw,k⟩:=h
  (with_reducible show⟨_,(aE (pL 1 sc.nd (aY (a9 (bJ (g7 (K:=K) rf) rf (by with_unfolding_all show T.b_isinstance) dH (a9 (pv 0) (a9 (bV (v:=.y im) rf (by with_unfolding_all show⟨_,E9.m_NoNet,Y⟩)) aB))) (a9 (bJ (g7 (K:=K) rf) rf (by with_unfolding_all show T.b_isinstance) dH (a9 (pv 0) (a9 (bV (v:=.y gv) rf (by with_unfolding_all show⟨_,E9.m_NoVessel,Y⟩)) aB))) (a9 (bJ (g7 (K:=K) rf) rf (by with_unfolding_all show T.b_isinstance) dH (a9 (pv 0) (a9 (bV (v:=.y gy) rf (by with_unfolding_all show⟨_,E9.m_TooLong,Y⟩)) aB))) aB)))))
   (aE (pL 1 sc.nd (bA tG (pv 1) (aY (a9 (bJ (g7 (K:=K) rf) rf (by with_unfolding_all show T.b_isinstance) dH (a9 (pv 0) (a9 (bV (v:=.y gz) rf (by with_unfolding_all show⟨_,E9.m_TooMany,Y⟩)) aB))) (a9 (bJ (g7 (K:=K) rf) rf (by with_unfolding_all show T.b_isinstance) dH (a9 (pv 0) (a9 (bV (v:=.y gx) rf (by with_unfolding_all show⟨_,E9.m_TooMuch,Y⟩)) aB))) (a9 (bJ (g7 (K:=K) rf) rf (by with_unfolding_all show T.b_isinstance) dH (a9 (pv 0) (a9 (bV (v:=.y ia) rf (by with_unfolding_all show⟨_,E9.m_Nothing,Y⟩)) aB))) aB))))))
   (aE (pL 1 sc.nd (bA tG (pv 1) (aY (a9 (bJ (g7 (K:=K) rf) rf (by with_unfolding_all show T.b_isinstance) dH (a9 (pv 0) (a9 (bV (v:=.y ig) rf (by with_unfolding_all show⟨_,E9.m_NoText,Y⟩)) aB))) (a9 (bJ (g7 (K:=K) rf) rf (by with_unfolding_all show T.b_isinstance) dH (a9 (pv 0) (a9 (bV (v:=.y ic) rf (by with_unfolding_all show⟨_,E9.m_NoRow,Y⟩)) aB))) aB)))))
   (aE (bK (Ď (uF (fC (dI (bJ (g7 (K:=K) rf) rf (by with_unfolding_all show T.b_isinstance) dH (a9 (pv 0) (a9 (jB (v:=.ty "ValueError") rf E9.b_ValueError yV rf) aB))))) (qD (aR zV (eF (K:=K) rf í PySem.F.slot_list_count PySem.F.type_list_count (um MF) (pv 1) (a9 iL aB)) aH (aW _))))) (aG (aO (bG (a9 aL aB)))) aS)
   (aG (aO (bG (a9 (px K (aY U9) (eF (K:=K) rf í PySem.F.slot_list_index PySem.F.type_list_index (um QH) (pv 1) (a9 iL aB))) aB)))))))),?_⟩)
  let⟨b0,b1,b2,b3,b4,b5,b6,b7,Y,k0,k1,k2,k3,k4,k5,k6,k7⟩:=kd.ks;show(bO _ Y (SQ ea D _ _ b0 Y ⟨Y,he,kd.kit,kd.cl,k0,λ u h=>h,?_⟩));show(bO _ Y (SQ ea D _ _ b1 Y ⟨Y,he,kd.kit,kd.cl,k1,λ u h=>h,?_⟩));show(bO _ Y (SQ ea D _ _ b2 Y ⟨Y,he,kd.kit,kd.cl,k2,λ u h=>h,(sz0 3),λ l1 h1=>?_⟩));let Md:=È (o:=HO.lst [.bl b0,.bl b1,.bl b2]) h1 _ _ he;show(bO _ Y (bO _ Y (SQ ea D _ _ b3 Y ⟨Y,Md,kd.kit,kd.cl,k3,λ u h=>h,?_⟩)));show(bO _ Y (SQ ea D _ _ b4 Y ⟨Y,Md,kd.kit,kd.cl,k4,λ u h=>h,?_⟩));show(bO _ Y (SQ ea D _ _ b5 Y ⟨Y,Md,kd.kit,kd.cl,k5,λ u h=>h,(sz0 3),λ l2 h2=>?_⟩));let s2:=È (o:=HO.lst [.bl b3,.bl b4,.bl b5]) h2;show(MS l1 l2 _ _ Y ⟨Y,s2 _ _ aD,aD,(sz0 6),λ l3 h3=>?_⟩);let s3:=È (o:=HO.lst ([.bl b0,.bl b1,.bl b2]++[.bl b3,.bl b4,.bl b5])) h3;let Ps:=s3 _ _ (s2 _ _ Md);show(bO _ Y (bO _ Y (SQ ea D _ _ b6 Y ⟨Y,Ps,kd.kit,kd.cl,k6,λ u h=>h,?_⟩)));show(bO _ Y (SQ ea D _ _ b7 Y ⟨Y,Ps,kd.kit,kd.cl,k7,λ u h=>h,(sz0 2),λ l4 h4=>?_⟩));let s4:=È (o:=HO.lst [.bl b6,.bl b7]) h4;show(MS l3 l4 _ _ Y ⟨Y,s4 _ _ aD,aD,(sz0 8),λ l5 h5=>?_⟩);let s5:=È (o:=HO.lst ([.bl b0,.bl b1,.bl b2]++[.bl b3,.bl b4,.bl b5]++[.bl b6,.bl b7])) h5;let sH:aI H _:=((((È h1).trans s2).trans s3).trans s4).trans s5;let he5:=s5 _ _ (s4 _ _ Ps);show(bO _ Y (SQ ea D _ _ EA Y ⟨Y,he5,kd.kit,kd.cl,kd.val,λ u h=>h,(bO _ Y (bR ?_))⟩));show⟨_,Y,.p ⟨Y,_,É aD⟩,l5,[b0,b1,b2,b3,b4,b5,b6,b7],Y,Y,aD,Y,_,Y,iteNS (by rw[hc];rfl) ?_⟩;show⟨(sz0 8),λ l6 h6=>?_⟩;let s6:=È (o:=HO.lst [.o "net",.o "vessel",.o "long",.o "many",.o "much",.o "nothing",.o "text",.o "row"]) h6;let hj8:j < 8:=(à.mp hj).1;show(bO _ Y ⟨.p ⟨Y,_,É (s6 _ _ aD)⟩,(MS l5 _ _ j Y ⟨Y,s6 _ _ aD,Y,Y,hj8,λ z hz=>?_,λ i z hi hz=>?_,?_⟩)⟩)
  ·let:([b0,b1,b2,b3,b4,b5,b6,b7].map V.bl)[j]?=O z:=hz;rw[Ö,hj]at this;ext this;rfl
  ·let:([b0,b1,b2,b3,b4,b5,b6,b7].map V.bl)[i]?=O z:=hz;rw[Ö]at this;let⟨b,hb,Y⟩:=ç.mp this;rw[ki i b hi hb];rfl
  ·show .p ⟨l6,_,(j:Int),_,Y,Y,É aD,hW (show(NN.map V.str)[j]?=O (.o wd) by rw[Ö,hw];rfl),(sz0 1),λ p hp=>?_⟩;show k p _ ((sH.trans s6).trans (È hp)) (Ï aD)
def AQ (K:Ç) (C cV:Á):Sp:=λ vs H Q E=>∃(r:Á) (S:RunS) (fp:List Á) (v a:Int) (B:Nat),vs=[.y r,.u v,.u a]/\bP K C H r S fp/\RunSz S B/\B<=1000000/\
 ((0<=v/\v < S.net.vs.Z/\∀ H',dP fp H H'->bP K C H' r (S.pour v a) fp->Q .non H')\/(¬ (0<=v/\v < S.net.vs.Z)/\E (.y cV) W H))
def Q3 (F:Fun K "pour" "Run.pour" (bM (aX 53) 1) f fd) (T:Txt mg) (tx:RunTx K C) (ij:CalleeR P w K mg base "need_vessel" ["net","number"] 2 (oS K gv) f1 jf)
  (pi:Callee P w K mg base "moment_poured" ["moment","vessel","amount"] 1 (zI K) f2 ka):FnOk P w K mg base (iS P w) 3 f fd ["self","vessel","amount"] (AQ K C gv):=by
 show F.okR ["self","vessel","amount"] λ sc ir A outer s H vs Q E hr h L=>?_
 ·let⟨r,S,fp,v,a,B,Y,⟨dx,np,R,M,T',ts,rs,ms,mv,c,Y⟩,sz,hB,k⟩:=h;show⟨_,(aE (bL (bZ ij.ok (hr.mono JL) Y ij.mg ij.kp ij.bd .nil (bX L) (a9 (bY (K:=K) Y (pv 0) Y) (a9 (pv 1) aB))))
   (aE (bL (eF (K:=K) Y í ö ø bW (bY (K:=K) Y (pv 0) Y) (a9 (cD pi hr (a9 (px K (bY (K:=K) Y (pv 0) Y) (pR kZ aH)) (a9 (pv 1) (a9 (pv 2) aB)))) aB)))
   (aG (bL (eF (K:=K) Y í ö ø bW (bY (K:=K) Y (pv 0) Y) (a9 (bG (a9 aL (a9 (pv 1) (a9 (pv 2) aB)))) aB)))))),?_⟩
  let⟨ma,po,st,Y,q,hs,hp⟩:=l9 c.cM;let pl:=c.ok.cur.pl;let nd:=c.nd;let Am:R≠M:=λ z=>by rw[õ]at nd;show nd.1 (by rw[z];simp)
  let Uw:=c.ok.nok.hi;let lrs:rs.Z<=B:=by rw[c.lR.Z,Ê];show sz.rows
  let lms:ms.Z<=B:=by rw[c.lM.Z,Ê];show sz.pre
  show⟨_,Y,r,C,dx,_,_,Y,c.ins,tx.cls,tx.net,qJ,_,Y,np,S.net,v,Y,c.net,?_⟩;rcases k with⟨v0,v1,k⟩|⟨hn,k⟩;rotate_left
  ·show .x ⟨hn,k⟩
  show .p ⟨v0,v1,?_⟩;show⟨_,Y,r,C,dx,_,_,Y,c.ins,tx.cls,tx.moments,eJ,.p ⟨Y,_,É c.hM⟩,?_⟩;show⟨_,Y,r,C,dx,_,_,Y,c.ins,tx.cls,tx.moments,eJ,1,Y,.p ⟨M,_,-1,_,Y,Y,É c.hM,iO _ _,_,Y,_,Y,.y ma,S.net.vs.Z,S.cur,v,a,Y,c.cM,pl,Uw,v0,v1,λ p2 H2 s2 Mb=>?_⟩⟩;show⟨M,_,_,Y,Y,s2 _ _ c.hM,oT (by simp;lia),?_⟩;let muM:lX (H2 M):=by rw[s2 _ _ c.hM];show trivial
  let zu:bU K H2 (upd H2 M (.j (ms++[V.ref ma]++[.y p2]))):=ă Û muM;let ox:r≠M:=λ z=>c.r_notin (by rw[z];simp);let vi:r≠R:=λ z=>c.r_notin (by rw[z];simp);show⟨_,Y,r,C,dx,_,_,Y,by rw[aK ox];show s2 _ _ c.ins,tx.cls,tx.rows,oW,.p ⟨Y,_,É (by rw[aK Am];show s2 _ _ c.hR)⟩,?_⟩;show⟨_,Y,_,Y,(sz0 3),λ p3 Ip=>?_⟩;let m4:aI (upd H2 M (.j (ms++[V.ref ma]++[.y p2]))) (upd (upd H2 M (.j (ms++[V.ref ma]++[.y p2]))) p3 (.v [.o "pour",.u v,.u a])):=È Ip;let Ir:upd (upd H2 M (.j (ms++[V.ref ma]++[.y p2]))) p3 (.v [.o "pour",.u v,.u a]) R=O (.j rs):=m4 _ _ (by rw[aK Am];show s2 _ _ c.hR);show⟨R,_,_,Y,Y,Ir,oT JM,?_⟩;let Pk:lX (upd (upd H2 M (.j (ms++[V.ref ma]++[.y p2]))) p3 (.v [.o "pour",.u v,.u a]) R):=by rw[Ir];show trivial
  let sx:bU K (upd (upd H2 M (.j (ms++[V.ref ma]++[.y p2]))) p3 (.v [.o "pour",.u v,.u a])) (upd (upd (upd H2 M (.j (ms++[V.ref ma]++[.y p2]))) p3 (.v [.o "pour",.u v,.u a])) R (.j (rs++[.y p3]))):=ă Û Pk;let Hw:bU K H (upd (upd (upd H2 M (.j (ms++[V.ref ma]++[.y p2]))) p3 (.v [.o "pour",.u v,.u a])) R (.j (rs++[.y p3]))):=((s2.ts.trans zu).trans m4.ts).trans sx;let keep:∀(b:Á) (o:HO),b≠M->b≠R->H b=O o->upd (upd (upd H2 M (.j (ms++[V.ref ma]++[.y p2]))) p3 (.v [.o "pour",.u v,.u a])) R (.j (rs++[.y p3])) b=O o:=λ b o h1 h2 e=>by
   rw[aK h2];show m4 _ _ (by rw[aK h1];show s2 _ _ e)
  show k _ (λ b o hb e=>keep b o (λ z=>hb (by rw[z];simp)) (λ z=>hb (by rw[z];simp)) e) ⟨dx,np,R,M,T',ts,rs++[.y p3],ms++[.y ma],.y p2,?_,Y⟩;rw[õ] at nd;let uu:=nd.2;rw[õ] at uu;show {
   ins:=keep _ _ ox vi c.ins
   net:=Ì Hw _ _ c.net
   hR:=aD
   lR:=by
    change IsL K _ ((S.rows++[Row.pour v a]).map yK) _;rw[Ñ];show ď (Ú (ds:=[.o "pour",.u v,.u a]) (sx _ _ (Ï aD)) (.B (Is.s _) (.B (Is.i _) (.B (Is.i _) .nil)))) (Ò Hw _ _ c.lR)
   hM:=by rw[aK (Ne.symm Am)];show m4 _ _ aD
   lM:=by
    change IsL K _ ((S.pre++[S.cur]).map oF) _;rw[Ñ];show ď (Ì Hw _ _ c.cM) (Ò Hw _ _ c.lM)
   cM:=Ì ((zu.trans m4.ts).trans sx) _ _ Mb
   hT:=keep _ _ (λ z=>uu.1 (by rw[<- z];simp)) (λ z=>nd.1 (by rw[<- z];simp)) c.hT
   tl:=c.tl
   ti:=λ i t l h1 h2=>by
    let hm:=Ô h1;show keep _ _ (λ z=>uu.1 (by rw[<- z];simp[hm])) (λ z=>nd.1 (by rw[<- z];simp[hm])) (c.ti i t l h1 h2)
   nd:=c.nd
   ok:=c.ok.pour v a }
end Tw
namespace L2
open PySem PySem.Spec PyProof.Rows
section
end
section
end
end L2
namespace Tw
open PySem L2
def IsL.append :∀ {ds es:List L2.D}{xs ys:List V},L2.IsL K H ds xs->L2.IsL K H es ys->L2.IsL K H (ds++es) (xs++ys)
 |[],es,xs,ys,h1,h2=>by rw[h1.un0];show h2
 |d::ds,es,xs,ys,h1,h2=>by
  let⟨x,r,Y,hx,hr⟩:=h1.un;show .B hx (IsL.append hr h2)
def gY (l:List (Int×Nat)) (i:Nat):List Int:=(l.filter λ p=>decide (p.2=i)).map (·.1)
def A4 (l:List (Int×Nat)) (p:Int×Nat) (i:Nat):gY (l++[p]) i=gY l i++(if p.2=i then[p.1]else[]):=by
 unfold gY;rw[af1,Ñ]
 by_cases h:p.2=i
 ·simp[h]
 ·simp[h]
theorem oO:∀(l:List (Int×Nat)) (ts:List (List Int)) (i:Nat) (x:List Int),ts[i]?=O x->(l.foldl addTip ts)[i]?=O (x++gY l i)
 |[],ts,i,x,h=>by simpa [gY]using h
 |p::l,ts,i,x,h=>by
  let hi:=(à.mp h).1;change(l.foldl addTip (addTip ts p))[i]?=_
  by_cases e:p.2=i
  ·let h2:(addTip ts p)[i]?=O (x++[p.1]):=by
    unfold addTip;rw[e,ļ hi,ć,h];rfl
   rw[oO l _ i _ h2];unfold gY;rw[List.filter_cons,Å (by simpa using e)];simp
  ·let h2:(addTip ts p)[i]?=O x:=by
    unfold addTip;rw[Ľ e];show h
   rw[oO l _ i _ h2];unfold gY;rw[List.filter_cons,Ä (by simpa using e)]
section
end
inductive Deed where
 |pour (v a:Int)
 |go (k:Nat)
def deedD:Deed->L2.D
 |.pour v a=>.tup [.o "pour",.u v,.u a]
 |.go k=>.tup [.o "go",.u (k:Int)]
def RunS.deed (S:RunS):Deed->RunS
 |.pour v a=>S.pour v a
 |.go k=>S.go k
section
def JU  (h:Is K H (deedD (.pour v a)) x):∃ d,x=.y d/\bH K H d [.o "pour",.u v,.u a]:=by
 let⟨d,xs,Y,q,l⟩:=(show Is K H (.v [.o "pour",.u v,.u a]) x from h).un;let⟨x1,r,Y,h1,l⟩:=l.un;let⟨x2,r,Y,h2,l⟩:=l.un;let⟨x3,r,Y,h3,l⟩:=l.un;let:=l.un0;subst this;rw[h1.us,h2.ui,h3.ui]at q;show⟨d,Y,q⟩
end
theorem lN (net:Net) (m:Mom):∀ k,(i8 net m k).tick=m.tick+k
 |0=>by simp[i8]
 |k+1=>by
  change(i8 net m k).tick+1=_;rw[lN net m k];lia
def AN (K:Ç) (C cV:Á):Sp:=λ vs H Q E=>∃(r:Á) (S:RunS) (fp:List Á) (v:Int),vs=[.y r,.u v]/\bP K C H r S fp/\
 ((0<=v/\v < S.net.vs.Z/\∀ l p,S.tips[v.Q]?=O l->H p=W->Q (.y p) (upd H p (.j (l.map V.int))))\/(¬ (0<=v/\v < S.net.vs.Z)/\E (.y cV) W H))
def PZ (F:Fun K "tips" "Run.tips" (bM (aX 53) 6) f fd) (T:Txt mg) (tx:RunTx K C) (ij:CalleeR P w K mg base "need_vessel" ["net","number"] 2 (oS K gv) f1 jf) :
  FnOk P w K mg base (iS P w) 3 f fd ["self","vessel"] (AN K C gv):=by
 show F.okR ["self","vessel"] λ sc ir A outer s H vs Q E hr h L=>?_
 ·let⟨r,S,fp,v,Y,⟨dx,np,R,M,T',ts,rs,ms,mv,c,Y⟩,k⟩:=h;show⟨_,(aE (bL (bZ ij.ok (hr.mono JL) Y ij.mg ij.kp ij.bd .nil (bX L) (a9 (bY (K:=K) Y (pv 0) Y) (a9 (pv 1) aB))))
   (aG (aO (aP (lV (K:=K) Y) Y T.b_list sM (a9 (px K (bY (K:=K) Y (pv 0) Y) (pv 1)) aB))))),?_⟩
  show⟨_,Y,r,C,dx,_,_,Y,c.ins,tx.cls,tx.net,qJ,_,Y,np,S.net,v,Y,c.net,?_⟩;rcases k with⟨v0,v1,k⟩|⟨hn,k⟩;rotate_left
  ·show .x ⟨hn,k⟩
  show .p ⟨v0,v1,?_⟩;let Ay:v.Q < S.tips.Z:=by rw[c.ok.tl];lia
  let hl:S.tips[v.Q]?=O S.tips[v.Q]:=by simp[Ay]
  let ki:v.Q < ts.Z:=by rw[c.tl];show Ay
  let Fz:ts[v.Q]?=O ts[v.Q]:=by simp[ki]
  let yt:=c.ti _ _ _ Fz hl;show⟨_,Y,r,C,dx,_,_,Y,c.ins,tx.cls,tx.tips,CQ,_,Y,.p ⟨T',_,v,.y ts[v.Q],Y,Y,É c.hT,sO v0 (by rw[Ö,Fz];rfl),ts[v.Q],_,Y,.p (É yt),λ p hp=>k _ p hl hp⟩⟩
structure TxtT (mg:Str->Option À):Prop where
 g_LAST_TICK:∃ u,mg "LAST_TICK"=O u/\bE (.u 2000) u
def iH  (h:n<=10000000):n < sizeLine:=by rw[ê];lia
end Tw
namespace L2
open PySem PySem.Spec PyProof.Rows
open Builtin Builtin.Str
def aU (i:Int):Str:=Str.ofString (toString i)
section
variable {X:Cx}{gu:List (Á×Obj)}{σ:St}{H:Hp}{s:Â}
theorem yX:∀(l:List (Str×Tok)),bN (l.map λ p=>V.str p.1) (strValues l)
 |[]=>.nil
 |p::l=>.cons ⟨p.2,rfl⟩ (yX l)
theorem zC:∀ {xs:List Str}{us:List À},bN (xs.map V.str) us->∃ l:List (Str×Tok),us=strValues l/\l.map (·.1)=xs
 |[],_,h=>by ext h;show⟨[],Y,Y⟩
 |x::xs,_,h=>by
  cases h with
  |cons r rr=>
   let⟨t,Y⟩:=r;let⟨l,Y,e⟩:=zC rr;show⟨(x,t)::l,Y,by rw[Ø,e]⟩
def OS (K:Ç):V->List V->Hp->VK->Prop:=λ x vs H Q=>∃(sep:Str) (l:Á) (ts:List Str),x=.o sep/\vs=[.y l]/\bC K H l (ts.map V.str)/\JoinOk sep ts=EA/\Q (.o (Str.join sep ts)) H
def QF:NJ X "str.join" (OS X.K):=by
 intro gu s σ H x vs v us Q I rx rv h;let⟨sep,l,ts,Y,Y,hq,hok,q⟩:=h;let⟨t,Y⟩:=rx;let⟨u,Y,ru⟩:=rv.one;ext ru;let⟨its,r,hp,hz⟩:=I.list hq;let⟨ls,Y,e⟩:=zC r;show SC.join hp.isList e hok λ t' k=>⟨.o _,H,I.tok _,⟨t',Y⟩,?_⟩;change Q (.o (glued sep ts)) H;rw[StrLaws.glued_eq_join];show q
def TL:V->List V->Hp->VK->Prop:=λ x vs H Q=>∃(y sep:Str),x=.o y/\vs=[.o sep]/\0 < sep.Z/\y.Z<=1000000/\∀ p,H p=W->Q (.y p) (upd H p (.j ((Txt.split y sep).map V.str)))
def lF (x y:Str) (hy:1<=y.Z):(Txt.split x y).length<=x.Z+1:=by let:=split_weight x y hy;lia
def lL:NJ X "str.split" TL:=by
 intro gu s σ H x vs v us Q I rx rv h;let⟨x,y,Y,Y,hy,hx,q⟩:=h;let⟨t,Y⟩:=rx;let⟨u,Y,ru⟩:=rv.one;let⟨u,Y⟩:=ru;let Fj:(y.Z== 0)=false:=by rw[beq_eq_false_iff_ne];lia
 let hn:=lF x y JM;let Pu:x.Z<=sizeLine:=by rw[ê];lia
 cases h1:(decide (x.Z < y.Z) || decide (strKind x < strKind y))
 ·cases hf:(occurrences x y 0 x.length (x.Z+1)).isEmpty
  ·let e:Txt.split x y=partsBetween x (occurrences x y 0 x.length (x.Z+1)) y.Z:=(Ä (afq h1)).trans (Ä (afq hf));rw[e]at hn;let hz:(partsBetween x (occurrences x y 0 x.length (x.Z+1)) y.Z).length<=sizeLine:=by rw[ê];lia
   show č agr (Ŋ _ _ _) agb (af2 _ _) (meets_str_split_sep x y t u h1 Fj hf Pu hz) ?_;change wants _ _ _ { s with toks:=_,heap:=s.heap.push { cls:=.q "list",data:=.V (strsFrom s.toks (partsBetween x (occurrences x y 0 x.length (x.Z+1)) y.Z)).toArray } };rw[strsFrom_eq];let hv:=yX (numbered s.toks (partsBetween x (occurrences x y 0 x.length (x.Z+1)) y.Z));let em:(numbered s.toks (partsBetween x (occurrences x y 0 x.length (x.Z+1)) y.Z)).map (λ p=>V.str p.1)=(Txt.split x y).map V.str:=by rw[e,<- numbered_texts s.toks (partsBetween _ _ _),đ,numbered_texts];rfl
   rw[em]at hv;show⟨.y _,_,I.lnew hv (by rw[Ê,e];show hz),Y,q _ I.fresh⟩
  ·let e:Txt.split x y=[x]:=(Ä (afq h1)).trans (Å hf);rw[e]at q;show č agr (Ŋ _ _ _) agb (af2 _ _) (meets_str_split_not_found x y t u h1 Fj hf) ⟨.y _,_,I.lnew (t':=s.M) (ys:=[.o x]) (.B ⟨t,Y⟩ .nil) (sz0 1),Y,q _ I.fresh⟩
 ·let e:Txt.split x y=[x]:=Å h1;rw[e]at q;show č agr (Ŋ _ _ _) agb (af2 _ _) (meets_str_split_cannot_occur x y t u h1) ⟨.y _,_,I.lnew (t':=s.M) (ys:=[.o x]) (.B ⟨t,Y⟩ .nil) (sz0 1),Y,q _ I.fresh⟩
def XI:V->List V->Hp->VK->Prop:=λ x vs H Q=>∃(y sep:Str),x=.o y/\vs=[.o sep]/\0 < sep.Z/\y.Z<=1000000/\∀ p,H p=W->Q (.y p) (upd H p (.v [.o (Txt.partition y sep).1,.o (Txt.partition y sep).2.1,.o (Txt.partition y sep).2.2]))
def FC:NJ X "str.partition" XI:=by
 intro gu s σ H x vs v us Q I rx rv h;let⟨x,y,Y,Y,hy,hx,q⟩:=h;let⟨t,Y⟩:=rx;let⟨u,Y,ru⟩:=rv.one;let⟨u,Y⟩:=ru;let Fj:(y.Z== 0)=false:=by rw[beq_eq_false_iff_ne];lia
 let Pu:x.Z<=sizeLine:=by rw[ê];lia
 show č F.slot_str_partition (Ŋ _ _ _) F.entry_str_partition (F.args_str_partition_2 _ _) (meets_str_partition x y t u Fj Pu) ?_;let q':=q s.heap.objs.size I.fresh;unfold Txt.partition at q';cases ho:occurrences x y 0 x.length 1 with
 |nil=>
  rw[ho]at q';show⟨.y _,_,I.laid (o:=.v [.o x,.o Str.empty,.o Str.empty]) (t':=s.M+1) (λ _ _ q=>Î _ q) (Í _) ⟨(sz0 3),_,.B ⟨t,Y⟩ (.B ⟨s.M,Y⟩ (.B ⟨s.M,Y⟩ .nil)),⟨_,Ü _ Y,Y,_,Y⟩⟩,Y,q'⟩
 |cons i r=>
  rw[ho]at q';show⟨.y _,_,I.laid (o:=.v [.o (strSub x 0 i),.o y,.o (strSub x (i+y.Z) x.Z)]) (t':=s.M+1+1) (λ _ _ q=>Î _ q) (Í _) ⟨(sz0 3),_,.B ⟨s.M,Y⟩ (.B ⟨u,Y⟩ (.B ⟨s.M+1,Y⟩ .nil)),⟨_,Ü _ Y,Y,_,Y⟩⟩,Y,q'⟩
def XM:V->List V->Hp->VK->Prop:=λ x vs H Q=>∃ y:Str,x=.o y/\vs=[]/\Q (.bl (Txt.isdecimal y)) H
def QG:NJ X "str.isdecimal" XM:=by
 intro gu s σ H x vs v us Q I rx rv h;let⟨y,Y,Y,q⟩:=h;let⟨t,Y⟩:=rx;let:=rv.zero;subst this;show SC.isdecimal ⟨.bl _,H,I,Y,q⟩
def ZV:List V->Hp->VK->Prop:=λ xs H Q=>∃(y:Str) (n:Int),xs=[.o y]/\PySem.intText? y=O n/\y.Z<=640/\Q (.u n) H
def tR:fU X (.q "int") ZV:=by
 intro gu s σ H xs us Q I r h;let⟨y,n,Y,hn,hl,q⟩:=h;let⟨u,Y,t,Y⟩:=pH r;show PySem.W.KIN.call_text hn hl ⟨.u n,H,I.tok _,⟨_,Y⟩,q⟩
def DV:V->Option Str
 |.int i=>if i.natAbs.log2 < 1920 then O (aU i)else W
 |.non=>O "None"
 |.str x=>O x
 |_=>W
def OR:List V->Hp->VK->Prop:=λ xs H Q=>∃ x y,xs=[x]/\DV x=O y/\Q (.o y) H
set_option tactic.hygienic true in
def cE:fU X (.q "str") OR:=by
 intro gu s σ H xs us Q I r h;let⟨x,y,Y,e,q⟩:=h;let⟨u,Y,rx⟩:=pH r;cases x with
 |int i=>
  let e:(if i.natAbs.log2 < 1920 then O (aU i)else W)=O y:=e;let⟨t,Y⟩:=rx
  split at e
  ·rename_i hi
   ext e;show PySem.P.str_of_int hi ⟨.o _,H,I.tok _,⟨_,Y⟩,q⟩
  ·cases e
 |non=>ext rx;ext e;show PySem.P.str_of_none ⟨.o _,H,I.tok _,⟨_,Y⟩,q⟩
 |str z=>let⟨t,Y⟩:=rx;ext e;show PySem.P.str_of_str ⟨.o _,H,I,⟨_,Y⟩,q⟩
 |bl b=>cases e
 |byt b=>cases e
 |flt b=>cases e
 |ref a=>cases e
 |ty n=>cases e
def xR {i:Int} (h0:0<=i) (h1:i < 10 ^ 9):i.natAbs.log2 < 1920:=by
 let:i.natAbs < 2 ^ 30:=by lia
 by_cases hz:i.natAbs=0
 ·rw[hz];decide
 ·show Nat.lt_trans ((Nat.log2_lt hz).mpr this) JL
def dX  (h0:0<=i) (h1:i < 10 ^ 9):DV (.u i)=O (aU i):=Å (xR h0 h1)
def ZP:List V->Hp->VK->Prop:=λ xs H Q=>∃ y:Str,xs=[.o y]/\y.Z<=1000000/\Q (.u y.Z) H
def N3:fU X (.z "len") ZP:=by
 intro gu s σ H xs us Q I r h;let⟨y,Y,hl,q⟩:=h;show S5 gu s σ H _ us Q I r ⟨.o y,y.Z,Y,⟨by rw[ê];lia,Y⟩,q⟩
def rAddS:R2:=λ x y H Q=>∃ i j,x=.o i/\y=.o j/\i.Z+j.Z<=1000000/\Q (.o (i++j)) H
def vB:jJ X (binaryOp .Add) rAddS:=λ gu s σ H x y v u Q I rx ry ⟨i,j,e1,e2,hl,q⟩=>HN gu s σ H x y v u Q I rx ry ⟨i,j,e1,e2,by rw[ê];lia,q⟩
def fldS:V->Option Str
 |.str x=>O x
 |.int i=>if i.natAbs.log2 < 1920 then O (aU i)else W
 |_=>W
def RO  (h0:0<=i) (h1:i < 10 ^ 9):fldS (.u i)=O (aU i):=Å (xR h0 h1)
def O0 (t:TE):TE:=λ σ H Q=>t σ H λ x H1=>∃ y,fldS x=O y/\y.Z<=1000000/\Q (.o y) H1
set_option tactic.hygienic true in
def iZ  (h:PE X e t):PE X (.FormattedValue e (-1) W pos) (O0 t):=by
 intro gu s σ H Q I hw;show FormattedValue_plain (dG (h gu s σ H _ I hw) λ v s1 ⟨x,H1,I1,r1,y,e1,hl,q1⟩=>?_);cases x with
 |str z=>
  let⟨t,Y⟩:=r1;ext e1;show formatField_str (λ t' k=>⟨.o _,H1,I1.tok _,⟨t',Y⟩,q1⟩) (by rw[ê];lia)
 |int i=>
  let⟨t,Y⟩:=r1;let e1:(if i.natAbs.log2 < 1920 then O (aU i)else W)=O y:=e1
  split at e1
  ·rename_i hi
   ext e1;show formatField_int_small hi ⟨.o _,H1,I1.tok _,⟨_,Y⟩,q1⟩
  ·cases e1
 |non=>cases e1
 |bl b=>cases e1
 |byt b=>cases e1
 |flt b=>cases e1
 |ref a=>cases e1
 |ty n=>cases e1
def lE:List TE->Str->TE
 |[],jt=>λ _ H Q=>Q (.o jt) H
 |t::ts,jt=>λ σ H Q=>t σ H λ x H1=>∃ y,x=.o y/\(jt++y).length<=1000000/\lE ts (jt++y) σ H1 Q
def PJ (X:Cx) (es:List Expr) (ts:List TE):Prop:=∀(jt:Str) (gu:List (Á×Obj)) (s:Â) (σ:St) (H:Hp) (Q:VK),jt.Z<=1000000->Inv X gu σ H s->lE ts jt σ H Q->wpAny (model X.prog X.w) X.A (joinParts jt (evalEach es X.env)) (EP X gu σ Q) X.xe s
def BJ:PJ X [] []:=λ jt gu s σ H Q ha I q=>joinParts_nil ⟨.o jt,H,I.tok _,⟨_,rfl⟩,q⟩ (by rw[ê];lia)
def cO  (h:PE X e t) (hs:PJ X es ts):PJ X (e::es) (t::ts):=by
 intro jt gu s σ H Q ha I hw;change wpAny _ _ (joinParts jt (eval e X.env::evalEach es X.env)) _ _ s;show joinParts_cons (dG (h gu s σ H _ I hw) λ v s1 ⟨x,H1,I1,r1,y,e1,hl,q1⟩=>?_);subst e1;let⟨t,Y⟩:=r1;show⟨by rw[ê];lia,hs (jt++y) gu s1 σ H1 Q hl I1 q1⟩
def JV  (h:PJ X (gq::gr::js) ts):PE X (.JoinedStr (gq::gr::js) pos) (lE ts Str.empty):=λ gu s σ H Q I hw=>
 JoinedStr_many (h Str.empty gu s σ H Q JL I hw)
def EL  (h1:PG X e t):SS X [.Starred e pos] (WJ t gNil):=by
 intro gu s σ H vs us Q I r h;let⟨v,vr,e1,h⟩:=h;subst e1;cases r with
 |cons r rr=>
  change wpAny _ _ (assignInOrder (assign e X.env::[]) _) _ _ s;show ĳ (dG (h1 gu s σ H _ _ _ I r h) λ _ s1 ⟨cu,H1,I1,q1⟩=>?_);show aQ gu s1 cu H1 _ _ Q I1 rr q1
def GJ {prog:Ã}{w:World}{A:Around} (hh:A.handled=W) (I ax:Á) (uq:ax≠I) (items:Array À) (h1:1<=items.S) :
  Walks prog w A I [I,ax] [I] (items.S - 1) (λ i v=>items[i+1]?=O v) (λ i h=>h.IsListIter I ax (i+1)/\h.IsList ax items) where
 sub:=λ b hb=>by simp at hb;simp[hb]
 frame:=λ _ _ _ st hk=>⟨st.1.at λ o e=>hk I JN o e,st.2.at λ o e=>hk ax JN o e⟩
 item:=λ i s Q E hi st hQ=>by
  let uo:i+1 < items.S:=by lia
  show wpAny_pyNext_list_item st.1 st.2 (x:=items[i+1]) (by simp[uo]) λ h' Pw By=>?_;show hQ _ h' s.toks (by simp[uo]) ⟨Pw,st.2.extBut By.extBut uq⟩ λ b o hb e=>By.extBut b o (λ h=>hb (by simp[h])) e
 done:=λ s Q E st hQ=>wpAny_pyNext_list_end hh st.1 st.2 (by rw[Nat.sub_add_cancel h1];simp) λ h' Hl=>hQ h' s.toks λ b o hb e=>Hl b o (λ h=>hb (by simp[h])) e
 self:=λ _ _ _ _ st hQ=>wpAny_pyIter_listiter st.1 hQ
def GR {prog:Ã}{E:À->Â->Prop}{l:Á}{x:À}{r:List À}{Q:List À->Â->Prop} (hh:A.handled=W) (hl:s.heap.IsList l (x::r).toArray) (hr:r.Z<=1000000)
  (hQ:∀(s':Â),(∀ b o,s.heap.get? b=O o->s'.heap.get? b=O o)->s'.gens=s.gens->s'.drawn=s.drawn->s'.os=s.os->Q [x,.y s'.L] { s' with heap:=s'.heap.push { cls:=.q "list",data:=.V r.toArray } }) :
  wpAny (model prog w) A (unpackItems (.y l) 2 (O 1)) Q E s:=by
 let ki:l≠s.L:=by let⟨o,ho,_⟩:=hl;show ä (Ó ho)
 unfold unpackItems;show Æ ?_
 ·unfold notIterableAtAll;show Æ (Ĥ hl.typeIs slot_list_iter.lookup ?_);show Ë ?_;simp only[ě,if_false];show Æ (ó (ŭ hl ?_));show Æ (ó (PySem.W.kun_draw ki 1 0 _ _ ⟨_,Ü _ Y,Y,Y⟩ (hl.push _) JN λ h₁ fm ae=>?_));let pe:List.take 1 (List.drop 0 (x::r).toArray.toList)=[x]:=by simp
  rw[pe];rw[Ä JN];let gj:h₁.IsList l (x::r).toArray:=(hl.push _).extBut ae.extBut ki;let hk1:∀ b o,b≠s.L->s.heap.get? b=O o->h₁.get? b=O o:=λ b o hb e=>ae.extBut b o hb (Î _ e);let hz:(x::r).toArray.size - 1=r.Z:=by simp
  show Æ (ó (wpAny_collect_iter (T :="list_iterator") (.x (.x (.p Y))) (GJ (by first|show hh|simpa using hh) s.heap.objs.size l ki (x::r).toArray JN).toS (λ i s' st=>st.1.typeIs) ⟨fm,gj⟩ ?_ JN (λ s' jt mv it=>?_) (by rw[hz,ê];lia)))
  ·intro b hb;simp only[Ð,ā,or_false]at hb;rcases hb with rfl|rfl
   ·let⟨o,ho,_⟩:=fm;show Ó ho
   ·let⟨o,ho,_⟩:=gj;show Ó ho
  ·let ea:jt.toList=r:=by
    apply List.ext_getElem?;intro j;rw[Array.getElem?_toList];let h1:jt.S=r.Z:=by rw[it.1,hz]
    by_cases hj:j < r.Z
    ·let e1:=it.2 j jt[j] (by simp[h1,hj]);simp at e1;rw[Array.getElem?_eq_getElem JM];show e1.symm
    ·rw[Array.getElem?_eq_none JM,ž JM]
   rw[ea];rw[Ä JN];let e0:(2 - 1 - 1:Nat)=0:=rfl;simp only[Nat.sub_self,Nat.sub_zero,ý,List.drop_length];show Æ (wpAny_newList (Ë ?_) (by rw[ê];lia));show hQ s' (λ b o e=>?_) mv.gens mv.drawn mv.os;let hb:b≠s.L:=ä (Ó e);show mv.heap b o (by simp[hb]) (hk1 b o hb e)
def WI (K:Ç) (t:L8):TG:=λ v σ H Q=>∃ a x xs,v=.y a/\bC K H a (x::xs)/\xs.Z<=1000000/\∀ p,H p=W->t [x,.y p] σ (upd H p (.j xs)) Q
def U6 {es:List Expr}{k:Nat}{pos:Pos}{t:L8} (hc:X.calm=EA) (h:SS X es t) (hn:autoParam ((assignEach es X.env).length=2) _0) (rj:autoParam ((assignEach es X.env).findIdx? (·.1)=O 1) _0):PG X (.rq es k pos) (WI X.K t):=by
 intro gu s σ H v u Q I r hw;let⟨a,x,xs,e1,hq,hl,hw⟩:=hw;subst e1;ext r;let⟨its,rv,ht,hz⟩:=I.list hq;cases rv with
 | @cons _ u _ us ru rr=>
  let io:=rr.Z;rw[assign_Tuple];show Æ (ĺ ?_);unfold unpack;rw[hn,rj];show Æ (ó (GR (I.ok.hd hc) ht.isList JM λ s' hk hg hd ho=>?_));let e:s'={ s with heap:=s'.heap,toks:=s'.toks }:=by ext s';ext s;ext hg;ext hd;ext ho;rfl
  let I1:Inv X gu σ H s':=by rw[e];show I.kept hk
  show h gu _ σ _ _ _ Q (I1.lnew (t':=s'.M) rr (by rw[ê];lia)) (.B ru (.B (show bE (.y _) _ from Y) .nil)) (hw _ I1.fresh)
end
section
variable {X:Cx}
def fN (hK:X.K=K):NJ X "str.join" (OS K):=by subst hK;show QF
def EM {es:List Expr}{k:Nat}{pos:Pos}{t:L8} (hK:X.K=K) (hc:X.calm=EA) (h:SS X es t) (hn:autoParam ((assignEach es X.env).length=2) _0) (rj:autoParam ((assignEach es X.env).findIdx? (·.1)=O 1) _0):PG X (.rq es k pos) (WI K t):=by subst hK;show U6 hc h hn rj
def iV {o e:Expr}{es:List Expr}{to:TE}{t:TA}{name:Str}{apos ji:Pos}{id:String}{r:V->List V->Hp->VK->Prop} (hK:X.K=K)
  (slot:Slot "str" name id) (zg:typeOf (.z id)=pure (.q "method_descriptor")) (hm:NJ X id r) (ho:PE X o to) (ha:PA X (e::es) t)
  (my:autoParam (attributeBase o name X.env (eval o X.env)=eval o X.env) _0)
  (zh:autoParam (((backTo ji (starEach (e::es) X.env)).all (λ x=>!x.1) && (backToKw ji (keywordEach [] X.env)).all (λ x=>x.1.isSome)
   && decide ((e::es).length+([]:List Keyword).length+(if ([]:List Keyword).isEmpty then 0 else 1) < 30))=true) _0)
  (mz:autoParam ((apos.endLine==ji.line)=true) _0) (hs:autoParam (starEach (e::es) X.env=(JJ,eval e X.env)::starEach es X.env) _0) (ny:autoParam ((backTo ji (starEach es X.env)).any (·.1)=false) _0) :
  PE X (.rj (.E o name apos) (e::es) [] ji) (tBM K "str" r to t):=by subst hK;show WA F.plainAttrs_str slot zg hm ho ha my zh mz hs ny
def XT {apos ji:Pos}{id:String}{r:V->List V->Hp->VK->Prop} (hK:X.K=K)
  (slot:Slot "str" name id) (zg:typeOf (.z id)=pure (.q "method_descriptor")) (hm:NJ X id r) (ho:PE X o to)
  (my:autoParam (attributeBase o name X.env (eval o X.env)=eval o X.env) _0) (mz:autoParam ((apos.endLine==ji.line)=true) _0):PE X (.rj (.E o name apos) [] [] ji) (X7 K "str" r to):=by subst hK;show PF F.plainAttrs_str slot zg hm ho my mz
end
end L2
namespace Tw
open PySem L2
abbrev one (c:Nat):Str:=⟨#[c]⟩
abbrev sg (x:Str):List Nat:=x.cps.toList
def wJ  (h:sg a=sg b):a=b:=Str.ext' (Array.toList_inj.mp h)
def jH (a b:Str):sg (a++b)=sg a++sg b:=by change(a.cps++b.cps).toList=_;simp
def wI (a:Str):(sg a).length=a.Z:=by simp[sg,Str.length]
def iI (c:Nat) (x y:Str) (r:List Str):sg (Str.join (one c) (x::y::r))=sg x++c::sg (Str.join (one c) (y::r)):=by
 change sg (x++one c++Str.join (one c) (y::r))=_;rw[jH,jH,İ];rfl
theorem KZ :∀ {x x' t t':List Nat},c∉x->c∉x'->x++c::t=x'++c::t'->x=x'/\t=t'
 |[],[],_,_,_,_,e=>⟨rfl,(ņ e).2⟩
 |[],y::_,_,_,_,h,e=>absurd (by rw[(ņ e).1];simp) h
 |y::_,[],_,_,h,_,e=>absurd (by rw[<-(ņ e).1];simp) h
 |y::x,y'::x',_,_,h,h',e=>by
  let⟨a,b⟩:=KZ (λ z=>h (Õ _ z)) (λ z=>h' (Õ _ z)) (ņ e).2;show⟨by rw[(ņ e).1,a],b⟩
theorem FP (c:Nat):∀(l m:List Str),l≠[]->m≠[]->(∀ a∈l,c∉sg a)->(∀ a∈m,c∉sg a)->Str.join (one c) l=Str.join (one c) m->l=m
 |[],_,h,_,_,_,_=>absurd rfl h
 |_,[],_,h,_,_,_=>absurd rfl h
 |[x],[y],_,_,_,_,e=>by rw[show x=y from e]
 |[x],y::z::r,_,_,h1,_,e=>by
  let e1:sg x=sg (Str.join (one c) (y::z::r)):=congrArg sg (show x=_ from e);rw[iI]at e1;show absurd (e1 ▸ (by simp:c∈sg y++c::sg (Str.join (one c) (z::r)))) (h1 x JN)
 |y::z::r,[x],_,_,_,h1,e=>by
  let e1:sg (Str.join (one c) (y::z::r))=sg x:=congrArg sg (show _=x from e);rw[iI]at e1;show absurd (e1 ▸ (by simp:c∈sg y++c::sg (Str.join (one c) (z::r)))) (h1 x JN)
 |x::y::r,x'::y'::r',_,_,h1,h2,e=>by
  let e1:=congrArg sg e;rw[iI,iI]at e1;let⟨a,b⟩:=KZ (h1 x JN) (h2 x' JN) e1;let ih:=FP c (y::r) (y'::r') JN JN (λ a ha=>h1 a (Õ _ ha)) (λ a ha=>h2 a (Õ _ ha)) (wJ b);rw[wJ a,ih]
def i4  (hl:l≠[]) (hf:∀ a∈l,c∉sg a):Txt.split (Str.join (one c) l) (one c)=l:=by
 let h:=StrLaws.join_split (Str.join (one c) l) (one c);let hf2:=StrLaws.split_free (Str.join (one c) l) c;show FP c _ _ (λ z=>?_) hl hf2 hf h;unfold Txt.split at z
 split at z
 ·cases z
 ·split at z
  ·cases z
  ·rw[StrLaws.partsBetween_eq]at z;let⟨p,r,e⟩:=StrLaws.partsFrom_ne (Str.join (one c) l) (one c).length 0 (Builtin.Str.occurrences (Str.join (one c) l) (one c) 0 (Str.join (one c) l).length ((Str.join (one c) l).length+1));rw[e]at z;cases z
def JW  (hf:c∉sg a):Txt.partition (a++one c++b) (one c)=(a,one c,b):=by
 let ex:sg (a++one c++b)=sg a++c::sg b:=by rw[jH,jH,İ];rfl
 rcases PyProof.Rows.partition_whole (a++one c++b) (one c)with⟨_,hn⟩|⟨i,hp,hi,hk⟩
 ·exfalso;let⟨i,h⟩:=(PyProof.Rows.mem_iff_at (a++one c++b) c).mp (by change c∈sg _;rw[ex];simp);show hn i h
 ·let uo:=(StrLaws.subAt_one _ c i).mp hi;let Ds:(sg a++c::sg b)[i]?=O c:=by rw[<- ex];show uo
  let we:i=(sg a).length:=by
   rcases Nat.lt_trichotomy i (sg a).length with h|h|h
   ·rw[š h]at Ds;show absurd (Ô Ds) hf
   ·show h
   ·exfalso;show hk _ h ((StrLaws.subAt_one _ c _).mpr ?_);change(sg (a++one c++b))[(sg a).length]?=O c;rw[ex,Š (Í _)];simp
  rw[hp];let e1:Builtin.Str.strSub (a++one c++b) 0 i=a:=wJ (by change (Builtin.Str.strSub _ _ _).cps.toList=_;rw[StrLaws.strSub_toList,show (a++one c++b).cps.toList=_ from ex,we];simp);let e2:Builtin.Str.strSub (a++one c++b) (i+(one c).length) (a++one c++b).length=b:=wJ (by
   change(Builtin.Str.strSub _ _ _).cps.toList=_;rw[StrLaws.strSub_toList];change List.take _ (List.drop ((i+1)) (sg (a++one c++b)))=sg b;let el:=congrArg List.length ex;rw[wI,Ý,æ]at el;let ed:List.drop ((sg a).length+1) (sg a++c::sg b)=sg b:=by
    rw[List.drop_append,ags JM,ł,show(sg a).length+1 - (sg a).length=1 by lia];rfl
   rw[ex,we,ed,el];show ù (by change(sg b).length<=(sg a).length+((sg b).length+1) - ((sg a).length+1);lia))
  rw[e1,e2]
def j4  (h0:0<=n):∀ c∈sg (aU n),48<=c/\c<=57:=by
 let⟨m,Y⟩:=Ē h0;intro c hc;let hc:c∈(Str.ofString (toString ((m:Nat):Int))).cps.toList:=hc;rw[PySem.W.KIN.signs_num]at hc;let⟨ch,uv,e⟩:=Ù.mp hc;let r:=PyProof.Rows.digit_range (Nat.isDigit_of_mem_toDigits JL JL uv);rw[<- e];show r
def Y0  (h0:0<=n):sg (aU n)≠[]:=by
 let⟨m,Y⟩:=Ē h0;change(Str.ofString (toString ((m:Nat):Int))).cps.toList≠[];rw[PySem.W.KIN.signs_num];intro e;let h:=toDigits_len_ge 10 m;rw[List.map_eq_nil_iff.mp e]at h;show absurd h JL
def fY  (h0:0<=n) (h:n < 10 ^ 9):(aU n).length<=9:=PyProof.Rows.toString_length_le h0 JL h
def UQ  (h0:0<=n):Txt.isdecimal (aU n)=true:=by
 let h1:=Y0 h0;let h2:=j4 h0;change(decide ((aU n).length > 0) && (aU n).cps.all Unicode.isDecimal)=EA;rw[ģ];show⟨á ?_,?_⟩
 ·rw[<- wI];show List.length_pos_iff.mpr h1
 ·rw[Array.all_eq_true'];intro x hx;let:=h2 x (by simpa using hx);show(by decide +kernel:∀ c,c < 58->48<=c->Unicode.isDecimal c=EA) x JM JM
def cX:Option Int->Str
 |none => "ground"
 |some i=>aU i
def nE (o:Option Int×Int):Str:=cX o.1++one 42++aU o.2
def eG (os:List (Option Int×Int)):Str:=Str.join (one 44) (os.map nE)
def jI (a:Str×Int):Str:=a.1++one 46++aU a.2
def gJ (as:List (Str×Int)):Str:=if as=[]then "-" else Str.join (one 44) (as.map jI)
def fT (b:Bool):Str:=if b then "holds" else "loses"
def jN (b:Bool):Str:=if b then "open" else "shut"
def qS (v:Vs):List Str:=[aU v.S,aU v.brim,eG v.outs,fT v.holds,cX v.spill,gJ v.acts]
def kY (v:Vs):Str:=Str.join (one 32) ("vessel" :: qS v)
def uL (s:oP):List Str:=[aU s.1,aU s.2.1,jN s.2.2]
def m9 (s:oP):Str:=Str.join (one 32) ("spout" :: uL s)
def sA (n:Net):Str:=Str.join (one 10) (n.vs.map kY++n.sps.map m9)
def dZ (w:Str):Option Int:=if Txt.isdecimal w=EA/\w.Z<=9 then(match PySem.intText? w with
 |some n=>if aU n=w then O n else W
 |none=>W)else W
def rQ (w:Str):Option (Option Int):=if w="ground" then O W else(dZ w).map O
def o8 (w:Str):Option (Option Int×Int):=(rQ (Txt.partition w (one 42)).1).bind λ t=>(dZ (Txt.partition w (one 42)).2.2).map λ p=>(t,p)
def rR (w:Str):Option (Str×Int):=(dZ (Txt.partition w (one 46)).2.2).map λ p=>((Txt.partition w (one 46)).1,p)
def fQ {ag:Type} (f:Str->Option ag):List Str->Option (List ag)
 |[]=>O []
 |w::ws=>(f w).bind λ a=>(fQ f ws).map λ r=>a::r
def o9 (w:Str):Option (List (Str×Int)):=if w="-" then O []else fQ rR (Txt.split w (one 44))
def zT:List Str->Option Vs
 |[a,b,c,d,e,f]=>(fQ o8 (Txt.split c (one 44))).bind λ os=>(dZ a).bind λ z=>(dZ b).bind λ m=>(rQ e).bind λ s=>(o9 f).map λ as=>⟨z,m,os,decide (d="holds"),s,as⟩
 |_=>W
def EC:List Str->Option oP
 |[a,b,c]=>(dZ a).bind λ t=>(dZ b).map λ f=>(t,f,decide (c="open"))
 |_=>W
def mE (x:Str):Option (Vs ⊕ oP):=match Txt.split x (one 32)with
 |[]=>W
 |w::r=>if w="vessel" /\ r.Z=6 then(zT r).map Sum.inl else if w="spout" /\ r.Z=3 then(EC r).map Sum.inr else W
def lQ (l:List (Vs ⊕ oP)):List Vs:=l.filterMap λ x=>x.getLeft?
def iY (l:List (Vs ⊕ oP)):List oP:=l.filterMap λ x=>x.getRight?
def OM (x:Str):Option Net:=(fQ mE (Txt.split x (one 10))).map λ l=>⟨lQ l,iY l⟩
theorem sY {ag:Type}{f:Str->Option ag}{g:ag->Str}:∀ {l:List ag},(∀ a∈l,f (g a)=O a)->fQ f (l.map g)=O l
 |[],_=>rfl
 |a::l,h=>by
  rw[Ø,fQ,h a è,sY λ b hb=>h b (Õ _ hb)];rfl
def gG  (h0:0<=n) (h1:n < 10 ^ 9):dZ (aU n)=O n:=by
 unfold dZ;rw[Å ⟨UQ h0,fY h0 h1⟩,show PySem.intText? (aU n)=O n from PySem.W.KIN.num_reads h0 JM];show Å Y
def Q5  (h0:0<=n) {w:Str} (hw:∃ c∈sg w,57 < c\/c < 48):aU n≠w:=by
 intro e;let⟨c,hc,h⟩:=hw;let:=j4 h0 c (by rw[e];show hc);lia
def DL (t:Option Int):Prop:=∀ i,t=O i->0<=i/\i < 10 ^ 9
def wO  (h:DL t):rQ (cX t)=O t:=by
 cases t with
 |none=>rfl
 |some i=>
  let⟨h0,h1⟩:=h i rfl;change(if aU i="ground" then O W else(dZ (aU i)).map O)=_;rw[Ä (Q5 h0 (w :="ground") ⟨103,JK,.p JL⟩),gG h0 h1];rfl
def NB (x:Str):Prop:=∀ c∈sg x,33<=c
def NC (x:Str):Prop:=∀ c∈sg x,33<=c/\c≠44
def qI  (h0:0<=n):NC (aU n):=λ c hc=>by let:=j4 h0 c hc;lia
def CO  (ha:NC a) (hb:NC b):NC (a++b):=λ c hc=>by
 rw[jH]at hc;rcases ë.mp hc with h|h
 ·show ha c h
 ·show hb c h
def QA  (h:33<=c/\c≠44):NC (one c):=λ d hd=>by
 let:d=c:=(by simpa [sg,one]using hd);rw[this];show h
def K6  (h:DL t):NC (cX t):=by
 cases t with
 |none=>show(by decide +kernel:∀ c∈sg (Str.ofString "ground"),33<=c/\c≠44)
 |some i=>show qI (h i Y).1
theorem CP:∀ {l:List Str},(∀ a∈l,NC a)->NB (Str.join (one 44) l)
 |[],_=>λ c hc=>absurd hc (by simp[sg,Str.join,Str.empty])
 |[x],h=>λ c hc=>(h x JN c hc).1
 |x::y::r,h=>λ c hc=>by
  rw[iI]at hc;rcases ë.mp hc with h1|h1
  ·show(h x JN c h1).1
  ·rcases Ð.mp h1 with rfl|h1
   ·decide
   ·show CP (l:=y::r) (λ a ha=>h a (Õ _ ha)) c h1
structure OutIn (o:Option Int×Int):Prop where
 tg:DL o.1
 lo:0<=o.2
 hi:o.2 < 10 ^ 9
structure ActIn (a:Str×Int):Prop where
 w:a.1="open" \/ a.1="shut" \/ a.1="turn"
 lo:0<=a.2
 hi:a.2 < 10 ^ 9
def ActIn.sg  (h:ActIn a):∀ c∈Tw.sg a.1,97<=c/\c<=122:=by
 rcases h.w with e|e|e <;> rw[e] <;> decide +kernel
def Q9  (h:OutIn o):NC (nE o):=CO (CO (K6 h.tg) (QA JL)) (qI h.lo)
def QB  (h:ActIn a):NC (jI a):=CO (CO (λ c hc=>by let:=h.sg c hc;lia) (QA JL)) (qI h.lo)
def LW  (h:OutIn o):o8 (nE o)=O o:=by
 unfold o8 nE;rw[JW (λ z=>?_)]
 ·change(rQ (cX o.1)).bind _=_;rw[wO h.tg];change(dZ (aU o.2)).map _=_;rw[gG h.lo h.hi];rfl
 ·cases e:o.1 with
  |none=>rw[e]at z;show absurd z JK
  |some i=>rw[e]at z;let:=j4 (h.tg i e).1 42 z;lia
def LY  (h:ActIn a):rR (jI a)=O a:=by
 unfold rR jI;rw[JW (λ z=>by let:=h.sg _ z;lia)];change(dZ (aU a.2)).map _=_;rw[gG h.lo h.hi];rfl
def GT {os:List (Option Int×Int)} (hn:os≠[]) (h:∀ o∈os,OutIn o):Txt.split (eG os) (one 44)=os.map nE:=
 i4 (by simpa using hn) λ a ha=>by
  let⟨o,ho,Y⟩:=Ù.mp ha;show λ z=>(Q9 (h o ho) 44 z).2 Y
def SA  (hn:as≠[]):gJ as ≠ "-" := by
 unfold gJ;rw[Ä hn];let⟨a,r,Y⟩:=aek hn;intro e;let e1:=congrArg sg e;let Vf:46∈sg (Str.join (one 44) ((a::r).map jI)):=by
  let hm:46∈sg (jI a):=by unfold jI;rw[jH,jH];simp[sg,one]
  cases r with
  |nil=>show hm
  |cons b r=>rw[Ø,Ø,iI];show į _ hm
 rw[e1]at Vf;show absurd Vf JK
def EE  (h:∀ a∈as,ActIn a):o9 (gJ as)=O as:=by
 by_cases hn:as=[]
 ·subst hn;rfl
 ·unfold o9;rw[Ä (SA hn)];unfold gJ;rw[Ä hn,i4 (by simpa using hn) (λ a ha=>by
   let⟨o,ho,Y⟩:=Ù.mp ha;show λ z=>(QB (h o ho) 44 z).2 Y)]
  show sY λ a ha=>LY (h a ha)
structure VsIn (v:Vs):Prop where
 s0:0<=v.S
 s1:v.S < 10 ^ 9
 b0:0<=v.brim
 b1:v.brim < 10 ^ 9
 on:v.outs≠[]
 os:∀ o∈v.outs,OutIn o
 sp:DL v.spill
 as:∀ a∈v.acts,ActIn a
 o3:v.outs.Z<=3
 a3:v.acts.Z<=3
def MM (b:Bool):decide (fT b="holds")=b:=by ext b <;> decide +kernel
def MT (b:Bool):decide (jN b="open")=b:=by ext b <;> decide +kernel
def LV  (h:VsIn v):zT (qS v)=O v:=by
 change(fQ o8 (Txt.split (eG v.outs) (one 44))).bind (λ os=>(dZ (aU v.S)).bind λ z=>(dZ (aU v.brim)).bind λ m=>(rQ (cX v.spill)).bind λ s=>(o9 (gJ v.acts)).map λ as=>(⟨z,m,os,decide (fT v.holds="holds"),s,as⟩:Vs))=_;rw[GT h.on h.os,sY (λ o ho=>LW (h.os o ho)),gG h.s0 h.s1,gG h.b0 h.b1,wO h.sp,EE h.as];simp only[Option.bind_some,ī,MM]
def UV  (h:∀ a∈as,ActIn a):NB (gJ as):=by
 unfold gJ
 split
 ·show(by decide +kernel:∀ c∈sg (Str.ofString "-"),33<=c)
 ·show CP λ a ha=>by let⟨o,ho,Y⟩:=Ù.mp ha;show QB (h o ho)
def UU {os:List (Option Int×Int)} (h:∀ o∈os,OutIn o):NB (eG os):=CP λ a ha=>by let⟨o,ho,Y⟩:=Ù.mp ha;show Q9 (h o ho)
def NC.nb  (h:NC x):NB x:=λ c hc=>(h c hc).1
def QC  (h:VsIn v):∀ w∈("vessel":Str)::qS v,NB w:=by
 intro w hw;simp only[qS,Ð,ā,or_false]at hw;rcases hw with rfl|rfl|rfl|rfl|rfl|rfl|rfl
 ·show(by decide +kernel:∀ c∈sg (Str.ofString "vessel"),33<=c)
 ·show(qI h.s0).nb
 ·show(qI h.b0).nb
 ·show UU h.os
 ·cases v.holds
  ·show(by decide +kernel:∀ c∈sg (Str.ofString "loses"),33<=c)
  ·show(by decide +kernel:∀ c∈sg (Str.ofString "holds"),33<=c)
 ·show(K6 h.sp).nb
 ·show UV h.as
structure SptIn (s:oP):Prop where
 t0:0<=s.1
 t1:s.1 < 10 ^ 9
 f0:0<=s.2.1
 f1:s.2.1 < 10 ^ 9
def QD  (h:SptIn s):∀ w∈("spout":Str)::uL s,NB w:=by
 intro w hw;simp only[uL,Ð,ā,or_false]at hw;rcases hw with rfl|rfl|rfl|rfl
 ·show(by decide +kernel:∀ c∈sg (Str.ofString "spout"),33<=c)
 ·show(qI h.t0).nb
 ·show(qI h.f0).nb
 ·cases s.2.2
  ·show(by decide +kernel:∀ c∈sg (Str.ofString "shut"),33<=c)
  ·show(by decide +kernel:∀ c∈sg (Str.ofString "open"),33<=c)
def HC  (h:VsIn v):mE (kY v)=O (.p v):=by
 unfold mE kY;rw[i4 JN λ a ha z=>by let:=QC h a ha 32 z;lia];show(Å (show("vessel":Str)="vessel" /\ (qS v).length=6 from⟨Y,Y⟩)).trans ?_;rw[LV h];rfl
def HD  (h:SptIn s):mE (m9 s)=O (.x s):=by
 unfold mE m9;rw[i4 JN λ a ha z=>by let:=QD h a ha 32 z;lia];show(Ä (show ¬ (("spout":Str)="vessel" /\ (uL s).length=6)from λ z=>absurd (show(3:Nat)=6 from z.2) JL)).trans ?_;show(Å (show("spout":Str)="spout" /\ (uL s).length=3 from⟨Y,Y⟩)).trans ?_;change((dZ (aU s.1)).bind λ t=>(dZ (aU s.2.1)).map λ f=>((t,f,decide (jN s.2.2="open")):oP)).map Sum.inr=_;rw[gG h.t0 h.t1,gG h.f0 h.f1];simp only[Option.bind_some,ī,MT]
def K5  (h:∀ a∈l,NB a):∀ c∈sg (Str.join (one 32) l),32<=c:=by
 induction l with
 |nil=>intro c hc;show absurd hc (by simp[sg,Str.join,Str.empty])
 |cons x r ih=>
  cases r with
  |nil=>intro c hc;let:=h x JN c hc;lia
  |cons y r=>
   intro c hc;rw[iI]at hc;rcases ë.mp hc with h1|h1
   ·let:=h x JN c h1;lia
   ·rcases Ð.mp h1 with rfl|h1
    ·decide
    ·show ih (λ a ha=>h a (Õ _ ha)) c h1
theorem sZ {ag:Type}{f:Str->Option ag}:∀ {l m:List Str}{a b:List ag},fQ f l=O a->fQ f m=O b->fQ f (l++m)=O (a++b)
 |[],m,a,b,h1,h2=>by ext h1;show h2
 |x::l,m,a,b,h1,h2=>by
  rw[fQ]at h1;cases e:f x with
  |none=>rw[e]at h1;cases h1
  |some y=>
   rw[e]at h1;cases e2:fQ f l with
   |none=>rw[e2]at h1;cases h1
   |some r=>
    rw[e2]at h1;ext h1;rw[ŀ,fQ,e,sZ e2 h2];rfl
theorem qC {ag cx:Type}{f:Str->Option cx}{g:ag->Str}{k:ag->cx}:∀ {l:List ag},(∀ a∈l,f (g a)=O (k a))->fQ f (l.map g)=O (l.map k)
 |[],_=>rfl
 |a::l,h=>by
  rw[Ø,fQ,h a è,qC λ b hb=>h b (Õ _ hb)];rfl
def lP (a b):lQ (a++b)=lQ a++lQ b:=List.filterMap_append ..
def jX (a b):iY (a++b)=iY a++iY b:=List.filterMap_append ..
def V4 (l:List Vs):lQ (l.map Sum.inl)=l:=by unfold lQ;induction l with|nil=>rfl|cons a l ih=>rw[Ø,Ġ];simp[ih]
def V3 (l:List oP):lQ (l.map Sum.inr)=[]:=by unfold lQ;induction l with|nil=>rfl|cons a l ih=>rw[Ø,Ġ];simp[ih]
def OK (l:List Vs):iY (l.map Sum.inl)=[]:=by unfold iY;induction l with|nil=>rfl|cons a l ih=>rw[Ø,Ġ];simp[ih]
def OJ (l:List oP):iY (l.map Sum.inr)=l:=by unfold iY;induction l with|nil=>rfl|cons a l ih=>rw[Ø,Ġ];simp[ih]
structure NetIn (n:Net):Prop where
 ne:n.vs≠[]
 vs:∀ v∈n.vs,VsIn v
 sps:∀ s∈n.sps,SptIn s
 v12:n.vs.Z<=12
 s12:n.sps.Z<=12
def LS  (h:NetIn n):Txt.split (sA n) (one 10)=n.vs.map kY++n.sps.map m9:=
 i4 (λ z=>h.ne (List.map_eq_nil_iff.mp (List.append_eq_nil_iff.mp z).1)) λ a ha z=>by
  rcases ë.mp ha with ha|ha
  ·let⟨v,hv,Y⟩:=Ù.mp ha;let:=K5 (QC (h.vs v hv)) 10 z;lia
  ·let⟨v,hv,Y⟩:=Ù.mp ha;let:=K5 (QD (h.sps v hv)) 10 z;lia
def LX  (h:NetIn n):OM (sA n)=O n:=by
 unfold OM;rw[LS h,sZ (qC (k:=Sum.inl) λ v hv=>HC (h.vs v hv)) (qC (k:=Sum.inr) λ s hs=>HD (h.sps s hs))];change O (Net.mk _ _)=_;rw[lP,jX,V4,V3,OK,OJ,þ,ł]
theorem AJ {B:Nat}:∀ {l:List Str},(∀ a∈l,a.Z<=B)->(l.map (·.length)).sum<=l.Z * B
 |[],_=>by simp
 |a::l,h=>by
  let h1:=h a è;let h2:=AJ λ b hb=>h b (Õ _ hb);rw[Ø,ĕ,æ,Nat.succ_mul];lia
def lO  (h:∀ a∈l,a.Z<=B):(Str.join (one c) l).length<=l.Z * B+l.Z:=by
 let h1:=StrLaws.join_length_le (one c) l;let h2:=AJ h;let:(one c).length=1:=rfl;rw[this]at h1;lia
def jP  (h:∀ a∈l,a.Z<=B) (h1:sep.Z<=1) (h2:l.Z * B+l.Z<=1000000):JoinOk sep l=true:=by
 let h3:=AJ h;let h4:l.Z * sep.Z<=l.Z * 1:=afr _ h1;show agt JM
def sE  (h:DL t):(cX t).length<=9:=by
 cases t with
 |none=>decide
 |some i=>show fY (h i Y).1 (h i Y).2
def CS  (h:OutIn o):(nE o).length<=19:=by
 let h1:=sE h.tg;let h2:=fY h.lo h.hi;let h3:(one 42).length=1:=rfl;unfold nE;rw[ę,ę];lia
def QK  (h:ActIn a):a.1.length=4:=by
 rcases h.w with e|e|e <;> rw[e] <;> rfl
def CU  (h:ActIn a):(jI a).length<=19:=by
 let h1:=QK h;let h2:=fY h.lo h.hi;let h3:(one 46).length=1:=rfl;unfold jI;rw[ę,ę];lia
def FI {os:List (Option Int×Int)} (h:∀ o∈os,OutIn o) (h3:os.Z<=3):(eG os).length<=60:=by
 let:=lO (c:=44) (l:=os.map nE) (B:=19) λ a ha=>by let⟨o,ho,Y⟩:=Ù.mp ha;show CS (h o ho)
 rw[Ê]at this;unfold eG;lia
def FL  (h:∀ a∈as,ActIn a) (h3:as.Z<=3):(gJ as).length<=60:=by
 unfold gJ
 split
 ·decide
 ·let:=lO (c:=44) (l:=as.map jI) (B:=19) λ a ha=>by let⟨o,ho,Y⟩:=Ù.mp ha;show CU (h o ho)
  rw[Ê]at this;lia
def FJ (b:Bool):(fT b).length=5:=by ext b <;> rfl
def FK (b:Bool):(jN b).length=4:=by ext b <;> rfl
def FF  (h:VsIn v):∀ w∈("vessel":Str)::qS v,w.Z<=60:=by
 intro w hw;simp only[qS,Ð,ā,or_false]at hw;rcases hw with rfl|rfl|rfl|rfl|rfl|rfl|rfl
 ·decide
 ·let:=fY h.s0 h.s1;lia
 ·let:=fY h.b0 h.b1;lia
 ·show FI h.os h.o3
 ·rw[FJ];decide
 ·let:=sE h.sp;lia
 ·show FL h.as h.a3
def V0  (h:VsIn v):(kY v).length<=500:=by
 let:=lO (c:=32) (FF h);let e:(("vessel":Str)::qS v).length=7:=rfl;rw[e]at this;unfold kY;lia
def FG  (h:SptIn s):∀ w∈("spout":Str)::uL s,w.Z<=60:=by
 intro w hw;simp only[uL,Ð,ā,or_false]at hw;rcases hw with rfl|rfl|rfl|rfl
 ·decide
 ·let:=fY h.t0 h.t1;lia
 ·let:=fY h.f0 h.f1;lia
 ·rw[FK];decide
def V1  (h:SptIn s):(m9 s).length<=500:=by
 let:=lO (c:=32) (FG h);let e:(("spout":Str)::uL s).length=4:=rfl;rw[e]at this;unfold m9;lia
def tL  (h:NetIn n):∀ a∈n.vs.map kY++n.sps.map m9,a.Z<=500:=λ a ha=>by
 rcases ë.mp ha with ha|ha
 ·let⟨v,hv,Y⟩:=Ù.mp ha;show V0 (h.vs v hv)
 ·let⟨v,hv,Y⟩:=Ù.mp ha;show V1 (h.sps v hv)
def V2  (h:NetIn n):(sA n).length<=20000:=by
 let:=lO (c:=10) (tL h);rw[Ý,Ê,Ê]at this;let h1:=h.v12;let h2:=h.s12;unfold sA;lia
def pG (x:Str):Prop:=∀ c∈sg x,c < 128
def FS {w:Str} (ha:pG w) (h:Txt.isdecimal w=EA):sg w≠[]/\∀ c∈sg w,48<=c/\c<=57:=by
 let h:(decide (w.Z > 0) && w.cps.all Unicode.isDecimal)=true:=h;rw[ģ]at h;show⟨λ z=>?_,λ c hc=>?_⟩
 ·let:=ð h.1;rw[<- wI,z]at this;cases this
 ·let h2:=(Array.all_eq_true'.mp h.2) c (by simpa using hc);let h3:=ha c hc;let:∀ c,c < 128->Unicode.isDecimal c=EA->48<=c/\c<=57:=by decide +kernel
  show this c h3 h2
theorem KM:∀(cs:List Nat) (a:Nat),(∀ c∈cs,48<=c/\c<=57)->cs.foldl (λ jt c=>jt * 10+(c - 48)) a < (a+1) * 10 ^ cs.Z
 |[],a,_=>by simp
 |c::cs,a,h=>by
  let h1:=KM cs (a * 10+(c - 48)) λ d hd=>h d (Õ _ hd);let h2:=h c è;let h3:(a * 10+(c - 48)+1) * 10 ^ cs.Z<=((a+1) * 10) * 10 ^ cs.Z:=Nat.mul_le_mul_right _ JM;rw[agu,æ,Nat.pow_succ,Nat.mul_comm (10 ^ cs.Z) 10,<- Nat.mul_assoc];lia
def WW (cs:List Nat) (h:∀ c∈cs,48<=c/\c<=57):NumText.digitsVal cs < 10 ^ cs.Z:=by
 let:=KM cs 0 h;rw[ź,Nat.one_mul]at this;show this
def uI {w:Str} (ha:pG w) (h:Txt.isdecimal w=EA) (hl:w.Z<=9):∃ n:Int,PySem.intText? w=O n/\0<=n/\n < 10 ^ 9:=by
 let⟨h1,h2⟩:=FS ha h;show⟨_,intText_digits h2 h1 JM,JM,?_⟩;let:=WW (sg w) h2;let h3:10 ^ (sg w).length<=10 ^ 9:=Nat.pow_le_pow_right JL (by rw[wI];show hl);change((NumText.digitsVal (sg w):Nat):Int) < 10 ^ 9;lia
set_option tactic.hygienic true in
def ED {w:Str} (ha:pG w) (h:dZ w=O n):0<=n/\n < 10 ^ 9/\PySem.intText? w=O n/\w.Z<=9:=by
 unfold dZ at h
 split at h
 ·rename_i hc
  let⟨m,hm,h0,h1⟩:=uI ha hc.1 hc.2;rw[hm]at h;simp only at h
  split at h
  ·ext h;show⟨h0,h1,hm,hc.2⟩
  ·cases h
 ·cases h
theorem DU (c:Nat):∀ {l:List Str}{p:Str},p∈l->∀ d∈sg p,d∈sg (Str.join (one c) l)
 |[],_,h=>nomatch h
 |[x],p,h=>by rw[ã.mp h];show λ d hd=>hd
 |x::y::r,p,h=>λ d hd=>by
  rw[iI];rcases Ð.mp h with rfl|h
  ·show į _ hd
  ·show ē _ (Õ _ (DU c h d hd))
def pC  (h:pG x) (hp:p∈Txt.split x (one c)):pG p:=λ d hd=>h d (by
 let e:=StrLaws.join_split x (one c);rw[<- e];show DU c hp d hd)
def GB  (h:pG x):pG (Txt.partition x (one c)).1/\pG (Txt.partition x (one c)).2.2:=by
 let e:=StrLaws.partition_sum x (one c);constructor
 ·show λ d hd=>h d (by rw[<- e,jH,jH];show į _ (į _ hd))
 ·show λ d hd=>h d (by rw[<- e,jH,jH];show ē _ hd)
def FH :(Txt.partition x (one c)).1.length<=x.Z/\(Txt.partition x (one c)).2.2.length<=x.Z:=⟨(afs x (one c)).1,(afs x (one c)).2.2⟩
def mF {ag:Type}{f:Str->Option ag}{w:Str}{a:ag}:∀ {l:List Str}{r:List ag},fQ f l=O r->f w=O a->fQ f (l++[w])=O (r++[a]):=λ h e=>sZ h (by rw[fQ,e];rfl)
theorem mG {ag:Type}{f:Str->Option ag}{w:Str} (e:f w=W):∀ {l:List Str},w∈l->fQ f l=W
 |[],h=>nomatch h
 |x::l,h=>by
  rw[fQ];rcases Ð.mp h with rfl|h
  ·rw[e];rfl
  ·rw[mG e h];cases f x <;> rfl
def fL {ag:Type}{l:List ag}{x:ag} (h:l[i]?=O x):l.take (i+1)=l.take i++[x]:=by rw[Ħ,h];rfl
def TK :zT [a,b,c,d,e,f]=(fQ o8 (Txt.split c (one 44))).bind λ os=>(dZ a).bind λ z=>(dZ b).bind λ m=>(rQ e).bind λ s=>(o9 f).map λ as=>⟨z,m,os,decide (d="holds"),s,as⟩:=rfl
def BD :EC [a,b,c]=(dZ a).bind λ t=>(dZ b).map λ f=>(t,f,decide (c="open")):=rfl
def OL {w:Str} (ha:pG w):(Txt.isdecimal w=JJ/\dZ w=W)\/(Txt.isdecimal w=EA/\¬ w.Z<=9/\dZ w=W)\/∃ n,Txt.isdecimal w=EA/\w.Z<=9/\PySem.intText? w=O n/\0<=n/\n < 10 ^ 9/\(dZ w).isSome=decide (aU n=w):=by
 by_cases h1:Txt.isdecimal w=EA
 ·by_cases h2:w.Z<=9
  ·let⟨n,hn,h0,h9⟩:=uI ha h1 h2;show .x (.x ⟨n,h1,h2,hn,h0,h9,?_⟩);unfold dZ;rw[Å ⟨h1,h2⟩,hn]
   by_cases hw:aU n=w
   ·simp[hw]
   ·simp[hw]
  ·show .x (.p ⟨h1,h2,Ä λ z=>h2 z.2⟩)
 ·show .p ⟨by simpa using h1,Ä λ z=>h1 z.1⟩
end Tw
namespace L2
open PySem PySem.Spec PyProof.Rows
open Builtin Builtin.Str
section
end
end L2
namespace Tw
open PySem L2
def LJ (l:List Str):Nat:=(l.map λ w=>w.Z+1).sum
def DR (a:Str) (l:List Str):LJ (a::l)=a.Z+1+LJ l:=by unfold LJ;rw[Ø,ĕ]
theorem uW:∀ l:List Str,(l.map (·.length)).sum+l.Z=LJ l
 |[]=>rfl
 |a::l=>by let:=uW l;rw[DR,Ø,ĕ,æ];lia
def MI  (h:sep.Z<=1):(Str.join sep l).length<=LJ l:=by
 let h1:=StrLaws.join_length_le sep l;let h2:l.Z * sep.Z<=l.Z * 1:=afr _ h;let h3:=uW l;lia
def FO  (h:sep.Z<=1) (hw:LJ l<=1000000):JoinOk sep l=true:=by
 let h2:l.Z * sep.Z<=l.Z * 1:=afr _ h;let h3:=uW l;show agt JM
def UZ (l:List Str):l.Z<=LJ l:=by let:=uW l;lia
def DO (l:List Int):Prop:=∀ x∈l,0<=x
theorem HS:∀ {l:List Int},DO l->0<=l.sum/\∀ x∈l,x<=l.sum
 |[],_=>⟨û _,λ x h=>nomatch h⟩
 |a::l,h=>by
  let h0:=h a è;let⟨h1,h2⟩:=HS λ x hx=>h x (Õ _ hx);rw[ĕ];show⟨JM,λ x hx=>?_⟩;rcases Ð.1 hx with rfl|hx
  ·lia
  ·let:=h2 x hx;lia
theorem K4:∀ {a b c:List Int},DO a->DO b->DO c->DO (kH a b c)
 |a::as,b::bs,c::cs,ha,hb,hc=>λ x hx=>by
  rcases Ð.1 (show x∈(a+b+c)::kH as bs cs from hx)with rfl|hx
  ·let:=ha a è;let:=hb b è;let:=hc c è;lia
  ·show K4 (λ x h=>ha x (Õ _ h)) (λ x h=>hb x (Õ _ h)) (λ x h=>hc x (Õ _ h)) x hx
 |[],_,_,_,_,_=>λ x hx=>by simp[kH]at hx
 |_::_,[],_,_,_,_=>λ x hx=>by simp[kH]at hx
 |_::_,_::_,[],_,_,_=>λ x hx=>by simp[kH]at hx
def K2  (h:DO l) (i:Nat):0<=l.getD i 0:=by
 rw[ć];cases e:l[i]? with
 |none=>show û _
 |some x=>show h x (Ô e)
def Q7  (h:DO l) (i:Nat) (ha:0<=a):DO (l.set i a):=λ x hx=>by
 rcases Ť hx with hx|rfl
 ·show h x hx
 ·show ha
theorem K3:∀ {ss:List oP}{ds:List Bool}{has:List Int},(∀ s∈ss,0<=s.2.1)->DO has->DO (hV has ss ds)
 |s::ss,d::ds,has,hs,h=>by
  change DO (hV (oK has s d) ss ds);show K3 (λ s hm=>hs s (Õ _ hm)) ?_;unfold oK;let:=hs s è;let:=K2 h s.1.toNat
  split
  ·show Q7 h _ JM
  ·show h
 |[],_,_,_,h=>by cases ‹List Bool› <;> show h
 |_::_,[],_,_,h=>h
def K1  (hb:0<=v.brim) (h:0<=has):0<=dC v has:=by unfold dC;lia
def US  (ok:VOk n m v) (fu:VFull i v) (h:0<=has):∀ g∈iA v has,0<=g.2:=by
 let hb:0<=v.brim:=by let:=ok.S;let:=fu.br;lia
 let hh:=K1 hb h;let hw:1<=whole v.outs:=sS ok.ne ok.outs;intro g hg;unfold iA at hg;rcases Ð.1 hg with rfl|hg
 ·change 0<=has - dC v has;unfold dC;lia
 ·split at hg
  ·rcases ë.1 hg with hg|hg
   ·let⟨o,ho,Y⟩:=Ù.1 hg;let:=(ok.outs o ho).lo;show Int.mul_nonneg (Int.ediv_nonneg hh JM) JM
   ·split at hg
    ·cases hg
    ·let:=ã.1 hg;subst this;show Ń _ JM
  ·cases hg
def UR  (ok:VOk n m v) (fu:VFull i v) (h:0<=has):0<=jK v has:=by
 let hb:0<=v.brim:=by let:=ok.S;let:=fu.br;lia
 let hh:=K1 hb h;let hw:1<=whole v.outs:=sS ok.ne ok.outs;unfold jK
 split
 ·split
  ·show Ń _ JM
  ·show û _
 ·show hh
theorem EZ :∀(vs:List Vs) (hs:List Int) (j:Nat),(∀ v∈vs,VOk n m v)->(∀(i:Nat) (v:Vs),vs[i]?=O v->VFull (j+i) v)->DO hs->DO (fB vs hs)/\∀ g∈eP vs hs,0<=g.2
 |v::vs,h::hs,j,ok,fu,nn=>by
  let h0:=nn h è;let fv:=fu 0 v rfl;let ov:=ok v è;let⟨i1,i2⟩:=EZ vs hs (j+1) (λ v hv=>ok v (Õ _ hv)) (λ i v e=>by let:=fu (i+1) v e;rw[show j+1+i=j+(i+1) by lia];show this) λ x hx=>nn x (Õ _ hx);show⟨λ x hx=>?_,λ g hg=>?_⟩
  ·rcases Ð.1 (show x∈jK v h::fB vs hs from hx) with rfl | hx
   ·show UR ov fv h0
   ·show i1 x hx
  ·rcases ë.1 (show g∈iA v h++eP vs hs from hg) with hg | hg
   ·show US ov fv h0 g hg
   ·show i2 g hg
 |[],_,_,_,_,_=>⟨λ x hx=>by simp[fB]at hx,λ g hg=>by simp[eP]at hg⟩
 |_::_,[],_,_,_,_=>⟨λ x hx=>by simp[fB]at hx,λ g hg=>by simp[eP]at hg⟩
theorem oV (k:Option Int):∀ {g:List (Option Int×Int)},(∀ x∈g,0<=x.2)->0<=dW k g
 |[],_=>û _
 |x::g,h=>by
  let h1:=h x è;let h2:=oV k λ y hy=>h y (Õ _ hy);change 0<=(if x.1=k then x.2 else 0)+dW k g
  split <;> lia
theorem JX:∀ {ss:List oP}{ds:List Bool},(∀ s∈ss,0<=s.2.1/\s.2.1<=60)->0<=cU ss ds/\cU ss ds<=60 * ss.Z
 |s::ss,d::ds,h=>by
  let h1:=h s è;let h2:=JX (ds:=ds) λ y hy=>h y (Õ _ hy);change 0<=(if d=EA then s.2.1 else 0)+cU ss ds/\(if d=EA then s.2.1 else 0)+cU ss ds<=_;rw[æ]
  split <;> lia
 |[],_,_=>by simp[cU]
 |_::_,[],_=>by simp[cU];lia
theorem DT :∀ {l:List Int},(∀ x∈l,x<=B)->l.sum<=B * l.Z
 |[],_=>by simp
 |a::l,h=>by
  let h1:=h a è;let h2:=DT λ x hx=>h x (Õ _ hx);rw[ĕ,æ];let:B * ((l.Z+1:Nat):Int)=B * l.Z+B:=by rw[Int.natCast_add,Int.mul_add];simp
  lia
structure MomP (m:Mom):Prop where
 h:DO m.held
 c:DO m.coming
 p0:DO m.poured
 p1:∀ x∈m.poured,x<=1000
 g:0<=m.ground
 f:m.fair
 t0:0<=m.tick
 t1:m.tick<=3000
 cm:m.came<=13000 * m.tick
def MomP.small  (h:MomP m):(∀ x∈m.held,0<=x/\x < 10 ^ 9)/\(∀ x∈m.coming,0<=x/\x < 10 ^ 9)/\(0<=m.came/\m.came < 10 ^ 9)/\0<=m.ground/\m.ground < 10 ^ 9:=by
 let⟨a1,a2⟩:=HS h.h;let⟨b1,b2⟩:=HS h.c;let hf:m.came=m.held.sum+m.coming.sum+m.ground:=h.f;let:=h.g;let:=h.cm;let:=h.t1;let:=h.t0;show⟨λ x hx=>⟨h.h x hx,by let:=a2 x hx;lia⟩,λ x hx=>⟨h.c x hx,by let:=b2 x hx;lia⟩,⟨JM,JM⟩,JM,JM⟩
def lK (n:Nat):DO (cA n)/\∀ x∈cA n,x<=1000:=by
 show⟨λ x hx=>?_,λ x hx=>?_⟩ <;> (have:=ō hx;lia)
def MomP.zero (net:Net):MomP (HW net):=⟨(lK _).1,(lK _).1,(lK _).1,(lK _).2,û _,MG net,û _,by change(0:Int)<=3000;lia,by change(0:Int)<=13000 * 0;lia⟩
def MomP.step  (nok:NetOk net) (pf:NetFull net) (pw:MomOk net m) (h:MomP m) (ht:m.tick < 3000):MomP (m.step net):=by
 let nh:DO (cG net m.held m.coming m.poured m.doors):=K3 (λ s hs=>(pf.sps s hs).1) (K4 h.h h.c h.p0);let⟨n1,n2⟩:=EZ net.vs _ 0 nok.vs (λ i v e=>by rw[ź];show pf.vs i v e) nh;let ho:=JX (ds:=m.doors) pf.sps;let hp:=DT h.p1;let pl:=pw.pl;let:=nok.hi;let:=nok.sp;show⟨n1,λ x hx=>?_,(lK _).1,(lK _).2,?_,Mom.fair_step nok pw h.f,?_,?_,?_⟩
 ·let⟨k,_,Y⟩:=Ù.1 (show x∈eT _ _ from hx);show oV _ n2
 ·change 0<=m.ground+dW W _;let:=oV W n2;let:=h.g;show Int.add_nonneg h.g (oV W n2)
 ·change 0<=m.tick+1;let:=h.t0;lia
 ·change m.tick+1<=3000;lia
 ·change m.came+(m.poured.sum+cU net.sps m.doors)<=13000 * (m.tick+1);let:=h.cm;lia
def MomP.goes  (nok:NetOk net) (pf:NetFull net) (pw:MomOk net m) (h:MomP m):∀ k:Nat,m.tick+k<=3000->MomP (i8 net m k)
 |0,_=>h
 |k+1,hk=>by
  let yf:m.tick+(k:Int)+1<=3000:=by let:((k+1:Nat):Int)=(k:Int)+1:=rfl;lia
  show MomP.step nok pf (sB pw k) (MomP.goes nok pf pw h k JM) (by rw[lN];lia)
def MomP.pour  (h:MomP m) (h0:0<=a) (h1:m.poured.getD v.toNat 0+a<=1000):MomP (m.pour v a):=by
 let:=K2 h.p0 v.Q;show { h with p0:=Q7 h.p0 _ JM,p1:=λ x hx=>?_ };rcases Ť hx with hx|rfl
 ·show h.p1 x hx
 ·show h1
def Tk (l:List Int):Prop:=∀ x∈l,0<=x/\x < 10 ^ 9
theorem IV {m:Mom} (h0:0<=m.tick):∀(k:Nat),m.tick+k<=3000->∀ t∈hX net m k,0<=t.1/\t.1 < 10 ^ 9
 |0,_,t,h=>by simp[hX]at h
 |k+1,hk,t,h=>by
  let e:((k+1:Nat):Int)=(k:Int)+1:=rfl;rcases ë.1 (show t∈hX net m k++vS net (i8 net m k)from h)with h|h
  ·show IV h0 k JM t h
  ·let⟨j,_,Y⟩:=Ù.1 h;change 0<=(i8 net m k).tick/\(i8 net m k).tick < _;rw[lN];lia
theorem yF:∀(l:List (Int×Nat)) (ts:List (List Int)),(∀ t∈l,0<=t.1/\t.1 < 10 ^ 9)->(∀ x∈ts,Tk x)->∀ x∈l.foldl addTip ts,Tk x
 |[],ts,_,h=>h
 |t::l,ts,hl,h=>by
  show yF l (addTip ts t) (λ t ht=>hl t (Õ _ ht)) λ x hx=>?_;rcases Ť hx with hx|rfl
  ·show h x hx
  ·intro y hy;rcases ë.1 hy with hy|hy
   ·rw[ć]at hy;cases e:ts[t.2]? with
    |none=>rw[e]at hy;cases hy
    |some z=>rw[e]at hy;show h z (Ô e) y hy
   ·let:=ã.1 hy;subst this;show hl t è
structure Rn (S:RunS) (d:Nat):Prop where
 fu:NetFull S.net
 ok:RunOk S
 mp:MomP S.cur
 tp:∀ x∈S.tips,Tk x
 sz:RunSz S (d+12 * S.cur.tick.Q)
def Rn.zero  (nok:NetOk net) (pf:NetFull net):Rn (qA net) 0:=
 ⟨pf,JR nok,MomP.zero net,λ x hx=>by let:=ō (show x∈List.replicate _ _ from hx);subst this;show(λ y hy=>nomatch hy),by let:=TF net;show⟨ï this.rows (ß _),ï this.pre (ß _),λ l hl=>ï (this.tips l hl) (ß _)⟩⟩
def O2  (h:RunSz S a) (hb:a<=b):RunSz S b:=⟨ï h.rows hb,ï h.pre hb,λ l hl=>ï (h.tips l hl) hb⟩
def Rn.up  (h:Rn S d) (hd:d<=e):Rn S e:={ h with sz:=O2 h.sz JM }
def Rn.pour  (h:Rn S d) (h0:0<=a) (h1:S.cur.poured.getD v.toNat 0+a<=1000):Rn (S.pour v a) (d+1):=
 ⟨h.fu,h.ok.pour v a,h.mp.pour h0 h1,h.tp,by
  change RunSz (S.pour v a) (d+1+12 * S.cur.tick.Q);show O2 (h.sz.pour v a) JM⟩
def Rn.go {d k:Nat} (h:Rn S d) (h1:S.cur.tick+k<=3000):Rn (S.go k) (d+1):=
 ⟨h.fu,h.ok.go k,h.mp.goes h.ok.nok h.fu h.ok.cur k h1,yF _ _ (IV h.mp.t0 k h1) h.tp,by
  change RunSz (S.go k) (d+1+12 * (i8 S.net S.cur k).tick.toNat);let:=h.mp.t0;rw[lN];show O2 (h.sz.go h.ok.nok k) JM⟩
structure TxtS (mg:Str->Option À):Prop where
 b_str:mg "str" =W
def cK:bootBuiltins "str"=O (.q "str"):=by decide +kernel
section
end
def pZ (fo:Option Nat) (i:Nat) (v:Vs):Vs:=if fo=O i then { v with size:=v.brim+1 } else v
def fW (vs:List Vs) (fo:Option Nat):List Vs:=vs.mapIdx λ i v=>pZ fo i v
def bD (net:Net) (fo:Option Nat):Net:=⟨fW net.vs fo,net.sps⟩
def fA (vs:List Vs) (fo:Option Nat):(fW vs fo).length=vs.Z:=by unfold fW;rw[List.length_mapIdx]
def DW  (fo:Option Nat) (h:vs[i]?=O v):(fW vs fo)[i]?=O (pZ fo i v):=by unfold fW;rw[List.getElem?_mapIdx,h];rfl
end Tw
namespace L2
open PySem PySem.Spec PyProof.Rows TwZ
mutual
def iF (h:Heap):D->À->Prop
 |.int i,v=>∃ t,v=.u i t
 |.bl b,v=>v=.I b
 |.tup ds,v=>∃ a o items n,v=.y a/\h.get? a=O o/\o.cls=.q "tuple" /\ o.data=.V items n/\gF h ds items.toList
 |.non,_=>False
 |.str _,_=>False
def gF (h:Heap):List D->List À->Prop
 |[],vs=>vs=[]
 |d::ds,vs=>∃ v r,vs=v::r/\iF h d v/\gF h ds r
end
mutual
def sh:D->D
 |.int _=>.int 0
 |.bl _=>.bl JJ
 |.tup ds=>.tup (pE ds)
 |d=>d
def pE:List D->List D
 |[]=>[]
 |d::ds=>sh d::pE ds
end
mutual
def xY:D->Int
 |.int i=>hashInt i
 |.bl b=>hashInt (if b=EA then 1 else 0)
 |.tup ds=>reduceHash (Builtin.Tuple.tupleHashOf (gO ds))
 |_=>0
def gO:List D->List Int
 |[]=>[]
 |d::ds=>xY d::gO ds
end
mutual
def qM:D->Nat
 |.tup ds=>gI ds+1
 |_=>1
def gI:List D->Nat
 |[]=>0
 |d::ds=>qM d+gI ds
end
mutual
theorem iF.inj {h:Heap}:∀ {x y:D}{v:À},sh x=sh y->iF h x v->iF h y v->x=y
 |.int i,.int j,v,_,hx,hy=>by
  rw[iF]at hx hy;let⟨t,Y⟩:=hx;let⟨t',e⟩:=hy;injection e with e _;rw[e]
 |.bl i,.bl j,v,_,hx,hy=>by
  rw[iF]at hx hy;subst hx;injection hy with e;rw[e]
 |.tup ds,.tup es,v,hs,hx,hy=>by
  rw[iF]at hx hy;let⟨a,o,items,n,Y,h1,h2,h3,l1⟩:=hx;let⟨a',o',oh,n',e,Cu,Fn,Cv,l2⟩:=hy;ext e;rw[h1]at Cu;ext Cu;rw[h3]at Cv;ext Cv;rw[sh,sh]at hs;injection hs with hs;rw[gF.inj hs l1 l2]
 |.non,_,_,_,hx,_=>by rw[iF]at hx;show hx.elim
 |.str _,_,_,_,hx,_=>by rw[iF]at hx;show hx.elim
 |.int _,.bl _,_,hs,_,_=>by rw[sh,sh]at hs;cases hs
 |.int _,.tup _,_,hs,_,_=>by rw[sh,sh]at hs;cases hs
 |.int _,.non,_,_,_,hy=>by rw[iF]at hy;show hy.elim
 |.int _,.str _,_,_,_,hy=>by rw[iF]at hy;show hy.elim
 |.bl _,.int _,_,hs,_,_=>by rw[sh,sh]at hs;cases hs
 |.bl _,.tup _,_,hs,_,_=>by rw[sh,sh]at hs;cases hs
 |.bl _,.non,_,_,_,hy=>by rw[iF]at hy;show hy.elim
 |.bl _,.str _,_,_,_,hy=>by rw[iF]at hy;show hy.elim
 |.tup _,.int _,_,hs,_,_=>by rw[sh,sh]at hs;cases hs
 |.tup _,.bl _,_,hs,_,_=>by rw[sh,sh]at hs;cases hs
 |.tup _,.non,_,_,_,hy=>by rw[iF]at hy;show hy.elim
 |.tup _,.str _,_,_,_,hy=>by rw[iF]at hy;show hy.elim
theorem gF.inj {h:Heap}:∀ {x y:List D}{vs:List À},pE x=pE y->gF h x vs->gF h y vs->x=y
 |[],[],_,_,_,_=>rfl
 |[],_::_,_,hs,_,_=>by rw[pE,pE]at hs;cases hs
 |_::_,[],_,hs,_,_=>by rw[pE,pE]at hs;cases hs
 |x::xs,y::ys,vs,hs,hx,hy=>by
  rw[gF]at hx hy;let⟨v,r,Y,h1,l1⟩:=hx;let⟨v',r',e,h2,l2⟩:=hy;ext e;rw[pE,pE]at hs;injection hs with e1 e2;rw[iF.inj e1 h1 h2,gF.inj e2 l1 l2]
end
mutual
theorem iF.keeps {h h':Heap} (k:∀ a o items n,h.get? a=O o->o.data=.V items n->h'.get? a=O o):∀ {x:D}{v:À},iF h x v->iF h' x v
 |.int i,v,hx=>by rw[iF]at hx ⊢;show hx
 |.bl i,v,hx=>by rw[iF]at hx ⊢;show hx
 |.tup ds,v,hx=>by
  rw[iF]at hx ⊢;let⟨a,o,items,n,e,h1,h2,h3,l1⟩:=hx;show⟨a,o,items,n,e,k a o items n h1 h3,h2,h3,gF.keeps k l1⟩
 |.non,_,hx=>by rw[iF]at hx;show hx.elim
 |.str _,_,hx=>by rw[iF]at hx;show hx.elim
theorem gF.keeps {h h':Heap} (k:∀ a o items n,h.get? a=O o->o.data=.V items n->h'.get? a=O o):∀ {x:List D}{vs:List À},gF h x vs->gF h' x vs
 |[],_,hx=>by rw[gF]at hx ⊢;show hx
 |x::xs,vs,hx=>by
  rw[gF]at hx ⊢;let⟨v,r,e,h1,l1⟩:=hx;show⟨v,r,e,iF.keeps k h1,gF.keeps k l1⟩
end
def gF.length :∀ {x:List D}{vs:List À},gF h x vs->vs.Z=x.Z
 |[],_,hx=>by rw[gF]at hx;subst hx;rfl
 |x::xs,vs,hx=>by
  rw[gF]at hx;let⟨v,r,Y,_,l⟩:=hx;rw[æ,æ,gF.length l]
def gF.get :∀ {x:List D}{vs:List À}{j:Nat}{d:D}{v:À},gF h x vs->x[j]?=O d->vs[j]?=O v->iF h d v
 |[],_,_,_,_,_,e,_=>by simp at e
 |d::ds,vs,0,d',v,hx,e1,e2=>by
  rw[gF]at hx;let⟨v',r,Y,h1,_⟩:=hx;simp at e1 e2;subst e1 e2;show h1
 |d::ds,vs,j+1,d',v,hx,e1,e2=>by
  rw[gF]at hx;let⟨v',r,Y,_,l⟩:=hx;show gF.get l (by simpa using e1) (by simpa using e2)
section
variable {prog:Ã}
def qR {E:À->Â->Prop}{s:Â}{Q:Int->Â->Prop} (h:Q (hashInt (if b=EA then 1 else 0)) { s with toks:=s.M+1 }):wpAny (model prog w) A (pyHash (.I b)) Q E s:=by
 let hT:s.TypeIs (.I b) "bool" := rfl;let hr:=rawHash_range (if b=EA then 1 else 0);unfold pyHash;let hv:[Value.bool b].any Value.onHeap=false:=rfl;show Æ ?_;rw[cRoomFor,Ä (by rw[hv];show â)];show Ë (Æ (Ĥ hT F.slot_bool_hash.lookup ?_));change wpAny _ _ (if (O (Value.builtin "int.__hash__")==O Value.none)=EA then _ else _) Q E s;rw[Ä (by rw[agk];show â)];show Æ (Ĥ hT F.slot_bool_hash.lookup ?_);change wpAny _ _ (callSpecialIfBoundUnlessNone? (.I b) "__hash__" _ >>= _) Q E s;show Æ (adb hT F.slot_bool_hash (Ĝ F.slot_bool_hash hT F.entry_int_hash (show wpAny _ _ (do ret (<- mkInt (rawHash (if b=EA then 1 else 0)))) _ _ s from wpAny_ret_mkInt ?_) (F.args_int_hash_1 _)));change wpAny _ _ (if (decide (-(2:Int) ^ 63<=rawHash (if b=EA then 1 else 0)) && decide (rawHash (if b=EA then 1 else 0) < 2 ^ 63))=EA then _ else _) Q E _;rw[Å (by rw[á hr.1,á hr.2];rfl)];show Ë h
theorem pW:∀(a b:List D),gO (a++b)=gO a++gO b
 |[],b=>by rw[gO];rfl
 |d::a,b=>by rw[ŀ,gO,gO,pW a b];rfl
theorem oM:∀(a b:List D),gI (a++b)=gI a+gI b
 |[],b=>by rw[gI,ł,ź]
 |d::a,b=>by rw[ŀ,gI,gI,oM a b,Ź]
def tO:∀(ds:List D) (d:D),d∈ds->d.depth<=dF ds:=by
 intro ds
 induction ds with
 |nil=>intro d h;cases h
 |cons e r ih=>
  intro d h;rw[dF];rcases Ð.1 h with rfl|h
  ·lia
  ·let:=ih d h;lia
def SI (prog:Ã) (w:World) (d:D):Prop:=∀(A:Around) (E:À->Â->Prop) (s:Â) (v:À) (Q:Int->Â->Prop),A.R+d.depth < cLine->iF s.heap d v->Q (xY d) { s with toks:=s.M+qM d }->wpAny (model prog w) A (pyHash v) Q E s
set_option tactic.hygienic true in
mutual
theorem R8:∀(d:D),SI prog w d
 |.int i=>λ A E s v Q _ hx h=>by
  rw[iF]at hx;let⟨t,Y⟩:=hx;rw[xY,qM]at h
  ·show wpAny_pyHash_int h
  ·intros;contradiction
 |.bl b=>λ A E s v Q _ hx h=>by
  rw[iF]at hx;subst hx;rw[xY,qM]at h
  ·show qR h
  ·intros;contradiction
 |.tup ds=>λ A E s v Q hu hx h=>by
  let all:=KG ds;rw[iF]at hx;let⟨a,o,items,n,Y,ho,hc,hd,hi⟩:=hx;let hT:s.TypeIs (.y a) "tuple" :=⟨o,ho,hc⟩;let vb:D.depth (.v ds)=dF ds+1:=by rw[D.depth]
  rw[vb]at hu;rw[xY,qM]at h;unfold pyHash
  first|unfold pyHashByItsType|skip
  first|show Æ (wpAny_cRoomFor_or (.inr JM) ?_)|skip
  show Æ (Ĥ hT F.slot_tuple_hash.lookup ?_);change wpAny _ _ (if (O (Value.builtin "tuple.__hash__")==O Value.none)=EA then _ else _) Q E s;rw[Ä (by rw[agk];show â)];show Æ (Ĥ hT F.slot_tuple_hash.lookup ?_);change wpAny _ _ (callSpecialIfBoundUnlessNone? (.y a) "__hash__" _ >>= _) Q E s;show Æ (adb hT F.slot_tuple_hash (Ĝ F.slot_tuple_hash hT F.entry_tuple_hash ?_ (F.args_tuple_hash_1 _)));change wpAny _ _ (Builtin.Tuple.tupleItemsOf (.y a) >>= _) _ _ s;show Æ (wpAny_tupleItemsOf ho hd (Æ ?_));rw[<- Ŀ];show agq _ (λ js (b:Array Int) s'=>∃ done left,ds=done++left/\gF s.heap left js/\b.toList=gO done/\s'={ s with toks:=s.M+gI done }) _ ?_ ?_ _ _ ⟨[],ds,Y,hi,by rw[gO],by rw[gI];rfl⟩
  ·rintro x js b s' zQ;let⟨done,left,Y,hl,hb,Y⟩:=zQ;cases left with
   |nil=>rw[gF]at hl;cases hl
   |cons k Me=>
    rw[gF]at hl;let⟨v',r',e,h1,l1⟩:=hl;ext e;let hk:=all k JN;let hdk:=tO (done++k::Me) k JN;let fin:∃ zx Ci,done++k::Me=zx++Ci/\gF s.heap Ci js/\(b.push (xY k)).toList=gO zx/\({ s with toks:=s.M+gI done+qM k }:Â)={ s with toks:=s.M+gI zx }:=
     ⟨done++[k],Me,JN,l1,by rw[Array.toList_push,hb,pW,gO,gO],by rw[oM,gI,gI,Nat.add_zero,Ź]⟩
    show Æ (hk _ _ _ _ _ ?_ h1 ?_)
    ·let ow:A.in1.R=A.R+1:=rfl;lia
    ·first
      |show Ë fin
      |show Æ (Ë (Ë fin))
  ·rintro b s' zQ;let⟨done,left,Y,hl,hb,Y⟩:=zQ;cases left with
   |cons k Me=>rw[gF]at hl;let⟨_,_,e,_⟩:=hl;cases e
   |nil=>
    rw[þ]at h;change wpAny _ _ (retInt (Builtin.Tuple.tupleHashOf b.toList)) _ _ _;rw[hb];show wpAny_ret_mkInt ?_;change wpAny _ _ (if (decide (-(2:Int) ^ 63<=Builtin.Tuple.tupleHashOf (gO done)) && decide (Builtin.Tuple.tupleHashOf (gO done) < 2 ^ 63))=EA then _ else _) Q E _;unfold reduceHash at h
    by_cases hr:(decide (-(2:Int) ^ 63<=Builtin.Tuple.tupleHashOf (gO done)) && decide (Builtin.Tuple.tupleHashOf (gO done) < 2 ^ 63))=EA
    ·rw[Å hr]at h ⊢;show Ë (by simpa [Ź]using h)
    ·rw[Ä hr]at h ⊢;show Æ (Ė (Ë (by simpa [Ź]using h)))
 |.non=>λ _ _ _ _ _ _ hx _=>by rw[iF]at hx;show hx.elim
 |.str _=>λ _ _ _ _ _ _ hx _=>by rw[iF]at hx;show hx.elim
theorem KG:∀(ds:List D),∀ d∈ds,SI prog w d
 |[],_,h=>(nomatch h)
 |e::es,d,h=>by
  let h0:=R8 e;let h1:=KG es;rcases Ð.1 h with z|z
  ·rw[z];show h0
  ·show h1 d z
end
end
noncomputable instance decD:DecidableEq D:=λ a b=>Classical.propDecidable (a=b)
set_option tactic.hygienic true in
mutual
theorem RW:∀(d:D),(sh d).depth=d.depth
 |.int _=>by rw[sh,D.depth,D.depth] <;> (intros;contradiction)
 |.bl _=>by rw[sh,D.depth,D.depth] <;> (intros;contradiction)
 |.tup ds=>by rw[sh,D.depth,D.depth,A9 ds]
 |.non=>by rw[sh] <;> (intros;contradiction)
 |.str _=>by rw[sh] <;> (intros;contradiction)
theorem A9:∀(ds:List D),dF (pE ds)=dF ds
 |[]=>by rw[pE]
 |d::ds=>by rw[pE,dF,dF,RW d,A9 ds]
end
theorem B1:∀(ds:List D),(pE ds).length=ds.Z
 |[]=>by rw[pE]
 |d::ds=>by rw[pE,æ,æ,B1 ds]
def EqOk (x y:D):Prop:=∀(A:Around) (s:Â) (u v:À),A.R+x.depth < cLine->iF s.heap x u->iF s.heap y v->SeqAt.EqAt A s u v (decide (x=y))
mutual
theorem eq_D:∀(x y:D),sh x=sh y->EqOk x y
 |.int i,.int j,_=>λ A s u v _ hx hy=>by
  rw[iF]at hx hy;let⟨t,Y⟩:=hx;let⟨t',Y⟩:=hy;let:=afx (A:=A) (s:=s) i t j t';let e:decide (D.int i=D.int j)=(i==j):=by
   rw[Ī,Ř,ş,D.int.injEq]
  rw[e];show this
 |.bl i,.bl j,_=>λ A s u v _ hx hy=>by
  rw[iF]at hx hy;subst hx hy;let:=afh (A:=A) (s:=s) i j;let e:decide (D.bl i=D.bl j)=(i==j):=by
   rw[Ī,Ř,ş,D.bl.injEq]
  rw[e];show this
 |.tup ds,.tup es,hs=>λ A s u v hu hx hy=>by
  rw[sh,sh]at hs;injection hs with hs;let all:=WK ds es hs;let hl:ds.Z=es.Z:=by rw[<- B1 ds,hs,B1]
  let Px:=λ(a:À) (h1:iF s.heap (.tup ds) a) (h2:iF s.heap (.tup es) a)=>iF.inj (by rw[sh,sh,hs]) h1 h2;let Dj:=hx;let Ln:=hy;rw[iF]at hx hy;let⟨a,o,items,n,Y,h1,h2,h3,l1⟩:=hx;let⟨b,o',oh,n',Y,Cu,Fn,Cv,l2⟩:=hy
  by_cases yh:a=b
  ·subst yh;rw[á (Px _ Dj Ln)];show ĩ _
  ·let vb:D.depth (.v ds)=dF ds+1:=by rw[D.depth]
   rw[vb]at hu;let ow:A.in1.R=A.R+1:=rfl;let k1:=l1.Z;let k2:=l2.Z;let z1:items.S=ds.Z:=by rw[<- k1];simp
   let z2:oh.S=es.Z:=by rw[<- k2];simp
   let:=SeqAt.RcAt.tuples (A:=A) (s:=s) (e:=λ j=>match ds[j]?,es[j]? with | some x,O y=>decide (x=y) | _,_=>EA) (show s.heap.IsTuple a items from ⟨o,h1,h2,n,h3⟩) (show s.heap.IsTuple b oh from ⟨o',Cu,Fn,n',Cv⟩) JM λ j j1 j2=>by
    let i1:j < ds.Z:=by lia
    let i2:j < es.Z:=by lia
    rw[Ğ i1,Ğ i2];let hd:=tO ds ds[j] (ı i1);show all j ds[j] es[j] JN JN A.in1 s items[j] oh[j] JM (gF.get (j:=j) l1 JN JN) (gF.get (j:=j) l2 JN JN)
   let e5:((List.range (min items.size oh.S)).all (λ j=>match ds[j]?,es[j]? with|some x,O y=>decide (x=y)|_,_=>EA) && items.S==oh.S)=decide (D.tup ds=D.tup es):=by
    let e0:(items.S==oh.S)=true:=by rw[ş];lia
    rw[e0,Bool.and_true,Ī,Ř,Ĕ,D.tup.injEq];constructor
    ·intro h;apply List.ext_getElem hl;intro j j1 j2;let:=h j (Ĳ.mpr JM);rw[Ğ j1,Ğ j2]at this;show ð this
    ·rintro rfl j hj;cases ds[j]? with
     |none=>rfl
     |some x=>show á Y
   rw[e5]at this;show af0 yh this
 |.non,_,_=>λ _ _ _ _ _ hx _=>by rw[iF]at hx;show hx.elim
 |.str _,_,_=>λ _ _ _ _ _ hx _=>by rw[iF]at hx;show hx.elim
 |.int _,.bl _,hs=>by rw[sh,sh]at hs;cases hs
 |.int _,.tup _,hs=>by rw[sh,sh]at hs;cases hs
 |.int _,.non,_=>λ _ _ _ _ _ _ hy=>by rw[iF]at hy;show hy.elim
 |.int _,.str _,_=>λ _ _ _ _ _ _ hy=>by rw[iF]at hy;show hy.elim
 |.bl _,.int _,hs=>by rw[sh,sh]at hs;cases hs
 |.bl _,.tup _,hs=>by rw[sh,sh]at hs;cases hs
 |.bl _,.non,_=>λ _ _ _ _ _ _ hy=>by rw[iF]at hy;show hy.elim
 |.bl _,.str _,_=>λ _ _ _ _ _ _ hy=>by rw[iF]at hy;show hy.elim
 |.tup _,.int _,hs=>by rw[sh,sh]at hs;cases hs
 |.tup _,.bl _,hs=>by rw[sh,sh]at hs;cases hs
 |.tup _,.non,_=>λ _ _ _ _ _ _ hy=>by rw[iF]at hy;show hy.elim
 |.tup _,.str _,_=>λ _ _ _ _ _ _ hy=>by rw[iF]at hy;show hy.elim
theorem WK:∀(ds es:List D),pE ds=pE es->∀(j:Nat) (x y:D),ds[j]?=O x->es[j]?=O y->EqOk x y
 |[],_,_,j,x,y,h,_=>by simp at h
 |_::_,[],_,j,x,y,_,h=>by simp at h
 |d::ds,e::es,hs,j,x,y,h1,h2=>by
  rw[pE,pE]at hs;injection hs with s1 s2;let k0:=eq_D d e s1;let k1:=WK ds es s2;cases j with
  |zero=>simp at h1 h2;rw[<- h1,<- h2];show k0
  |succ j=>show k1 j x y (by simpa using h1) (by simpa using h2)
end
def L9 (prog:Ã) (w:World) (d:D):Prop:=∀(n:Nat) (A:Around) (E:À->Â->Prop) (s:Â) (v:À) (Q:Bool->Â->Prop),d.depth<=n->iF s.heap d v->Q EA s->wpAny (model prog w) A (eqIsQuiet n v) Q E s
section
variable {prog:Ã}
mutual
theorem JS:∀(d:D),L9 prog w d
 |.int i=>λ n A E s v Q _ hx h=>by
  rw[iF]at hx;let⟨t,Y⟩:=hx;rw[eqIsQuiet_byValue n (v:=.u i t) rfl];show Ë h
 |.bl b=>λ n A E s v Q _ hx h=>by
  rw[iF]at hx;subst hx;rw[eqIsQuiet_byValue n (v:=.I b) rfl];show Ë h
 |.tup ds=>λ n A E s v Q hn hx h=>by
  let all:=EH ds;let vb:D.depth (.v ds)=dF ds+1:=by rw[D.depth]
  rw[vb]at hn;rw[iF]at hx;let⟨a,o,items,m,Y,ho,hc,hd,hi⟩:=hx;let hT:s.TypeIs (.y a) "tuple" :=⟨o,ho,hc⟩;obtain⟨n',rfl⟩:∃ n',n=n'+1:=⟨n - 1,JM⟩;unfold eqIsQuiet;show Æ (Ĥ hT F.slot_tuple_eq.lookup ?_);change wpAny _ _ (isInstance (.y a) (.q "tuple") >>= _) _ _ s;show Æ (ago hT isSubtype_tuple_tuple ?_);simp only[agz,ě,if_false];show Æ (Ā ho hd (Æ ?_));change wpAny _ _ (forIn items _ _) _ _ s;rw[<- Ŀ];show agq _ (λ js r s'=>r.1=W/\s'=s/\∃ left,gF s.heap left js/\∀ d∈left,d∈ds) _ ?_ ?_ _ _ ⟨Y,Y,ds,hi,λ _ z=>z⟩
  ·rintro v js r s' zQ;let⟨hr,Y,left,hl,zm⟩:=zQ;cases left with
   |nil=>rw[gF]at hl;cases hl
   |cons k ks=>
    rw[gF]at hl;let⟨v',r',e,h1,l1⟩:=hl;ext e;let hk:=zm k JN;show Æ (all k hk n' _ _ _ _ _ (by let:=tO ds k hk;lia) h1 ?_);simp only[agz,ě,if_false];show Ë ⟨Y,Y,ks,l1,λ d hd=>zm d (Õ _ hd)⟩
  ·rintro⟨r1,r2⟩ s' ⟨hr,rfl,_⟩;simp only at hr;subst hr;show Ë h
 |.non=>λ _ _ _ _ _ _ _ hx _=>by rw[iF]at hx;show hx.elim
 |.str _=>λ _ _ _ _ _ _ _ hx _=>by rw[iF]at hx;show hx.elim
theorem EH:∀(ds:List D),∀ d∈ds,L9 prog w d
 |[],_,h=>(nomatch h)
 |e::es,d,h=>by
  let h0:=JS e;let h1:=EH es;rcases Ð.1 h with z|z
  ·rw[z];show h0
  ·show h1 d z
end
def gQ (prog:Ã) (w:World) (S:D):HeapKind prog w D where
 is:=λ h d a=>sh d=S/\d.depth<=7/\iF h d (.y a)
 hash:=xY
 draws:=qM
 room:=λ A=>A.R+8 < cLine
 inj:=λ hx hy=>iF.inj (hx.1.trans hy.1.symm) hx.2.2 hy.2.2
 keeps:=λ {h h' k a d o es ep} x ho hd hs=>⟨x.1,x.2.1,iF.keeps (λ a' o' items n h1 h3=>by
  by_cases e:a'=d
  ·subst e;rw[ho]at h1;ext h1;rw[hd]at h3;cases h3
  ·show(hs.2 a' e).trans h1) x.2.2⟩
 pyHash:=λ {A E s k a Q} hu hk h=>R8 k A E s _ Q (by let:=hk.2.1;lia) hk.2.2 h
 eqBool:=λ {A E s x y a b Q} hu hx hy h=>eq_D x y (hx.1.trans hy.1.symm) A s _ _ (by let:=hx.2.1;lia) hx.2.2 hy.2.2 prog w E Q h
 quiet:=λ {A E s k a Q} hk h=>JS k 8 A E s _ Q (by let:=hk.2.1;lia) hk.2.2 h
end
mutual
def gZ:D->Prop
 |.int _=>True
 |.bl _=>True
 |.tup ds=>eZ ds
 |.non=>False
 |.str _=>False
def eZ:List D->Prop
 |[]=>True
 |d::ds=>gZ d/\eZ ds
end
section
mutual
theorem Is.toU (I:Inv X gu σ H s):∀(d:D) (v:V) (u:À),gZ d->Is X.K H d v->bE v u->iF s.heap d u
 |.int i,v,u,_,h,r=>by rw[Is]at h;subst h;rw[iF];show r
 |.bl b,v,u,_,h,r=>by rw[Is]at h;subst h;rw[iF];show r
 |.tup ds,v,u,p,h,r=>by
  rw[Is]at h;let⟨a,xs,Y,q,l⟩:=h;ext r;let⟨its,rv,⟨o,e,c,n,d⟩,_⟩:=I.tuple q;rw[iF];show⟨a,o,its.J,n,Y,e,c,d,by simpa using IsL.toU I ds xs its (by rw[gZ]at p;show p) l rv⟩
 |.non,_,_,p,_,_=>by rw[gZ]at p;show p.elim
 |.str _,_,_,p,_,_=>by rw[gZ]at p;show p.elim
theorem IsL.toU (I:Inv X gu σ H s):∀(ds:List D) (vs:List V) (us:List À),eZ ds->IsL X.K H ds vs->bN vs us->gF s.heap ds us
 |[],vs,us,_,h,r=>by rw[IsL]at h;subst h;ext r;rw[gF]
 |d::ds,vs,us,p,h,r=>by
  rw[IsL]at h;let⟨x,xs,Y,h1,h2⟩:=h;rw[eZ]at p;cases r with
  |cons r1 r2=>
   rw[gF];show⟨_,_,Y,Is.toU I d x _ p.1 h1 r1,IsL.toU I ds xs _ p.2 h2 r2⟩
end
end
structure KeyD (K:Ç) (H:Hp) (S:D) (k:D) (v:V):Prop where
 sh:sh k=S
 dp:k.depth<=7
 pl:gZ k
 is:Is K H k v
 tup:∃ b,v=.y b
def KeyD.mono  (h:KeyD K H S k v) (t:bU K H H'):KeyD K H' S k v:=⟨h.sh,h.dp,h.pl,Ì t _ _ h.is,h.tup⟩
def A8 (P:Ã) (w:World) (S:D) (a:Á) (xs:List (D×Á×À)) (h:Heap):Prop:=
 ∃ o es ep,h.get? a=O o/\o.ExactDict/\o.data=.dict es ep/\es.toList=xs.map (entryOfKey (gQ P w S))/\(xs.map (·.1)).Nodup
abbrev KD (K:Ç) (H:Hp) (S:D):List (D×V)->List (D×Á×À)->Prop:=Paired λ p q=>p.1=q.1/\KeyD K H S p.1 (.y q.2.1)/\bE p.2 q.2.2
def fP (P:Ã) (w:World) (K:Ç) (H:Hp) (a:Á) (S:D) (ii:List (D×V)):Prop:=
 (H a=O (.dK [])/\ii=[])\/∃ xs,H a=O (.ext (A8 P w S a xs))/\(a==sysModules)=JJ/\ii.Z<=sizeLine/\KD K H S ii xs
section
variable {H H':Hp}{a:Á}{S:D}{ii:List (D×V)}
def KD.mono  (h:KD K H S ii xs) (t:bU K H H'):KD K H' S ii xs:=Į h λ p q z=>⟨z.1,z.2.1.mono t,z.2.2⟩
def fP.mono (h:fP P w K H a S ii) (t:bU K H H') (e:∀ o,H a=O o->H' a=O o):fP P w K H' a S ii:=by
 rcases h with⟨h,z⟩|⟨xs,h,y,z,p⟩
 ·show .p ⟨e _ h,z⟩
 ·show .x ⟨xs,e _ h,y,z,KD.mono p t⟩
def fP.same (h:fP P w K H a S ii) (m:aI H H'):fP P w K H' a S ii:=h.mono m.ts λ o e=>m _ _ e
def fP.mut (h:fP P w K H a S ii):lX (H a):=by
 rcases h with⟨h,_⟩|⟨_,h,_⟩ <;> (rw[h];show trivial)
def fP.new (h:H a=Option.some (.dK [])):fP P w K H a S []:=.p ⟨h,rfl⟩
set_option tactic.hygienic true in
def KD.val {xs:List (D×Á×À)} (k:D):∀ {ii:List (D×V)},KD K H S ii xs->mS (dQ ii k) ((atKey xs k).map (·.2))
 |[],h=>by ext h;show trivial
 |p::r,h=>by
  cases h with
  |cons h1 h2=>
   rename_i q m
   by_cases e:p.1=k
   ·rw[fJ e];let:atKey (q::m) k=Option.some q.2:=by unfold atKey;rw[ae2 (by rw[<- h1.1];show á e)];rfl
    rw[this];show h1.2.2
   ·rw[fK e];let:atKey (q::m) k=atKey m k:=by unfold atKey;rw[ae3 (by rw[<- h1.1];simpa using e)]
    rw[this];show KD.val k h2
set_option tactic.hygienic true in
def KD.put  (h:KD K H S ii xs) (hk:KeyD K H S k (.y b)) (r:bE v u):KD K H S (jE ii k v) (storedH xs k b u):=by
 unfold jE storedH;let e:(ii.any λ kv=>decide (kv.1=k))=(atKey xs k).isSome:=by
  rw[lD,(KD.val k h).isSome_eq,ŗ]
 rw[e]
 by_cases c:(atKey xs k).isSome=EA
 ·rw[Å c,Å c];clear e c
  induction h with
  |nil=>show .nil
  |cons h1 h2 ih=>
   rename_i p q l m
   show .cons ?_ ih;unfold putAt;dsimp only
   by_cases z:p.1=k
   ·rw[Å z,Å (by rw[<- h1.1];show z)];show⟨h1.1,h1.2.1,r⟩
   ·rw[Ä z,Ä (by rw[<- h1.1];show z)];show h1
 ·rw[Ä c,Ä c];clear e c
  induction h with
  |nil=>show .B ⟨Y,hk,r⟩ .nil
  |cons h1 h2 ih=>show .B h1 ih
end
section
variable {X:Cx}{gu:List (Á×Obj)}{σ:St}{H:Hp}{s:Â}{a:Á}{S:D}{ii:List (D×V)}
def KD.keys (I:Inv X gu σ H s):∀ {ii:List (D×V)}{xs:List (D×Á×À)},KD X.K H S ii xs->∀ x∈xs,(gQ X.prog X.w S).is s.heap x.1 x.2.1
 |_,_,.nil,x,hx=>by simp at hx
 |_,_,.cons h1 h2,x,hx=>by
  rcases Ð.mp hx with e|hx
  ·subst e;let k:=h1.2.1;rw[h1.1]at k;show⟨k.sh,k.dp,Is.toU I _ _ _ k.pl k.is Y⟩
  ·show KD.keys I h2 x hx
def fP.at (I:Inv X gu σ H s) (g:fP X.prog X.w X.K H a S ii):(a==sysModules)=JJ/\ii.Z<=sizeLine/\∃ xs,KD X.K H S ii xs/\s.heap.DictOfH (gQ X.prog X.w S) a xs:=by
 rcases g with⟨e,rfl⟩|⟨xs,e,y,z,p⟩
 ·let⟨z,hd,vs,rel,o,es,ep,h1,h2,h3,_,h4,_⟩:=WM I.hok e;ext rel;let e0:es.toList=[]:=by
   revert h4;generalize es.toList=l;intro h4;ext h4;rfl
  show⟨hd,ß _,[],.nil,o,es,ep,h1,h2,h3,by rw[e0];rfl,λ x hx=>(nomatch hx),List.nodup_nil⟩
 ·let⟨⟨o,es,ep,h1,h2,h3,h4,h5⟩,_⟩:=(show dB X.prog X.w H s.heap a (.ext (A8 X.prog X.w S a xs))from I.hok a _ e);show⟨y,z,xs,p,o,es,ep,h1,h2,h3,h4,KD.keys I p,h5⟩
def KeyD.at (I:Inv X gu σ H s) (h:KeyD X.K H S k (.y b)):(gQ X.prog X.w S).is s.heap k b:=⟨h.sh,h.dp,Is.toU I _ _ _ h.pl h.is rfl⟩
def ZW (P:Ã) (w:World) (K:Ç):R2:=λ x y H Q=>∃ a S ii k,y=.y a/\fP P w K H a S ii/\KeyD K H S k x/\Q (.bl (dQ ii k).isSome) H
def XX (hu:X.A.R+64 < cLine):jJ X (compareOp .In) (ZW X.prog X.w X.K):=by
 intro gu s σ H x y v u Q I rx ry h;let⟨a,S,ii,k,Y,g,hk,q⟩:=h;let⟨b,Y⟩:=hk.tup;ext rx;ext ry;let⟨hd,hz,xs,p,dd⟩:=g.at I;show wpAny_in_heap (knd:=gQ X.prog X.w S) (show X.A.in1.R+8 < cLine by change X.A.R+1+8 < cLine;lia) (hk.at I) hd dd ?_;let e:=(KD.val k p).isSome_eq;rw[ŗ]at e;rw[<- e];show⟨.bl _,H,I.tok _,Y,q⟩
def ZT (P:Ã) (w:World) (K:Ç):R2:=λ x y H Q=>∃ a S ii k v,x=.y a/\fP P w K H a S ii/\KeyD K H S k y/\dQ ii k=O v/\Q v H
def ix_D (hu:X.A.R+64 < cLine):NK X (ZT X.prog X.w X.K):=by
 intro value slice gu s σ H x y v u Q I rx ry h hs;let⟨a,S,ii,k,z,Y,g,hk,hv,q⟩:=h;let⟨b,Y⟩:=hk.tup;ext rx;ext ry;let⟨hd,hz,xs,p,dd⟩:=g.at I;let⟨w',hw,uw⟩:=mS.some_of (v:=z) (o:=(atKey xs k).map (·.2)) (by rw[<- hv];show KD.val k p);let⟨pp,hp,rk⟩:=ç.mp hw;show ae0 (x:=w') dd.typeIs PySem.F.slot_dict_getitem.lookup
  (wpAny_getItem_heap (knd:=gQ X.prog X.w S) (Q:=λ r s'=>r=w'/\EP X gu σ Q r s') (show X.A.in1.R+8 < cLine by change X.A.R+1+8 < cLine;lia) (hk.at I) dd hp ⟨rk,?_⟩) hs
 rw[rk];show⟨z,H,I.tok _,uw,q⟩
def OG (P:Ã) (w:World) (K:Ç) (td ty tv:TE):TS:=λ D σ H=>tv σ H λ v H1=>td σ H1 λ x H2=>ty σ H2 λ y H3=>∃ a S ii k,x=.y a/\fP P w K H3 a S ii/\KeyD K H3 S k y/\ii.Z < sizeLine/\
 ∀ H4,cI a H3 H4->fP P w K H4 a S (jE ii k v)->D.nx σ H4
def P1  (hu:X.A.R+64 < cLine) (ho:PE X o td) (hi:PE X i ty) (hv:PE X value tv) (hs:swapsWith value (O (.Y o i pos')) pos.line X.env=pure JJ) :
  PS X (.Assign [.Y o i pos'] value pos) (OG X.prog X.w X.K td ty tv):=by
 intro gu s σ H D I h;show wpAny_Assign_Subscript (dG (hv gu s σ H _ I h) λ r s1 ⟨v,H1,I1,rv,q1⟩=>dG (ho gu s1 σ H1 _ I1 q1) λ u s2 ⟨x,H2,I2,rx,q2⟩=>dG (hi gu s2 σ H2 _ I2 q2) λ iv s3 ⟨y,H3,I3,ry,a,S,ii,k,ex,g,hk,hl,q3⟩=>?_) hs;subst ex;obtain rfl:u=Value.ref a:=rx;let⟨b,Y⟩:=hk.tup;ext ry;let⟨hd,hz,xs,p,dd⟩:=g.at I3;let wc:xs.Z<=sizeLine:=by rw[<- Ĺ p];show hz
 let Dt:(jE ii k v).length<=sizeLine:=by let:=iC ii k v;lia
 show wpAny_setItem_heap (knd:=gQ X.prog X.w S) (hsz:=wc) (show X.A.in1.R+8 < cLine by change X.A.R+1+8 < cLine;lia) (hk.at I3) dd λ h' Bw yg=>?_;let⟨qo,es,ep,hq,h2,h3,h4,_,h5⟩:=Bw;let mu:=g.mut;let bt:cI a H3 (upd H3 a (.ext (A8 X.prog X.w S a (storedH xs k b r)))):=Û;let ts:=bt.ts (K:=X.K) mu;show⟨σ,_,vF I3 mu yg ⟨qo,hq⟩ (ob:=.ext (A8 X.prog X.w S a (storedH xs k b r))) ⟨⟨qo,es,ep,hq,h2,h3,h4,h5⟩,⟨qo,hq⟩,λ h1 Fn ⟨o',Co,Cp,z1,z⟩ kk=>⟨o',Co,Cp,kk _ z1,z⟩⟩,q3 _ bt (.x ⟨_,aD,hd,Dt,KD.mono (KD.put p hk rv) ts⟩)⟩
def JZ {P:Ã} (hP:X.prog=P) (hw:X.w=w) (hK:X.K=K) (hu:X.A.R+64 < cLine):jJ X (compareOp .In) (ZW P w K):=by subst hP hw hK;show XX hu
def WC {P:Ã} (hP:X.prog=P) (hw:X.w=w) (hK:X.K=K) (hu:X.A.R+64 < cLine):NK X (ZT P w K):=by subst hP hw hK;show ix_D hu
def tD {P:Ã}{td ty tv:TE} (hP:X.prog=P) (hw:X.w=w) (hK:X.K=K) (hu:X.A.R+64 < cLine) (ho:PE X o td) (hi:PE X i ty) (hv:PE X value tv)
  (hs:swapsWith value (O (.Y o i pos')) pos.line X.env=pure JJ):PS X (.Assign [.Y o i pos'] value pos) (OG P w K td ty tv):=by subst hP hw hK;show P1 hu ho hi hv hs
end
end L2
namespace Tw
open PySem L2
structure Sta where
 held:List Int
 coming:List Int
 doors:List Bool
def DX (net:Net):Sta:=⟨cA net.vs.Z,cA net.vs.Z,net.sps.map (·.2.2)⟩
def Sta.tk (net:Net) (s:Sta):Tick:=l7 net s.held s.coming (cA net.vs.Z) s.doors
set_option tactic.hygienic true in
def Sta.next (net:Net) (s:Sta):Sta:=⟨(s.tk net).held,(s.tk net).coming,(s.tk net).doors⟩
set_option tactic.hygienic true in
def bQ (net:Net):Nat->Sta
 |0=>DX net
 |t+1=>(bQ net t).next net
def fX (s:Sta):L2.D:=yG s.held s.coming s.doors
def jL (net:Net):Nat->List (L2.D×V)
 |0=>[]
 |t+1=>jE (jL net t) (fX (bQ net t)) (.u (t:Int))
def EB (net:Net) (t:Nat):Option V:=dQ (jL net t) (fX (bQ net t))
def YQ (net:Net) (t:Nat) (j:Int):Prop:=t<=2000/\EB net t=O (.u j)/\∀ i,i < t->EB net i=W
def YT (net:Net):Prop:=∀ i,i<=2000->EB net i=W
theorem E5 (net:Net):∀ t,(jL net t).length<=t
 |0=>Í _
 |t+1=>by
  let h1:=iC (jL net t) (fX (bQ net t)) (.u (t:Int));let h2:=E5 net t;change(jE _ _ _).length<=_;lia
theorem E6 (net:Net) (k:L2.D) (v:V):∀ t,dQ (jL net t) k=O v->∃ j,v=.u j
 |0,h=>by cases h
 |t+1,h=>by
  rw[show jL net (t+1)=jE (jL net t) (fX (bQ net t)) (.u (t:Int))from rfl,vK]at h
  by_cases e:k=fX (bQ net t)
  ·rw[Å e]at h;ext h;show⟨_,Y⟩
  ·rw[Ä e]at h;show E6 net k v t h
def jA (n:Nat):(cA n).length=n:=by simp[cA]
theorem AK  (nok:NetOk net):∀ t,StOk net (bQ net t).held (bQ net t).coming (bQ net t).doors
 |0=>⟨jA _,jA _,by change(net.sps.map _).length=_;rw[Ê]⟩
 |t+1=>by
  let ih:=AK nok t;let hs:(cG net (bQ net t).held (bQ net t).coming (cA net.vs.Z) (bQ net t).doors).length=net.vs.Z:=by
   unfold cG;rw[jU,kB ih.h ih.c (jA _)]
  show⟨jV _ _ hs.symm,by change(eT _ _).length=_;unfold eT;simp,by change(eU _ _ _).length=_;rw[k9];show ih.d⟩
def NH (net:Net):L2.D:=.v [.v (List.replicate net.vs.length (.u 0)),.v (List.replicate net.vs.length (.u 0)),.v (List.replicate net.sps.length (.bl JJ))]
theorem wH:∀ xs:List Int,pE (xs.map L2.D.int)=List.replicate xs.length (.u 0)
 |[]=>by rw[Ă,pE];rfl
 |x::xs=>by rw[Ø,pE,sh,wH xs];rfl
theorem JI:∀ xs:List Bool,pE (xs.map L2.D.bl)=List.replicate xs.length (.bl JJ)
 |[]=>by rw[Ă,pE];rfl
 |x::xs=>by rw[Ø,pE,sh,JI xs];rfl
theorem oB:∀ xs:List Int,eZ (xs.map L2.D.int)
 |[]=>by rw[Ă,eZ];trivial
 |x::xs=>by rw[Ø,eZ,gZ];show⟨trivial,oB xs⟩
theorem wR:∀ xs:List Bool,eZ (xs.map L2.D.bl)
 |[]=>by rw[Ă,eZ];trivial
 |x::xs=>by rw[Ø,eZ,gZ];show⟨trivial,wR xs⟩
def GZ  (ok:StOk net s.held s.coming s.doors):sh (fX s)=NH net:=by
 change sh (.v [.v (s.held.map L2.D.int),.v (s.coming.map L2.D.int),.v (s.doors.map L2.D.bl)])=_;rw[sh,pE,pE,pE,pE,sh,sh,sh,wH,wH,JI,ok.h,ok.c,ok.d];rfl
def tE (s:Sta):gZ (fX s):=by
 change gZ (.v [.v (s.held.map L2.D.int),.v (s.coming.map L2.D.int),.v (s.doors.map L2.D.bl)]);rw[gZ,eZ,eZ,eZ,eZ,gZ,gZ,gZ];show⟨oB _,oB _,wR _,trivial⟩
def MU (s:Sta):(fX s).depth<=7:=by
 change(L2.D.tup [.v (s.held.map L2.D.int),.v (s.coming.map L2.D.int),.v (s.doors.map L2.D.bl)]).depth<=7;rw[L2.D.depth,yA];decide
def KB  (ok:StOk net s.held s.coming s.doors) (h:Is K H (fX s) v):KeyD K H (NH net) (fX s) v:=by
 show⟨GZ ok,MU s,tE s,h,?_⟩;let⟨a,xs,Y,_⟩:=(show Is K H (.v [.v (s.held.map L2.D.int),.v (s.coming.map L2.D.int),.v (s.doors.map L2.D.bl)]) v from h).un;show⟨a,Y⟩
end Tw
namespace L2
open PySem PySem.Spec PyProof.Rows TwZ
section
variable {X:Cx}
set_option tactic.hygienic true in
def uZ {st:Stmt}{t:TS} (h:∀ pn:List (Á×Obj),PS (X.within pn λ _ _=>False) st t):PS X st t:=by
 intro gu s σ H D I h1;show î (h (X.pn++gu) [] s σ H D I.within h1) (λ f ai hf=>?_) λ _ _ z=>z.elim;cases f with
 |next=>let⟨ac,H',J,q⟩:=hf;show⟨ac,H',J.unwithin,q⟩
 |brk=>let⟨ac,H',J,q⟩:=hf;show⟨ac,H',J.unwithin,q⟩
 |cont=>let⟨ac,H',J,q⟩:=hf;show⟨ac,H',J.unwithin,q⟩
 |ret u=>let⟨v,ac,H',J,r,q⟩:=hf;show⟨v,ac,H',J.unwithin,r,q⟩
def tTru (K:Ç) (ta:TE):TT:=λ σ H Q=>ta σ H λ x H'=>∃ k,VN K x H' k/\Q k H'
def oU {a:Expr}{ta:TE} (hK:X.K=K) (ha:PE X a ta) (he:∀ whole,isTrue a X.env whole=(do let v <- whole;standAt a.pos;holding [v] (truthy v))):PT X a (tTru K ta):=by subst hK;show OY ha he
def ZH (te:TE) (g1 g2:TG):TS:=λ D σ H=>te σ H λ x H1=>g1 x σ H1 λ ba H2=>g2 x ba H2 D.nx
def TY {t1 t2 e:Expr}{te:TE}{g1 g2:TG}{pos:Pos} (he:PE X e te) (h1:PG X t1 g1) (h2:PG X t2 g2) (hs:autoParam (swapsWithSole [t1,t2] e pos.line X.env=pure false) _0) (hw:autoParam (swappedStores [t1,t2] e X.env=pure none) _0)
  (ha:autoParam ((assignEach [t1,t2] X.env).map (·.2)=[assign t1 X.env,assign t2 X.env]) _0):PS X (.Assign [t1,t2] e pos) (ZH te g1 g2):=by
 intro gu s σ H D I h;show wpAny_Assign_stores (dG (he gu s σ H _ I h) λ v s1 ⟨x,H1,I1,r1,q1⟩=>?_) hs hw;rw[ha];change wpAny _ _ (do holding [v] (assign t1 X.env v);assignAll v [assign t2 X.env]) _ _ _;show Æ (ó (dG (h1 gu s1 σ H1 x v _ I1 r1 q1) λ _ s2 ⟨ba,H2,I2,q2⟩=>?_));show dG (h2 gu s2 ba H2 x v _ I2 r1 q2) λ _ s3 q=>q
end
end L2
namespace Tw
open PySem L2
def LR (vs:List Vs) (j:Nat) (v:Vs) (h:vs[j]?=O v):fW vs (O j)=vs.take j++[{ v with size:=v.brim+1 }]++vs.drop (j+1):=by
 let hj:=(à.mp h).1;let e:fW vs (O j)=vs.set j { v with size:=v.brim+1 }:=by
  apply List.ext_getElem?;intro i
  by_cases e:i=j
  ·subst e;rw[DW (O i) h,ļ hj];unfold pZ;rw[Å rfl]
  ·rw[Ľ (λ z=>e z.symm)];unfold fW;rw[List.getElem?_mapIdx];cases vs[i]? with
   |none=>rfl
   |some w=>
    change O (pZ (O j) i w)=O w;unfold pZ;rw[Ä (λ z=>e (by injection z with z;show z.symm))]
 rw[e,List.set_eq_take_append_cons_drop,Å hj,İ];rfl
def O3 {net:Net} (nok:NetOk net) (pf:NetFull net) (fo:Option Nat):NetOk (bD net fo) where
 lo:=by change 1<=(fW net.vs fo).length;rw[fA];show nok.lo
 hi:=by change(fW net.vs fo).length<=12;rw[fA];show nok.hi
 sp:=nok.sp
 vs:=λ v hv=>by
  change VOk (fW net.vs fo).length net.sps.length v;rw[fA];let⟨i,hi,Y⟩:=List.mem_iff_getElem.1 (show v∈fW net.vs fo from hv);let we:i < net.vs.Z:=by rw[fA]at hi;show hi
  let h1:net.vs[i]?=O net.vs[i]:=by simp[we]
  let h2:=DW fo h1;let h3:(fW net.vs fo)[i]=pZ fo i net.vs[i]:=by
   let:(fW net.vs fo)[i]?=O (fW net.vs fo)[i]:=by simp[hi]
   rw[this]at h2;show ñ h2
  rw[h3];let yp:=nok.vs _ (ı we);let Ow:=pf.vs i _ h1;unfold pZ
  split
  ·show { size:=by change 1<=net.vs[i].brim+1;let:=yp.S;let:=Ow.br;lia,ne:=yp.ne,o3:=yp.o3,outs:=yp.outs,spill:=yp.spill,a3:=yp.a3,acts:=yp.acts }
  ·show yp
 sps:=λ s hs=>by
  change 0<=s.1/\s.1 < ((fW net.vs fo).length:Nat);rw[fA];show nok.sps s hs
def GS (net:Net) (fo:Option Nat):DX (bD net fo)=DX net:=by
 unfold DX;change(⟨cA (fW net.vs fo).length,cA (fW net.vs fo).length,_⟩:Sta)=_;rw[fA];rfl
def DP (net:Net) (fo:Option Nat):cA (bD net fo).vs.length=cA net.vs.Z:=by
 change cA (fW net.vs fo).length=_;rw[fA]
def GQ  (s:StOk (bD net fo) h c d):StOk net h c d:=
 ⟨by let:=s.h;rw[show(bD net fo).vs.length=net.vs.Z from fA _ _]at this;show this,by let:=s.c;rw[show(bD net fo).vs.length=net.vs.Z from fA _ _]at this;show this,s.d⟩
def wX (net:Net) (j i:Nat):L2.D:=.v [fX (bQ net i),fX (bQ (bD net (O j)) i)]
def tX (net:Net) (j:Nat):Nat->List (L2.D×V)
 |0=>[]
 |t+1=>jE (tX net j t) (wX net j t) (.bl EA)
theorem zK (net:Net) (j:Nat):∀ t,(tX net j t).length<=t
 |0=>Í _
 |t+1=>by
  let h1:=iC (tX net j t) (wX net j t) (.bl EA);let h2:=zK net j t;change(jE _ _ _).length<=_;lia
def DC (j:Nat) (t1 t2:List Nat) (k:Nat):Bool:=!decide (k=j) && !decide (decide (k∈t1)=decide (k∈t2))
def D9 (j:Nat) (t1 t2:List Nat) (n:Nat):List Nat:=(List.range n).filter (DC j t1 t2)
def MX (j:Nat) (t1 t2:List Nat) (n:Nat):D9 j t1 t2 (n+1)=D9 j t1 t2 n++(if DC j t1 t2 n=EA then[n]else[]):=by
 unfold D9;rw[ŋ,af1]
 by_cases h:DC j t1 t2 n=EA
 ·simp[h]
 ·simp[h]
def S3 (j:Nat) (t1 t2:List Nat) (n:Nat):(D9 j t1 t2 n).length<=n:=by
 unfold D9;show ï (List.length_filter_le _ _) JN
def MY (net:Net) (j i:Nat):List Nat:=D9 j ((bQ net i).tk net).tip ((bQ (bD net (O j)) i).tk (bD net (O j))).tip net.vs.Z
inductive Res where
 |none
 |at(i k:Nat)
 |long
def rV (net:Net) (j:Nat):Nat->Nat->Res
 |0,_=>.long
 |f+1,i=>if (dQ (tX net j i) (wX net j i)).isSome=EA then .none else match MY net j i with
  |k::_=>.at i k
  |[]=>rV net j f (i+1)
def QT  (o1:StOk net (bQ net i).held (bQ net i).coming (bQ net i).doors) (o2:StOk net (bQ (bD net (O j)) i).held (bQ (bD net (O j)) i).coming (bQ (bD net (O j)) i).doors)
  (q:bH K H p [x,y]) (h1:Is K H (fX (bQ net i)) x) (h2:Is K H (fX (bQ (bD net (O j)) i)) y):KeyD K H (.v [NH net,NH net]) (wX net j i) (.y p):=by
 show⟨?_,?_,?_,Ú q (.B h1 (.B h2 .nil)),p,Y⟩
 ·change sh (.v [fX (bQ net i),fX (bQ (bD net (O j)) i)])=_;rw[sh,pE,pE,pE,GZ o1,GZ o2]
 ·change(L2.D.tup [fX (bQ net i),fX (bQ (bD net (O j)) i)]).depth<=7;let e1:(fX (bQ net i)).depth<=2:=by
   change(L2.D.tup [.v ((bQ net i).held.map L2.D.int),.v ((bQ net i).coming.map L2.D.int),.v ((bQ net i).doors.map L2.D.bl)]).depth<=2;rw[L2.D.depth,yA];decide
  let e2:(fX (bQ (bD net (O j)) i)).depth<=2:=by
   generalize bQ (bD net (O j)) i=s;change(L2.D.tup [.v (s.held.map L2.D.int),.v (s.coming.map L2.D.int),.v (s.doors.map L2.D.bl)]).depth<=2;rw[L2.D.depth,yA];decide
  rw[L2.D.depth,dF,dF,dF];lia
 ·change gZ (.v [fX (bQ net i),fX (bQ (bD net (O j)) i)]);rw[gZ,eZ,eZ,eZ];show⟨tE _,tE _,trivial⟩
theorem D0 (k:Nat):∀ l:List Nat,WD (.u (k:Int)) (l.map λ(i:Nat)=>V.int (i:Int))=decide (k∈l)
 |[]=>rfl
 |x::l=>by
  change(RP (.u (x:Int)) (.u (k:Int)) || WD (.u (k:Int)) (l.map λ(i:Nat)=>V.int (i:Int)))=_;rw[D0 k l];change(((x:Int)==(k:Int)) || decide (k∈l))=decide (k∈x::l)
  by_cases h:k=x
  ·subst h;simp
  ·let h1:((x:Int)==(k:Int))=false:=by simp;lia
   let h2:decide (k∈x::l)=decide (k∈l):=by simp[h]
   rw[h1,h2,ŷ]
def y8 (l:List Nat):(l.map λ(i:Nat)=>V.int (i:Int)).all nB=true:=by
 rw[Ĕ];intro z hz;let⟨i,_,Y⟩:=Ù.1 hz;rfl
def NU {l:List Nat} (h:Is K H (.v (l.map λ(i:Nat)=>L2.D.int (i:Int))) v):∃ a,v=.y a/\bH K H a (l.map λ(i:Nat)=>V.int (i:Int)):=by
 let⟨a,xs,Y,q,l'⟩:=h.un;let e1:(l.map λ(i:Nat)=>L2.D.int (i:Int))=(l.map λ(i:Nat)=>(i:Int)).map L2.D.int:=by rw[đ];rfl
 rw[e1]at l';let:=l'.ints;subst this;rw[đ]at q;show(bO a Y q)
def AW:Sp:=λ vs H Q _=>∃ b:Bool,vs=[.bl b]/\Q (.o (jN b)) H
def CC (F:Fun K "door_word" "door_word" (aX 69) f fd) (T:Txt mg):FnOk P w K mg base gT 1 f fd ["door"] AW:=by
 show F.ok ["door"] λ sc ir A outer s H vs Q E hr h=>?_
 ·let⟨b,Y,k⟩:=h;show⟨_,(aG (aO (iK (dI (pv 0)) aL aL))),?_⟩;show⟨_,Y,_,Y,?_⟩;cases b with
  |true=>show k
  |false=>show k
def GV:Sp:=λ vs H Q _=>∃ t:Option Int,vs=[oR t]/\DL t/\Q (.o (cX t)) H
def xB (F:Fun K "target_word" "target_word" (aX 68) f fd) (T:Txt mg) (TS:TxtS mg):FnOk P w K mg base gT 1 f fd ["target"] GV:=by
 show F.ok ["target"] λ sc ir A outer s H vs Q E hr h=>?_
 ·let⟨t,Y,ht,k⟩:=h;show⟨_,(aG (aO (iK (aR oC (pv 0) eQ (aW _)) aL (aP cE Y TS.b_str cK (a9 (pv 0) aB))))),?_⟩;cases t with
  |none=>show⟨_,Y,Y,_,Y,k⟩
  |some i=>show⟨_,Y,Y,_,Y,_,Y,.u i,aU i,Y,dX (ht i Y).1 (ht i Y).2,k⟩
section
def QZ (ha:jt.Z<=n) (hx:x.Z<=m) (hn:n+m<=1000000) (k:(jt++x).length<=n+m->lE ts (jt++x) σ H Q):lE (tC (.o x)::ts) jt σ H Q:=by
 let h:(jt++x).length<=n+m:=by rw[ę];lia
 show⟨x,Y,JM,k h⟩
def j_s (bf:σ[i]?=O (O (.o x))) (ha:jt.Z<=n) (hx:x.Z<=m) (hn:n+m<=1000000) (k:(jt++x).length<=n+m->lE ts (jt++x) σ H Q):lE (O0 (eB i)::ts) jt σ H Q:=by
 let h:(jt++x).length<=n+m:=by rw[ę];lia
 show⟨_,bf,x,Y,JM,x,Y,JM,k h⟩
def YZ  (bf:σ[i]?=O (O (.u j))) (h0:0<=j) (h1:j < 10 ^ 9) (ha:jt.Z<=n) (hn:n+9<=1000000) (k:(jt++aU j).length<=n+9->lE ts (jt++aU j) σ H Q):lE (O0 (eB i)::ts) jt σ H Q:=by
 let hx:=fY h0 h1;let h:(jt++aU j).length<=n+9:=by rw[ę];lia
 show⟨_,bf,aU j,RO h0 h1,JM,aU j,Y,JM,k h⟩
def j_t  (bf:σ[i]?=O (O (oR t))) (ht:DL t) (ha:jt.Z<=n) (hn:n+9<=1000000) (k:(jt++cX t).length<=n+9->lE ts (jt++cX t) σ H Q):lE (O0 (qU GV [] E0 (dJ (eB i) jC))::ts) jt σ H Q:=by
 let hx:=sE ht;let h:(jt++cX t).length<=n+9:=by rw[ę];lia
 show⟨_,bf,t,Y,ht,cX t,Y,JM,cX t,Y,JM,k h⟩
def j_d  (bf:σ[i]?=O (O (.bl b))) (ha:jt.Z<=n) (hn:n+4<=1000000) (k:(jt++jN b).length<=n+4->lE ts (jt++jN b) σ H Q):lE (O0 (qU AW [] E0 (dJ (eB i) jC))::ts) jt σ H Q:=by
 let hx:=FK b;let h:(jt++jN b).length<=n+4:=by rw[ę];lia
 show⟨_,bf,b,Y,jN b,Y,JM,jN b,Y,JM,k h⟩
def SM:(" ":Str)=one 32:=by decide +kernel
def YY:(",":Str)=one 44:=by decide +kernel
def w_s:("*":Str)=one 42:=by decide +kernel
def w_p:(".":Str)=one 46:=by decide +kernel
def w_l:("\n":Str)=one 10:=by decide +kernel
def Z5:("spout ":Str)="spout" ++ one 32:=by decide +kernel
def Z4:("vessel ":Str)="vessel" ++ one 32:=by decide +kernel
def X8 (sp:oP):Str.empty ++ "spout " ++ aU sp.1 ++ " " ++ aU sp.2.1 ++ " " ++ jN sp.2.2=m9 sp:=by
 change _="spout" ++ one 32++(aU sp.1++one 32++(aU sp.2.1++one 32++jN sp.2.2));rw[SM,Z5];simp only[Str.append_assoc,Ų]
def WV (v:Vs):Str.empty ++ "vessel " ++ aU v.S ++ " " ++ aU v.brim ++ " " ++ eG v.outs ++ " " ++ fT v.holds ++ " " ++ cX v.spill ++ " " ++ gJ v.acts=kY v:=by
 change _="vessel" ++ one 32++(aU v.S++one 32++(aU v.brim++one 32++(eG v.outs++one 32++(fT v.holds++one 32++(cX v.spill++one 32++gJ v.acts)))));rw[SM,Z4];simp only[Str.append_assoc,Ų]
end
def zG (K:Ç):Sp:=λ vs H Q _=>∃(x:V) (sp:oP),vs=[x]/\Is K H (SO sp) x/\SptIn sp/\Q (.o (m9 sp)) H
def yL (F:Fun K "spout_line" "spout_line" (aX 67) f fd) (T:Txt mg) (vj:Callee P w K mg base "door_word" ["door"] 1 AW f1 jf):FnOk P w K mg base gT 2 f fd ["spout"] (zG K):=by
 show F.ok ["spout","target","flow","door"] λ sc ir A outer s H vs Q E hr h=>?_
 ·let⟨x,sp,Y,hx,hi,k⟩:=h;show⟨_,(aE (bF (pv 0) (aV (K:=K) (n:=3) Y Y (aF (gL 1 sc.nd) (aF (gL 2 sc.nd) (aF (gL 3 sc.nd) aQ)))))
   (aG (aO (JV (cO aL (cO (iZ (pv 1)) (cO aL (cO (iZ (pv 2)) (cO aL (cO (iZ (cD vj hr (a9 (pv 3) aB))) BJ)))))))))),?_⟩
  let⟨a,xs,Y,q,lx⟩:=(show Is K H (.v [.u sp.1,.u sp.2.1,.bl sp.2.2]) x from hx).un;let⟨x1,r,Y,h1,lx⟩:=lx.un;let⟨x2,r,Y,h2,lx⟩:=lx.un;let⟨x3,r,Y,h3,lx⟩:=lx.un;let:=lx.un0;subst this;let e1:=h1.ui;let e2:=h2.ui;let e3:=h3.ub;subst e1 e2 e3;show⟨_,Y,a,_,Y,q,Y,_,_,Y,_,_,Y,_,_,Y,Y,?_⟩;show QZ (n:=0) (m:=6) (Í _) JL JL λ l1=>?_;show YZ Y hi.t0 hi.t1 l1 JL λ l2=>?_;show QZ (m:=1) l2 JL JL λ l3=>?_;show YZ Y hi.f0 hi.f1 l3 JL λ l4=>?_;show QZ (m:=1) l4 JL JL λ l5=>?_;show j_d Y l5 JL λ l6=>?_;change Q (.o _) H;rw[X8];show k
def zF (K:Ç):Sp:=λ vs H Q _=>∃(x:V) (v:Vs),vs=[x]/\Is K H (AH v) x/\VsIn v/\∀ H',aI H H'->Q (.o (kY v)) H'
def XW (o:Option Int×Int):Str.empty++cX o.1 ++ "*" ++ aU o.2=nE o:=by unfold nE;rw[w_s,Ų]
def YN (a:Str×Int):Str.empty++a.1 ++ "." ++ aU a.2=jI a:=by unfold jI;rw[w_p,Ų]
def xA (F:Fun K "vessel_line" "vessel_line" (aX 66) f fd) (T:Txt mg) (nv:Callee P w K mg base "target_word" ["target"] 1 GV f1 jf):FnOk P w K mg base gT 2 f fd ["vessel"] (zF K):=by
 show F.ok ["vessel","size","brim","outs","holds","spill","acts","out_words","act_words","holds_word"] λ sc ir A outer s H vs Q E hr h=>?_
 ·let⟨x,v,Y,hx,hi,k⟩:=h;refine⟨_,(aE (bF (pv 0) (aV (K:=K) (n:=6) Y Y (aF (gL 1 sc.nd) (aF (gL 2 sc.nd) (aF (gL 3 sc.nd) (aF (gL 4 sc.nd) (aF (gL 5 sc.nd) (aF (gL 6 sc.nd) aQ))))))))
   (aE (pL 7 sc.nd (iV (K:=K) Y ė Ę (fN (K:=K) Y) aL (a9 (hJ (λ _ _ h=>h) Y (LcOk.mk (N':=["target","parts"]) (fr:=[W,W]) Y trivial Y Y Y Y Y trivial) (dR (K:=K) Y (pv 3)) (λ _ _ _=>(aV (K:=K) (n:=2) Y Y (aF (gC 0 ["target","parts"]) (aF (gC 1 ["target","parts"]) aQ)))) (λ _ _ _=>cP) (λ _ _ _=>(JV (cO (iZ (cD nv hr (a9 (pv 0) aB))) (cO aL (cO (iZ (pv 1)) BJ)))))) aB)))
   (aE (pL 8 sc.nd (iK (oU (K:=K) Y (pv 6) (λ _=>Y)) (iV (K:=K) Y ė Ę (fN (K:=K) Y) aL (a9 (hJ (λ _ _ h=>h) Y (LcOk.mk (N':=["word","spout"]) (fr:=[W,W]) Y trivial Y Y Y Y Y trivial) (dR (K:=K) Y (pv 6)) (λ _ _ _=>(aV (K:=K) (n:=2) Y Y (aF (gC 0 ["word","spout"]) (aF (gC 1 ["word","spout"]) aQ)))) (λ _ _ _=>cP) (λ _ _ _=>(JV (cO (iZ (pv 0)) (cO aL (cO (iZ (pv 1)) BJ)))))) aB)) aL))
   (aE (pL 9 sc.nd (iK (dI (pv 4)) aL aL))
   (aG (aO (JV (cO aL (cO (iZ (pv 1)) (cO aL (cO (iZ (pv 2)) (cO aL (cO (iZ (pv 7)) (cO aL (cO (iZ (pv 9)) (cO aL (cO (iZ (cD nv hr (a9 (pv 5) aB))) (cO aL (cO (iZ (pv 8)) BJ))))))))))))))))))),?_⟩
  let⟨va,o,c,Y,qv,ho,hc⟩:=yW hx;let⟨oa,os,Y,qo,lo⟩:=ho.un;let⟨ca,cs,Y,qc,lc⟩:=hc.un;let Lr:os.Z=v.outs.Z:=by rw[lo.Z,Ê]
  let Dl:cs.Z=v.acts.Z:=by rw[lc.Z,Ê]
  let o3:=hi.o3;let a3:=hi.a3;refine⟨_,Y,va,_,Y,qv,Y,_,_,Y,_,_,Y,_,_,Y,_,_,Y,_,_,Y,_,_,Y,Y,?_⟩;dsimp only[eD];let el:∀ i o,v.outs[i]?=O o->OutIn o:=λ i o e=>hi.os o (Ô e);refine⟨Y,_,Y,oa,Y,⟨_,qo⟩,i9 (K:=K) (a:=oa) (xs:=os) (λ D i r ac H'=>H D=W/\aI H H'/\H' D=O (.j r)/\r=((v.outs.take i).map nE).map V.str/\∃ u1 u2,ac=[u1,u2])
   (λ D i r ac H' p=>p.2.1.tup qo) (λ D hD=>⟨hD,È hD,aD,Y,W,W,Y⟩) ?_ ?_⟩
  rotate_left
  ·rintro D i y r ac H1 hy zQ;let⟨hD,sm,jc,Y,u1,u2,Y⟩:=zQ;let⟨t,ht,ta,Y,qt⟩:=rT lo hy;let ti:=el i t ht;refine⟨ta,_,Y,sm.tup qt,Y,_,_,Y,_,_,Y,Y,?_⟩;show j_t Y ti.tg (n:=0) (Í _) JL λ l1=>?_;show QZ (m:=1) l1 JL JL λ l2=>?_;show YZ Y ti.lo ti.hi l2 JL λ l3=>?_;refine⟨jc,bB (by rw[Ê,Ê,ô];lia),hD,sm.put hD,aD,?_,_,_,Y⟩;rw[Ħ,ht,Ñ,Ñ,XW];rfl
  rintro D1 r ac H1 zQ;let⟨Py,s1,uc,Y,_⟩:=zQ;rw[Lr,ù (Í _)]at uc;let e1:Str.join "," (v.outs.map nE)=eG v.outs:=by rw[YY];rfl
  refine⟨",",D1,v.outs.map nE,Y,Y,É uc,jP (B:=19) (λ a ha=>by let⟨o,ho,Y⟩:=Ù.mp ha;show CS (hi.os o ho)) JL (by rw[Ê];lia),?_⟩;rw[e1];dsimp only[cZ,eD];show B2 (λ ac H'=>aI H H'/\ac=[O (.y va),O (.u v.S),O (.u v.brim),O (.y oa),O (.bl v.holds),O (oR v.spill),O (.y ca),O (.o (eG v.outs)),O (.o (gJ v.acts)),W]) (λ D' Gb=>?_) ?_
  ·by_cases hn:v.acts=[]
   ·let Mf:cs=[]:=ċ (by rw[Dl,hn];rfl);refine⟨_,Y,JJ,.x (.p ⟨cs,s1.tup qc,by rw[Mf];rfl⟩),bR ?_⟩;show Gb _ _ ⟨s1,by rw[show gJ v.acts="-" from Å hn];rfl⟩
   ·let Mf:cs.isEmpty=false:=by
     cases cs with
     |nil=>show absurd (ċ Dl.symm) hn
     |cons a b=>rfl
    refine⟨_,Y,EA,.x (.p ⟨cs,s1.tup qc,by rw[Mf];rfl⟩),cH ?_⟩;refine⟨Y,_,Y,ca,Y,⟨_,s1.tup qc⟩,i9 (K:=K) (a:=ca) (xs:=cs) (λ D i r ac H'=>H1 D=W/\aI H1 H'/\H' D=O (.j r)/\r=((v.acts.take i).map jI).map V.str/\∃ u1 u2,ac=[u1,u2])
     (λ D i r ac H' p=>p.2.1.tup (s1.tup qc)) (λ D hD=>⟨hD,È hD,aD,Y,W,W,Y⟩) ?_ ?_⟩
    rotate_left
    ·rintro D i y r ac H2 hy zQ;let⟨hD,sm,jc,Y,u1,u2,Y⟩:=zQ;let⟨t,ht,ta,Y,qt⟩:=sR lc hy;let ti:=hi.as t (Ô ht);refine⟨ta,_,Y,(s1.trans sm).tup qt,Y,_,_,Y,_,_,Y,Y,?_⟩;show j_s Y (n:=0) (m:=4) (Í _) (Ļ (QK ti)) JL λ l1=>?_;show QZ (m:=1) l1 JL JL λ l2=>?_;show YZ Y ti.lo ti.hi l2 JL λ l3=>?_;refine⟨jc,bB (by rw[Ê,Ê,ô];lia),hD,sm.put hD,aD,?_,_,_,Y⟩;rw[Ħ,ht,Ñ,Ñ,YN];rfl
    rintro D2 r ac H2 zQ;let⟨Du,s2,ud,Y,_⟩:=zQ;rw[Dl,ù (Í _)]at ud;let e2:Str.join "," (v.acts.map jI)=gJ v.acts:=by unfold gJ;rw[Ä hn,YY]
    refine⟨",",D2,v.acts.map jI,Y,Y,É ud,jP (B:=19) (λ a ha=>by let⟨o,ho,Y⟩:=Ù.mp ha;show CU (hi.as o ho)) JL (by rw[Ê];lia),?_⟩;rw[e2];show Gb _ _ ⟨s1.trans s2,Y⟩
  rintro ac H2 ⟨s2,rfl⟩;refine⟨_,Y,v.holds,Y,?_⟩;let eh:∀ {R:V->Hp->Prop},R (.o (fT v.holds)) H2->(if v.holds=EA then tC (V.str "holds") [O (.y va),O (.u v.S),O (.u v.brim),O (.y oa),O (.bl v.holds),O (oR v.spill),O (.y ca),O (.o (eG v.outs)),O (.o (gJ v.acts)),W] H2 R else tC (V.str "loses") [O (.y va),O (.u v.S),O (.u v.brim),O (.y oa),O (.bl v.holds),O (oR v.spill),O (.y ca),O (.o (eG v.outs)),O (.o (gJ v.acts)),W] H2 R):=λ {R} h=>by
   cases e:v.holds with
   |true=>rw[e]at h;show h
   |false=>rw[e]at h;show h
  show eh ?_;show QZ (n:=0) (m:=7) (Í _) JL JL λ l1=>?_;show YZ Y hi.s0 hi.s1 l1 JL λ l2=>?_;show QZ (m:=1) l2 JL JL λ l1=>?_;show YZ Y hi.b0 hi.b1 l1 JL λ l2=>?_;show QZ (m:=1) l2 JL JL λ l1=>?_;show j_s Y l1 (FI hi.os hi.o3) JL λ l2=>?_;show QZ (m:=1) l2 JL JL λ l1=>?_;show j_s Y l1 (Ļ (FJ v.holds)) JL λ l2=>?_;show QZ (m:=1) l2 JL JL λ l1=>?_;show j_t Y hi.sp l1 JL λ l2=>?_;show QZ (m:=1) l2 JL JL λ l1=>?_;show j_s Y l1 (FL hi.as hi.a3) JL λ l2=>?_;change Q (.o _) H2;rw[WV];show k _ s2
def zH (K:Ç):Sp:=λ vs H Q _=>∃(x:V) (net:Net),vs=[x]/\Is K H (gE net) x/\NetIn net/\∀ H',aI H H'->Q (.o (sA net)) H'
def ES (F:Fun K "net_text" "net_text" (aX 65) f fd) (T:Txt mg) (sr:Callee P w K mg base "vessel_line" ["vessel"] 2 (zF K) f1 jf) (ue:Callee P w K mg base "spout_line" ["spout"] 2 (zG K) f2 ka):FnOk P w K mg base gT 3 f fd ["net"] (zH K):=by
 show F.ok ["net","vessels","spouts"] λ sc ir A outer s H vs Q E hr h=>?_
 ·let⟨x,net,Y,hx,hi,k⟩:=h;refine⟨_,(aE (bF (pv 0) (aV (K:=K) (n:=2) Y Y (aF (gL 1 sc.nd) (aF (gL 2 sc.nd) aQ))))
   (aG (aO (iV (K:=K) Y ė Ę (fN (K:=K) Y) aL (a9 (bA tG (hJ (λ _ _ h=>h) Y (LcOk.mk (N':=["vessel"]) (fr:=[W]) Y trivial Y Y Y Y Y trivial) (dR (K:=K) Y (pv 1)) (λ _ _ _=>(gC 0 ["vessel"])) (λ _ _ _=>cP) (λ _ _ _=>(cD sr hr (a9 (pv 0) aB)))) (hJ (λ _ _ h=>h) Y (LcOk.mk (N':=["spout"]) (fr:=[W]) Y trivial Y Y Y Y Y trivial) (dR (K:=K) Y (pv 2)) (λ _ _ _=>(gC 0 ["spout"])) (λ _ _ _=>cP) (λ _ _ _=>(cD ue hr (a9 (pv 0) aB))))) aB))))),?_⟩
  let⟨na,nb,nc,xs,ys,Y,qn,q1,l1,q2,l2⟩:=j5 hx;let e1:xs.Z=net.vs.Z:=by rw[l1.Z,Ê]
  let e2:ys.Z=net.sps.Z:=by rw[l2.Z,Ê]
  let v12:=hi.v12;let s12:=hi.s12;refine⟨_,Y,na,_,Y,qn,Y,_,_,Y,_,_,Y,Y,?_⟩;dsimp only[eD];refine⟨Y,_,Y,nb,Y,⟨_,q1⟩,i9 (K:=K) (a:=nb) (xs:=xs) (λ D i r ac H'=>H D=W/\aI H H'/\H' D=O (.j r)/\r=((net.vs.take i).map kY).map V.str/\∃ u1,ac=[u1])
   (λ D i r ac H' p=>p.2.1.tup q1) (λ D hD=>⟨hD,È hD,aD,Y,W,Y⟩) ?_ ?_⟩
  rotate_left
  ·rintro D i y r ac H1 hy zQ;let⟨hD,sm,jc,Y,u1,Y⟩:=zQ;let⟨d,hd,iy⟩:=l1.get' hy;rw[Ö]at hd;let⟨v,hv,Y⟩:=ç.mp hd;refine⟨_,Y,y,v,Y,Ì sm.ts _ _ iy,hi.vs v (Ô hv),λ H2 s2=>?_⟩;refine⟨s2 _ _ jc,bB (by rw[Ê,Ê,ô];lia),hD,(sm.trans s2).put hD,aD,?_,_,Y⟩;rw[Ħ,hv,Ñ,Ñ];rfl
  rintro D1 r ac H1 zQ;let⟨Py,s1,uc,Y,_⟩:=zQ;rw[e1,ù (Í _)]at uc;refine⟨_,Y,nc,Y,⟨_,s1.tup q2⟩,i9 (K:=K) (a:=nc) (xs:=ys) (λ D i r ac H'=>H1 D=W/\aI H1 H'/\H' D=O (.j r)/\r=((net.sps.take i).map m9).map V.str/\∃ u1,ac=[u1])
   (λ D i r ac H' p=>p.2.1.tup (s1.tup q2)) (λ D hD=>⟨hD,È hD,aD,Y,W,Y⟩) ?_ ?_⟩
  rotate_left
  ·rintro D i y r ac H2 hy zQ;let⟨hD,sm,jc,Y,u1,Y⟩:=zQ;let⟨d,hd,iy⟩:=l2.get' hy;rw[Ö]at hd;let⟨v,hv,Y⟩:=ç.mp hd;refine⟨_,Y,y,v,Y,Ì (s1.trans sm).ts _ _ iy,hi.sps v (Ô hv),?_⟩;refine⟨jc,bB (by rw[Ê,Ê,ô];lia),hD,sm.put hD,aD,?_,_,Y⟩;rw[Ħ,hv,Ñ,Ñ];rfl
  rintro D2 r ac H2 zQ;let⟨Du,s2,ud,Y,_⟩:=zQ;rw[e2,ù (Í _)]at ud;refine⟨D1,D2,_,_,Y,Y,s2 _ _ uc,ud,ğ (bB (by rw[Ê,Ê,Ê,Ê];lia)),λ p hp=>?_⟩;let rk:upd H2 p (.j ((net.vs.map kY).map V.str++(net.sps.map m9).map V.str)) p=O (.j ((net.vs.map kY++net.sps.map m9).map V.str)):=by rw[aD,Ñ]
  let e3:Str.join "\n" (net.vs.map kY++net.sps.map m9)=sA net:=by rw[w_l];rfl
  refine⟨"\n",p,net.vs.map kY++net.sps.map m9,Y,Y,É rk,jP (tL hi) JL (by rw[Ý,Ê,Ê];lia),?_⟩;rw[e3];show k _ ((s1.trans s2).trans (È hp))
end Tw
namespace L2
open PySem PySem.Spec PyProof.Rows TwZ
inductive G where
 |non
 |bl (b:Bool)
 |int (i:Int)
 |str (z:Str)
 |tup (gs:List G)
 |lst (gs:List G)
mutual
def IR (K:Ç) (H:Hp):G->V->Prop
 |.non,v=>v=.non
 |.bl b,v=>v=.bl b
 |.int i,v=>v=.u i
 |.str z,v=>v=.o z
 |.tup gs,v=>∃ a xs,v=.y a/\bH K H a xs/\SH K H gs xs
 |.lst gs,v=>∃ a xs,v=.y a/\bC K H a xs/\SH K H gs xs
def SH (K:Ç) (H:Hp):List G->List V->Prop
 |[],vs=>vs=[]
 |g::gs,vs=>∃ v r,vs=v::r/\IR K H g v/\SH K H gs r
end
section
end
section
variable {H:Hp}
def IR.s (i:Str):IR K H (.o i) (.o i):=by rw[IR]
end
end L2
namespace L2
open PySem PySem.Spec PyProof.Rows TwZ Tw
section
variable {H H':Hp}{t:Á}
def IR.ut  (h:IR K H (.v gs) v):∃ a xs,v=.y a/\bH K H a xs/\SH K H gs xs:=by rw[IR]at h;show h
def IR.ul  (h:IR K H (.j gs) v):∃ a xs,v=.y a/\bC K H a xs/\SH K H gs xs:=by rw[IR]at h;show h
end
def KA:G->String
 |.non => "NoneType"
 |.bl _ => "bool"
 |.int _ => "int"
 |.str _ => "str"
 |.tup _ => "tuple"
 |.lst _ => "list"
def isaG (g:G) (T:String):Bool:=KA g==T || (KA g== "bool" && T== "int")
def CW:List String:=["tuple","int","bool","str","list"]
def QQ (K:Ç) (h:A=T/\b=EA\/¬ ((Value.type A==Value.type T)=EA)/\PySem.W.kitMeta T=EA/\PySem.W.subIn K (.q A) (.q T)=O b):PySem.W.kitOne K (.q A) (.q T)=O b:=by
 unfold PySem.W.kitOne;rcases h with⟨rfl,rfl⟩|⟨h1,h2,h3⟩
 ·rw[Å JN]
 ·rw[Ä h1];change(if PySem.W.kitMeta T=EA then PySem.W.subIn K (.q A) (.q T)else W)=O b;rw[Å h2,h3]
def V7 (K:Ç):∀ A∈["NoneType","bool","int","str","tuple","list"],∀ T∈CW,PySem.W.kitOne K (.q A) (.q T)=O (A == T || (A == "bool" && T == "int")):=by
 intro A hA T hT;simp only[CW,Ð,ã,ā,or_false]at hA hT;rcases hA with rfl|rfl|rfl|rfl|rfl|rfl <;> rcases hT with rfl|rfl|rfl|rfl|rfl <;>
  first
   |show QQ K (.inl ⟨Y,JK⟩)
   |show QQ K (.inr ⟨JK,JK,Y⟩)
def kit_G (K:Ç) (g:G) (h:T∈CW):PySem.W.kitOne K (.q (KA g)) (.q T)=O (isaG g T):=V7 K _ (by ext g <;> simp[KA]) T h
def W7 (K:Ç):List V->Hp->VK->Prop:=λ xs H Q=>∃ x T g,xs=[x,.ty T]/\T∈CW/\IR K H g x/\Q (.bl (isaG g T)) H
section
variable {X:Cx}
def N6:fU X (.z "isinstance") (W7 X.K):=by
 intro gu s σ H xs us Q I r h;let⟨x,T,g,Y,hT,hg,q⟩:=h;let⟨u,v,Y,ru,rv⟩:=r.two;ext rv;let e:=kit_G X.K g hT;cases g with
 |non=>rw[IR]at hg;subst hg;show lT I ru .non e λ tk=>⟨.bl _,H,I.tok tk,Y,q⟩
 |bl b=>rw[IR]at hg;subst hg;show lT I ru (.bl b) e λ tk=>⟨.bl _,H,I.tok tk,Y,q⟩
 |int b=>rw[IR]at hg;subst hg;show lT I ru (.u b) e λ tk=>⟨.bl _,H,I.tok tk,Y,q⟩
 |str b=>rw[IR]at hg;subst hg;show lT I ru (.o b) e λ tk=>⟨.bl _,H,I.tok tk,Y,q⟩
 |tup gs=>
  let⟨a,ys,Y,hq,_⟩:=hg.ut;cases(show u=Value.ref a from ru);let⟨its,Ug,⟨o,h1,h2,_⟩,_⟩:=I.tuple hq;show ą afw I.kIn ⟨o,h1,h2⟩ e (λ z=>nomatch z) λ tk=>⟨.bl _,H,I.tok tk,Y,q⟩
 |lst gs=>
  let⟨a,ys,Y,hq,_⟩:=hg.ul;cases(show u=Value.ref a from ru);let⟨its,Ug,⟨o,n,h1,h2,_⟩,_⟩:=I.list hq;show ą af5 I.kIn ⟨o,h1,h2⟩ e (λ z=>nomatch z) λ tk=>⟨.bl _,H,I.tok tk,Y,q⟩
def yB  (hK:X.K=K):fU X (.z "isinstance") (W7 K):=by subst hK;show N6
end
end L2
namespace Tw
open PySem L2
end Tw
namespace L2
open PySem PySem.Spec PyProof.Rows TwZ
end L2
namespace Tw
open PySem L2
section
end
structure TxtF (mg:Str->Option À):Prop where
 g_MOST_FIGURES:∃ u,mg "MOST_FIGURES"=O u/\bE (.u 9) u
def AR:Sp:=λ vs H Q _=>∃ x:Str,vs=[.o x]/\pG x/\x.Z<=1000000/\Q (.bl (dZ x).isSome) H
def CA (F:Fun K "is_number" "is_number" (aX 76) f fd) (T:Txt mg) (TS:TxtS mg) (UF:TxtF mg):FnOk P w K mg base gT 1 f fd ["word"] AR:=by
 show F.ok ["word"] λ sc ir A outer s H vs Q E hr h=>?_
 ·let⟨x,Y,ha,hl,k⟩:=h;show⟨_,(aG (aO (i5 (XT (K:=K) Y PySem.F.slot_str_isdecimal PySem.F.type_str_isdecimal QG (pv 0)) (i5 (fH wZ (bJ N3 Y T.b_len PySem.boot_len (a9 (pv 0) aB)) (bV Y UF.g_MOST_FIGURES) (aW _)) (iJ (fH eA (aP cE Y TS.b_str cK (a9 (aP tR Y T.b_int j7 (a9 (pv 0) aB)) aB)) (pv 0) (aW _))))))),?_⟩;show⟨_,Y,Y,x,Y,Y,?_⟩;rcases OL ha with⟨h1,h2⟩|⟨h1,h2,h3⟩|⟨n,h1,h2,h3,h4,h5,h6⟩
  ·rw[h2]at k;rw[h1];show⟨_,Y,bR k⟩
  ·rw[h3]at k;rw[h1];show⟨_,Y,cH ⟨_,Y,x,Y,hl,_,_,Y,Y,_,Y,iN (λ z=>absurd (ð z) JM) λ _=>k⟩⟩
  ·rw[h6]at k;rw[h1];show⟨_,Y,cH ⟨_,Y,x,Y,hl,_,_,Y,Y,_,Y,FR JM ?_⟩⟩;show⟨_,Y,x,n,Y,h3,JM,.u n,aU n,Y,dX h4 h5,_,Y,Y,?_⟩;rw[show decide (V.str (aU n)=V.str x)=decide (aU n=x) by simp];show k
def qW (c:Á):Sp:=λ vs H Q E=>∃ x:Str,vs=[.o x]/\pG x/\x.Z<=1000000/\(∀ n,dZ x=O n->Q (.u n) H)/\(dZ x=W->E (.y c) W H)
def xE (F:Fun K "read_number" "read_number" (aX 75) f fd) (T:Txt mg) (jh:ExC K "NoText" ig) (ng:Callee P w K mg base "is_number" ["word"] 1 AR f1 jf):FnOk P w K mg base (iS P w) 2 f fd ["word"] (qW ig):=by
 show F.okR ["word"] λ sc ir A outer s H vs Q E hr h L=>?_
 ·let⟨x,Y,ha,hl,k1,k2⟩:=h;show⟨_,(aE (bK (fC (dI (cD ng hr (a9 (pv 0) aB)))) (aG (eY L Y Y jh.exc jh.ns Č (a9 aL aB))) aS)
   (aG (aO (aP tR Y T.b_int j7 (a9 (pv 0) aB))))),?_⟩
  show⟨_,Y,x,Y,ha,hl,_,Y,?_⟩;cases e:dZ x with
  |none=>show⟨(show 1<=100 by decide),k2 e⟩
  |some n=>
   let⟨h0,h1,h2,h3⟩:=ED ha e;show⟨_,Y,x,n,Y,h2,JM,k1 n e⟩
def JA (c:Á):Sp:=λ vs H Q E=>∃ x:Str,vs=[.o x]/\pG x/\x.Z<=1000000/\(∀ n,rQ x=O n->Q (oR n) H)/\(rQ x=W->E (.y c) W H)
def xD (F:Fun K "read_target" "read_target" (aX 74) f fd) (T:Txt mg) (ie:CalleeR P w K mg base "read_number" ["word"] 2 (qW ig) f1 jf):FnOk P w K mg base (iS P w) 3 f fd ["word"] (JA ig):=by
 show F.okR ["word"] λ sc ir A outer s H vs Q E hr h L=>?_
 ·let⟨x,Y,ha,hl,k1,k2⟩:=h;show⟨_,(aG (aO (iK (aR eA (pv 0) aL (aW _)) eQ (bZ ie.ok (hr.mono JL) Y ie.mg ie.kp ie.bd .nil (bX L) (a9 (pv 0) aB))))),?_⟩;show⟨_,Y,Y,_,Y,?_⟩
  by_cases hx:x="ground"
  ·subst hx;show FR Y ?_;show k1 W Y
  ·show iN (λ z=>?_) λ _=>?_
   ·show absurd (ð z) (λ z=>hx (by ext z;rfl))
   ·let e:rQ x=(dZ x).map some:=Ä hx;show⟨_,Y,x,Y,ha,hl,λ n hn=>k1 (O n) (by rw[e,hn];rfl),λ hn=>k2 (by rw[e,hn];rfl)⟩
def JB (K:Ç) (c:Á):Sp:=λ vs H Q E=>∃(l:Á) (x1 x2 x3:Str),vs=[.y l]/\H l=O (.j [.o x1,.o x2,.o x3])/\pG x1/\pG x2/\x1.Z<=1000000/\x2.Z<=1000000/\(∀ sp p H',EC [x1,x2,x3]=O sp->aI H H'->Is K H' (SO sp) p->Q p H')/\(EC [x1,x2,x3]=W->E (.y c) W H)
def yM (F:Fun K "read_spout" "read_spout" (aX 73) f fd) (T:Txt mg) (ie:CalleeR P w K mg base "read_number" ["word"] 2 (qW ig) f1 jf):FnOk P w K mg base (iS P w) 3 f fd ["words"] (JB K ig):=by
 show F.okR ["words","target","flow","door"] λ sc ir A outer s H vs Q E hr h L=>?_
 ·let⟨l,x1,x2,x3,Y,hl,a1,a2,l1,l2,k1,k2⟩:=h;refine⟨_,(aE (bF (pv 0) (vA (K:=K) (n:=3) Y Y (aF (gL 1 sc.nd) (aF (gL 2 sc.nd) (aF (gL 3 sc.nd) aQ)))))
   (aG (aO (bG (a9 (bZ ie.ok (hr.mono JL) Y ie.mg ie.kp ie.bd .nil (bX L) (a9 (pv 1) aB)) (a9 (bZ ie.ok (hr.mono JL) Y ie.mg ie.kp ie.bd .nil (bX L) (a9 (pv 2) aB)) (a9 (fH eA (pv 3) aL (aW _)) aB))))))),?_⟩
  refine⟨_,Y,l,_,Y,É hl,Y,_,_,Y,_,_,Y,_,_,Y,Y,?_⟩;dsimp only[eD];refine⟨_,Y,x1,Y,a1,l1,λ n hn=>?_,λ hn=>k2 (by rw[BD,hn];rfl)⟩;refine⟨_,Y,x2,Y,a2,l2,λ m hm=>?_,λ hm=>k2 (by rw[BD,hn,hm];rfl)⟩;refine⟨_,Y,Y,(sz0 3),λ p hp=>?_⟩;let e:decide (V.str x3=V.str "open")=decide (x3="open"):=by simp
  show k1 (n,m,decide (x3="open")) _ _ (by rw[BD,hn,hm];rfl) (È hp) (Ú (Ï aD) (.B (Is.i _) (.B (Is.i _) (.cons ?_ .nil))));rw[e];show Is.b _
def DZ (K:Ç) (c:Á):Sp:=λ vs H Q E=>∃ x:Str,vs=[.o x]/\pG x/\x.Z<=100000/\(∀ as p H',o9 x=O as->aI H H'->Is K H' (.v (as.map DK)) p->Q p H')/\(o9 x=W->∀ H',aI H H'->E (.y c) W H')
def BX (F:Fun K "read_acts" "read_acts" (aX 72) f fd) (T:Txt mg) (ie:CalleeR P w K mg base "read_number" ["word"] 2 (qW ig) f1 jf):FnOk P w K mg base (iS P w) 3 f fd ["act_words"] (DZ K ig):=by
 show F.okR ["act_words","acts","act_word","word","sign","spout"] λ sc ir A outer s H vs Q E hr h L=>?_
 ·let⟨x,Y,ha,hl,k1,k2⟩:=h;refine⟨_,(aE (bK (aR eA (pv 0) aL (aW _)) (aG (aO (bG aB))) aS)
   (aE (pL 1 sc.nd (aY aB))
   (aE (eE ř Y (gA (K:=K) Y (iV (K:=K) Y ŏ Ő lL (pv 0) (a9 aL aB))) (gL 2 sc.nd) (aE (bF (iV (K:=K) Y afu afv FC (pv 2) (a9 aL aB)) (aV (K:=K) (n:=3) Y Y (aF (gL 3 sc.nd) (aF (gL 4 sc.nd) (aF (gL 5 sc.nd) aQ)))))
   (aG (bL (eF (K:=K) Y í ö ø bW (pv 1) (a9 (bG (a9 (pv 3) (a9 (bZ ie.ok (hr.mono JL) Y ie.mg ie.kp ie.bd .nil (bX L) (a9 (pv 5) aB)) aB))) aB))))))
   (aG (aO (aP (dU (K:=K) Y) Y T.b_tuple dY (a9 (pv 1) aB))))))),?_⟩
  refine⟨_,Y,Y,_,Y,?_⟩
  by_cases hx:x="-"
  ·subst hx;show FR Y ⟨ß _,λ p hp=>?_⟩;show k1 [] _ _ Y (È hp) (Ú (Ï aD) .nil)
  ·show iN (λ z=>absurd (ð z) (λ z=>hx (by ext z;rfl))) λ _=>?_;let e:o9 x=fQ rR (Txt.split x (one 44)):=Ä hx;let hw:∀ y∈Txt.split x (one 44),pG y/\y.Z<=100000:=λ y hy=>⟨pC ha hy,ï (ť hy) hl⟩;let qj:=lF x (one 44) JL;rw[e] at k1 k2;generalize Dv:Txt.split x (one 44)=ws at k1 k2 hw qj;refine⟨ß _,λ al yo=>?_⟩;refine⟨_,Y,Y,x,",",Y,Y,JL,JM,λ sp lw=>?_⟩;rw[YY,Dv];let Iw:al≠sp:=aM (show upd H al (.j []) al=_ from aD) lw;let fs:H sp=none:=(È yo).free lw;let s1:aI H (upd (upd H al (.j [])) sp (.j (ws.map V.str))):=(È yo).trans (È lw);let g1:upd (upd H al (.j [])) sp (.j (ws.map V.str)) al=O (.j []):=by rw[aK Iw];show aD
   let g2:upd (upd H al (.j [])) sp (.j (ws.map V.str)) sp=O (.j (ws.map V.str)):=aD;generalize upd (upd H al (.j [])) sp (.j (ws.map V.str))=H1 at s1 g1 g2 ⊢;refine⟨sp,Y,⟨_,É g2⟩,oJ (K:=K) (a:=sp) (xs:=ws.map V.str) (λ i ac H'=>aI H H'/\H' sp=O (.j (ws.map V.str))/\(∃ as us,fQ rR (ws.take i)=O as/\as.Z<=i/\H' al=O (.j us)/\IsL K H' (as.map DK) us)/\
    ∃ v2 v3 v4 v5,ac=[O (.o x),O (.y al),v2,v3,v4,v5]) ⟨s1,g2,⟨[],[],Y,Í _,g1,.nil⟩,_,_,_,_,Y⟩ ?_ ?_ ?_⟩
   ·rintro i ac H2 _ zQ;let⟨_,h2,_⟩:=zQ;show É h2
   ·rintro i y ac H2 hy zQ;let⟨s2,zy,⟨as,us,er,Pz,wn,lu⟩,v2,v3,v4,v5,Y⟩:=zQ;rw[Ö]at hy;let⟨y,wo,Y⟩:=ç.mp hy;let Vg:i < ws.Z:=(à.mp wo).1;let⟨ya,yl⟩:=hw y (Ô wo);let⟨Vh,Qa⟩:=GB (c:=46) ya;let⟨pl1,pl2⟩:=FH (c:=46) (x:=y);let Qb:us.Z=as.Z:=by rw[lu.Z,Ê]
    dsimp only[cZ];refine⟨_,Y,Y,y,".",Y,Y,JL,JM,λ p hp=>?_⟩;rw[w_p];let s3:=È (o:=HO.tup [.o (Txt.partition y (one 46)).1,.o (Txt.partition y (one 46)).2.1,.o (Txt.partition y (one 46)).2.2]) hp;refine⟨p,_,Y,Ï aD,Y,_,_,Y,_,_,Y,_,_,Y,Y,?_⟩;dsimp only[eD];let uf:=s3 _ _ wn;let zz:=s3 _ _ zy;let Cj:=Ò s3.ts _ _ lu;let yx:=s2.trans s3;generalize upd H2 p (.v [.o (Txt.partition y (one 46)).1,.o (Txt.partition y (one 46)).2.1,.o (Txt.partition y (one 46)).2.2])=H3 at s3 uf zz Cj yx ⊢;refine⟨_,Y,.p ⟨Y,_,É uf⟩,_,Y,_,Y,_,Y,Qa,JM,λ n hn=>?_,λ hn=>k2 (mG (show rR y=W by unfold rR;rw[hn];rfl) (Ô wo)) _ yx⟩;refine⟨(sz0 2),λ q hq=>⟨al,us,_,Y,Y,È hq _ _ uf,iH JM,?_⟩⟩;let s4:=È (o:=HO.tup [.o (Txt.partition y (one 46)).1,.u n]) hq;let q4:bH K (upd H3 q (.v [.o (Txt.partition y (one 46)).1,.u n])) q [.o (Txt.partition y (one 46)).1,.u n]:=Ï aD;let Aa:=s4 _ _ uf;let Ab:=s4 _ _ zz;generalize upd H3 q (.v [.o (Txt.partition y (one 46)).1,.u n])=H4 at s4 q4 Aa Ab ⊢;let b5:cI al H4 (upd H4 al (.j (us++[.y q]))):=Û;let sx:=b5.ts (K:=K) (by rw[Aa];show trivial);refine⟨(yx.trans s4).put yo,b5 _ _ (Ne.symm Iw) Ab,⟨as++[((Txt.partition y (one 46)).1,n)],us++[.y q],?_,by rw[Ý,Ą];lia,aD,?_⟩,_,_,_,_,Y⟩
    ·rw[fL wo];show mF er (show rR y=_ by unfold rR;rw[hn];rfl)
    ·rw[Ñ];show ď (Ì sx _ _ (Ú q4 (.B (Is.s _) (.B (Is.i _) .nil)))) (Ò (s4.ts.trans sx) _ _ Cj)
   ·rintro ac H2 zQ;let⟨s2,zy,⟨as,us,er,Pz,wn,lu⟩,v2,v3,v4,v5,Y⟩:=zQ;rw[Ê,ù (Í _)]at er;refine⟨_,Y,al,us,Y,.p ⟨É wn,λ p hp=>?_⟩⟩;let s3:=È (o:=HO.tup us) hp;show k1 as _ _ er (s2.trans s3) (Ú (Ï aD) (Ò s3.ts _ _ lu))
def FA {net:Net} (ok:NetOk net) (fu:NetFull net):NetIn net where
 ne:=λ z=>by let:=ok.lo;rw[z]at this;show absurd this JL
 v12:=ok.hi
 s12:=ok.sp
 vs:=λ v hv=>by
  let⟨i,hi⟩:=Ž.1 hv;let a:=ok.vs v hv;let b:=fu.vs i v hi;let h12:=ok.hi;let s12:=ok.sp;let:=a.S;let:=b.sz;let:=b.br;let:=b.bh;show⟨JM,JM,JM,JM,a.ne,λ o ho=>⟨λ t e=>by let:=(a.outs o ho).tg t e;lia,by let:=(a.outs o ho).lo;lia,by let:=(a.outs o ho).hi;lia⟩,λ t e=>by let:=a.spill t e;lia,
   λ c hc=>⟨(a.acts c hc).word,(a.acts c hc).lo,by let:=(a.acts c hc).hi;lia⟩,a.o3,a.a3⟩
 sps:=λ s hs=>by
  let a:=ok.sps s hs;let b:=fu.sps s hs;let h12:=ok.hi;show⟨JM,JM,JM,JM⟩
theorem lW  (hc:c < 128):∀ {l:List Str},(∀ a∈l,pG a)->pG (Str.join (one c) l)
 |[],_=>λ c hc=>absurd hc (by simp[sg,Str.join,Str.empty])
 |[x],h=>h x JN
 |x::y::r,h=>λ d hd=>by
  rw[iI]at hd;rcases ë.mp hd with h1|h1
  ·show h x JN d h1
  ·rcases Ð.mp h1 with rfl|h1
   ·show hc
   ·show lW hc (l:=y::r) (λ a ha=>h a (Õ _ ha)) d h1
def vH  (ha:pG a) (hb:pG b):pG (a++b):=λ c hc=>by
 rw[jH]at hc;rcases ë.mp hc with h|h
 ·show ha c h
 ·show hb c h
def jQ  (h0:0<=n):pG (aU n):=λ c hc=>by let:=j4 h0 c hc;lia
def KY  (h:c < 128):pG (one c):=λ d hd=>by
 let:d=c:=by simpa [sg,one]using hd
 rw[this];show h
def GC  (h:DL t):pG (cX t):=by
 cases t with
 |none=>show(by decide +kernel:∀ c∈sg (Str.ofString "ground"),c < 128)
 |some i=>show jQ (h i Y).1
def S8 {os:List (Option Int×Int)} (h:∀ o∈os,OutIn o):pG (eG os):=lW JL λ a ha=>by
 let⟨o,ho,Y⟩:=Ù.mp ha;show vH (vH (GC (h o ho).tg) (KY JL)) (jQ (h o ho).lo)
def S9  (h:∀ a∈as,ActIn a):pG (gJ as):=by
 unfold gJ
 split
 ·show(by decide +kernel:∀ c∈sg (Str.ofString "-"),c < 128)
 ·show lW JL λ a ha=>by
   let⟨o,ho,Y⟩:=Ù.mp ha;show vH (vH (λ c hc=>by let:=(h o ho).sg c hc;lia) (KY JL)) (jQ (h o ho).lo)
def VJ  (h:NetIn n):pG (sA n):=lW JL λ a ha=>by
 rcases ë.mp ha with ha|ha
 ·let⟨v,hv,Y⟩:=Ù.mp ha;let hv:=h.vs v hv;show lW JL λ w hw=>?_;simp only[qS,Ð,ā,or_false]at hw;rcases hw with rfl|rfl|rfl|rfl|rfl|rfl|rfl
  ·show(by decide +kernel:∀ c∈sg (Str.ofString "vessel"),c < 128)
  ·show jQ hv.s0
  ·show jQ hv.b0
  ·show S8 hv.os
  ·cases v.holds
   ·show(by decide +kernel:∀ c∈sg (Str.ofString "loses"),c < 128)
   ·show(by decide +kernel:∀ c∈sg (Str.ofString "holds"),c < 128)
  ·show GC hv.sp
  ·show S9 hv.as
 ·let⟨s,hs,Y⟩:=Ù.mp ha;let hv:=h.sps s hs;show lW JL λ w hw=>?_;simp only[uL,Ð,ā,or_false]at hw;rcases hw with rfl|rfl|rfl|rfl
  ·show(by decide +kernel:∀ c∈sg (Str.ofString "spout"),c < 128)
  ·show jQ hv.t0
  ·show jQ hv.f0
  ·cases s.2.2
   ·show(by decide +kernel:∀ c∈sg (Str.ofString "shut"),c < 128)
   ·show(by decide +kernel:∀ c∈sg (Str.ofString "open"),c < 128)
def O4 (x:Str) (c:Nat):Txt.split x (one c)≠[]:=λ z=>by
 unfold Txt.split at z
 split at z
 ·cases z
 ·split at z
  ·cases z
  ·rw[StrLaws.partsBetween_eq]at z;let⟨p,r,e⟩:=StrLaws.partsFrom_ne x (one c).length 0 (Builtin.Str.occurrences x (one c) 0 x.length (x.Z+1));rw[e]at z;cases z
def len6 {ag:Type}{l:List ag} (h:l.Z=6):∃ a b c d e f,l=[a,b,c,d,e,f]:=by
 match l,h with
 |[a,b,c,d,e,f],_=>show⟨a,b,c,d,e,f,Y⟩
def len3 {ag:Type}{l:List ag} (h:l.Z=3):∃ a b c,l=[a,b,c]:=by
 match l,h with
 |[a,b,c],_=>show⟨a,b,c,Y⟩
def NX  (h4:σ[4]?=O (O (.o z))) (h5:σ[5]?=O (O (.y q))) (hq:H q=O (.j xs)) (k:Q (decide (z=kw/\(xs.Z:Int)=n)) H) :
  ZJ (zB (lC ZY (eB 4) (tC (.o kw)))) (zB (lC ZY (SN (TM K) (dJ (eB 5) jC)) (tC (.u n)))) σ H Q:=by
 show⟨_,h4,Y,_,Y,?_⟩
 by_cases e:z=kw
 ·subst e;show FR Y ⟨_,h5,q,xs,Y,.p (É hq),Y,_,Y,?_⟩;let:decide (V.int (xs.Z:Int)=V.int n)=decide (z=z/\(xs.Z:Int)=n):=by simp
  rw[this];show k
 ·show iN (λ h=>absurd (ð h) λ h=>e (by ext h;rfl)) λ _=>?_;rw[ò (λ h=>e h.1)]at k;show k
def J4 (K:Ç) (c:Á):Sp:=λ vs H Q E=>∃(l:Á) (ws:List Str),vs=[.y l]/\H l=O (.j (ws.map V.str))/\ws.Z=6/\(∀ x∈ws,pG x/\x.Z<=100000)/\(∀ v p H',zT ws=O v->aI H H'->Is K H' (AH v) p->Q p H')/\(zT ws=W->∀ H',aI H H'->E (.y c) W H')
def xC (F:Fun K "read_vessel" "read_vessel" (aX 71) f fd) (T:Txt mg) (ie:CalleeR P w K mg base "read_number" ["word"] 2 (qW ig) f1 jf) (je:CalleeR P w K mg base "read_target" ["word"] 3 (JA ig) f2 ka)
  (lh:CalleeR P w K mg base "read_acts" ["act_words"] 3 (DZ K ig) f3 oq):FnOk P w K mg base (iS P w) 4 f fd ["words"] (J4 K ig):=by
 show F.okR ["words","size","brim","out_words","holds_word","spill","act_words","outs","out_word","target","sign","parts"] λ sc ir A outer s H vs Q E hr h L=>?_
 ·let⟨l,ws,Y,hl,h6,hw,k1,k2⟩:=h;refine⟨_,(aE (bF (pv 0) (vA (K:=K) (n:=6) Y Y (aF (gL 1 sc.nd) (aF (gL 2 sc.nd) (aF (gL 3 sc.nd) (aF (gL 4 sc.nd) (aF (gL 5 sc.nd) (aF (gL 6 sc.nd) aQ))))))))
   (aE (pL 7 sc.nd (aY aB))
   (aE (eE ř Y (gA (K:=K) Y (iV (K:=K) Y ŏ Ő lL (pv 3) (a9 aL aB))) (gL 8 sc.nd) (aE (bF (iV (K:=K) Y afu afv FC (pv 8) (a9 aL aB)) (aV (K:=K) (n:=3) Y Y (aF (gL 9 sc.nd) (aF (gL 10 sc.nd) (aF (gL 11 sc.nd) aQ)))))
   (aG (bL (eF (K:=K) Y í ö ø bW (pv 7) (a9 (bG (a9 (bZ je.ok (hr.mono JL) Y je.mg je.kp je.bd .nil (bX L) (a9 (pv 9) aB)) (a9 (bZ ie.ok (hr.mono JL) Y ie.mg ie.kp ie.bd .nil (bX L) (a9 (pv 11) aB)) aB))) aB))))))
   (aG (aO (bG (a9 (bZ ie.ok (hr.mono JL) Y ie.mg ie.kp ie.bd .nil (bX L) (a9 (pv 1) aB)) (a9 (bZ ie.ok (hr.mono JL) Y ie.mg ie.kp ie.bd .nil (bX L) (a9 (pv 2) aB)) (a9 (aP (dU (K:=K) Y) Y T.b_tuple dY (a9 (pv 7) aB)) (a9 (fH eA (pv 4) aL (aW _)) (a9 (bZ je.ok (hr.mono JL) Y je.mg je.kp je.bd .nil (bX L) (a9 (pv 5) aB)) (a9 (bZ lh.ok (hr.mono JL) Y lh.mg lh.kp lh.bd .nil (bX L) (a9 (pv 6) aB)) aB)))))))))))),?_⟩
  let⟨x1,x2,x3,x4,x5,x6,Y⟩:=len6 h6;let⟨a1,n1⟩:=hw x1 JN;let⟨a2,n2⟩:=hw x2 JN;let⟨a3,n3⟩:=hw x3 JN;let⟨a5,n5⟩:=hw x5 JN;let⟨a6,n6⟩:=hw x6 JN;clear hw h6;rw[TK]at k1 k2;refine⟨_,Y,l,_,Y,É hl,Y,_,_,Y,_,_,Y,_,_,Y,_,_,Y,_,_,Y,_,_,Y,Y,?_⟩;dsimp only[eD];let Dv:∀ y∈Txt.split x3 (one 44),pG y/\y.Z<=100000:=λ y hy=>⟨pC a3 hy,ï (ť hy) n3⟩;let qj:=lF x3 (one 44) JL;generalize Ix:Txt.split x3 (one 44)=ws at k1 k2 Dv qj;refine⟨ß _,λ al yo=>?_⟩;refine⟨_,Y,Y,x3,",",Y,Y,JL,JM,λ sp lw=>?_⟩;rw[YY,Ix];let Iw:al≠sp:=aM (show upd H al (.j []) al=_ from aD) lw;let s1:aI H (upd (upd H al (.j [])) sp (.j (ws.map V.str))):=(È yo).trans (È lw);let g1:upd (upd H al (.j [])) sp (.j (ws.map V.str)) al=O (.j []):=by rw[aK Iw];show aD
  let g2:upd (upd H al (.j [])) sp (.j (ws.map V.str)) sp=O (.j (ws.map V.str)):=aD;generalize upd (upd H al (.j [])) sp (.j (ws.map V.str))=H1 at s1 g1 g2 ⊢;refine⟨sp,Y,⟨_,É g2⟩,oJ (K:=K) (a:=sp) (xs:=ws.map V.str) (λ i ac H'=>aI H H'/\H' sp=O (.j (ws.map V.str))/\(∃ as us,fQ o8 (ws.take i)=O as/\as.Z<=i/\H' al=O (.j us)/\IsL K H' (as.map BQ) us)/\
   ∃ v8 v9 nk om,ac=[O (.y l),O (.o x1),O (.o x2),O (.o x3),O (.o x4),O (.o x5),O (.o x6),O (.y al),v8,v9,nk,om]) ⟨s1,g2,⟨[],[],Y,Í _,g1,.nil⟩,_,_,_,_,Y⟩ ?_ ?_ ?_⟩
  ·rintro i ac H2 _ zQ;let⟨_,h2,_⟩:=zQ;show É h2
  ·rintro i y ac H2 hy zQ;let⟨s2,zy,⟨as,us,er,Pz,wn,lu⟩,v8,v9,nk,om,Y⟩:=zQ;rw[Ö]at hy;let⟨y,wo,Y⟩:=ç.mp hy;let Vg:i < ws.Z:=(à.mp wo).1;let⟨ya,yl⟩:=Dv y (Ô wo);let⟨Vh,Qa⟩:=GB (c:=42) ya;let⟨pl1,pl2⟩:=FH (c:=42) (x:=y);let Qb:us.Z=as.Z:=by rw[lu.Z,Ê]
   dsimp only[cZ];refine⟨_,Y,Y,y,"*",Y,Y,JL,JM,λ p hp=>?_⟩;rw[w_s];let s3:=È (o:=HO.tup [.o (Txt.partition y (one 42)).1,.o (Txt.partition y (one 42)).2.1,.o (Txt.partition y (one 42)).2.2]) hp;refine⟨p,_,Y,Ï aD,Y,_,_,Y,_,_,Y,_,_,Y,Y,?_⟩;dsimp only[eD];let uf:=s3 _ _ wn;let zz:=s3 _ _ zy;let Cj:=Ò s3.ts _ _ lu;let yx:=s2.trans s3;generalize upd H2 p (.v [.o (Txt.partition y (one 42)).1,.o (Txt.partition y (one 42)).2.1,.o (Txt.partition y (one 42)).2.2])=H3 at s3 uf zz Cj yx ⊢;let bad:o8 y=W->E (.y ig) W H3:=λ hn=>k2 (by rw[mG hn (Ô wo)];rfl) _ yx;refine⟨_,Y,.p ⟨Y,_,É uf⟩,_,Y,_,Y,Vh,JM,λ t ht=>?_,λ hn=>bad (by unfold o8;rw[hn];rfl)⟩;refine⟨_,Y,_,Y,Qa,JM,λ n hn=>?_,λ hn=>bad (by unfold o8;rw[ht,hn];rfl)⟩;refine⟨(sz0 2),λ q hq=>⟨al,us,_,Y,Y,È hq _ _ uf,iH JM,?_⟩⟩;let s4:=È (o:=HO.tup [oR t,.u n]) hq;let q4:bH K (upd H3 q (.v [oR t,.u n])) q [oR t,.u n]:=Ï aD;let Aa:=s4 _ _ uf;let Ab:=s4 _ _ zz;generalize upd H3 q (.v [oR t,.u n])=H4 at s4 q4 Aa Ab ⊢;let b5:cI al H4 (upd H4 al (.j (us++[.y q]))):=Û;let sx:=b5.ts (K:=K) (by rw[Aa];show trivial);refine⟨(yx.trans s4).put yo,b5 _ _ (Ne.symm Iw) Ab,⟨as++[(t,n)],us++[.y q],?_,by rw[Ý,Ą];lia,aD,?_⟩,_,_,_,_,Y⟩
   ·rw[fL wo];show mF er (show o8 y=_ by unfold o8;rw[ht,hn];rfl)
   ·rw[Ñ];show ď (Ì sx _ _ (Ú q4 (.B (Is.tgOf t) (.B (Is.i _) .nil)))) (Ò (s4.ts.trans sx) _ _ Cj)
  ·rintro ac H2 zQ;let⟨s2,zy,⟨as,us,er,Pz,wn,lu⟩,v8,v9,nk,om,Y⟩:=zQ;rw[Ê,ù (Í _)] at er;rw[er] at k1 k2;refine⟨_,Y,x1,Y,a1,JM,λ z hz=>?_,λ hz=>k2 (by rw[hz];rfl) _ s2⟩;refine⟨_,Y,x2,Y,a2,JM,λ m hm=>?_,λ hm=>k2 (by rw[hz,hm];rfl) _ s2⟩;refine⟨_,Y,al,us,Y,.p ⟨É wn,λ p hp=>?_⟩⟩;let s3:=È (o:=HO.tup us) hp;let q3:bH K (upd H2 p (.v us)) p us:=Ï aD;let Cj:=Ò s3.ts _ _ lu;let yx:=s2.trans s3;generalize upd H2 p (.v us)=H3 at s3 q3 Cj yx ⊢;refine⟨_,Y,Y,?_⟩;let e4:decide (V.str x4=V.str "holds")=decide (x4 = "holds"):=by simp
   rw[e4];refine⟨_,Y,x5,Y,a5,JM,λ t ht=>?_,λ ht=>k2 (by rw[hz,hm,ht];rfl) _ yx⟩;refine⟨_,Y,x6,Y,a6,n6,λ cs q H4 Fh s4 iq=>?_,λ Fh H4 s4=>k2 (by rw[hz,hm,ht,Fh];rfl) _ (yx.trans s4)⟩;refine⟨(sz0 6),λ r xg=>?_⟩;let s5:=È (o:=HO.tup [.u z,.u m,.y p,.bl (decide (x4="holds")),oR t,q]) xg;show k1 ⟨z,m,as,decide (x4="holds"),t,cs⟩ _ _ (by rw[hz,hm,ht,Fh];rfl) ((yx.trans s4).trans s5) ?_;show Ú (Ï aD) (.B (Is.i _) (.B (Is.i _) (.B (Ú (s5.tup (s4.tup q3)) (Ò (s4.trans s5).ts _ _ Cj)) (.B (Is.b _) (.B (Is.tgOf t) (.B (Ì s5.ts _ _ iq) .nil))))))
def vJ (l:List Str):Str:=if l=[]then "none" else Str.join (one 32) l
def iB (l:List Int):Str:=vJ (l.map aU)
inductive Ans where
 |told (z:Str)
 |no (w:Str)
def K7 (S:RunS) (w:Str):Ans:=
 if w="held" then .told (iB S.cur.held)else if w="coming" then .told (iB S.cur.coming)else if w="doors" then .told (vJ (S.cur.doors.map jN))else
 if w="tick" then .told (aU S.cur.tick)else if w="came" then .told (aU S.cur.came)else if w="grounded" then .told (aU S.cur.ground)else .no "row"
def KI (S:RunS) (n:Int):RunS×Ans:=if 3000 < S.cur.tick+n then(S,.no "much")else(S.go n.Q,.told "ok")
def uK (S:RunS) (n:Int):RunS×Ans:=(S,if n < S.net.vs.Z then .told (iB (S.tips.getD n.toNat []))else .no "vessel")
def n8 (S:RunS) (n m:Int):RunS×Ans:=if n < S.net.vs.Z then(if 1000 < S.cur.poured.getD n.toNat 0+m then(S,.no "much")else(S.pour n m,.told "ok"))else(S,.no "vessel")
def iT (S:RunS) (w:Str):List Int->RunS×Ans
 |[]=>(S,K7 S w)
 |[n]=>if w="go" then KI S n else if w="tips" then uK S n else(S,.no "row")
 |[n,m]=>if w="pour" then n8 S n m else(S,.no "row")
 |_=>(S,.no "row")
end Tw
namespace L2
open PySem PySem.Spec PyProof.Rows TwZ
structure KDt (P:Ã) (w:World) (K:Ç) (a:Á) (ii:List (gS×V)):Prop where
 nm:(a==sysModules)=JJ
 ob:∀ h:Heap,K.In h->∃ vs,KV ii vs/\h.DictOf (eK P w) a vs
def XJ (a:Á) (ii:List (gS×V)):R2:=λ x y H Q=>∃ k:gS,y=.y a/\x=kV k/\Q (.bl (!(dQ ii k).isSome)) H
def ZD (a:Á) (ii:List (gS×V)) (ty:TE):TE:=λ σ H Q=>ty σ H λ y H1=>∃(k:gS) (v:V),y=kV k/\dQ ii k=O v/\Q v H1
def WZ (ii:List (gS×V)) (ty tx:TE):TE:=λ σ H Q=>ty σ H λ y H1=>tx σ H1 λ z H2=>∃ k:gS,y=kV k/\Q ((dQ ii k).getD z) H2
section
variable {X:Cx}{a:Á}{ii:List (gS×V)}{x:Str}{p pos apos ji:Pos}{e f:Expr}{ty tx:TE}
def PN (D:KDt X.prog X.w X.K a ii):jJ X (compareOp .NotIn) (XJ a ii):=by
 intro gu s σ H x y v u Q I rx ry h;let⟨k,Y,Y,q⟩:=h;ext ry;let⟨vs,rel,dd⟩:=D.ob _ I.kIn;show wpAny_notIn_of (zY rx) D.nm dd.mapOf ?_;rw[<-(rel.val k).isSome_eq];show⟨.bl (!(dQ ii k).isSome),H,I.tok _,Y,q⟩
def U7 (D:KDt X.prog X.w X.K a ii) (hg:Gl X x) (hm:X.mg x=O (.y a)) (hi:PE X e ty) (hs:NoSl e:=by show λ _ _=>Y) (hd:autoParam ((x==("__debug__":Str))=false) _2):PE X (.Y (.C x p) e pos) (ZD a ii ty):=by
 intro gu s σ H Q I h;show T8 PySem.F.slot_dict_getitem.lookup hs (kW I hg hm (dG (hi gu s σ H _ I h) λ iv s2 ⟨y,H2,I2,ry,k,v,ey,l,q2⟩=>?_) hd);subst ey;let⟨vs,rel,dd⟩:=D.ob _ I2.kIn;let⟨w',hw,uw⟩:=mS.some_of (v:=v) (o:=valueAt vs k) (by rw[<- l];show rel.val k);show⟨dd.typeIs,wpAny_getItem_of (zY ry) dd.mapOf hw ⟨v,H2,I2.tok _,uw,q2⟩⟩
def P7 (D:KDt X.prog X.w X.K a ii) (hg:Gl X x) (hm:X.mg x=O (.y a)) (he:PE X e ty) (hf:PE X f tx) (m:M2 X (.C x p) "get" apos e f ji) (hd:autoParam ((x==("__debug__":Str))=false) _2):PE X (.rj (.E (.C x p) "get" apos) [e,f] [] ji) (WZ ii ty tx):=by
 intro gu s σ H Q I h;show wpAny_Call_method m.base m.few m.line agg ő PySem.F.type_dict_get (kW I hg hm ?_ hd);let⟨vs,rel,dd⟩:=D.ob _ I.kIn;show⟨dd.typeIs,λ b q=>?_,?_⟩
 ·ext q;let⟨ob,_,_,h1,h2,_⟩:=dd;show⟨ob,h1,h2.2.1⟩
 rw[m.trees];show Ŧ Y (ũ (Ŕ (dG (he gu s σ H _ I h) λ iv s2 ⟨y,H2,I2,ry,q2⟩=>
  Ŕ (dG (hf gu s2 σ H2 _ I2 q2) λ fv s3 ⟨z,H3,I3,rz,k,ey,q3⟩=>af6 ?_))))
 subst ey;let⟨vs,rel,dd⟩:=D.ob _ I3.kIn;show call_meetsIn ő dd.typeIs ae1 (aev _ _ _) (meets_dict_get_default (eK X.prog X.w) a (zY ry) D.nm fv) ⟨_,dd.mapOf,⟨_,H3,I3.tok _,(rel.val k).getD rz,q3⟩⟩
end
def TU {X:Cx}{e:Expr}{t:TT} (h:∀ pn:List (Á×Obj),PT (X.within pn λ _ _=>False) e t):PT X e t:=by
 intro gu s σ H Q I h1;show î (h (X.pn++gu) [] s σ H Q I.within h1) (λ b ai ⟨H',J,q⟩=>⟨H',J.unwithin,q⟩) λ _ _ z=>z.elim
def X6 (i:Nat) (R:Á->Sp->Prop) (E:XK) (t:TA):TE:=λ σ H Q=>∃ f sp,σ[i]?=O (O (.y f))/\R f sp/\t σ H λ vs H1=>sp vs H1 Q E
section
variable {X:Cx}{CX:GH}{k i:Nat}{R:Á->Sp->Prop}{E:XK}{x:Str}{p pos:Pos}{e:Expr}{es:List Expr}{t:TA}
def PD (hR:∀ f sp,R f sp->∃ fd ps,FnOk X.prog X.w X.K X.mg X.base CX k f fd ps sp/\PySem.W.keepIn X.K (.y f)=EA/\gW X.K fd ps []) (hr:Room k X.A) (hx:j8 CX X E)
  (hN:X.N[i]?=O x) (hv:Z0 X.env.scope x) (ha:PA X (e::es) t)
  (hd:autoParam ((x==("__debug__":Str))=false) _2) (qi:autoParam ((x==("__classdict__":Str))=false) _2) (he:autoParam (starEach (e::es) X.env=(JJ,eval e X.env)::starEach es X.env) _0) (pj:autoParam ((backTo pos (starEach es X.env)).any (·.1)=false) _0) :
  PE X (.rj (.C x p) (e::es) [] pos) (X6 i R E t):=by
 intro gu s σ H Q I h;let⟨f,sp,bf,hf,h⟩:=h;let⟨fd,ps,F,hk,hb⟩:=hR f sp hf;show Ĵ ?_;show dG ((HI hN hv hd qi) gu s σ H (λ v H'=>v=V.ref f/\H'=H) I ⟨_,bf,Y,Y⟩) λ u s0 ⟨v,H0,I0,rv,q⟩=>?_;let⟨Y,Y⟩:=q;obtain rfl:u=Value.ref f:=rv;show ŕ (h₀:=X.base) I.ok.mod.kin hk (dG (ha pos gu s0 σ H0 _ I0 h) λ us s1 ⟨vs,H1,I1,r,q⟩=>⟨I1.kIn,?_⟩) he pj;show BB F hr hb .nil hx I1 r (by rw[þ];show q)
end
section
end
def iSeq (K:Ç) (tl:TE):TI:=λ σ H R=>R5 K tl σ H R\/YD K tl σ H R
def BL  (hK:X.K=K) (hl:PE X l tl):PI X tg l (iSeq K tl):=λ gu s σ H R I h=>by
 rcases h with h|h
 ·show gA hK hl gu s σ H R I h
 ·show dR hK hl gu s σ H R I h
end L2
namespace Tw
open PySem L2
def bC.same'  (e:aI H H') (h:bC K H a xs):bC K H' a xs:=by
 rcases h with h|h
 ·show .p (h.imp (e _ _) λ⟨o,h⟩=>⟨o,e _ _ h⟩)
 ·show .x h
def kD.same  (s:aI H H') (h:kD K H t a us):kD K H' t a us:=by
 cases t with
 |true=>show s.tup (a:=a) h
 |false=>show bC.same' s h
def CV {ts:List Str}{σ:St}{H:Hp}{Q:VK}{i:Nat} (hi:σ[i]?=O (O (.y a))) (hq:kD K H t a us) (he:us.map DV=ts.map O) (hl:us.Z<=900000)
  (k:∀ l H',aI H H'->H' l=O (.j (ts.map V.str))->Q (.y l) H'):tLC (iSeq K (eB i)) [W] (cZ 0) GN (SN OR (dJ (eB 0) jC)) σ H Q:=by
 let len:us.Z=ts.Z:=by let:=congrArg List.length he;simpa using this
 let go:∀(D:Á) (j:Nat) (x:V) (ys:List V) (ac:St) (H':Hp),us[j]?=O x->(H D=W/\aI H H'/\H' D=O (.j ys)/\ys=(ts.take j).map V.str/\∃ u,ac=[u])->cZ 0 x ac H' λ aq H3=>GN aq H3 λ b H4=>
   if b=EA then SN OR (dJ (eB 0) jC) aq H4 λ y H5=>H5 D=O (.j ys)/\ys.Z < sizeLine/\(λ D j ys ac H'=>H D=W/\aI H H'/\H' D=O (.j ys)/\ys=(ts.take j).map V.str/\∃ u,ac=[u]) D (j+1) (ys++[y]) aq (upd H5 D (.j (ys++[y])))
   else(λ D j ys ac H'=>H D=W/\aI H H'/\H' D=O (.j ys)/\ys=(ts.take j).map V.str/\∃ u,ac=[u]) D (j+1) ys aq H4:=by
  rintro D j x ys ac H' hx zQ;let⟨hD,sm,jc,Y,u,Y⟩:=zQ;let hj:=(à.mp hx).1;obtain⟨y,hy⟩:∃ y,ts[j]?=O y:=⟨_,Ğ JM⟩;let e1:DV x=O y:=by
   let:=congrArg (λ l=>l[j]?) he;simp only[Ö,hx,hy,ī,Option.some.injEq]at this;show this
  show⟨_,Y,x,y,Y,e1,jc,?_,hD,sm.put hD,aD,?_,_,Y⟩
  ·rw[ê,Ê,ô];lia
  ·rw[fL hy,Ñ];rfl
 cases t with
 |true=>
  show .x ⟨_,hi,a,Y,⟨us,hq⟩,i9 (K:=K) (a:=a) (xs:=us) (λ D j ys ac H'=>H D=W/\aI H H'/\H' D=O (.j ys)/\ys=(ts.take j).map V.str/\∃ u,ac=[u]) (λ D j ys ac H' p=>p.2.1.tup hq) (λ D hD=>⟨hD,È hD,aD,Y,W,Y⟩) ?_ go⟩;rintro D ys ac H' zQ;let⟨hD,sm,jc,Y,_⟩:=zQ;rw[len,ý]at jc;show k D H' sm jc
 |false=>
  show .p ⟨_,hi,a,Y,⟨us,hq⟩,oX (K:=K) (a:=a) (xs:=us) (λ D j ys ac H'=>H D=W/\aI H H'/\H' D=O (.j ys)/\ys=(ts.take j).map V.str/\∃ u,ac=[u]) (λ D j ys ac H' p=>kD.same (t:=JJ) p.2.1 hq) (λ D hD=>⟨hD,È hD,aD,Y,W,Y⟩) ?_ go⟩;rintro D ys ac H' zQ;let⟨hD,sm,jc,Y,_⟩:=zQ;rw[len,ý]at jc;show k D H' sm jc
structure TxtB (mg:Str->Option À):Prop where
 g_MOST_POURED:∃ u,mg "MOST_POURED"=O u/\bE (.u 1000) u
 g_MOST_TICKS:∃ u,mg "MOST_TICKS"=O u/\bE (.u 3000) u
def wB (K:Ç):Sp:=λ vs H Q _=>∃(x:V) (m:Mom) (v:Int),vs=[x,.u v]/\Is K H (oF m) x/\0<=v/\v < m.poured.Z/\Q (.u (1000 - m.poured.getD v.toNat 0)) H
def uO (F:Fun K "most_to_pour" "most_to_pour" (aX 27) f fd) (T:Txt mg) (U:TxtB mg):FnOk P w K mg base gT 1 f fd ["moment","vessel"] (wB K):=by
 show F.ok ["moment","vessel"] λ sc ir A outer s H vs Q E hr h=>?_
 ·let⟨x,m,v,Y,hx,v0,v1,k⟩:=h;show⟨_,(aG (aO (bA iM (bV Y U.g_MOST_POURED) (px K (px K (pv 0) aH) (pv 1))))),?_⟩;let⟨ma,po,st,Y,q,hs,hp⟩:=l9 hx;let ki:v.Q < m.poured.Z:=by lia
  let hg:m.poured[v.Q]?=O (m.poured.getD v.toNat 0):=by rw[ć,Ğ ki];rfl
  show⟨_,Y,.x (.p ⟨ma,_,2,_,Y,Y,q,Y,_,Y,.x (.p ⟨po,_,v,_,Y,Y,hp,sO v0 (by rw[Ö,hg];rfl),_,_,Y,Y,k⟩)⟩)⟩
def E1 (K:Ç):Sp:=λ vs H Q _=>∃(x:V) (m:Mom),vs=[x]/\Is K H (oF m) x/\Q (.u (3000 - m.tick)) H
def yN (F:Fun K "most_to_go" "most_to_go" (aX 28) f fd) (T:Txt mg) (U:TxtB mg):FnOk P w K mg base gT 1 f fd ["moment"] (E1 K):=by
 show F.ok ["moment"] λ sc ir A outer s H vs Q E hr h=>?_
 ·let⟨x,m,Y,hx,k⟩:=h;show⟨_,(aG (aO (bA iM (bV Y U.g_MOST_TICKS) (px K (pv 0) aH)))),?_⟩;let⟨ma,po,st,Y,q,hs,hp⟩:=l9 hx;show⟨_,Y,.x (.p ⟨ma,_,0,_,Y,Y,q,Y,_,_,Y,Y,k⟩)⟩
def mC (K:Ç):Sp:=λ vs H Q _=>∃(t:Bool) (a:Á) (us:List V) (ts:List Str),vs=[.y a]/\kD K H t a us/\us.map DV=ts.map O/\LJ ts<=900000/\∀ H',aI H H'->Q (.o (vJ ts)) H'
def x9 (F:Fun K "with_blanks" "with_blanks" (aX 92) f fd) (T:Txt mg) (TS:TxtS mg):FnOk P w K mg base gT 1 f fd ["things"] (mC K):=by
 show F.ok ["things"] λ sc ir A outer s H vs Q E hr h=>?_
 ·let⟨t,a,us,ts,Y,hq,he,hw,k⟩:=h;show⟨_,(aG (aO (iK (oU (K:=K) Y (pv 0) (λ _=>Y)) (iV (K:=K) Y ė Ę (fN (K:=K) Y) aL (a9 (hJ (λ _ _ h=>h) Y (LcOk.mk (N':=["thing"]) (fr:=[W]) Y trivial Y Y Y Y Y trivial) (BL (K:=K) Y (pv 0)) (λ _ _ _=>(gC 0 ["thing"])) (λ _ _ _=>cP) (λ _ _ _=>(aP cE Y TS.b_str cK (a9 (pv 0) aB)))) aB)) aL))),?_⟩;let len:us.Z=ts.Z:=by let:=congrArg List.length he;simpa using this
  let hl:=UZ ts;show⟨_,Y,!us.isEmpty,?_,?_⟩
  ·cases t with
   |true=>show .x (.p ⟨us,hq,Y⟩)
   |false=>show .p ⟨us,hq,Y⟩
  cases us with
  |nil=>
   let:ts=[]:=ċ len.symm;subst this;show k H (Ć _)
  |cons u r=>
   let xh:ts≠[]:=λ z=>by rw[z]at len;cases len
   let ew:vJ ts=Str.join (one 32) ts:=Ä xh;rw[ew]at k;show⟨Y,CV (K:=K) Y hq he JM λ l H' s' Qc=>?_⟩;show⟨" ",l,ts,Y,Y,É Qc,FO JL JM,?_⟩;rw[SM];show k _ s'
def YK (wd:Str):Nat:=if wd="pour" then 2 else if wd="go" then 1 else if wd="tips" then 1 else 0
def S2 (cR cM cV:Á) (wr:Str):Á:=if wr="much" then cM else if wr="vessel" then cV else cR
def iU (K:Ç) (C cR cM cV:Á) (wd:Str):Sp:=λ vs H Q E=>∃(e l:Á) (S:RunS) (fp:List Á) (ns:List Int) (d:Nat),vs=[.y e,.y l]/\bP K C H e S fp/\Rn S d/\d<=1000/\H l=O (.j (ns.map V.int))/\
 (∀ n∈ns,0<=n/\n < 10 ^ 9)/\ns.Z=YK wd/\(∀ S' z,iT S wd ns=(S',.told z)->∀ H',dP fp H H'->bP K C H' e S' fp->Q (.o z) H')/\
 (∀ S' wr,iT S wd ns=(S',.no wr)->E (.y (S2 cR cM cV wr)) W H)
theorem lZ:∀ {l:List Int},(∀ x∈l,0<=x/\x < 10 ^ 9)->LJ (l.map aU)<=10 * l.Z
 |[],_=>Í _
 |a::l,h=>by
  let h1:=h a è;let h2:=lZ λ x hx=>h x (Õ _ hx);let h3:=fY h1.1 h1.2;rw[Ø,DR,æ];lia
def iW {l:List Int} (h:∀ x∈l,0<=x/\x < 10 ^ 9):(l.map V.int).map DV=(l.map aU).map some:=by
 rw[đ,đ];show List.map_congr_left λ x hx=>dX (h x hx).1 (h x hx).2
def Rn.held  (h:Rn S d):∀ x∈S.cur.held,0<=x/\x < 10 ^ 9:=h.mp.small.1
def Rn.coming  (h:Rn S d):∀ x∈S.cur.coming,0<=x/\x < 10 ^ 9:=h.mp.small.2.1
def Rn.came  (h:Rn S d):0<=S.cur.came/\S.cur.came < 10 ^ 9:=h.mp.small.2.2.1
def Rn.ground  (h:Rn S d):0<=S.cur.ground/\S.cur.ground < 10 ^ 9:=h.mp.small.2.2.2
def Rn.tick  (h:Rn S d):0<=S.cur.tick/\S.cur.tick < 10 ^ 9:=⟨h.mp.t0,by let:=h.mp.t1;lia⟩
def Rn.w_held  (h:Rn S d):LJ (S.cur.held.map aU)<=900000:=by
 let:=lZ h.held;let:=h.ok.cur.st.h;let:=h.ok.nok.hi;lia
def Rn.w_coming  (h:Rn S d):LJ (S.cur.coming.map aU)<=900000:=by
 let:=lZ h.coming;let:=h.ok.cur.st.c;let:=h.ok.nok.hi;lia
def xK (F:Fun K "answer_held" "answer_held" (aX 82) f fd) (T:Txt mg) (iu:MCal P w K mg base C "state" ["self"] 1 (iX K C λ S v H=>Is K H (yG S.cur.held S.cur.coming S.cur.doors) v) f1 jf)
  (iw:Callee P w K mg base "with_blanks" ["things"] 1 (mC K) f2 ka):FnOk P w K mg base (iS P w) 9 f fd ["run","numbers"] (iU K C ic gx gv "held"):=by
 show F.okR ["run","numbers"] λ sc ir A outer s H vs Q E hr h L=>?_
 ·let⟨e,l,S,fp,ns,d,Y,ra,rn,hd,hl,hn,hc,k,_⟩:=h;obtain rfl:ns=[]:=ċ hc;show⟨_,(aG (aO (cD iw hr (a9 (px K (gB (pv 0) iu.cls iu.mt iu.ok (hr.mono JL) iu.bd .nil jY) aH) aB)))),?_⟩;let⟨dx,np,R,M,T',ei⟩:=ra.ins;show⟨_,Y,e,dx,_,Y,ei,nF "state" Y,e,S,fp,Y,ra,λ v hv=>?_⟩;let⟨a,b1,b2,b3,Y,q,q1,q2,q3⟩:=zE hv;show .x (.p ⟨a,_,0,_,Y,Y,q,Y,EA,b1,_,S.cur.held.map aU,Y,q1,iW rn.held,rn.w_held,λ H' s=>k S _ Y H' s.butL (ra.same s)⟩)
def tJ (F:Fun K "answer_coming" "answer_coming" (aX 83) f fd) (T:Txt mg) (iu:MCal P w K mg base C "state" ["self"] 1 (iX K C λ S v H=>Is K H (yG S.cur.held S.cur.coming S.cur.doors) v) f1 jf)
  (iw:Callee P w K mg base "with_blanks" ["things"] 1 (mC K) f2 ka):FnOk P w K mg base (iS P w) 9 f fd ["run","numbers"] (iU K C ic gx gv "coming"):=by
 show F.okR ["run","numbers"] λ sc ir A outer s H vs Q E hr h L=>?_
 ·let⟨e,l,S,fp,ns,d,Y,ra,rn,hd,hl,hn,hc,k,_⟩:=h;obtain rfl:ns=[]:=ċ hc;show⟨_,(aG (aO (cD iw hr (a9 (px K (gB (pv 0) iu.cls iu.mt iu.ok (hr.mono JL) iu.bd .nil jY) aH) aB)))),?_⟩;let⟨dx,np,R,M,T',ei⟩:=ra.ins;show⟨_,Y,e,dx,_,Y,ei,nF "state" Y,e,S,fp,Y,ra,λ v hv=>?_⟩;let⟨a,b1,b2,b3,Y,q,q1,q2,q3⟩:=zE hv;show .x (.p ⟨a,_,1,_,Y,Y,q,Y,EA,b2,_,S.cur.coming.map aU,Y,q2,iW rn.coming,rn.w_coming,λ H' s=>k S _ Y H' s.butL (ra.same s)⟩)
def xI (F:Fun K "answer_tick" "answer_tick" (aX 85) f fd) (T:Txt mg) (TS:TxtS mg) (jk:MCal P w K mg base C "tick" ["self"] 1 (iX K C λ S v H=>v=.u S.cur.tick) f1 jf) :
  FnOk P w K mg base (iS P w) 9 f fd ["run","numbers"] (iU K C ic gx gv "tick"):=by
 show F.okR ["run","numbers"] λ sc ir A outer s H vs Q E hr h L=>?_
 ·let⟨e,l,S,fp,ns,d,Y,ra,rn,hd,hl,hn,hc,k,_⟩:=h;obtain rfl:ns=[]:=ċ hc;show⟨_,(aG (aO (aP cE Y TS.b_str cK (a9 (gB (pv 0) jk.cls jk.mt jk.ok (hr.mono JL) jk.bd .nil jY) aB)))),?_⟩;let⟨dx,np,R,M,T',ei⟩:=ra.ins;show⟨_,Y,e,dx,_,Y,ei,nF "tick" Y,e,S,fp,Y,ra,λ v hv=>?_⟩;subst hv;show⟨_,_,Y,dX rn.tick.1 rn.tick.2,k S _ Y H (Ć H).butL ra⟩
def xL (F:Fun K "answer_came" "answer_came" (aX 86) f fd) (T:Txt mg) (TS:TxtS mg) (jl:MCal P w K mg base C "came" ["self"] 1 (iX K C λ S v H=>v=.u S.cur.came) f1 jf) :
  FnOk P w K mg base (iS P w) 9 f fd ["run","numbers"] (iU K C ic gx gv "came"):=by
 show F.okR ["run","numbers"] λ sc ir A outer s H vs Q E hr h L=>?_
 ·let⟨e,l,S,fp,ns,d,Y,ra,rn,hd,hl,hn,hc,k,_⟩:=h;obtain rfl:ns=[]:=ċ hc;show⟨_,(aG (aO (aP cE Y TS.b_str cK (a9 (gB (pv 0) jl.cls jl.mt jl.ok (hr.mono JL) jl.bd .nil jY) aB)))),?_⟩;let⟨dx,np,R,M,T',ei⟩:=ra.ins;show⟨_,Y,e,dx,_,Y,ei,nF "came" Y,e,S,fp,Y,ra,λ v hv=>?_⟩;subst hv;show⟨_,_,Y,dX rn.came.1 rn.came.2,k S _ Y H (Ć H).butL ra⟩
def qH (F:Fun K "answer_grounded" "answer_grounded" (aX 87) f fd) (T:Txt mg) (TS:TxtS mg) (iz:MCal P w K mg base C "grounded" ["self"] 1 (iX K C λ S v H=>v=.u S.cur.ground) f1 jf) :
  FnOk P w K mg base (iS P w) 9 f fd ["run","numbers"] (iU K C ic gx gv "grounded"):=by
 show F.okR ["run","numbers"] λ sc ir A outer s H vs Q E hr h L=>?_
 ·let⟨e,l,S,fp,ns,d,Y,ra,rn,hd,hl,hn,hc,k,_⟩:=h;obtain rfl:ns=[]:=ċ hc;show⟨_,(aG (aO (aP cE Y TS.b_str cK (a9 (gB (pv 0) iz.cls iz.mt iz.ok (hr.mono JL) iz.bd .nil jY) aB)))),?_⟩;let⟨dx,np,R,M,T',ei⟩:=ra.ins;show⟨_,Y,e,dx,_,Y,ei,nF "grounded" Y,e,S,fp,Y,ra,λ v hv=>?_⟩;subst hv;show⟨_,_,Y,dX rn.ground.1 rn.ground.2,k S _ Y H (Ć H).butL ra⟩
def IO (S:RunS) (n:Int):iT S "go" [n]=KI S n:=by
 change(if ("go":Str)="go" then KI S n else if ("go":Str)="tips" then uK S n else(S,.no "row"))=_;show Å Y
def G7 (S:RunS) (n:Int):iT S "tips" [n]=uK S n:=by
 change(if ("tips":Str)="go" then KI S n else if ("tips":Str)="tips" then uK S n else(S,.no "row"))=_;rw[Ä JK,Å rfl]
def GA (S:RunS) (n m:Int):iT S "pour" [n,m]=n8 S n m:=by
 change(if ("pour":Str)="pour" then n8 S n m else(S,.no "row"))=_;show Å Y
def Rn.wtip  (h:Rn S d) (hd:d<=1000) (hl:l∈S.tips):LJ (l.map aU)<=900000:=by
 let h1:=lZ (h.tp l hl);let h2:=h.sz.tips l hl;let h3:=h.mp.t0;let h4:=h.mp.t1;lia
def xH (F:Fun K "answer_tips" "answer_tips" (aX 88) f fd) (T:Txt mg) (jm:MCalR P w K mg base C "tips" ["self","vessel"] 3 (AN K C gv) f1 jf)
  (iw:Callee P w K mg base "with_blanks" ["things"] 1 (mC K) f2 ka):FnOk P w K mg base (iS P w) 9 f fd ["run","numbers"] (iU K C ic gx gv "tips"):=by
 show F.okR ["run","numbers"] λ sc ir A outer s H vs Q E hr h L=>?_
 ·let⟨e,l,S,fp,ns,d,Y,ra,rn,hd,hl,hn,hc,k,kE⟩:=h;obtain⟨n,rfl⟩:∃ n,ns=[n]:=match ns,hc with|[n],_=>⟨n,rfl⟩
  rw[G7]at k kE;let yy:=(hn n JN).1;show⟨_,(aG (aO (cD iw hr (a9 (kU (pv 0) jm.cls jm.mt jm.ok (hr.mono JL) jm.bd .nil (bX L) (a9 (px K (pv 1) aH) aB)) aB)))),?_⟩;let⟨dx,np,R,M,T',ei⟩:=ra.ins;show⟨_,Y,e,dx,_,Y,ei,nF "tips" Y,_,Y,.p ⟨l,_,0,.u n,Y,Y,É hl,Y,e,S,fp,n,Y,ra,?_⟩⟩;unfold uK at k kE
  by_cases hv:n < S.net.vs.Z
  ·rw[Å hv]at k;show .p ⟨yy,hv,λ tl p rp hp=>?_⟩;let eg:S.tips.getD n.toNat []=tl:=by rw[ć,rp];rfl
   rw[eg]at k;let hm:=Ô rp;let s1:=È (o:=HO.lst (tl.map V.int)) hp;show⟨JJ,p,_,tl.map aU,Y,É aD,iW (rn.tp tl hm),rn.wtip hd hm,λ H' s2=>k S _ Y H' (s1.trans s2).butL (ra.same (s1.trans s2))⟩
  ·rw[Ä hv]at kE;show .x ⟨λ z=>hv z.2,?_⟩;show kE S _ Y
def CF (F:Fun K "answer_go" "answer_go" (aX 80) f fd) (T:Txt mg) (tx:RunTx K C) (ju:ExC K "TooMuch" gx) (ug:Callee P w K mg base "most_to_go" ["moment"] 1 (E1 K) f1 jf)
  (kf:MCal P w K mg base C "go" ["self","many"] 7 (XA K C) f2 ka):FnOk P w K mg base (iS P w) 9 f fd ["run","numbers"] (iU K C ic gx gv "go"):=by
 show F.okR ["run","numbers"] λ sc ir A outer s H vs Q E hr h L=>?_
 ·let⟨e,l,S,fp,ns,d,Y,ra,rn,hd,hl,hn,hc,k,kE⟩:=h;obtain⟨n,rfl⟩:∃ n,ns=[n]:=match ns,hc with|[n],_=>⟨n,rfl⟩
  rw[IO]at k kE;let yy:=(hn n JN).1;show⟨_,(aE (bK (aR rX (px K (pv 1) aH) (cD ug hr (a9 (px K (bY (K:=K) Y (pv 0) Y) (pR kZ aH)) aB)) (aW _)) (aG (eY L Y Y ju.exc ju.ns Č (a9 aL aB))) aS)
   (aE (bL (kU (pv 0) kf.cls kf.mt kf.ok (hr.mono JL) kf.bd .nil jY (a9 (px K (pv 1) aH) aB)))
   (aG (aO aL)))),?_⟩
  let oy:=ra;let⟨dx,np,R,M,T',ts,rs,ms,mv,c,Y⟩:=oy;show⟨_,Y,.p ⟨l,_,0,.u n,Y,Y,É hl,Y,_,Y,e,C,dx,_,_,Y,c.ins,tx.cls,tx.moments,eJ,1,Y,.p ⟨M,_,-1,_,Y,Y,É c.hM,iO _ _,mv,S.cur,Y,c.cM,?_⟩⟩⟩;unfold KI at k kE;show⟨_,_,Y,Y,_,Y,iN (λ hT=>?_) λ hF=>?_⟩
  ·let hT:=ð hT;rw[Å JM]at kE;show⟨by change 1<=100;decide,kE S _ Y⟩
  ·let hF:¬ (3000 - S.cur.tick < n):=λ z=>hF (á z);rw[Ä JM]at k;let ht:=rn.mp.t0;let⟨m,Y⟩:=Ē yy;let e0:iT S "go" [(m:Int)]=KI S m:=IO S m;show⟨_,Y,e,dx,_,Y,c.ins,nF "go" Y,_,Y,.p ⟨l,_,0,.u (m:Int),Y,Y,É hl,Y,e,S,_,m,_,Y,ra,rn.sz,?_,?_,λ H' b oy=>k (S.go m) _ Y H' b oy⟩⟩
   ·let:=rn.mp.t1;lia
   ·lia
def xJ (F:Fun K "answer_pour" "answer_pour" (aX 79) f fd) (T:Txt mg) (tx:RunTx K C) (ju:ExC K "TooMuch" gx) (ij:CalleeR P w K mg base "need_vessel" ["net","number"] 2 (oS K gv) f1 jf) (qu:Callee P w K mg base "most_to_pour" ["moment","vessel"] 1 (wB K) f2 ka)
  (jn:MCalR P w K mg base C "pour" ["self","vessel","amount"] 3 (AQ K C gv) f3 oq):FnOk P w K mg base (iS P w) 9 f fd ["run","numbers"] (iU K C ic gx gv "pour"):=by
 show F.okR ["run","numbers","vessel","amount"] λ sc ir A outer s H vs Q E hr h L=>?_
 ·let⟨e,l,S,fp,ns,d,Y,ra,rn,hd,hl,hn,hc,k,kE⟩:=h;obtain⟨n,m,rfl⟩:∃ n m,ns=[n,m]:=match ns,hc with|[n,m],_=>⟨n,m,rfl⟩
  rw[GA]at k kE;let yy:=(hn n JN).1;let wf:=(hn m JN).1;show⟨_,(aE (bF (pv 1) (vA (K:=K) (n:=2) Y Y (aF (gL 2 sc.nd) (aF (gL 3 sc.nd) aQ))))
   (aE (bL (bZ ij.ok (hr.mono JL) Y ij.mg ij.kp ij.bd .nil (bX L) (a9 (bY (K:=K) Y (pv 0) Y) (a9 (pv 2) aB))))
   (aE (bK (aR rX (pv 3) (cD qu hr (a9 (px K (bY (K:=K) Y (pv 0) Y) (pR kZ aH)) (a9 (pv 2) aB))) (aW _)) (aG (eY L Y Y ju.exc ju.ns Č (a9 aL aB))) aS)
   (aE (bL (kU (pv 0) jn.cls jn.mt jn.ok (hr.mono JL) jn.bd .nil (bX L) (a9 (pv 2) (a9 (pv 3) aB))))
   (aG (aO aL)))))),?_⟩
  let oy:=ra;let⟨dx,np,R,M,T',ts,rs,ms,mv,c,Y⟩:=oy;show⟨_,Y,l,_,Y,É hl,Y,_,_,Y,_,_,Y,Y,?_⟩;show⟨_,Y,e,C,dx,_,_,Y,c.ins,tx.cls,tx.net,qJ,_,Y,np,S.net,n,Y,c.net,?_⟩;unfold n8 at k kE
  by_cases hv:n < S.net.vs.Z
  ·rw[Å hv]at k kE;let pj:=rn.ok.cur.pl;show .p ⟨yy,hv,?_⟩;show⟨_,Y,_,Y,e,C,dx,_,_,Y,c.ins,tx.cls,tx.moments,eJ,1,Y,.p ⟨M,_,-1,_,Y,Y,É c.hM,iO _ _,_,Y,mv,S.cur,n,Y,c.cM,yy,by rw[pj];show hv,?_⟩⟩;show⟨_,_,Y,Y,_,Y,iN (λ hT=>?_) λ hF=>?_⟩
   ·let hT:=ð hT;rw[Å JM]at kE;show⟨by change 1<=100;decide,kE S _ Y⟩
   ·let hF:¬ (1000 - S.cur.poured.getD n.toNat 0 < m):=λ z=>hF (á z);rw[Ä JM]at k;show⟨_,Y,e,dx,_,Y,c.ins,nF "pour" Y,_,Y,_,Y,e,S,_,n,m,_,Y,ra,rn.sz,?_,.p ⟨yy,hv,λ H' b oy=>k (S.pour n m) _ Y H' b oy⟩⟩;let:=rn.mp.t1;let:=rn.mp.t0;lia
  ·rw[Ä hv]at kE;show .x ⟨λ z=>hv z.2,kE S _ Y⟩
def kG (wd:Str):Nat:=if wd="pour" then 2 else if wd="go" then 1 else if wd="tips" then 1 else if wd="stuck" then 1 else if wd="soonest" then 2 else 0
def kS (wd:Str):gS:=.x (O wd)
def Y1 :([("run",e)]:List (Str×V)).lookup ("run":Str)=O e:=rfl
structure DeskTx2 (K:Ç) (CD:Á):Prop where
 cls:Cls K CD
 run:kC K CD "run"
def VZ (K:Ç) (cL:Á):Sp:=λ vs H Q E=>∃(x:V) (net:Net),vs=[x]/\Is K H (gE net) x/\NetOk net/\
 (∀ t j p tl us H',YQ net t j->aI H H'->bH K H' p [.u j,.y tl]->H' tl=O (.j us)->us.Z=t->IsL K H' ((List.range t).map λ i=>IW ((bQ net i).tk net)) us->H tl=W->Q (.y p) H')/\(YT net->∀ H',aI H H'->E (.y cL) W H')
def CB (F:Fun K "go_round" "go_round" (aX 51) f fd) (T:Txt mg) (U:TxtT mg) (jv:ExC K "TooLong" gy)
  (jj:Callee P w K mg base "first_state" ["net"] 1 (qX K) f1 jf) (jx:Callee P w K mg base "pouring" ["net","amount"] 1 (jR K) f2 ka) (jd:Callee P w K mg base "tick_behind" ["net","state","poured"] 4 (vX K) f3 oq) :
  FnOk P w K mg base (iS P w) 5 f fd ["net"] (VZ K gy):=by
 show F.okR ["net","state","nothing","seen","told","tick"] λ sc ir A outer s H vs Q E hr h L=>?_
 ·let⟨x,net,Y,hx,nok,kR,kL⟩:=h;show⟨_,(aE (BG (i:=1) (j:=2) Y sc.nd Y Y JL Y Y (a9 (cD jj hr (a9 (pv 0) aB)) (a9 (cD jx hr (a9 (pv 0) (a9 aH aB))) aB)) Y)
   (aE (BG (i:=3) (j:=4) Y sc.nd Y Y JL Y Y (a9 wU (a9 (aY aB) aB)) Y)
   (aE (uZ λ pn=>(eE ú Y (eX Y T.b_range (a9 (bA dM (bV Y U.g_LAST_TICK) aH) aB)) (gL 5 sc.nd) (aE (bK (aR (JZ (P:=P) (w:=w) (K:=K) Y Y Y hr.R) (pv 1) (pv 3) (by rfl)) (aG (aO (bG (a9 (P8 (WC (P:=P) (w:=w) (K:=K) Y Y Y hr.R) (pv 3) (pv 1) (λ _ _=>Y)) (a9 (pv 4) aB))))) aS)
   (aE (tD (P:=P) (w:=w) (K:=K) Y Y Y hr.units (pv 3) (pv 1) (pv 5) Y)
   (aE (bL (eF (K:=K) Y í ö ø bW (pv 4) (a9 (cD jd hr (a9 (pv 0) (a9 (pv 1) (a9 (pv 2) aB)))) aB)))
   (aG (pL 1 sc.nd (px K (px K (pv 4) (pR kZ aH)) aH))))))))
   (aG (eY L Y Y jv.exc jv.ns Č (a9 aL aB)))))),?_⟩
  show⟨_,Y,x,net,Y,hx,nok,λ st H1 pq rj=>⟨_,Y,x,net,0,Y,Ì pq.ts _ _ hx,nok,λ z H2 mw qz=>⟨_,_,Y,?_⟩⟩⟩;let s2:=pq.trans mw;let Qd:=Ì mw.ts _ _ rj;rw[lY nok.lo]at qz;show λ sd wt=>⟨ß _,λ tl rp=>⟨_,_,Y,?_⟩⟩;let Az:sd≠tl:=aM (show upd H2 sd (.dK []) sd=_ from aD) rp;let fs:H sd=none:=s2.free wt;let ft:H tl=none:=(s2.trans (È wt)).free rp;let s3:aI H2 (upd (upd H2 sd (.dK [])) tl (.j [])):=(È wt).trans (È rp);let g1:upd (upd H2 sd (.dK [])) tl (.j []) sd=O (.dK []):=by rw[aK Az];show aD
  let g2:upd (upd H2 sd (.dK [])) tl (.j []) tl=O (.j []):=aD;generalize upd (upd H2 sd (.dK [])) tl (.j [])=H3 at s3 g1 g2;show⟨_,_,Y,Y,_,Y,JL,JL,?_⟩;show jT (lo:=0) (n:=2001) (λ i ac H'=>aI H H'/\(∀ m,m < i->EB net m=W)/\fP P w K H' sd (NH net) (jL net i)/\(∃ us,H' tl=O (.j us)/\IsL K H' ((List.range i).map λ i=>IW ((bQ net i).tk net)) us)/\bH K H' z ((cA net.vs.Z).map V.int)/\
   ∃ st v5,Is K H' (fX (bQ net i)) st/\ac=[O x,O st,O (.y z),O (.y sd),O (.y tl),v5]) ?_ ?_ ?_
  ·show⟨s2.trans s3,λ m hm=>absurd hm (Nat.not_lt_zero _),fP.new g1,⟨[],g2,.nil⟩,s3.tup qz,st,_,Ì s3.ts _ _ Qd,Y⟩
  ·rintro i ac H4 hi zQ;let⟨s4,Fi,dd,⟨us,Iy,Qe⟩,Vi,st,v5,Iz,Y⟩:=zQ;rw[Ż];let Ja:us.Z=i:=by rw[Qe.Z];simp
   let ur:=AK nok i;let key:=KB ur Iz;let qj:=E5 net i;dsimp only[jG];show⟨_,Y,_,Y,sd,NH net,jL net i,fX (bQ net i),Y,dd,key,_,Y,?_⟩;cases hr:EB net i with
   |some v=>
    let xg:dQ (jL net i) (fX (bQ net i))=O v:=hr;rw[xg];show cH ?_;let⟨j,Y⟩:=E6 net _ v i xg;show⟨_,Y,_,Y,sd,NH net,jL net i,fX (bQ net i),.u j,Y,dd,key,xg,_,Y,(sz0 2),λ p hp=>?_⟩;let s5:=È (o:=HO.tup [.u j,.y tl]) hp;show kR i j p tl us _ ⟨JM,hr,Fi⟩ (s4.trans s5) (Ï aD) (s5 _ _ Iy) Ja (Ò s5.ts _ _ Qe) ft
   |none=>
    let xg:dQ (jL net i) (fX (bQ net i))=none:=hr;rw[xg];show bR ?_;show⟨_,Y,_,Y,_,Y,sd,NH net,jL net i,fX (bQ net i),Y,dd,key,iH JM,λ H5 b5 dd5=>?_⟩;let sx:=b5.ts (K:=K) dd.mut;let s5:aI H H5:=λ b o e=>b5 b o (aM e fs) (s4 b o e);let ntl:tl≠sd:=Ne.symm Az;let Jb:=b5 _ _ ntl Iy;let hx5:=Ì s5.ts _ _ hx;let Qf:=Ì sx _ _ Iz;show⟨_,Y,.p ⟨Y,_,É Jb⟩,_,Y,_,Y,_,Y,x,st,z,net,_,_,cA net.vs.Z,_,Y,hx5,Qf,sx _ _ Vi,nok,ur,jA _,λ f ys H6 Jc hf6 Vj=>?_⟩;let Jd:=Jc _ _ Jb;show⟨tl,us,_,Y,Y,Jd,iH JM,?_⟩;let Fu:lX (H6 tl):=by rw[Jd];show trivial
    let b7:cI tl H6 (upd H6 tl (.j (us++[.y f]))):=Û;let rq:=b7.ts (K:=K) Fu;let⟨fa,Pa,ef,qf,lf⟩:=(show Is K H6 (.v [yG ((bQ net i).tk net).held ((bQ net i).tk net).coming ((bQ net i).tk net).doors,.v (((bQ net i).tk net).tip.map λ(i:Nat)=>L2.D.int (i:Int)),.u ((bQ net i).tk net).ground]) (.y f)from Vj).un;ext ef;let⟨y1,r,Y,j1,lf⟩:=lf.un;show⟨_,Y,1,Y,.p ⟨tl,_,-1,_,Y,Y,É aD,iO _ _,.x (.p ⟨f,_,0,_,Y,Y,rq _ _ qf,(show KU (y1::r) 0=O y1 from hW (xs:=y1::r) (j:=0) Y),?_⟩)⟩⟩;show⟨(s5.trans Jc).put ft,λ m hm=>?_,(dd5.same Jc).mono rq λ o e=>b7 _ _ Az e,⟨_,aD,by rw[ŋ,Ñ];show ď (Ì rq _ _ Vj) (Ò ((sx.trans Jc.ts).trans rq) _ _ Qe)⟩,rq _ _ (Jc.tup (sx _ _ Vi)),y1,_,Ì rq _ _ j1,Y⟩;rcases (show m < i\/m=i by lia)with h|rfl
    ·show Fi m h
    ·show hr
  ·rintro ac H4 zQ;let⟨s4,Fi,_⟩:=zQ;show⟨by change 1<=100;decide,kL (λ i hi=>Fi i JM) _ s4⟩
def wA (K:Ç) (cL:Á):Sp:=λ vs H Q E=>∃(x:V) (net:Net),vs=[x]/\Is K H (gE net) x/\NetOk net/\
 (∀ t j p H',YQ net t j->aI H H'->bH K H' p [.u j,.u ((t:Int) - j)]->Q (.y p) H')/\(YT net->∀ H',aI H H'->E (.y cL) W H')
def BU (F:Fun K "round_of" "round_of" (aX 50) f fd) (T:Txt mg) (lz:CalleeR P w K mg base "go_round" ["net"] 5 (VZ K gy) f1 jf) :
  FnOk P w K mg base (iS P w) 6 f fd ["net"] (wA K gy):=by
 show F.okR ["net","ahead","told"] λ sc ir A outer s H vs Q E hr h L=>?_
 ·let⟨x,net,Y,hx,nok,kR,kL⟩:=h;show⟨_,(aE (bF (bZ lz.ok (hr.mono JL) Y lz.mg lz.kp lz.bd .nil (bX L) (a9 (pv 0) aB)) (aV (K:=K) (n:=2) Y Y (aF (gL 1 sc.nd) (aF (gL 2 sc.nd) aQ))))
   (aG (aO (bG (a9 (pv 1) (a9 (bA iM (zU K T.b_len (pv 2)) (pv 1)) aB)))))),?_⟩
  show⟨_,Y,x,net,Y,hx,nok,λ t j p tl us H1 uh s1 qp rp Ja _ _=>?_,kL⟩;show⟨p,_,Y,qp,Y,_,_,Y,_,_,Y,Y,?_⟩;show⟨_,Y,_,Y,tl,us,Y,.p (É rp),_,Y,_,_,Y,Y,(sz0 2),λ p2 rk=>?_⟩;rw[Ja];show kR t j p2 _ uh (s1.trans (È rk)) (Ï aD)
theorem xV :∀ {ds:List L2.D}{xs:List V} (i:Nat),L2.IsL K H ds xs->L2.IsL K H (ds.take i) (xs.take i)
 |_,_,0,_=>by rw[Ŝ,Ŝ];show .nil
 |[],_,i+1,h=>by let:=h.un0;subst this;show .nil
 |d::ds,_,i+1,h=>by
  let⟨x,r,Y,h1,h⟩:=h.un;show .B h1 (xV i h)
theorem xW :∀ {ds:List L2.D}{xs:List V} (i:Nat),L2.IsL K H ds xs->L2.IsL K H (ds.drop i) (xs.drop i)
 |_,_,0,h=>h
 |[],_,i+1,h=>by let:=h.un0;subst this;show .nil
 |d::ds,_,i+1,h=>by
  let⟨x,r,Y,h1,h⟩:=h.un;show xW i h
def O5 (K:Ç):Sp:=λ vs H Q _=>∃(x y:V) (net:Net) (v:Vs) (j:Nat),vs=[x,.u (j:Int),y]/\Is K H (gE net) x/\net.vs.Z<=100/\j < net.vs.Z/\Is K H (AH v) y/\
 ∀ p H',aI H H'->Is K H' (gE ⟨net.vs.take j++[v]++net.vs.drop (j+1),net.sps⟩) p->Q p H'
def x8 (F:Fun K "with_vessel" "with_vessel" (aX 45) f fd) (T:Txt mg):FnOk P w K mg base gT 1 f fd ["net","number","vessel"] (O5 K):=by
 show F.ok ["net","number","vessel","vessels","spouts"] λ sc ir A outer s H vs Q E hr h=>?_
 ·let⟨x,y,net,v,j,Y,hx,n2,hj,iv,k⟩:=h;show⟨_,(aE (bF (pv 0) (aV (K:=K) (n:=2) Y Y (aF (gL 3 sc.nd) (aF (gL 4 sc.nd) aQ))))
   (aG (aO (bG (a9 (bA (zW (K:=K) Y) (bA (zW (K:=K) Y) (wT (JH (K:=K) Y) (pv 3) BI (BH (pv 1))) (bG (a9 (pv 2) aB))) (wT (JH (K:=K) Y) (pv 3) (BH (bA dM (pv 1) aH)) BI)) (a9 (pv 4) aB)))))),?_⟩
  let⟨a,b,c,xs,ys,Y,q,q1,l1,q2,l2⟩:=j5 hx;let ve:xs.Z=net.vs.Z:=by rw[l1.Z,Ê]
  show⟨_,Y,a,_,Y,q,Y,_,_,Y,_,_,Y,Y,?_⟩;let Ij:j < xs.Z:=by lia
  let Vk:tQ xs W (O (j:Int))=xs.take j:=by
   unfold tQ;rw[HT.sIx_none,HT.sIx_nat,List.drop_zero,Nat.sub_zero,ń JM]
  let ye:tQ xs (O ((j:Int)+1)) W=xs.drop (j+1):=by
   unfold tQ;rw[HT.sIx_none,show((j:Int)+1)=((j+1:Nat):Int) by lia,HT.sIx_nat,ń JM];show ù (by rw[Ű];lia)
  show⟨_,Y,_,Y,_,Y,b,xs,Y,q1,?_,λ p1 Ce=>?_⟩
  ·rintro⟨_,z⟩;rw[HT.sIx_nat,ń JM]at z;lia
  rw[Vk];let s2:=È (o:=HO.tup (xs.take j)) Ce;let t2:bH K (upd H p1 (.v (xs.take j))) p1 (xs.take j):=Ï aD;generalize upd H p1 (.v (xs.take j))=H2 at s2 t2;show⟨_,Y,(sz0 1),λ p2 rk=>?_⟩;let s3:=È (o:=HO.tup [y]) rk;let t3:bH K (upd H2 p2 (.v [y])) p2 [y]:=Ï aD;generalize upd H2 p2 (.v [y])=H3 at s3 t3;show⟨p1,p2,_,_,Y,Y,s3.tup t2,t3,ğ (bB (by rw[ô,Ą];lia)),λ p3 H4 s4 t4=>?_⟩;let Mg:=(s2.trans s3).trans s4;show⟨_,Y,_,Y,_,_,Y,Y,_,Y,b,xs,Y,Mg.tup q1,?_,λ p4 Ck=>?_⟩
  ·rintro⟨z,_⟩;rw[show((j:Int)+1)=((j+1:Nat):Int) by lia,HT.sIx_nat]at z;lia
  rw[ye];let s5:=È (o:=HO.tup (xs.drop (j+1))) Ck;let t5:bH K (upd H4 p4 (.v (xs.drop (j+1)))) p4 (xs.drop (j+1)):=Ï aD;generalize upd H4 p4 (.v (xs.drop (j+1)))=H5 at s5 t5;show⟨p3,p4,_,_,Y,Y,s5.tup t4,t5,ğ (bB (by rw[Ý,ô,Ű,Ą];lia)),λ p5 H6 s6 t6=>?_⟩;show⟨_,Y,(sz0 2),λ p hp=>?_⟩;let s7:=È (o:=HO.tup [.y p5,.y c]) hp;let Gc:=((Mg.trans s5).trans s6).trans s7;show k _ _ Gc (Ú (ds:=[.v ((net.vs.take j++[v]++net.vs.drop (j+1)).map AH),.v (net.sps.map SO)]) (Ï aD) (.B (Ú (s7.tup t6) ?_) (.B (Ú (Gc.tup q2) (Ò Gc.ts _ _ l2)) .nil)));rw[Ñ,Ñ,List.map_take,List.map_drop];show IsL.append (IsL.append (Ò Gc.ts _ _ (xV j l1)) (.B (Ì Gc.ts _ _ iv) .nil)) (Ò Gc.ts _ _ (xW (j+1) l1))
def vZ (K:Ç):Sp:=λ vs H Q _=>∃(x:V) (net:Net) (j:Nat),vs=[x,.u (j:Int)]/\Is K H (gE net) x/\NetOk net/\j < net.vs.Z/\∀ p H',aI H H'->Is K H' (gE (bD net (O j))) p->Q p H'
def BS (F:Fun K "stuck_net" "stuck_net" (aX 62) f fd) (T:Txt mg) (su:Callee P w K mg base "with_vessel" ["net","number","vessel"] 1 (O5 K) f1 jf) :
  FnOk P w K mg base gT 2 f fd ["net","vessel"] (vZ K):=by
 show F.ok ["net","vessel","size","brim","outs","holds","spill","acts"] λ sc ir A outer s H vs Q E hr h=>?_
 ·let⟨x,net,j,Y,hx,nok,hj,k⟩:=h;show⟨_,(aE (bF (px K (px K (pv 0) aH) (pv 1)) (aV (K:=K) (n:=6) Y Y (aF (gL 2 sc.nd) (aF (gL 3 sc.nd) (aF (gL 4 sc.nd) (aF (gL 5 sc.nd) (aF (gL 6 sc.nd) (aF (gL 7 sc.nd) aQ))))))))
   (aG (aO (cD su hr (a9 (pv 0) (a9 (pv 1) (a9 (bG (a9 (bA dM (pv 3) aH) (a9 (pv 3) (a9 (pv 4) (a9 (pv 5) (a9 (pv 6) (a9 (pv 7) aB))))))) aB))))))),?_⟩
  let n2:=nok.hi;let⟨a,b,c,xs,ys,Y,q,q1,l1,q2,l2⟩:=j5 hx;let hv:net.vs[j]?=O net.vs[j]:=by simp[hj]
  generalize net.vs[j]=v at hv;let⟨xv,Hz,Ia⟩:=l1.get (i:=j) (d:=AH v) (by rw[Ö,hv];rfl);let⟨va,o,cc,Y,qv,ho,hc⟩:=yW Ia;show⟨_,Y,.x (.p ⟨a,_,0,_,Y,Y,q,Y,_,Y,.x (.p ⟨b,xs,(j:Int),_,Y,Y,q1,hW Hz,va,_,Y,qv,Y,_,_,Y,_,_,Y,_,_,Y,_,_,Y,_,_,Y,_,_,Y,Y,?_⟩)⟩)⟩;show⟨_,Y,_,Y,_,Y,_,_,Y,Y,_,Y,_,Y,_,Y,_,Y,_,Y,(sz0 6),λ e he=>?_⟩;let s1:=È (o:=HO.tup [.u (v.brim+1),.u v.brim,o,.bl v.holds,oR v.spill,cc]) he;let iv:Is K (upd H e (.v [.u (v.brim+1),.u v.brim,o,.bl v.holds,oR v.spill,cc])) (AH { v with size:=v.brim+1 }) (.y e):=
   Ú (ds:=[.u (v.brim+1),.u v.brim,.v (v.outs.map BQ),.bl v.holds,VR v.spill,.v (v.acts.map DK)]) (Ï aD)
    (.B (Is.i _) (.B (Is.i _) (.B (Ì s1.ts _ _ ho) (.B (Is.b _) (.B (Is.tgOf _) (.B (Ì s1.ts _ _ hc) .nil))))))
  show⟨.y a,.y e,net,{ v with size:=v.brim+1 },j,Y,Ì s1.ts _ _ hx,JM,hj,iv,λ p H' sm ip=>k p H' (s1.trans sm) ?_⟩;rw[<- LR net.vs j v hv]at ip;show ip
def vY (K:Ç) (cV cL:Á):Sp:=λ vs H Q E=>∃(x:V) (net:Net) (v:Int),vs=[x,.u v]/\Is K H (gE net) x/\NetOk net/\NetFull net/\
 ((¬ (0<=v/\v < net.vs.Z)/\E (.y cV) W H)\/∃ j:Nat,v=(j:Int)/\j < net.vs.Z/\(rV net j 2001 0=.none->∀ H',aI H H'->Q .non H')/\(∀ i k p H',rV net j 2001 0=.at i k->aI H H'->bH K H' p [.u (i:Int),.u (k:Int)]->Q (.y p) H')/\(rV net j 2001 0=.long->∀ H',aI H H'->E (.y cL) W H'))
def M6 (F:Fun K "stuck" "stuck" (aX 61) f fd) (T:Txt mg) (U:TxtT mg) (jv:ExC K "TooLong" gy)
  (ij:CalleeR P w K mg base "need_vessel" ["net","number"] 2 (oS K gv) f1 jf) (vk:Callee P w K mg base "stuck_net" ["net","vessel"] 2 (vZ K) f2 ka)
  (jj:Callee P w K mg base "first_state" ["net"] 1 (qX K) f3 oq) (jx:Callee P w K mg base "pouring" ["net","amount"] 1 (jR K) f4 wg) (jd:Callee P w K mg base "tick_behind" ["net","state","poured"] 4 (vX K) f5 Be) :
  FnOk P w K mg base (iS P w) 5 f fd ["net","vessel"] (vY K gv gy):=by
 show F.okR ["net","vessel","other","nothing","state","other_state","seen","tick","pair","tipped","grounded","other_tipped","changed"] λ sc ir A outer s H vs Q E hr h L=>?_
 ·let⟨x,net,v,Y,hx,nok,pf,k⟩:=h;show⟨_,(aE (bL (bZ ij.ok (hr.mono JL) Y ij.mg ij.kp ij.bd .nil (bX L) (a9 (pv 0) (a9 (pv 1) aB))))
   (aE (BG (i:=2) (j:=3) Y sc.nd Y Y JL Y Y (a9 (cD vk hr (a9 (pv 0) (a9 (pv 1) aB))) (a9 (cD jx hr (a9 (pv 0) (a9 aH aB))) aB)) Y)
   (aE (TY (cD jj hr (a9 (pv 0) aB)) (gL 4 sc.nd) (gL 5 sc.nd))
   (aE (pL 6 sc.nd wU)
   (aE (uZ λ pn=>(eE ú Y (eX Y T.b_range (a9 (bA dM (bV Y U.g_LAST_TICK) aH) aB)) (gL 7 sc.nd) (aE (pL 8 sc.nd (bG (a9 (pv 4) (a9 (pv 5) aB))))
   (aE (bK (aR (JZ (P:=P) (w:=w) (K:=K) Y Y Y hr.R) (pv 8) (pv 6) (by rfl)) (aG (aO eQ)) aS)
   (aE (tD (P:=P) (w:=w) (K:=K) Y Y Y hr.units (pv 6) (pv 8) iL Y)
   (aE (bF (cD jd hr (a9 (pv 0) (a9 (pv 4) (a9 (pv 3) aB)))) (aV (K:=K) (n:=3) Y Y (aF (gL 4 sc.nd) (aF (mK (i:=9) sc.nd Y (Or.inr Y)) (aF (gL 10 sc.nd) aQ)))))
   (aE (bF (cD jd hr (a9 (pv 2) (a9 (pv 5) (a9 (pv 3) aB)))) (aV (K:=K) (n:=3) Y Y (aF (gL 5 sc.nd) (aF (mK (i:=11) sc.nd Y (Or.inr Y)) (aF (gL 10 sc.nd) aQ)))))
   (aE (jS (i:=12) sc.nd Y Y (λ _ _ h=>h) Y (LcOk.mk (N':=["number","vessel","tipped","other_tipped"]) (fr:=[W,O 1,O 9,O 11]) Y ⟨Y,Y,Y,trivial⟩ Y Y Y Y Y ⟨⟨_,Y,Y,Y,Y⟩,⟨_,Y,Y,Y,Y⟩,⟨_,Y,Y,Y,Y⟩,trivial⟩) (eX Y T.b_range (a9 (zU K T.b_len (pv 3)) aB)) (λ _ _ _=>(gC 0 ["number","vessel","tipped","other_tipped"])) (λ _ _ _=>BK (Ď (qE (aR zV (pv 0) (pv 1) (aW _)) (mJ (aR zV (fH (BR (K:=K) Y) (pv 0) (pv 2) (by rfl)) (fH (BR (K:=K) Y) (pv 0) (pv 3) (by rfl)) (aW _)))))) (λ _ _ _=>(pv 0)))
   (aG (bK (oU (K:=K) Y (pv 12) (λ _=>Y)) (aG (aO (bG (a9 (pv 7) (a9 (px K (pv 12) aH) aB))))) aS))))))))))
   (aG (eY L Y Y jv.exc jv.ns Č (a9 aL aB)))))))),?_⟩
  show⟨_,Y,_,Y,x,net,v,Y,hx,?_⟩;rcases k with⟨hn,k⟩|⟨j,rfl,hj,kN,kA,kL⟩
  ·show .x ⟨hn,k⟩
  show .p ⟨JM,JM,?_⟩;let n2:=nok.hi;let Je:=O3 nok pf (O j);show⟨_,Y,_,Y,x,net,j,Y,hx,nok,hj,λ op H1 s1 hop=>⟨_,Y,x,net,0,Y,Ì s1.ts _ _ hx,nok,λ z H2 s2 qz=>⟨_,_,Y,?_⟩⟩⟩;rw[lY nok.lo]at qz;let s12:=s1.trans s2;let Qg:=Ì s2.ts _ _ hop;show⟨_,Y,x,net,Y,Ì s12.ts _ _ hx,nok,λ st H3 s3 rj=>?_⟩;let wk:=s12.trans s3;show λ sd wt=>?_;let s4:=È (o:=HO.dK []) wt;let fs:H sd=none:=wk.free wt;let g4:upd H3 sd (.dK []) sd=O (.dK []):=aD;generalize upd H3 sd (.dK [])=H4 at s4 g4;let Mg:=wk.trans s4;let xy:=s3.trans s4;let Jf:((cA net.vs.Z).map V.int).length=net.vs.Z:=by rw[Ê,jA]
  show⟨_,_,Y,Y,_,Y,JL,JL,?_⟩;show jT (lo:=0) (n:=2001) (λ i ac H'=>aI H H'/\rV net j 2001 0=rV net j (2001 - i) i/\fP P w K H' sd (.v [NH net,NH net]) (tX net j i)/\Is K H' (gE (bD net (O j))) op/\bH K H' z ((cA net.vs.Z).map V.int)/\
   ∃ s1 s2 v7 v8 v9 nk om v12,Is K H' (fX (bQ net i)) s1/\Is K H' (fX (bQ (bD net (O j)) i)) s2/\ac=[O x,O (.u (j:Int)),O op,O (.y z),O s1,O s2,O (.y sd),v7,v8,v9,nk,om,v12]) ?_ ?_ ?_
  ·show⟨Mg,Y,fP.new g4,Ì xy.ts _ _ Qg,xy.tup qz,st,st,_,_,_,_,_,_,Ì s4.ts _ _ rj,?_,Y⟩;change Is K H4 (fX (DX (bD net (O j)))) st;rw[GS];show Ì s4.ts _ _ rj
  ·rintro i ac H5 hi zQ;let⟨s5,Ac,dd,Qh,qz5,Jg,zd,v7,v8,v9,nk,om,v12,h1,h2,Y⟩:=zQ;rw[Ż];let Jh:=AK nok i;let Ji:=AK Je i;let qj:=zK net j i;obtain⟨fu,efu⟩:∃ fu,2001 - i=fu+1:=⟨2000 - i,JM⟩;rw[efu]at Ac;let Qi:2001 - (i+1)=fu:=by lia
   show⟨_,Y,_,Y,(sz0 2),λ pp Pb=>?_⟩;let s6:=È (o:=HO.tup [Jg,zd]) Pb;let qp:bH K (upd H5 pp (.v [Jg,zd])) pp [Jg,zd]:=Ï aD;generalize upd H5 pp (.v [Jg,zd])=H6 at s6 qp;let Vl:=Ì s6.ts _ _ h1;let Vm:=Ì s6.ts _ _ h2;let key:=QT (j:=j) Jh (GQ Ji) qp Vl Vm;let Qj:=dd.same s6;let Mh:=s5.trans s6;dsimp only[jG];show⟨_,Y,_,Y,sd,_,tX net j i,wX net j i,Y,Qj,key,_,Y,?_⟩;cases Vn:dQ (tX net j i) (wX net j i)with
   |some u=>
    show cH ?_;show kN ?_ _ Mh;rw[Ac,rV,Vn];rfl
   |none=>
    show bR ?_;let xj:rV net j 2001 0=(match MY net j i with|k::_=>Res.at i k|[]=>rV net j fu (i+1)):=by rw[Ac,rV,Vn];rfl
    show⟨_,Y,_,Y,sd,_,tX net j i,wX net j i,Y,Qj,key,iH JM,λ H7 b7 dd7=>?_⟩;let rq:=b7.ts (K:=K) Qj.mut;let s7:aI H H7:=λ b o e=>b7 b o (aM e fs) (Mh b o e);let Im:=Ì s7.ts _ _ hx;let Mi:=rq _ _ (s6.tup qz5);let Jj:=Ì rq _ _ (Ì s6.ts _ _ Qh);show⟨_,Y,_,Y,_,Y,x,Jg,z,net,_,_,cA net.vs.Z,_,Y,Im,Ì rq _ _ Vl,Mi,nok,Jh,jA _,λ f ys H8 s8 hf8 if8=>?_⟩;let⟨fa,Pa,ef,qf,lf⟩:=(show Is K H8 (.v [yG ((bQ net i).tk net).held ((bQ net i).tk net).coming ((bQ net i).tk net).doors,.v (((bQ net i).tk net).tip.map λ (i:Nat)=>L2.D.int (i:Int)),.u ((bQ net i).tk net).ground]) (.y f) from if8).un;ext ef;let⟨y1,rr,Y,j1,lf⟩:=lf.un;let⟨y2,rr,Y,j2,lf⟩:=lf.un;let⟨y3,rr,Y,j3,lf⟩:=lf.un;let:=lf.un0;subst this;let⟨ta,Y,qta⟩:=NU j2;show⟨f,_,Y,qf,Y,_,_,Y,_,_,Y,_,_,Y,Y,?_⟩;show⟨_,Y,_,Y,_,Y,op,zd,z,bD net (O j),_,_,cA net.vs.Z,_,Y,Ì s8.ts _ _ Jj,Ì (rq.trans s8.ts) _ _ Vm,s8.tup Mi,Je,Ji,by rw[jA];show(fA _ _).symm,λ g As H9 s9 hg9 Vo=>?_⟩;let etk:l7 (bD net (O j)) (bQ (bD net (O j)) i).held (bQ (bD net (O j)) i).coming (cA net.vs.Z) (bQ (bD net (O j)) i).doors=(bQ (bD net (O j)) i).tk (bD net (O j)):=by
     unfold Sta.tk;rw[DP]
    rw[etk]at Vo;let⟨ga,Pa,eg,qg,lg⟩:=(show Is K H9 (.v [yG ((bQ (bD net (O j)) i).tk (bD net (O j))).held ((bQ (bD net (O j)) i).tk (bD net (O j))).coming ((bQ (bD net (O j)) i).tk (bD net (O j))).doors,.v (((bQ (bD net (O j)) i).tk (bD net (O j))).tip.map λ(i:Nat)=>L2.D.int (i:Int)),.u ((bQ (bD net (O j)) i).tk (bD net (O j))).ground]) (.y g)from Vo).un;ext eg;let⟨z1,rr,Y,m1,lg⟩:=lg.un;let⟨z2,rr,Y,m2,lg⟩:=lg.un;let⟨z3,rr,Y,m3,lg⟩:=lg.un;let:=lg.un0;subst this;let⟨tb,Y,qtb⟩:=NU m2;show⟨g,_,Y,qg,Y,_,_,Y,_,_,Y,_,_,Y,Y,?_⟩;let Qk:=s9.tup qta;let qz9:=s9.tup (s8.tup Mi);show⟨_,Y,z,_,Y,.x qz9,_,Y,JM,by rw[Jf];lia,?_⟩;let enl:(((((cA net.vs.Z).map V.int).length:Nat):Int)).toNat=net.vs.Z:=by rw[Jf];simp
    rw[enl];show xS (n:=net.vs.Z) (λ D n rr ac H'=>H9 D=W/\aI H9 H'/\H' D=O (.j rr)/\rr=(D9 j ((bQ net i).tk net).tip ((bQ (bD net (O j)) i).tk (bD net (O j))).tip n).map (λ(i:Nat)=>V.int (i:Int))/\∃ u,ac=[u,O (.u (j:Int)),O (.y ta),O (.y tb)])
     (λ D hD=>⟨hD,È hD,aD,rfl,W,rfl⟩) ?_ ?_
    rotate_left
    ·rintro D n rr ac HH hn zQ;let⟨hD,sm,jc,Y,u,Y⟩:=zQ;let vt:=S3 j ((bQ net i).tk net).tip ((bQ (bD net (O j)) i).tk (bD net (O j))).tip n;show⟨_,Y,_,Y,Y,_,Y,?_⟩;let snoc:=MX j ((bQ net i).tk net).tip ((bQ (bD net (O j)) i).tk (bD net (O j))).tip n
     by_cases e:n=j
     ·let hb:DC j ((bQ net i).tk net).tip ((bQ (bD net (O j)) i).tk (bD net (O j))).tip n=false:=by unfold DC;rw[á e];rfl
      rw[hb,Ä â,þ]at snoc;let:(!decide (V.int (n:Int)=V.int (j:Int)))=false:=by rw[e];simp
      show(show(if (!decide (V.int (n:Int)=V.int (j:Int)))=EA then _ else _)from ?_);rw[this];show bR (bR ⟨hD,sm,jc,by rw[snoc],_,Y⟩)
     ·let:(!decide (V.int (n:Int)=V.int (j:Int)))=true:=by
       rw[Bool.not_eq_true',ò];intro z;injection z with z;show e JM
      show(show(if (!decide (V.int (n:Int)=V.int (j:Int)))=EA then _ else _)from ?_);rw[this];show cH ⟨_,Y,_,Y,ta,_,Y,.x (sm.tup Qk),Y,y8 _,_,Y,_,Y,tb,_,Y,.x (sm.tup qtb),Y,y8 _,Y,_,Y,?_⟩;rw[Ä â,Ä â,D0,D0]
      by_cases e2:decide (n∈((bQ net i).tk net).tip)=decide (n∈((bQ (bD net (O j)) i).tk (bD net (O j))).tip)
      ·let hb:DC j ((bQ net i).tk net).tip ((bQ (bD net (O j)) i).tk (bD net (O j))).tip n=false:=by unfold DC;rw[á e2];simp
       rw[hb,Ä â,þ]at snoc;rw[á (congrArg V.bl e2)];show bR ⟨hD,sm,jc,by rw[snoc],_,Y⟩
      ·let hb:DC j ((bQ net i).tk net).tip ((bQ (bD net (O j)) i).tk (bD net (O j))).tip n=true:=by unfold DC;rw[ò e2,ò e];rfl
       rw[hb,Å rfl]at snoc;rw[ò (λ z=>e2 (by injection z))];show cH ⟨_,Y,jc,bB (by rw[Ê];lia),hD,sm.put hD,aD,?_,_,Y⟩;rw[snoc,Ñ];rfl
    rintro D rr ac wa zQ;let⟨hD,zj,jc,Y,_⟩:=zQ;let s09:=(s7.trans s8).trans s9;let Jk:=s09.trans zj;show⟨_,Y,_,.p ⟨_,É jc,Y⟩,?_⟩;let Ql:D9 j ((bQ net i).tk net).tip ((bQ (bD net (O j)) i).tk (bD net (O j))).tip net.vs.Z=MY net j i:=rfl;rw[Ql]at jc ⊢;cases uv:MY net j i with
    |cons k1 kr=>
     rw[uv]at jc xj;show cH ?_;show⟨_,Y,_,Y,.p ⟨D,_,0,_,Y,Y,É jc,hW (xs:=(k1::kr).map λ(i:Nat)=>V.int (i:Int)) (j:=0) Y,(sz0 2),λ p hp=>?_⟩⟩;show kA i k1 p _ xj (Jk.trans (È hp)) (Ï aD)
    |nil=>
     rw[uv]at xj;show bR ?_;let Dw:=(s8.trans s9).trans zj;show⟨Jk,?_,dd7.same Dw,Ì Dw.ts _ _ Jj,Dw.tup Mi,y1,z1,_,_,_,_,_,_,Ì (s9.trans zj).ts _ _ j1,Ì zj.ts _ _ m1,Y⟩;rw[Qi];show xj
  ·rintro ac H5 zQ;let⟨s5,Ac,_⟩:=zQ;show⟨by change 1<=100;decide,kL ?_ _ s5⟩;rw[Ac];rfl
abbrev Fs (ag:Type):=List (ag×List Int)
inductive BRes (ag:Type) where
 |ends (row:List Int) (fs:Fs ag)
 |many
 |on (fs:Fs ag)
section
variable {ag:Type}(dD:ag->L2.D)(kg:ag->Int->ag)(fin:ag->Int->Bool)(il jr:Nat)
def kF (fs:Fs ag) (k:L2.D):Option (List Int):=(fs.find? λ p=>decide (dD p.1=k)).map (·.2)
def DF (d:ag) (r:List Int):Nat->Int->Fs ag->BRes ag
 |0,_,fs=>.on fs
 |l+1,a,fs=>if fin d a=EA then .ends (r++[a]) fs else if (kF dD fs (dD (kg d a))).isSome=EA then DF d r l (a+1) fs else if jr<=fs.Z then .many else DF d r l (a+1) (fs++[(kg d a,r++[a])])
def tS:Nat->Nat->Fs ag->BRes ag
 |0,_,fs=>.on fs
 |n+1,p,fs=>match fs[p]? with
  |none=>.on fs
  |some d=>match DF dD kg fin jr d.1 ((kF dD fs (dD d.1)).getD []) (il+1) 0 fs with
   |.on Bq=>tS n (p+1) Bq
   |r=>r
def SR (first:ag):BRes ag:=tS dD kg fin il jr (jr+1) 0 [(first,[])]
def WO (p:Nat):BRes ag->BRes ag
 |.on fs=>tS dD kg fin il jr (jr - p) (p+1) fs
 |r=>r
variable {dD kg fin il jr}
def LK  (q:ag×List Int) (h:kF dD fs k=O r):kF dD (fs++[q]) k=O r:=by
 unfold kF at h ⊢;rw[List.find?_append];cases e:fs.find? λ p=>decide (dD p.1=k)with
 |none=>rw[e]at h;cases h
 |some x=>rw[e]at h;show h
def NO  (h:(d,r)∈fs):(kF dD fs (dD d)).isSome=true:=by
 unfold kF;rw[ŗ,List.find?_isSome];show⟨_,h,JN⟩
def VG  (h:fin d a=EA):DF dD kg fin jr d r (l+1) a fs=.ends (r++[a]) fs:=Å h
def VE  (h:fin d a=JJ) (h2:(kF dD fs (dD (kg d a))).isSome=EA):DF dD kg fin jr d r (l+1) a fs=DF dD kg fin jr d r l (a+1) fs:=by
 rw[DF,Ä (by rw[h];decide),Å h2]
def S7  (h:fin d a=JJ) (h2:(kF dD fs (dD (kg d a))).isSome=JJ) (h3:jr<=fs.Z):DF dD kg fin jr d r (l+1) a fs=.many:=by
 rw[DF,Ä (by rw[h];decide),Ä (by rw[h2];decide),Å h3]
def VF  (h:fin d a=JJ) (h2:(kF dD fs (dD (kg d a))).isSome=JJ) (h3:fs.Z < jr):DF dD kg fin jr d r (l+1) a fs=DF dD kg fin jr d r l (a+1) (fs++[(kg d a,r++[a])]):=by
 rw[DF,Ä (by rw[h];decide),Ä (by rw[h2];decide),Ä JM]
def NA  (h:fs.Z<=p):tS dD kg fin il jr n p fs=.on fs:=by
 cases n with
 |zero=>rfl
 |succ n=>rw[tS,ž h]
def ND  (h:fs[p]?=O (d,r0)) (hr:kF dD fs (dD d)=O r) (hn:n=jr - p):tS dD kg fin il jr (n+1) p fs=WO dD kg fin il jr p (DF dD kg fin jr d r (il+1) 0 fs):=by
 subst hn;rw[tS,h];dsimp only;rw[hr];change(match DF dD kg fin jr d r (il+1) 0 fs with|.on Bq=>_|r=>r)=_;cases DF dD kg fin jr d r (il+1) 0 fs <;> rfl
end
end Tw
namespace L2
open PySem PySem.Spec PyProof.Rows TwZ
section
variable {X:Cx}
def W5 (P:Ã) (w:World) (K:Ç):R2:=λ x y H Q=>∃ a S ii k,y=.y a/\fP P w K H a S ii/\KeyD K H S k x/\Q (.bl (!(dQ ii k).isSome)) H
def UG (hu:X.A.R+64 < cLine):jJ X (compareOp .NotIn) (W5 X.prog X.w X.K):=by
 intro gu s σ H x y v u Q I rx ry h;let⟨a,S,ii,k,Y,g,hk,q⟩:=h;let⟨b,Y⟩:=hk.tup;ext rx;ext ry;let⟨hd,hz,xs,p,dd⟩:=g.at I;show wpAny_notIn_heap (knd:=gQ X.prog X.w S) (show X.A.in1.R+8 < cLine by change X.A.R+1+8 < cLine;lia) (hk.at I) hd dd ?_;let e:=(KD.val k p).isSome_eq;rw[ŗ]at e;rw[<- e];show⟨.bl _,H,I.tok _,Y,q⟩
def PP {P:Ã} (hP:X.prog=P) (hw:X.w=w) (hK:X.K=K) (hu:X.A.R+64 < cLine):jJ X (compareOp .NotIn) (W5 P w K):=by subst hP hw hK;show UG hu
def one1 (R:V->V->Hp->Prop):List (V×V)->Hp->Prop
 |[(x,v)],H=>R x v H
 |_,_=>False
def O1 (P:Ã) (w:World) (K:Ç) (tk tv:TE):TE:=λ σ H Q=>∀ p,H p=W->tk σ (upd H p (.dK [])) λ x H1=>tv σ H1 λ v H2=>H2 p=O (.dK [])/\∃ S k,KeyD K H2 S k x/\∀ H3,cI p H2 H3->fP P w K H3 p S [(k,v)]->Q (.y p) H3
def P9  (hu:X.A.R+64 < cLine) (hk:PE X k tk) (hv:PE X v tv):PE X (.Dict [O k] [v] pos) (O1 X.prog X.w X.K tk tv):=by
 intro gu s σ H Q I q;let hn:=I.hok.fresh (Í s.L);let I1:=I.laid (a:=s.L) (o:=.dK []) (h':=s.heap.push { cls:=.q "dict",data:=.dict #[] }) (t':=s.M) (λ _ _ q=>Î _ q) (Í _) (FZ s.heap I.big);let hp:PPs X pos [O k] [v] [(tk,tv)]:=P2 hk hv TZ;show wpAny_Dict_any Y Y JN (show 1<=15 by decide) (dG (hp gu _ σ _ (one1 λ x v H2=>H2 s.L=O (.dK [])/\∃ S k,KeyD X.K H2 S k x/\∀ H3,cI s.heap.objs.size H2 H3->fP X.prog X.w X.K H3 s.heap.objs.size S [(k,v)]->Q (.y s.L) H3) I1 (q _ hn)) λ ws s2 ⟨ps,H2,I2,rel,h⟩=>?_);obtain _|⟨⟨x,y⟩,_|⟨_,_⟩⟩:=ps
 ·show h.elim
 ·let⟨e0,S,k',yf,q2⟩:=h;cases rel with
  | @cons _ wv _ _ r0 r1=>
   ext r1;let⟨u,r⟩:=wv;let⟨b,Y⟩:=yf.tup;let ru:bE (.y b) u:=r0.1;let rr:bE y r:=r0.2;ext ru;let g:fP X.prog X.w X.K H2 s.heap.objs.size S []:=fP.new e0;let⟨hd,hz,xs,p,dd⟩:=g.at I2;ext p;show Æ (Æ (wpAny_dictSet_heap (knd:=gQ X.prog X.w S) (hsz:=ß _) (show X.A.R+8 < cLine by lia) (yf.at I2) dd λ h' Bw yg=>Ë ?_));let⟨qo,es,ep,hq,h2,h3,h4,_,h5⟩:=Bw;let mu:=g.mut;let bt:cI s.heap.objs.size H2 (upd H2 s.heap.objs.size (.ext (A8 X.prog X.w S s.heap.objs.size (storedH [] k' b r)))):=Û;let ts:=bt.ts (K:=X.K) mu;show Ë (show EP X gu σ Q _ _ from⟨.y s.L,_,vF I2 mu yg ⟨qo,hq⟩ (ob:=.ext (A8 X.prog X.w S s.heap.objs.size (storedH [] k' b r))) ⟨⟨qo,es,ep,hq,h2,h3,h4,h5⟩,⟨qo,hq⟩,λ h1 Fn ⟨o',Co,Cp,z1,z⟩ kk=>⟨o',Co,Cp,kk _ z1,z⟩⟩,Y,q2 _ bt (.x ⟨_,aD,hd,(by rw[ê];change 1<=_;decide),KD.mono (KD.put (ii:=[]) .nil yf rr) ts⟩)⟩)
 ·show h.elim
def M0 {P:Ã}{tk tv:TE} (hP:X.prog=P) (hw:X.w=w) (hK:X.K=K) (hu:X.A.R+64 < cLine) (hk:PE X k tk) (hv:PE X v tv):PE X (.Dict [O k] [v] pos) (O1 P w K tk tv):=by subst hP hw hK;show P9 hu hk hv
def ZC (i j k:Nat) (ta:TA):TS:=λ D σ H=>ta σ H λ vs H1=>∃ v w z,vs=[v,w,z]/\D.nx (((σ.set i (O v)).set j (O w)).set k (O z)) H1
set_option tactic.hygienic true in
def TV {pos px py pz pt:Pos}{kt k2 pt2} (hc:X.calm=EA) (hN:X.N.Nodup) (hi:X.N[i]?=O x) (hj:X.N[j]?=O y) (hk:X.N[k]?=O z) (Ff:i≠j) (hik:i≠k) (hjk:j≠k)
  (hx:X.env.scope.names.lookup x=O .local) (hy:X.env.scope.names.lookup y=O .local) (hz:X.env.scope.names.lookup z=O .local) (ha:PA X [a,b,c] ta)
  (hw:swappedStores [.rq [.C x px,.C y py,.C z pz] kt pt] (.rq [a,b,c] k2 pt2) X.env=pure (O [x,y,z]))
  (hs:autoParam (swapsWithSole [.rq [.C x px,.C y py,.C z pz] kt pt] (.rq [a,b,c] k2 pt2) pos.line X.env=pure false) _0) :
  PS X (.Assign [.rq [.C x px,.C y py,.C z pz] kt pt] (.rq [a,b,c] k2 pt2) pos) (ZC i j k ta):=by
 intro gu s σ H D I h;rw[exec_Assign_arm];show Æ (ĺ ?_);rw[hs];show Æ (Ë ?_);rw[Ä JL];show Æ (Tuple_ (dG (ha _ gu s σ H _ I h) λ us s1 ⟨vs,H1,I1,r1,q1⟩=>?_));let⟨v,w,w2,e1,q1⟩:=q1;subst e1;obtain⟨u1,u2,u3,rfl,rv,uw,rz⟩:∃ u1 u2 u3,us=[u1,u2,u3]/\bE v u1/\bE w u2/\bE w2 u3:=by
  cases r1 with
  |cons p q=>
   cases q with
   |cons p' q'=>
    cases q' with
    |cons p2 q2=>
     ext q2;show⟨_,_,_,Y,p,p',p2⟩
 show Ģ ?_ (by change 3<=sizeLine;decide);let I2:Inv X gu σ H1 { s1 with heap:=s1.heap.push { cls:=.q "tuple",data:=.V [u1,u2,u3].toArray } }:=I1.kept (t':=s1.M) λ b o e=>Î _ e;rw[hw];show Æ (Ë ?_);change wpAny (model X.prog X.w) X.A (do rule "assign.swapped-stores";let items <- unpackItems (.y s1.L) 3 W;assignInOrder [λ v=>bindName X.env z v,λ v=>bindName X.env y v,λ v=>bindName X.env x v] items.reverse;pure Flow.next) _ _ _;show Æ (Ė (Æ (unpackItems_tuple (items:=#[u1,u2,u3]) (I.ok.hd hc) (IsTup.new s1.heap _) λ h' xt=>?_)));let I3:=I2.kept (h':=h') (t':=s1.M) λ b o e=>xt b o (ä (Ó e)) e;change wpAny _ _ (assignInOrder [λ v=>bindName X.env z v,λ v=>bindName X.env y v,λ v=>bindName X.env x v] [u3,u2,u1] >>= λ _=>pure Flow.next) _ _ _;show Æ (ĳ (Ņ (iG I3 hN hk (.p hz) rz (λ s2 I4=>?_) (.x hz))));show ĳ (Ņ (iG I4 hN hj (.p hy) uw (λ s3 I5=>?_) (.x hy)));show ĳ (Ņ (iG I5 hN hi (.p hx) rv (λ s4 I6=>assignInOrder_nil (Ë ?_)) (.x hx)));let e6:((σ.set k (O w2)).set j (O w)).set i (O v)=((σ.set i (O v)).set j (O w)).set k (O w2):=by
  rw[Ŷ _ _ (Ne.symm Ff),Ŷ (O w2) (O v) (Ne.symm hik),Ŷ (O w2) (O w) (Ne.symm hjk)]
 rw[e6]at I6;show⟨_,H1,I6,q1⟩
end
abbrev WQ:=Â->List Env->Sp
structure FnOkS (P:Ã) (w:World) (K:Ç) (mg:Str->Option À) (base:Heap) (CX:GH) (k:Nat) (f:Á) (fd:FuncData) (ps:List Str) (sp:WQ):Prop where
 len:∀ s o vs H Q E,sp s o vs H Q E->vs.Z=ps.Z
 run:∀(A:Around) (outer:List Env) (s:Â) (H:Hp) (args:Args) (us:List À) (vs:List V) (Q:VK) (E:XK),Room k A->Env0 P w K mg base A outer s H->BindsTo s fd args (ps.zip us)->bN vs us->sp s outer vs H Q E->
  codeAny (model P w) A (.call (.y f) args) (CR CX outer P w H s Q E) s
set_option tactic.hygienic true in
def YG {CX:GH}{P:Ã}{w:World}{K:Ç}{mg:Str->Option À}{base:Heap}{k:Nat}{f:Á}{name qual:Str}{params:Arguments}{body:List Stmt}{scope:Scope}{dV kV doc pm ir ct oc:À}{an od:Option Á}
  {uy:Array (Option À)}{N ps:List Str}{sp:WQ} (lk:K.lookup f=O ⟨oc,od,.func (PySem.W.fnOf name qual params body scope dV kV doc pm an ir ct),uy⟩) (qi:PySem.W.codeIn K ir qual=EA) (S:FnScope N ps scope)
  (len:∀ s o vs H Q E,sp s o vs H Q E->vs.Z=ps.Z)
  (lq:∀(A:Around) (outer:List Env) (s:Â) (H:Hp) (vs:List V) (Q:VK) (E:XK),Room k (A.deeper (envOfC qual scope s.heap.objs.size f ir))->Env0 P w K mg base A outer s H->sp s outer vs H Q E->
   ∃ t,DM (oN CX P w K mg base N qual scope f ir A outer s H E) body t/\t { nx:=λ _ H'=>Q .non H',rt:=Q } (kJ N vs) H) :
  FnOkS P w K mg base CX (k+1) f (PySem.W.fnOf name qual params body scope dV kV doc pm an ir ct) ps sp:=by
 show⟨len,λ A outer s H args us vs Q E hr e0 hb r lw=>?_⟩;let hl:=len _ _ _ _ _ _ lw;let KX:K.In s.heap:=e0.mod.kin.keeps λ b o e=>(e0.bs b o e).1;let jr:s.heap.NoLimit:=e0.mod.nolimit.keeps λ b o e=>(e0.bs b o e).1;let zf:∀ y∈ps.zip us,scope.names.lookup y.1=O .local\/(scope.names.lookup y.1=O .cell/\((cellsFrom (s.L+1) scope.names []).lookup y.1).isSome=EA):=λ⟨n,v⟩ hy=>by
  rcases S.par n (Ś hy).1 with q|q
  ·show .p q
  ·show .x ⟨q,aey _ _ _ (.p q)⟩
 show codeAny_call_function hr.depth (KX _ _ lk) Y S.co S.gen Y (PySem.W.codeRec_of KX qi) (hb _ _ _ _ ?_);show wpAny_newFunctionEnv_cells S.kind zf λ env he s1 x=>?_;subst he;show⟨jr.keeps x.toInCall.keep,codeAny_func ?_⟩;let⟨t,ht,hq⟩:=lq A outer s H vs Q E (hr.deeper _) e0 lw;let I:Inv (oN CX P w K mg base N qual scope f ir A outer s H E) [] (kJ N vs) H s1:=A1 S hr.hd e0 hl r x;show î (ht [] s1 (kJ N vs) H _ I hq) (λ fl s' hs=>?_) λ e s' hs=>hs;let fin:∀ {ac:St}{H':Hp}{v:V}{u:À},Inv (oN CX P w K mg base N qual scope f ir A outer s H E) [] ac H' s'->bE v u->Q v H'->CE outer P w H s Q u s':=
  λ {ac H' v u} J rv q=>⟨v,H',J.os,J.bare,J.base,J.hok,rv,q⟩
 cases fl with
 |ret u=>
  let⟨v,ac,H',J,rv,q⟩:=hs;show fin J rv q
 |next=>
  let⟨ac,H',J,q⟩:=hs;show fin (v:=V.non) (u:=Value.none) J Y q
 |brk=>
  let⟨_,_,_,q⟩:=hs;show False.elim q
 |cont=>
  let⟨_,_,_,q⟩:=hs;show False.elim q
structure FnH (H:Hp) (f c:Á) (ob oc:Obj):Prop where
 fn:H f=O (.frz ob (.own f))
 cd:H c=O (.frz oc (.own c))
def FnH.same  (h:FnH H f c ob oc) (s:aI H H'):FnH H' f c ob oc:=⟨s _ _ h.fn,s _ _ h.cd⟩
structure CellsK (cl:List (Str×Á)) (s s':Â) (H':Hp) (outer:List Env):Prop where
 keep:∀ c∈cl.map (·.2),∀ o,s.heap.get? c=O o->s'.heap.get? c=O o
 free:∀ c∈cl.map (·.2),H' c=W
 out:∀ c∈cl.map (·.2),c∉mP outer
def SF (P:Ã) (w:World) (K:Ç) (mg:Str->Option À) (base:Heap) (k:Nat) (f c:Á) (ob oc:Obj) (cl:List (Str×Á)) (sp:Sp) (s:Â):Prop:=
 ∀(A:Around) (outer:List Env) (s':Â) (H':Hp) (us:List À) (vs:List V) (Q:VK),Room k A->Env0 P w K mg base A outer s' H'->FnH H' f c ob oc->CellsK cl s s' H' outer->bN vs us->sp vs H' Q E0->
  codeAny (model P w) A (.call (.y f) ⟨us,[]⟩) (CR gT outer P w H' s' Q E0) s'
section
variable {X:Cx}{k:Nat}{f c:Á}{ob oc:Obj}{cl:List (Str×Á)}{sp:Sp}{x:Str}{p pos:Pos}{e:Expr}{es:List Expr}{t:TA}{i:Nat}
def X4 (i:Nat) (f c:Á) (ob oc:Obj) (sp:Sp) (t:TA):TE:=λ σ H Q=>σ[i]?=O (O (.y f))/\FnH H f c ob oc/\t σ H λ vs H1=>FnH H1 f c ob oc/\sp vs H1 Q E0
set_option tactic.hygienic true in
def PB (R:SF X.prog X.w X.K X.mg X.base k f c ob oc cl sp X.s₀) (vx:∃ cls od fd sl,ob=⟨cls,od,.func fd,sl⟩) (hr:Room k X.A)
  (hc:∀ c∈cl.map (·.2),X.H₀ c=W/\c∉X.fs/\c∉X.ex/\c < X.s₀.heap.objs.size/\∃ o,X.s₀.heap.get? c=O o)
  (hN:X.N[i]?=O x) (hv:Z0 X.env.scope x) (ha:PA X (e::es) t) (so:X.stack=X.env::X.outer)
  (xi:X.env.frame=O X.env.locals)
  (hd:autoParam ((x==("__debug__":Str))=false) _2) (qi:autoParam ((x==("__classdict__":Str))=false) _2) (he:autoParam (starEach (e::es) X.env=(JJ,eval e X.env)::starEach es X.env) _0) (pj:autoParam ((backTo pos (starEach es X.env)).any (·.1)=false) _0) :
  PE X (.rj (.C x p) (e::es) [] pos) (X4 i f c ob oc sp t):=by
 intro gu s σ H Q I h;let⟨bf,hf,h⟩:=h;let fnAt:∀ {s':Â}{H':Hp},Inv X gu σ H' s'->FnH H' f c ob oc->PySem.W.FnAt f s'.heap:=λ I' hf'=>by
  let⟨cls,od,fd,sl,Y⟩:=vx;let⟨e1,_⟩:=(show dB X.prog X.w _ _ f (.frz _ (.own f))from I'.hok f _ hf'.fn);show⟨cls,od,fd,sl,e1⟩
 show Ĵ ?_;show dG ((HI hN hv hd qi) gu s σ H (λ v H'=>v=V.ref f/\H'=H) I ⟨_,bf,Y,Y⟩) λ u s0 ⟨v,H0,I0,rv,q⟩=>?_;let⟨Y,Y⟩:=q;obtain rfl:u=Value.ref f:=rv;show PySem.W.callWith_F (fnAt I0 hf) (dG (ha pos gu s0 σ H0 _ I0 h) λ us s1 ⟨vs,H1,I1,r,Vp,q⟩=>⟨fnAt I1 Vp,?_⟩) he pj;show ň (Ň (R X.A X.stack s1 H1 us vs Q hr I1.env0 Vp ⟨λ c' vy o ho=>?_,λ c' vy=>?_,λ c' vy z=>?_⟩ r q) λ r s' hq=>?_)
 ·let⟨h1,h2,h3,_⟩:=hc c' vy;show I1.base.keep c' o ho h1 h2 h3
 ·let⟨h1,h2,h3,_,o,ho⟩:=hc c' vy;show I1.base.free c' o ho h1 h3
 ·let⟨h1,h2,h3,h4,_⟩:=hc c' vy;rw[so]at z;let z':c'∈mP (X.env::X.outer):=z;unfold mP at z';rw[agc xi]at z';rcases Ð.1 z' with z'|z'
  ·let:=I1.ok.above;rw[<- z']at this;show absurd (é h4 this) (Ċ _)
  ·show h2 z'
 ·cases r with
  |error e=>show hq.elim
  |ok fl=>
   cases fl with
   |ret u=>show I1.after hq
   |next=>show False.elim hq
   |brk=>show False.elim hq
   |cont=>show False.elim hq
end
end L2
namespace L2
open PySem PySem.Spec PyProof.Rows TwZ
open PySem.W (envX kla_obj kla_fn)
def RZ (P:Ã) (w:World) (K:Ç) (mg:Str->Option À) (base:Heap) (N:List Str) (qual:Str) (scope:Scope) (f:Á) (cd:À) (cl:List (Str×Á)) (A:Around) (outer:List Env) (s:Â) (H:Hp):Cx where
 prog:=P
 w:=w
 K:=K
 mg:=mg
 base:=base
 A:=A.deeper (envX qual scope s.heap.objs.size f cd cl)
 N:=N
 s₀:=s
 H₀:=H
 env:=envX qual scope s.heap.objs.size f cd cl
 outer:=outer
 stack:=envX qual scope s.heap.objs.size f cd cl::outer
 ex:=[]
 calm:=EA
 fn:=λ _=>JJ
 pn:=[]
 xe:=λ _ _=>False
structure LamScope (N ps:List Str) (sc:Scope) (cl:List (Str×Á)):Prop where
 kind:sc.kind=.function
 co:sc.isCoroutine=JJ
 gen:sc.isGenerator=JJ
 nd:N.Nodup
 pre:N.take ps.Z=ps
 par:∀ x∈ps,sc.names.lookup x=O .local
 nocell:∀ y∈sc.names,y.2≠.cell
 frees:∀ y,sc.names.lookup y=O .free->∃ c,cl.lookup y=O c
 apart:cl.Pairwise λ x y=>x.2≠y.2
def xQ:∀ {P:List Str}{us:List À}{i:Nat}{x:Str}{u:À},P.Nodup->P[i]?=O x->us[i]?=O u->((P.zip us).reverse).lookup x=O u:=by
 intro P us i x u nd h1 h2;let hm:(x,u)∈(P.zip us).reverse:=by
  rw[List.mem_reverse];show Ž.2 ⟨i,by rw[af3];show⟨h1,h2⟩⟩
 let hu:∀ v,(x,v)∈(P.zip us).reverse->v=u:=λ v hv=>by
  rw[List.mem_reverse]at hv;let⟨j,hj⟩:=Ž.1 hv;rw[af3]at hj;let e1:=à.mp h1;let e2:=à.mp hj.1;let:j=i:=(agl (h₀:=e2.1) (h₁:=e1.1) nd).1 (by rw[e2.2,e1.2]);subst this;rw[h2]at hj;show(ñ hj.2).symm
 generalize(P.zip us).reverse=l at hm hu;clear h1 h2 nd
 induction l with
 |nil=>show absurd hm JN
 |cons q l ih=>
  let⟨y,v⟩:=q;rw[Ĩ]
  by_cases c:x=y
  ·subst c;let:=hu v è;subst this;simp
  ·let:(x==y)=false:=by simpa using c
   rw[this];show ih ?_ λ v hv=>hu v (Õ _ hv);rcases Ð.1 hm with z|z
   ·injection z with z1 z2;show absurd z1 c
   ·show z
section
variable {k:Nat}{f c:Á}{name qual:Str}{params:Arguments}{body:Expr}{scope:Scope}{cl:List (Str×Á)}{pm xk:À}{oc:Obj}{sp:Sp}{s:Â}{N ps:List Str}{fv:List V}
def QM (S:LamScope N ps scope cl) (len:∀ vs H Q,sp vs H Q E0->vs.Z=ps.Z) (hl:N.Z=ps.Z+fv.Z)
  (xq:∃ vs t,oc.data=.U vs/\vs[1]?=O (.o qual t)) (Ad:∀ us:List À,us.Z=ps.Z->bindArgs (kla_fn name qual params body scope cl pm (.y c) xk) ⟨us,[]⟩=pure (ps.zip us))
  (Dx:∀ y c,cl.lookup y=O c->∃ v,s.heap.IsCell c v) (hfv:∀(i:Nat) (y:Str) (v:V),N[ps.Z+i]?=O y->fv[i]?=O v->scope.names.lookup y=O .free/\∃ c u,cl.lookup y=O c/\s.heap.IsCell c (O u)/\bE v u)
  (lq:∀(A:Around) (outer:List Env) (s':Â) (H':Hp) (vs:List V) (Q:VK),Room k (A.deeper (envX qual scope s'.heap.objs.size f (.y c) cl))->sp vs H' Q E0->
   ∃ te,PE (RZ P w K mg base N qual scope f (.y c) cl A outer s' H') body te/\te (vs.map O++fv.map O) H' Q) :
  SF P w K mg base (k+1) f c (kla_obj name qual params body scope cl pm c xk) oc cl sp s:=by
 intro A outer s' H' us vs Q hr e0 hf ck r lw;let io:=len _ _ _ lw;let Ja:us.Z=ps.Z:=by rw[<- r.Z];show io
 let⟨ef,_⟩:=(show dB P w H' s'.heap f (.frz _ (.own f)) from e0.hok f _ hf.fn);let⟨ec,_⟩:=(show dB P w H' s'.heap c (.frz _ (.own c)) from e0.hok c _ hf.cd);let jr:s'.heap.NoLimit:=e0.mod.nolimit.keeps λ b o e=>(e0.bs b o e).1;let cellK:∀ {y:Str}{a:Á}{v:Option À},cl.lookup y=O a->s.heap.IsCell a v->s'.heap.IsCell a v:=λ {y a v} h1 h2=>by
  let hm:a∈cl.map (·.2):=Ù.2 ⟨(y,a),Ĉ h1,rfl⟩;let⟨o,e1,e2⟩:=h2;show⟨o,ck.keep a hm o e1,e2⟩
 let⟨vs0,t0,hd0,xl⟩:=xq;show PySem.W.kla_callFunE hr.depth ef Y S.co S.gen Y ⟨c,oc,vs0,t0,Y,ec,hd0,xl⟩ ?_;rw[Ad us Ja];let Lc:ps.Nodup:=by rw[<- S.pre];show S.nd.sublist (List.take_sublist _ _)
 show Ë (wpAny_newFunctionEnv S.nocell (λ y hy=>S.par _ (Ś hy).1) (λ h₁ mx yg=>⟨jr.fresh _ yg,?_⟩) S.kind);change codeAny _ _ (.expr body (envX qual scope s'.heap.objs.size f (.y c) cl)) _ _;let cz:∀ b o,s'.heap.get? b=O o->h₁.get? b=O o:=λ b o e=>yg.extBut b o (ä (Ó e)) (Î _ e);let⟨te,hte,hq⟩:=lq A outer s' H' vs Q (hr.deeper _) lw;let I:Inv (RZ P w K mg base N qual scope f (.y c) cl A outer s' H') [] (vs.map O++fv.map O) H' { s' with heap:=h₁,toks:=s'.M+(ps.zip us).length }:=by
  let Cr:∀ b:Á,b∉(RZ P w K mg base N qual scope f (.y c) cl A outer s' H').ex:=λ b z=>absurd (show b∈([]:List Á) from z) JN;show⟨⟨e0.mod,S.kind,Y,Y,Í _,λ y z a h1 h2=>?_,λ y hy=>?_,λ y a h _=>absurd (show (JJ:Bool)=EA from h) â,λ _=>hr.hd,Around.frames_deeper e0.frames,.x ⟨Y,Y⟩,λ b z=>absurd z (Cr b),e0.bs,e0.bsz,λ b _ _=>Cr b,λ b z=>absurd z (Cr b),e0.funs,e0.frf⟩,
   rfl,e0.bare,Un.kept cz,⟨_,mx,λ i y v h1 h2 h3=>?_⟩,λ y a h=>?_,e0.hok.fresh (Í _),λ y a h=>?_,λ p hp=>absurd (show p∈([]:List (Á×Obj))from hp) JN,e0.hok.kept cz,?_⟩
  ·show name_of_addr S.apart (Ĉ h1) (Ĉ h2)
  ·let hy:scope.names.lookup y=O .cell\/scope.names.lookup y=O .free:=hy;rcases hy with hy|hy
   ·show absurd Y (S.nocell _ (Ĉ hy))
   ·show S.frees y hy
  ·by_cases hi:i < vs.Z
   ·rw[š (by simpa using hi),Ö] at h2;let⟨a,ha,e⟩:=ç.mp h2;ext e;let⟨u,hu,rv⟩:=r.get ha;let hp:ps[i]? = O y:=by
     rw[<- S.pre,aeq JM];show h1
    show⟨u,rv,.p ⟨S.par y (Ô hp),xQ Lc hp hu⟩⟩
   ·rw[Š (by simpa using hi),Ê,Ö]at h2;let⟨a,ha,e⟩:=ç.mp h2;ext e;let⟨hk,a,u,h4,h5,rv⟩:=hfv (i - vs.Z) y v (by rw[show ps.Z+(i - vs.Z)=i by lia];show h1) ha;let⟨o,e1,e2⟩:=cellK h4 h5;show⟨u,rv,.x ⟨.x hk,a,h4,o,cz _ _ e1,e2⟩⟩
  ·let⟨v,hv⟩:=Dx y a h;let⟨o,e1,e2⟩:=cellK h hv;show⟨v,o,cz _ _ e1,e2⟩
  ·show ck.free a (Ù.2 ⟨(y,a),Ĉ h,Y⟩)
  ·change _=N.Z;rw[Ý,Ê,Ê];lia
 show PySem.W.kla_codeExpr (î (hte [] _ _ H' _ I hq) (λ u yc ⟨v,tw,J,rv,q⟩=>⟨v,tw,J.os,J.bare,J.base,J.hok,rv,q⟩) λ e yc z=>z.elim)
end
end L2
namespace L2
open PySem PySem.Spec PyProof.Rows TwZ
open PySem.W (envX kla_obj kla_fn CodeHd tabObj)
structure NestB (mg:Str->Option À) (base:Heap) (c Pt:Á):Prop where
 hd:CodeHd base c Pt
 bm:∃ bm ob,mg "__builtins__"=O (.y bm)/\bm≠builtinsNs/\bm≠mainGlobals/\base.get? bm=O ob/\ob.cls=.q "module" /\ ob.dict=O builtinsNs/\ob.data=.plain
def cB (H:Hp) (Pt:Á) (pos:Pos) (q:Str):Prop:=H Pt=O (.tbl #[])\/∃(c:Á) (oc:Obj) (vs:Array À) (t:Tok),H Pt=O (.tbl #[rawInt pos.line,rawInt pos.col,.y c])/\H c=O (.frz oc (.own c))/\oc.data=.U vs/\vs[1]?=O (.o q t)
def ButT (Pt:Á) (H H':Hp):Prop:=∀ b o,b≠Pt->H b=O o->H' b=O o
def cB.same  (h:cB H Pt pos q) (s:aI H H'):cB H' Pt pos q:=by
 rcases h with h|⟨c,oc,vs,t,h1,h2,h3⟩
 ·show .p (s _ _ h)
 ·show .x ⟨c,oc,vs,t,s _ _ h1,s _ _ h2,h3⟩
def cB.some  (h:cB H Pt pos q):∃ ps,H Pt=O (.tbl ps):=by
 rcases h with h|⟨c,oc,vs,t,h1,_⟩
 ·show⟨_,h⟩
 ·show⟨_,h1⟩
def tLam (Pt:Á) (pos:Pos) (q:Str) (mk:Á->À->Obj):TE:=λ σ H Q=>cB H Pt pos q/\∀(f c:Á) (oc:Obj) (xk:À) (H':Hp),H f=W->ButT Pt H H'->cB H' Pt pos q->FnH H' f c (mk c xk) oc->(∃ vs t,oc.data=.U vs/\vs[1]?=O (.o q t))->Q (.y f) H'
section
def Inv.frzNew {σ:St} (I:Inv X gu σ H s) {h':Heap}{tk:Nat}{ob:Obj} (k:∀ b o,s.heap.get? b=O o->h'.get? b=O o) (hsz:s.L<=h'.objs.S) (xi:autoParam (ob.isFreed=false) _0) :
  Inv X gu σ (upd H h'.objs.size (.frz ob (.own h'.objs.S))) { s with heap:=h'.push ob,toks:=tk }:=
 I.laid (t':=tk) (a:=h'.objs.S) (λ b o e=>Î _ (k b o e)) hsz (show dB X.prog X.w _ _ _ (.frz ob (.own h'.objs.S))from⟨Ü _ xi,ob,Ü _ xi⟩)
def XU {c Pt:Á}{clos:List (Str×Á)} (Qm:defaultsOf params X.env=([],[])) (vt:closureFor scope X.env=pure clos) (xm:X.env.code=.y c) (NB:NestB X.mg X.base c Pt) :
  PE X (.Lambda params body scope pos) (tLam Pt pos (X.env.qual ++ "<lambda>") λ c' xk=>kla_obj "<lambda>" (X.env.qual ++ "<lambda>") params body scope clos ((X.mg "__name__").getD .none) c' xk):=by
 intro gu s σ H Q I h;let⟨tab,h⟩:=h;show PySem.W.kla_eval Qm ?_;let tf:∃ ps,H Pt=O (.tbl ps):=tab.some;let Vq:∀ b o,X.base.get? b=O o->b≠Pt:=λ b o e z=>by
  let⟨ps,hp⟩:=tf;let:=(I.bs b o e).2;rw[z,hp]at this;cases this
 let Vr:=I.mod.glob.keeps I.bk;let hgP:mainGlobals≠Pt:=by
  let⟨o,es,ep,e,_⟩:=I.mod.glob;show Vq _ _ e
 let⟨bm,ob,b1,b2,b3,b4,b5,b6,b7⟩:=NB.bm;let hb:s.heap.BuiltinsAt X.mg Pt:=⟨bm,ob,b1,b2,b3,Vq _ _ b4,I.bk _ _ b4,b5,b6,b7⟩;rcases tab with e|⟨c',oc,vs,t,e,ec,d1,d2⟩
 ·let hP:s.heap.get? Pt=O (tabObj #[]):=(show dB X.prog X.w H s.heap Pt (.tbl #[]) from I.hok Pt _ e);show PySem.W.kla_makeFunction (mg:=X.mg) vt I.ok.glob Vr xm (NB.hd.keeps I.bk) hP trivial Y hgP hb λ c' xk h' tk hx Hy ki Qn htb=>?_;let⟨c2,oc,vs,t,e2,xq,d1,d2⟩:=Qn;ext e2;let Mj:H c'=none:=I.hok.fresh Hy;let Vt:Pt≠c':=λ z=>by rw[<- z,e] at Mj;cases Mj
  let Dy:h'.get? Pt=O (tabObj #[rawInt pos.line,rawInt pos.col,.y c']):=by simpa using htb
  let J:Inv X gu σ (upd (upd H Pt (.tbl #[rawInt pos.line,rawInt pos.col,.y c'])) c' (.frz oc (.own c'))) { s with heap:=h',toks:=tk }:=by
   let Jl:∀ {b:Á}{o:HO},H b=O o->b≠Pt->upd (upd H Pt (.tbl #[rawInt pos.line,rawInt pos.col,.y c'])) c' (.frz oc (.own c')) b=O o:=λ {b o} q hb=>by
    rw[aK (aM q Mj),aK hb];show q
   show I.call (h':=h') (g':=s.gens) (d':=s.drawn) (t':=tk) (ch:=[]) ?_ ?_ I.bare (λ b z=>absurd z JN)
   ·show⟨λ b o q n _ _=>hx b o (λ z=>by rw[z,e]at n;ext n) q,λ b o q n _ _=>⟨o.slots,hx b o (λ z=>by rw[z,e]at n;ext n) q⟩,λ b o q n _=>?_,λ b o q _=>?_,λ b xs q=>Jl q (λ z=>by rw[z,e]at q;ext q),λ b o u q=>Jl q (λ z=>by rw[z,e]at q;ext q),λ b ps q=>?_⟩
    ·rw[aK (ä (é (Ó q) Hy)),aK (λ z=>by rw[z,e]at n;ext n)];show n
    ·by_cases mq:b=Pt
     ·subst mq;show⟨_,Dy⟩
     ·show⟨o,hx b o mq q⟩
    ·by_cases mq:b=Pt
     ·subst mq;rw[e]at q;ext q;show⟨#[rawInt pos.line,rawInt pos.col,.y c'],by rw[aK Vt,aD];simp⟩
     ·show⟨#[],by rw[Jl q mq];simp⟩
   ·intro b u q
    by_cases Vu:b=c'
    ·subst Vu;rw[aD]at q;ext q;show⟨xq,oc,xq⟩
    ·rw[aK Vu]at q
     by_cases mq:b=Pt
     ·subst mq;rw[aD]at q;ext q;show Dy
     ·rw[aK mq]at q;show(I.hok b u q).stay (λ d o hd r=>hx d o (λ z=>?_) r) (λ d r=>Jl r (λ z=>by rw[z,e]at r;ext r)) λ d xs r=>Jl r (λ z=>by rw[z,e]at r;ext r);rcases hd with rfl|hd
      ·show mq z
      ·rw[z,e]at hd;cases hd
  let J2:=Inv.frzNew (tk:=tk) (ob:=kla_obj "<lambda>" (X.env.qual ++ "<lambda>") params body scope clos ((X.mg "__name__").getD .none) c' xk) J (h':=h') (λ b o q=>q) (Í _);let Vv:c'≠h'.objs.S:=ä ki;let hfP:Pt≠h'.objs.S:=ä (Ó Dy);let vx:H h'.objs.S=none:=I.hok.fresh (ï Hy (ğ ki));show⟨.y h'.objs.S,_,J2,Y,h h'.objs.size c' oc xk _ vx (λ b o mq q=>?_) (.x ⟨c',oc,vs,t,?_,?_,d1,d2⟩) ⟨aD,?_⟩ ⟨vs,t,d1,d2⟩⟩
  ·rw[aK (aM q vx),aK (aM q Mj),aK mq];show q
  ·rw[aK hfP,aK Vt,aD]
  ·rw[aK Vv,aD]
  ·rw[aK Vv,aD]
 ·let hP:s.heap.get? Pt=O (tabObj #[rawInt pos.line,rawInt pos.col,.y c']):=(show dB X.prog X.w H s.heap Pt (.tbl #[rawInt pos.line,rawInt pos.col,.y c'])from I.hok Pt _ e);show PySem.W.kla_makeFunctionHit (mg:=X.mg) vt I.ok.glob Vr xm (NB.hd.keeps I.bk) hP (show TriplesOk [rawInt pos.line,rawInt pos.col,.y c']from trivial) (show codeAmong pos [rawInt pos.line,rawInt pos.col,.y c']=O (.y c') by simp[codeAmong,rawInt]) hb λ xk h' tk hk hsz=>?_;let J2:=Inv.frzNew (tk:=tk) (ob:=kla_obj "<lambda>" (X.env.qual ++ "<lambda>") params body scope clos ((X.mg "__name__").getD .none) c' xk) I (h':=h') hk hsz;let vx:H h'.objs.S=none:=I.hok.fresh hsz;let s1:=È (o:=HO.frz (kla_obj "<lambda>" (X.env.qual ++ "<lambda>") params body scope clos ((X.mg "__name__").getD .none) c' xk) (.own h'.objs.S)) vx;show⟨.y h'.objs.S,_,J2,Y,h h'.objs.size c' oc xk _ vx (λ b o _ q=>s1 _ _ q) (.x ⟨c',oc,vs,t,s1 _ _ e,s1 _ _ ec,d1,d2⟩) ⟨aD,s1 _ _ ec⟩ ⟨vs,t,d1,d2⟩⟩
end
end L2
namespace L2
open PySem PySem.Spec PyProof.Rows TwZ
open PySem.W (envX kla_obj kla_fn CodeHd tabObj)
structure CellF (X:Cx) (σ:St) (H:Hp) (s:Â):Prop where
 val:∀(i:Nat) (x:Str) (v:V),X.N[i]?=O x->σ[i]?=O (O v)->X.env.scope.names.lookup x=O .cell->∃ c u,X.env.cells.lookup x=O c/\s.heap.IsCell c (O u)/\bE v u
 cell:∀ x c,X.env.cells.lookup x=O c->∃ v,s.heap.IsCell c v
 out:∀ x c,X.env.cells.lookup x=O c->H c=W/\c∉mP X.stack/\c < s.L
 inj:∀ x y c,X.env.cells.lookup x=O c->X.env.cells.lookup y=O c->x=y
section
variable {X:Cx}{CX:GH}{k:Nat}{f:Á}{fd:FuncData}{ps:List Str}{sp:WQ}{E:XK}{x:Str}{p pos:Pos}{e:Expr}{es:List Expr}{t:TA}
def Inv.cellF {σ:St} (I:Inv X gu σ H s) (so:X.stack=X.env::X.outer) (xi:X.env.frame=O X.env.locals) (vx:∀ x,X.fn x=EA):CellF X σ H s:=by
 show⟨λ i x v h1 h2 h3=>?_,I.cell,λ x c hc=>⟨I.freeC x c hc,λ z=>?_,?_⟩,I.ok.inj⟩
 ·let⟨m,hn,hl⟩:=I.loc;let⟨u,r,l⟩:=hl i x v h1 h2 (.x (.p h3));rcases l with⟨hk,_⟩|⟨_,c,hc,mn⟩
  ·let hk:X.env.scope.names.lookup x=O .local:=hk;rw[h3]at hk;cases hk
  ·show⟨c,u,hc,mn,r⟩
 ·let⟨v,o,e1,e2⟩:=I.cell x c hc;rw[so]at z;unfold mP at z;rw[agc xi]at z;rcases Ð.1 z with z|z
  ·let⟨m,⟨oL,es,ep,eL,dL,_⟩,_⟩:=I.loc;rw[<- z,e1]at eL;ext eL;rw[e2]at dL;cases dL
  ·let h1:=I.ok.cab x c (vx x) hc;let⟨_,⟨ob,hb,_⟩⟩:=I.ok.funs.mem (show c∈mP X.outer from z);show absurd (é (Ó hb) h1) (Ċ _)
 ·let⟨v,o,e1,e2⟩:=I.cell x c hc;show Ó e1
def X5 (X:Cx) (sp:WQ) (E:XK) (t:TA):TE:=λ σ H Q=>t σ H λ vs H1=>∀ s1:Â,CellF X σ H1 s1->sp s1 X.stack vs H1 Q E
set_option tactic.hygienic true in
def PC (F:FnOkS X.prog X.w X.K X.mg X.base CX k f fd ps sp) (hr:Room k X.A) (hg:Gl X x) (hm:X.mg x=O (.y f)) (hk:PySem.W.keepIn X.K (.y f)=EA) (hb:gW X.K fd ps []) (hx:j8 CX X E)
  (so:X.stack=X.env::X.outer) (xi:X.env.frame=O X.env.locals) (vx:∀ x,X.fn x=EA)
  (ha:PA X (e::es) t) (ze:autoParam ((x==("__debug__":Str))=false) _2) (he:autoParam (starEach (e::es) X.env=(JJ,eval e X.env)::starEach es X.env) _0) (pj:autoParam ((backTo pos (starEach es X.env)).any (·.1)=false) _0) :
  PE X (.rj (.C x p) (e::es) [] pos) (X5 X sp E t):=by
 intro gu s σ H Q I h;show Ĵ (kW I hg hm ?_ ze);show ŕ (h₀:=X.base) I.ok.mod.kin hk (dG (ha pos gu s σ H _ I h) λ us s1 ⟨vs,H1,I1,r,q⟩=>⟨I1.kIn,?_⟩) he pj;let q1:=q s1 (I1.cellF so xi vx);let hl:us.Z=ps.Z:=by rw[<- r.Z];show F.len _ _ _ _ _ _ q1
 let Lp:=hb s1 us I1.kIn (by rw[þ];show hl);rw[þ]at Lp;show ň (Ň (F.run X.A X.stack s1 H1 ⟨us,[]⟩ us vs Q E hr I1.env0 Lp r q1) λ r s' hq=>?_);cases r with
 |error e=>show hx gu σ H1 s1 e s' I1 hq
 |ok fl=>
  cases fl with
  |ret u=>show I1.after hq
  |next=>show False.elim hq
  |brk=>show False.elim hq
  |cont=>show False.elim hq
end
structure CalleeS (P:Ã) (w:World) (K:Ç) (mg:Str->Option À) (base:Heap) (x:Str) (ps:List Str) (k:Nat) (sp:WQ) (f:Á) (fd:FuncData):Prop where
 ok:FnOkS P w K mg base (iS P w) k f fd ps sp
 mg:mg x=O (.y f)
 kp:PySem.W.keepIn K (.y f)=EA
 bd:gW K fd ps []
def Fun.okS {x qual:Str}{st:Stmt}{N ps:List Str}{k:Nat}{sp:WQ} (F:Fun K x qual st f fd) (S:FnScope N ps (aJ st)) (len:∀ s o vs H Q E,sp s o vs H Q E->vs.Z=ps.Z)
  (lq:∀(ir:À) (A:Around) (outer:List Env) (s:Â) (H:Hp) (vs:List V) (Q:VK) (E:XK),Room k (A.deeper (envOfC qual (aJ st) s.heap.objs.size f ir))->Env0 P w K mg base A outer s H->sp s outer vs H Q E->
   Leaves (oN (iS P w) P w K mg base N qual (aJ st) f ir A outer s H E) E->
   ∃ t,DM (oN (iS P w) P w K mg base N qual (aJ st) f ir A outer s H E) (dS st) t/\t { nx:=λ _ H'=>Q .non H',rt:=Q } (kJ N vs) H):FnOkS P w K mg base (iS P w) (k+1) f fd ps sp:=by
 let⟨oc,od,kV,doc,pm,an,ir,ct,uy,Y,lk,qi⟩:=F.ex;show YG lk qi S len λ A outer s H vs Q E hr e0 lw=>lq ir A outer s H vs Q E hr e0 lw ⟨Y,Y,Y,λ _ _ h=>h⟩
end L2
namespace L2
open PySem PySem.Spec PyProof.Rows TwZ
open PySem.W (CodeHd tabObj OpenLaw)
def LC (jg:List (Á×Á)) (H:Hp):Prop:=∀ b,H b=W\/(∃ o xs,H b=O (.frz o (.j xs)))\/∃ q∈jg,b=q.2
set_option tactic.hygienic true in
def MJ {P:Ã}{w:World}{K:Ç}{mg mb:Str->Option À}{CX:GH}{k:Nat}{fa a:Á}{fd:FuncData}{x:Str}{sp:Sp}{ai:Â}{vs:List À}{ns:List Int}{jg:List (Á×Á)}
  (KX:K.In ai.heap) (mx:ai.heap.Ns mainGlobals mg) (hb:ai.heap.Ns builtinsNs mb) (hbb:∀ x:Str,x ≠ "__name__" -> mb x=bootBuiltins x) (Qo:ai.heap.NoLimit) (hg:ai.gens= #[])
  (hbm:∃ bm ob,mg "__builtins__"=O (.y bm)/\bm≠builtinsNs/\ai.heap.get? bm=O ob/\ob.cls=.q "module" /\ ob.dict=O builtinsNs/\ob.data=.plain)
  (hT:∀ q∈jg,ai.heap.get? q.2=O (tabObj #[])) (hC:∀ q∈jg,CodeHd ai.heap q.1 q.2) (hKt:∀ q∈jg,K.lookup q.2=W)
  (ha:ai.heap.get? a=O { cls:=.q "list",data:=.V vs.toArray }) (hi:IntsAre vs ns) (hl:ns.Z<=sizeLine) (hr:Room k callerA)
  (F:∀ base:Heap,K.In base->base.Ns mainGlobals mg->(∀ q∈jg,NestB mg base q.1 q.2)->FnOk P w K mg base CX k fa fd [x] sp) (Ad:∀(s:Â) (u:À),BindsTo s fd ⟨[u],[]⟩ [(x,u)])
  (lw:∀ H:Hp,LC jg H->bC K H a (ns.map V.int)->(∀ q∈jg,H q.2=O (.tbl #[]))->sp [.y a] H (λ v _=>v=.bl EA) λ _ _ _=>False)
  (hCX:∀ H e s',CX [] H ai (λ _ _ _=>False) e s'->False) :
  codeAny (model P w) callerA (.call (.y fa) ⟨[.y a],[]⟩) (λ r s'=>r=.ok (.ret (.I EA))/\OldK ai.heap s'.heap/\s'.os=ai.os/\AllBare s'.gens) ai:=by
 let rv:=yY hi;let Qp:=hi.Z;let aT:∀ q∈jg,q.2≠a:=λ q hq z=>by
  let:=hT q hq;rw[z,ha]at this;cases this
 let core:∀ H:Hp,LC jg H->bC K H a (ns.map V.int)->pY P w H ai.heap->(∀ b,H b≠W->b=a\/∃ q∈jg,b=q.2)->(H a≠W->K.lookup a=W)->(∀ q∈jg,H q.2=O (.tbl #[]))->
   codeAny (model P w) callerA (.call (.y fa) ⟨[.y a],[]⟩) (λ r s'=>r=.ok (.ret (.I EA))/\OldK ai.heap s'.heap/\s'.os=ai.os/\AllBare s'.gens) ai:=by
  intro H hO hS hok hA hK Vw;let qb:∀ {b:Á}{o:Obj},ai.heap.get? b=O o->H b=W->(yT ai.heap H).get? b=O o:=λ e n=>R6 e n;let Qq:∀ {b:Á}{o:Obj},ai.heap.get? b=O o->o≠{ cls:=.q "list",data:=.V vs.toArray }->o≠tabObj #[]->H b=none:=λ {b o} e d1 d2=>by
   cases q:H b with
   |none=>rfl
   |some u=>
    rcases hA b (by rw[q];simp)with e'|⟨q',ux,e'⟩
    ·subst e';rw[ha]at e;show absurd (ñ e).symm d1
    ·subst e';rw[hT q' ux]at e;show absurd (ñ e).symm d2
  let Ml:∀ {b:Á}{m:Str->Option À},ai.heap.Ns b m->(yT ai.heap H).Ns b m:=λ {b m} ⟨o,es,ep,e,d,r⟩=>⟨o,es,ep,qb e (Qq e (λ z=>by rw[z]at d;ext d) (λ z=>by rw[z]at d;ext d)),d,r⟩;let Vx:K.In (yT ai.heap H):=λ b o e=>qb (KX b o e) (by
   cases q:H b with
   |none=>rfl
   |some u=>
    rcases hA b (by rw[q];simp)with e'|⟨q',ux,e'⟩
    ·subst e';rw[hK (by rw[q];simp)]at e;cases e
    ·subst e';rw[hKt q' ux]at e;ext e)
  let hM:Mod K mg (yT ai.heap H):=⟨Vx,Ml mx,⟨mb,Ml hb,hbb⟩,let ⟨mc,h1,h2⟩:=Qo;⟨mc,Ml h1,h2⟩⟩;let e0:Env0 P w K mg (yT ai.heap H) callerA [] ai H:=⟨rfl,hM,λ b o e=>UP e,Ļ (MN _ _),trivial,λ b hb=>absurd (show b∈([]:List Á) from hb) JN,hok,.of_eq hg⟩;let hN:∀ q∈jg,NestB mg (yT ai.heap H) q.1 q.2:=λ q hq=>by
   let⟨o,vs',file,tf,flags,tg,inF,text,tt,e1,r1,r2,r3,r4,r5,r6,r7,r8,uq⟩:=hC q hq;let⟨bm,ob,b1,b2,b3,b4,b5,b6⟩:=hbm;show⟨⟨o,vs',file,tf,flags,tg,inF,text,tt,qb e1 (Qq e1 (λ z=>absurd (r1.symm.trans (congrArg Obj.cls z)) (by change ¬ (Value.type "code" =Value.type "list");decide)) (λ z=>absurd (r1.symm.trans (congrArg Obj.cls z)) JL)),r1,r2,r3,r4,r5,r6,r7,r8,uq⟩,bm,ob,b1,b2,λ z=>?_,qb b3 (Qq b3 (λ z=>absurd (b4.symm.trans (congrArg Obj.cls z)) (by change ¬ (Value.type "module" =Value.type "list");decide)) (λ z=>absurd (b4.symm.trans (congrArg Obj.cls z)) JL)),b4,b5,b6⟩;let⟨og,es,ep,eg,dg,_⟩:=mx;rw[z,eg]at b3;ext b3;rw[dg]at b6;cases b6
  show Ň ((F _ Vx (Ml mx) hN).run callerA [] ai H ⟨[.y a],[]⟩ [.y a] [.y a] _ _ hr e0 (Ad ai (.y a)) (.B Y .nil) (lw H hO hS Vw)) λ r s' h=>?_;cases r with
  |error e=>show(hCX H e s' h).elim
  |ok fl=>
   cases fl with
   |next=>show False.elim h
   |brk=>show False.elim h
   |cont=>show False.elim h
   |ret u=>
    let⟨v,H',os,bare,un,Jm,r',q⟩:=h;let q':v=.bl true:=q;subst q';obtain rfl:u=Value.bool true:=r';let Qr:∀ b:Á,b∉mP ([]:List Env):=λ b z=>absurd (show b∈([]:List Á) from z) JN;let fin:∀ b o,ai.heap.get? b=O o->s'.heap.get? b=O o\/∃ q∈jg,b=q.2/\o=tabObj #[]/\∃ ps,s'.heap.get? b=O (tabObj ps):=λ b o e=>by
     cases q:H b with
     |none=>show .p (un.keep b o e q (Qr b) JN)
     |some u=>
      rcases hO b with z|⟨ob,xs,z⟩|⟨q',ux,e'⟩
      ·rw[q]at z;cases z
      ·let z2:=un.frzs b ob _ z;let⟨e1,_⟩:=hok b _ z;let⟨e2,_⟩:=Jm b _ z2;rw[e]at e1;ext e1;show .p e2
      ·subst e';let⟨vw,z2⟩:=un.tbls _ _ (Vw q' ux);let e2:s'.heap.get? q'.2=O (tabObj (#[]++vw)):=Jm _ _ z2;rw[hT q' ux]at e;show .x ⟨q',ux,Y,(ñ e).symm,_,e2⟩
    show⟨Y,⟨λ b o e=>?_,λ b o e=>?_⟩,os,bare⟩
    ·rcases fin b o e with z|⟨q',ux,rfl,rfl,ps,z⟩
     ·show .p z
     ·show .x (.p ⟨((hC q' ux).tab (hT q' ux)).isCodeTable,Y,#[],ps,Y,by rw[Array.empty_append];show z⟩)
    ·rcases fin b o e with z|⟨q',ux,rfl,rfl,ps,z⟩
     ·show⟨o,z⟩
     ·show⟨_,z⟩
 let tb:∀(G:Hp),(∀ b u,G b=O u->dB P w G ai.heap b u)->(∀ b,G b≠W->b=a)->(G a≠W->∃ o xs,G a=O (.frz o (.j xs)))->
   pY P w (λ b=>if b∈jg.map (·.2)then O (.tbl #[])else G b) ai.heap:=λ G hG hA hL b u z=>by
  by_cases mq:b∈jg.map (·.2)
  ·let z':O (HO.tbl #[])=O u:=by rw[<- z];show(Å mq).symm
   ext z';let⟨q,hq,Y⟩:=Ù.1 mq;show hT q hq
  ·let z':G b=O u:=by rw[<- z];show(Ä mq).symm
   let e':=hA b (by rw[z'];simp);subst e';let⟨o,xs,e2⟩:=hL (by rw[z'];simp);rw[z']at e2;ext e2;show hG b _ z'
 let Vy:∀ q∈jg,q.2∈jg.map (·.2):=λ q hq=>Ù.2 ⟨q,hq,rfl⟩;let aN:a∉jg.map (·.2):=λ z=>by
  let⟨q,hq,e⟩:=Ù.1 z;show aT q hq e
 cases hk:K.lookup a with
 |some o=>
  let e:=KX a o hk;rw[ha]at e;ext e;show core (λ b=>if b∈jg.map (·.2)then O (.tbl #[])else W) (λ b=>?_) (.x ⟨_,vs.J,_,hk,Y,Y,Y,by rw[Þ,Qp];show hl,by simpa using rv⟩) (tb (λ _=>W) (λ b u z=>by let z':(W:Option HO)=O u:=z;ext z') (λ b z=>absurd Y z) λ z=>absurd Y z) (λ b z=>?_) (λ z=>absurd (Ä aN) z) λ q hq=>Å (Vy q hq)
  ·by_cases mq:b∈jg.map (·.2)
   ·let⟨q,hq,e⟩:=Ù.1 mq;show .x (.x ⟨q,hq,e.symm⟩)
   ·show .p (Ä mq)
  ·by_cases mq:b∈jg.map (·.2)
   ·let⟨q,hq,e⟩:=Ù.1 mq;show .x ⟨q,hq,e.symm⟩
   ·show absurd (Ä mq) z
 |none=>
  show core (λ b=>if b∈jg.map (·.2)then O (.tbl #[])else if b=a then O (.frz { cls:=.q "list",data:=.V vs.toArray } (.j (ns.map V.int)))else W) (λ b=>?_) (.p (.x ⟨{ cls:=.q "list",data:=.V vs.toArray },(Ä aN).trans (Å Y)⟩))
   (tb (λ b=>if b=a then O (.frz { cls:=.q "list",data:=.V vs.toArray } (.j (ns.map V.int)))else W) (λ b u z=>?_) (λ b z=>?_) λ _=>⟨_,_,Å rfl⟩) (λ b z=>?_) (λ _=>hk) λ q hq=>Å (Vy q hq)
  ·by_cases mq:b∈jg.map (·.2)
   ·let⟨q,hq,e⟩:=Ù.1 mq;show .x (.x ⟨q,hq,e.symm⟩)
   ·by_cases sw:b=a
    ·show .x (.p ⟨_,_,(Ä mq).trans (Å sw)⟩)
    ·show .p ((Ä mq).trans (Ä sw))
  ·by_cases sw:b=a
   ·let z':=(Å sw).symm.trans z;ext z';subst sw;show⟨ha,by rw[Ê];show hl,vs,_,rv,ha⟩
   ·let z':=(Ä sw).symm.trans z;cases z'
  ·by_cases sw:b=a
   ·show sw
   ·show absurd (Ä sw) z
  ·by_cases mq:b∈jg.map (·.2)
   ·let⟨q,hq,e⟩:=Ù.1 mq;show .x ⟨q,hq,e.symm⟩
   ·by_cases sw:b=a
    ·show .p sw
    ·show absurd ((Ä mq).trans (Ä sw)) z
def walk_ofT {l:OpenLaw}{n k:Nat}{q:Ã}{loose:List Str}{XP:(Str->Option À)->Heap->Prop}{YP:World->Heap->Prop}{d:DefRec}{K:Params->Ç}{sp:Ç->List (Á×Á)->Sp}{x:Str}{ts:List Á}
  (hn:l.most=O n) (Lb:n<=sizeLine) (Gy:d.params.defaults=[]) (hr:Room k callerA)
  (hY:∀(w:World) (h:Heap),YP w h->(K w.O).In h) (Qs:∀(w:World) (h:Heap),YP w h->∀ P∈ts,h.get? P=O (tabObj #[]))
  (F:∀(w:World) (mg:Str->Option À) (fa:Á) (h:Heap),(K w.O).In h->h.Ns mainGlobals mg->mg d.name=O (.y fa)->
   ∃(fd:FuncData) (jg:List (Á×Á)),(∀ q∈jg,q.2∈ts/\(K w.O).lookup q.2=W/\PySem.W.codeHdIn (K w.O) q.1 q.2=EA)/\(∀(s:Â) (u:À),BindsTo s fd ⟨[u],[]⟩ [(x,u)])/\
    ∀ base:Heap,(K w.O).In base->base.Ns mainGlobals mg->(∀ q∈jg,NestB mg base q.1 q.2)->FnOk l.prog w (K w.O) mg base gT k fa fd [x] (sp (K w.O) jg))
  (lw:∀(K:Ç) (jg:List (Á×Á)) (H:Hp) (a:Á) (ns:List Int),ns.Z<=n->LC jg H->bC K H a (ns.map V.int)->(∀ q∈jg,H q.2=O (.tbl #[]))->sp K jg [.y a] H (λ v _=>v=.bl EA) λ _ _ _=>False) :
  PySem.W.WalkO q loose XP YP l.row.toRowW d [] (λ f vs=>PySem.call f vs):=by
 show Att.attach_call hn Gy λ w s₀ ai mg mb fa o pm cd doc a vs ns G E7 ho hd qi Gz Cs hints io hg=>?_;let KX:=hY w _ E7;let⟨fd,jg,ht,hb,hF⟩:=F w mg fa _ KX G.T.g Gz;show MJ KX G.T.g G.T.b G.T.builtins G.T.nolimit hg G.T.bmain (λ q hq=>Qs w _ E7 q.2 (ht q hq).1) (λ q hq=>PySem.W.codeHd_of_K KX (ht q hq).2.2) (λ q hq=>(ht q hq).2.1) Cs hints (ï io Lb) hr hF hb
  (λ H hO hS hT=>lw _ jg H a ns io hO hS hT) λ H e s' z=>z
end L2
namespace Tw
open PySem L2
section
variable {ag:Type}{dD:ag->L2.D}{S:L2.D}
structure BfsAt (P:Ã) (w:World) (K:Ç) (dD:ag->L2.D) (S:L2.D) (H:Hp) (fl sd:Á) (us:List V) (ii:List (L2.D×V)) (fs:Fs ag):Prop where
 lst:H fl=O (.j us)
 its:Paired (λ(p:ag×List Int) v=>KeyD K H S (dD p.1) v) fs us
 dic:fP P w K H sd S ii
 row:Paired (λ(p:ag×List Int) (q:L2.D×V)=>dD p.1=q.1/\∃ a,q.2=.y a/\a≠fl/\H a=O (.j (p.2.map V.int))) fs ii
variable {H H':Hp}{fl sd:Á}{us:List V}{ii:List (L2.D×V)}{fs:Fs ag}
def BfsAt.ne (B:BfsAt P w K dD S H fl sd us ii fs):fl≠sd:=λ z=>by
 let h:=B.lst;rcases B.dic with⟨e,_⟩|⟨xs,e,_⟩
 ·rw[z,e]at h;cases h
 ·rw[z,e]at h;cases h
def BfsAt.rne (B:BfsAt P w K dD S H fl sd us ii fs) (h:H a=O (.j xs)):a≠sd:=λ z=>by
 rcases B.dic with⟨e,_⟩|⟨xs,e,_⟩
 ·rw[z,e]at h;cases h
 ·rw[z,e]at h;cases h
def BfsAt.same (B:BfsAt P w K dD S H fl sd us ii fs) (s:aI H H'):BfsAt P w K dD S H' fl sd us ii fs:=
 ⟨s _ _ B.lst,Į B.its λ _ _ h=>h.mono s.ts,B.dic.same s,Į B.row λ _ _ ⟨h1,a,h2,h3,h4⟩=>⟨h1,a,h2,h3,s _ _ h4⟩⟩
def Paired.get' {ag cx:Type}{F:ag->cx->Prop}:∀ {cb:List ag}{ce:List cx},Paired F cb ce->∀ {i:Nat}{a:ag},cb[i]?=O a->∃ b,ce[i]?=O b/\F a b:=by
 intro cb ce r
 induction r with
 |nil=>intro i a h;simp at h
 |cons h t ih=>
  intro i a e;cases i with
  |zero=>ext e;show(bO _ Y h)
  |succ i=>show ih e
def Paired.snoc {ag cx:Type}{F:ag->cx->Prop}{cb:List ag}{ce:List cx}{a:ag}{b:cx} (r:Paired F cb ce) (h:F a b):Paired F (cb++[a]) (ce++[b]):=by
 induction r with
 |nil=>show .B h .nil
 |cons h' t ih=>show .B h' ih
def BfsAt.val (B:BfsAt P w K dD S H fl sd us ii fs) (k:L2.D):(kF dD fs k=W/\dQ ii k=W)\/∃ r a,kF dD fs k=O r/\dQ ii k=O (.y a)/\a≠fl/\H a=O (.j (r.map V.int)):=by
 let r:=B.row;clear B;unfold kF dQ
 induction r with
 |nil=>show .p ⟨Y,Y⟩
 | @cons p q ps qs h t ih=>
  let⟨e,a,e2,n,hl⟩:=h
  by_cases c:dD p.1=k
  ·show .x ⟨p.2,a,?_,?_,n,hl⟩
   ·rw[ae2 (by simpa using c)];rfl
   ·rw[ae2 (by simpa using e ▸ c)];rw[ī,e2]
  ·rw[ae3 (by simpa using c),ae3 (by rw[<- e];simpa using c)];show ih
def BfsAt.isSome (B:BfsAt P w K dD S H fl sd us ii fs) (k:L2.D):(dQ ii k).isSome=(kF dD fs k).isSome:=by
 rcases B.val k with⟨h1,h2⟩|⟨r,a,h1,h2,_⟩
 ·rw[h1,h2];rfl
 ·rw[h1,h2];rfl
def BfsAt.lenU (B:BfsAt P w K dD S H fl sd us ii fs):us.Z=fs.Z:=(Ĺ B.its).symm
def BfsAt.lenK (B:BfsAt P w K dD S H fl sd us ii fs):ii.Z=fs.Z:=(Ĺ B.row).symm
def BfsAt.put  (B:BfsAt P w K dD S H fl sd us ii fs) (hn:(kF dD fs (dD d)).isSome=JJ) (hk:KeyD K H S (dD d) v) (hr:H ra=O (.j (r.map V.int))) (uq:ra≠fl) (bt:cI sd H H') (dd:fP P w K H' sd S (jE ii (dD d) (.y ra))) :
  BfsAt P w K dD S (upd H' fl (.j (us++[v]))) fl sd (us++[v]) (ii++[(dD d,.y ra)]) (fs++[(d,r)])/\lX (H' fl):=by
 let mu:=B.dic.mut;let Di:=bt.ts (K:=K) mu;let e1:H' fl=O (.j us):=bt _ _ B.ne B.lst;let Bc:lX (H' fl):=by rw[e1];show trivial
 let b2:cI fl H' (upd H' fl (.j (us++[v]))):=Û;let vv:=b2.ts (K:=K) Bc;let hv:dQ ii (dD d)=none:=by
  let:=B.isSome (dD d);rw[hn]at this;cases q:dQ ii (dD d)with
  |none=>rfl
  |some _=>rw[q]at this;cases this
 rw[OX _ hv]at dd;show⟨⟨aD,Paired.snoc (Į B.its λ _ _ h=>(h.mono Di).mono vv) ((hk.mono Di).mono vv),dd.mono vv λ o e=>b2 _ _ (Ne.symm B.ne) e,Paired.snoc (Į B.row λ p q ⟨h1,a,h2,h3,h4⟩=>⟨h1,a,h2,h3,b2 _ _ h3 (bt _ _ (B.rne h4) h4)⟩) ⟨Y,(bO ra Y ⟨uq,b2 _ _ uq (bt _ _ (B.rne hr) hr)⟩)⟩⟩,Bc⟩
end
section
variable {ag:Type}{dD:ag->L2.D}{kg:ag->Int->ag}{fin:ag->Int->Bool}{ok:ag->Prop}{G:Hp->Prop}{S:L2.D}
def X9 (K:Ç) (dD:ag->L2.D) (kg:ag->Int->ag) (fin:ag->Int->Bool) (ok:ag->Prop) (G:Hp->Prop) (il:Nat):Sp:=λ vs H Q _=>∃(x:V) (d:ag) (a:Nat),vs=[x,.u a]/\Is K H (dD d) x/\ok d/\a<=il/\G H/\
 ∀ p y H',aI H H'->bH K H' p [y,.bl (fin d a)]->Is K H' (dD (kg d a)) y->Q (.y p) H'
structure Goes (K:Ç) (dD:ag->L2.D) (kg:ag->Int->ag) (ok:ag->Prop) (G:Hp->Prop) (S:L2.D) (most:Nat):Prop where
 next:∀ d (a:Nat),ok d->a<=most->ok (kg d a)
 key:∀ d,ok d->∀ H v,Is K H (dD d) v->KeyD K H S (dD d) v
 stay:∀ H H',bU K H H'->G H->G H'
def OC (P:Ã) (w:World) (K:Ç) (mg:Str->Option À) (base:Heap) (cT:Á) (dD:ag->L2.D):WQ:=λ s outer vs H Q E=>∃(kg:ag->Int->ag) (fin:ag->Int->Bool) (ok:ag->Prop) (G:Hp->Prop) (S:L2.D) (x:V) (f c:Á) (ob oc:Obj) (cl:List (Str×Á)) (il jr:Nat) (first:ag),
 vs=[x,.y f,.u il,.u jr]/\1<=jr/\jr<=1000/\il<=1000/\Is K H (dD first) x/\ok first/\Goes K dD kg ok G S il/\G H/\FnH H f c ob oc/\(∃ cls od fd sl,ob=⟨cls,od,.func fd,sl⟩)/\SF P w K mg base 6 f c ob oc cl (X9 K dD kg fin ok G il) s/\
 (∀ c∈cl.map (·.2),H c=W/\c∉mP outer/\c < s.L/\∃ o,s.heap.get? c=O o)/\
 (∀ row fs,SR dD kg fin il jr first=.ends row fs->∀ p rl fl H',aI H H'->bH K H' p [.y rl,.y fl]->H' rl=O (.j (row.map V.int))->H rl=W->row.Z<=2000->Q (.y p) H')/\
 (SR dD kg fin il jr first=.many->∀ H',aI H H'->E (.y cT) W H')/\
 (∀ fs,SR dD kg fin il jr first=.on fs->∀ p fl us H',aI H H'->bH K H' p [.non,.y fl]->H' fl=O (.j us)->H fl=W->Paired (λ(p:ag×List Int) v=>KeyD K H' S (dD p.1) v) fs us->(∀ q∈fs,ok q.1)->fs.Z<=jr->Q (.y p) H')
def pN:FnScope ["first","step","most","limit","found","rows","place","here","amount","row","behind","is_end"] ["first","step","most","limit"] (aJ (aX 56)):={}
set_option tactic.hygienic true in
def yO (F:Fun K "go_through" "go_through" (aX 56) f fd) (T:Txt mg) (md:ExC K "TooMany" gz) :
  FnOkS P w K mg base (iS P w) 7 f fd ["first","step","most","limit"] (OC P w K mg base gz dD):=by
 show F.okS pN (λ s o vs H Q E h=>?_) (λ ir A outer s H vs Q E hr e0 h L=>?_)
 ·let⟨kg,fin,ok,G,S,x,f,c,ob,oc,cl,il,jr,first,Y,_⟩:=h;rfl
 ·let⟨kg,fin,ok,G,S,x,f',c,ob,oc,cl,il,jr,first,Y,yk,zi,hm,hx,hok,gs,hG,hF,RF,RS,hc,kE,kM,kO⟩:=h;let sc:=pN;let RC:∀ c∈cl.map (·.2),H c=W/\c∉mP outer/\c∉([]:List Á)/\c < s.L/\∃ o,s.heap.get? c=O o:=λ c vy=>by
   let⟨h1,h2,h3⟩:=hc c vy;show⟨h1,h2,JN,h3⟩
  show⟨_,(aE (TV (i:=4) (j:=5) (k:=6) Y sc.nd Y Y Y JL JL JL Y Y Y (a9 (aY (a9 (pv 0) aB)) (a9 (M0 (P:=P) (w:=w) (K:=K) Y Y Y hr.units (pv 0) (aY aB)) (a9 aH aB))) Y)
   (aE (OZ ř (aR ER (pv 6) (zU K T.b_len (pv 4)) (aW _)) (aE (pL 7 sc.nd (px K (pv 4) (pv 6)))
   (aE (eE ř Y (eX Y T.b_range (a9 (bA dM (pv 2) aH) aB)) (gL 8 sc.nd) (aE (pL 9 sc.nd (bA tG (P8 (WC (P:=P) (w:=w) (K:=K) Y Y Y hr.R) (pv 5) (pv 7) (λ _ _=>Y)) (aY (a9 (pv 8) aB))))
   (aE (bF (PB RS RF (hr.mono JL) RC (i:=1) Y (.p Y) (a9 (pv 7) (a9 (pv 8) aB)) Y Y) (aV (K:=K) (n:=2) Y Y (aF (gL 10 sc.nd) (aF (gL 11 sc.nd) aQ))))
   (aE (bK (dI (pv 11)) (aG (aO (bG (a9 (pv 9) (a9 (pv 4) aB))))) aS)
   (aG (bK (aR (PP (P:=P) (w:=w) (K:=K) Y Y Y hr.R) (pv 10) (pv 5) (by rfl)) (aE (bK (aR PQ (zU K T.b_len (pv 4)) (pv 3) (aW _)) (aG (eY L Y Y md.exc md.ns Č (a9 aL aB))) aS)
   (aE (tD (P:=P) (w:=w) (K:=K) Y Y Y hr.units (pv 5) (pv 10) (pv 9) Y)
   (aG (bL (eF (K:=K) Y í ö ø bW (pv 4) (a9 (pv 10) aB)))))) aS))))))
   (aG (HF (i:=6) sc.nd Y (Or.inl Y) aH CZ)))))
   (aG (aO (bG (a9 eQ (a9 (pv 4) aB))))))),?_⟩
  show(bO _ Y ⟨(sz0 1),λ fl zo=>λ sd wt=>(bO _ Y ⟨ß _,λ r0 An=>?_⟩)⟩);let Qt:fl≠sd:=aM (show upd H fl (.j [x]) fl=_ from aD) wt;let Vz:sd≠r0:=aM (show upd (upd H fl (.j [x])) sd (.dK []) sd=_ from aD) An;let Wa:fl≠r0:=aM (show upd (upd H fl (.j [x])) sd (.dK []) fl=_ by rw[aK Qt];show aD) An;let s1:aI H (upd (upd (upd H fl (.j [x])) sd (.dK [])) r0 (.j [])):=((È zo).trans (È wt)).trans (È An);let ff:H fl=none:=zo;let Wb:H sd=none:=(È zo).free wt;let g1:upd (upd (upd H fl (.j [x])) sd (.dK [])) r0 (.j []) fl=O (.j [x]):=by rw[aK Wa,aK Qt];show aD
  let g2:upd (upd (upd H fl (.j [x])) sd (.dK [])) r0 (.j []) sd=O (.dK []):=by rw[aK Vz];show aD
  let g3:upd (upd (upd H fl (.j [x])) sd (.dK [])) r0 (.j []) r0=O (.j []):=aD;generalize upd (upd (upd H fl (.j [x])) sd (.dK [])) r0 (.j [])=H1 at s1 g1 g2 g3 ⊢;let Jn:=gs.key first hok H1 x (Ì s1.ts _ _ hx)
  show⟨g2,S,dD first,Jn,λ H3 b3 d3=>(WL _ _ _ Y ?_)⟩;let Bc:lX (H1 sd):=by rw[g2];show trivial
  let zu:=b3.ts (K:=K) Bc;let B3:BfsAt P w K dD S H3 fl sd [x] [(dD first,.y r0)] [(first,[])]:=⟨b3 _ _ Qt g1,.B (Jn.mono zu) .nil,d3,.B ⟨rfl,r0,rfl,Ne.symm Wa,b3 _ _ (Ne.symm Vz) g3⟩ .nil⟩;let s3:aI H H3:=λ b o e=>b3 b o (aM e Wb) (s1 b o e);let F3:FnH H3 f' c ob oc:=hF.same s3;let G3:G H3:=gs.stay _ _ s3.ts hG;clear g1 g2 g3;show⟨λ m ac H'=>aI H H'/\∃(p:Nat) (fs:Fs ag) (us:List V) (ii:List (L2.D×V)) (v7 v8 v9 nk om:Option V),m=jr+1 - p/\BfsAt P w K dD S H' fl sd us ii fs/\p<=fs.Z/\fs.Z<=jr/\(∀ q∈fs,ok q.1/\q.2.length < fs.Z)/\tS dD kg fin il jr (jr+1 - p) p fs=SR dD kg fin il jr first/\
    ac=[O x,O (.y f'),O (.u il),O (.u jr),O (.y fl),O (.y sd),O (.u (p:Int)),v7,v8,v9,nk,om],
   ⟨_,s3,0,_,_,_,_,_,_,_,_,Y,B3,ß _,by simpa using yk,λ q hq=>by rw[ã]at hq;subst hq;show⟨hok,(show 0 < 1 by decide)⟩,Y,Y⟩,?_⟩
  clear B3 F3 G3 d3 zu b3 Bc;rintro m ac H4 zQ;let⟨s4,p,fs,us,ii,v7,v8,v9,nk,om,Y,B4,hp,Ig,Bf,hb,Y⟩:=zQ;let Qb:=B4.lenU;let lm:jr<=10000000:=by lia
  show(bO _ Y (bO _ Y (eO fl us Y ⟨.p (É B4.lst),(eO _ _ Y ⟨Y,(bO _ Y (iN (λ hT=>?_) λ hN=>?_))⟩)⟩)))
  ·let hT:(p:Int) < us.Z:=by simpa using hT
   let pj:p < fs.Z:=by lia
   show⟨λ ac H'=>aI H H'/\∃(p':Nat) (fs:Fs ag) (us:List V) (ii:List (L2.D×V)) (v7 v8 v9 nk om:Option V),p'=p+1/\BfsAt P w K dD S H' fl sd us ii fs/\p'<=fs.Z/\fs.Z<=jr/\(∀ q∈fs,ok q.1/\q.2.length < fs.Z)/\tS dD kg fin il jr (jr+1 - p') p' fs=SR dD kg fin il jr first/\
    ac=[O x,O (.y f'),O (.u il),O (.u jr),O (.y fl),O (.y sd),O (.u (p':Int)),v7,v8,v9,nk,om],λ ac H' ⟨h1,p',Bq,us',Qu,w7,w8,w9,Hh,Qv,h2,h⟩=>⟨jr+1 - p',JM,h1,p',(eA8 Bq us' Qu w7 w8 w9 Hh Qv Y h)⟩,?_⟩
   obtain⟨⟨d,r0'⟩,hq⟩:∃ q,fs[p]?=O q:=⟨_,Ğ pj⟩;let⟨v,hv,kv⟩:=Paired.get' B4.its hq;let Mm:ok d:=(Bf _ (Ô hq)).1;let⟨r,er⟩:=Option.isSome_iff_exists.mp (NO (dD:=dD) (Ô hq));show(bO _ Y (bO _ Y (.p (MS fl us (p:Int) v Y ⟨Y,É B4.lst,hW hv,?_⟩))));show(bO _ Y (eO _ _ Y ⟨Y,(bO _ Y ⟨JM,JM,?_⟩)⟩));rw[show((il:Int)+1).toNat=il+1 by lia];show mQ (lo:=0) (n:=il+1) (λ i ac H'=>aI H H'/\∃(fs:Fs ag) (us:List V) (ii:List (L2.D×V)) (v8 v9 nk om:Option V),BfsAt P w K dD S H' fl sd us ii fs/\p < fs.Z/\fs.Z<=jr/\(∀ q∈fs,ok q.1/\q.2.length < fs.Z)/\kF dD fs (dD d)=O r/\r.Z < fs.Z/\
    WO dD kg fin il jr p (DF dD kg fin jr d r (il+1 - i) (i:Nat) fs)=SR dD kg fin il jr first/\KeyD K H' S (dD d) v/\
    ac=[O x,O (.y f'),O (.u il),O (.u jr),O (.y fl),O (.y sd),O (.u (p:Int)),O v,v8,v9,nk,om]) ?_ ?_ ?_
   ·show⟨s4,fs,us,ii,_,_,_,_,B4,pj,Ig,Bf,er,?_,?_,kv,Y⟩
    ·obtain⟨q,Av,xf⟩:∃ q∈fs,q.2=r:=by
      unfold kF at er;let⟨q,e1,e2⟩:=ç.mp er;show⟨q,af4 e1,e2⟩
     rw[<- xf];show(Bf q Av).2
    ·rw[<- hb,show jr+1 - p=(jr - p)+1 by lia];show(ND hq er Y).symm
   ·rintro DD i hrt Ak ac H5 hi zQ;let⟨s5,fs,us,ii,w8,w9,Hh,Qv,B5,Dz,Ea,xn,Jo,pk,yz,Jp,Y⟩:=zQ;rw[Ż];let eul5:=B5.lenU;dsimp only[jG];rcases B5.val (dD d)with⟨z,_⟩|⟨r',Wc,z1,z2,z3,z4⟩
    ·rw[Jo]at z;cases z
    rw[Jo]at z1;ext z1;show⟨_,Y,_,Y,sd,S,ii,dD d,.y Wc,Y,B5.dic,Jp,z2,_,Y,(sz0 1),λ la Mn=>⟨Wc,la,r.map V.int,[.u i],Y,Y,È Mn _ _ z4,aD,by rw[Ê,ê];change r.Z+1<=_;lia,λ ra Jq=>?_⟩⟩;let s6:aI H5 (upd (upd H5 la (.j [.u i])) ra (.j (r.map V.int++[.u i]))):=(È Mn).trans (È Jq);let g6:upd (upd H5 la (.j [.u i])) ra (.j (r.map V.int++[.u i])) ra=O (.j ((r++[(i:Int)]).map V.int)):=by rw[aD,Ñ];rfl
    let nra:ra≠fl:=λ z=>by
     let:=(È Mn).free Jq;rw[z,B5.lst]at this;cases this
    let fra:H ra=none:=(s5.trans (È Mn)).free Jq;generalize upd (upd H5 la (.j [.u i])) ra (.j (r.map V.int++[.u i]))=H6 at s6 g6 ⊢;let B6:=B5.same s6;let F6:FnH H6 f' c ob oc:=hF.same (s5.trans s6);show⟨Y,F6,_,Y,_,Y,F6,v,d,i,Y,(Jp.mono s6.ts).is,Mm,JM,gs.stay _ _ (s5.trans s6).ts hG,λ pp y H7 s7 qp iy=>?_⟩;show⟨pp,_,Y,qp,Y,_,_,Y,_,_,Y,Y,?_⟩;let B7:=B6.same s7;let Wd:ok (kg d i):=gs.next d i Mm JM;let ky:=gs.key _ Wd H7 y iy;let Qw:il+1 - i=(il - i)+1:=by lia
    rw[Qw]at yz;show(bO _ Y (bO _ Y ?_));cases hf:fin d i with
    |true=>
     show cH ?_;rw[VG hf]at yz;let e5:SR dD kg fin il jr first=.ends (r++[(i:Int)]) fs:=yz.symm
     show(bO _ Y (bO _ Y ⟨(sz0 2),λ tp wm=>?_⟩));let s8:=È (o:=HO.tup [.y ra,.y fl]) wm;rw[hrt];show kE _ _ e5 tp ra fl _ (((s5.trans s6).trans s7).trans s8) (Ï aD) (s8 _ _ (s7 _ _ g6)) fra (by rw[Ý,Ą];lia)
    |false=>
     show bR ?_;show⟨_,Y,_,Y,sd,S,ii,dD (kg d i),Y,B7.dic,ky,_,Y,?_⟩;rw[B7.isSome];cases Bt:(kF dD fs (dD (kg d i))).isSome with
     |true=>
      show bR ?_;rw[VE hf Bt]at yz;show Ak _ _ ⟨(s5.trans s6).trans s7,fs,us,ii,_,_,_,_,B7,Dz,Ea,xn,Jo,pk,by rw[show il+1 - (i+1)=il - i by lia];show yz,Jp.mono (s6.trans s7).ts,Y⟩
     |false=>
      show cH ?_;show(bO _ Y (eO fl us Y ⟨.p (É B7.lst),(bO _ Y (eO _ _ Y ⟨Y,(bO _ Y (iN (λ Jr=>?_) λ We=>?_))⟩))⟩))
      ·let Jr:(us.Z:Int) ≥ jr:=by simpa using Jr
       rw[S7 hf Bt JM]at yz;show⟨by change 1<=100;decide,kM yz.symm _ ((s5.trans s6).trans s7)⟩
      ·let We:¬ (us.Z:Int) ≥ jr:=by simpa using We
       let ki:fs.Z < jr:=by lia
       rw[VF hf Bt ki]at yz;show⟨_,Y,_,Y,_,Y,sd,S,ii,dD (kg d i),Y,B7.dic,ky,iH (by rw[B7.lenK];lia),λ H8 b8 d8=>?_⟩;let⟨B9,Ph⟩:=B7.put Bt ky (s7 _ _ g6) nra b8 d8;let Js:H8 fl=O (.j us):=b8 _ _ B7.ne B7.lst;show(bO _ Y ⟨.p ⟨Y,_,É Js⟩,(bO _ Y (WL fl us _ Y ⟨Y,Js,iH JM,?_⟩))⟩);let s8:aI H H8:=λ b o e=>b8 b o (aM e Wb) (((s5.trans s6).trans s7) b o e);let bt9:cI fl H8 (upd H8 fl (.j (us++[y]))):=Û;show Ak _ _ ⟨s8.put ff,_,_,_,_,_,_,_,B9,by rw[Ý];lia,by rw[Ý,Ą];lia,λ q hq=>?_,LK _ Jo,by rw[Ý];lia,by rw[show il+1 - (i+1)=il - i by lia];show yz,((Jp.mono (s6.trans s7).ts).mono (b8.ts B7.dic.mut)).mono (bt9.ts Ph),Y⟩;rw[Ý,Ą];rcases ë.1 hq with hq|hq
       ·let⟨h1,h2⟩:=xn q hq;show⟨h1,JM⟩
       ·rw[ã]at hq;subst hq;show⟨Wd,by change(r++[(i:Int)]).length < _;rw[Ý,Ą];lia⟩
   ·
    rintro ac H5 zQ;let⟨s5,fs,us,ii,w8,w9,Hh,Qv,B5,Dz,Ea,xn,Jo,pk,yz,Jp,Y⟩:=zQ;rw[Nat.sub_self]at yz;show(bO _ Y (eO _ _ Y ⟨Y,s5,p+1,(eA8 fs us ii _ _ _ _ _ Y ⟨B5,Dz,Ea,xn,?_,Y⟩)⟩));rw[<- yz];change tS dD kg fin il jr (jr+1 - (p+1)) (p+1) fs=tS dD kg fin il jr (jr - p) (p+1) fs;rw[show jr+1 - (p+1)=jr - p by lia]
  ·
   let hN:¬ (p:Int) < us.Z:=by simpa using hN
   rw[NA JM]at hb;show(bO _ Y ⟨(sz0 2),λ tp wm=>?_⟩);let s8:=È (o:=HO.tup [.non,.y fl]) wm;let B8:=B4.same s8;show kO fs hb.symm tp fl us _ (s4.trans s8) (Ï aD) B8.lst ff B8.its (λ q hq=>(Bf q hq).1) Ig
end
end Tw
namespace L2
open PySem PySem.Spec PyProof.Rows TwZ
section
variable {X:Cx}
def Pl (H:Hp) (a:Á) (xs:List V):Prop:=∃ o:Obj,H a=O (.frz o (.v xs))/\o.dict=W
def Pl.sq  (h:Pl H a xs):bH K H a xs:=by let⟨o,h,_⟩:=h;show .p (.x ⟨o,h⟩)
def W2 (K:Ç):List V->Hp->VK->Prop:=λ xs H Q=>∃ p ys,xs=[.y p]/\bC K H p ys/\∀(l:Á) (o:Obj),H l=W->o.dict=W->Q (.y l) (upd H l (.frz o (.v ys)))
def N1:fU X (.q "tuple") (W2 X.K):=by
 intro gu s σ H xs us Q I r h;let⟨p,ys,Y,hq,q⟩:=h;let⟨u,Y,rx⟩:=pH r;ext rx;let⟨its,r',pl,hz⟩:=I.list hq;let io:=r'.Z;show call_tuple_list pl.isList (λ h' kp=>?_) (by simp only [Þ] <;> lia);let I1:Inv X gu σ H { s with heap:=h' }:=I.kept (t':=s.M) kp;let I2:Inv X gu σ (upd H h'.objs.size (.frz { cls:=.q "tuple",data:=.V its.toArray } (.v ys))) { s with heap:=h'.push { cls:=.q "tuple",data:=.V its.toArray } }:=
  I1.laid (t':=s.M) (λ b o e=>Î _ e) (Í _) (show dB X.prog X.w _ _ _ (.frz _ (.v ys))from⟨Ü _ rfl,hz,its,r',IsTup.new _ _⟩)
 show⟨.y h'.objs.S,_,I2,Y,q _ _ (I1.hok.fresh (Í _)) Y⟩
def IN (hK:X.K=K):fU X (.q "tuple") (W2 K):=by subst hK;show N1
end
end L2
namespace Tw
open PySem L2
def SD (K:Ç) (H:Hp) (t:Tick) (v:V):Prop:=∃(f:Á) (st:V) (tp:Á),v=.y f/\bH K H f [st,.y tp,.u t.ground]/\Is K H (yG t.held t.coming t.doors) st/\Pl H tp (t.tip.map λ(j:Nat)=>V.int (j:Int))
def SD.is  (h:SD K H t v):Is K H (IW t) v:=by
 let⟨f,st,tp,Y,q,i,p⟩:=h;show Ú q (.B i (.B (Ú p.sq ?_) (.B (Is.i _) .nil)));let e1:(t.tip.map λ(i:Nat)=>L2.D.int (i:Int))=(t.tip.map λ(i:Nat)=>(i:Int)).map L2.D.int:=by rw[đ];rfl
 let e2:(t.tip.map λ(i:Nat)=>V.int (i:Int))=(t.tip.map λ(i:Nat)=>(i:Int)).map V.int:=by rw[đ];rfl
 rw[e1,e2];show ż _
def uX (K:Ç):Sp:=λ args H Q _=>∃(x y:V) (z:Á) (net:Net) (held coming poured:List Int) (doors:List Bool),args=[x,y,.y z]/\Is K H (gE net) x/\Is K H (yG held coming doors) y/\bH K H z (poured.map V.int)/\
 NetOk net/\StOk net held coming doors/\poured.Z=net.vs.Z/\∀(v:V) H',aI H H'->SD K H' (l7 net held coming poured doors) v->Q v H'
def NV:∀ vs H Q E,vX K vs H Q E->uX K vs H Q E:=by
 rintro vs H Q E zQ;let⟨x,y,z,net,held,coming,poured,doors,Y,h1,h2,h3,h4,h5,h6,k⟩:=zQ;show⟨x,y,z,net,held,coming,poured,doors,Y,h1,h2,h3,h4,h5,h6,λ v H' s t=>?_⟩;let i:=t.is;let⟨f,st,tp,Y,q,_⟩:=t;show k f _ H' s q i
def n9 (F:Fun K "tick_behind" "tick_behind" (aX 13) f fd) (T:Txt mg) (qw:Callee P w K mg base "filled" ["spouts","state","poured"] 1 (wE K) fF Qx)
  (rb:Callee P w K mg base "settle" ["vessel","has","sent"] 3 (w4 K) fS Dh) (kz:Callee P w K mg base "doors_behind" ["vessels","doors","tipped"] 1 (AV K) fD Ba):FnOk P w K mg base gT 4 f fd ["net","state","poured"] (uX K):=by
 show F.ok ["net","state","poured","vessels","spouts","held","tipped","sent","number","has","left","tips","coming","doors"] λ sc ir A outer s H vs Q E hr h=>?_
 ·let⟨x,y,z,net,held,coming,poured,doors,Y,hx,hy,qz,nok,ur,lp,k⟩:=h;let hu:=WH hr;show⟨_,(aE (bF (pv 0) (aV (K:=K) (n:=2) Y Y (aF (gL 3 sc.nd) (aF (gL 4 sc.nd) aQ))))
   (aE (bF (bG (a9 (aY aB) (a9 (aY aB) (a9 wU aB)))) (aV (K:=K) (n:=3) Y Y (aF (gL 5 sc.nd) (aF (gL 6 sc.nd) (aF (mK (i:=7) sc.nd Y (Or.inr Y)) aQ)))))
   (aE (eE ú Y (EK (K:=K) Y Y T.b_enumerate (a9 (cD qw hr (a9 (pv 4) (a9 (pv 1) (a9 (pv 2) aB)))) aB)) (aV (K:=K) (n:=2) Y Y (aF (gL 8 sc.nd) (aF (gL 9 sc.nd) aQ))) (aE (bF (cD rb hr (a9 (px K (pv 3) (pv 8)) (a9 (pv 9) (a9 (pv 7) aB)))) (aV (K:=K) (n:=2) Y Y (aF (gL 10 sc.nd) (aF (gL 11 sc.nd) aQ))))
   (aE (bL (eF (K:=K) Y í ö ø bW (pv 5) (a9 (pv 10) aB)))
   (aG (bK (dI (pv 11)) (aG (bL (eF (K:=K) Y í ö ø bW (pv 6) (a9 (pv 8) aB)))) aS)))))
   (aE (jS (i:=12) sc.nd Y Y (λ _ _ h=>h) Y (LcOk.mk (N':=["number","sent"]) (fr:=[W,O 7]) Y ⟨Y,trivial⟩ Y Y Y Y Y ⟨⟨_,Y,Y,Y,Y⟩,trivial⟩) (eX Y T.b_range (a9 (zU K T.b_len (pv 3)) aB)) (λ _ _ _=>(gC 0 ["number","sent"])) (λ _ _ _=>cP) (λ _ _ _=>(wV hu (pv 1) (pv 0) aH ⟨Y,Y,Y,Y⟩)))
   (aE (pL 13 sc.nd (cD kz hr (a9 (pv 3) (a9 (px K (pv 1) aH) (a9 (pv 6) aB)))))
   (aG (aO (bG (a9 (bG (a9 (aP (dU (K:=K) Y) Y T.b_tuple dY (a9 (pv 5) aB)) (a9 (aP (dU (K:=K) Y) Y T.b_tuple dY (a9 (pv 12) aB)) (a9 (pv 13) aB)))) (a9 (aP (IN (K:=K) Y) Y T.b_tuple dY (a9 (pv 6) aB)) (a9 (wV hu (pv 7) eQ aH ⟨Y,Y,Y,Y⟩) aB))))))))))),?_⟩
  let⟨ax,av,as,xs,ys,Y,qx,qv,lv,qs,ls⟩:=j5 hx;let⟨ay,b1,b2,b3,Y,qy,q1,q2,q3⟩:=zE hy;let ve:xs.Z=net.vs.Z:=by rw[lv.Z,Ê]
  show⟨_,Y,ax,_,Y,qx,Y,_,_,Y,_,_,Y,Y,?_⟩;show⟨ß _,λ hl Mo=>⟨ß _,λ tl rp=>λ sd wt=>⟨(sz0 3),λ tp wm=>(eO tp _ Y ⟨Ï aD,Y,(eO _ _ Y (eO _ _ Y (eO _ _ Y ⟨Y,?_⟩)))⟩)⟩⟩⟩;let n1:hl≠tl:=aM (show upd H hl (.j []) hl=_ from aD) rp;let fh:H hl=none:=Mo;let ft:H tl=none:=aI.free (È Mo) rp;let fs:H sd=none:=aI.free ((È Mo).trans (È rp)) wt;let n2:hl≠sd:=aM (by rw[aK n1];show aD) wt;let n3:tl≠sd:=aM (show upd (upd H hl (.j [])) tl (.j []) tl=_ from aD) wt;let Eb:aI H (upd (upd (upd (upd H hl (.j [])) tl (.j [])) sd (.dK [])) tp (.v [.y hl,.y tl,.y sd])):=(((È Mo).trans (È rp)).trans (È wt)).trans (È wm);let g1:upd (upd (upd (upd H hl (.j [])) tl (.j [])) sd (.dK [])) tp (.v [.y hl,.y tl,.y sd]) hl=O (.j []):=È wm _ _ (by rw[aK n2,aK n1];show aD);let g2:upd (upd (upd (upd H hl (.j [])) tl (.j [])) sd (.dK [])) tp (.v [.y hl,.y tl,.y sd]) tl=O (.j []):=È wm _ _ (by rw[aK n3];show aD);let g3:upd (upd (upd (upd H hl (.j [])) tl (.j [])) sd (.dK [])) tp (.v [.y hl,.y tl,.y sd]) sd=O (.dK []):=È wm _ _ aD;generalize upd (upd (upd (upd H hl (.j [])) tl (.j [])) sd (.dK [])) tp (.v [.y hl,.y tl,.y sd])=H0 at Eb g1 g2 g3 ⊢;show(bO _ Y (bO _ Y (bO _ Y ⟨.y as,.y ay,z,net.sps,held,coming,poured,doors,net.vs.Z,Y,Ú (Eb.tup qs) (Ò Eb.ts _ _ ls),Ì Eb.ts _ _ hy,Eb.tup qz,ur.h,ur.c,lp,ur.d,nok.hi,nok.sps,λ ha H1 pq Mp Wf=>?_⟩)));let qj:(cG net held coming poured doors).length=net.vs.Z:=by
   unfold cG;rw[jU,kB ur.h ur.c lp]
  let g1':=pq _ _ g1;let Li:=pq _ _ g2;let g3':=pq _ _ g3;let Wg:hl≠ha:=aM g1 Mp;let na2:tl≠ha:=aM g2 Mp;let na3:sd≠ha:=aM g3 Mp;let fa:H ha=none:=Eb.free Mp;show⟨JJ,ha,Y,⟨_,É Wf⟩,FW (K:=K) (t:=JJ) (a:=ha) (xs:=(cG net held coming poured doors).map V.int)
   (λ i ac H'=>aI H H'/\H' ha=O (.j ((cG net held coming poured doors).map V.int))/\H' hl=O (.j ((fB (net.vs.take i) ((cG net held coming poured doors).take i)).map V.int))/\
    H' tl=O (.j ((gH 0 (net.vs.take i) ((cG net held coming poured doors).take i)).map λ(j:Nat)=>V.int (j:Int)))/\nC H' sd (eP (net.vs.take i) ((cG net held coming poured doors).take i))/\
    ∃ v8 v9 nk om,ac=[O (.y ax),O (.y ay),O (.y z),O (.y av),O (.y as),O (.y hl),O (.y tl),O (.y sd),v8,v9,nk,om,W,W])
   (λ i ac H' p=>É p.2.1) ⟨Eb.trans pq,Wf,by simpa [fB]using g1',by simpa [gH]using Li,⟨[],g3',JN,λ k=>Y⟩,W,W,W,W,Y⟩ ?_ ?_⟩
  rotate_left
  ·rintro i x0 ac H2 Tt Dj ⟨mw,p1,p2,p3,p4,v8,v9,nk,om,rfl⟩ hT;rw[Ö]at Dj;let⟨hi,Dk,Y⟩:=ç.mp Dj;let we:i < net.vs.Z:=by rw[<- qj];show(à.mp Dk).1
   let hv:net.vs[i]?=O net.vs[i]:=by simp[we]
   let yp:=nok.vs _ (ı we);let⟨xv,Hz,Ia⟩:=lv.get (i:=i) (d:=AH net.vs[i]) (by rw[Ö,hv];rfl);let Al:=È (o:=HO.tup [.u (i:Int),.u hi]) hT;show(eO Tt _ Y ⟨Ï aD,Y,(eO _ _ Y (eO _ _ Y ⟨Y,?_⟩))⟩);let nj:aI H (upd H2 Tt (.v [.u (i:Int),.u hi])):=mw.trans Al;let⟨ii,d1,d2,d3⟩:=p4;let hgl:=A2 (net.vs.take i) ((cG net held coming poured doors).take i) λ v Bt=>nok.vs v (List.mem_of_mem_take Bt);let Gu:(net.vs.take i).length<=12:=by rw[ô];let:=nok.hi;lia
   show(bO _ Y (bO _ Y (.x (.p (MS av xs i _ Y ⟨Y,nj.tup qv,hW Hz,(bO _ Y (bO _ Y (eA7 xv sd hi net.vs[i] _ _ _ Y ⟨Ì nj.ts _ _ Ia,⟨ii,Al _ _ d1,d2,d3⟩,JM,yp,λ p H3 bt dg qp=>?_⟩)))⟩)))));show⟨p,_,Y,qp,Y,_,_,Y,_,_,Y,Y,?_⟩;let e1:=bt hl _ n2 (Al _ _ p2);let e2:=bt tl _ n3 (Al _ _ p3);let e3:=bt ha _ (Ne.symm na3) (Al _ _ p1);let xw:aI H H3:=λ b o e=>bt b o (aM e fs) (nj b o e);let stl:(fB (net.vs.take i) ((cG net held coming poured doors).take i)).length<=12:=by
    rw[jV _ _ (by rw[ô,ô,qj])];show Gu
   let tpl:=sV (net.vs.take i) ((cG net held coming poured doors).take i) 0;show⟨_,Y,.p ⟨Y,_,É e1⟩,_,Y,hl,_,_,Y,Y,e1,bB (by simp;lia),?_⟩;let f1:upd H3 hl (.j ((fB (net.vs.take i) ((cG net held coming poured doors).take i)).map V.int++[.u (jK net.vs[i] hi)])) tl=O (.j ((gH 0 (net.vs.take i) ((cG net held coming poured doors).take i)).map λ(j:Nat)=>V.int (j:Int))):=by rw[aK (Ne.symm n1)];show e2
   let s1:=tV net.vs (cG net held coming poured doors) i _ _ hv Dk;let s2:=vQ net.vs (cG net held coming poured doors) i 0 _ _ hv Dk;let s3:=xZ net.vs (cG net held coming poured doors) i _ _ hv Dk;let Wh:∀ {Hx:Hp},Hx sd=H3 sd->nC Hx sd (eP (net.vs.take (i+1)) ((cG net held coming poured doors).take (i+1))):=λ {Hx} e=>by
    let⟨kv,a1,a2,a3⟩:=dg;rw[s3];show⟨kv,e.trans a1,a2,a3⟩
   show(bO _ Y (bO _ Y ?_));cases ht:qT net.vs[i] hi with
   |false=>
    show bR ?_;rw[ht]at s2;show⟨xw.put fh,by rw[aK (Ne.symm Wg)];show e3,by rw[aD,s1,Ñ];rfl,by rw[s2];simpa using f1,Wh (by rw[aK (Ne.symm n2)]),_,_,_,_,Y⟩
   |true=>
    show cH ?_;rw[ht]at s2;show⟨_,Y,.p ⟨Y,_,É f1⟩,_,Y,tl,_,_,Y,Y,f1,bB (by simp;lia),?_⟩;show⟨(xw.put fh).put ft,by rw[aK (Ne.symm na2),aK (Ne.symm Wg)];show e3,by rw[aK n1,aD,s1,Ñ];rfl,?_,Wh (by rw[aK (Ne.symm n3),aK (Ne.symm n2)]),_,_,_,_,Y⟩;rw[aD,s2];simp
  ·rintro ac H2 zQ;let⟨mw,p1,p2,p3,p4,v8,v9,nk,om,Y⟩:=zQ;rw[Ê,qj]at p2 p3 p4;let ek:net.vs.take net.vs.Z=net.vs:=ý;let ek2:(cG net held coming poured doors).take net.vs.Z=cG net held coming poured doors:=by rw[<- qj,ý]
   rw[ek,ek2]at p2 p3 p4;let⟨ii,d1,d2,d3⟩:=p4;show⟨_,Y,av,xs,Y,.x (mw.tup qv),_,Y,JM,by let:=nok.hi;lia,?_⟩;let hn:((xs.Z:Nat):Int).toNat=net.vs.Z:=by rw[ve];simp
   rw[hn];show xS (n:=net.vs.Z) (λ D i r ac H'=>H2 D=W/\aI H2 H'/\H' D=O (.j r)/\r=((eT net.vs.length (eP net.vs (cG net held coming poured doors))).take i).map V.int/\∃ v,ac=[v,O (.y sd)])
    (λ D hD=>⟨hD,È hD,aD,JN,W,rfl⟩) ?_ ?_
   rotate_left
   ·rintro D i r ac H' hi zQ;let⟨hD,sm,jc,Y,v,Y⟩:=zQ;show gN ?_;let hg:=IS.k (k:=sF (O (i:Int))) (sm _ _ d1);show⟨_,Y,sd,Y,.p ⟨ii,.p (sm _ _ d1)⟩,_,Y,_,hg,jc,bB (by simp [eT];let:=nok.hi;lia),hD,sm.put hD,aD,?_,_,Y⟩;let e:(eT net.vs.length (eP net.vs (cG net held coming poured doors)))[i]? = O (dW (O (i:Int)) (eP net.vs (cG net held coming poured doors))):=by
     unfold eT;simp[hi]
    rw[cS e,Ñ];change _++[(dQ ii (sF (O (i:Int)))).getD (.u 0)]=_;rw[d3];rfl
   ·rintro D r ac H3 zQ;let⟨hD,sm,jc,Y,_⟩:=zQ;let ll:(eT net.vs.length (eP net.vs (cG net held coming poured doors))).length=net.vs.Z:=by unfold eT;simp
    rw[ù (Ļ ll)]at jc;let nj:aI H H3:=mw.trans sm;show⟨_,Y,_,Y,.x (.p ⟨ay,_,2,_,Y,Y,nj.tup qy,Y,_,Y,.y av,.y b3,tl,net.vs,doors,gH 0 net.vs (cG net held coming poured doors),net.vs.Z,Y,Ú (nj.tup qv) (Ò nj.ts _ _ lv),Ú (nj.tup q3) (IsL.of_bools _),É (sm _ _ p3),λ j hj=>by let:=vR _ _ _ _ hj;lia,λ v hv=>by rw[ur.d];show nok.vs v hv,by rw[ur.d];show nok.sp,λ dp H4 xw hdp=>?_⟩)⟩;let⟨da,Wi,Y,qd,ld⟩:=hdp.un;let c1:=xw _ _ (sm _ _ p2);let c2:=xw _ _ jc;let c3:=xw _ _ (sm _ _ p3);let c4:=xw _ _ (sm _ _ d1);show(bO _ Y (eO hl _ Y (.p ⟨É c1,λ t1 Il=>?_⟩)));let m1:=È (o:=HO.tup ((fB net.vs (cG net held coming poured doors)).map V.int)) Il;show(bO _ Y (eO D _ Y (.p ⟨É (m1 _ _ c2),λ t2 Lu=>?_⟩)));let m2:=È (o:=HO.tup ((eT net.vs.length (eP net.vs (cG net held coming poured doors))).map V.int)) Lu;show(bO _ Y ⟨(sz0 3),λ t3 Lv=>?_⟩);let m3:=È (o:=HO.tup [.y t1,.y t2,.y da]) Lv;show(bO _ Y (eO tl _ Y ⟨É (m3 _ _ (m2 _ _ (m1 _ _ c3))),λ t4 ob ht4 Ga=>?_⟩));let m4:=È (o:=HO.frz ob (.v ((gH 0 net.vs (cG net held coming poured doors)).map λ(j:Nat)=>V.int (j:Int)))) ht4;let Wj:=m4 _ _ (m3 _ _ (m2 _ _ (m1 _ _ c4)));let hg:=IS.k (k:=sF W) Wj;show(bO _ Y (bO sd Y ⟨.p ⟨ii,.p Wj⟩,_,hg,(sz0 3),λ t5 ht5=>?_⟩));let m5:aI _ _:=È (o:=HO.tup [.y t3,.y t4,(dQ ii (sF W)).getD (.u 0)]) ht5;let eg:(dQ ii (sF W)).getD (.u 0)=.u (dW W (eP net.vs (cG net held coming poured doors))):=d3 W;rw[eg]at m5 ⊢;let e1:((gH 0 net.vs (cG net held coming poured doors)).map λ(i:Nat)=>L2.D.int (i:Int))=((gH 0 net.vs (cG net held coming poured doors)).map λ(i:Nat)=>(i:Int)).map L2.D.int:=by rw[đ];rfl
    show k _ _ ((((((nj.trans xw).trans m1).trans m2).trans m3).trans m4).trans m5) ⟨t5,.y t3,t4,Y,Ï aD,?_,ob,m5 _ _ aD,Ga⟩;show Ì m5.ts _ _ (Ì m4.ts _ _ (VX (Ï aD) (m3.tup (m2.tup (Ï aD))) (m3.tup (Ï aD)) (by
      let:=ld.bools;rw[this]at qd;show m3.tup (m2.tup (m1.tup qd)))))
def uM (F:Fun K "tick_behind" "tick_behind" (aX 13) f fd) (T:Txt mg) (qw:Callee P w K mg base "filled" ["spouts","state","poured"] 1 (wE K) fF Qx)
  (rb:Callee P w K mg base "settle" ["vessel","has","sent"] 3 (w4 K) fS Dh) (kz:Callee P w K mg base "doors_behind" ["vessels","doors","tipped"] 1 (AV K) fD Ba):FnOk P w K mg base gT 4 f fd ["net","state","poured"] (vX K):=(n9 F T qw rb kz).imp NV
def Sta.tkA (net:Net) (s:Sta) (a:Int):Tick:=l7 net s.held s.coming (a::cA (net.vs.Z - 1)) s.doors
def Sta.nxA (net:Net) (s:Sta) (a:Int):Sta:=⟨(s.tkA net a).held,(s.tkA net a).coming,(s.tkA net a).doors⟩
def SX (net:Net) (v:Int) (s:Sta) (a:Int):Bool:=WD (.u v) ((s.tkA net a).tip.map λ(j:Nat)=>V.int (j:Int))
def AG (net:Net) (s:Sta):Prop:=StOk net s.held s.coming s.doors
def EI  (nok:NetOk net) (a:Int):(a::cA (net.vs.Z - 1)).length=net.vs.Z:=by
 rw[æ,jA];let:=nok.lo;lia
def T9 (net:Net):AG net (DX net):=⟨jA _,jA _,by change(net.sps.map _).length=_;rw[Ê]⟩
def XZ  (nok:NetOk net) (ih:AG net s) (a:Int):AG net (s.nxA net a):=by
 let hs:(cG net s.held s.coming (a::cA (net.vs.Z - 1)) s.doors).length=net.vs.Z:=by
  unfold cG;rw[jU,kB ih.h ih.c (EI nok a)]
 show⟨jV _ _ hs.symm,by change(eT _ _).length=_;unfold eT;simp,by change(eU _ _ _).length=_;rw[k9];show ih.d⟩
def IY (K:Ç):Sp:=λ vs H Q _=>∃(x y:V) (net:Net) (s:Sta) (v a:Int),vs=[x,y,.u v,.u a]/\Is K H (gE net) x/\Is K H (fX s) y/\NetOk net/\AG net s/\
 ∀ p b H',aI H H'->bH K H' p [b,.bl (SX net v s a)]->Is K H' (fX (s.nxA net a)) b->Q (.y p) H'
def PY (F:Fun K "watch" "watch" (aX 55) f fd) (T:Txt mg)
  (jx:Callee P w K mg base "pouring" ["net","amount"] 1 (jR K) f2 ka) (jd:Callee P w K mg base "tick_behind" ["net","state","poured"] 4 (uX K) f3 oq) :
  FnOk P w K mg base gT 5 f fd ["net","state","vessel","amount"] (IY K):=by
 show F.ok ["net","state","vessel","amount","behind","tipped","grounded"] λ sc ir A outer s H vs Q E hr h=>?_
 ·let⟨x,y,net,st,v,a,Y,hx,hy,nok,ur,k⟩:=h;show⟨_,(aE (bF (cD jd hr (a9 (pv 0) (a9 (pv 1) (a9 (cD jx hr (a9 (pv 0) (a9 (pv 3) aB))) aB)))) (aV (K:=K) (n:=3) Y Y (aF (gL 4 sc.nd) (aF (gL 5 sc.nd) (aF (gL 6 sc.nd) aQ)))))
   (aG (aO (bG (a9 (pv 4) (a9 (fH (BR (K:=K) Y) (pv 2) (pv 5) (by rfl)) aB)))))),?_⟩
  show(bO _ Y (bO _ Y (bO _ Y (bO _ Y (WL x net a Y ⟨hx,nok,λ z H1 s1 qz=>?_⟩)))));show⟨x,y,z,net,st.held,st.coming,a::cA (net.vs.Z - 1),st.doors,Y,Ì s1.ts _ _ hx,Ì s1.ts _ _ hy,qz,nok,ur,EI nok a,λ r H2 s2 tp=>?_⟩;let⟨f,y1,tpa,Y,qf,j1,pla⟩:=tp;show⟨f,_,Y,qf,Y,_,_,Y,_,_,Y,_,_,Y,Y,?_⟩;show⟨_,Y,_,Y,_,Y,tpa,_,Y,.x pla.sq,Y,y8 _,(sz0 2),λ p hp=>?_⟩;let s3:=È (o:=HO.tup [y1,.bl (SX net v st a)]) hp;show k p y1 _ ((s1.trans s2).trans s3) (Ï aD) (Ì s3.ts _ _ j1)
def lamAt (i:Nat) (st:Stmt):Pos:=match (dS st)[i]? with
 |some (.Assign _ (.Call _ [_,.Lambda _ _ _ p,_,_] _ _) _)=>p
 |_=>⟨0,0,0,0⟩
structure SmT (Pt:Á) (pos:Pos) (q:Str) (H H':Hp):Prop where
 but:ButT Pt H H'
 t1:cB H Pt pos q
 t2:cB H' Pt pos q
def cB.of  (h:cB H Pt pos q) (s:aI H H'):SmT Pt pos q H H':=⟨λ b o _ e=>s b o e,h,h.same s⟩
def SmT.trans  (a:SmT Pt pos q H H') (b:SmT Pt pos q H' tw):SmT Pt pos q H tw:=⟨λ c o n e=>b.but c o n (a.but c o n e),a.t1,b.t2⟩
def SmT.step  (a:SmT Pt pos q H H') (b:aI H' tw):SmT Pt pos q H tw:=a.trans (cB.of a.t2 b)
def SmT.get  (a:SmT Pt pos q H H') (e:H b=O o) (hn:∀ ps,o≠.tbl ps):H' b=O o:=a.but b o (λ z=>by
 let⟨ps,h⟩:=a.t1.some;rw[z,h]at e;show hn ps (ñ e).symm) e
def SmT.free  (a:SmT Pt pos q H H') (h:H' b=W):H b=none:=by
 cases e:H b with
 |none=>rfl
 |some o=>
  by_cases hb:b=Pt
  ·let⟨ps,h2⟩:=a.t2.some;rw[hb,h2]at h;cases h
  ·rw[a.but b o hb e]at h;cases h
def SmT.ts  (a:SmT Pt pos q H H'):bU K H H':=λ b xs h=>by
 rcases h with(h|⟨o,h⟩)|h
 ·show .p (.p (a.get h λ ps z=>by ext z))
 ·show .p (.x ⟨o,a.get h λ ps z=>by ext z⟩)
 ·show .x h
def Fun.okRC {x qual:Str}{st:Stmt}{N ps:List Str}{k:Nat}{sp:Sp} (F:Fun K x qual st f fd) (hc:fd.code=.y c) (S:FnScope N ps (aJ st)) (len:∀ vs H Q E,sp vs H Q E->vs.Z=ps.Z)
  (lq:∀(A:Around) (outer:List Env) (s:Â) (H:Hp) (vs:List V) (Q:VK) (E:XK),Room k (A.deeper (PyProof.Rows.envOfC qual (aJ st) s.heap.objs.size f (.y c)))->sp vs H Q E->
   Leaves (oN (iS P w) P w K mg base N qual (aJ st) f (.y c) A outer s H E) E->
   ∃ t,DM (oN (iS P w) P w K mg base N qual (aJ st) f (.y c) A outer s H E) (dS st) t/\t { nx:=λ _ H'=>Q .non H',rt:=Q } (kJ N vs) H):FnOk P w K mg base (iS P w) (k+1) f fd ps sp:=by
 let⟨oc,od,kV,doc,pm,an,ir,ct,uy,Y,lk,qi⟩:=F.ex;obtain rfl:ir=.y c:=hc;show RN lk qi S len λ A outer s H vs Q E hr lw=>lq A outer s H vs Q E hr lw ⟨Y,Y,Y,λ _ _ h=>h⟩
def kI  (h:cB H Pt pos q) (b:cI t H H') (hm:lX (H t)):cB H' Pt pos q:=by
 rcases h with h|⟨c,oc,vs,tk,h1,h2,h3⟩
 ·show .p (b _ _ (λ z=>by rw[<- z,h]at hm;show hm) h)
 ·show .x ⟨c,oc,vs,tk,b _ _ (λ z=>by rw[<- z,h1]at hm;show hm) h1,b _ _ (λ z=>by rw[<- z,h2]at hm;show hm) h2,h3⟩
structure TxtM (mg:Str->Option À):Prop where
 g_MOST_STATES:∃ u,mg "MOST_STATES"=O u/\bE (.u 300) u
def wK:FnScope ["net","vessel","most","row","states"] ["net","vessel","most"] (aJ (aX 59)):={}
def gX:Pos:=lamAt 1 (aX 59)
def pF:Str:=(("soonest":Str)++(".<locals>.":Str))++("<lambda>":Str)
abbrev E4 (net:Net) (v:Int) (il:Nat):BRes Sta:=SR fX (λ s a=>s.nxA net a) (SX net v) il 300 (DX net)
def GW (K:Ç) (Pt:Á) (cV cM:Á):Sp:=λ vs H Q E=>∃(x:V) (net:Net) (v:Int) (il:Nat),vs=[x,.u v,.u il]/\Is K H (gE net) x/\NetOk net/\il<=1000/\cB H Pt gX pF/\
 ((0<=v/\v < net.vs.Z/\
  (∀ row fs,E4 net v il=.ends row fs->∀ p rl H',SmT Pt gX pF H H'->bH K H' p [.o "tips",.y rl]->H' rl=O (.j (row.map V.int))->H rl=W->row.Z<=2000->Q (.y p) H')/\
  (E4 net v il=.many->∀ H',SmT Pt gX pF H H'->E (.y cM) W H')/\
  (∀ fs,E4 net v il=.on fs->∀ p fl us H',SmT Pt gX pF H H'->bH K H' p [.o "never",.y fl]->H' fl=O (.j us)->H fl=W->Paired (λ(p:Sta×List Int) v=>KeyD K H' (NH net) (fX p.1) v) fs us->(∀ q∈fs,AG net q.1)->fs.Z<=300->Q (.y p) H'))\/
  (¬ (0<=v/\v < net.vs.Z)/\E (.y cV) W H))
def HP (F:Fun K "soonest" "soonest" (aX 59) f fd) (T:Txt mg) (xm:fd.code=.y c) (oi:NestB mg base c Pt) (U:TxtM mg)
  (ij:CalleeR P w K mg base "need_vessel" ["net","number"] 2 (oS K gv) f1 jf) (jj:Callee P w K mg base "first_state" ["net"] 1 (qX K) f2 ka)
  (Bg:Callee P w K mg base "watch" ["net","state","vessel","amount"] 5 (IY K) f3 oq) (kq:CalleeS P w K mg base "go_through" ["first","step","most","limit"] 7 (OC P w K mg base gz fX) f4 wg) :
  FnOk P w K mg base (iS P w) 8 f fd ["net","vessel","most"] (GW K Pt gv gz):=by
 show Fun.okRC F xm wK (λ vs H Q E h=>?_) (λ A outer s H vs Q E hr h L=>?_)
 ·let⟨x,net,v,il,Y,_⟩:=h;rfl
 ·let⟨x,net,v,il,Y,hx,nok,hm,tab,k⟩:=h;let sc:=wK;show⟨_,(aE (bL (bZ ij.ok (hr.mono JL) Y ij.mg ij.kp ij.bd .nil (bX L) (a9 (pv 0) (a9 (pv 1) aB))))
   (aE (bF (PC kq.ok (hr.mono JL) Y kq.mg kq.kp kq.bd (bX L) Y Y (λ _=>Y) (a9 (cD jj hr (a9 (pv 0) aB)) (a9 (XU Y Y Y oi) (a9 (pv 2) (a9 (bV Y U.g_MOST_STATES) aB))))) (aV (K:=K) (n:=2) Y Y (aF (gL 3 sc.nd) (aF (gL 4 sc.nd) aQ))))
   (aE (bK (aR oC (pv 3) eQ (aW _)) (aG (aO (bG (a9 aL (a9 (pv 4) aB))))) aS)
   (aG (aO (bG (a9 aL (a9 (pv 3) aB)))))))),?_⟩
  show⟨_,Y,_,Y,x,net,v,Y,hx,?_⟩;rcases k with⟨v0,v1,kE,kM,kO⟩|⟨hn,kV⟩
  ·show .p ⟨v0,v1,?_⟩;show⟨_,Y,x,net,Y,hx,nok,λ st H1 s1 rj=>⟨tab.same s1,λ fa ca oc xk H2 Wk bt Ae fnh xq=>⟨_,Y,λ s1' cf=>?_⟩⟩⟩;let sT:SmT Pt gX pF H H2:=(cB.of tab s1).trans ⟨bt,tab.same s1,Ae⟩;let cN:(oN (iS P w) P w K mg base ["net","vessel","most","row","states"] "soonest" (aJ (aX 59)) f (.y c) A outer s H E).env.cells.lookup ("net":Str)=O (s.L+1):=rfl;let cW:(oN (iS P w) P w K mg base ["net","vessel","most","row","states"] "soonest" (aJ (aX 59)) f (.y c) A outer s H E).env.cells.lookup ("vessel":Str)=O (s.L+1+1):=rfl;show⟨λ s a=>s.nxA net a,SX net v,AG net,λ H=>Is K H (gE net) x,NH net,st,fa,ca,_,oc,[("vessel",s.L+1+1),("net",s.L+1)],il,300,DX net,Y,JL,JL,hm,?_,T9 net,⟨λ d a h _=>XZ nok h a,λ d h H v e=>KB h e,λ H H' t h=>Ì t _ _ h⟩,Ì sT.ts _ _ hx,fnh,⟨_,_,_,_,Y⟩,?_,?_,?_,?_,?_⟩
   ·show Ì (SmT.ts ⟨bt,tab.same s1,Ae⟩) _ _ rj
   ·let two:∀(y:Str) (c:Á),List.lookup y [(("vessel":Str),s.L+1+1),(("net":Str),s.L+1)]=O c->(y="vessel" /\ c=s.L+1+1)\/(y="net" /\ c=s.L+1):=λ y c h=>by
     let:=Ĉ h;rcases Ð.1 this with z|z
     ·injection z with z1 z2;show .p ⟨z1,z2⟩
     ·rw[ã]at z;injection z with z1 z2;show .x ⟨z1,z2⟩
    show QM (N:=["state","amount","net","vessel"]) (ps:=["state","amount"]) (fv:=[x,.u v]) ⟨Y,Y,Y,JK,Y,JK,JK,?_,?_⟩ ?_ Y xq ?_ ?_ ?_ ?_
    ·intro y hy;let:=Ĉ hy;simp only[Ð,Prod.mk.injEq,reduceCtorEq,and_false,and_true,false_or,or_false,ā]at this;rcases this with rfl|rfl
     ·show⟨_,Y⟩
     ·show⟨_,Y⟩
    ·show List.Pairwise.cons (λ y hy=>?_) (List.pairwise_singleton _ _);rw[ã]at hy;subst hy;change s.L+1+1≠s.L+1;lia
    ·rintro vs H' Q' zQ;let⟨x',d,a,Y,_⟩:=zQ;rfl
    ·intro us Nv;obtain⟨u1,u2,rfl⟩:∃ u1 u2,us=[u1,u2]:=by
      match us,Nv with
      |[u1,u2],_=>show⟨u1,u2,Y⟩
     rfl
    ·intro y c' h;rcases two y c' h with⟨rfl,rfl⟩|⟨rfl,rfl⟩
     ·show cf.cell _ _ cW
     ·show cf.cell _ _ cN
    ·intro i y u h1 h2
     match i,h1,h2 with
     |0,h1,h2=>
      ext h1;ext h2;let⟨c',u,h3,h4,h5⟩:=cf.val 0 "net" x rfl rfl rfl;rw[cN]at h3;ext h3;show⟨Y,_,u,Y,h4,h5⟩
     |1,h1,h2=>
      ext h1;ext h2;let⟨c',u,h3,h4,h5⟩:=cf.val 1 "vessel" (.u v) rfl rfl rfl;rw[cW]at h3;ext h3;show⟨Y,_,u,Y,h4,h5⟩
     |i+2,h1,h2=>simp at h2
    ·rintro A' Qy s' H' vs Q' xg zQ;let⟨y,d,a,Y,hy,Mm,ha,hG,kk⟩:=zQ;show⟨_,cD Bg xg (a9 (pv 2) (a9 (pv 0) (a9 (pv 3) (a9 (pv 1) aB)))),?_⟩;show⟨_,Y,_,Y,_,Y,_,Y,x,y,net,d,v,a,Y,hG,hy,nok,Mm,λ p b tw yc q1 q2=>kk p b tw yc q1 q2⟩
   ·intro c' vy;let ye:c'=s.L+1+1\/c'=s.L+1:=by simpa using vy
    rcases ye with rfl|rfl
    ·let⟨h1,h2,h3⟩:=cf.out _ _ cW;let⟨u,o,h4,_⟩:=cf.cell _ _ cW;show⟨h1,h2,h3,o,h4⟩
    ·let⟨h1,h2,h3⟩:=cf.out _ _ cN;let⟨u,o,h4,_⟩:=cf.cell _ _ cN;show⟨h1,h2,h3,o,h4⟩
   ·intro row fs e p rl fl H3 s3 qp pk frl io;show⟨p,_,Y,qp,Y,_,_,Y,_,_,Y,Y,?_⟩;show⟨_,Y,Y,_,Y,bR ?_⟩;show⟨_,Y,(sz0 2),λ tp wm=>?_⟩;let s4:=È (o:=HO.tup [.o "tips",.y rl]) wm;show kE row fs e tp rl _ (sT.step (s3.trans s4)) (Ï aD) (s4 _ _ pk) (sT.free frl) io
   ·intro e H3 s3;show kM e H3 (sT.step s3)
   ·intro fs e p fl us H3 s3 qp zo ffl pr oks io;show⟨p,_,Y,qp,Y,_,_,Y,_,_,Y,Y,?_⟩;show⟨_,Y,Y,_,Y,cH ?_⟩;show⟨_,Y,(sz0 2),λ tp wm=>?_⟩;let s4:=È (o:=HO.tup [.o "never",.y fl]) wm;show kO fs e tp fl us _ (sT.step (s3.trans s4)) (Ï aD) (s4 _ _ zo) (sT.free ffl) (Į pr λ _ _ h=>h.mono s4.ts) oks io
  ·show .x ⟨hn,kV⟩
def SJ (S:RunS):Deed->Prop
 |.pour v _=>0<=v/\v < S.net.vs.Z
 |.go k=>k<=10000
def OD (K:Ç) (C:Á):Sp:=λ vs H Q _=>∃(r:Á) (S:RunS) (fp:List Á),vs=[.y r]/\bP K C H r S fp/\∀ p xs,H p=W->IsL K H (S.rows.map yK) xs->Q (.y p) (upd H p (.j xs))
def UO (F:Fun K "book" "Run.book" (bM (aX 53) 9) f fd) (T:Txt mg) (tx:RunTx K C):FnOk P w K mg base gT 1 f fd ["self"] (OD K C):=by
 show F.ok ["self"] λ sc ir A outer s H vs Q E hr h=>?_
 ·let⟨r,S,fp,Y,⟨dx,np,R,M,T',ts,rs,ms,mv,c,Y⟩,k⟩:=h;show⟨_,(aG (aO (aP (lV (K:=K) Y) Y T.b_list sM (a9 (bY (K:=K) Y (pv 0) Y) aB)))),?_⟩;show⟨_,Y,r,C,dx,_,_,Y,c.ins,tx.cls,tx.rows,oW,R,_,Y,.p (É c.hR),λ p hp=>k p rs hp c.lR⟩
section
def TD {D:Ends} (I:St->Hp->Prop) (h1:∀ R':TS,(∀ ac H',I ac H'->R' D ac H')->jG s1 R' D σ H) (h2:∀ ac H',I ac H'->R D ac H'):jG s1 R D σ H:=h1 R h2
end
end Tw
namespace L2
open PySem PySem.Spec PyProof.Rows TwZ
section
variable {X:Cx}
def BO {apos ji:Pos}{T id:String}{r:V->List V->Hp->VK->Prop} (hK:X.K=K) (pa:PlainAttrs T) (slot:Slot T name id) (zg:typeOf (.z id)=pure (.q "method_descriptor")) (hm:NJ X id r) (ho:PE X o to)
  (my:autoParam (attributeBase o name X.env (eval o X.env)=eval o X.env) _0) (mz:autoParam ((apos.endLine==ji.line)=true) _0):PE X (.rj (.E o name apos) [] [] ji) (X7 K T r to):=by subst hK;show PF pa slot zg hm ho my mz
def IsL.unsnoc :∀ {xs:List V},IsL K H (ds++[d]) xs->∃ ys y,xs=ys++[y]/\IsL K H ds ys/\Is K H d y:=by
 induction ds with
 |nil=>
  intro xs h;let⟨x,r,Y,h1,h2⟩:=(show IsL K H [d] xs from h).un;let:=h2.un0;subst this;show⟨[],x,Y,.nil,h1⟩
 |cons e ds ih=>
  intro xs h;let⟨x,r,Y,h1,h2⟩:=(show IsL K H (e::(ds++[d])) xs from h).un;let⟨ys,y,Y,h3,h4⟩:=ih h2;show⟨x::ys,y,Y,.B h1 h3,h4⟩
end
end L2
namespace Tw
open PySem L2
def RM (a b:List (Int×Nat)) (i:Nat):gY (a++b) i=gY a i++gY b i:=by unfold gY;rw[af1,Ñ]
def NW {ag:Type} (L:List ag) (m:Nat) (h:m<=L.Z):(L.take m).dropLast=L.take (m - 1):=by
 rw[List.dropLast_eq_take,ô,ń h,List.take_take,ń JM]
def K9 {ag:Type} (xs:List ag) (x:ag):(xs++[x])[(xs++[x]).length - 1]?=O x:=by simp
def AX (K:Ç) (C cN:Á):Sp:=λ vs H Q E=>∃(r:Á) (S:RunS) (fp:List Á),vs=[.y r]/\bP K C H r S fp/\
 ((S.rows=[]/\E (.y cN) W H)\/∃ S0 d,S=RunS.deed S0 d/\RunOk S0/\∀ H',dP fp H H'->bP K C H' r S0 fp->Q .non H')
def Q4 (F:Fun K "back" "Run.back" (bM (aX 53) 3) f fd) (T:Txt mg) (tx:RunTx K C) (mf:ExC K "Nothing" ia) :
  FnOk P w K mg base (iS P w) 2 f fd ["self"] (AX K C ia):=by
 show F.okR ["self","word","what","last","tick","number"] λ sc ir A outer s H vs Q E hr h L=>?_
 ·let⟨r,S,fp,Y,⟨dx,np,R,M,T',ts,rs,ms,mv,c,Y⟩,k⟩:=h;show⟨_,(aE (bK (fC (oU (K:=K) Y (bY (K:=K) Y (pv 0) Y) (λ _=>Y))) (aG (eY L Y Y mf.exc mf.ns Č (a9 aL aB))) aS)
   (aE (bL (BO (K:=K) Y í afc afd HU (bY (K:=K) Y (pv 0) Y)))
   (aE (bF (BO (K:=K) Y í afc afd HU (bY (K:=K) Y (pv 0) Y)) (aV (K:=K) (n:=3) Y Y (aF (gL 1 sc.nd) (aF (gL 2 sc.nd) (aF (gL 3 sc.nd) aQ)))))
   (aG (bK (aR eA (pv 1) aL (aW _)) (aG (uZ λ pn=>(eE ú Y (dR (K:=K) Y (pv 3)) (aV (K:=K) (n:=2) Y Y (aF (gL 4 sc.nd) (aF (gL 5 sc.nd) aQ))) (aG (bL (BO (K:=K) Y í afc afd HU (px K (bY (K:=K) Y (pv 0) Y) (pv 5)))))))) aS))))),?_⟩
  let nd:=c.nd;let Am:R≠M:=λ z=>by rw[õ]at nd;show nd.1 (by rw[z];simp)
  rw[õ]at nd;let uu:=nd.2;rw[õ]at uu;let Dp:=uu.2;rw[õ]at Dp;let nTM:T'≠M:=λ z=>uu.1 (by rw[z];simp);let nTR:T'≠R:=λ z=>nd.1 (by rw[z];simp);let ox:r≠M:=λ z=>c.r_notin (by rw[z];simp);let vi:r≠R:=λ z=>c.r_notin (by rw[z];simp);let Fx:∀ t∈ts,t≠M:=λ t ht z=>uu.1 (by rw[<- z];simp[ht]);let Fv:∀ t∈ts,t≠R:=λ t ht z=>nd.1 (by rw[<- z];simp[ht]);let Wl:T'∉ts:=Dp.1;let Wm:r∉ts:=λ z=>c.r_notin (by simp[z]);let nRt:R∉ts:=λ z=>nd.1 (by simp[z]);let nMt:M∉ts:=λ z=>uu.1 (by simp[z]);rcases k with⟨h0,k⟩|⟨S0,d,rfl,ur,k⟩
  ·let:rs=[]:=by
    let:=c.lR;rw[h0]at this;show this.un0
   subst this;show⟨_,Y,r,C,dx,_,_,Y,c.ins,tx.cls,tx.rows,oW,JJ,.p ⟨[],É c.hR,Y⟩,cH ?_⟩;show⟨by change 1<=100;decide,k⟩
  ·
   obtain⟨row,Ec⟩:∃ row,(RunS.deed S0 d).rows=S0.rows++[row]:=by ext d <;> show⟨_,Y⟩
   let Qz:(RunS.deed S0 d).pre=S0.pre++[S0.cur]:=by ext d <;> rfl
   let Ra:(RunS.deed S0 d).net=S0.net:=by ext d <;> rfl
   let lR:=c.lR;rw[Ec,Ñ]at lR;let⟨Gd,rv,Y,lR0,Rb⟩:=L2.IsL.unsnoc lR;let lM:=c.lM;rw[Qz,Ñ]at lM;let⟨Jt,Ju,Y,lM0,imv⟩:=L2.IsL.unsnoc lM;show⟨_,Y,r,C,dx,_,_,Y,c.ins,tx.cls,tx.rows,oW,EA,.p ⟨Gd++[rv],É c.hR,JN⟩,bR ?_⟩;show⟨_,Y,r,C,dx,_,_,Y,c.ins,tx.cls,tx.moments,eJ,.p ⟨Y,_,É c.hM⟩,M,_,mv,Y,Y,c.hM,K9 _ _,?_⟩;rw[List.dropLast_concat];let Pc:lX (H M):=by rw[c.hM];show trivial
   let b1:cI M H (upd H M (.j (Jt++[Ju]))):=Û;let Di:=b1.ts (K:=K) Pc;let Wn:upd H M (.j (Jt++[Ju])) M=O (.j (Jt++[Ju])):=aD;generalize upd H M (.j (Jt++[Ju]))=H1 at b1 Di Wn;let Rc:=b1 _ _ Am c.hR;show⟨_,Y,r,C,dx,_,_,Y,b1 _ _ ox c.ins,tx.cls,tx.rows,oW,.p ⟨Y,_,É Rc⟩,R,_,rv,Y,Y,Rc,K9 _ _,?_⟩;rw[List.dropLast_concat];let Bc:lX (H1 R):=by rw[Rc];show trivial
   let b2:cI R H1 (upd H1 R (.j Gd)):=Û;let vv:=Di.trans (b2.ts (K:=K) Bc);let Wo:upd H1 R (.j Gd) R=O (.j Gd):=aD;generalize upd H1 R (.j Gd)=H2 at b2 vv Wo;let Ma:=b2 _ _ (Ne.symm Am) Wn;let Ed:∀ b o,b≠M->b≠R->H b=O o->H2 b=O o:=λ b o h1 h2 e=>b2 _ _ h2 (b1 _ _ h1 e);let Jr:=Ed _ _ nTM nTR c.hT;let Jv:=Ed _ _ ox vi c.ins;let fin:∀ H',dP ts H2 H'->(∀(i:Nat) (t:Á) (l:List Int),ts[i]?=O t->S0.tips[i]?=O l->H' t=O (.j (l.map V.int)))->ts.Z=S0.tips.Z->Q .non H':=by
    intro H' b3 yt hl;let Re:∀ b∈ts,lX (H2 b):=λ b hb=>by
     let⟨xs,e⟩:=c.lists b (by simp[hb]);rw[Ed b _ (Fx b hb) (Fv b hb) e];show trivial
    let zu:bU K H2 H':=by
     intro b xs h;let ne:∀ {o:HO},H2 b=O o->¬ lX (O o)->b∉ts:=λ e n z=>by let:=Re b z;rw[e]at this;show n this
     rcases h with(h|⟨o,h⟩)|h
     ·show .p (.p (b3 _ _ (ne h (λ z=>z)) h))
     ·show .p (.x ⟨o,b3 _ _ (ne h (λ z=>z)) h⟩)
     ·show .x h
    let Bh:=vv.trans zu;show k H' (λ b o hb e=>b3 _ _ (λ z=>hb (by simp [z])) (Ed b o (λ z=>hb (by simp [z])) (λ z=>hb (by simp [z])) e)) ⟨dx,np,R,M,T',ts,Gd,Jt,Ju,?_,Y⟩;show {
     ins:=b3 _ _ Wm Jv
     net:=by let:=c.net;rw[Ra]at this;show Ì Bh _ _ this
     hR:=b3 _ _ nRt Wo
     lR:=Ò Bh _ _ lR0
     hM:=b3 _ _ nMt Ma
     lM:=Ò Bh _ _ lM0
     cM:=Ì Bh _ _ imv
     hT:=b3 _ _ Wl Jr
     tl:=hl
     ti:=yt
     nd:=c.nd
     ok:=ur }
   cases d with
   |pour v a=>
    cases(agj (show S0.rows++[Row.pour v a]=S0.rows++[row]from Ec));let⟨da,Wi,Y,qd,ld⟩:=(show Is K H (.v [.o "pour",.u v,.u a]) rv from Rb).un;let⟨x1,rr,Y,h1,ld⟩:=ld.un;let⟨x2,rr,Y,h2,ld⟩:=ld.un;let⟨x3,rr,Y,h3,ld⟩:=ld.un;let:=ld.un0;subst this;rw[h1.us,h2.ui,h3.ui]at qd;show⟨da,_,Y,vv _ _ qd,Y,_,_,Y,_,_,Y,_,_,Y,Y,?_⟩;show⟨_,Y,Y,_,Y,iN (λ z=>absurd (ð z) JL) λ _=>?_⟩;show fin H2 (λ _ _ _ e=>e) (λ i t l h1 h2=>Ed _ _ (Fx t (Ô h1)) (Fv t (Ô h1)) (c.ti i t l h1 h2)) c.tl
   |go kk=>
    cases(agj (show S0.rows++[Row.go (kk:Int) (hX S0.net S0.cur kk)]=S0.rows++[row]from Ec));generalize rp:hX S0.net S0.cur kk=tl at Rb;let Rf:∀ p∈tl,p.2 < S0.net.vs.Z:=λ p hp=>by rw[<- rp]at hp;show AI kk p hp
    let Cl:(RunS.deed S0 (.go kk)).tips=tl.foldl addTip S0.tips:=by rw[<- rp];rfl
    let xh:ts.Z=S0.tips.Z:=by let:=c.tl;rw[Cl,kX]at this;show this
    let ctl:=ur.tl;let⟨da,Wi,Y,qd,ld⟩:=(show Is K H (.v [.o "go",.u (kk:Int),.v (tl.map yI)]) rv from Rb).un;let⟨x1,rr,Y,h1,ld⟩:=ld.un;let⟨x2,rr,Y,h2,ld⟩:=ld.un;let⟨x3,rr,Y,h3,ld⟩:=ld.un;let:=ld.un0;subst this;rw[h1.us,h2.ui] at qd;let⟨la,Wp,Y,ql,ll⟩:=h3.un;show⟨da,_,Y,vv _ _ qd,Y,_,_,Y,_,_,Y,_,_,Y,Y,?_⟩;show⟨_,Y,Y,_,Y,iN (λ _=>?_) λ z=>absurd (á Y) z⟩;let Rg:∀ b∈ts,lX (H2 b):=λ b hb=>by
     let⟨xs,e⟩:=c.lists b (by simp[hb]);rw[Ed b _ (Fx b hb) (Fv b hb) e];show trivial
    let Do:∀ {H':Hp},dP ts H2 H'->bU K H2 H':=by
     intro H' b3 b xs h;let ne:∀ {o:HO},H2 b=O o->¬ lX (O o)->b∉ts:=λ e n z=>by let:=Rg b z;rw[e]at this;show n this
     rcases h with(h|⟨o,h⟩)|h
     ·show .p (.p (b3 _ _ (ne h (λ z=>z)) h))
     ·show .p (.x ⟨o,b3 _ _ (ne h (λ z=>z)) h⟩)
     ·show .x h
    show⟨_,Y,la,Y,⟨_,vv _ _ ql⟩,oY (K:=K) (a:=la) (xs:=Wp)
     (λ i ac H'=>dP ts H2 H'/\(∀(v:Nat) (t:Á) (l0:List Int),ts[v]?=O t->S0.tips[v]?=O l0->H' t=O (.j (((l0++gY tl v).take ((l0++gY tl v).length - (gY (tl.take i) v).length)).map V.int)))/\
      ∃ v4 v5,ac=[O (.y r),O (.o "go"),O (.u (kk:Int)),O (.y la),v4,v5]) ?_ ?_ ?_ ?_⟩
    ·show⟨λ _ _ _ e=>e,λ v t l0 h1 h2=>?_,_,_,Y⟩;let h3:=oO tl S0.tips v l0 h2;let h4:=c.ti v t _ h1 (by rw[Cl];show h3);rw[Ŝ,show(gY [] v).length=0 from rfl,Nat.sub_zero,ý];show Ed _ _ (Fx t (Ô h1)) (Fv t (Ô h1)) h4
    ·show λ i ac H' _ p=>Do p.1 _ _ (vv _ _ ql)
    ·rintro i x ac H3 hx zQ;let⟨b3,yt,v4,v5,Y⟩:=zQ;let⟨dd,Wq,ix⟩:=L2.IsL.get' ll hx;rw[Ö] at Wq;let⟨pr,Rh,Y⟩:=ç.mp Wq;let⟨tk,num⟩:=pr;let⟨ya,yxs,Y,qy,ly⟩:=(show Is K H (.v [.u tk,.u (num:Int)]) x from ix).un;let⟨y1,rr,Y,h1,ly⟩:=ly.un;let⟨y2,rr,Y,h2,ly⟩:=ly.un;let:=ly.un0;subst this;rw[h1.ui,h2.ui] at qy;show⟨ya,_,Y,Do b3 _ _ (vv _ _ qy),Y,_,_,Y,_,_,Y,Y,?_⟩;let Cc:num < S0.net.vs.Z:=Rf _ (Ô Rh);let Ri:num < ts.Z:=by rw[xh,ctl];show Cc
     let e1:ts[num]?=O ts[num]:=by simp[Ri]
     let e2:S0.tips[num]?=O (S0.tips[num]'(by rw[<- xh];show Ri)):=by simp
     generalize ts[num]=t at e1;generalize S0.tips[num]'(by rw[<- xh];show Ri)=l0 at e2;let ht:=yt num t l0 e1 e2;let Wr:gY (tl.take (i+1)) num=gY (tl.take i) num++[tk]:=by rw[cS Rh,A4,Å rfl]
     let hle:(gY (tl.take (i+1)) num).length<=(gY tl num).length:=by
      let:=RM (tl.take (i+1)) (tl.drop (i+1)) num;rw[List.take_append_drop]at this;rw[this,Ý];lia
     rw[Wr,Ý,Ą]at hle;let hLl:(l0++gY tl num).length=l0.Z+(gY tl num).length:=Ý;generalize hm:(l0++gY tl num).length - (gY (tl.take i) num).length=m at ht;let Fp:1<=m/\m<=(l0++gY tl num).length:=by lia
     let io:(((l0++gY tl num).take m).map V.int).length=m:=by rw[Ê,ô];lia
     obtain⟨y,hy⟩:∃ y,(((l0++gY tl num).take m).map V.int)[(((l0++gY tl num).take m).map V.int).length - 1]?=O y:=by
      rw[io];show⟨_,Ğ (by rw[io];lia)⟩
     show⟨_,Y,r,C,dx,_,_,Y,b3 _ _ Wm Jv,tx.cls,tx.tips,CQ,_,Y,.p ⟨T',_,(num:Int),.y t,Y,Y,É (b3 _ _ Wl Jr),hW (by rw[Ö,e1];rfl),.p ⟨Y,_,É ht⟩,t,_,y,Y,Y,ht,hy,?_⟩⟩;let htm:=Ô e1;show⟨λ b o hb e=>by rw[aK (λ z=>hb (by rw[z];show htm))];show b3 _ _ hb e,λ v' t' l' g1 g2=>?_,_,_,Y⟩
     by_cases e:v'=num
     ·subst e;rw[e1]at g1;ext g1;rw[e2]at g2;ext g2;let e3:(gY (tl.take (i+1)) v').length=(gY (tl.take i) v').length+1:=by rw[Wr,Ý];rfl
      rw[aD,<- List.map_dropLast,NW _ _ Fp.2,e3];rw[show(l0++gY tl v').length - ((gY (tl.take i) v').length+1)=m - 1 by lia]
     ·let ntt:t'≠t:=λ z=>e (EY Dp.2 g1 (by rw[z];show e1));let:gY (tl.take (i+1)) v'=gY (tl.take i) v':=by
       rw[cS Rh,A4,Ä (λ z=>e z.symm),þ]
      rw[aK ntt,this];show yt v' t' l' g1 g2
    ·rintro ac H3 zQ;let⟨b3,yt,v4,v5,Y⟩:=zQ;show fin H3 b3 (λ v t l g1 g2=>?_) xh;let:=yt v t l g1 g2;let Dq:Wp.Z=tl.Z:=by rw[ll.Z,Ê]
     rw[Dq,ý,Ý,Nat.add_sub_cancel,List.take_left'  rfl]at this;show this
open Classical in
def qB (net:Net):Ans:=if h:∃ p:Nat×Int,YQ net p.1 p.2 then .told (iB [h.choose.2,(h.choose.1:Int) - h.choose.2])else .no "long"
def m7 (net:Net) (v:Int):Ans:=if v < net.vs.Z then(match rV net v.toNat 2001 0 with
 |.none=>.told "none"
 |.at i k=>.told (iB [(i:Int),(k:Int)])
 |.long=>.no "long")else .no "vessel"
def tW (net:Net) (v m:Int):Ans:=if v < net.vs.Z then(match E4 net v m.Q with
 |.ends row _=>.told (iB row)
 |.many=>.no "many"
 |.on _=>.told "never")else .no "vessel"
def pV (w:Str) (S:RunS) (L:List RunS):Ans->List RunS
 |.told _=>if w="go" \/ w="pour" then S::L else L
 |.no _=>L
def eC (S:RunS) (L:List RunS) (w:Str) (l:List Int):(RunS×List RunS)×Ans:=
 if w="back" then(match L with
  |[]=>((S,[]),.no "nothing")
  |S0::L0=>((S0,L0),.told "ok"))
 else if w="round" then((S,L),qB S.net)
 else if w="stuck" then((S,L),m7 S.net (l.getD 0 0))
 else if w="soonest" then((S,L),if 5 < l.getD 1 0 then .no "row" else tW S.net (l.getD 0 0) (l.getD 1 0))
 else(((iT S w l).1,pV w S L (iT S w l).2),(iT S w l).2)
def AF (S:RunS) (L:List RunS) (l:List Int):eC S L "back" l=match L with
  |[]=>((S,[]),.no "nothing")
  |S0::L0=>((S0,L0),.told "ok"):=Å rfl
def yD (S:RunS) (L:List RunS) (l:List Int):eC S L "round" l=((S,L),qB S.net):=by
 unfold eC;rw[Ä JK,Å rfl]
def yC (S:RunS) (L:List RunS) (l:List Int):eC S L "stuck" l=((S,L),m7 S.net (l.getD 0 0)):=by
 unfold eC;rw[Ä JK,Ä JK,Å rfl]
def pB (S:RunS) (L:List RunS) (l:List Int):eC S L "soonest" l=((S,L),if 5 < l.getD 1 0 then .no "row" else tW S.net (l.getD 0 0) (l.getD 1 0)):=by
 unfold eC;rw[Ä JK,Ä JK,Ä JK,Å rfl]
def iP {w:Str} (h:w ≠ "back" /\ w ≠ "round" /\ w ≠ "stuck" /\ w ≠ "soonest") (S:RunS) (L:List RunS) (l:List Int):eC S L w l=(((iT S w l).1,pV w S L (iT S w l).2),(iT S w l).2):=by
 unfold eC;rw[Ä h.1,Ä h.2.1,Ä h.2.2.1,Ä h.2.2.2]
inductive Chn (net:Net):RunS->List RunS->Prop where
 |zero:Chn net (qA net) []
 |deed {S:RunS}{L:List RunS} (d:Deed) (h:Chn net S L) (ok:SJ S d):Chn net (S.deed d) (S::L)
theorem Chn.net {net:Net} (h:Chn net S L):S.net=net:=by
 induction h with
 |zero=>rfl
 |deed d h _ ih=>ext d <;> show ih
def Chn.nets {net:Net} (h:Chn net S L):∀ T∈S::L,T.net=net:=by
 induction h with
 |zero=>intro T hT;let:=ã.1 hT;subst this;rfl
 |deed d h ok ih=>
  intro T hT;rcases Ð.1 hT with rfl|hT
  ·show(Chn.deed d h ok).net
  ·show ih T hT
def Chn.rows0 {net:Net} (h:Chn net S []):S.rows=[]:=by ext h;rfl
def Chn.prev {net:Net} (h:Chn net S (S0::L)):∃ d,S=S0.deed d:=by ext h;show⟨_,Y⟩
structure Sd (net:Net) (S:RunS) (L:List RunS) (n:Nat):Prop where
 ch:Chn net S L
 rn:∀ T∈S::L,Rn T n/\T.cur.tick<=30 * n
def Sd.r  (h:Sd net S L n):Rn S n:=(h.rn S è).1
def Sd.t  (h:Sd net S L n):S.cur.tick<=30 * n:=(h.rn S è).2
def Sd.zero  (nok:NetOk net) (pf:NetFull net):Sd net (qA net) [] 0:=⟨.zero,λ T hT=>by let:=ã.1 hT;subst this;show⟨Rn.zero nok pf,û _⟩⟩
def Sd.up  (h:Sd net S L n):Sd net S L (n+1):=⟨h.ch,λ T hT=>⟨(h.rn T hT).1.up JM,by let:=(h.rn T hT).2;lia⟩⟩
def Sd.deed  (h:Sd net S L n) (d:Deed) (ok:SJ S d) (r:Rn (S.deed d) (n+1)) (t:(S.deed d).cur.tick<=30 * (n+1:Nat)):Sd net (S.deed d) (S::L) (n+1):=
 ⟨.deed d h.ch ok,λ T hT=>by
  rcases Ð.1 hT with rfl|hT
  ·show⟨r,t⟩
  ·show h.up.rn T hT⟩
set_option tactic.hygienic true in
def Sd.ask  (h:Sd net S L n) (hn:n<=90) (w:Str) (hl:∀ x∈l,0<=x) (hg:w="go" -> ∀ x∈l,x<=30):Sd net (eC S L w l).1.1 (eC S L w l).1.2 (n+1):=by
 unfold eC
 split
 ·match L,h with
  |[],h=>show h.up
  |S0::L0,h=>
   let hu:=h.up;show⟨by cases h.ch;assumption,λ T hT=>hu.rn T (Õ _ hT)⟩
 split
 ·show h.up
 split
 ·show h.up
 split
 ·show h.up
 match l,hl,hg with
 |[],_,_=>
  change Sd net S (pV w S L (K7 S w)) (n+1);unfold K7
  repeat' split
  all_goals (first|show h.up|(subst_vars;show h.up))
 |[x],hl,hg=>
  change Sd net (if w="go" then KI S x else if w="tips" then uK S x else(S,.no "row")).1 (pV w S L (if w="go" then KI S x else if w="tips" then uK S x else(S,.no "row")).2) (n+1);let h0:=hl x JN;let t0:=h.r.mp.t0;let t1:=h.t
  split
  ·rename_i e
   subst e;let hx:=hg rfl x JN;let e2:KI S x=(S.go x.Q,.told "ok"):=Ä JM;rw[e2];show h.deed (.go x.Q) (by change x.Q<=10000;lia) (h.r.go JM) (by change(i8 S.net S.cur x.Q).tick<=_;rw[lN];lia)
  ·split
   ·rename_i e
    subst e;change Sd net S (pV "tips" S L _) (n+1);unfold pV
    split
    ·show h.up
    ·show h.up
   ·show h.up
 |[x,y],hl,_=>
  change Sd net (if w="pour" then n8 S x y else(S,.no "row")).1 (pV w S L (if w="pour" then n8 S x y else(S,.no "row")).2) (n+1);let h0:=hl y JN;let t1:=h.t
  split
  ·rename_i e
   subst e;unfold n8
   split
   ·split
    ·show h.up
    ·show h.deed (.pour x y) ⟨hl x JN,by assumption⟩ (h.r.pour h0 JM) (by change S.cur.tick<=_;lia)
   ·show h.up
  ·show h.up
 |_::_::_::_,_,_=>show h.up
def l8 (f:List Row):Row->List Row
 |.go k _=>if 0 < k then[]else f
 |.pour v a=>f++[.pour v a]
def gM (rs:List Row):List Row:=rs.foldl l8 []
def NF (v:Int):Row->List Int
 |.pour u a=>if u=v then[a]else[]
 |.go _ _=>[]
def EN (v:Int) (rs:List Row):Int:=(rs.flatMap (NF v)).sum
def qF (rs:List Row) (r:Row):gM (rs++[r])=l8 (gM rs) r:=by unfold gM;rw[ů];rfl
def M1 (v:Int) (rs:List Row) (r:Row):EN v (rs++[r])=EN v rs+(NF v r).sum:=by unfold EN;simp[List.flatMap_append]
def vI (n i:Nat):(cA n).getD i 0=0:=by
 rw[ć];unfold cA;rw[age]
 split <;> rfl
set_option tactic.hygienic true in
def PH  (h:Chn net S L) (pl:∀ T∈S::L,T.cur.poured.Z=net.vs.Z):∀ v:Int,0<=v->v < net.vs.Z->EN v (gM S.rows)=S.cur.poured.getD v.toNat 0:=by
 induction h with
 |zero=>intro v _ _;show(vI _ _).symm
 |deed d h ok ih=>
  rename_i S L
  intro v h0 h1;let ih:=ih (λ T hT=>pl T (Õ _ hT)) v h0 h1;let pj:=pl S JN;let hn:=h.net;cases d with
  |pour u a=>
   let⟨u0,u1⟩:=(show 0<=u/\u < S.net.vs.Z from ok);rw[hn]at u1;change EN v (gM (S.rows++[.pour u a]))=(S.cur.poured.set u.toNat (S.cur.poured.getD u.toNat 0+a)).getD v.toNat 0;rw[qF];change EN v (gM S.rows++[.pour u a])=_;rw[M1,ih];change _+(if u=v then[a]else[]).sum=_
   by_cases e:u=v
   ·subst e;rw[Å rfl];simp only[ć,List.getElem?_set];rw[Å trivial,Å JM];simp
   ·rw[Ä e];simp only[ć,List.getElem?_set];rw[Ä JM];simp
  |go k=>
   change EN v (gM (S.rows++[.go (k:Int) _]))=(i8 S.net S.cur k).poured.getD v.toNat 0;rw[qF];change EN v (if 0 < (k:Int)then[]else gM S.rows)=_
   match k with
   |0=>show ih
   |k+1=>
    rw[Å JM];change(0:Int)=(cA _).getD _ 0;rw[vI]
theorem BA (net:Net) (k:L2.D):∀(t:Nat) (j:Int),dQ (jL net t) k=O (.u j)->0<=j/\j < t
 |0,j,h=>by cases h
 |t+1,j,h=>by
  rw[show jL net (t+1)=jE (jL net t) (fX (bQ net t)) (.u (t:Int))from rfl,vK]at h
  by_cases e:k=fX (bQ net t)
  ·rw[Å e]at h;ext h;lia
  ·rw[Ä e]at h;let:=BA net k t j h;lia
def TJ  (h:YQ net t j) (h':YQ net t' j'):t=t'/\j=j':=by
 let e:t=t':=by
  rcases Nat.lt_trichotomy t t' with c|c|c
  ·let:=h'.2.2 t c;rw[h.2.1]at this;cases this
  ·show c
  ·let:=h.2.2 t' c;rw[h'.2.1]at this;cases this
 subst e;let:=h.2.1.symm.trans h'.2.1;ext this;show⟨Y,Y⟩
def zR  (h:YQ net t j):qB net=.told (iB [j,(t:Int) - j]):=by
 let hx:∃ p:Nat×Int,YQ net p.1 p.2:=⟨(t,j),h⟩;unfold qB;rw[dif_pos hx];let⟨e1,e2⟩:=TJ hx.choose_spec h;rw[e1,e2]
def wN  (h:YT net):qB net=.no "long" := dif_neg λ⟨p,hp⟩=>by
 let:=h p.1 hp.1;rw[hp.2.1]at this;cases this
set_option tactic.hygienic true in
theorem BP (net:Net) (j:Nat):∀(f i a k:Nat),rV net j f i=.at a k->a < i+f/\k < net.vs.Z
 |0,i,a,k,h=>by cases h
 |f+1,i,a,k,h=>by
  rw[rV]at h
  split at h
  ·cases h
  ·split at h
   ·rename_i k' r hc
    ext h;show⟨JM,?_⟩;let:k∈MY net j i:=by rw[hc];simp
    unfold MY D9 at this;show Ĳ.1 (List.mem_filter.1 this).1
   ·let:=BP net j f (i+1) a k h;lia
section
variable {ag:Type}{dD:ag->L2.D}{kg:ag->Int->ag}{fin:ag->Int->Bool}{il jr:Nat}
def Amt (il:Nat) (fs:Fs ag):Prop:=∀ q∈fs,∀ a∈q.2,0<=a/\a<=(il:Int)
def AmtR (il:Nat):BRes ag->Prop
 |.ends row _=>∀ a∈row,0<=a/\a<=(il:Int)
 |.on fs=>Amt il fs
 |.many=>True
theorem DE  (hr:∀ a∈r,0<=a/\a<=(il:Int)):∀(l a:Nat) (fs:Fs ag),a+l=il+1->Amt il fs->AmtR il (DF dD kg fin jr d r l (a:Int) fs)
 |0,a,fs,_,h=>h
 |l+1,a,fs,e,h=>by
  let Ge:∀ x∈r++[(a:Int)],0<=x/\x<=(il:Int):=λ x hx=>by
   rcases ë.1 hx with hx|hx
   ·show hr x hx
   ·let:=ã.1 hx;lia
  rw[DF]
  split
  ·show Ge
  split
  ·show DE hr l (a+1) fs JM h
  split
  ·trivial
  ·show DE hr l (a+1) _ JM λ q hq=>?_;rcases ë.1 hq with hq|hq
   ·show h q hq
   ·let:=ã.1 hq;subst this;show Ge
def NP  (h:Amt il fs) (k:L2.D):∀ a∈(kF dD fs k).getD [],0<=a/\a<=(il:Int):=by
 cases hv:kF dD fs k with
 |none=>show λ a ha=>nomatch ha
 |some r=>
  intro a ha;let⟨q,hq,Y⟩:=ç.mp (show(fs.find? λ p=>decide (dD p.1=k)).map (·.2)=O r from hv);show h q (af4 hq) a ha
set_option tactic.hygienic true in
theorem G5:∀(n p:Nat) (fs:Fs ag),Amt il fs->AmtR il (tS dD kg fin il jr n p fs)
 |0,p,fs,h=>h
 |n+1,p,fs,h=>by
  rw[tS]
  split
  ·show h
  ·rename_i d hd
   let:=DE (dD:=dD) (kg:=kg) (fin:=fin) (jr:=jr) (d:=d.1) (NP (dD:=dD) h (dD d.1)) (il+1) 0 fs JM h;cases hb:DF dD kg fin jr d.1 ((kF dD fs (dD d.1)).getD []) (il+1) 0 fs with
   |on Bq=>
    rw[show((0:Nat):Int)=0 from rfl,hb]at this;show G5 n (p+1) Bq this
   |ends row f=>rw[show((0:Nat):Int)=0 from rfl,hb]at this;show this
   |many=>trivial
def KS  (h:SR dD kg fin il jr first=.ends row fs):∀ a∈row,0<=a/\a<=(il:Int):=by
 let:=G5 (dD:=dD) (kg:=kg) (fin:=fin) (il:=il) (jr:=jr) (jr+1) 0 [(first,[])] (λ q hq=>by let:=ã.1 hq;subst this;show λ a ha=>nomatch ha);unfold SR at h;rw[h]at this;show this
end
section
variable {Pt:Á}
def D8 (cR cM cV cL cY cN:Á) (wr:Str):Á:=if wr="long" then cL else if wr="many" then cY else if wr="nothing" then cN else S2 cR cM cV wr
def RT (cR cM cV cL cY cN:Á) (Q:VK) (E:XK) (H:Hp):Ans->Prop
 |.told z=>Q (.o z) H
 |.no wr=>E (.y (D8 cR cM cV cL cY cN wr)) W H
def mU (K:Ç) (C cR cM cV cL cY cN Pt:Á) (wd:Str):Sp:=λ vs H Q E=>∃(e l:Á) (S:RunS) (L:List RunS) (net:Net) (n:Nat) (fp:List Á) (ns:List Int),vs=[.y e,.y l]/\bP K C H e S fp/\Sd net S L n/\n<=90/\cB H Pt gX pF/\
 H l=O (.j (ns.map V.int))/\(∀ n∈ns,0<=n/\n < 10 ^ 9)/\ns.Z=kG wd/\(wd="soonest" -> ns.getD 1 0<=5)/\
 ∀ H',dP (Pt::fp) H H'->cB H' Pt gX pF->bP K C H' e (eC S L wd ns).1.1 fp->RT cR cM cV cL cY cN Q E H' (eC S L wd ns).2
def nH  (h:cB H Pt pos q) (b:dP fp H H') (hl:∀ x∈fp,∃ xs,H x=O (.j xs)):cB H' Pt pos q:=by
 let st:∀ {x:Á}{o:HO},H x=O o->(∀ xs,o≠.lst xs)->H' x=O o:=λ {x o} e n=>b x o (λ z=>by let⟨xs,q⟩:=hl x z;rw[q]at e;show n xs (ñ e).symm) e;rcases h with h|⟨c,oc,vs,t,h1,h2,h3⟩
 ·show .p (st h λ xs z=>by ext z)
 ·show .x ⟨c,oc,vs,t,st h1 (λ xs z=>by ext z),st h2 (λ xs z=>by ext z),h3⟩
set_option tactic.hygienic true in
def VI {w:Str} (h:(iT S w l).2=.no wr):(iT S w l).1=S:=by
 match l,h with
 |[],_=>rfl
 |[n],h=>
  let e:iT S w [n]=if w="go" then KI S n else if w="tips" then uK S n else(S,.no "row"):=rfl
  rw[e]at h ⊢;unfold KI uK at h ⊢
  split at h
  ·split at h
   ·rename_i h1 h2;rw[Å h1,Å h2]
   ·cases h
  ·rename_i h1
   rw[Ä h1]
   split <;> rfl
 |[n,m],h=>
  let e:iT S w [n,m]=if w="pour" then n8 S n m else(S,.no "row"):=rfl
  rw[e]at h ⊢;unfold n8 at h ⊢
  split at h
  ·rename_i h1
   rw[Å h1]
   split at h
   ·rename_i h2
    rw[Å h2]
    split at h
    ·rename_i h3;rw[Å h3]
    ·cases h
   ·rename_i h2;rw[Ä h2]
  ·rename_i h1;rw[Ä h1]
 |_::_::_::_,_=>rfl
def yE  (h:iT S wd ns=(S',.no wr)):wr="row" \/ wr="vessel" \/ wr="much" := by
 match ns,h with
 |[],h=>
  let⟨_,h2⟩:=ĝ h;unfold K7 at h2
  repeat (split at h2;· ext h2)
  show .p (Ans.no.inj h2).symm
 |[n],h=>
  let h:(if wd="go" then KI S n else if wd="tips" then uK S n else(S,.no "row"))=(S',.no wr):=h;unfold KI uK at h
  split at h
  ·split at h
   ·show .x (.x (Ans.no.inj (ĝ h).2).symm)
   ·cases(ĝ h).2
  ·split at h
   ·let h2:=(ĝ h).2
    split at h2
    ·cases h2
    ·show .x (.p (Ans.no.inj h2).symm)
   ·show .p (Ans.no.inj (ĝ h).2).symm
 |[n,m],h=>
  let h:(if wd="pour" then n8 S n m else(S,.no "row"))=(S',.no wr):=h;unfold n8 at h
  split at h
  ·split at h
   ·split at h
    ·show .x (.x (Ans.no.inj (ĝ h).2).symm)
    ·cases(ĝ h).2
   ·show .x (.p (Ans.no.inj (ĝ h).2).symm)
  ·show .p (Ans.no.inj (ĝ h).2).symm
 |_::_::_::_,h=>show .p (Ans.no.inj (ĝ h).2).symm
def YM {wd:Str} (ho:wd ≠ "back" /\ wd ≠ "round" /\ wd ≠ "stuck" /\ wd ≠ "soonest"):∀ vs H Q E,mU K C cR cM cV cL cY cN Pt wd vs H Q E->iU K C cR cM cV wd vs H Q E:=by
 rintro vs H Q E zQ;let⟨e,l,S,L,net,n,fp,ns,Y,ra,sd,hn,tab,hl,mx,hc,_,k⟩:=zQ;let ec:kG wd=YK wd:=by unfold kG YK;rw[Ä ho.2.2.1,Ä ho.2.2.2]
 rw[iP ho]at k;show⟨e,l,S,fp,ns,n,Y,ra,sd.r,JM,hl,mx,hc.trans ec,λ S' z h H' b oy=>?_,λ S' wr h=>?_⟩
 ·let:=k H' (λ x o hx=>b x o λ z=>hx (Õ _ z)) (nH tab b ra.lists) (by rw[h];show oy);rw[h]at this;show this
 ·let e1:(iT S wd ns).1=S:=VI (by rw[h]);let:=k H (Ć H).butL tab (by rw[e1];show ra);rw[h] at this;let e2:D8 cR cM cV cL cY cN wr=S2 cR cM cV wr:=by
   let hw:=yE h;unfold D8;rcases hw with rfl|rfl|rfl <;> rw[Ä JK,Ä JK,Ä JK]
  rw[<- e2];show this
def xM (F:Fun K "answer_back" "answer_back" (aX 81) f fd) (T:Txt mg) (jo:MCalR P w K mg base C "back" ["self"] 2 (AX K C ia) f1 jf) :
  FnOk P w K mg base (iS P w) 9 f fd ["run","numbers"] (mU K C ic gx gv gy gz ia Pt "back"):=by
 show F.okR ["run","numbers"] λ sc ir A outer s H vs Q E hr h L=>?_
 ·let⟨e,l,S,Ls,net,n,fp,ns,Y,ra,sd,hn,tab,hl,mx,hc,_,k⟩:=h;rw[AF]at k;show⟨_,(aE (bL (gB (pv 0) jo.cls jo.mt jo.ok (hr.mono JL) jo.bd .nil (bX L)))
   (aG (aO aL))),?_⟩
  let⟨dx,np,R,M,T',ei⟩:=ra.ins;show⟨_,Y,e,dx,_,Y,ei,nF "back" Y,e,S,fp,Y,ra,?_⟩
  match Ls,sd,k with
  |[],sd,k=>
   show .p ⟨sd.ch.rows0,k H (Ć H).butL tab ra⟩
  |S0::L0,sd,k=>
   let⟨d,hd⟩:=sd.ch.prev;show .x ⟨S0,d,hd,(sd.rn S0 JN).1.ok,λ H' b oy=>?_⟩;show k H' (λ x o hx=>b x o λ z=>hx (Õ _ z)) (nH tab b ra.lists) oy
def VW  (ha:0<=a/\a < 10 ^ 9) (hb:0<=b/\b < 10 ^ 9):([V.int a,V.int b]).map DV=(([a,b]:List Int).map aU).map O/\LJ (([a,b]:List Int).map aU)<=900000:=by
 let h:∀ x∈([a,b]:List Int),0<=x/\x < 10 ^ 9:=λ x hx=>by
  rcases Ð.1 hx with rfl|hx
  ·show ha
  ·let:=ã.1 hx;subst this;show hb
 show⟨iW h,?_⟩;let:=lZ h;simp at this ⊢;lia
def uS (F:Fun K "answer_round" "answer_round" (aX 89) f fd) (T:Txt mg) (tx:RunTx K C) (jp:CalleeR P w K mg base "round_of" ["net"] 6 (wA K gy) f1 jf)
  (iw:Callee P w K mg base "with_blanks" ["things"] 1 (mC K) f2 ka):FnOk P w K mg base (iS P w) 9 f fd ["run","numbers"] (mU K C ic gx gv gy gz ia Pt "round"):=by
 show F.okR ["run","numbers"] λ sc ir A outer s H vs Q E hr h L=>?_
 ·let⟨e,l,S,Ls,net,n,fp,ns,Y,ra,sd,hn,tab,hl,mx,hc,_,k⟩:=h;rw[yD]at k;show⟨_,(aG (aO (cD iw hr (a9 (bZ jp.ok (hr.mono JL) Y jp.mg jp.kp jp.bd .nil (bX L) (a9 (bY (K:=K) Y (pv 0) Y) aB)) aB)))),?_⟩;let oy:=ra;let⟨dx,np,R,M,T',ts,rs,ms,mv,c,Y⟩:=oy;show⟨_,Y,e,C,dx,_,_,Y,c.ins,tx.cls,tx.net,qJ,np,S.net,Y,c.net,sd.r.ok.nok,λ t j p H' uh s1 qp=>?_,λ hL H' s1=>?_⟩
  ·let⟨j0,j1⟩:=BA _ _ _ _ uh.2.1;let ht:=uh.1;let⟨e1,e2⟩:=VW (a:=j) (b:=(t:Int) - j) ⟨j0,JM⟩ ⟨JM,JM⟩;show⟨EA,p,_,_,Y,qp,e1,e2,λ H2 s2=>?_⟩;let:=k H2 (s1.trans s2).butL (tab.same (s1.trans s2)) (ra.same (s1.trans s2));rw[zR uh]at this;show this
  ·let:=k H' s1.butL (tab.same s1) (ra.same s1);rw[wN hL]at this;show this
def uR (F:Fun K "answer_stuck" "answer_stuck" (aX 90) f fd) (T:Txt mg) (tx:RunTx K C) (ku:CalleeR P w K mg base "stuck" ["net","vessel"] 5 (vY K gv gy) f1 jf)
  (iw:Callee P w K mg base "with_blanks" ["things"] 1 (mC K) f2 ka):FnOk P w K mg base (iS P w) 9 f fd ["run","numbers"] (mU K C ic gx gv gy gz ia Pt "stuck"):=by
 show F.okR ["run","numbers","change"] λ sc ir A outer s H vs Q E hr h L=>?_
 ·let⟨e,l,S,Ls,net,n,fp,ns,Y,ra,sd,hn,tab,hl,mx,hc,_,k⟩:=h;obtain⟨v,rfl⟩:∃ v,ns=[v]:=match ns,hc with|[v],_=>⟨v,rfl⟩
  rw[yC]at k;let k:∀ H',dP (Pt::fp) H H'->cB H' Pt gX pF->bP K C H' e S fp->RT ic gx gv gy gz ia Q E H' (m7 S.net v):=k;let xl:=(mx v JN).1;show⟨_,(aE (pL 2 sc.nd (bZ ku.ok (hr.mono JL) Y ku.mg ku.kp ku.bd .nil (bX L) (a9 (bY (K:=K) Y (pv 0) Y) (a9 (px K (pv 1) aH) aB))))
   (aG (aO (iK (aR oC (pv 2) eQ (aW _)) aL (cD iw hr (a9 (pv 2) aB)))))),?_⟩
  let oy:=ra;let⟨dx,np,R,M,T',ts,rs,ms,mv,c,Y⟩:=oy;show⟨_,Y,e,C,dx,_,_,Y,c.ins,tx.cls,tx.net,qJ,_,Y,.p ⟨l,_,0,.u v,Y,Y,É hl,Y,np,S.net,v,Y,c.net,sd.r.ok.nok,sd.r.fu,?_⟩⟩;let kk:∀ H',aI H H'->RT ic gx gv gy gz ia Q E H' (m7 S.net v):=λ H' s1=>k H' s1.butL (tab.same s1) (ra.same s1);unfold m7 at kk
  by_cases hv:v < S.net.vs.Z
  rotate_left
  ·rw[Ä hv]at kk;show .p ⟨λ z=>hv z.2,kk H (Ć H)⟩
  rw[Å hv]at kk;let⟨j,Y⟩:=Ē xl;show .x ⟨j,Y,JM,λ ho H' s1=>?_,λ i q p H' ho s1 qp=>?_,λ ho H' s1=>?_⟩
  ·let:=kk H' s1;rw[show((j:Int)).toNat=j from rfl,ho]at this;show⟨_,Y,Y,_,Y,cH this⟩
  ·let bd:=BP _ _ _ _ _ _ ho;let:=sd.r.ok.nok.hi;let⟨e1,e2⟩:=VW (a:=(i:Int)) (b:=(q:Int)) ⟨JM,JM⟩ ⟨JM,JM⟩;show⟨_,Y,Y,_,Y,bR ⟨_,Y,EA,p,_,_,Y,qp,e1,e2,λ H2 s2=>?_⟩⟩;let:=kk H2 (s1.trans s2);rw[show((j:Int)).toNat=j from rfl,ho]at this;show this
  ·let:=kk H' s1;rw[show((j:Int)).toNat=j from rfl,ho]at this;show this
end
section
variable {CD Pt aA aN:Á}{Ao Ee:List (gS×V)}
def AY  (ra:bP K C H e S fp) (a:SmT Pt gX pF H H'):bP K C H' e S fp:=by
 let⟨dx,np,R,M,T,ts,rs,ms,mv,c,Y⟩:=ra;show⟨dx,np,R,M,T,ts,rs,ms,mv,c.keep a.ts λ b hb=>?_,Y⟩;rcases Ð.1 hb with rfl|hb
 ·rw[a.get c.ins (λ ps z=>by ext z),c.ins]
 ·let⟨xs,e⟩:=c.lists b hb;rw[a.get e (λ ps z=>by ext z),e]
def DI  (tab:cB H Pt gX pF) (b:dP (Pt::fp) H H') (hl:∀ x∈fp,∃ xs,H x=O (.j xs)):∀ {x:Á}{o:HO},H x=O o->(∀ xs,o≠.lst xs)->(∀ ps,o≠.tbl ps)->H' x=O o:=λ {x o} e n1 n2=>b x o (λ z=>by
 rcases Ð.1 z with z|z
 ·let⟨ps,h⟩:=tab.some;rw[z,h]at e;show n2 ps (ñ e).symm
 ·let⟨xs,q⟩:=hl x z;rw[q]at e;show n1 xs (ñ e).symm) e
def DH  (tab:cB H Pt gX pF) (b:dP (Pt::fp) H H') (hl:∀ x∈fp,∃ xs,H x=O (.j xs)):bU K H H':=λ x xs h=>by
 rcases h with(h|⟨o,h⟩)|h
 ·show .p (.p (DI tab b hl h (λ _ z=>by ext z) λ _ z=>by ext z))
 ·show .p (.x ⟨o,DI tab b hl h (λ _ z=>by ext z) λ _ z=>by ext z⟩)
 ·show .x h
def uY  (a:SmT Pt gX pF H H'):dP (Pt::fp) H H':=λ b o hb e=>a.but b o (λ z=>hb (by rw[z];show è)) e
def rY (F:Fun K "answer_soonest" "answer_soonest" (aX 91) f fd) (T:Txt mg) (tx:RunTx K C) (jy:CalleeR P w K mg base "soonest" ["net","vessel","most"] 8 (GW K Pt gv gz) f1 jf)
  (iw:Callee P w K mg base "with_blanks" ["things"] 1 (mC K) f2 ka):FnOk P w K mg base (iS P w) 9 f fd ["run","numbers"] (mU K C ic gx gv gy gz ia Pt "soonest"):=by
 show F.okR ["run","numbers","word","found"] λ sc ir A outer s H vs Q E hr h L=>?_
 ·let⟨e,l,S,Ls,net,n,fp,ns,Y,ra,sd,hn,tab,hl,mx,hc,h5,k⟩:=h;obtain⟨v,m,rfl⟩:∃ v m,ns=[v,m]:=match ns,hc with|[v,m],_=>⟨v,m,rfl⟩
  let Ws:m<=5:=h5 rfl;rw[pB]at k;let k2:∀ H',SmT Pt gX pF H H'->RT ic gx gv gy gz ia Q E H' (tW S.net v m):=λ H' a=>by
   let:=k H' (uY a) a.t2 (AY ra a);rw[show([v,m]:List Int).getD 1 0=m from rfl,Ä JM]at this;show this
  let xl:=(mx v JN).1;let wf:=(mx m JN).1;let⟨mm,Y⟩:=Ē wf;show⟨_,(aE (bF (bZ jy.ok (hr.mono JL) Y jy.mg jy.kp jy.bd .nil (bX L) (a9 (bY (K:=K) Y (pv 0) Y) (a9 (px K (pv 1) aH) (a9 (px K (pv 1) aH) aB)))) (aV (K:=K) (n:=2) Y Y (aF (gL 2 sc.nd) (aF (gL 3 sc.nd) aQ))))
   (aG (aO (iK (aR eA (pv 2) aL (aW _)) (cD iw hr (a9 (pv 3) aB)) aL)))),?_⟩
  let oy:=ra;let⟨dx,np,R,M,T',ts,rs,ms,mv,c,Y⟩:=oy;show⟨_,Y,e,C,dx,_,_,Y,c.ins,tx.cls,tx.net,qJ,_,Y,.p ⟨l,_,0,.u v,Y,Y,É hl,Y,_,Y,.p ⟨l,_,1,.u (mm:Int),Y,Y,É hl,Y,np,S.net,v,mm,Y,c.net,sd.r.ok.nok,JM,tab,?_⟩⟩⟩;unfold tW at k2
  by_cases hv:v < S.net.vs.Z
  rotate_left
  ·rw[Ä hv]at k2;show .x ⟨λ z=>hv z.2,k2 H (cB.of tab (Ć H))⟩
  rw[Å hv]at k2;show .p ⟨xl,hv,λ row fs ho p rl H' a qp pk _ io=>?_,λ ho H' a=>?_,λ fs ho p fl us H' a qp _ _ _ _ _=>?_⟩
  ·show⟨p,_,Y,qp,Y,_,_,Y,_,_,Y,Y,?_⟩;let am:=KS ho;let ow:∀ x∈row,0<=x/\x < 10 ^ 9:=λ x hx=>by let:=am x hx;lia
   show⟨_,Y,Y,_,Y,cH ⟨_,Y,JJ,rl,_,_,Y,É pk,iW ow,?_,λ H2 s2=>?_⟩⟩
   ·let:=lZ ow;lia
   ·let:=k2 H2 (a.step s2);rw[show((mm:Int)).toNat=mm from rfl,ho]at this;show this
  ·let:=k2 H' a;rw[show((mm:Int)).toNat=mm from rfl,ho]at this;show this
  ·show⟨p,_,Y,qp,Y,_,_,Y,_,_,Y,Y,?_⟩;show⟨_,Y,Y,_,Y,bR ?_⟩;let:=k2 H' a;rw[show((mm:Int)).toNat=mm from rfl,ho]at this;show this
def sP:List Str:=["pour","go","held","coming","tick","came","grounded","tips","back","round","stuck","soonest"]
def HB (wd:Str) (ns:List Int):Str:=Str.join (one 32) (wd::ns.map aU)
structure Txt5 (mg:Str->Option À):Prop where
 g_MOST_POURING:∃ u,mg "MOST_POURING"=O u/\bE (.u 5) u
structure TxtX (P:Ã) (w:World) (K:Ç) (mg:Str->Option À) (base:Heap) (C cR cM cV cL cY cN Pt aA aN:Á) (Ao Ee:List (gS×V)):Prop where
 mA:mg "ANSWERS"=O (.y aA)
 mN:mg "NUMBER_COUNTS"=O (.y aN)
 dA:KDt P w K aA Ao
 dN:KDt P w K aN Ee
 inN:∀ wd:Str,wd∈sP->(dQ Ee (kS wd)).getD (.u 0)=.u (kG wd)
 fn:∀ wd:Str,wd∈sP->∃ f fd,dQ Ao (kS wd)=O (.y f)/\FnOk P w K mg base (iS P w) 9 f fd ["run","numbers"] (mU K C cR cM cV cL cY cN Pt wd)/\PySem.W.keepIn K (.y f)=EA/\gW K fd ["run","numbers"] []
def AnsX (K:Ç) (C cR cM cV cL cY cN Pt:Á) (Ao:List (gS×V)) (f:Á) (sp:Sp):Prop:=∃ wd,wd∈sP/\dQ Ao (kS wd)=O (.y f)/\sp=mU K C cR cM cV cL cY cN Pt wd
def TxtX.hR {C cR cM cV cL cY cN Pt aA aN:Á} (U:TxtX P w K mg base C cR cM cV cL cY cN Pt aA aN Ao Ee):∀ f sp,AnsX K C cR cM cV cL cY cN Pt Ao f sp->∃ fd ps,FnOk P w K mg base (iS P w) 9 f fd ps sp/\PySem.W.keepIn K (.y f)=EA/\gW K fd ps []:=by
 rintro f sp zQ;let⟨wd,h1,h2,Y⟩:=zQ;let⟨f',fd,e,h3,h4,h5⟩:=U.fn wd h1;rw[h2]at e;ext e;show⟨fd,_,h3,h4,h5⟩
def L7  (h:wd∈sP):32∉sg wd/\pG wd/\wd.Z<=8:=by
 let:=(by decide +kernel:∀ x∈sP,32∉sg x/\(sg x).all (λ c=>decide (c < 128))=EA/\x.Z<=8) wd h;show⟨this.1,λ c hc=>ð (Ĕ.1 this.2.1 c hc),this.2.2⟩
def J3 (K:Ç) (cR:Á):Sp:=λ vs H Q E=>∃(wd:Str) (ns:List Int),vs=[.o (HB wd ns)]/\wd∈sP/\(∀ n∈ns,0<=n/\n < 10 ^ 9)/\ns.Z=kG wd/\
 (¬ (wd="soonest" /\ 5 < ns.getD 1 0)->∀ p l H',aI H H'->bH K H' p [.o wd,.y l]->H' l=O (.j (ns.map V.int))->Q (.y p) H')/\(wd="soonest" /\ 5 < ns.getD 1 0->∀ H',aI H H'->E (.y cR) W H')
def KQ (wd:Str):kG wd<=2:=by
 unfold kG
 repeat' split
 all_goals lia
def BV (F:Fun K "read_row" "read_row" (aX 96) f fd) (T:Txt mg) (TS:TxtS mg) (U5:Txt5 mg) (km:ExC K "NoRow" ic) (UA:TxtX P w K mg base C ic gx gv gy gz ia Pt aA aN Ao Ee)
  (ng:Callee P w K mg base "is_number" ["word"] 1 AR f1 jf):FnOk P w K mg base (iS P w) 3 f fd ["row"] (J3 K ic):=by
 show F.okR ["row","word","rest","numbers"] λ sc ir A outer s H vs Q E hr h L=>?_
 ·let⟨wd,ns,Y,hw,mx,hc,k1,k2⟩:=h;show⟨_,(aE (bK (fC (dI (bJ (yB (K:=K) Y) Y T.b_isinstance dH (a9 (pv 0) (a9 (jB (v:=.ty "str") Y TS.b_str cK Y) aB))))) (aG (eY L Y Y km.exc km.ns Č (a9 aL aB))) aS)
   (aE (bF (iV (K:=K) Y ŏ Ő lL (pv 0) (a9 aL aB)) (EM (K:=K) Y Y (aF (gL 1 sc.nd) (EL (gL 2 sc.nd)))))
   (aE (bK (TU λ pn=>(Ď (uF (aR (PN UA.dA) (pv 1) (bV (v:=.y aA) Y ⟨_,UA.mA,Y⟩) (by rfl)) (uF (aR zV (zU K T.b_len (pv 2)) (P7 UA.dN Y UA.mN (pv 1) aH ⟨Y,Y,Y,Y⟩) (aW _)) (qD (fC (dI (bJ (oZ (K:=K) Y Y) Y T.b_all ŧ (a9 (hJ (λ _ _ h=>h) Y (LcOk.mk (N':=["part"]) (fr:=[W]) Y trivial Y Y Y Y Y trivial) (gA (K:=K) Y (pv 2)) (λ _ _ _=>(gC 0 ["part"])) (λ _ _ _=>cP) (λ _ _ _=>(cD ng hr (a9 (pv 0) aB)))) aB))))))))) (aG (eY L Y Y km.exc km.ns Č (a9 aL aB))) aS)
   (aE (uZ λ pn=>(jS (i:=3) sc.nd Y Y (λ _ _ h=>h) Y (LcOk.mk (N':=["part"]) (fr:=[W]) Y trivial Y Y Y Y Y trivial) (gA (K:=K) Y (pv 2)) (λ _ _ _=>(gC 0 ["part"])) (λ _ _ _=>cP) (λ _ _ _=>(aP tR Y T.b_int j7 (a9 (pv 0) aB)))))
   (aE (bK (Ď (qE (aR eA (pv 1) aL (aW _)) (mJ (aR rX (px K (pv 3) aH) (bV Y U5.g_MOST_POURING) (aW _))))) (aG (eY L Y Y km.exc km.ns Č (a9 aL aB))) aS)
   (aG (aO (bG (a9 (pv 1) (a9 (pv 3) aB)))))))))),?_⟩
  show⟨_,Y,_,"str",.o (HB wd ns),Y,JL,.s _,_,Y,bR ?_⟩;let⟨w0,w1,w2⟩:=L7 hw;let h2:=KQ wd;let lw:Txt.split (HB wd ns) (one 32)=wd::ns.map aU:=i4 JN λ a ha=>by
   rcases Ð.1 ha with rfl|ha
   ·show w0
   ·let⟨n,hn,Y⟩:=Ù.1 ha;intro z;let:=j4 (mx n hn).1 32 z;lia
  let zl:(HB wd ns).length<=(wd::ns.map aU).length * 9+(wd::ns.map aU).length:=lO (B:=9) λ a ha=>by
   rcases Ð.1 ha with rfl|ha
   ·lia
   ·let⟨n,hn,Y⟩:=Ù.1 ha;show fY (mx n hn).1 (mx n hn).2
  rw[æ,Ê]at zl;show⟨_,Y,Y,HB wd ns," ",Y,Y,JL,JM,λ p hp=>?_⟩;rw[SM,lw];let s4:=È (o:=HO.lst ((wd::ns.map aU).map V.str)) hp;let g4:upd H p (.j ((wd::ns.map aU).map V.str)) p=O (.j (.o wd::(ns.map aU).map V.str)):=aD;generalize upd H p (.j ((wd::ns.map aU).map V.str))=H4 at s4 g4 ⊢;show⟨p,.o wd,(ns.map aU).map V.str,Y,É g4,by rw[Ê,Ê];lia,λ q hq=>⟨_,_,Y,_,_,Y,Y,?_⟩⟩;let s5:=s4.trans (È (o:=HO.lst ((ns.map aU).map V.str)) hq);let g5:upd H4 q (.j ((ns.map aU).map V.str)) q=O (.j ((ns.map aU).map V.str)):=aD;dsimp only[eD];generalize upd H4 q (.j ((ns.map aU).map V.str))=H5 at s5 g5 ⊢;clear s4 g4 hp hq;let pk:((ns.map aU).map V.str).length=ns.Z:=by rw[Ê,Ê]
  let⟨f2,ka,hv,_⟩:=UA.fn wd hw;show⟨_,Y,kS wd,Y,Y,_,Y,?_⟩;rw[hv];show bR ⟨_,Y,q,_,Y,.p (É g5),_,Y,kS wd,Y,?_⟩;rw[UA.inN wd hw,pk];show⟨Y,_,Y,?_⟩;rw[show (!decide (V.int ((ns.Z:Nat):Int)=V.int ((kG wd:Nat):Int)))=JJ by rw[á (by rw[hc])];rfl];show bR ⟨_,Y,q,Y,⟨_,É g5⟩,oX (K:=K) (a:=q) (xs:=(ns.map aU).map V.str) (λ D j ys ac H'=>H5 D=W/\aI H5 H'/\H' D=O (.j ys)/\ys=(List.replicate j EA).map V.bl/\∃ u,ac=[u])
   (λ D j ys ac H' p=>É (p.2.1 _ _ g5)) (λ D hD=>⟨hD,È hD,aD,Y,W,Y⟩) ?_ ?_⟩
  rotate_left
  ·rintro D j x ys ac H' hx zQ;let⟨hD,sm,jc,Y,u,Y⟩:=zQ;let hj:=(à.mp hx).1;rw[pk]at hj;rw[Ö,Ö]at hx;let⟨y,hy,Y⟩:=ç.mp hx;let⟨n,hn,Y⟩:=ç.mp hy;let ow:=mx n (Ô hn);show⟨_,Y,aU n,Y,jQ ow.1,by let:=fY ow.1 ow.2;lia,jc,?_,hD,sm.put hD,aD,?_,_,Y⟩
   ·rw[ê,Ê,List.length_replicate];lia
   ·rw[gG ow.1 ow.2,œ,Ñ];rfl
  rintro D ys ac H6 zQ;let⟨hD,s6,jc,Y,_⟩:=zQ;show⟨JJ,D,List.replicate ((ns.map aU).map V.str).length EA,Y,É jc,_,Y,?_⟩;rw[show(List.replicate ((ns.map aU).map V.str).length EA).all id=EA by simp];show bR ?_;let Mh:=s5.trans s6;let g6:=s6 _ _ g5;dsimp only[eD];show⟨_,Y,q,Y,⟨_,É g6⟩,oX (K:=K) (a:=q) (xs:=(ns.map aU).map V.str) (λ D j ys ac H'=>H6 D=W/\aI H6 H'/\H' D=O (.j ys)/\ys=(ns.take j).map V.int/\∃ u,ac=[u])
   (λ D j ys ac H' p=>É (p.2.1 _ _ g6)) (λ D hD=>⟨hD,È hD,aD,Y,W,Y⟩) ?_ ?_⟩
  rotate_left
  ·rintro D j x ys ac H' hx zQ;let⟨hD,sm,jc,Y,u,Y⟩:=zQ;rw[Ö,Ö]at hx;let⟨y,hy,Y⟩:=ç.mp hx;let⟨n,hn,Y⟩:=ç.mp hy;let ow:=mx n (Ô hn);let⟨_,_,hi,h9⟩:=ED (jQ ow.1) (gG ow.1 ow.2);show⟨_,Y,aU n,n,Y,hi,JM,jc,?_,hD,sm.put hD,aD,?_,_,Y⟩
   ·rw[ê,Ê,ô];lia
   ·rw[fL hn,Ñ];rfl
  rintro D2 ys ac H7 zQ;let⟨Du,s7,Bi,Y,_⟩:=zQ;rw[pk,ý]at Bi;show⟨_,Y,Y,_,Y,?_⟩;let Rj:=Mh.trans s7
  by_cases hs:wd="soonest"
  rotate_left
  ·rw[ò (λ z=>hs (V.str.inj z))];show bR (bR ⟨_,Y,_,Y,(sz0 2),λ p7 Gf=>?_⟩);let s8:=È (o:=HO.tup [.o wd,.y D2]) Gf;show k1 (λ z=>hs z.1) p7 D2 _ (Rj.trans s8) (Ï aD) (s8 _ _ Bi)
  ·subst hs;obtain⟨v,m,rfl⟩:∃ v m,ns=[v,m]:=match ns,hc with|[v,m],_=>⟨v,m,rfl⟩
   rw[á rfl];show cH ⟨_,Y,.p ⟨D2,_,1,.u m,Y,Y,É Bi,Y,_,_,Y,Y,_,Y,iN (λ hT=>?_) λ hF=>?_⟩⟩
   ·show⟨(show 1<=100 by decide),k2 ⟨Y,ð hT⟩ _ Rj⟩
   ·show⟨_,Y,_,Y,(sz0 2),λ p7 Gf=>?_⟩;let s8:=È (o:=HO.tup [.o "soonest",.y D2]) Gf;show k1 (λ z=>hF (á z.2)) p7 D2 _ (Rj.trans s8) (Ï aD) (s8 _ _ Bi)
def GY (K:Ç) (C CD cR cM cV cL cY cN Pt:Á):Sp:=λ vs H Q E=>∃(dk dx e:Á) (wd:Str) (ns:List Int) (S:RunS) (L:List RunS) (net:Net) (n:Nat) (fp:List Á),vs=[.y dk,.o (HB wd ns)]/\H dk=O (.ins CD dx [("run",.y e)])/\bP K C H e S fp/\Sd net S L n/\n<=90/\cB H Pt gX pF/\
 wd∈sP/\(∀ n∈ns,0<=n/\n < 10 ^ 9)/\ns.Z=kG wd/\∀ H',dP (Pt::fp) H H'->cB H' Pt gX pF->bP K C H' e (eC S L wd ns).1.1 fp->RT cR cM cV cL cY cN Q E H' (eC S L wd ns).2
def dP.pre  (s:aI H H') (b:dP fp H' tw):dP fp H tw:=λ x o n e=>b x o n (s _ _ e)
def UK (F:Fun K "say" "Desk.say" (bM (aX 95) 1) f fd) (T:Txt mg) (tx:DeskTx2 K CD) (UA:TxtX P w K mg base C ic gx gv gy gz ia Pt aA aN Ao Ee)
  (mh:CalleeR P w K mg base "read_row" ["row"] 3 (J3 K ic) f1 jf):FnOk P w K mg base (iS P w) 10 f fd ["self","row"] (GY K C CD ic gx gv gy gz ia Pt):=by
 show F.okR ["self","row","word","numbers","answer"] λ sc ir A outer s H vs Q E hr h L=>?_
 ·let⟨dk,dx,e,wd,ns,S,Ls,net,n,fp,Y,hi,ra,sd,hn,tab,hw,mx,hc,k⟩:=h;show⟨_,(aE (bF (bZ mh.ok (hr.mono JL) Y mh.mg mh.kp mh.bd .nil (bX L) (a9 (pv 1) aB)) (aV (K:=K) (n:=2) Y Y (aF (gL 2 sc.nd) (aF (gL 3 sc.nd) aQ))))
   (aE (pL 4 sc.nd (U7 UA.dA Y UA.mA (pv 2)))
   (aG (aO (PD UA.hR (hr.mono JL) (bX L) (i:=4) Y (.p Y) (a9 (bY (K:=K) Y (pv 0) Y) (a9 (pv 3) aB))))))),?_⟩
  show⟨_,Y,wd,ns,Y,hw,mx,hc,λ h5 p l H1 s1 qp hl=>?_,λ h5 H1 s1=>?_⟩;rotate_left
  ·let⟨Y,h5⟩:=h5;rw[pB,Å h5]at k;show k H1 s1.butL (tab.same s1) (ra.same s1)
  let⟨f2,ka,hv,_⟩:=UA.fn wd hw;show⟨p,_,Y,qp,Y,_,_,Y,_,_,Y,Y,?_⟩;show⟨_,Y,kS wd,_,Y,hv,?_⟩;show⟨f2,_,Y,⟨wd,hw,hv,Y⟩,_,Y,dk,CD,dx,_,_,Y,s1 _ _ hi,tx.cls,tx.run,Y1,_,Y,?_⟩;show⟨e,l,S,Ls,net,n,fp,ns,Y,ra.same s1,sd,hn,tab.same s1,hl,mx,hc,λ z=>Int.not_lt.mp λ z2=>h5 ⟨z,z2⟩,λ H' b t' oy=>k H' (dP.pre s1 b) t' oy⟩
end
end Tw
namespace L2
open PySem PySem.Spec PyProof.Rows TwZ
section
variable {X:Cx}{gu:List (Á×Obj)}{σ:St}{H:Hp}{s:Â}
def ZX (K:Ç):R2:=λ x y H Q=>∃(a b:Á) (xs:List V),x=.y a/\y=.y b/\bH K H a xs/\bH K H b []/\Q (.bl (decide (xs.Z=0))) H
def PU  (hK:X.K=K) (hu:X.A.R+64 < cLine):jJ X (compareOp .Eq) (ZX K):=by
 subst hK;intro gu s σ H x y v u Q I rx ry h;let⟨a,b,xs,Y,Y,q1,q2,q⟩:=h;ext rx;ext ry;let⟨us,r1,p1,_⟩:=I.tuple q1;let⟨vs,r2,p2,_⟩:=I.tuple q2;let e1:=r1.Z;ext r2;show SeqAt.eq_tupleAt (e:=λ _=>EA) p1 p2 JM (λ j h1 h2=>absurd h2 (Nat.not_lt_zero _)) ⟨.bl _,H,I,Y,?_⟩;rw[show((List.range (min us.toArray.size (#[]:Array À).size)).all (λ _=>EA) && us.toArray.S==(#[]:Array À).size)=decide (xs.Z=0) by rw[e1];ext us <;> rfl];show q
end
end L2
namespace Tw
open PySem L2
def JF:Sp:=λ vs H Q _=>∃ t:Option Int,vs=[oR t]/\DL t/\∀ H',aI H H'->Q (.o (cX t)) H'
def CM (F:Fun K "_law_goal" "_law_goal" (aX 103) f fd) (T:Txt mg) (TS:TxtS mg):FnOk P w K mg base gT 1 f fd ["target"] JF:=by
 show F.ok ["target"] λ sc ir A outer s H vs Q E hr h=>?_
 ·let⟨t,Y,ht,k⟩:=h;show⟨_,(aG (aO (px K (aY (a9 (aP cE Y TS.b_str cK (a9 (pv 0) aB)) (a9 aL aB))) (aP iE Y T.b_int j7 (a9 (fH oC (pv 0) eQ (aW _)) aB))))),?_⟩;cases t with
  |none=>show⟨_,Y,.non,"None",Y,Y,(sz0 2),λ l hl=>⟨_,Y,Y,.x ⟨_,Y,.p ⟨l,_,1,_,Y,Y,É aD,Y,k _ (È hl)⟩⟩⟩⟩
  |some i=>show⟨_,Y,.u i,aU i,Y,dX (ht i Y).1 (ht i Y).2,(sz0 2),λ l hl=>⟨_,Y,Y,.x ⟨_,Y,.p ⟨l,_,0,_,Y,Y,É aD,Y,k _ (È hl)⟩⟩⟩⟩
def AO (K:Ç):Sp:=λ vs H Q _=>∃(x:V) (net:Net),vs=[x]/\Is K H (gE net) x/\NetIn net/\∀ H',aI H H'->Q (.o (sA net)) H'
def UC (o:Option Int×Int):cX o.1 ++ "*" ++ aU o.2=nE o:=by unfold nE;rw[w_s]
def VM (a:Str×Int):a.1 ++ "." ++ aU a.2=jI a:=by unfold jI;rw[w_p]
def CH (F:Fun K "_law_text" "_law_text" (aX 104) f fd) (T:Txt mg) (TS:TxtS mg) (oz:Callee P w K mg base "_law_goal" ["target"] 1 JF f1 jf):FnOk P w K mg base gT 2 f fd ["net"] (AO K):=by
 show F.ok ["net","rows","size","brim","outs","holds","spill","acts","words","target","flow","is_open"] λ sc ir A outer s H vs Q E hr h=>?_
 ·let⟨x,net,Y,hx,hi,k⟩:=h;refine⟨_,(aE (pL 1 sc.nd (aY aB))
   (aE (eE ú Y (dR (K:=K) Y (px K (pv 0) aH)) (aV (K:=K) (n:=6) Y Y (aF (gL 2 sc.nd) (aF (gL 3 sc.nd) (aF (gL 4 sc.nd) (aF (gL 5 sc.nd) (aF (gL 6 sc.nd) (aF (gL 7 sc.nd) aQ))))))) (aE (pL 8 sc.nd (aY (a9 aL (a9 (aP cE Y TS.b_str cK (a9 (pv 2) aB)) (a9 (aP cE Y TS.b_str cK (a9 (pv 3) aB)) (a9 (iV (K:=K) Y ė Ę (fN (K:=K) Y) aL (a9 (hJ (λ _ _ h=>h) Y (LcOk.mk (N':=["out"]) (fr:=[W]) Y trivial Y Y Y Y Y trivial) (dR (K:=K) Y (pv 4)) (λ _ _ _=>(gC 0 ["out"])) (λ _ _ _=>cP) (λ _ _ _=>(bA vB (bA vB (cD oz hr (a9 (px K (pv 0) aH) aB)) aL) (aP cE Y TS.b_str cK (a9 (px K (pv 0) aH) aB))))) aB)) aB))))))
   (aE (pL 8 sc.nd (bA tG (pv 8) (aY (a9 (px K (aY (a9 aL (a9 aL aB))) (aP iE Y T.b_int j7 (a9 (pv 5) aB))) (a9 (cD oz hr (a9 (pv 6) aB)) aB)))))
   (aE (bL (eF (K:=K) Y í ö ø bW (pv 8) (a9 (iV (K:=K) Y ė Ę (fN (K:=K) Y) aL (a9 (hJ (λ _ _ h=>h) Y (LcOk.mk (N':=["word","spout"]) (fr:=[W,W]) Y trivial Y Y Y Y Y trivial) (dR (K:=K) Y (pv 7)) (λ _ _ _=>(aV (K:=K) (n:=2) Y Y (aF (gC 0 ["word","spout"]) (aF (gC 1 ["word","spout"]) aQ)))) (λ _ _ _=>cP) (λ _ _ _=>(bA vB (bA vB (pv 0) aL) (aP cE Y TS.b_str cK (a9 (pv 1) aB))))) aB)) aB)))
   (aE (bK (aR (PU (K:=K) Y hr.R) (pv 7) (bG aB) (aW _)) (aG (bF aL (tF (pv 8) (pR kZ aH) jD))) aS)
   (aG (bL (eF (K:=K) Y í ö ø bW (pv 1) (a9 (iV (K:=K) Y ė Ę (fN (K:=K) Y) aL (a9 (pv 8) aB)) aB)))))))))
   (aE (eE ú Y (dR (K:=K) Y (px K (pv 0) aH)) (aV (K:=K) (n:=3) Y Y (aF (gL 9 sc.nd) (aF (gL 10 sc.nd) (aF (gL 11 sc.nd) aQ)))) (aG (bL (eF (K:=K) Y í ö ø bW (pv 1) (a9 (iV (K:=K) Y ė Ę (fN (K:=K) Y) aL (a9 (aY (a9 aL (a9 (aP cE Y TS.b_str cK (a9 (pv 9) aB)) (a9 (aP cE Y TS.b_str cK (a9 (pv 10) aB)) (a9 (px K (aY (a9 aL (a9 aL aB))) (aP iE Y T.b_int j7 (a9 (pv 11) aB))) aB))))) aB)) aB)))))
   (aG (aO (iV (K:=K) Y ė Ę (fN (K:=K) Y) aL (a9 (pv 1) aB))))))),?_⟩
  let⟨na,nb,nc,xs,ys,Y,qn,q1,l1,q2,l2⟩:=j5 hx;let e1:xs.Z=net.vs.Z:=by rw[l1.Z,Ê]
  let e2:ys.Z=net.sps.Z:=by rw[l2.Z,Ê]
  let v12:=hi.v12;let s12:=hi.s12;refine⟨ß _,λ rl pk=>?_⟩;let s0:=È (o:=HO.lst []) pk;let g0:upd H rl (.j []) rl=O (.j []):=aD;generalize upd H rl (.j [])=H0 at s0 g0 ⊢;dsimp only[cZ,eD];show B2 (λ ac H'=>aI H H'/\H' rl=O (.j ((net.vs.map kY).map V.str))/\∃ v2 v3 v4 v5 v6 v7 v8,ac=[O (.y na),O (.y rl),v2,v3,v4,v5,v6,v7,v8,W,W,W]) (λ D' Gb=>?_) ?_
  ·refine⟨_,Y,.x (.p ⟨na,_,0,_,Y,Y,s0.tup qn,Y,nb,Y,⟨_,s0.tup q1⟩,oY (K:=K) (a:=nb) (xs:=xs) (λ i ac H'=>aI H H'/\H' rl=O (.j (((net.vs.take i).map kY).map V.str))/\∃ v2 v3 v4 v5 v6 v7 v8,ac=[O (.y na),O (.y rl),v2,v3,v4,v5,v6,v7,v8,W,W,W])
    ⟨s0,g0,_,_,_,_,_,_,_,Y⟩ (λ i ac H' _ p=>p.1.tup q1) ?_ ?_⟩)⟩
   rotate_left
   ·rintro ac H1 zQ;let⟨s1,h1,v2,v3,v4,v5,v6,v7,v8,Y⟩:=zQ;rw[e1,ù (Í _)]at h1;show Gb _ _ ⟨s1,h1,_,_,_,_,_,_,_,Y⟩
   rintro i y ac H1 hy zQ;let⟨s1,h1,v2,v3,v4,v5,v6,v7,v8,Y⟩:=zQ;let⟨d,hd,iy⟩:=l1.get' hy;rw[Ö]at hd;let⟨v,hv,Y⟩:=ç.mp hd;let zb:=hi.vs v (Ô hv);let⟨va,o,c,Y,qv,ho,hc⟩:=yW (Ì s1.ts _ _ iy);let⟨oa,os,Y,qo,lo⟩:=ho.un;let⟨ca,cs,Y,qc,lc⟩:=hc.un;let Lr:os.Z=v.outs.Z:=by rw[lo.Z,Ê]
   let Dl:cs.Z=v.acts.Z:=by rw[lc.Z,Ê]
   let o3:=zb.o3;let a3:=zb.a3;refine⟨va,_,Y,qv,Y,_,_,Y,_,_,Y,_,_,Y,_,_,Y,_,_,Y,_,_,Y,Y,?_⟩;dsimp only[cZ,eD];refine⟨_,Y,.u v.S,_,Y,dX zb.s0 zb.s1,_,Y,.u v.brim,_,Y,dX zb.b0 zb.b1,Y,_,Y,oa,Y,⟨_,qo⟩,i9 (K:=K) (a:=oa) (xs:=os) (λ D i r ac H'=>H1 D=W/\aI H1 H'/\H' D=O (.j r)/\r=((v.outs.take i).map nE).map V.str/\∃ u1,ac=[u1])
    (λ D i r ac H' p=>p.2.1.tup qo) (λ D hD=>⟨hD,È hD,aD,Y,W,Y⟩) ?_ ?_⟩
   rotate_left
   ·rintro D j y r ac H2 hy zQ;let⟨hD,sm,jc,Y,u1,Y⟩:=zQ;let⟨t,ht,ta,Y,qt⟩:=rT lo hy;let ti:=zb.os t (Ô ht);let lg:=sE ti.tg;let ln:=fY ti.lo ti.hi;refine⟨_,Y,.x (.p ⟨ta,_,0,_,Y,Y,sm.tup qt,Y,t.1,Y,ti.tg,λ H3 s3=>⟨_,_,Y,Y,(show (cX t.1).length+1<=1000000 by lia),?_⟩⟩)⟩;refine⟨_,Y,.x (.p ⟨ta,_,1,_,Y,Y,(sm.trans s3).tup qt,Y,.u t.2,_,Y,dX ti.lo ti.hi,_,_,Y,Y,?_,?_⟩)⟩
    ·rw[ę];change(cX t.1).length+1+_<=1000000;lia
    ·refine⟨s3 _ _ jc,bB (by rw[Ê,Ê,ô];lia),hD,(sm.trans s3).put hD,aD,?_,_,Y⟩;rw[Ħ,ht,Ñ,Ñ,UC];rfl
   rintro D1 r ac H2 zQ;let⟨Py,s2,uc,Y,_⟩:=zQ;rw[Lr,ù (Í _)]at uc;let ej:Str.join "," (v.outs.map nE)=eG v.outs:=by rw[YY];rfl
   refine⟨",",D1,v.outs.map nE,Y,Y,É uc,jP (B:=19) (λ a ha=>by let⟨o,ho,Y⟩:=Ù.mp ha;show CS (zb.os o ho)) JL (by rw[Ê];lia),(sz0 4),λ wl Bx=>?_⟩;rw[ej];let s3:=È (o:=HO.lst [.o "vessel",.o (aU v.S),.o (aU v.brim),.o (eG v.outs)]) Bx;let g3:upd H2 wl (.j [.o "vessel",.o (aU v.S),.o (aU v.brim),.o (eG v.outs)]) wl=O (.j [.o "vessel",.o (aU v.S),.o (aU v.brim),.o (eG v.outs)]):=aD;let wk:=s2.trans s3;generalize upd H2 wl (.j [.o "vessel",.o (aU v.S),.o (aU v.brim),.o (eG v.outs)])=H3 at s3 g3 wk ⊢;dsimp only [cZ,eD];refine⟨_,Y,(sz0 2),λ l4 yq=>⟨_,Y,.x ⟨_,Y,.p ⟨l4,_,_,.o (fT v.holds),Y,Y,É aD,by cases v.holds <;> rfl,?_⟩⟩⟩⟩;let s4:=wk.trans (È (o:=HO.lst [.o "loses",.o "holds"]) yq);let g4:=È (o:=HO.lst [.o "loses",.o "holds"]) yq _ _ g3;generalize upd H3 l4 (.j [.o "loses",.o "holds"])=H4 at s4 g4 ⊢;refine⟨_,Y,v.spill,Y,zb.sp,λ H5 s5=>⟨(sz0 2),λ l6 Mq=>⟨wl,l6,_,_,Y,Y,È Mq _ _ (s5 _ _ g4),aD,(sz0 6),λ w2 yn=>?_⟩⟩⟩;let s6:=(s4.trans s5).trans ((È (o:=HO.lst [.o (fT v.holds),.o (cX v.spill)]) Mq).trans (È (o:=HO.lst [.o "vessel",.o (aU v.S),.o (aU v.brim),.o (eG v.outs),.o (fT v.holds),.o (cX v.spill)]) yn));let fw:H1 w2=none:=((s4.trans s5).trans (È (o:=HO.lst [.o (fT v.holds),.o (cX v.spill)]) Mq)).free yn;let g6:upd (upd H5 l6 (.j [.o (fT v.holds),.o (cX v.spill)])) w2 (.j [.o "vessel",.o (aU v.S),.o (aU v.brim),.o (eG v.outs),.o (fT v.holds),.o (cX v.spill)]) w2=O (.j [.o "vessel",.o (aU v.S),.o (aU v.brim),.o (eG v.outs),.o (fT v.holds),.o (cX v.spill)]):=aD;dsimp only [cZ,eD];change jG _ _ _ _ (upd (upd H5 l6 (.j [.o (fT v.holds),.o (cX v.spill)])) w2 (.j [.o "vessel",.o (aU v.S),.o (aU v.brim),.o (eG v.outs),.o (fT v.holds),.o (cX v.spill)]));generalize upd (upd H5 l6 (.j [.o (fT v.holds),.o (cX v.spill)])) w2 (.j [.o "vessel",.o (aU v.S),.o (aU v.brim),.o (eG v.outs),.o (fT v.holds),.o (cX v.spill)])=H6 at s6 g6 ⊢;clear s5 Mq yn s4 g4 yq wk g3 s3 s2 uc Py;let nwr:rl≠w2:=aM h1 fw;let Rk:=s6.tup qc;refine⟨_,Y,.p ⟨Y,_,É g6⟩,Y,_,Y,ca,Y,⟨_,Rk⟩,i9 (K:=K) (a:=ca) (xs:=cs) (λ D i r ac H'=>H6 D=W/\aI H6 H'/\H' D=O (.j r)/\r=((v.acts.take i).map jI).map V.str/\∃ u1 u2,ac=[u1,u2])
    (λ D i r ac H' p=>p.2.1.tup Rk) (λ D hD=>⟨hD,È hD,aD,Y,W,W,Y⟩) ?_ ?_⟩
   rotate_left
   ·rintro D j y r ac H7 hy zQ;let⟨hD,sm,jc,Y,u1,u2,Y⟩:=zQ;let⟨t,ht,ta,Y,qt⟩:=sR lc hy;let ti:=zb.as t (Ô ht);let lg:=QK ti;let ln:=fY ti.lo ti.hi;refine⟨ta,_,Y,(s6.trans sm).tup qt,Y,_,_,Y,_,_,Y,Y,?_⟩;refine⟨_,Y,_,_,Y,Y,(show t.1.length+1<=1000000 by lia),_,Y,.u t.2,_,Y,dX ti.lo ti.hi,_,_,Y,Y,?_,?_⟩
    ·rw[ę];change t.1.length+1+_<=1000000;lia
    ·refine⟨jc,bB (by rw[Ê,Ê,ô];lia),hD,sm.put hD,aD,?_,_,_,Y⟩;rw[Ħ,ht,Ñ,Ñ,VM];rfl
   rintro D2 r ac H7 zQ;let⟨Du,s7,ud,Y,_⟩:=zQ;rw[Dl,ù (Í _)]at ud;refine⟨",",D2,v.acts.map jI,Y,Y,É ud,jP (B:=19) (λ a ha=>by let⟨o,ho,Y⟩:=Ù.mp ha;show CU (zb.as o ho)) JL (by rw[Ê];lia),w2,_,_,Y,Y,s7 _ _ g6,bB (show 6<=1000 by decide),?_⟩;let s8:=(s6.trans s7).put (o:=HO.lst [.o "vessel",.o (aU v.S),.o (aU v.brim),.o (eG v.outs),.o (fT v.holds),.o (cX v.spill),.o (Str.join "," (v.acts.map jI))]) fw;let g8:upd H7 w2 (.j [.o "vessel",.o (aU v.S),.o (aU v.brim),.o (eG v.outs),.o (fT v.holds),.o (cX v.spill),.o (Str.join "," (v.acts.map jI))]) w2=O (.j [.o "vessel",.o (aU v.S),.o (aU v.brim),.o (eG v.outs),.o (fT v.holds),.o (cX v.spill),.o (Str.join "," (v.acts.map jI))]):=aD;dsimp only[cZ,eD];change jG _ _ _ _ (upd H7 w2 (.j [.o "vessel",.o (aU v.S),.o (aU v.brim),.o (eG v.outs),.o (fT v.holds),.o (cX v.spill),.o (Str.join "," (v.acts.map jI))]));generalize upd H7 w2 (.j [.o "vessel",.o (aU v.S),.o (aU v.brim),.o (eG v.outs),.o (fT v.holds),.o (cX v.spill),.o (Str.join "," (v.acts.map jI))])=H8 at s8 g8 ⊢;clear s6 g6 Rk s7 ud Du;show B2 (λ ac H'=>aI H1 H'/\H' w2=O (.j ((("vessel":Str)::qS v).map V.str))/\ac=[O (.y na),O (.y rl),O (.u v.S),O (.u v.brim),O (.y oa),O (.bl v.holds),O (oR v.spill),O (.y ca),O (.y w2),W,W,W]) (λ D2' Jw=>?_) ?_
   ·refine⟨_,Y,ß _,λ pt Wt=>⟨_,pt,_,Y,Y,(s8.trans (È Wt)).tup qc,Ï aD,_,Y,?_⟩⟩;rw[Dl,show decide (v.acts.Z=0)=decide (v.acts=[]) by cases v.acts <;> simp];let s9:=È (o:=HO.tup []) Wt;let g9:=s9 _ _ g8;generalize upd H8 pt (.v [])=H9 at s9 g9 ⊢;show iN (λ hT=>?_) λ hT=>?_
    ·let hT:=ð hT;refine⟨_,Y,1,Y,w2,_,-1,6,Y,Y,g9,Y,Jw _ _ ⟨(s8.trans s9).put fw,?_,Y⟩⟩;rw[aD];change O (HO.lst [V.str "vessel",.o (aU v.S),.o (aU v.brim),.o (eG v.outs),.o (fT v.holds),.o (cX v.spill),.o "-"])=_;rw[show qS v=[aU v.S,aU v.brim,eG v.outs,fT v.holds,cX v.spill,gJ v.acts]from rfl,show gJ v.acts="-" from Å hT];rfl
    ·let hT:¬ v.acts=[]:=λ h=>hT (á h);show Jw _ _ ⟨s8.trans s9,?_,Y⟩;rw[g9,show qS v=[aU v.S,aU v.brim,eG v.outs,fT v.holds,cX v.spill,gJ v.acts]from rfl,show gJ v.acts=Str.join (one 44) (v.acts.map jI)from Ä hT,YY];rfl
   rintro ac H9 zQ;let⟨s9,g9,Y⟩:=zQ;let h9:=s9 _ _ h1;let ew:Str.join " " (("vessel":Str)::qS v)=kY v:=by rw[SM];rfl
   refine⟨_,Y,.p ⟨Y,_,É h9⟩,Y,_,Y," ",w2,("vessel":Str)::qS v,Y,Y,É g9,jP (FF zb) JL (show 7 * 60+7<=1000000 by decide),rl,_,_,Y,Y,h9,bB (by rw[Ê,Ê,ô];lia),?_⟩;rw[ew];refine⟨(s1.trans s9).put pk,?_,_,_,_,_,_,_,_,Y⟩;rw[aD,fL hv,Ñ,Ñ];rfl
  rintro ac H1 zQ;let⟨s1,h1,v2,v3,v4,v5,v6,v7,v8,Y⟩:=zQ;show B2 (λ ac H'=>aI H H'/\H' rl=O (.j ((net.vs.map kY++net.sps.map m9).map V.str))/\∃ v2 v3 v4 v5 v6 v7 v8 v9 nk om,ac=[O (.y na),O (.y rl),v2,v3,v4,v5,v6,v7,v8,v9,nk,om]) (λ D' Gb=>?_) ?_
  ·refine⟨_,Y,.x (.p ⟨na,_,1,_,Y,Y,s1.tup qn,Y,nc,Y,⟨_,s1.tup q2⟩,oY (K:=K) (a:=nc) (xs:=ys) (λ i ac H'=>aI H H'/\H' rl=O (.j ((net.vs.map kY++(net.sps.take i).map m9).map V.str))/\∃ v2 v3 v4 v5 v6 v7 v8 v9 nk om,ac=[O (.y na),O (.y rl),v2,v3,v4,v5,v6,v7,v8,v9,nk,om])
    ⟨s1,by rw[h1];simp,_,_,_,_,_,_,_,_,_,_,Y⟩ (λ i ac H' _ p=>p.1.tup q2) ?_ ?_⟩)⟩
   rotate_left
   ·rintro ac H2 zQ;let⟨s2,h2,v2,v3,v4,v5,v6,v7,v8,v9,nk,om,Y⟩:=zQ;rw[e2,ù (Í _)]at h2;show Gb _ _ ⟨s2,h2,_,_,_,_,_,_,_,_,_,_,Y⟩
   rintro i y ac H2 hy zQ;let⟨s2,h2,v2,v3,v4,v5,v6,v7,v8,v9,nk,om,Y⟩:=zQ;let⟨d,hd,iy⟩:=l2.get' hy;rw[Ö]at hd;let⟨sp,hv,Y⟩:=ç.mp hd;let vf:=hi.sps sp (Ô hv);let⟨a,zs,Y,q,lx⟩:=(show Is K H (.v [.u sp.1,.u sp.2.1,.bl sp.2.2]) y from iy).un;let⟨x1,r,Y,j1,lx⟩:=lx.un;let⟨x2,r,Y,j2,lx⟩:=lx.un;let⟨x3,r,Y,j3,lx⟩:=lx.un;let:=lx.un0;subst this;let f1:=j1.ui;let f2:=j2.ui;let f3:=j3.ub;subst f1 f2 f3;refine⟨a,_,Y,s2.tup q,Y,_,_,Y,_,_,Y,_,_,Y,Y,?_⟩;dsimp only[cZ,eD];refine⟨_,Y,.p ⟨Y,_,É h2⟩,Y,_,Y,.u sp.1,_,Y,dX vf.t0 vf.t1,_,Y,.u sp.2.1,_,Y,dX vf.f0 vf.f1,(sz0 2),λ l3 Hj=>?_⟩;refine⟨_,Y,.x ⟨_,Y,.p ⟨l3,_,_,.o (jN sp.2.2),Y,Y,É aD,by cases sp.2.2 <;> rfl,(sz0 4),λ l4 yq=>?_⟩⟩⟩;let s4:=(È (o:=HO.lst [.o "shut",.o "open"]) Hj).trans (È (o:=HO.lst [.o "spout",.o (aU sp.1),.o (aU sp.2.1),.o (jN sp.2.2)]) yq);let g4:upd (upd H2 l3 (.j [.o "shut",.o "open"])) l4 (.j [.o "spout",.o (aU sp.1),.o (aU sp.2.1),.o (jN sp.2.2)]) l4=O (.j ((("spout":Str)::uL sp).map V.str)):=aD;let ew:Str.join " " (("spout":Str)::uL sp)=m9 sp:=by rw[SM];rfl
   refine⟨" ",l4,("spout":Str)::uL sp,Y,Y,É g4,jP (FG vf) JL (show 4 * 60+4<=1000000 by decide),rl,_,_,Y,Y,s4 _ _ h2,bB (by rw[Ê,Ý,Ê,Ê,ô];lia),?_⟩;rw[ew];refine⟨(s2.trans s4).put pk,?_,_,_,_,_,_,_,_,_,_,_,Y⟩;rw[aD,fL hv,Ñ,Ñ,Ñ,Ñ,İ];rfl
  rintro ac H2 zQ;let⟨s2,h2,v2,v3,v4,v5,v6,v7,v8,v9,nk,om,Y⟩:=zQ;let e3:Str.join "\n" (net.vs.map kY++net.sps.map m9)=sA net:=by rw[w_l];rfl
  refine⟨Y,_,Y,"\n",rl,net.vs.map kY++net.sps.map m9,Y,Y,É h2,jP (tL hi) JL (by rw[Ý,Ê,Ê];lia),?_⟩;rw[e3];show k _ s2
section
end
end Tw
namespace HT
open PySem PySem.Spec PyProof.Rows L2
section
end
end HT
namespace L2
open PySem
section
end
end L2
namespace Tw
open PySem L2
end Tw
namespace HT
open PySem PySem.Spec PyProof.Rows L2
section
end
end HT
namespace L2
open PySem PySem.Spec PyProof.Rows
section
end
end L2
namespace Tw
open PySem L2
section
end
section
def gP.l  (h:gP H t sl):∃ q,H t=Option.some (HO.lst q):=by let⟨ns,pos,cell,e,_⟩:=h;show⟨_,e⟩
end
structure MkCalR (P:Ã) (w:World) (K:Ç) (mg:Str->Option À) (base:Heap) (C:Á) (x:Str) (ps:List Str) (k:Nat) (sp:Sp) (f:Á) (fd:FuncData):Prop where
 make:Mk K C f
 ok:FnOk P w K mg base (iS P w) k f fd ps sp
 mg:mg x=O (.y C)
 bd:gW K fd ps []
section
end
def VY (K:Ç):Sp:=λ vs H Q _=>∃ net:Net,vs=[.o (sA net)]/\NetOk net/\NetFull net/\∀ p H',aI H H'->Is K H' (gE net) p->Q p H'
def BW (F:Fun K "read_net" "read_net" (aX 70) f fd) (T:Txt mg) (TS:TxtS mg) (jh:ExC K "NoText" ig) (kh:CalleeR P w K mg base "read_vessel" ["words"] 4 (J4 K ig) f1 jf) (kx:CalleeR P w K mg base "read_spout" ["words"] 3 (JB K ig) f2 ka)
  (qm:Callee P w K mg base "is_net" ["thing"] 4 (AS K) f3 oq) (wu:Callee P w K mg base "net_text" ["net"] 3 (zH K) f4 wg):FnOk P w K mg base (iS P w) 5 f fd ["text"] (VY K):=by
 show F.okR ["text","vessels","spouts","line","word","rest","net"] λ sc ir A outer s H vs Q E hr h L=>?_
 ·let⟨net,Y,nok,pf,k1⟩:=h;let Gg:=FA nok pf;let za:=VJ Gg;let zl:(sA net).length<=100000:=ï (V2 Gg) JL;let Fk:=LX Gg;refine⟨_,(aE (bK (fC (dI (bJ (yB (K:=K) Y) Y T.b_isinstance dH (a9 (pv 0) (a9 (jB (v:=.ty "str") Y TS.b_str cK Y) aB))))) (aG (eY L Y Y jh.exc jh.ns Č (a9 aL aB))) aS)
   (aE (BG (i:=1) (j:=2) Y sc.nd Y Y JL Y Y (a9 (aY aB) (a9 (aY aB) aB)) Y)
   (aE (eE ř Y (gA (K:=K) Y (iV (K:=K) Y ŏ Ő lL (pv 0) (a9 aL aB))) (gL 3 sc.nd) (aE (bF (iV (K:=K) Y ŏ Ő lL (pv 3) (a9 aL aB)) (EM (K:=K) Y Y (aF (gL 4 sc.nd) (EL (gL 5 sc.nd)))))
   (aG (bK (Ď (qE (aR eA (pv 4) aL (aW _)) (mJ (aR eA (zU K T.b_len (pv 5)) aH (aW _))))) (aG (bL (eF (K:=K) Y í ö ø bW (pv 1) (a9 (bZ kh.ok (hr.mono JL) Y kh.mg kh.kp kh.bd .nil (bX L) (a9 (pv 5) aB)) aB)))) (aG (bK (Ď (qE (aR eA (pv 4) aL (aW _)) (mJ (aR eA (zU K T.b_len (pv 5)) aH (aW _))))) (aG (bL (eF (K:=K) Y í ö ø bW (pv 2) (a9 (bZ kx.ok (hr.mono JL) Y kx.mg kx.kp kx.bd .nil (bX L) (a9 (pv 5) aB)) aB)))) (aG (eY L Y Y jh.exc jh.ns Č (a9 aL aB)))))))))
   (aE (pL 6 sc.nd (bG (a9 (aP (dU (K:=K) Y) Y T.b_tuple dY (a9 (pv 1) aB)) (a9 (aP (dU (K:=K) Y) Y T.b_tuple dY (a9 (pv 2) aB)) aB))))
   (aE (bK (Ď (uF (fC (dI (cD qm hr (a9 (pv 6) aB)))) (qD (aR zV (cD wu hr (a9 (pv 6) aB)) (pv 0) (aW _))))) (aG (eY L Y Y jh.exc jh.ns Č (a9 aL aB))) aS)
   (aG (aO (pv 6)))))))),?_⟩
  refine⟨_,Y,_,"str",.o (sA net),Y,JL,.s _,_,Y,bR ?_⟩;generalize hz:sA net=z at za zl Fk ⊢;let Wu:∀ y∈Txt.split z (one 10),pG y/\y.Z<=100000:=λ y hy=>⟨pC za hy,ï (ť hy) zl⟩;let qj:=lF z (one 10) JL;let Mr:OM z=(fQ mE (Txt.split z (one 10))).map λ l=>⟨lQ l,iY l⟩:=rfl;generalize Ix:Txt.split z (one 10)=ls at Wu qj Mr;refine⟨ß _,λ vl Cb=>⟨ß _,λ sl Ef=>⟨_,_,Y,?_⟩⟩⟩;let Rl:vl≠sl:=aM (show upd H vl (.j []) vl=_ from aD) Ef;let fsl:H sl=none:=(È Cb).free Ef;let s1:aI H (upd (upd H vl (.j [])) sl (.j [])):=(È Cb).trans (È Ef);let g1:upd (upd H vl (.j [])) sl (.j []) vl=O (.j []):=by rw[aK Rl];show aD
  let g2:upd (upd H vl (.j [])) sl (.j []) sl=O (.j []):=aD;dsimp only[eD];generalize upd (upd H vl (.j [])) sl (.j [])=H1 at s1 g1 g2 ⊢;refine⟨_,Y,Y,z,"\n",Y,Y,JL,JM,λ lp Dt=>?_⟩;rw[w_l,Ix];let nlv:vl≠lp:=aM g1 Dt;let Rm:sl≠lp:=aM g2 Dt;let s2:aI H (upd H1 lp (.j (ls.map V.str))):=s1.trans (È Dt);let g3:upd H1 lp (.j (ls.map V.str)) lp=O (.j (ls.map V.str)):=aD;let g1:=È (o:=.j (ls.map V.str)) Dt _ _ g1;let g2:=È (o:=.j (ls.map V.str)) Dt _ _ g2;generalize upd H1 lp (.j (ls.map V.str))=H2 at s2 g1 g2 g3 ⊢;refine⟨lp,Y,⟨_,É g3⟩,oJ (K:=K) (a:=lp) (xs:=ls.map V.str) (λ i ac H'=>aI H H'/\H' lp=O (.j (ls.map V.str))/\(∃ rs us ts,fQ mE (ls.take i)=O rs/\(lQ rs).length<=i/\(iY rs).length<=i/\H' vl=O (.j us)/\IsL K H' ((lQ rs).map AH) us/\H' sl=O (.j ts)/\IsL K H' ((iY rs).map SO) ts)/\
   ∃ v3 v4 v5,ac=[O (.o z),O (.y vl),O (.y sl),v3,v4,v5,W]) ⟨s2,g3,⟨[],[],[],Y,Í _,Í _,g1,.nil,g2,.nil⟩,_,_,_,Y⟩ ?_ ?_ ?_⟩
  ·rintro i ac H3 _ zQ;let⟨_,h2,_⟩:=zQ;show É h2
  ·rintro i y ac H3 hy zQ;let⟨s3,Bj,⟨rs,us,ts,er,li,ri,Af,lu,Ag,lt⟩,v3,v4,v5,Y⟩:=zQ;rw[Ö]at hy;let⟨y,wo,Y⟩:=ç.mp hy;let Vg:i < ls.Z:=(à.mp wo).1;let⟨ya,yl⟩:=Wu y (Ô wo);let Qb:us.Z=(lQ rs).length:=by rw[lu.Z,Ê]
   let etl:ts.Z=(iY rs).length:=by rw[lt.Z,Ê]
   let Dv:∀ u∈Txt.split y (one 32),pG u/\u.Z<=100000:=λ u hu=>⟨pC ya hu,ï (ť hu) yl⟩;let Bx:=lF y (one 32) JL;let uq:=O4 y 32;let re:mE y=match Txt.split y (one 32)with
    |[]=>W
    |w::r=>if w="vessel" /\ r.Z=6 then(zT r).map Sum.inl else if w="spout" /\ r.Z=3 then(EC r).map Sum.inr else none:=rfl
   dsimp only[cZ];refine⟨_,Y,Y,y," ",Y,Y,JL,JM,λ p hp=>?_⟩;rw[SM];generalize Txt.split y (one 32)=ws at Dv Bx uq re ⊢;let⟨wd,r,Y⟩:=aek uq;simp only at re;let s4:=È (o:=HO.lst ((wd::r).map V.str)) hp;let g4:upd H3 p (.j ((wd::r).map V.str)) p=O (.j (.o wd::r.map V.str)):=aD;let Eg:=s3.trans s4;let Eh:=s4 _ _ Bj;let Ei:=s4 _ _ Af;let ww:=s4 _ _ Ag;let Ej:=Ò s4.ts _ _ lu;let El:=Ò s4.ts _ _ lt;generalize upd H3 p (.j ((wd::r).map V.str))=H4 at s4 g4 Eg Eh Ei ww Ej El ⊢;clear s4 s3 Bj Af Ag lu lt hp;refine⟨p,.o wd,r.map V.str,Y,É g4,by rw[Ê];simp at Bx;lia,λ q hq=>⟨_,_,Y,_,_,Y,Y,?_⟩⟩;let s5:=È (o:=HO.lst (r.map V.str)) hq;let g5:upd H4 q (.j (r.map V.str)) q=O (.j (r.map V.str)):=aD;let Jx:=Eg.trans s5;let Em:=s5 _ _ Eh;let Bk:=s5 _ _ Ei;let Bl:=s5 _ _ ww;let Ro:=Ò s5.ts _ _ Ej;let Fy:=Ò s5.ts _ _ El;dsimp only[eD];generalize upd H4 q (.j (r.map V.str))=H5 at s5 g5 Jx Em Bk Bl Ro Fy ⊢;clear s5 Eg Eh Ei ww Ej El hq g4;let bad:mE y=W->False:=λ hn=>by rw[Mr,mG hn (Ô wo)]at Fk;cases Fk
   let Rp:∀ x∈r,pG x/\x.Z<=100000:=λ x hx=>Dv x (Õ _ hx);show NX Y Y g5 ?_;show iN (λ hT=>?_) λ hT=>?_
   ·
    let hT:=ð hT;rw[Ê]at hT;let hr:r.Z=6:=by let:=hT.2;lia
    rw[Å ⟨hT.1,hr⟩]at re;refine⟨_,Y,.p ⟨Y,_,É Bk⟩,_,Y,q,r,Y,g5,hr,Rp,λ v pv H6 ev s6 iv=>?_,λ hn H6 s6=>(bad (by rw[re,hn];rfl)).elim⟩;let Jy:=s6 _ _ Bk;refine⟨vl,us,_,Y,Y,Jy,iH JM,?_⟩;let b7:cI vl H6 (upd H6 vl (.j (us++[pv]))):=Û;let rq:=b7.ts (K:=K) (by rw[Jy];show trivial);refine⟨(Jx.trans s6).put Cb,b7 _ _ (Ne.symm nlv) (s6 _ _ Em),⟨rs++[.p v],us++[pv],ts,?_,?_,?_,aD,?_,b7 _ _ (Ne.symm Rl) (s6 _ _ Bl),?_⟩,_,_,_,Y⟩
    ·rw[fL wo];show mF er (by rw[re,ev];rfl)
    ·rw[lP,Ý];change _+1<=_;lia
    ·rw[jX,Ý];change _+0<=_;lia
    ·rw[lP,Ñ];show ď (Ì rq _ _ iv) (Ò (s6.ts.trans rq) _ _ Ro)
    ·rw[jX,Ñ];change IsL K _ (_++[]) _;rw[þ];show Ò (s6.ts.trans rq) _ _ Fy
   let hT:¬ (wd="vessel" /\ r.Z=6):=λ h=>hT (á ⟨h.1,by rw[Ê];lia⟩);rw[Ä hT]at re;show NX Y Y g5 ?_;show iN (λ hS=>?_) λ hS=>?_
   ·
    let hS:=ð hS;rw[Ê]at hS;let hr:r.Z=3:=by let:=hS.2;lia
    rw[Å ⟨hS.1,hr⟩]at re;let⟨x1,x2,x3,Y⟩:=len3 hr;let⟨a1,n1⟩:=Rp x1 JN;let⟨a2,n2⟩:=Rp x2 JN;refine⟨_,Y,.p ⟨Y,_,É Bl⟩,_,Y,q,x1,x2,x3,Y,g5,a1,a2,JM,JM,λ v pv H6 ev s6 iv=>?_,λ hn=>(bad (by rw[re,hn];rfl)).elim⟩;let Jz:=s6 _ _ Bl;refine⟨sl,ts,_,Y,Y,Jz,iH JM,?_⟩;let b7:cI sl H6 (upd H6 sl (.j (ts++[pv]))):=Û;let rq:=b7.ts (K:=K) (by rw[Jz];show trivial);refine⟨(Jx.trans s6).put fsl,b7 _ _ (Ne.symm Rm) (s6 _ _ Em),⟨rs++[.x v],us,ts++[pv],?_,?_,?_,b7 _ _ Rl (s6 _ _ Bk),?_,aD,?_⟩,_,_,_,Y⟩
    ·rw[fL wo];show mF er (by rw[re,ev];rfl)
    ·rw[lP,Ý];change _+0<=_;lia
    ·rw[jX,Ý];change _+1<=_;lia
    ·rw[lP,Ñ];change IsL K _ (_++[]) _;rw[þ];show Ò (s6.ts.trans rq) _ _ Ro
    ·rw[jX,Ñ];show ď (Ì rq _ _ iv) (Ò (s6.ts.trans rq) _ _ Fy)
   let hS:¬ (wd="spout" /\ r.Z=3):=λ h=>hS (á ⟨h.1,by rw[Ê];lia⟩);rw[Ä hS]at re;show(bad re).elim
  ·rintro ac H3 zQ;let⟨s3,Bj,⟨rs,us,ts,er,li,ri,Af,lu,Ag,lt⟩,v3,v4,v5,Y⟩:=zQ;rw[Ê,ù (Í _)]at er;rw[er]at Mr;let sv:(⟨lQ rs,iY rs⟩:Net)=net:=by rw[Mr]at Fk;show ñ Fk
   refine⟨_,Y,vl,us,Y,.p ⟨É Af,λ pa Ms=>?_⟩⟩;let s4:=È (o:=HO.tup us) Ms;let q4:bH K (upd H3 pa (.v us)) pa us:=Ï aD;let ww:=s4 _ _ Ag;let Ej:=Ò s4.ts _ _ lu;let El:=Ò s4.ts _ _ lt;let Eg:=s3.trans s4;generalize upd H3 pa (.v us)=H4 at s4 q4 ww Ej El Eg ⊢;refine⟨_,Y,sl,ts,Y,.p ⟨É ww,λ pb Mt=>⟨(sz0 2),λ pn Wv=>?_⟩⟩⟩;let s5:=(È (o:=HO.tup ts) Mt).trans (È (o:=HO.tup [.y pa,.y pb]) Wv);let q5:bH K (upd (upd H4 pb (.v ts)) pn (.v [.y pa,.y pb])) pb ts:=(È Wv).tup (Ï aD);let q6:bH K (upd (upd H4 pb (.v ts)) pn (.v [.y pa,.y pb])) pn [.y pa,.y pb]:=Ï aD;generalize upd (upd H4 pb (.v ts)) pn (.v [.y pa,.y pb])=H5 at s5 q5 q6 ⊢;let Jx:=Eg.trans s5;let En:Is K H5 (gE net) (.y pn):=by
    rw[<- sv];show Ú q6 (.B (Ú (s5.tup q4) (Ò s5.ts _ _ Ej)) (.B (Ú q5 (Ò s5.ts _ _ El)) .nil))
   clear s3 Bj Af lu Ag lt s4 q4 ww Ej El Eg s5 q5 q6;dsimp only[eD];refine⟨_,Y,_,net,Y,En,nok,pf,λ H6 s6=>⟨_,Y,bR ?_⟩⟩;refine⟨_,Y,_,net,Y,Ì s6.ts _ _ En,Gg,λ H7 s7=>⟨_,Y,Y,_,Y,?_⟩⟩;rw[hz,á rfl];show bR ⟨_,Y,k1 _ _ ((Jx.trans s6).trans s7) (Ì (s6.trans s7).ts _ _ En)⟩
section
variable {CD:Á}
def qY (K:Ç) (C CD:Á):Sp:=λ vs H Q _=>∃(r dx:Á) (net:Net),vs=[.y r,.o (sA net)]/\H r=O (.ins CD dx [])/\NetOk net/\NetFull net/\
 ∀ e fp H',H e=W->e≠r->(∀ b∈fp,H b=W)->cI r H H'->H' r=O (.ins CD dx [("run",.y e)])->bP K C H' e (qA net) fp->Q .non H'
def MC (F:Fun K "__init__" "Desk.__init__" (bM (aX 95) 0) f fd) (T:Txt mg) (tx:DeskTx2 K CD)
  (mj:CalleeR P w K mg base "read_net" ["text"] 5 (VY K) f1 jf) (oo:MkCal P w K mg base C "Run" ["self","net"] 5 (AT K C) f2 ka) :
  FnOk P w K mg base (iS P w) 7 f fd ["self","text"] (qY K C CD):=by
 show F.okR ["self","text"] λ sc ir A outer s H vs Q E hr h L=>?_
 ·let⟨r,dx,net,Y,hi,ok,fu,k⟩:=h;show⟨_,(aG (rS (K:=K) Y (pv 0) (BN oo.make oo.ok (hr.mono JL) Y oo.mg oo.bd .nil jY (a9 (bZ mj.ok (hr.mono JL) Y mj.mg mj.kp mj.bd .nil (bX L) (a9 (pv 1) aB)) aB)) Y)),?_⟩;show⟨_,Y,net,Y,ok,fu,λ p H1 s1 ip=>?_⟩;intro r2 Ka Ge Rq uu;let s2:aI H1 (upd (upd H1 Ka (.own r2)) r2 (.ins C Ka [])):=λ b o e=>by rw[aK (aM e Ge),aK (aM e Rq)];show e
  let Gh:=s1 _ _ hi;let nr:r≠r2:=aM Gh Ge;let Ds:=s2 _ _ Gh;let Ww:H r2=none:=s1.free Ge;show⟨r2,Ka,p,net,Y,aD,Ì s2.ts _ _ ip,ok,fu,λ fp H3 Rr b3 ra=>?_⟩;let Wx:=b3 _ _ nr Ds;let Wy:∀ b∈fp,H b=none:=λ b hb=>(s1.trans s2).free (Rr b hb);let Dc:r∉fp:=λ z=>by rw[Wy r z]at hi;cases hi
  let mu:lX (H3 r):=by rw[Wx];show trivial
  show⟨Y,_,Y,r,CD,dx,[],Y,Wx,tx.cls,tx.run,JL,?_⟩;let bb:cI r H (upd H3 r (.ins CD dx [("run",.y r2)])):=by
   intro b o hb e;rw[aK hb];show b3 _ _ (λ z=>by rw[z,Ww]at e;ext e) (s2 _ _ (s1 _ _ e))
  show k r2 fp _ Ww nr.symm Wy bb aD (ra.but Û mu nr Dc)
def uV (K:Ç) (H:Hp):Ans->V->Prop
 |.told z,v=>v=.o z
 |.no wr,v=>∃ p,v=.y p/\bH K H p [.o wr]
end
end Tw
namespace L2
open PySem PySem.Spec PyProof.Rows TwZ
section
end
end L2
namespace Tw
open PySem L2
section
end
section
end
def bI (b:Bool):Int:=if b then 1 else 0
def two {ag:Type} (f:Bool->ag):List ag:=[f JJ,f EA]
def put {ag:Type} (f:Bool->ag) (b:Bool) (x:ag):Bool->ag:=λ c=>if c=b then x else f c
def oA {ag:Type}{f:Bool->ag}{x:ag}:put f b x b=x:=Å rfl
def wP {ag:Type}{f:Bool->ag}{x:ag} (h:c≠b):put f b x c=f c:=Ä h
def pA (f:Bool->V) (b:Bool):KU (two f) (bI b)=O (f b):=by ext b <;> rfl
def WN  (h0:0<=n) (h1:n < 2):∃ b,n=bI b:=by
 rcases (show n=0\/n=1 by lia)with rfl|rfl
 ·show⟨JJ,Y⟩
 ·show⟨EA,Y⟩
def Q8  (h:c≠b):c= !b:=by ext b <;> ext c <;> simp_all
section
end
section
def Y2  (xi:KK fr σ=[W]) (hl:H nl=O (.j [x,y]))
  (k:∀ D,H D=W->te [O x] (upd H D (.j [])) λ y0 H5=>H5 D=O (.j [])/\0 < sizeLine/\bC K (upd H5 D (.j [y0])) nl [x,y]/\([O x]:St)=[O x]/\
   te [O y] (upd H5 D (.j [y0])) λ y1 H6=>H6 D=O (.j [y0])/\1 < sizeLine/\bC K (upd H6 D (.j [y0,y1])) nl [x,y]/\Q D (upd H6 D (.j [y0,y1]))) :
  lA (WS K nl) (cZ 0) GN te fr σ H Q:=by
 show oX (K:=K) (a:=nl) (xs:=[x,y]) (λ D i ys ac H'=>bC K H' nl [x,y]/\match i with
   |0=>H D=W/\ys=[]/\ac=[W]/\H'=upd H D (.j [])
   |1=>ac=[O x]/\te [O y] H' λ y1 H6=>H6 D=O (.j ys)/\ys.Z < sizeLine/\bC K (upd H6 D (.j (ys++[y1]))) nl [x,y]/\Q D (upd H6 D (.j (ys++[y1])))
   |_=>Q D H') (λ _ _ _ _ _ p=>p.1) ?_ ?_ ?_
 ·intro D hD;show⟨É (È hD _ _ hl),hD,Y,xi,Y⟩
 ·rintro D ys ac H' ⟨_,q⟩;show q
 ·rintro D i z ys ac H' hz ⟨q,p⟩;rcases i with _|_|i
  ·let⟨hD,Y,Y,Y⟩:=p;ext hz;show gN ?_;show k D hD
  ·let⟨Y,p⟩:=p;ext hz;show gN ?_;show p
  ·cases hz
end
def Gr (H H':Hp):Prop:=∀ x o,H x=O o->∃ o',H' x=O o'
def Gr.refl (H:Hp):Gr H H:=λ x o e=>⟨o,e⟩
def Gr.trans  (a:Gr H H1) (b:Gr H1 H2):Gr H H2:=λ x o e=>by let⟨o',e'⟩:=a x o e;show b x o' e'
def Gr.of  (s:aI H H'):Gr H H':=λ x o e=>⟨o,s x o e⟩
def Gr.upd :Gr H (upd H a o):=λ x o' e=>by
 by_cases z:x=a
 ·subst z;show⟨o,aD⟩
 ·show⟨o',by rw[aK z];show e⟩
def Gr.free  (s:Gr H H') (h:H' x=W):H x=none:=by
 cases q:H x with
 |none=>rfl
 |some o=>let⟨o',e⟩:=s x o q;rw[h]at e;cases e
structure Fr (H0 H:Hp) (G:List (List Á)):Prop where
 sm:Gr H0 H
 nw:∀ g∈G,∀ x∈g,H0 x=W/\∃ o,H x=O o
 dj:G.Pairwise λ a b=>∀ x∈a,x∉b
def Fr.nil (H:Hp):Fr H H []:=⟨Gr.refl H,λ g h=>(nomatch h),.nil⟩
def Fr.same {G:List (List Á)} (f:Fr H0 H G) (s:Gr H H'):Fr H0 H' G:=⟨f.sm.trans s,λ g hg x hx=>⟨(f.nw g hg x hx).1,by let⟨o,e⟩:=(f.nw g hg x hx).2;show s _ _ e⟩,f.dj⟩
def Fr.add {G:List (List Á)} (f:Fr H0 H G) (s:Gr H H') (hg:∀ x∈g,H x=W/\∃ o,H' x=O o):Fr H0 H' (g::G):=by
 show⟨f.sm.trans s,λ a ha x hx=>?_,.B (λ b hb x hx Mu=>?_) f.dj⟩
 ·rcases Ð.1 ha with rfl|ha
  ·show⟨f.sm.free (hg x hx).1,(hg x hx).2⟩
  ·show(f.same s).nw a ha x hx
 ·let⟨o,e⟩:=(f.nw b hb x Mu).2;rw[(hg x hx).1]at e;cases e
def Fr.old {G:List (List Á)} (f:Fr H0 H G) (hx:H0 x=O o) (hg:g∈G):x∉g:=λ z=>by
 rw[(f.nw g hg x z).1]at hx;cases hx
theorem OV {ag:Type}{R:ag->ag->Prop}:∀ {G:List ag}{i j:Nat}{a b:ag},G.Pairwise R->i < j->G[i]?=O a->G[j]?=O b->R a b
 |[],i,j,a,b,_,_,h,_=>by simp at h
 |c::G,0,j+1,a,b,.cons hc _,_,h1,h2=>by
  let:c=a:=by simpa using h1
  subst this;show hc b (Ô (show G[j]?=O b from by simpa using h2))
 |c::G,i+1,j+1,a,b,.cons _ hp,Ff,h1,h2=>OV (i:=i) (j:=j) hp JM (by simpa using h1) (by simpa using h2)
def Fr.at {G:List (List Á)}{i j:Nat} (f:Fr H0 H G) (Ff:i≠j) (h1:G[i]?=O a) (h2:G[j]?=O b):∀ x∈a,x∉b:=by
 intro x hx Mu;rcases Nat.lt_or_gt_of_ne Ff with h|h
 ·show OV f.dj h h1 h2 x hx Mu
 ·show OV f.dj h h2 h1 x Mu hx
def sel {ag:Type} (a b:ag):Bool->ag:=λ c=>if c then b else a
section
end
section
end
def S1 (a:V) (l:List V):tQ (a::l) (O 1) W=l:=by
 let h:=HT.sIx_nat 1 (a::l).length;unfold tQ;rw[HT.sIx_none,show(1:Int)=((1:Nat):Int)from rfl,HT.sIx_nat,æ,ń JM,List.drop_succ_cons,List.drop_zero,ù JM]
def Fr.trans  (a:Fr H0 H1 G1) (b:Fr H1 H2 G2):Fr H0 H2 (G2++G1):=by
 show⟨a.sm.trans b.sm,λ g hg x hx=>?_,?_⟩
 ·rcases ë.1 hg with h|h
  ·show⟨a.sm.free (b.nw g h x hx).1,(b.nw g h x hx).2⟩
  ·let⟨n,o,e⟩:=a.nw g h x hx;show⟨n,b.sm x o e⟩
 ·rw[List.pairwise_append];show⟨b.dj,a.dj,λ g hg g' hg' x hx xt=>?_⟩;let⟨o,e⟩:=(a.nw g' hg' x xt).2;rw[(b.nw g hg x hx).1]at e;cases e
def QL  (A:Bool->V->List Á->Hp->Prop) (xi:KK fr σ=[W]) (hl:H nl=O (.j (two p)))
  (ke:∀(b:Bool) (U:Hp) (Q1:VK),aI H U->(∀ w g U',aI U U'->(∀ x∈g,U x=W/\∃ o,U' x=O o)->A b w g U'->Q1 w U')->te [O (p b)] U Q1)
  (hA:∀ b w g U U' D xs,A b w g U->cI D U U'->U D=O (.j xs)->D∉g->A b w g U')
  (k:∀(D:Á) (y:Bool->V) (g:Bool->List Á) (H':Hp),H D=W->H' D=O (.j (two y))->aI H H'->(∀ b,A b (y b) (g b) H')->Fr H H' [g EA,g JJ,[D]]->Q D H') :
  lA (WS K nl) (cZ 0) GN te fr σ H Q:=by
 show Y2 (x:=p JJ) (y:=p EA) xi hl λ D hD=>?_;let sU:=È (o:=HO.lst []) hD;let gU:upd H D (.j []) D=O (.j []):=aD;let F0:=(Fr.nil H).add (g:=[D]) (Gr.of sU) (λ x hx=>by let:=ã.1 hx;subst this;show⟨hD,_,gU⟩);generalize upd H D (.j [])=U at sU gU F0;show ke JJ _ _ sU λ y0 g0 H5 s5 n0 a0=>?_;let g5:=s5 _ _ gU;let Rs:D∉g0:=λ z=>by rw[(n0 D z).1]at gU;cases gU
 let Mv:aI H (upd H5 D (.j [y0])):=(sU.trans s5).put hD;let Gi:upd H5 D (.j [y0]) D=O (.j [y0]):=aD;let Wz:=hA _ _ _ _ _ D _ a0 (Û (o:=HO.lst [y0])) g5 Rs;let F1:=F0.add (g:=g0) ((Gr.of s5).trans (Gr.upd (a:=D) (o:=HO.lst [y0]))) (λ x hx=>⟨(n0 x hx).1,by
  let⟨o,e⟩:=(n0 x hx).2;show Gr.upd x o e⟩)
 show⟨g5,JL,É (Mv _ _ hl),Y,?_⟩;generalize upd H5 D (.j [y0])=U1 at Mv Gi Wz F1 ⊢;show ke EA _ _ Mv λ y1 g1 H6 s6 n1 a1=>?_;let g6:=s6 _ _ Gi;let nD1:D∉g1:=λ z=>by rw[(n1 D z).1]at Gi;cases Gi
 let Xa:aI H (upd H6 D (.j [y0,y1])):=(Mv.trans s6).put hD;let g5x:=Gi;let Rt:=hA _ _ _ _ _ D _ (hA _ _ _ _ H6 D _ Wz s6.but Gi Rs) (Û (o:=HO.lst [y0,y1])) g6 Rs;let Ru:=hA _ _ _ _ _ D _ a1 (Û (o:=HO.lst [y0,y1])) g6 nD1;let F2:=F1.add (g:=g1) ((Gr.of s6).trans (Gr.upd (a:=D) (o:=HO.lst [y0,y1]))) (λ x hx=>⟨(n1 x hx).1,by
  let⟨o,e⟩:=(n1 x hx).2;show Gr.upd x o e⟩)
 show⟨g6,JL,É (Xa _ _ hl),k D (sel y0 y1) (sel g0 g1) _ hD aD Xa (λ b=>?_) F2⟩;cases b with
 |false=>show Rt
 |true=>show Ru
def uV.ne {Q:V->Hp->Prop} (h:uV K H a x) (h':uV K H a y) (k:Q (.bl JJ) H):rNe x y H Q\/BE K x y H Q:=by
 cases a with
 |told z=>rw[show x=.o z from h,show y=.o z from h'];show .p ⟨by simp[XC],by simpa using k⟩
 |no w=>let⟨p,Y,q⟩:=h;let⟨p',Y,q'⟩:=h';show .x ⟨[.o w],JN,by simp[dF,D.depth],Ú q (.B (.s _) .nil),Ú q' (.B (.s _) .nil),k⟩
def uV.same  (h:uV K H a v) (s:aI H H'):uV K H' a v:=by
 cases a with
 |told z=>show h
 |no w=>let⟨p,e,q⟩:=h;show⟨p,e,s.tup q⟩
def uV.butL {L:List Á} (h:uV K H a v) (ts:bU K H H'):uV K H' a v:=by
 cases a with
 |told z=>show h
 |no w=>let⟨p,e,q⟩:=h;show⟨p,e,ts p _ q⟩
def skB {ag:Type}{A:Bool->ag->Prop} (h:∀ b,∃ x,A b x):∃ f:Bool->ag,∀ b,A b (f b):=by
 let⟨x,hx⟩:=h JJ;let⟨y,hy⟩:=h EA;show⟨sel x y,λ b=>by ext b;show hx;show hy⟩
def OW {ag:Type} (f:Bool->ag) (b:Bool):put f b (f b)=f:=funext λ c=>by
 by_cases h:c=b
 ·subst h;rw[oA]
 ·rw[wP h]
section
variable {CD:Á}
def UX  (hx:Is K U (gE net) x) (nok:NetOk net) (pf:NetFull net)
  (k:∀ dk dx e fp H5,aI U H5->(∀ b∈fp,U b=W)->H5 dk=O (.ins CD dx [("run",.y e)])->bP K C H5 e (qA net) fp->Q (.y dk) H5):VU CD (qY K C CD) [] E0 (dJ (qU (AO K) [] E0 (dJ (eB 0) jC)) jC) [O x] U Q:=by
 let Gg:=FA nok pf;show⟨_,Y,x,net,Y,hx,Gg,λ H1 s1=>λ r dx hr Rv ndx=>?_⟩;let m1:aI H1 (upd (upd H1 dx (.own r)) r (.ins CD dx [])):=λ b o e=>by
  rw[aK (aM e hr),aK (aM e Rv)];show e
 show⟨r,dx,net,Y,aD,nok,pf,λ e fp H' he ner hf bt hi ra=>⟨Y,?_⟩⟩;let s2:aI H1 H':=λ b o q=>bt b o (aM q hr) (m1 b o q);show k r dx e fp H' (s1.trans s2) (λ b hb=>(s1.trans m1).free (hf b hb)) hi ra
end
def Z3:List Str:=["row","vessel","much","long","many","nothing"]
def KW {w:Str} (h:(eC S L w l).2=.no wr):wr∈Z3:=by
 let mem:∀ {x y:Str},Ans.no x=Ans.no y->x∈Z3->y∈Z3:=λ e h=>Ans.no.inj e ▸ h;unfold eC at h
 split at h
 ·match L,h with
  |[],h=>show mem h JK
 split at h
 ·let h:qB S.net=.no wr:=h;unfold qB at h
  split at h
  ·cases h
  ·show mem h JK
 split at h
 ·let h:m7 S.net (l.getD 0 0)=.no wr:=h;unfold m7 at h
  split at h
  ·split at h
   ·cases h
   ·cases h
   ·show mem h JK
  ·show mem h JK
 split at h
 ·let h:(if 5 < l.getD 1 0 then Ans.no "row" else tW S.net (l.getD 0 0) (l.getD 1 0))=.no wr:=h;unfold tW at h
  split at h
  ·show mem h JK
  split at h
  ·split at h
   ·cases h
   ·show mem h JK
   ·cases h
  ·show mem h JK
 ·rcases yE (S':=(iT S w l).1) (Prod.ext rfl h)with rfl|rfl|rfl <;> decide +kernel
section
variable {CD Pt:Á}
def SG (K:Ç) (ik im gv gy gz gx ia ig ic:Á):Prop:=∀ wr∈Z3,PySem.W.exmOne K (.y (D8 ic gx gv gy gz ia wr)) (.y ik)=O EA/\
 ∃(bs:List Bool) (j:Nat),KindOf K im gv gy gz gx ia ig ic (D8 ic gx gv gy gz ia wr) bs/\bs.countP id=1/\bs[j]?=O EA/\(∀(i:Nat) (b:Bool),i < j->bs[i]?=O b->b=JJ)/\NN[j]?=O wr
def J1 (K:Ç) (C CD Pt:Á):Sp:=λ vs H Q _=>∃(dk dx e:Á) (wd:Str) (ns:List Int) (S:RunS) (L:List RunS) (net:Net) (n:Nat) (fp:List Á),vs=[.y dk,.o (HB wd ns)]/\H dk=O (.ins CD dx [("run",.y e)])/\bP K C H e S fp/\Sd net S L n/\n<=90/\cB H Pt gX pF/\
 wd∈sP/\(∀ n∈ns,0<=n/\n < 10 ^ 9)/\ns.Z=kG wd/\∀ v H',dP (Pt::fp) H H'->cB H' Pt gX pF->bP K C H' e (eC S L wd ns).1.1 fp->uV K H' (eC S L wd ns).2 v->Q v H'
def dP.step  (b:dP fp H H') (s:aI H' tw):dP fp H tw:=λ x o n e=>s _ _ (b x o n e)
def yQ (F:Fun K "_law_said" "_law_said" (aX 105) f fd) (T:Txt mg) (E9:TxtW mg ik im gv gy gz gx ia ig ic)
  (KX:SG K ik im gv gy gz gx ia ig ic)
  (jq:MCalR P w K mg base CD "say" ["self","row"] 10 (GY K C CD ic gx gv gy gz ia Pt) f1 jf)
  (ni:Callee P w K mg base "_law_word" ["error"] 1 (GU K im gv gy gz gx ia ig ic) f2 ka) :
  FnOk P w K mg base gT 11 f fd ["desk","row"] (J1 K C CD Pt):=by
 show F.ok ["desk","row","error","found","e"] λ sc ir A outer s H vs Q E hr h=>?_
 ·let⟨dk,dx,e,wd,ns,S,Ls,net,n,fp,Y,hi,ra,sd,hn,tab,hw,mx,hc,k⟩:=h;refine_lift let EX:XK:=λ cls _ H'=>∃ wr:Str,(eC S Ls wd ns).2=.no wr/\cls=.y (D8 ic gx gv gy gz ia wr)/\dP (Pt::fp) H H'/\cB H' Pt gX pF/\bP K C H' e (eC S Ls wd ns).1.1 fp;?_;show⟨_,(aE (pL 2 sc.nd eQ)
   (aE (pL 3 sc.nd eQ)
   (aE (P0 (EX:=EX) Y Y (λ pn xe hx=>(aG (pL 3 sc.nd (kU (pv 0) jq.cls jq.mt jq.ok (hr.mono JL) jq.bd .nil hx (a9 (pv 1) aB))))) Y E9.m_TipError sc.nd (i:=4) Y Y (λ ea=>(aG (pL 2 sc.nd (pv 4)))))
   (aE (bK (aR oC (pv 2) eQ (aW _)) (aG (aO (pv 3))) aS)
   (aG (aO (cD ni hr (a9 (pv 2) aB)))))))),?_⟩
  dsimp only[jG,pD,cZ,tC];show⟨?_,?_⟩
  ·show⟨_,Y,dk,dx,_,Y,hi,Y,_,Y,dk,dx,e,wd,ns,S,Ls,net,n,fp,Y,hi,ra,sd,hn,tab,hw,mx,hc,λ H1 b1 t1 Gj=>?_⟩;cases ha:(eC S Ls wd ns).2 with
   |told z=>
    show⟨_,Y,Y,_,Y,cH ⟨_,Y,k _ H1 b1 t1 Gj ?_⟩⟩;rw[ha];show Y
   |no wr=>show⟨wr,ha,Y,b1,t1,Gj⟩
  ·rintro cls H' ea ac ⟨wr,ha,rfl,b1,t1,Gj⟩ io yw;obtain⟨u0,u1,u2,u3,u4,rfl⟩:∃ u0 u1 u2 u3 u4,ac=[u0,u1,u2,u3,u4]:=by
    match ac,io with
    |[u0,u1,u2,u3,u4],_=>show⟨_,_,_,_,_,Y⟩
   let⟨hm,bs,j,kd,c1,c2,c3,c4⟩:=KX wr (KW ha);let s1:=È (o:=IL ea (.y (D8 ic gx gv gy gz ia wr))) yw;show⟨hm,⟨_,Y,?_⟩⟩;show⟨_,Y,Y,_,Y,bR ?_⟩;show⟨_,Y,ea,_,bs,j,wr,Y,aD,kd,c1,c2,c3,c4,λ p H2 s2 qp=>?_⟩;show k _ H2 (dP.step b1 (s1.trans s2)) (t1.same (s1.trans s2)) (Gj.same (s1.trans s2)) ?_;rw[ha];show⟨p,Y,qp⟩
def IU:List Str:=["round","stuck","soonest","back","tips"]
def FQ (K:Ç) (H:Hp) (wd z:Str) (fv:V):Prop:=
 (wd="back" /\ fv=.non/\z="ok")\/(wd="soonest" /\ ∃ a b,fv=.y a/\((bH K H a [.o "tips",.y b]/\∃ row:List Int,H b=O (.j (row.map V.int))/\(∀ x∈row,0<=x/\x < 10 ^ 9)/\row.Z<=90000/\z=iB row)\/(bH K H a [.o "never",.y b]/\z="never")))\/
 ((wd="round" \/ wd="stuck" \/ wd="tips")/\((fv=.non/\z="none")\/∃(t:Bool) (a:Á) (ns:List Int),fv=.y a/\kD K H t a (ns.map V.int)/\(∀ x∈ns,0<=x/\x < 10 ^ 9)/\ns.Z<=90000/\z=iB ns))
def WP (K:Ç) (H:Hp) (wd:Str) (p:Á):Ans->Prop
 |.told z=>∃ fv,H p=O (.j [fv,.non])/\FQ K H wd z fv
 |.no wr=>∃ q,H p=O (.j [.non,.y q])/\bH K H q [.o wr]
def vW (K:Ç) (C Pt:Á):Sp:=λ vs H Q _=>∃(wd:Str) (x:V) (r nl:Á) (ns:List Int) (S:RunS) (L:List RunS) (net:Net) (n:Nat) (fp:List Á),vs=[.o wd,x,.y r,.y nl]/\Is K H (gE net) x/\bP K C H r S fp/\Sd net S L n/\n<=90/\cB H Pt gX pF/\
 wd∈IU/\H nl=O (.j (ns.map V.int))/\(∀ n∈ns,0<=n/\n < 10 ^ 9)/\ns.Z=kG wd/\(wd="soonest" -> ns.getD 1 0<=5)/\
 ∀ p H',dP (Pt::fp) H H'->cB H' Pt gX pF->bP K C H' r (eC S L wd ns).1.1 fp->WP K H' wd p (eC S L wd ns).2->Q (.y p) H'
def xO (F:Fun K "_law_told" "_law_told" (aX 106) f fd) (T:Txt mg) (E9:TxtW mg ik im gv gy gz gx ia ig ic)
  (KX:SG K ik im gv gy gz gx ia ig ic)
  (jp:CalleeR P w K mg base "round_of" ["net"] 6 (wA K gy) f1 jf) (ku:CalleeR P w K mg base "stuck" ["net","vessel"] 5 (vY K gv gy) f2 ka) (jy:CalleeR P w K mg base "soonest" ["net","vessel","most"] 8 (GW K Pt gv gz) f3 oq)
  (jo:MCalR P w K mg base C "back" ["self"] 2 (AX K C ia) f4 wg) (jm:MCalR P w K mg base C "tips" ["self","vessel"] 3 (AN K C gv) f5 Be)
  (ni:Callee P w K mg base "_law_word" ["error"] 1 (GU K im gv gy gz gx ia ig ic) f6 Kb) :
  FnOk P w K mg base gT 11 f fd ["word","net","run","numbers"] (vW K C Pt):=by
 show F.ok ["word","net","run","numbers","error","found","e"] λ sc ir A outer s H vs Q E hr h=>?_
 ·let⟨wd,x,r,nl,ns,S,Ls,net,n,fp,Y,hx,ra,sd,hn,tab,hw,hl,mx,hc,h5,k⟩:=h;refine_lift let EX:XK:=λ cls _ H'=>∃ wr:Str,(eC S Ls wd ns).2=.no wr/\cls=.y (D8 ic gx gv gy gz ia wr)/\dP (Pt::fp) H H'/\cB H' Pt gX pF/\bP K C H' r (eC S Ls wd ns).1.1 fp;?_;show⟨_,(aE (pL 4 sc.nd eQ)
   (aE (pL 5 sc.nd eQ)
   (aE (P0 (EX:=EX) Y Y (λ pn xe hx=>(aG (bK (aR eA (pv 0) aL (aW _)) (aG (pL 5 sc.nd (bZ jp.ok (hr.mono JL) Y jp.mg jp.kp jp.bd .nil hx (a9 (pv 1) aB)))) (aG (bK (aR eA (pv 0) aL (aW _)) (aG (pL 5 sc.nd (bZ ku.ok (hr.mono JL) Y ku.mg ku.kp ku.bd .nil hx (a9 (pv 1) (a9 (px K (pv 3) aH) aB))))) (aG (bK (aR eA (pv 0) aL (aW _)) (aG (pL 5 sc.nd (bZ jy.ok (hr.mono JL) Y jy.mg jy.kp jy.bd .nil hx (a9 (pv 1) (a9 (px K (pv 3) aH) (a9 (px K (pv 3) aH) aB)))))) (aG (bK (aR eA (pv 0) aL (aW _)) (aG (pL 5 sc.nd (gB (pv 2) jo.cls jo.mt jo.ok (hr.mono JL) jo.bd .nil hx))) (aG (pL 5 sc.nd (kU (pv 2) jm.cls jm.mt jm.ok (hr.mono JL) jm.bd .nil hx (a9 (px K (pv 3) aH) aB))))))))))))) Y E9.m_TipError sc.nd (i:=6) Y Y (λ ea=>(aG (pL 4 sc.nd (pv 6)))))
   (aE (bK (aR oC (pv 4) eQ (aW _)) (aG (aO (aY (a9 (pv 5) (a9 eQ aB))))) aS)
   (aG (aO (aY (a9 eQ (a9 (cD ni hr (a9 (pv 4) aB)) aB))))))))),?_⟩
  dsimp only[jG,pD,cZ,tC];let fin:∀ {fv:V}{z:Str}{H':Hp},(eC S Ls wd ns).2=.told z->dP (Pt::fp) H H'->cB H' Pt gX pF->bP K C H' r (eC S Ls wd ns).1.1 fp->FQ K H' wd z fv->∀ {q:Á},H' q=W->Q (.y q) (upd H' q (.j [fv,.non])):=λ {fv z H'} ha b t oy fq {q} hq=>by
   let sN:=È (o:=HO.lst [fv,.non]) hq;show k q _ (dP.step b sN) (t.same sN) (oy.same sN) ?_;rw[ha];show⟨fv,aD,?_⟩;rcases fq with⟨h1,h2⟩|⟨h1,a,b',h2,h3⟩|⟨h1,h2|⟨t',a,ms,h2,h3,h4⟩⟩
   ·show .p ⟨h1,h2⟩
   ·show .x (.p ⟨h1,a,b',h2,?_⟩);rcases h3 with⟨h3,row,h4,h6⟩|⟨h3,h4⟩
    ·show .p ⟨sN.tup h3,row,sN _ _ h4,h6⟩
    ·show .x ⟨sN.tup h3,h4⟩
   ·show .x (.x ⟨h1,.p h2⟩)
   ·show .x (.x ⟨h1,.x ⟨t',a,ms,h2,kD.same sN h3,h4⟩⟩)
  show⟨?_,?_⟩;rotate_left
  ·rintro cls H' ea ac ⟨wr,ha,rfl,b1,t1,Gj⟩ io yw;obtain⟨u0,u1,u2,u3,u4,u5,u6,rfl⟩:∃ u0 u1 u2 u3 u4 u5 u6,ac=[u0,u1,u2,u3,u4,u5,u6]:=by
    match ac,io with
    |[u0,u1,u2,u3,u4,u5,u6],_=>show⟨_,_,_,_,_,_,_,Y⟩
   let⟨hm,bs,j,kd,c1,c2,c3,c4⟩:=KX wr (KW ha);let s1:=È (o:=IL ea (.y (D8 ic gx gv gy gz ia wr))) yw;show⟨hm,⟨_,Y,?_⟩⟩;show⟨_,Y,Y,_,Y,bR ?_⟩;show⟨_,Y,ea,_,bs,j,wr,Y,aD,kd,c1,c2,c3,c4,λ p H2 s2 qp=>⟨(sz0 2),λ q hq=>?_⟩⟩;let s3:=(s1.trans s2).trans (È (o:=HO.lst [.non,.y p]) hq);show k q _ (dP.step b1 s3) (t1.same s3) (Gj.same s3) ?_;rw[ha];show⟨p,aD,(È hq).tup qp⟩
  obtain rfl:=sd.ch.net;let hw:wd="round" \/ wd="stuck" \/ wd="soonest" \/ wd="back" \/ wd="tips" := by simpa [IU]using hw
  let bS:∀ {H':Hp},aI H H'->dP (Pt::fp) H H':=λ s=>s.butL;rcases hw with rfl|rfl|rfl|rfl|rfl
  ·let e:=yD S Ls ns;show⟨_,Y,Y,_,Y,cH ⟨_,Y,x,S.net,Y,hx,sd.r.ok.nok,λ t j p H' uh s1 qp=>?_,λ hL H' s1=>?_⟩⟩
   ·let⟨j0,j1⟩:=BA _ _ _ _ uh.2.1;let ht:=uh.1;show⟨_,Y,Y,_,Y,cH ⟨_,Y,(sz0 2),λ q hq=>?_⟩⟩;show fin (z:=iB [j,(t:Int) - j]) (by rw[e,zR uh]) (bS s1) (tab.same s1) (by rw[e];show ra.same s1) (.x (.x ⟨.p Y,.x ⟨EA,p,[j,(t:Int) - j],Y,qp,λ y hy=>?_,JN,Y⟩⟩)) hq;rcases Ð.1 hy with rfl | hy
    ·lia
    ·let:=ã.1 hy;lia
   ·show⟨"long",by rw[e,wN hL],Y,bS s1,tab.same s1,by rw[e];show ra.same s1⟩
  ·obtain⟨v,rfl⟩:∃ v,ns=[v]:=match ns,hc with|[v],_=>⟨v,rfl⟩
   let e:eC S Ls "stuck" [v]=((S,Ls),m7 S.net v):=yC S Ls [v];let xl:=(mx v JN).1;show⟨_,Y,Y,_,Y,bR ⟨_,Y,Y,_,Y,cH ⟨_,Y,_,Y,.p ⟨nl,_,0,.u v,Y,Y,É hl,Y,x,S.net,v,Y,hx,sd.r.ok.nok,sd.r.fu,?_⟩⟩⟩⟩;let e2:m7 S.net v=if v < S.net.vs.Z then(match rV S.net v.toNat 2001 0 with
    |.none=>.told "none"
    |.at i k=>.told (iB [(i:Int),(k:Int)])
    |.long=>.no "long")else .no "vessel" := rfl
   by_cases hv:v < S.net.vs.Z
   rotate_left
   ·rw[Ä hv]at e2;show .p ⟨λ z=>hv z.2,⟨"vessel",by rw[e,e2],Y,bS (Ć H),tab,by rw[e];show ra⟩⟩
   rw[Å hv]at e2;let⟨j,Y⟩:=Ē xl;rw[show((j:Int)).toNat=j from rfl]at e2;show .x ⟨j,Y,JM,λ ho H' s1=>?_,λ i q p H' ho s1 qp=>?_,λ ho H' s1=>?_⟩
   ·rw[ho]at e2;show⟨_,Y,Y,_,Y,cH ⟨_,Y,(sz0 2),λ q hq=>?_⟩⟩;show fin (z :="none") (by rw[e,e2]) (bS s1) (tab.same s1) (by rw[e];show ra.same s1) (.x (.x ⟨.x (.p Y),.p ⟨Y,Y⟩⟩)) hq
   ·rw[ho] at e2;let bd:=BP _ _ _ _ _ _ ho;let:=sd.r.ok.nok.hi;show⟨_,Y,Y,_,Y,cH ⟨_,Y,(sz0 2),λ q' hq=>?_⟩⟩;show fin (z:=iB [(i:Int),(q:Int)]) (by rw[e,e2]) (bS s1) (tab.same s1) (by rw[e];show ra.same s1) (.x (.x ⟨.x (.p Y),.x ⟨EA,p,[(i:Int),(q:Int)],Y,qp,λ y hy=>?_,JN,Y⟩⟩)) hq;rcases Ð.1 hy with rfl | hy
    ·lia
    ·let:=ã.1 hy;lia
   ·rw[ho]at e2;show⟨"long",by rw[e,e2],Y,bS s1,tab.same s1,by rw[e];show ra.same s1⟩
  ·obtain⟨v,m,rfl⟩:∃ v m,ns=[v,m]:=match ns,hc with|[v,m],_=>⟨v,m,rfl⟩
   let Ws:m<=5:=h5 rfl;let e:eC S Ls "soonest" [v,m]=((S,Ls),tW S.net v m):=by rw[pB];show congrArg _ (Ä (by change ¬ 5 < m;lia))
   let xl:=(mx v JN).1;let wf:=(mx m JN).1;let⟨mm,Y⟩:=Ē wf;show⟨_,Y,Y,_,Y,bR ⟨_,Y,Y,_,Y,bR ⟨_,Y,Y,_,Y,cH ⟨_,Y,_,Y,.p ⟨nl,_,0,.u v,Y,Y,É hl,Y,_,Y,.p ⟨nl,_,1,.u (mm:Int),Y,Y,É hl,Y,x,S.net,v,mm,Y,hx,sd.r.ok.nok,JM,tab,?_⟩⟩⟩⟩⟩⟩;let e2:tW S.net v mm=if v < S.net.vs.Z then(match E4 S.net v mm with
    |.ends row _=>.told (iB row)
    |.many=>.no "many"
    |.on _=>.told "never")else .no "vessel" := rfl
   by_cases hv:v < S.net.vs.Z
   rotate_left
   ·rw[Ä hv]at e2;show .x ⟨λ z=>hv z.2,⟨"vessel",by rw[e,e2],Y,bS (Ć H),tab,by rw[e];show ra⟩⟩
   rw[Å hv]at e2;show .p ⟨xl,hv,λ row fs ho p rl H' a qp pk _ io=>?_,λ ho H' a=>?_,λ fs ho p fl us H' a qp _ _ _ _ _=>?_⟩
   ·rw[ho]at e2;let am:=KS ho;show⟨_,Y,Y,_,Y,cH ⟨_,Y,(sz0 2),λ q hq=>?_⟩⟩;show fin (z:=iB row) (by rw[e,e2]) (uY a) a.t2 (by rw[e];show AY ra a) (.x (.p ⟨Y,p,rl,Y,.p ⟨qp,row,pk,λ x hx=>by let:=am x hx;lia,JM,Y⟩⟩)) hq
   ·rw[ho]at e2;show⟨"many",by rw[e,e2],Y,uY a,a.t2,by rw[e];show AY ra a⟩
   ·rw[ho]at e2;show⟨_,Y,Y,_,Y,cH ⟨_,Y,(sz0 2),λ q hq=>?_⟩⟩;show fin (z :="never") (by rw[e,e2]) (uY a) a.t2 (by rw[e];show AY ra a) (.x (.p ⟨Y,p,fl,Y,.x ⟨qp,Y⟩⟩)) hq
  ·let e:=AF S Ls ns;let⟨dx,np,R,M,T',ei⟩:=ra.ins;show⟨_,Y,Y,_,Y,bR ⟨_,Y,Y,_,Y,bR ⟨_,Y,Y,_,Y,bR ⟨_,Y,Y,_,Y,cH ⟨_,Y,r,dx,_,Y,ei,nF "back" Y,r,S,fp,Y,ra,?_⟩⟩⟩⟩⟩;cases Ls with
   |nil=>
    show .p ⟨sd.ch.rows0,⟨"nothing",by rw[e],Y,bS (Ć H),tab,by rw[e];show ra⟩⟩
   |cons S0 L0=>
    let⟨d,hd⟩:=sd.ch.prev;show .x ⟨S0,d,hd,(sd.rn S0 JN).1.ok,λ H' b oy=>?_⟩;show⟨_,Y,Y,_,Y,cH ⟨_,Y,(sz0 2),λ q hq=>?_⟩⟩;show fin (z :="ok") (by rw[e]) (λ x o hx=>b x o λ z=>hx (Õ _ z)) (nH tab b ra.lists) (by rw[e];show oy) (.p ⟨Y,Y,Y⟩) hq
  ·obtain⟨v,rfl⟩:∃ v,ns=[v]:=match ns,hc with|[v],_=>⟨v,rfl⟩
   let e:eC S Ls "tips" [v]=(((iT S "tips" [v]).1,pV "tips" S Ls (iT S "tips" [v]).2),(iT S "tips" [v]).2):=iP JK S Ls [v];rw[G7]at e;let xl:=(mx v JN).1;let⟨dx,np,R,M,T',ei⟩:=ra.ins;show⟨_,Y,Y,_,Y,bR ⟨_,Y,Y,_,Y,bR ⟨_,Y,Y,_,Y,bR ⟨_,Y,Y,_,Y,bR ⟨_,Y,r,dx,_,Y,ei,nF "tips" Y,_,Y,.p ⟨nl,_,0,.u v,Y,Y,É hl,Y,r,S,fp,v,Y,ra,?_⟩⟩⟩⟩⟩⟩;unfold uK at e
   by_cases hv:v < S.net.vs.Z
   ·rw[Å hv]at e;show .p ⟨xl,hv,λ tl p rp hp=>?_⟩;let eg:S.tips.getD v.toNat []=tl:=by rw[ć,rp];rfl
    rw[eg]at e;let hm:=Ô rp;let s1:=È (o:=HO.lst (tl.map V.int)) hp;show⟨_,Y,Y,_,Y,cH ⟨_,Y,(sz0 2),λ q hq=>?_⟩⟩;show fin (z:=iB tl) (by rw[e]) (bS s1) (tab.same s1) (by rw[e];show ra.same s1) (.x (.x ⟨.x (.x Y),.x ⟨JJ,p,tl,Y,É aD,sd.r.tp tl hm,?_,Y⟩⟩)) hq;let h2:=sd.r.sz.tips tl hm;let h3:=sd.r.mp.t0;let h4:=sd.r.mp.t1;lia
   ·rw[Ä hv]at e;show .x ⟨λ z=>hv z.2,⟨"vessel",by rw[e],Y,bS (Ć H),tab,by rw[e];show ra⟩⟩
end
end Tw
namespace L2
open PySem PySem.Spec PyProof.Rows
def tOrT (K:Ç) (ta tb:TE):TE:=λ σ H Q=>ta σ H λ x H1=>∃ c,VN K x H1 c/\if c=EA then Q x H1 else tb σ H1 Q
def P5  (hK:X.K=K) (ha:PE X a ta) (hb:PE X (.rz .Or (b::js) pos) tb):PE X (.rz .Or (a::b::js) pos) (tOrT K ta tb):=by
 subst hK;intro gu s σ H Q I h;show BoolOp_or (dG (ha gu s σ H _ I h) λ v s1 ⟨x,H1,I1,r1,q1⟩=>?_);let⟨c,tv,q1⟩:=q1;show dG (NS gu s1 σ H1 x v (λ d H2=>d=c/\H2=H1) I1 r1 ⟨c,tv,Y,Y⟩) λ d s2 z=>?_;let⟨H2,I2,Y,Y⟩:=z;cases d with
 |false=>show hb gu s2 σ H2 Q I2 q1
 |true=>show⟨x,H2,I2,r1,q1⟩
end L2
namespace Tw
open PySem L2
section
variable {CD Pt:Á}
def AM (K:Ç):Sp:=λ vs H Q _=>∃(t:Bool) (a:Á) (ns:List Int),vs=[.y a]/\kD K H t a (ns.map V.int)/\(∀ x∈ns,0<=x/\x < 10 ^ 9)/\ns.Z<=90000/\∀ H',aI H H'->Q (.o (iB ns)) H'
def uT (F:Fun K "_law_written" "_law_written" (aX 108) f fd) (T:Txt mg) (TS:TxtS mg):FnOk P w K mg base gT 1 f fd ["numbers"] (AM K):=by
 show F.ok ["numbers"] λ sc ir A outer s H vs Q E hr h=>?_
 ·let⟨t,a,ns,Y,hq,ow,hl,k⟩:=h;show⟨_,(aG (aO (P5 (K:=K) Y (iV (K:=K) Y ė Ę (fN (K:=K) Y) aL (a9 (hJ (λ _ _ h=>h) Y (LcOk.mk (N':=["number"]) (fr:=[W]) Y trivial Y Y Y Y Y trivial) (BL (K:=K) Y (pv 0)) (λ _ _ _=>(gC 0 ["number"])) (λ _ _ _=>cP) (λ _ _ _=>(aP cE Y TS.b_str cK (a9 (pv 0) aB)))) aB)) (iJ aL)))),?_⟩;let hw:=lZ ow;show⟨Y,CV (K:=K) Y hq (iW ow) (by rw[Ê];lia) λ l H' s' Qc=>?_⟩;show⟨" ",l,_,Y,Y,É Qc,FO JL JM,?_⟩;let zi:=MI (sep := " ") (l:=ns.map aU) JL;show⟨((Str.join " " (ns.map aU)).length:Int) != 0,⟨by rw[ê];lia,Y⟩,?_⟩;let ew:iB ns=if ns=[] then ("none" : Str) else Str.join (one 32) (ns.map aU):=by unfold iB vJ;by_cases e:ns=[] <;> simp [e]
  by_cases e:ns=[]
  ·subst e;show bR (k _ s')
  ·rw[Ä e]at ew;let:((Str.join " " (ns.map aU)).length:Int)≠0:=λ z=>by
    let z1:Str.join (one 32) (ns.map aU)="" := wJ (by
     let:(sg (Str.join (one 32) (ns.map aU))).length=0:=by rw[wI,<- SM];lia
     rw[ċ this];rfl)
    let z2:=i4 (c:=32) (l:=ns.map aU) (by simpa using e) λ a ha=>by
     let⟨n,hn,Y⟩:=Ù.1 ha;intro z;let:=j4 (ow n hn).1 32 z;lia
    rw[z1,show Txt.split "" (one 32)=[("":Str)] by decide +kernel]at z2;let⟨n,r,Y⟩:=aek e;let z3:aU n="" := by let:=(ņ z2).1;show this.symm
    let:=gG (ow n JN).1 (ow n JN).2;rw[z3,show dZ "" =W by decide +kernel]at this;cases this
   rw[show(((Str.join " " (ns.map aU)).length:Int) != 0)=EA by simpa using this];show cH ?_;rw[ew,<- SM]at k;show k _ s'
def VB  (h:Is K H (yK (.go k ts)) x):∃ d y,x=.y d/\bH K H d [.o "go",.u k,y]:=by
 let⟨d,xs,Y,q,l⟩:=(show Is K H (.v [.o "go",.u k,.v (ts.map yI)]) x from h).un;let⟨x1,r,Y,h1,l⟩:=l.un;let⟨x2,r,Y,h2,l⟩:=l.un;let⟨x3,r,Y,h3,l⟩:=l.un;let:=l.un0;subst this;rw[h1.us,h2.ui]at q;show⟨d,_,Y,q⟩
def O9 (K:Ç):Sp:=λ vs H Q _=>∃(b:Á) (xs:List V) (rs:List Row),vs=[.y b]/\H b=O (.j xs)/\IsL K H (rs.map yK) xs/\rs.Z<=90000/\∀ p ys H',aI H H'->H' p=O (.j ys)->IsL K H' ((gM rs).map yK) ys->Q (.y p) H'
def CK (F:Fun K "_law_open" "_law_open" (aX 110) f fd) (T:Txt mg):FnOk P w K mg base gT 1 f fd ["book"] (O9 K):=by
 show F.ok ["book","found","row"] λ sc ir A outer s H vs Q E hr h=>?_
 ·let⟨b,xs,rs,Y,hb,lx,hl,k⟩:=h;show⟨_,(aE (pL 1 sc.nd (aY aB))
   (aE (eE ú Y (gA (K:=K) Y (pv 0)) (gL 2 sc.nd) (aE (bK (Ď (qE (aR eA (px K (pv 2) aH) aL (aW _)) (mJ (aR rX (px K (pv 2) aH) aH (aW _))))) (aG (pL 1 sc.nd (aY aB))) aS)
   (aG (bK (aR eA (px K (pv 2) aH) aL (aW _)) (aG (bL (eF (K:=K) Y í ö ø bW (pv 1) (a9 (pv 2) aB)))) aS))))
   (aG (aO (pv 1))))),?_⟩
  show⟨ß _,λ D hD=>?_⟩;let s1:=È (o:=HO.lst []) hD;let g1:upd H D (.j []) D=O (.j []):=aD;generalize upd H D (.j [])=H1 at s1 g1 ⊢;show⟨_,Y,b,Y,⟨_,É (s1 _ _ hb)⟩,oJ (K:=K) (a:=b) (xs:=xs) (λ i ac H'=>aI H H'/\∃ D ys v2,H D=W/\H' D=O (.j ys)/\IsL K H' ((gM (rs.take i)).map yK) ys/\ys.Z<=i/\ac=[O (.y b),O (.y D),v2])
   ⟨s1,D,[],W,hD,g1,.nil,Í _,Y⟩ (λ i ac H' _ p=>É (p.1 _ _ hb)) ?_ ?_⟩
  rotate_left
  ·rintro ac H2 zQ;let⟨s2,D,ys,v2,hD,g2,l2,_,Y⟩:=zQ;rw[ù (by rw[lx.Z,Ê];show Í _)]at l2;show⟨_,Y,k D ys H2 s2 g2 l2⟩
  rintro i y ac H2 hy zQ;let⟨s2,D,ys,v2,hD,g2,l2,yl,Y⟩:=zQ;let⟨d,hd,iy⟩:=lx.get' hy;rw[Ö]at hd;let⟨Mw,An,Y⟩:=ç.mp hd;let hi:i < rs.Z:=(à.mp An).1;let iy:=Ì s2.ts _ _ iy;let et:gM (rs.take (i+1))=l8 (gM (rs.take i)) Mw:=by rw[fL An,qF]
  cases Mw with
  |pour v a=>
   let⟨ra,Y,q⟩:=JU (v:=v) (a:=a) iy;show⟨_,Y,.x (.p ⟨ra,_,0,_,Y,Y,q,Y,Y,_,Y,bR (bR ?_)⟩)⟩;show⟨_,Y,.x (.p ⟨ra,_,0,_,Y,Y,q,Y,Y,_,Y,cH ?_⟩)⟩;let mu:lX (H2 D):=by rw[g2];show trivial
   show⟨_,Y,.p ⟨Y,_,É g2⟩,_,Y,D,_,_,Y,Y,g2,(by rw[ê];lia),?_⟩;show⟨s2.put hD,D,ys++[.y ra],_,hD,aD,?_,by simp;lia,Y⟩;rw[et];let b3:cI D H2 (upd H2 D (.j (ys++[.y ra]))):=Û;change L2.IsL K _ ((gM (rs.take i)++[Row.pour v a]).map yK) _;rw[Ñ];show IsL.append (Ò (b3.ts mu) _ _ l2) (.B (Ì (b3.ts mu) _ _ iy) .nil)
  |go m ts=>
   let⟨ra,y3,Y,q⟩:=VB iy;show⟨_,Y,.x (.p ⟨ra,_,0,_,Y,Y,q,Y,Y,_,Y,cH ⟨_,Y,.x (.p ⟨ra,_,1,_,Y,Y,q,Y,_,_,Y,Y,_,Y,iN (λ hT=>?_) λ hT=>?_⟩)⟩⟩)⟩
   ·show⟨ß _,λ D2 Du=>?_⟩;let s3:=È (o:=HO.lst []) Du;show⟨_,Y,.x (.p ⟨ra,_,0,_,Y,Y,s3.tup q,Y,Y,_,Y,bR ?_⟩)⟩;show⟨s2.trans s3,D2,[],_,s2.free Du,aD,?_,ß _,Y⟩;rw[et,show l8 (gM (rs.take i)) (.go m ts)=[]from Å (ð hT)];show .nil
   ·show⟨_,Y,.x (.p ⟨ra,_,0,_,Y,Y,q,Y,Y,_,Y,bR ?_⟩)⟩;show⟨s2,D,ys,_,hD,g2,?_,JM,Y⟩;rw[et,show l8 (gM (rs.take i)) (.go m ts)=gM (rs.take i)from Ä λ z=>hT (á z)];show l2
def HK:∀(rs:List Row) (d:Row),d∈gM rs->∃ v a,d=.pour v a:=λ rs=>by
 let key:∀(rs f:List Row),(∀ d∈f,∃ v a,d=Row.pour v a)->∀ d∈rs.foldl l8 f,∃ v a,d=Row.pour v a:=by
  intro rs
  induction rs with
  |nil=>intro f h;show h
  |cons r rs ih=>
   intro f h;show ih _ ?_;cases r with
   |pour v a=>
    intro d hd;rcases ë.1 hd with hd|hd
    ·show h d hd
    ·show⟨v,a,ã.1 hd⟩
   |go k ts=>
    change ∀ d∈(if 0 < k then[]else f),_
    split
    ·show λ d hd=>nomatch hd
    ·show h
 show key rs [] λ d hd=>nomatch hd
def M3 (rs:List Row):(gM rs).length<=rs.Z:=by
 let key:∀(rs f:List Row),(rs.foldl l8 f).length<=f.Z+rs.Z:=by
  intro rs
  induction rs with
  |nil=>intro f;show Í _
  |cons r rs ih=>
   intro f;let h:=ih (l8 f r);let:(l8 f r).length<=f.Z+1:=by
    cases r with
    |pour v a=>simp[l8]
    |go k ts=>show(if 0 < k then[]else f).length<=_;split <;> simp
   rw[agu,æ];lia
 let:=key rs [];simpa [gM]using this
def OI:List Str:=["pour","go","back","round","stuck","soonest","tips"]
structure RowX (wd:Str) (ns:List Int):Prop where
 w:wd∈OI
 b:∀ n∈ns,0<=n/\n < 10 ^ 9
 l:ns.Z=kG wd
 g:wd="go" -> ∀ n∈ns,n<=30
def JG (K:Ç) (C Pt:Á):Sp:=λ vs H Q _=>∃(rl r:Á) (x:V) (wd:Str) (ns:List Int) (S:RunS) (L:List RunS) (net:Net) (n:Nat) (fp:List Á),vs=[.y rl,x,.y r]/\H rl=O (.j (.o wd::ns.map V.int))/\Is K H (gE net) x/\bP K C H r S fp/\Sd net S L n/\n<=90/\cB H Pt gX pF/\
 RowX wd ns/\rl∉fp/\∀ v H',dP (Pt::fp) H H'->cB H' Pt gX pF->bP K C H' r (eC S L wd ns).1.1 fp->uV K H' (eC S L wd ns).2 v->Q v H'
def yR (F:Fun K "_law_due" "_law_due" (aX 109) f fd) (T:Txt mg)
  (kf:MCal P w K mg base C "go" ["self","many"] 7 (XA K C) f1 jf) (ml:MCal P w K mg base C "book" ["self"] 1 (OD K C) f2 ka) (jn:MCalR P w K mg base C "pour" ["self","vessel","amount"] 3 (AQ K C gv) f3 oq)
  (vm:Callee P w K mg base "_law_open" ["book"] 1 (O9 K) f4 wg) (vn:Callee P w K mg base "_law_told" ["word","net","run","numbers"] 11 (vW K C Pt) f5 Be) (jw:Callee P w K mg base "_law_written" ["numbers"] 1 (AM K) f6 Kb) :
  FnOk P w K mg base gT 12 f fd ["row","net","run"] (JG K C Pt):=by
 show F.ok ["row","net","run","word","found","refused"] λ sc ir A outer s H vs Q E hr h=>?_
 ·let⟨rl,r,x,wd,ns,S,Ls,net,n,fp,Y,pk,hx,ra,sd,hn,tab,rx,nr,k⟩:=h;show⟨_,(aE (pL 3 sc.nd (px K (pv 0) aH))
   (aE (bK (aR eA (pv 3) aL (aW _)) (aE (bL (kU (pv 2) kf.cls kf.mt kf.ok (hr.mono JL) kf.bd .nil jY (a9 (px K (pv 0) aH) aB)))
   (aG (aO aL))) aS)
   (aE (bK (aR eA (pv 3) aL (aW _)) (aE (bK (aR PQ (px K (pv 0) aH) (zU K T.b_len (px K (pv 1) aH)) (aW _)) (aG (aO (bG (a9 aL aB)))) aS)
   (aE (bK (aR rX (bA dM (bJ (lU (K:=K) Y Y) Y T.b_sum Œ (a9 (hJ (λ _ _ h=>h) Y (LcOk.mk (N':=["one","row"]) (fr:=[W,O 0]) Y ⟨Y,trivial⟩ Y Y Y Y Y ⟨⟨_,Y,Y,Y,Y⟩,trivial⟩) (gA (K:=K) Y (cD vm hr (a9 (gB (pv 2) ml.cls ml.mt ml.ok (hr.mono JL) ml.bd .nil jY) aB))) (λ _ _ _=>(gC 0 ["one","row"])) (λ _ _ _=>BK (aR eA (px K (pv 0) aH) (px K (pv 1) aH) (aW _))) (λ _ _ _=>(px K (pv 0) aH))) aB)) (px K (pv 0) aH)) aH (aW _)) (aG (aO (bG (a9 aL aB)))) aS)
   (aE (bL (kU (pv 2) jn.cls jn.mt jn.ok (hr.mono JL) jn.bd .nil HJ (a9 (px K (pv 0) aH) (a9 (px K (pv 0) aH) aB))))
   (aG (aO aL))))) aS)
   (aE (bK (Ď (qE (aR eA (pv 3) aL (aW _)) (mJ (aR rX (px K (pv 0) aH) aH (aW _))))) (aG (aO (bG (a9 aL aB)))) aS)
   (aE (bF (cD vn hr (a9 (pv 3) (a9 (pv 1) (a9 (pv 2) (a9 (wT (OE (K:=K) Y) (pv 0) (BH aH) BI) aB))))) (vA (K:=K) (n:=2) Y Y (aF (gL 4 sc.nd) (aF (gL 5 sc.nd) aQ))))
   (aE (bK (aR UE (pv 5) eQ (aW _)) (aG (aO (pv 5))) aS)
   (aE (bK (aR eA (pv 3) aL (aW _)) (aG (aO aL)) aS)
   (aE (bK (aR eA (pv 3) aL (aW _)) (aG (aO (iK (aR eA (px K (pv 4) aH) aL (aW _)) aL (cD jw hr (a9 (px K (pv 4) aH) aB))))) aS)
   (aG (aO (cD jw hr (a9 (P5 (K:=K) Y (pv 4) (iJ (bG aB))) aB)))))))))))),?_⟩
  let Rw:=sd.ch.net;subst Rw;let nok:=sd.r.ok.nok;let hw:wd="pour" \/ wd="go" \/ wd="back" \/ wd="round" \/ wd="stuck" \/ wd="soonest" \/ wd="tips" := by simpa [OI]using rx.w
  let⟨dx,np,R,M,T',ei⟩:=ra.ins;let w0:bC K H rl (.o wd::ns.map V.int):=É pk;show⟨_,Y,.p ⟨rl,_,0,.o wd,Y,Y,w0,sO (û _) Y,?_⟩⟩;let hb:=rx.b;let hc:=rx.l
  by_cases sf:wd="go"
  ·subst sf;obtain⟨m,rfl⟩:∃ m,ns=[m]:=match ns,hc with|[m],_=>⟨m,rfl⟩
   let wf:=(hb m JN).1;let Fp:=rx.g rfl m JN;let t0:=sd.r.mp.t0;let t1:=sd.t;let e:eC S Ls "go" [m]=(((iT S "go" [m]).1,pV "go" S Ls (iT S "go" [m]).2),(iT S "go" [m]).2):=iP JK S Ls [m];rw[IO,show KI S m=(S.go m.Q,.told "ok")from Ä JM]at e;let⟨q,Y⟩:=Ē wf;show⟨_,Y,Y,_,Y,cH ⟨_,Y,r,dx,_,Y,ei,nF "go" Y,_,Y,.p ⟨rl,_,1,.u (q:Int),Y,Y,w0,Y,r,S,fp,q,_,Y,ra,sd.r.sz,JM,JM,λ H6 b6 Rx=>?_⟩⟩⟩;show k _ H6 (λ x o hx e=>b6 x o (λ z=>hx (Õ _ z)) e) (nH tab b6 ra.lists) (by rw[e];show Rx) ?_;rw[e];show Y
  show⟨_,Y,Y,_,Y,?_⟩;rw[ò (λ z=>sf (V.str.inj z))];show bR ?_;dsimp only[eD]
  by_cases Ry:wd="pour"
  ·subst Ry;obtain⟨v,m,rfl⟩:∃ v m,ns=[v,m]:=match ns,hc with|[v,m],_=>⟨v,m,rfl⟩
   let xl:=(hb v JN).1;let wf:=(hb m JN).1;let e:eC S Ls "pour" [v,m]=(((iT S "pour" [v,m]).1,pV "pour" S Ls (iT S "pour" [v,m]).2),(iT S "pour" [v,m]).2):=iP JK S Ls [v,m];rw[GA]at e;unfold n8 at e;let Gh:KU (V.str "pour" :: [v,m].map V.int) 1=O (.u v):=rfl;let Ds:KU (V.str "pour" :: [v,m].map V.int) 2=O (.u m):=rfl;let⟨na,nb,nc,xs,ys,Y,qn,qv,lv,_,_⟩:=j5 hx;let ve:xs.Z=S.net.vs.Z:=by rw[lv.Z,Ê]
   show⟨_,Y,Y,_,Y,cH ?_⟩;show⟨_,Y,.p ⟨rl,_,1,_,Y,Y,w0,Gh,_,Y,.x (.p ⟨na,_,0,_,Y,Y,qn,Y,nb,xs,Y,.x qv,_,_,Y,Y,_,Y,iN (λ hT=>?_) λ hT=>?_⟩)⟩⟩
   ·let hT:=ð hT;rw[Ä JM]at e;show⟨(sz0 1),λ q hq=>?_⟩;let sq:=È (o:=HO.tup [.o "vessel"]) hq;show k _ _ sq.butL (tab.same sq) (by rw[e];show ra.same sq) ?_;rw[e];show⟨q,Y,Ï aD⟩
   let hv:v < S.net.vs.Z:=by
    let:¬ ((xs.Z:Nat):Int)<=v:=λ z=>hT (á z);lia
   rw[Å hv]at e;dsimp only[eD];show⟨_,Y,r,dx,_,Y,ei,nF "book" Y,r,S,fp,Y,ra,λ bk bs hbk lbk=>?_⟩;let s1:=È (o:=HO.lst bs) hbk;let Xb:=sd.r.sz.rows;let tk:=sd.t;show⟨bk,bs,S.rows,Y,aD,Ò s1.ts _ _ lbk,by let:=sd.r.mp.t0;lia,λ op os H2 s2 ho lo=>?_⟩;let s12:=s1.trans s2;show⟨op,Y,⟨_,É ho⟩,oX (K:=K) (a:=op) (xs:=os) (λ D i rr ac H'=>H2 D=W/\aI H2 H'/\H' D=O (.j rr)/\rr=(((gM S.rows).take i).flatMap (NF v)).map V.int/\rr.Z<=i/\∃ u,ac=[u,O (.y rl)])
    (λ D i rr ac H' p=>É (p.2.1 _ _ ho)) (λ D hD=>⟨hD,È hD,aD,Y,Í _,W,Y⟩) ?_ ?_⟩
   rotate_left
   ·rintro D i y rr ac H' hy zQ;let⟨hD,sm,jc,Y,Rz,u,Y⟩:=zQ;let⟨d,hd,iy⟩:=lo.get' hy;rw[Ö]at hd;let⟨Mw,An,Y⟩:=ç.mp hd;let⟨v',a',Y⟩:=HK S.rows Mw (Ô An);let⟨oy,Y,q⟩:=JU (v:=v') (a:=a') (Ì sm.ts _ _ iy);let At:(gM S.rows).length<=90000:=by let:=M3 S.rows;let:=sd.r.mp.t0;lia
    let hi:i < (gM S.rows).length:=(à.mp An).1;show⟨_,Y,.x (.p ⟨oy,_,1,_,Y,Y,q,Y,_,Y,.p ⟨rl,_,1,_,Y,Y,É (sm _ _ (s12 _ _ pk)),Gh,Y,_,Y,?_⟩⟩)⟩;rw[fL An,List.flatMap_append]
    by_cases ev:v'=v
    ·subst ev;rw[á rfl];show cH ⟨_,Y,.x (.p ⟨oy,_,2,_,Y,Y,q,Y,jc,by rw[ê];lia,hD,sm.put hD,aD,?_,by simp at Rz ⊢;lia,_,Y⟩)⟩;simp[NF]
    ·rw[ò (λ z=>ev (V.int.inj z))];show bR ⟨hD,sm,jc,by simp[NF,ev],JM,_,Y⟩
   rintro D rr ac H3 zQ;let⟨hD,s3,jc,Y,_,_⟩:=zQ;rw[ù (by rw[lo.Z,Ê];show Í _)]at jc;let wk:=s12.trans s3;let es:((gM S.rows).flatMap (NF v)).sum=S.cur.poured.getD v.toNat 0:=PH sd.ch (λ T hT=>by rw[<- sd.ch.nets T hT];show(sd.rn T hT).1.ok.cur.pl) v xl hv;let w3:bC K H3 rl (.o "pour" :: [v,m].map V.int):=É (wk _ _ pk);show⟨JJ,D,_,Y,É jc,?_⟩;rw[es];show⟨_,Y,.p ⟨rl,_,2,_,Y,Y,w3,Ds,_,_,Y,Y,_,_,Y,Y,_,Y,iN (λ hU=>?_) λ hU=>?_⟩⟩
   ·let hU:=ð hU;rw[Å hU]at e;show⟨(sz0 1),λ q hq=>?_⟩;let sq:=wk.trans (È (o:=HO.tup [.o "much"]) hq);show k _ _ sq.butL (tab.same sq) (by rw[e];show ra.same sq) ?_;rw[e];show⟨q,Y,Ï aD⟩
   let hU:¬ 1000 < S.cur.poured.getD v.toNat 0+m:=λ z=>hU (á z);rw[Ä hU]at e;dsimp only[eD];show⟨_,Y,r,dx,_,Y,wk _ _ ei,nF "pour" Y,_,Y,.p ⟨rl,_,1,_,Y,Y,w3,Gh,_,Y,.p ⟨rl,_,2,_,Y,Y,w3,Ds,r,S,fp,v,m,_,Y,ra.same wk,sd.r.sz,by let:=sd.r.mp.t0;lia,.p ⟨xl,hv,λ H6 b6 Rx=>?_⟩⟩⟩⟩;let Xc:dP fp H H6:=dP.pre wk b6;show k _ H6 (λ x o hx e=>Xc x o (λ z=>hx (Õ _ z)) e) (nH tab Xc ra.lists) (by rw[e];show Rx) ?_;rw[e];show Y
  show⟨_,Y,Y,_,Y,?_⟩;rw[ò (λ z=>Ry (V.str.inj z))];show bR ?_;dsimp only [eD];let Eo:tQ (.o wd::ns.map V.int) (O 1) W=ns.map V.int:=S1 _ _;let fin:∀ {z:Str}{v:V}{H3:Hp},(eC S Ls wd ns).2=.told z->dP (Pt::fp) H H3->cB H3 Pt gX pF->bP K C H3 r (eC S Ls wd ns).1.1 fp->v=.o z->Q v H3:=λ ha b t r' hv=>k _ _ b t r' (by rw[ha];show hv);let call:∀ (p2:Á) (Q':VK),wd∈IU->(wd = "soonest" -> ns.getD 1 0<=5)->H p2=W->
    (∀ q H3,dP (Pt::fp) H H3->cB H3 Pt gX pF->bP K C H3 r (eC S Ls wd ns).1.1 fp->WP K H3 wd q (eC S Ls wd ns).2->Q' (.y q) H3)->vW K C Pt [.o wd,x,.y r,.y p2] (upd H p2 (.j (ns.map V.int))) Q' E0:=λ p2 Q' hw h5 rk kk=>by
   let sN:=È (o:=HO.lst (ns.map V.int)) rk;show⟨wd,x,r,p2,ns,S,Ls,S.net,n,fp,Y,Ì sN.ts _ _ hx,ra.same sN,sd,hn,tab.same sN,hw,aD,hb,hc,h5,λ q H3 b3 t3 zc tq=>kk q H3 (dP.pre sN b3) t3 zc tq⟩
  let yn:wd="soonest" \/ wd="back" \/ (wd="round" \/ wd="stuck" \/ wd="tips"):=by
   rcases hw with h|h|h|h|h|h|h
   ·show absurd h Ry
   ·show absurd h sf
   ·show .x (.p h)
   ·show .x (.x (.p h))
   ·show .x (.x (.x (.p h)))
   ·show .p h
   ·show .x (.x (.x (.x h)))
  rcases yn with rfl|rfl|yn
  ·obtain⟨v,m,rfl⟩:∃ v m,ns=[v,m]:=match ns,hc with|[v,m],_=>⟨v,m,rfl⟩
   let e:=pB S Ls [v,m];show⟨_,Y,Y,_,Y,cH ⟨_,Y,.p ⟨rl,_,2,.u m,Y,Y,w0,Y,_,_,Y,Y,_,Y,iN (λ hT=>?_) λ hT=>?_⟩⟩⟩
   ·let hT:5 < m:=ð hT;show⟨(sz0 1),λ q hq=>?_⟩;let sq:=È (o:=HO.tup [.o "row"]) hq;rw[show([v,m]:List Int).getD 1 0=m from rfl,Å hT]at e;show k _ _ sq.butL (tab.same sq) (by rw[e];show ra.same sq) ?_;rw[e];show⟨q,Y,Ï aD⟩
   let hT:m<=5:=Int.not_lt.mp λ z=>hT (á z);dsimp only[eD];show⟨_,Y,_,Y,_,Y,_,Y,1,Y,rl,_,Y,w0,λ p2 rk=>?_⟩;rw[Eo];dsimp only[jC,þ];show call p2 _ JK (λ _=>hT) rk λ q H3 b3 t3 zc tq=>?_;cases ha:(eC S Ls "soonest" [v,m]).2 with
   |no wr=>
    rw[ha]at tq;let⟨q2,hq,xf⟩:=tq;show⟨q,_,Y,É hq,Y,_,_,Y,_,_,Y,Y,?_⟩;show⟨_,Y,Y,_,Y,cH ⟨_,Y,k _ H3 b3 t3 zc ?_⟩⟩;rw[ha];show⟨q2,Y,xf⟩
   |told z=>
    rw[ha]at tq;let⟨fv,hq,fq⟩:=tq;show⟨q,_,Y,É hq,Y,_,_,Y,_,_,Y,Y,?_⟩;show⟨_,Y,Y,_,Y,bR ⟨_,Y,Y,_,Y,bR ⟨_,Y,Y,_,Y,cH ?_⟩⟩⟩;rcases fq with⟨h1,_⟩|⟨_,a,b,rfl,h3⟩|⟨h1,_⟩
    ·show absurd h1 JK
    ·rcases h3 with⟨h3,row,h4,h5,h6,rfl⟩|⟨h3,rfl⟩
     ·show⟨_,Y,.x (.p ⟨a,_,0,_,Y,Y,h3,Y,Y,_,Y,bR ⟨_,Y,.x (.p ⟨a,_,1,_,Y,Y,h3,Y,JJ,b,row,Y,É h4,h5,h6,λ H4 s4=>?_⟩)⟩⟩)⟩;show fin ha (dP.step b3 s4) (t3.same s4) (zc.same s4) Y
     ·show⟨_,Y,.x (.p ⟨a,_,0,_,Y,Y,h3,Y,Y,_,Y,cH (fin ha b3 t3 zc Y)⟩)⟩
    ·show absurd h1 JK
  ·show⟨_,Y,Y,_,Y,bR (bR ?_)⟩;dsimp only[eD];show⟨_,Y,_,Y,_,Y,_,Y,1,Y,rl,_,Y,w0,λ p2 rk=>?_⟩;rw[Eo];dsimp only[jC,þ];show call p2 _ JK (λ z=>absurd z JK) rk λ q H3 b3 t3 zc tq=>?_;cases ha:(eC S Ls "back" ns).2 with
   |no wr=>
    rw[ha]at tq;let⟨q2,hq,xf⟩:=tq;show⟨q,_,Y,É hq,Y,_,_,Y,_,_,Y,Y,?_⟩;show⟨_,Y,Y,_,Y,cH ⟨_,Y,k _ H3 b3 t3 zc ?_⟩⟩;rw[ha];show⟨q2,Y,xf⟩
   |told z=>
    rw[ha]at tq;let⟨fv,hq,fq⟩:=tq;show⟨q,_,Y,É hq,Y,_,_,Y,_,_,Y,Y,?_⟩;rcases fq with⟨_,rfl,rfl⟩|⟨h1,_⟩|⟨h1,_⟩
    ·show⟨_,Y,Y,_,Y,bR ⟨_,Y,Y,_,Y,cH (fin ha b3 t3 zc Y)⟩⟩
    ·show absurd h1 JK
    ·show absurd h1 JK
  ·let n1:wd ≠ "soonest" := λ z=>by rw[z]at yn;show absurd yn JK
   let n2:wd ≠ "back" := λ z=>by rw[z]at yn;show absurd yn JK
   let Ix:wd∈IU:=by rcases yn with rfl|rfl|rfl <;> decide +kernel
   let f1:decide (V.str wd=V.str "soonest")=false:=ò λ z=>n1 (V.str.inj z);let f2:decide (V.str wd=V.str "back")=false:=ò λ z=>n2 (V.str.inj z);show⟨_,Y,Y,_,Y,?_⟩;rw[f1];show bR (bR ?_);dsimp only[eD];show⟨_,Y,_,Y,_,Y,_,Y,1,Y,rl,_,Y,w0,λ p2 rk=>?_⟩;rw[Eo];dsimp only[jC,þ];show call p2 _ Ix (λ z=>absurd z n1) rk λ q H3 b3 t3 zc tq=>?_;cases ha:(eC S Ls wd ns).2 with
   |no wr=>
    rw[ha]at tq;let⟨q2,hq,xf⟩:=tq;show⟨q,_,Y,É hq,Y,_,_,Y,_,_,Y,Y,?_⟩;show⟨_,Y,Y,_,Y,cH ⟨_,Y,k _ H3 b3 t3 zc ?_⟩⟩;rw[ha];show⟨q2,Y,xf⟩
   |told z=>
    rw[ha]at tq;let⟨fv,hq,fq⟩:=tq;show⟨q,_,Y,É hq,Y,_,_,Y,_,_,Y,Y,?_⟩;show⟨_,Y,Y,_,Y,bR ⟨_,Y,Y,_,Y,?_⟩⟩;rw[f2];show bR ⟨_,Y,Y,_,Y,?_⟩;rw[f1];show bR ?_;let em:z="none" -> ∀ p,H3 p=W->AM K [.y p] (upd H3 p (.v [])) Q E0:=λ hz p hp=>by
     let sN:=È (o:=HO.tup []) hp;show⟨EA,p,[],Y,Ï aD,(λ _ h=>nomatch h),ß _,λ H4 s4=>fin ha (dP.step b3 (sN.trans s4)) (t3.same (sN.trans s4)) (zc.same (sN.trans s4)) (by rw[hz];rfl)⟩
    rcases fq with⟨h1,_⟩|⟨h1,_⟩|⟨_,⟨rfl,hz⟩|⟨t,a,ms,rfl,h3,h4,h5,rfl⟩⟩
    ·show absurd h1 n2
    ·show absurd h1 n1
    ·show⟨_,Y,JJ,Y,bR ⟨(sz0 0),λ p hp=>em hz p hp⟩⟩
    ·show⟨_,Y,!(ms.map V.int).isEmpty,?_,?_⟩
     ·cases t with
      |true=>show .x (.p ⟨_,h3,Y⟩)
      |false=>show .p ⟨_,h3,Y⟩
     cases ms with
     |nil=>show bR ⟨(sz0 0),λ p hp=>em Y p hp⟩
     |cons y ys=>show cH ⟨t,a,y::ys,Y,h3,h4,h5,λ H4 s4=>fin ha (dP.step b3 s4) (t3.same s4) (zc.same s4) Y⟩
def wG (S:RunS):List Str:=[iB S.cur.held,iB S.cur.coming,aU S.cur.tick,aU S.cur.came,aU S.cur.ground]
def IZ (K:Ç) (C:Á):Sp:=λ vs H Q _=>∃(r:Á) (S:RunS) (fp:List Á) (n:Nat),vs=[.y r]/\bP K C H r S fp/\Rn S n/\∀ p H',aI H H'->H' p=O (.j ((wG S).map V.str))->Q (.y p) H'
def yP (F:Fun K "_law_sides" "_law_sides" (aX 111) f fd) (T:Txt mg) (TS:TxtS mg)
  (iu:MCal P w K mg base C "state" ["self"] 1 (iX K C λ S v H=>Is K H (yG S.cur.held S.cur.coming S.cur.doors) v) f1 jf)
  (jk:MCal P w K mg base C "tick" ["self"] 1 (iX K C λ S v H=>v=.u S.cur.tick) f2 ka)
  (jl:MCal P w K mg base C "came" ["self"] 1 (iX K C λ S v H=>v=.u S.cur.came) f3 oq)
  (iz:MCal P w K mg base C "grounded" ["self"] 1 (iX K C λ S v H=>v=.u S.cur.ground) f4 wg)
  (jw:Callee P w K mg base "_law_written" ["numbers"] 1 (AM K) f5 Be):FnOk P w K mg base gT 2 f fd ["run"] (IZ K C):=by
 show F.ok ["run","held","coming","doors"] λ sc ir A outer s H vs Q E hr h=>?_
 ·let⟨r,S,fp,n,Y,ra,rn,k⟩:=h;show⟨_,(aE (bF (gB (pv 0) iu.cls iu.mt iu.ok (hr.mono JL) iu.bd .nil jY) (aV (K:=K) (n:=3) Y Y (aF (gL 1 sc.nd) (aF (gL 2 sc.nd) (aF (gL 3 sc.nd) aQ)))))
   (aG (aO (aY (a9 (cD jw hr (a9 (pv 1) aB)) (a9 (cD jw hr (a9 (pv 2) aB)) (a9 (aP cE Y TS.b_str cK (a9 (gB (pv 0) jk.cls jk.mt jk.ok (hr.mono JL) jk.bd .nil jY) aB)) (a9 (aP cE Y TS.b_str cK (a9 (gB (pv 0) jl.cls jl.mt jl.ok (hr.mono JL) jl.bd .nil jY) aB)) (a9 (aP cE Y TS.b_str cK (a9 (gB (pv 0) iz.cls iz.mt iz.ok (hr.mono JL) iz.bd .nil jY) aB)) aB))))))))),?_⟩
  let⟨dx,np,R,M,T',ei⟩:=ra.ins;show⟨_,Y,r,dx,_,Y,ei,nF "state" Y,r,S,fp,Y,ra,λ v hv=>?_⟩;let⟨a,b1,b2,b3,Y,q,q1,q2,q3⟩:=zE hv;show⟨a,_,Y,q,Y,_,_,Y,_,_,Y,_,_,Y,Y,?_⟩;let h2:=rn.ok.cur.st.h;let h3:=rn.ok.cur.st.c;let h4:=rn.ok.nok.hi;show⟨_,Y,EA,b1,S.cur.held,Y,q1,rn.held,JM,λ H1 s1=>⟨_,Y,EA,b2,S.cur.coming,Y,s1.tup q2,rn.coming,JM,λ H2 s2=>?_⟩⟩;let s12:=s1.trans s2;let Sa:=ra.same s12;let Sb:=s12 _ _ ei;show⟨_,Y,r,dx,_,Y,Sb,nF "tick" Y,r,S,fp,Y,Sa,λ v hv=>?_⟩;subst hv;show⟨_,_,Y,dX rn.tick.1 rn.tick.2,?_⟩;show⟨_,Y,r,dx,_,Y,Sb,nF "came" Y,r,S,fp,Y,Sa,λ v hv=>?_⟩;subst hv;show⟨_,_,Y,dX rn.came.1 rn.came.2,?_⟩;show⟨_,Y,r,dx,_,Y,Sb,nF "grounded" Y,r,S,fp,Y,Sa,λ v hv=>?_⟩;subst hv;show⟨_,_,Y,dX rn.ground.1 rn.ground.2,(sz0 5),λ p hp=>?_⟩;show k p _ (s12.trans (È hp)) aD
structure RA (t sl:Á) (H:Hp) (jt:List (Á×Str×List Int)) (H':Hp):Prop where
 e:Ext t sl H H'
 a:∀ x∈jt,H x.1=W/\H' x.1=O (.j (.o x.2.1::x.2.2.map V.int))/\RowX x.2.1 x.2.2
def RA.draw  (h:RA t sl H jt Ha) (tp:gP H t sl) (d:cI t Ha Hb) (Sc:gP Hb t sl):RA t sl H jt Hb:=
 ⟨⟨h.e.bt.trans d,Sc⟩,λ x hx=>by
  let⟨h1,h2,h3⟩:=h.a x hx;let⟨o,ho⟩:=tp.some;show⟨h1,d _ _ (λ z=>by rw[z,ho]at h1;ext h1) h2,h3⟩⟩
def RA.oth  (h:RA t sl H jt Ha) (hq:Ha q=W):RA t sl H jt (upd Ha q o):=
 ⟨h.e.new hq,λ x hx=>by
  let⟨h1,h2,h3⟩:=h.a x hx;show⟨h1,È hq _ _ h2,h3⟩⟩
def RA.new  (h:RA t sl H jt Ha) (tp:gP H t sl) (hq:Ha q=W) (rx:RowX wd ns):RA t sl H ((q,wd,ns)::jt) (upd Ha q (.j (.o wd::ns.map V.int))):=
 ⟨h.e.new hq,λ x hx=>by
  rcases Ð.1 hx with rfl|hx
  ·show⟨?_,aD,rx⟩;cases e:H q with
   |none=>rfl
   |some o=>
    by_cases z:q=t
    ·let⟨o',ho⟩:=h.e.tp.some;rw[z,ho]at hq;cases hq
    ·rw[h.e.bt _ _ z e]at hq;cases hq
  ·show(h.oth hq).a x hx⟩
def kT  (w:wd∈OI) (l:ns.Z=kG wd) (b:∀ n∈ns,0<=n/\n < 10 ^ 9) (g:wd ≠ "go" \/ ∀ n∈ns,n<=30):RowX wd ns:=⟨w,b,l,λ e n hn=>by
 rcases g with g|g
 ·show absurd e g
 ·show g n hn⟩
def O7 (K:Ç):Sp:=λ vs H Q _=>∃(t sl:Á) (x:V) (net:Net),vs=[.y t,x]/\gP H t sl/\Is K H (gE net) x/\NetOk net/\∀ p wd ns H',Ext t sl H H'->RowX wd ns->H p=W->H' p=O (.j (.o wd::ns.map V.int))->Q (.y p) H'
set_option tactic.hygienic true in
def CI (F:Fun K "_law_row" "_law_row" (aX 107) f fd) (T:Txt mg) (ib:Callee P w K mg base "_law_draw" ["tape","many"] 1 AU f1 jf):FnOk P w K mg base gT 2 f fd ["tape","net"] (O7 K):=by
 show F.ok ["tape","net","number","some"] λ sc ir A outer s H vs Q E hr h=>?_
 ·let⟨t,sl,x,net,Y,tp,hx,nok,k⟩:=h;show⟨_,(aE (pL 2 sc.nd (px K (aY (a9 (cD ib hr (a9 (pv 0) (a9 (zU K T.b_len (px K (pv 1) aH)) aB))) (a9 (cD ib hr (a9 (pv 0) (a9 aH aB))) (a9 (cD ib hr (a9 (pv 0) (a9 (bA PM aH aH) aB))) aB)))) (bA mM (cD ib hr (a9 (pv 0) (a9 aH aB))) aH)))
   (aE (pL 3 sc.nd (aY (a9 (aY (a9 aL (a9 (pv 2) (a9 (cD ib hr (a9 (pv 0) (a9 aH aB))) aB)))) (a9 (aY (a9 aL (a9 (cD ib hr (a9 (pv 0) (a9 aH aB))) aB))) (a9 (aY (a9 aL aB)) (a9 (aY (a9 aL aB)) (a9 (aY (a9 aL (a9 (pv 2) aB))) aB)))))))
   (aE (pL 3 sc.nd (bA tG (pv 3) (aY (a9 (aY (a9 aL (a9 (pv 2) (a9 (cD ib hr (a9 (pv 0) (a9 aH aB))) aB)))) (a9 (aY (a9 aL (a9 (pv 2) aB))) (a9 (aY (a9 aL (a9 (cD ib hr (a9 (pv 0) (a9 aH aB))) aB))) (a9 (aY (a9 aL aB)) aB)))))))
   (aG (aO (px K (pv 3) (cD ib hr (a9 (pv 0) (a9 aH aB))))))))),?_⟩
  let⟨na,nb,nc,xs,ys,Y,qn,qv,lv,_,_⟩:=j5 hx;let ve:xs.Z=net.vs.Z:=by rw[lv.Z,Ê]
  let hi:=nok.hi;let lo:=nok.lo;let r0:RA t sl H [] H:=⟨⟨Đ _,tp⟩,λ x hx=>nomatch hx⟩;show⟨_,Y,_,Y,.x (.p ⟨na,_,0,_,Y,Y,qn,Y,nb,xs,Y,.x qv,t,sl,_,Y,tp,JM,JM,λ n1 H1 d1 t1 l1 u1=>?_⟩)⟩;show⟨_,Y,t,sl,13,Y,t1,JL,JL,λ n2 H2 d2 t2 l2 u2=>⟨_,Y,_,_,Y,Y,?cc,t,sl,_,Y,t2,?pp,?qq,λ n3 H3 d3 t3 l3 u3=>⟨(sz0 3),λ p hp=>?_⟩⟩⟩
  case cc=>show(by unfold YV;decide)
  case pp=>decide
  case qq=>decide
  let u3:n3 < 10 ^ 9:=u3;let r3:=((r0.draw tp d1 t1).draw tp d2 t2).draw tp d3 t3;let Ep:p≠t:=λ z=>by let⟨o,e⟩:=t3.some;rw[z,e]at hp;cases hp
  let g4:upd H3 p (.j [.u n1,.u n2,.u n3]) p=O (.j [.u n1,.u n2,.u n3]):=aD;let r4:=r3.oth (o:=HO.lst [.u n1,.u n2,.u n3]) hp;generalize upd H3 p (.j [.u n1,.u n2,.u n3])=H4 at g4 r4 ⊢;show⟨_,Y,t,sl,8,Y,r4.e.tp,JL,JL,λ r H5 d5 t5 k0 k1=>⟨_,_,Y,Y,?_,?_⟩⟩
  ·show⟨JL,JL⟩
  let q0:0<=r / 3:=Int.ediv_nonneg k0 JL;let q1:r / 3 < 3:=by lia
  let⟨j,hj⟩:=Ē q0;let hj3:j < 3:=by lia
  let g5:=d5 _ _ Ep g4;let r5:=r4.draw tp d5 t5;obtain⟨n,hn,yy,Mx⟩:∃ n:Int,([.u n1,.u n2,.u n3]:List V)[j]?=O (.u n)/\0<=n/\n < 10 ^ 9:=by
   match j,hj3 with
   |0,_=>show⟨n1,Y,l1,JM⟩
   |1,_=>show⟨n2,Y,l2,JM⟩
   |2,_=>show⟨n3,Y,l3,u3⟩
  dsimp only;rw[hj];show .p ⟨p,_,((j:Nat):Int),_,Y,Y,É g5,hW hn,?_⟩;clear g5 g4 r4 hj q0 q1 hn r3 d1 d2 d3 d5 hp Ep;dsimp only[cZ,eD];let one:∀ {a:Int},0<=a->a < 10 ^ 9->∀ x∈[a],0<=x/\x < 10 ^ 9:=λ h0 h1 x hx=>by let:=ã.1 hx;subst this;show⟨h0,h1⟩
  let two:∀ {a b:Int},0<=a->a < 10 ^ 9->0<=b->b < 10 ^ 9->∀ x∈[a,b],0<=x/\x < 10 ^ 9:=λ h0 h1 h2 h3 x hx=>by
   rcases Ð.1 hx with rfl|hx
   ·show⟨h0,h1⟩
   ·show one h2 h3 x hx
  let nil:∀ x∈([]:List Int),0<=x/\x < 10 ^ 9:=λ x hx=>nomatch hx
  let bk:=kT (wd :="back") (ns:=[]) JK JK nil (.p JK);show⟨_,Y,_,Y,t,sl,30,Y,t5,JL,JL,λ m1 G1 d1 t1 a1 b1=>⟨(sz0 3),λ p1 Ce=>?_⟩⟩;let r6:=(r5.draw tp d1 t1).new tp Ce (kT (wd :="pour") (ns:=[n,m1]) JK (show 2=kG _ by decide +kernel) (two yy Mx a1 JM) (.p JK));dsimp only[List.map]at r6;generalize upd G1 p1 (.j [.o "pour",.u n,.u m1])=H6 at r6 ⊢;show⟨_,Y,t,sl,30,Y,r6.e.tp,JL,JL,λ m2 G2 d2 t2 a2 b2=>⟨(sz0 2),λ p2 rk=>?_⟩⟩;let r7:=(r6.draw tp d2 t2).new tp rk (kT (wd :="go") (ns:=[m2]) JK (show 1=kG _ by decide +kernel) (one a2 JM) (.x λ x hx=>by let:=ã.1 hx;lia));dsimp only[List.map]at r7;generalize upd G2 p2 (.j [.o "go",.u m2])=H7 at r7 ⊢;show⟨(sz0 1),λ p3 Ip=>?_⟩;let r8:=r7.new tp Ip (bk);dsimp only[List.map]at r8;generalize upd H7 p3 (.j [.o "back"])=H8 at r8 ⊢;show⟨(sz0 1),λ p4 Ck=>?_⟩;let r9:=r8.new tp Ck (kT (wd :="round") (ns:=[]) JK (show 0=kG _ by decide +kernel) nil (.p JK));dsimp only[List.map]at r9;generalize upd H8 p4 (.j [.o "round"])=H9 at r9 ⊢;show⟨_,Y,(sz0 2),λ p5 hp5=>?_⟩;let Fo:=r9.new tp hp5 (kT (wd :="stuck") (ns:=[n]) JK (show 1=kG _ by decide +kernel) (one yy Mx) (.p JK));dsimp only[List.map]at Fo;generalize upd H9 p5 (.j [.o "stuck",.u n])=wa at Fo ⊢;show⟨(sz0 5),λ pa Ms=>?_⟩;let ga:upd wa pa (.j [.y p1,.y p2,.y p3,.y p4,.y p5]) pa=O (.j [.y p1,.y p2,.y p3,.y p4,.y p5]):=aD;let Se:=Fo.oth (o:=HO.lst [.y p1,.y p2,.y p3,.y p4,.y p5]) Ms;let na:pa≠t:=Fo.e.ne Ms;generalize upd wa pa (.j [.y p1,.y p2,.y p3,.y p4,.y p5])=Lh at ga Se ⊢;dsimp only[cZ,eD];show⟨_,Y,_,Y,_,Y,t,sl,7,Y,Se.e.tp,JL,JL,λ m6 G6 d6 t6 a6 b6=>⟨(sz0 3),λ p6 Xd=>?_⟩⟩;let ga6:=d6 _ _ na ga;let Sf:=(Se.draw tp d6 t6).new tp Xd (kT (wd :="soonest") (ns:=[n,m6]) JK (show 2=kG _ by decide +kernel) (two yy Mx a6 JM) (.p JK));dsimp only[List.map]at Sf;let Kc:=È (o:=HO.lst [.o "soonest",.u n,.u m6]) Xd _ _ ga6;generalize upd G6 p6 (.j [.o "soonest",.u n,.u m6])=Xe at Sf Kc ⊢;show⟨_,Y,(sz0 2),λ p7 Gf=>?_⟩;let My:=Sf.new tp Gf (kT (wd :="tips") (ns:=[n]) JK (show 1=kG _ by decide +kernel) (one yy Mx) (.p JK));dsimp only[List.map]at My;let Kd:=È (o:=HO.lst [.o "tips",.u n]) Gf _ _ Kc;generalize upd Xe p7 (.j [.o "tips",.u n])=H13 at My Kd ⊢;show⟨_,Y,t,sl,3,Y,My.e.tp,JL,JL,λ m8 G8 d8 t8 a8 b8=>⟨(sz0 2),λ p8 Xf=>?_⟩⟩;let ga8:=d8 _ _ na Kd;let Sg:=(My.draw tp d8 t8).new tp Xf (kT (wd :="go") (ns:=[m8]) JK (show 1=kG _ by decide +kernel) (one a8 JM) (.x λ x hx=>by let:=ã.1 hx;lia));dsimp only[List.map]at Sg;let Ke:=È (o:=HO.lst [.o "go",.u m8]) Xf _ _ ga8;generalize upd G8 p8 (.j [.o "go",.u m8])=Xg at Sg Ke ⊢;show⟨(sz0 1),λ p9 Xh=>?_⟩;let Sh:=Sg.new tp Xh (bk);dsimp only[List.map]at Sh;let Kf:=È (o:=HO.lst [.o "back"]) Xh _ _ Ke;generalize upd Xg p9 (.j [.o "back"])=Si at Sh Kf ⊢;show⟨(sz0 4),λ pb Mt=>?_⟩;let gb:upd Si pb (.j [.y p6,.y p7,.y p8,.y p9]) pb=O (.j [.y p6,.y p7,.y p8,.y p9]):=aD;let Sj:=Sh.oth (o:=HO.lst [.y p6,.y p7,.y p8,.y p9]) Mt;let Kg:=È (o:=HO.lst [.y p6,.y p7,.y p8,.y p9]) Mt _ _ Kf;generalize upd Si pb (.j [.y p6,.y p7,.y p8,.y p9])=Sk at gb Sj Kg ⊢;show⟨pa,pb,_,_,Y,Y,Kg,gb,(sz0 9),λ pc Xi=>?_⟩;let gc:upd Sk pc (.j [.y p1,.y p2,.y p3,.y p4,.y p5,.y p6,.y p7,.y p8,.y p9]) pc=O (.j [.y p1,.y p2,.y p3,.y p4,.y p5,.y p6,.y p7,.y p8,.y p9]):=aD;let Sl:=Sj.oth (o:=HO.lst [.y p1,.y p2,.y p3,.y p4,.y p5,.y p6,.y p7,.y p8,.y p9]) Xi;let nc:pc≠t:=Sj.e.ne Xi;dsimp only[cZ,eD,ŀ,ł];generalize upd Sk pc (.j [.y p1,.y p2,.y p3,.y p4,.y p5,.y p6,.y p7,.y p8,.y p9])=Sm at gc Sl ⊢;show⟨_,Y,_,Y,t,sl,9,Y,Sl.e.tp,JL,JL,λ z G9 d9 t9 z0 z1=>?_⟩;let Xj:=Sl.draw tp d9 t9;let gc9:=d9 _ _ nc gc;let⟨i,Y⟩:=Ē z0;let hi9:i < 9:=by lia
  obtain⟨y,hy,hm⟩:∃ y:Á×Str×List Int,([V.ref p1,.y p2,.y p3,.y p4,.y p5,.y p6,.y p7,.y p8,.y p9]:List V)[i]?=O (.y y.1)/\y∈[(p9,("back":Str),([]:List Int)),(p8,"go",[m8]),(p7,"tips",[n]),(p6,"soonest",[n,m6]),(p5,"stuck",[n]),(p4,"round",[]),(p3,"back",[]),(p2,"go",[m2]),(p1,"pour",[n,m1])]:=by
   match i,hi9 with
   |0,_=>show⟨(p1,"pour",[n,m1]),Y,JN⟩
   |1,_=>show⟨(p2,"go",[m2]),Y,JN⟩
   |2,_=>show⟨(p3,"back",[]),Y,JN⟩
   |3,_=>show⟨(p4,"round",[]),Y,JN⟩
   |4,_=>show⟨(p5,"stuck",[n]),Y,JN⟩
   |5,_=>show⟨(p6,"soonest",[n,m6]),Y,JN⟩
   |6,_=>show⟨(p7,"tips",[n]),Y,JN⟩
   |7,_=>show⟨(p8,"go",[m8]),Y,JN⟩
   |8,_=>show⟨(p9,"back",[]),Y,JN⟩
  let⟨y1,y2,y3⟩:=Xj.a y hm;show .p ⟨pc,_,((i:Nat):Int),_,Y,Y,É gc9,hW hy,k y.1 y.2.1 y.2.2 G9 Xj.e y3 y1 y2⟩
end
structure Dj32 (t sl nl dl rl:Á) (fd fr:Bool->List Á):Prop where
 b1:∀ x∈[t,sl,nl,dl,rl],∀ b,x∉fd b/\x∉fr b
 nt:∀ x∈[nl,dl,rl],x≠t
 dr:∀ b c x,x∈fd b->x∉fr c
 dd:∀ b x,x∈fd b->x∉fd (!b)
 rr:∀ b x,x∈fr b->x∉fr (!b)
def VD  (F:Fr H H' [fr EA,fr JJ,[rl],fd EA,fd JJ,[dl]]) (o1:∃ o,H t=O o) (o2:∃ o,H sl=O o) (o3:∃ o,H nl=O o) (ht:t≠nl):Dj32 t sl nl dl rl fd fr:=by
 refine_lift let iR:Bool->Nat:=λ b=>if b then 0 else 1;?_
 refine_lift let iD:Bool->Nat:=λ b=>if b then 3 else 4;?_
 let gR:∀ b,([fr EA,fr JJ,[rl],fd EA,fd JJ,[dl]]:List (List Á))[iR b]?=O (fr b):=λ b=>by ext b <;> rfl
 let gD:∀ b,([fr EA,fr JJ,[rl],fd EA,fd JJ,[dl]]:List (List Á))[iD b]?=O (fd b):=λ b=>by ext b <;> rfl
 let lj:∀ x,(∃ o,H x=O o)->∀ b,x∉fd b/\x∉fr b:=λ x ⟨o,e⟩ b=>⟨F.old e (Ô (gD b)),F.old e (Ô (gR b))⟩;let new:∀(i:Nat) (x:Á),(i=2\/i=5)->([fr EA,fr JJ,[rl],fd EA,fd JJ,[dl]]:List (List Á))[i]?=O [x]->∀ b,x∉fd b/\x∉fr b:=λ i x hi e b=>by
  let m:x∈[x]:=ã.2 rfl;show⟨F.at (i:=i) (j:=iD b) ?_ e (gD b) x m,F.at (i:=i) (j:=iR b) ?_ e (gR b) x m⟩
  all_goals (rcases hi with rfl|rfl <;> ext b <;> decide)
 let tn:∀(i:Nat) (x:Á),([fr EA,fr JJ,[rl],fd EA,fd JJ,[dl]]:List (List Á))[i]?=O [x]->x≠t:=λ i x e z=>by
  let⟨o,e1⟩:=o1;show F.old e1 (Ô e) (by rw[z];show ã.2 Y)
 show⟨λ x hx b=>?_,λ x hx=>?_,λ b c x hx z=>?_,λ b x hx z=>?_,λ b x hx z=>?_⟩
 ·simp only[Ð,ā,or_false]at hx;rcases hx with rfl|rfl|rfl|rfl|rfl
  ·show lj _ o1 b
  ·show lj _ o2 b
  ·show lj _ o3 b
  ·show new 5 _ (.x Y) Y b
  ·show new 2 _ (.p Y) Y b
 ·simp only[Ð,ā,or_false]at hx;rcases hx with rfl|rfl|rfl
  ·show ht.symm
  ·show tn 5 _ Y
  ·show tn 2 _ Y
 ·show F.at (i:=iD b) (j:=iR c) (by ext b <;> ext c <;> decide) (gD b) (gR c) x hx z
 ·show F.at (i:=iD b) (j:=iD (!b)) (by ext b <;> decide) (gD b) (gD (!b)) x hx z
 ·show F.at (i:=iR b) (j:=iR (!b)) (by ext b <;> decide) (gR b) (gR (!b)) x hx z
structure D32 (K:Ç) (C CD Pt:Á) (H:Hp) (t sl nl dl rl:Á) (dk e r:Bool->Á) (fd fr:Bool->List Á) (p:Bool->V) (net:Bool->Net) (S T:Bool->RunS):Prop where
 tp:gP H t sl
 hn:H nl=O (.j (two p))
 hd:H dl=O (.j (two λ b=>.ref (dk b)))
 hr:H rl=O (.j (two λ b=>.ref (r b)))
 di:∀ b,∃ dx,H (dk b)=O (.ins CD dx [("run",.y (e b))])
 de:∀ b,bP K C H (e b) (S b) (fd b)
 ra:∀ b,bP K C H (r b) (T b) (fr b)
 np:∀ b,Is K H (gE (net b)) (p b)
 tab:cB H Pt gX pF
section
variable {CD Pt:Á}{H H':Hp}{t sl nl dl rl:Á}{dk e r:Bool->Á}{fd fr:Bool->List Á}{p:Bool->V}{net:Bool->Net}{S T:Bool->RunS}
def tN  (h1:H x=O (.j xs)) (h2:H y=O (.ins c d f)):x≠y:=λ z=>by rw[z,h2]at h1;cases h1
def D32.same (h:D32 K C CD Pt H t sl nl dl rl dk e r fd fr p net S T) (s:aI H H'):D32 K C CD Pt H' t sl nl dl rl dk e r fd fr p net S T:=
 ⟨h.tp.same s,s _ _ h.hn,s _ _ h.hd,s _ _ h.hr,λ b=>(h.di b).imp λ dx q=>s _ _ q,λ b=>(h.de b).same s,λ b=>(h.ra b).same s,λ b=>Ì s.ts _ _ (h.np b),h.tab.same s⟩
def D32.draw (h:D32 K C CD Pt H t sl nl dl rl dk e r fd fr p net S T) (j:Dj32 t sl nl dl rl fd fr) (b:cI t H H') (Sc:gP H' t sl):D32 K C CD Pt H' t sl nl dl rl dk e r fd fr p net S T:=by
 let⟨q,ht⟩:=h.tp.l;show⟨Sc,b _ _ (j.nt _ JN) h.hn,b _ _ (j.nt _ JN) h.hd,b _ _ (j.nt _ JN) h.hr,λ c=>?_,λ c=>?_,λ c=>?_,λ c=>Ì (b.ts h.tp.mut) _ _ (h.np c),kI h.tab b h.tp.mut⟩
 ·let⟨dx,q2⟩:=h.di c;show⟨dx,b _ _ (tN ht q2).symm q2⟩
 ·let⟨dx,np,R,M,T',ei⟩:=(h.de c).ins;show(h.de c).but b h.tp.mut (tN ht ei) (j.b1 t JN c).1
 ·let⟨dx,np,R,M,T',ei⟩:=(h.ra c).ins;show(h.ra c).but b h.tp.mut (tN ht ei) (j.b1 t JN c).2
def bP.ask  (c:bP K C H a R fp) (tab:cB H Pt gX pF) (b:dP (Pt::L) H H') (hl:∀ x∈L,∃ xs,H x=O (.j xs)) (hd:∀ x∈fp,x∉L):bP K C H' a R fp:=by
 let⟨dx,np,R,M,T,ts,rs,ms,mv,c,Y⟩:=c;show⟨dx,np,R,M,T,ts,rs,ms,mv,c.keep (DH tab b hl) λ x hx=>?_,Y⟩;rcases Ð.1 hx with rfl|hx
 ·rw[DI tab b hl c.ins (λ _ z=>by ext z) (λ _ z=>by ext z),c.ins]
 ·let⟨xs,e⟩:=c.lists x hx;let⟨ps,hp⟩:=tab.some;rw[b x _ (λ z=>by
   rcases Ð.1 z with z|z
   ·rw[z,hp]at e;cases e
   ·show hd x hx z) e,e]
def D32.mv (h:D32 K C CD Pt H t sl nl dl rl dk e r fd fr p net S T) (bl:dP (Pt::L) H H') (Ah:cB H' Pt gX pF) (hL:∀ x∈L,∃ xs,H x=O (.j xs)) (h0:∀ x∈[t,sl,nl,dl,rl],x∉L)
  (hde:∀ b,bP K C H' (e b) (S' b) (fd b)\/(S' b=S b/\∀ x∈fd b,x∉L)) (Jq:∀ b,bP K C H' (r b) (T' b) (fr b)\/(T' b=T b/\∀ x∈fr b,x∉L)) :
  D32 K C CD Pt H' t sl nl dl rl dk e r fd fr p net S' T':=by
 let⟨ps,hp⟩:=h.tab.some;let kl:∀ {x:Á}{xs:List V},x∉L->H x=O (.j xs)->H' x=O (.j xs):=λ {x xs} n q=>bl x _ (λ z=>by
  rcases Ð.1 z with z|z
  ·rw[z,hp]at q;cases q
  ·show n z) q
 let⟨ns,pos,cell,et,es,g⟩:=h.tp;show⟨⟨ns,pos,cell,kl (h0 _ JN) et,kl (h0 _ JN) es,g⟩,kl (h0 _ JN) h.hn,kl (h0 _ JN) h.hd,kl (h0 _ JN) h.hr,λ c=>?_,λ c=>?_,λ c=>?_,λ c=>Ì (DH h.tab bl hL) _ _ (h.np c),Ah⟩
 ·let⟨dx,q⟩:=h.di c;show⟨dx,DI h.tab bl hL q (λ _ z=>by ext z) (λ _ z=>by ext z)⟩
 ·rcases hde c with q|⟨q,q2⟩
  ·show q
  ·rw[q];show(h.de c).ask h.tab bl hL q2
 ·rcases Jq c with q|⟨q,q2⟩
  ·show q
  ·rw[q];show(h.ra c).ask h.tab bl hL q2
def D32.wr (h:D32 K C CD Pt H t sl nl dl rl dk e r fd fr p net S T) {D:Á} (hD:H D=O (.j rr)) (n:D∉[t,sl,nl,dl,rl]) (n2:∀ b,D∉fd b/\D∉fr b):D32 K C CD Pt (upd H D (.j xs)) t sl nl dl rl dk e r fd fr p net S T:=by
 let b:cI D H (upd H D (.j xs)):=Û;show h.mv (L:=[D]) (λ x o hx q=>b x o (λ z=>hx (by rw[z];simp)) q) (kI h.tab b (by rw[hD];show trivial)) (λ x hx=>⟨rr,by rw[ã.1 hx];show hD⟩) (λ x hx z=>n (by rw[<- ã.1 z];show hx)) (λ c=>.inr ⟨Y,λ x hx z=>(n2 c).1 (by rw[<- ã.1 z];show hx)⟩) λ c=>.inr ⟨Y,λ x hx z=>(n2 c).2 (by rw[<- ã.1 z];show hx)⟩
def D32.fresh (h:D32 K C CD Pt H t sl nl dl rl dk e r fd fr p net S T) {D:Á} (hD:H D=W):D∉[t,sl,nl,dl,rl]/\(∀ b,D∉fd b/\D∉fr b)/\D≠Pt:=by
 let ne:∀ {x:Á}{o:HO},H x=O o->D≠x:=λ q z=>by rw[z,q]at hD;cases hD
 let⟨ns,pos,cell,et,es,g⟩:=h.tp;let⟨ps,hp⟩:=h.tab.some;show⟨?_,λ b=>⟨(h.de b).notfp hD,(h.ra b).notfp hD⟩,ne hp⟩;simp only[Ð,ā,or_false,not_or];show⟨ne et,ne es,ne h.hn,ne h.hd,ne h.hr⟩
def D32.desk  (h:D32 K C CD Pt H t sl nl dl rl dk e r fd fr p net S T) (j:Dj32 t sl nl dl rl fd fr) (bl:dP (Pt::fd b) H H') (Ah:cB H' Pt gX pF) (ra:bP K C H' (e b) S' (fd b)):D32 K C CD Pt H' t sl nl dl rl dk e r fd fr p net (put S b S') T:=by
 show h.mv bl Ah (h.de b).lists (λ x hx=>(j.b1 x hx b).1) (λ c=>?_) λ c=>.inr ⟨Y,λ x hx z=>j.dr b c x z hx⟩
 by_cases hc:c=b
 ·subst hc;rw[oA];show .p ra
 ·rw[wP hc];let:=Q8 hc;subst this;show .x ⟨Y,λ x hx z=>j.dd b x z hx⟩
def D32.law  (h:D32 K C CD Pt H t sl nl dl rl dk e r fd fr p net S T) (j:Dj32 t sl nl dl rl fd fr) (bl:dP (Pt::fr b) H H') (Ah:cB H' Pt gX pF) (ra:bP K C H' (r b) T' (fr b)):D32 K C CD Pt H' t sl nl dl rl dk e r fd fr p net S (put T b T'):=by
 show h.mv bl Ah (h.ra b).lists (λ x hx=>(j.b1 x hx b).2) (λ c=>.inr ⟨Y,λ x hx z=>j.dr c b x hx z⟩) λ c=>?_
 by_cases hc:c=b
 ·subst hc;rw[oA];show .p ra
 ·rw[wP hc];let:=Q8 hc;subst this;show .x ⟨Y,λ x hx z=>j.rr b x z hx⟩
end
section
variable {CD Pt:Á}
def OB (K:Ç) (Pt:Á):Sp:=λ vs H Q _=>∃(a:Á) (ns:List Int),vs=[.y a]/\bC K H a (ns.map V.int)/\ns.Z<=63/\cB H Pt gX pF/\∀ H',Q (.bl EA) H'
def spT (K:Ç):List (Á×Á)->Sp
 |[q]=>OB K q.2
 |_=>λ vs _ _ _=>vs.Z=1
def O6 (K:Ç):∀(jg:List (Á×Á)) (H:Hp) (a:Á) (ns:List Int),ns.Z<=63->LC jg H->bC K H a (ns.map V.int)->(∀ q∈jg,H q.2=O (.tbl #[]))->spT K jg [.y a] H (λ v _=>v=.bl EA) λ _ _ _=>False
 |[],_,_,_,_,_,_,_=>rfl
 |[q],H,a,ns,hl,_,hS,hT=>⟨a,ns,rfl,hS,hl,.p (hT q JN),λ _=>rfl⟩
 |_::_::_,_,_,_,_,_,_,_=>rfl
def pT:List Str:=["held","coming","tick","came","grounded"]
def NE {m:Nat} (h:pT[m]?=O wd):∃ z,(wG S)[m]?=O z/\eC S L wd []=((S,L),.told z):=by
 match m,h with
 |0,h=>ext h;show⟨_,Y,iP JK S L []⟩
 |1,h=>ext h;show⟨_,Y,iP JK S L []⟩
 |2,h=>ext h;show⟨_,Y,iP JK S L []⟩
 |3,h=>ext h;show⟨_,Y,iP JK S L []⟩
 |4,h=>ext h;show⟨_,Y,iP JK S L []⟩
 |m+5,h=>simp[pT]at h
def QJ  (h:wd∈pT):wd∈sP/\kG wd=0:=(by decide +kernel:∀ x∈pT,x∈sP/\kG x=0) wd h
def TH  (h:wd∈OI):wd∈sP:=(by decide +kernel:∀ x∈OI,x∈sP) wd h
def XY (F:Fun K "law" "law" (aX 112) f fd) (T:Txt mg) (TS:TxtS mg)
  (ib:Callee P w K mg base "_law_draw" ["tape","many"] 1 mB f1 jf)
  (rg:Callee P w K mg base "_law_net" ["tape","most","small"] 4 (OA K) f2 ka)
  (vo:Callee P w K mg base "_law_text" ["net"] 2 (AO K) f3 oq)
  (uj:MkCalR P w K mg base CD "Desk" ["self","text"] 7 (qY K C CD) f4 wg)
  (oo:MkCal P w K mg base C "Run" ["self","net"] 5 (AT K C) f5 Be)
  (vp:Callee P w K mg base "_law_said" ["desk","row"] 11 (J1 K C CD Pt) f6 Kb)
  (wx:Callee P w K mg base "_law_row" ["tape","net"] 2 (O7 K) f7 fd7)
  (wy:Callee P w K mg base "_law_due" ["row","net","run"] 12 (JG K C Pt) f8 fd8)
  (uk:Callee P w K mg base "_law_sides" ["run"] 2 (IZ K C) f9 fd9)
  (jq:MCalR P w K mg base CD "say" ["self","row"] 10 (GY K C CD ic gx gv gy gz ia Pt) Xk Sn):FnOk P w K mg base gT 13 f fd ["script"] (OB K Pt):=by
 show F.ok ["script","tape","nets","desks","runs","turn","at","row","due","k"] λ sc ir A outer s H vs Q E hr h=>?_
 ·let⟨a,ns,Y,hS,io,tab,k⟩:=h;show⟨_,(aE (pL 1 sc.nd (aY (a9 (aP (lV (K:=K) Y) Y T.b_list sM (a9 (pv 0) aB)) (a9 aH (a9 aH aB)))))
   (aE (pL 2 sc.nd (aY (a9 (cD rg hr (a9 (pv 1) (a9 aH (a9 (fH eA (cD ib hr (a9 (pv 1) (a9 aH aB))) aH (aW _)) aB)))) (a9 (cD rg hr (a9 (pv 1) (a9 aH (a9 iL aB)))) aB))))
   (aE (bK (aR eA (cD ib hr (a9 (pv 1) (a9 aH aB))) aH (aW _)) (aG (bF (px K (pv 2) aH) (tF (pv 2) aH jD))) aS)
   (aE (wQ (i:=3) sc.nd Y (Or.inr Y) (hJ (λ _ _ h=>h) Y (LcOk.mk (N':=["net"]) (fr:=[W]) Y trivial Y Y Y Y Y trivial) (gA (K:=K) Y (pv 2)) (λ _ _ _=>(gC 0 ["net"])) (λ _ _ _=>cP) (λ _ _ _=>(BN uj.make uj.ok (hr.mono JL) Y uj.mg uj.bd .nil HJ (a9 (cD vo hr (a9 (pv 0) aB)) aB)))))
   (aE (jS (i:=4) sc.nd Y Y (λ _ _ h=>h) Y (LcOk.mk (N':=["net"]) (fr:=[W]) Y trivial Y Y Y Y Y trivial) (gA (K:=K) Y (pv 2)) (λ _ _ _=>(gC 0 ["net"])) (λ _ _ _=>cP) (λ _ _ _=>(BN oo.make oo.ok (hr.mono JL) Y oo.mg oo.bd .nil jY (a9 (pv 0) aB))))
   (aE (eE ú Y (eX Y T.b_range (a9 (bA dM aH (cD ib hr (a9 (pv 1) (a9 aH aB)))) aB)) (gL 5 sc.nd) (aE (pL 6 sc.nd (cD ib hr (a9 (pv 1) (a9 aH aB))))
   (aE (pL 7 sc.nd (cD wx hr (a9 (pv 1) (a9 (px K (pv 2) (pv 6)) aB))))
   (aE (pL 8 sc.nd (cD wy hr (a9 (pv 7) (a9 (px K (pv 2) (pv 6)) (a9 (px K (pv 4) (pv 6)) aB)))))
   (aE (bK (aR (jJ.or zV (HM (K:=K) Y hr.R)) (cD vp hr (a9 (px K (pv 3) (pv 6)) (a9 (iV (K:=K) Y ė Ę (fN (K:=K) Y) aL (a9 (hJ (λ _ _ h=>h) Y (LcOk.mk (N':=["part"]) (fr:=[W]) Y trivial Y Y Y Y Y trivial) (BL (K:=K) Y (pv 7)) (λ _ _ _=>(gC 0 ["part"])) (λ _ _ _=>cP) (λ _ _ _=>(aP cE Y TS.b_str cK (a9 (pv 0) aB)))) aB)) aB))) (pv 8) (aW _)) (aG (aO iL)) aS)
   (aG (eE ú Y (eX Y T.b_range (a9 aH aB)) (mK (i:=9) sc.nd Y (Or.inr Y)) (aG (bK (aR (EQ (K:=K) Y hr.R) (hJ (λ _ _ h=>h) Y (LcOk.mk (N':=["word","desks","k"]) (fr:=[W,O 3,O 9]) Y ⟨Y,Y,trivial⟩ Y Y Y Y Y ⟨⟨_,Y,Y,Y,Y⟩,⟨_,Y,Y,Y,Y⟩,trivial⟩) (gA (K:=K) Y (aY (a9 aL (a9 aL (a9 aL (a9 aL (a9 aL aB))))))) (λ _ _ _=>(gC 0 ["word","desks","k"])) (λ _ _ _=>cP) (λ _ _ _=>(kU (px K (pv 1) (pv 2)) jq.cls jq.mt jq.ok (hr.mono JL) jq.bd .nil HJ (a9 (pv 0) aB)))) (cD uk hr (a9 (px K (pv 4) (pv 9)) aB)) (aW _)) (aG (aO iL)) aS)))))))))
   (aG (aO iL)))))))),?_⟩
  show⟨_,Y,a,_,Y,.p hS,λ sl qj=>⟨(sz0 3),λ t ht=>?_⟩⟩;let Az:sl≠t:=aM (show upd H sl (.j (ns.map V.int)) sl=_ from aD) ht;let So:gP (upd (upd H sl (.j (ns.map V.int))) t (.j [.y sl,.u 0,.u 0])) t sl:=⟨ns,0,0,aD,by rw[aK Az];show aD,JM⟩;let Er:=tab.same ((È (o:=HO.lst (ns.map V.int)) qj).trans (È (o:=HO.lst [.y sl,.u 0,.u 0]) ht));generalize upd (upd H sl (.j (ns.map V.int))) t (.j [.y sl,.u 0,.u 0])=H0 at So Er;show⟨_,Y,_,Y,t,sl,2,Y,So,JL,JL,λ d Hd bd td d0 d1=>⟨Y,t,sl,5,_,Y,JL,JL,td,λ A0 p0 H1 e1 Es Et wf Mz=>⟨_,Y,t,sl,3,EA,Y,JL,JL,e1.tp,λ B0 p1 H2 e2 Kh Ki Fp Ce=>⟨(sz0 2),λ nl Cc=>?_⟩⟩⟩⟩;let Ae:=kI (kI (kI Er bd So.mut) e1.bt td.mut) e2.bt e1.tp.mut;let Mz:=Ì (e2.bt.ts e1.tp.mut) _ _ Mz;let s3:=È (o:=HO.lst [p0,p1]) Cc;let g3:upd H2 nl (.j [p0,p1]) nl=O (.j [p0,p1]):=aD;let Eu:=e2.tp.same s3;let Bm:=Ae.same s3;let i0:=Ì s3.ts _ _ Mz;let i1:=Ì s3.ts _ _ Ce;let Ep:nl≠t:=λ z=>by let⟨o,e⟩:=e2.tp.some;rw[z,e]at Cc;cases Cc
  let Rm:nl≠sl:=e2.tp.ne_sl Cc;generalize upd H2 nl (.j [p0,p1])=H3 at s3 g3 Eu i0 i1 Bm;dsimp only[cZ];show TD (λ ac H'=>∃(net:Bool->Net) (p:Bool->V),gP H' t sl/\cB H' Pt gX pF/\H' nl=O (.j (two p))/\(∀ b,NetOk (net b)/\NetFull (net b)/\Is K H' (gE (net b)) (p b))/\
   ac=[O (.y a),O (.y t),O (.y nl),W,W,W,W,W,W,W]) (λ R hD=>?_) ?_
  ·dsimp only[jG];show⟨_,Y,t,sl,_,Y,Eu,JL,JL,λ d H4 b4 t4 d0 d1=>⟨Y,_,Y,iN (λ _=>?_) λ _=>?_⟩⟩
   ·let g4:=b4 _ _ Ep g3;let mu:lX (H4 nl):=by rw[g4];show trivial
    let Bh:=(b4.ts (K:=K) Eu.mut).trans (ă (K:=K) (Û (o:=HO.lst [p0,p0])) mu);show⟨_,Y,.p ⟨nl,_,0,_,Y,Y,É g4,Y,_,Y,nl,_,1,1,Y,Y,g4,Y,?_⟩⟩;show hD _ _ ⟨λ _=>A0,λ _=>p0,t4.put Ep Rm,kI (kI Bm b4 Eu.mut) Û mu,aD,λ _=>⟨Es,Et,Ì Bh _ _ i0⟩,Y⟩
   ·let Bh:=b4.ts (K:=K) Eu.mut;show hD _ _ ⟨λ b=>if b then B0 else A0,λ b=>if b then p1 else p0,t4,kI Bm b4 Eu.mut,b4 _ _ Ep g3,λ b=>match b with
     |false=>⟨Es,Et,Ì Bh _ _ i0⟩
     |true=>⟨Kh,Ki,Ì Bh _ _ i1⟩,Y⟩
  clear i0 i1 Eu g3 s3 Mz Ce Es Kh Et Ki wf Fp e1 e2 Bm Ae Er bd td;rintro ac H4 zQ;let⟨net,p,Nb,Kj,Ev,sv,Y⟩:=zQ;let Ck:∀ b,Is K H4 (gE (net b)) (p b):=λ b=>(sv b).2.2;let ntsl:t≠sl:=λ z=>Az z.symm;show⟨_,Y,nl,Y,⟨_,É Ev⟩,QL (K:=K) (p:=p) (λ b v g U=>∃ dk dx e,v=.y dk/\U dk=O (.ins CD dx [("run",.y e)])/\bP K C U e (qA (net b)) g) Y Ev (λ b U Q1 sU q1=>?_) ?_ ?_⟩
  ·show UX (C:=C) (Ì sU.ts _ _ (Ck b)) (sv b).1 (sv b).2.1 λ dk dx e fp H5 s5 hf hi ra=>q1 _ fp H5 s5 (λ x hx=>⟨hf x hx,by let⟨xs,q⟩:=ra.lists x hx;show⟨_,q⟩⟩) ⟨dk,dx,e,Y,hi,ra⟩
  ·rintro b v g U U' D xs ⟨dk,dx,e,rfl,hi,ra⟩ bu hD hg;let⟨Ka,np,R,M,T2,ei⟩:=ra.ins;show⟨dk,dx,e,Y,bu _ _ (tN hD hi).symm hi,ra.but bu (by rw[hD];show trivial) (tN hD ei) hg⟩
  intro dl yd fd H5 Cz Xl s5 ad F5;show⟨_,Y,nl,Y,⟨_,É (s5 _ _ Ev)⟩,QL (K:=K) (p:=p) (λ b v g U=>∃ r,v=.y r/\bP K C U r (qA (net b)) g) Y (s5 _ _ Ev) (λ b U Q1 sU q1=>?_) ?_ ?_⟩
  ·show⟨_,Y,λ r dx hr Rv ndx=>?_⟩;let m1:aI U (upd (upd U dx (.own r)) r (.ins C dx [])):=λ b o e=>by
    rw[aK (aM e hr),aK (aM e Rv)];show e
   show⟨r,dx,p b,net b,Y,aD,Ì ((s5.trans sU).trans m1).ts _ _ (Ck b),(sv b).1,(sv b).2.1,λ fp H6 Rr bt ra=>⟨Y,?_⟩⟩;show q1 _ fp H6 (λ b o q=>bt b o (aM q hr) (m1 b o q)) (λ x hx=>⟨m1.free (Rr x hx),by let⟨xs,q⟩:=ra.lists x hx;show⟨_,q⟩⟩) ⟨r,Y,ra⟩
  ·rintro b v g U U' D xs ⟨r,rfl,ra⟩ bu hD hg;let⟨Ka,np,R,M,T2,ei⟩:=ra.ins;show⟨r,Y,ra.but bu (by rw[hD];show trivial) (tN hD ei) hg⟩
  intro rl yr fr H6 pk Xm s6 ar F6;let Kk:=s5.trans s6;dsimp only [cZ];let⟨dk,ad⟩:=skB ad;let⟨dx,ad⟩:=skB ad;let⟨e,ad⟩:=skB ad;let⟨r,ar⟩:=skB ar;obtain rfl:yd=λ b=>.ref (dk b):=funext λ b=>(ad b).1;obtain rfl:yr=λ b=>.ref (r b):=funext λ b=>(ar b).1;let dj:Dj32 t sl nl dl rl fd fr:=VD (F5.trans F6) Nb.some (by let⟨ns,pos,cell,_,q,_⟩:=Nb;show⟨_,q⟩) ⟨_,Ev⟩ Ep.symm;let c0:D32 K C CD Pt H6 t sl nl dl rl dk e r fd fr p net (λ b=>qA (net b)) (λ b=>qA (net b)):=
   ⟨Nb.same Kk,Kk _ _ Ev,s6 _ _ Xl,Xm,λ b=>⟨dx b,s6 _ _ (ad b).2.1⟩,λ b=>((ad b).2.2).same s6,λ b=>(ar b).2,λ b=>Ì Kk.ts _ _ (Ck b),Kj.same Kk⟩
  let Xn:∀ b,Sd (net b) (qA (net b)) [] 0:=λ b=>Sd.zero (sv b).1 (sv b).2.1;clear ad ar F5 F6 s5 s6 Kk Xl Xm Cz pk Ck Ev Nb Kj;show⟨_,Y,t,sl,_,Y,c0.tp,JL,JL,λ c H9 b9 t9 Mf Vk=>⟨_,_,Y,Y,?_⟩⟩;let c9:=c0.draw dj b9 t9;show⟨_,Y,JM,JM,?_⟩;show jT (lo:=0) (n:=(1+c).toNat) (λ i ac H'=>∃ S L,D32 K C CD Pt H' t sl nl dl rl dk e r fd fr p net S S/\(∀ b,Sd (net b) (S b) (L b) i)/\∃ v5 v6 v7 v8 v9,ac=[O (.y a),O (.y t),O (.y nl),O (.y dl),O (.y rl),v5,v6,v7,v8,v9])
   ⟨_,λ _=>[],c9,Xn,_,_,_,_,_,rfl⟩ ?_ ?_
  rotate_left
  ·rintro ac wa _;show k wa
  clear c0 c9 Xn;rintro i ac wa hi zQ;let⟨S,L,Sq,hS,v5,v6,v7,v8,v9,Y⟩:=zQ;let hi60:i < 60:=by lia
  show⟨_,Y,t,sl,_,Y,Sq.tp,JL,JL,λ at_ Lh b11 Nc a0 a1=>?_⟩;let Cm:=Sq.draw dj b11 Nc;let⟨b,Y⟩:=WN a0 a1;clear Sq;dsimp only[cZ];show⟨_,Y,_,Y,_,Y,.p ⟨nl,_,bI b,_,Y,Y,É Cm.hn,pA _ b,t,sl,p b,net b,Y,Cm.tp,Cm.np b,(sv b).1,λ q wd ms Xe Xo rx Nd hq=>?_⟩⟩;let Ew:=Cm.draw dj Xo.bt Xo.tp;let Xp:=(Cm.ra b).notfp Nd;let nqd:=(Cm.de b).notfp Nd;let nqp:q≠Pt:=λ z=>by let⟨ps,h⟩:=Cm.tab.some;rw[<- z,Nd]at h;cases h
  clear Cm;dsimp only[cZ];show⟨_,Y,_,Y,_,Y,.p ⟨nl,_,bI b,_,Y,Y,É Ew.hn,pA _ b,_,Y,_,Y,.p ⟨rl,_,bI b,_,Y,Y,É Ew.hr,pA _ b,q,r b,p b,wd,ms,S b,L b,net b,i,fr b,Y,hq,Ew.np b,Ew.ra b,hS b,JM,Ew.tab,rx,Xp,λ v Xg Sr Xq Kl an=>?_⟩⟩⟩;let Nf:=Ew.law dj Sr Xq Kl;let Km:=Sr _ _ (λ z=>by
   rcases Ð.1 z with z|z
   ·show nqp z
   ·show Xp z) hq
  let Xr:=(hS b).ask JM wd (λ x hx=>(rx.b x hx).1) rx.g;clear Ew Sr Xq Kl hq Nd;dsimp only[cZ];let⟨Ng,uo⟩:=Nf.di b;let he:(V.str wd::ms.map V.int).map DV=(wd::ms.map aU).map some:=by rw[Ø,Ø,iW rx.b];rfl
  let h2:=KQ wd;let Dq:=rx.l;show⟨_,Y,_,Y,.p ⟨dl,_,bI b,_,Y,Y,É Nf.hd,pA _ b,Y,CV (K:=K) (t:=JJ) Y (É Km) he (by rw[æ,Ê];lia) λ l Si Nh Kn=>?_⟩⟩;let Gk:=Nf.same Nh;let Xs:=TH rx.w;let wl:=(L7 Xs).2.2;show⟨" ",l,_,Y,Y,É Kn,jP (B:=9) (λ a ha=>by
   rcases Ð.1 ha with rfl|ha
   ·lia
   ·let⟨n,hn,Y⟩:=Ù.1 ha;show fY (rx.b n hn).1 (rx.b n hn).2) JL (by rw[æ,Ê];lia),?_⟩
  rw[SM];dsimp only[jC,þ];show⟨dk b,Ng,e b,wd,ms,S b,L b,net b,i,fd b,Y,Nh _ _ uo,Gk.de b,hS b,JM,Gk.tab,Xs,rx.b,rx.l,λ v2 Sk Ss Xt Ko Xu=>?_⟩;let Su:=Gk.desk dj Ss Xt Ko;let Xv:=(an.same Nh).butL (L:=[]) (DH Gk.tab Ss (Gk.de b).lists);show⟨_,Y,uV.ne Xu Xv ⟨_,Y,bR ?_⟩⟩;let Kq:∀ c,Sd (net c) (put S b (eC (S b) (L b) wd ms).1.1 c) (put L b (eC (S b) (L b) wd ms).1.2 c) (i+1):=λ c=>by
   by_cases hc:c=b
   ·subst hc;rw[oA,oA];show Xr
   ·rw[wP hc,wP hc];show(hS c).up
  generalize put S b (eC (S b) (L b) wd ms).1.1=S' at Su Kq;generalize put L b (eC (S b) (L b) wd ms).1.2=L' at Kq;clear Nf Gk an Xv Xu Ss Xt Ko Xr uo Km Nh Kn rx Dq he;dsimp only[eD];show⟨2,Y,JL,JL,jT (lo:=0) (n:=2) (λ j ac H'=>D32 K C CD Pt H' t sl nl dl rl dk e r fd fr p net S' S'/\∃ v5 v6 v7 v8 v9,ac=[O (.y a),O (.y t),O (.y nl),O (.y dl),O (.y rl),v5,v6,v7,v8,v9]) ⟨Su,_,_,_,_,_,Y⟩ ?_ ?_⟩;rotate_left
  ·rintro ac Sm zQ;let⟨Gm,w5,w6,w7,w8,w9,Y⟩:=zQ;show⟨S',L',Gm,Kq,_,_,_,_,_,Y⟩
  clear Su;rintro j ac Sm hj zQ;let⟨Gm,w5,w6,w7,w8,w9,Y⟩:=zQ;let⟨b',mq⟩:=WN (n:=0+(j:Int)) JM JM;dsimp only[cZ];rw[mq];show⟨(sz0 5),λ wq Sv=>?_⟩;let Ni:=Gm.same (È (o:=HO.lst (pT.map V.str)) Sv);let Sw:upd Sm wq (.j (pT.map V.str)) wq=O (.j (pT.map V.str)):=aD;let nwd:=(Gm.de b').notfp Sv;let nwp:wq≠Pt:=λ z=>by let⟨ps,h⟩:=Gm.tab.some;rw[<- z,Sv]at h;cases h
  clear Gm;show⟨wq,Y,⟨_,É Sw⟩,oX (K:=K) (a:=wq) (xs:=pT.map V.str) (λ D m rr ac H'=>(D∉[t,sl,nl,dl,rl]/\(∀ b,D∉fd b/\D∉fr b)/\D≠Pt/\D≠wq)/\H' wq=O (.j (pT.map V.str))/\D32 K C CD Pt H' t sl nl dl rl dk e r fd fr p net S' S'/\H' D=O (.j rr)/\rr=((wG (S' b')).take m).map V.str/\∃ u,ac=[u,O (.y dl),O (.u (bI b'))])
   (λ D m rr ac H' p=>É p.2.1) (λ D hD=>⟨⟨(Ni.fresh hD).1,(Ni.fresh hD).2.1,(Ni.fresh hD).2.2,(aM Sw hD).symm⟩,È hD _ _ Sw,Ni.same (È hD),aD,Y,W,Y⟩) ?_ ?_⟩
  rotate_left
  ·rintro D m x rr ac H19 hx zQ;let⟨⟨f1,f2,f3,f4⟩,gw,c,jc,Y,u,Y⟩:=zQ;rw[Ö]at hx;let⟨wd',Ih,Y⟩:=ç.mp hx;let⟨z,hz,ea⟩:=NE (S:=S' b') (L:=L' b') Ih;let⟨l1,l2⟩:=QJ (Ô Ih);let Ws:m < 5:=(à.mp Ih).1;let⟨Ng,uo⟩:=c.di b';show⟨_,Y,_,Y,.p ⟨dl,_,bI b',_,Y,Y,É c.hd,pA _ b',dk b',Ng,_,Y,uo,Y,_,Y,dk b',Ng,e b',wd',[],S' b',L' b',net b',i+1,fd b',Y,uo,c.de b',Kq b',JM,c.tab,l1,(λ _ h=>nomatch h),l2.symm,λ H20 Sx t20 Kr=>?_⟩⟩;rw[ea]at Kr ⊢;let Xw:=c.desk dj Sx t20 Kr;rw[OW]at Xw;let Xx:=Sx _ _ (λ z=>by
    rcases Ð.1 z with z|z
    ·show f3 z
    ·show(f2 b').1 z) jc
   let w20:=Sx _ _ (λ z=>by
    rcases Ð.1 z with z|z
    ·show nwp z
    ·show nwd z) gw
   show⟨Xx,by rw[ê,Ê,ô];lia,⟨f1,f2,f3,f4⟩,by rw[aK f4.symm];show w20,Xw.wr Xx f1 f2,aD,?_,_,Y⟩;rw[fL hz,Ñ];rfl
  rintro D rr ac H20 zQ;let⟨_,gw,c,jc,Y,_,_⟩:=zQ;rw[show(wG (S' b')).take (pT.map V.str).length=wG (S' b')from rfl]at jc;show⟨_,Y,_,Y,.p ⟨rl,_,bI b',_,Y,Y,É c.hr,pA _ b',r b',S' b',fr b',i+1,Y,c.ra b',(Kq b').r,λ p' H21 Xy hp=>?_⟩⟩;show⟨⟨D,p',_,_,Y,Y,É (Xy _ _ jc),É hp,Y,λ i u v hu hv=>?_⟩,_,Y,bR ⟨c.same Xy,_,_,_,_,_,Y⟩⟩;rw[hu]at hv;ext hv;rw[Ö]at hu;let⟨y,_,Y⟩:=ç.mp hu;show .p ⟨.o y,by simp[L2.D.depth],.s _,.s _⟩
end
def QY {P:Ã}{w:World}{K:Ç}{a:Á}{ep:Nat}{l:List (Str×Tok×À)}{ii:List (gS×V)} (h:K.lookup a=O ⟨.q "dict",W,.dict (l.map λ q=>⟨PyData.keyHash w.params q.1,.o q.1 q.2.1,q.2.2⟩).toArray ep,#[]⟩)
  (nm:(a==sysModules)=JJ) (rel:Paired (λ p q=>p.1=kS q.1/\bE p.2 q.2.2) ii l) (nd:(l.map (·.1)).Nodup):KDt P w K a ii where
 nm:=nm
 ob:=λ h' hK=>by
  show⟨l.map λ q=>(kS q.1,q.2.2),?_,_,_,ep,hK a _ h,⟨Y,Y,Y⟩,Y,?_,?_,?_⟩
  ·clear h nd
   induction rel with
   |nil=>show .nil
   |cons h1 _ ih=>show .B h1 ih
  ·intro e he;let⟨q,_,Y⟩:=Ù.1 (List.mem_toArray.mp he);show⟨kS q.1,by change pU (kS q.1) (.o q.1 q.2.1)=EA;simp[pU,kS,Value.isStrOf],Y⟩
  ·rw[List.toList_toArray];clear h nd rel
   induction l with
   |nil=>show .nil
   |cons q l ih=>show .B (by change pU (kS q.1) (.o q.1 q.2.1)=EA;simp[pU,kS,Value.isStrOf]) Y ih
  ·rw[đ];let e:((λ x:gS×À=>x.1) ∘ λ q:Str×Tok×À=>(kS q.1,q.2.2))=kS ∘ λ q=>q.1:=rfl;rw[e,<- đ];show nd.map (f:=kS) (λ a b uq z=>uq (by unfold kS at z;ext z;rfl))
section
variable {cR cM cV cL cY cN Pt aA aN f1 f2 f3 f4 f5 f6 f7 f8 f9 g1 g2 g3 g4:Á}{t1 t2 t3 t4 t5 t6 t7 t8 t9 Xz Nc Ya Yb u1 u2 u3 u4 u5 v1 v2 v3 v4 v5:Tok}{m n:Nat}
def j9 (P:Ã) (w:World) (K:Ç) (mg:Str->Option À) (base:Heap) (C cR cM cV cL cY cN Pt:Á) (wd:Str) (f:Á):Prop:=∃ fd,FnOk P w K mg base (iS P w) 9 f fd ["run","numbers"] (mU K C cR cM cV cL cY cN Pt wd)/\PySem.W.keepIn K (.y f)=EA/\gW K fd ["run","numbers"] []
def oE  (h:∃ fd,FnOk P w K mg base (iS P w) 9 f fd ["run","numbers"] (iU K C cR cM cV wd)/\PySem.W.keepIn K (.y f)=EA/\gW K fd ["run","numbers"] []) (ho:wd ≠ "back" /\ wd ≠ "round" /\ wd ≠ "stuck" /\ wd ≠ "soonest"):j9 P w K mg base C cR cM cV cL cY cN Pt wd f:=by
 let⟨fd,h1,h2⟩:=h;show⟨fd,h1.imp (YM ho),h2⟩
def SW (mA:mg "ANSWERS"=O (.y aA)) (mN:mg "NUMBER_COUNTS"=O (.y aN))
  (hA:K.lookup aA=O ⟨.q "dict",W,.dict #[⟨PyData.keyHash w.params "pour",.o "pour" t1,.y f1⟩,⟨PyData.keyHash w.params "go",.o "go" t2,.y f2⟩,⟨PyData.keyHash w.params "held",.o "held" t3,.y f3⟩,⟨PyData.keyHash w.params "coming",.o "coming" t4,.y f4⟩,⟨PyData.keyHash w.params "doors",.o "doors" t5,.y f5⟩,⟨PyData.keyHash w.params "tick",.o "tick" t6,.y f6⟩,⟨PyData.keyHash w.params "came",.o "came" t7,.y f7⟩,⟨PyData.keyHash w.params "grounded",.o "grounded" t8,.y f8⟩,⟨PyData.keyHash w.params "tips",.o "tips" t9,.y f9⟩,⟨PyData.keyHash w.params "back",.o "back" Xz,.y g1⟩,⟨PyData.keyHash w.params "round",.o "round" Nc,.y g2⟩,⟨PyData.keyHash w.params "stuck",.o "stuck" Ya,.y g3⟩,⟨PyData.keyHash w.params "soonest",.o "soonest" Yb,.y g4⟩] m,#[]⟩)
  (hN:K.lookup aN=O ⟨.q "dict",W,.dict #[⟨PyData.keyHash w.params "pour",.o "pour" u1,.u 2 v1⟩,⟨PyData.keyHash w.params "go",.o "go" u2,.u 1 v2⟩,⟨PyData.keyHash w.params "tips",.o "tips" u3,.u 1 v3⟩,⟨PyData.keyHash w.params "stuck",.o "stuck" u4,.u 1 v4⟩,⟨PyData.keyHash w.params "soonest",.o "soonest" u5,.u 2 v5⟩] n,#[]⟩)
  (nA:(aA==sysModules)=JJ) (nN:(aN==sysModules)=JJ)
  (Ex:j9 P w K mg base C cR cM cV cL cY cN Pt "pour" f1) (Sy:j9 P w K mg base C cR cM cV cL cY cN Pt "go" f2) (Ey:j9 P w K mg base C cR cM cV cL cY cN Pt "held" f3) (Ai:j9 P w K mg base C cR cM cV cL cY cN Pt "coming" f4) (Ez:j9 P w K mg base C cR cM cV cL cY cN Pt "tick" f6) (Fa:j9 P w K mg base C cR cM cV cL cY cN Pt "came" f7) (wz:j9 P w K mg base C cR cM cV cL cY cN Pt "grounded" f8) (Fb:j9 P w K mg base C cR cM cV cL cY cN Pt "tips" f9) (Fc:j9 P w K mg base C cR cM cV cL cY cN Pt "back" g1) (Bn:j9 P w K mg base C cR cM cV cL cY cN Pt "round" g2) (Bo:j9 P w K mg base C cR cM cV cL cY cN Pt "stuck" g3) (xz:j9 P w K mg base C cR cM cV cL cY cN Pt "soonest" g4) :
  TxtX P w K mg base C cR cM cV cL cY cN Pt aA aN [(kS "pour",.y f1),(kS "go",.y f2),(kS "held",.y f3),(kS "coming",.y f4),(kS "doors",.y f5),(kS "tick",.y f6),(kS "came",.y f7),(kS "grounded",.y f8),(kS "tips",.y f9),(kS "back",.y g1),(kS "round",.y g2),(kS "stuck",.y g3),(kS "soonest",.y g4)]
   [(kS "pour",.u 2),(kS "go",.u 1),(kS "tips",.u 1),(kS "stuck",.u 1),(kS "soonest",.u 2)]:=by
 let ks:∀ {a b:Str},kS a=kS b↔a=b:=⟨λ z=>by unfold kS at z;ext z;rfl,λ z=>by rw[z]⟩;let vc:∀(a:Str) (v:V) (r:List (gS×V)) (wd:Str),dQ ((kS a,v)::r) (kS wd)=if a=wd then O v else dQ r (kS wd):=λ a v r wd=>by
  by_cases h:a=wd
  ·rw[Å h];show fJ (ks.2 h)
  ·rw[Ä h];show fK λ z=>h (ks.1 z)
 show { mA:=mA,mN:=mN,dA:=QY (l:=[("pour",t1,.y f1),("go",t2,.y f2),("held",t3,.y f3),("coming",t4,.y f4),("doors",t5,.y f5),("tick",t6,.y f6),("came",t7,.y f7),("grounded",t8,.y f8),("tips",t9,.y f9),("back",Xz,.y g1),("round",Nc,.y g2),("stuck",Ya,.y g3),("soonest",Yb,.y g4)]) hA nA ?_ (show(["pour","go","held","coming","doors","tick","came","grounded","tips","back","round","stuck","soonest"]:List Str).Nodup by decide +kernel),dN:=QY (l:=[("pour",u1,.u 2 v1),("go",u2,.u 1 v2),("tips",u3,.u 1 v3),("stuck",u4,.u 1 v4),("soonest",u5,.u 2 v5)]) hN nN ?_ (show(["pour","go","tips","stuck","soonest"]:List Str).Nodup by decide +kernel),inN:=λ wd hw=>?_,fn:=λ wd hw=>?_ }
 ·show .B ⟨Y,Y⟩ (.B ⟨Y,Y⟩ (.B ⟨Y,Y⟩ (.B ⟨Y,Y⟩ (.B ⟨Y,Y⟩ (.B ⟨Y,Y⟩ (.B ⟨Y,Y⟩ (.B ⟨Y,Y⟩ (.B ⟨Y,Y⟩ (.B ⟨Y,Y⟩ (.B ⟨Y,Y⟩ (.B ⟨Y,Y⟩ (.B ⟨Y,Y⟩ .nil))))))))))))
 ·show .B ⟨Y,_,Y⟩ (.B ⟨Y,_,Y⟩ (.B ⟨Y,_,Y⟩ (.B ⟨Y,_,Y⟩ (.B ⟨Y,_,Y⟩ .nil))))
 ·simp only[sP,Ð,ā,or_false]at hw;simp only[vc];rcases hw with rfl|rfl|rfl|rfl|rfl|rfl|rfl|rfl|rfl|rfl|rfl|rfl <;> show Y
 ·simp only[sP,Ð,ā,or_false]at hw;simp only[vc];rcases hw with rfl|rfl|rfl|rfl|rfl|rfl|rfl|rfl|rfl|rfl|rfl|rfl
  ·let⟨fd,c⟩:=Ex;show⟨f1,fd,Y,c⟩
  ·let⟨fd,c⟩:=Sy;show⟨f2,fd,Y,c⟩
  ·let⟨fd,c⟩:=Ey;show⟨f3,fd,Y,c⟩
  ·let⟨fd,c⟩:=Ai;show⟨f4,fd,Y,c⟩
  ·let⟨fd,c⟩:=Ez;show⟨f6,fd,Y,c⟩
  ·let⟨fd,c⟩:=Fa;show⟨f7,fd,Y,c⟩
  ·let⟨fd,c⟩:=wz;show⟨f8,fd,Y,c⟩
  ·let⟨fd,c⟩:=Fb;show⟨f9,fd,Y,c⟩
  ·let⟨fd,c⟩:=Fc;show⟨g1,fd,Y,c⟩
  ·let⟨fd,c⟩:=Bn;show⟨g2,fd,Y,c⟩
  ·let⟨fd,c⟩:=Bo;show⟨g3,fd,Y,c⟩
  ·let⟨fd,c⟩:=xz;show⟨g4,fd,Y,c⟩
end
def QS {ik im gv gy gz gx ia ig ic:Á}
  (kdR:KindOf K im gv gy gz gx ia ig ic ic [JJ,JJ,JJ,JJ,JJ,JJ,JJ,EA]) (hmR:PySem.W.exmOne K (.y ic) (.y ik)=O EA)
  (kdV:KindOf K im gv gy gz gx ia ig ic gv [JJ,EA,JJ,JJ,JJ,JJ,JJ,JJ]) (hmV:PySem.W.exmOne K (.y gv) (.y ik)=O EA)
  (kdS:KindOf K im gv gy gz gx ia ig ic gx [JJ,JJ,JJ,JJ,EA,JJ,JJ,JJ]) (hmS:PySem.W.exmOne K (.y gx) (.y ik)=O EA)
  (kdL:KindOf K im gv gy gz gx ia ig ic gy [JJ,JJ,EA,JJ,JJ,JJ,JJ,JJ]) (hmL:PySem.W.exmOne K (.y gy) (.y ik)=O EA)
  (kdM:KindOf K im gv gy gz gx ia ig ic gz [JJ,JJ,JJ,EA,JJ,JJ,JJ,JJ]) (hmM:PySem.W.exmOne K (.y gz) (.y ik)=O EA)
  (kdN:KindOf K im gv gy gz gx ia ig ic ia [JJ,JJ,JJ,JJ,JJ,EA,JJ,JJ]) (hmN:PySem.W.exmOne K (.y ia) (.y ik)=O EA) :
  SG K ik im gv gy gz gx ia ig ic:=λ wr hw=>by
 simp only[Z3,Ð,ā,or_false]at hw;let ff:∀(j:Nat) (bs:List Bool),(bs.take j).all (λ b=>!b)=EA->∀(i:Nat) (b:Bool),i < j->bs[i]?=O b->b=false:=λ j bs h i b hi hb=>by
  let:=Ĕ.1 h b (Ô (i:=i) (by rw[aeq hi];show hb));simpa using this
 rcases hw with rfl|rfl|rfl|rfl|rfl|rfl
 ·show⟨hmR,_,7,kdR,Y,Y,ff _ _ Y,Y⟩
 ·show⟨hmV,_,1,kdV,Y,Y,ff _ _ Y,Y⟩
 ·show⟨hmS,_,4,kdS,Y,Y,ff _ _ Y,Y⟩
 ·show⟨hmL,_,2,kdL,Y,Y,ff _ _ Y,Y⟩
 ·show⟨hmM,_,3,kdM,Y,Y,ff _ _ Y,Y⟩
 ·show⟨hmN,_,5,kdN,Y,Y,ff _ _ Y,Y⟩
def sL {ag:Type}{p:List ag->Prop} (h:∀ a0,p [a0]):∀ us:List ag,us.Z=1->p us
 |[a0],_=>h a0
def mR {ag:Type}{p:List ag->Prop} (h:∀ a0 a1,p [a0,a1]):∀ us:List ag,us.Z=2->p us
 |[a0,a1],_=>h a0 a1
def sK {ag:Type}{p:List ag->Prop} (h:∀ a0 a1 a2,p [a0,a1,a2]):∀ us:List ag,us.Z=3->p us
 |[a0,a1,a2],_=>h a0 a1 a2
def sJ {ag:Type}{p:List ag->Prop} (h:∀ a0 a1 a2 a3,p [a0,a1,a2,a3]):∀ us:List ag,us.Z=4->p us
 |[a0,a1,a2,a3],_=>h a0 a1 a2 a3
def sI {ag:Type}{p:List ag->Prop} (h:∀ a0 a1 a2 a3 a4,p [a0,a1,a2,a3,a4]):∀ us:List ag,us.Z=5->p us
 |[a0,a1,a2,a3,a4],_=>h a0 a1 a2 a3 a4
structure Fw (K:Ç) (x:Str) (st:Stmt) (f:Á) (fd:FuncData):Prop where
 a:PySem.W.nsIn K mainGlobals x=O (O (.y f))
 F:Fun K x x st f fd
structure Fm (K:Ç) (C:Á) (x q:Str) (st:Stmt) (f:Á) (fd:FuncData):Prop where
 a:PySem.W.findIn K (.y C) x=O (O (.y f))
 i:PySem.W.isFn K (.y f)=EA
 F:Fun K x q st f fd
structure Ek (K:Ç) (cT c1 c2 c3 c4 c5 c6 c7 c8 D:Á) (bs:List Bool):Prop where
 kd:KindOf K c1 c2 c3 c4 c5 c6 c7 c8 D bs
 ex:PySem.W.excIn K D [.q "ValueError",.q "Exception",.q "BaseException",.q "object"] "ValueError.__new__" =EA
 hm:PySem.W.exmOne K (.y D) (.y cT)=O EA
structure Zz (P:Ã) (w:World) (K:Ç) (mg:Str->Option À) (base h:Heap):Prop where
 X:K.In h
 G:h.Ns mainGlobals mg
section
variable {h:Heap}{x q:Str}{st:Stmt}{f:Á}{fd:FuncData}{k:Nat}{ps:List Str}{sp:Sp}
def fw_mk {oc:À}{od an:Option Á}{uy:Array (Option À)}{kV doc pm ir ct:À} (a:PySem.W.nsIn K mainGlobals x=O (O (.y f))) (l:K.lookup f=O ⟨oc,od,.func (PySem.W.fnOf x x (fZ st) (dS st) (aJ st) .none kV doc pm an ir ct),uy⟩) (c:PySem.W.codeIn K ir x=EA) (k:PySem.W.keepIn K (.y f)=EA):Fw K x st f (PySem.W.fnOf x x (fZ st) (dS st) (aJ st) .none kV doc pm an ir ct):=⟨a,D5 l c k⟩
def fm_mk {oc:À}{od an:Option Á}{uy:Array (Option À)}{kV doc pm ir ct:À} (a:PySem.W.findIn K (.y C) x=O (O (.y f))) (i:PySem.W.isFn K (.y f)=EA) (l:K.lookup f=O ⟨oc,od,.func (PySem.W.fnOf x q (fZ st) (dS st) (aJ st) .none kV doc pm an ir ct),uy⟩) (c:PySem.W.codeIn K ir q=EA) (k:PySem.W.keepIn K (.y f)=EA):Fm K C x q st f (PySem.W.fnOf x q (fZ st) (dS st) (aJ st) .none kV doc pm an ir ct):=⟨a,i,D5 l c k⟩
def ek_mk {cT c1 c2 c3 c4 c5 c6 c7 c8 D:Á}{qc:À}{qd:Option Á}{qs:Array (Option À)} (ex:PySem.W.excIn K D [.q "ValueError",.q "Exception",.q "BaseException",.q "object"] "ValueError.__new__" =EA)
  (ga:PySem.W.findIn K (.y D) "__getattribute__"=O (O (.z "BaseException.__getattribute__"))) (gt:PySem.W.findIn K (.y D) "__getattr__"=O W) (ca:PySem.W.findIn K (.y D) "__class__"=O (O (.z "object.__class__")))
  (gg:PySem.W.specialIn K (.z "object.__class__") "__get__"=O (O (.z "getset_descriptor.__get__"))) (tk:PySem.W.takesIn K (.z "object.__class__")=O EA) (mo:PySem.W.mroIn K D (.q "object")=O EA) (mb:PySem.W.mroIn K D (.q "BaseException")=O EA) (cl:K.lookup D=O ⟨qc,qd,.cls qk,qs⟩)
  (va:PySem.W.kitOne K (.y D) (.q "ValueError")=O EA) (k0:PySem.W.kitOne K (.y D) (.y c1)=O b0) (k1:PySem.W.kitOne K (.y D) (.y c2)=O b1) (k2:PySem.W.kitOne K (.y D) (.y c3)=O b2) (k3:PySem.W.kitOne K (.y D) (.y c4)=O b3) (k4:PySem.W.kitOne K (.y D) (.y c5)=O b4) (k5:PySem.W.kitOne K (.y D) (.y c6)=O b5) (k6:PySem.W.kitOne K (.y D) (.y c7)=O b6) (k7:PySem.W.kitOne K (.y D) (.y c8)=O b7) (hm:PySem.W.exmOne K (.y D) (.y cT)=O EA):Ek K cT c1 c2 c3 c4 c5 c6 c7 c8 D [b0,b1,b2,b3,b4,b5,b6,b7]:=
 ⟨⟨⟨ga,gt,ca,gg,tk,mo,mb⟩,⟨_,_,_,_,cl⟩,va,⟨_,_,_,_,_,_,_,_,rfl,k0,k1,k2,k3,k4,k5,k6,k7⟩⟩,ex,hm⟩
def Zz.c (Z:Zz P w K mg base h) (F:Fw K x st f fd) (o:FnOk P w K mg base gT k f fd ps sp) (b:autoParam (∀(kV doc pm:À) (an:Option Á) (ir ct:À) (us:List À),us.Z=ps.Z->bindArgs (PySem.W.fnOf x x (fZ st) (dS st) (aJ st) .none kV doc pm an ir ct) ⟨us,[]⟩=pure (ps.zip us)) _8):Callee P w K mg base x ps k sp f fd:=⟨o,å Z.X Z.G F.a,F.F.kp,F.F.binds b⟩
def Zz.r (Z:Zz P w K mg base h) (F:Fw K x st f fd) (o:FnOk P w K mg base (iS P w) k f fd ps sp) (b:autoParam (∀(kV doc pm:À) (an:Option Á) (ir ct:À) (us:List À),us.Z=ps.Z->bindArgs (PySem.W.fnOf x x (fZ st) (dS st) (aJ st) .none kV doc pm an ir ct) ⟨us,[]⟩=pure (ps.zip us)) _8):CalleeR P w K mg base x ps k sp f fd:=⟨o,å Z.X Z.G F.a,F.F.kp,F.F.binds b⟩
def Zz.s {sp:WQ} (Z:Zz P w K mg base h) (F:Fw K x st f fd) (o:FnOkS P w K mg base (iS P w) k f fd ps sp) (b:autoParam (∀(kV doc pm:À) (an:Option Á) (ir ct:À) (us:List À),us.Z=ps.Z->bindArgs (PySem.W.fnOf x x (fZ st) (dS st) (aJ st) .none kV doc pm an ir ct) ⟨us,[]⟩=pure (ps.zip us)) _8):CalleeS P w K mg base x ps k sp f fd:=⟨o,å Z.X Z.G F.a,F.F.kp,F.F.binds b⟩
def Zz.m (_:Zz P w K mg base h) (cl:Cls K C) (F:Fm K C x q st f fd) (o:FnOk P w K mg base gT k f fd ps sp) (b:autoParam (∀(kV doc pm:À) (an:Option Á) (ir ct:À) (us:List À),us.Z=ps.Z->bindArgs (PySem.W.fnOf x q (fZ st) (dS st) (aJ st) .none kV doc pm an ir ct) ⟨us,[]⟩=pure (ps.zip us)) _8):MCal P w K mg base C x ps k sp f fd:=⟨cl,⟨F.a,F.i,F.F.kp⟩,o,F.F.binds b⟩
def Zz.mr (_:Zz P w K mg base h) (cl:Cls K C) (F:Fm K C x q st f fd) (o:FnOk P w K mg base (iS P w) k f fd ps sp) (b:autoParam (∀(kV doc pm:À) (an:Option Á) (ir ct:À) (us:List À),us.Z=ps.Z->bindArgs (PySem.W.fnOf x q (fZ st) (dS st) (aJ st) .none kV doc pm an ir ct) ⟨us,[]⟩=pure (ps.zip us)) _8):MCalR P w K mg base C x ps k sp f fd:=⟨cl,⟨F.a,F.i,F.F.kp⟩,o,F.F.binds b⟩
end
abbrev Na (K:Ç) (x:Str) (f:Á):Prop:=PySem.W.nsIn K mainGlobals x=O (O (.y f))
abbrev Nn (K:Ç) (x:Str):Prop:=PySem.W.nsIn K mainGlobals x=O W
abbrev Kp (K:Ç) (f:Á):Prop:=PySem.W.keepIn K (.y f)=EA
abbrev Cd (K:Ç) (c:À) (q:Str):Prop:=PySem.W.codeIn K c q=EA
abbrev Lk (K:Ç) (f:Á) (m q:Str) (s:Stmt) (oc:À) (od:Option Á) (kV dc pm:À) (an:Option Á) (cd ct:À) (sl:Array (Option À)):Prop:=K.lookup f=O ⟨oc,od,.func (PySem.W.fnOf m q (fZ s) (dS s) (aJ s) .none kV dc pm an cd ct),sl⟩
def all_mk {l:PySem.W.OpenLaw}{mg:Str->Option À} (X:K.In h) (G:h.Ns mainGlobals mg) (Wk:mg "law"=O (.y fa))
  (aCD:Na K "Desk" CD)
  (aC:Na K "Run" C)
  {ts:List Á}
  (F0:Fw K "_law_draw" (aX 98) f0 d0)
  (F1:Fw K "_law_outs" (aX 100) f1 d1)
  (F2:Fw K "_law_vessel" (aX 101) f2 d2)
  (F3:Fw K "_law_net" (aX 102) f3 d3)
  (F4:Fw K "_law_goal" (aX 103) f4 d4)
  (F5:Fw K "_law_text" (aX 104) f5 d5)
  (F6:Fw K "is_number" (aX 76) f6 d6)
  (F7:Fw K "read_number" (aX 75) f7 d7)
  (F8:Fw K "read_target" (aX 74) f8 d8)
  (F9:Fw K "read_acts" (aX 72) f9 d9)
  (Yc:Fw K "read_vessel" (aX 71) Xk d10)
  (Yd:Fw K "read_spout" (aX 73) f11 d11)
  (Ye:Fw K "is_tuple" (aX 46) f12 d12)
  (Nj:Fw K "is_whole" (aX 47) f13 d13)
  (Yf:Fw K "is_out" (aX 41) f14 d14)
  (Yg:Fw K "is_act" (aX 42) f15 d15)
  (Yh:Fw K "is_vessel" (aX 40) f16 d16)
  (Yi:Fw K "is_spout" (aX 43) f17 d17)
  (Yj:Fw K "is_net" (aX 39) f18 d18)
  (Yk:Fw K "target_word" (aX 68) f19 d19)
  (Yl:Fw K "vessel_line" (aX 66) f20 d20)
  (Ym:Fw K "door_word" (aX 69) f21 d21)
  (Yn:Fw K "spout_line" (aX 67) f22 d22)
  (Yo:Fw K "net_text" (aX 65) f23 d23)
  (Yp:Fw K "read_net" (aX 70) f24 d24)
  (Yq:Fw K "first_state" (aX 11) f25 d25)
  (Yr:Fw K "pouring" (aX 12) f26 d26)
  (Ys:Fw K "first_moment" (aX 23) f27 d27)
  (Nk:Fm K C "__init__" "Run.__init__" (bM (aX 53) 0) f28 d28)
  (Nl:Fm K CD "__init__" "Desk.__init__" (bM (aX 95) 0) f29 d29)
  (Yt:Fw K "need_vessel" (aX 44) f30 d30)
  (Yu:Fw K "most_to_pour" (aX 27) f31 d31)
  (Yv:Fw K "moment_poured" (aX 24) f32 d32)
  (Yw:Fm K C "pour" "Run.pour" (bM (aX 53) 1) f33 d33)
  (Yx:Fw K "answer_pour" (aX 79) f34 d34)
  (Yy:Fw K "most_to_go" (aX 28) f35 d35)
  (Yz:Fw K "filled" (aX 15) f36 d36)
  (Za:Fw K "send" (aX 18) f37 d37)
  (Zb:Fw K "share_out" (aX 17) f38 d38)
  (Zc:Fw K "settle" (aX 16) f39 d39)
  (Zd:Fw K "doors_behind" (aX 19) f40 d40)
  (Nm:Fw K "tick_behind" (aX 13) f41 d41)
  (Ze:Fw K "came_in" (aX 14) f42 d42)
  (Zf:Fw K "moment_behind" (aX 26) f43 d43)
  (Zg:Fw K "moment_gone" (aX 25) f44 d44)
  (Zh:Fm K C "go" "Run.go" (bM (aX 53) 2) f45 d45)
  (Zi:Fw K "answer_go" (aX 80) f46 d46)
  (Zj:Fm K C "state" "Run.state" (bM (aX 53) 5) f47 d47)
  (Zk:Fw K "with_blanks" (aX 92) f48 d48)
  (Zl:Fw K "answer_held" (aX 82) f49 d49)
  (Zm:Fw K "answer_coming" (aX 83) f50 d50)
  (Zn:Fm K C "tick" "Run.tick" (bM (aX 53) 4) f51 d51)
  (Zo:Fw K "answer_tick" (aX 85) f52 d52)
  (Zp:Fm K C "came" "Run.came" (bM (aX 53) 7) f53 d53)
  (Zq:Fw K "answer_came" (aX 86) f54 d54)
  (Zr:Fm K C "grounded" "Run.grounded" (bM (aX 53) 8) f55 d55)
  (Zs:Fw K "answer_grounded" (aX 87) f56 d56)
  (Zt:Fm K C "tips" "Run.tips" (bM (aX 53) 6) f57 d57)
  (Zu:Fw K "answer_tips" (aX 88) f58 d58)
  (Zv:Fm K C "back" "Run.back" (bM (aX 53) 3) f59 d59)
  (Zw:Fw K "answer_back" (aX 81) f60 d60)
  (Zx:Fw K "go_round" (aX 51) f61 d61)
  (Zy:Fw K "round_of" (aX 50) f62 d62)
  (a_:Fw K "answer_round" (aX 89) f63 d63)
  (b_:Fw K "with_vessel" (aX 45) f64 d64)
  (c_:Fw K "stuck_net" (aX 62) f65 d65)
  (d_:Fw K "stuck" (aX 61) f66 d66)
  (e_:Fw K "answer_stuck" (aX 90) f67 d67)
  (f_:Fw K "watch" (aX 55) f68 d68)
  (g_:Fw K "go_through" (aX 56) f69 d69)
  (a70:Na K "soonest" f70)
  (l70:Lk K f70 "soonest" "soonest" (aX 59) oc70 od70 kV70 dc70 pm70 an70 (.y q70) ct70 sl70)
  (c70:Cd K (.y q70) "soonest")
  (k70:Kp K f70)
  (h_:Fw K "answer_soonest" (aX 91) f71 d71)
  (i_:Fw K "read_row" (aX 96) f72 d72)
  (j_:Fm K CD "say" "Desk.say" (bM (aX 95) 1) f73 d73)
  (k_:Fw K "_law_word" (aX 99) f74 d74)
  (l_:Fw K "_law_said" (aX 105) f75 d75)
  (m_:Fw K "_law_row" (aX 107) f76 d76)
  (n_:Fm K C "book" "Run.book" (bM (aX 53) 9) f77 d77)
  (o_:Fw K "_law_open" (aX 110) f78 d78)
  (p_:Fw K "_law_told" (aX 106) f79 d79)
  (q_:Fw K "_law_written" (aX 108) f80 d80)
  (r_:Fw K "_law_due" (aX 109) f81 d81)
  (s_:Fw K "_law_sides" (aX 111) f82 d82)
  (a83:Na K "law" f83)
  (l83:Lk K f83 "law" "law" (aX 112) oc83 od83 kV83 dc83 pm83 an83 cd83 ct83 sl83)
  (c83:Cd K cd83 "law")
  (k83:Kp K f83)
  (pg:PySem.W.plainGet K C Str.empty=EA)
  (hd:PySem.W.hasDictIn K C=EA)
  (po:PySem.W.plainOver K C=EA)
  (sa:PySem.W.findIn K (.y C) "__setattr__"=O (O (.z "object.__setattr__")))
  (mk:PySem.W.makesIn K C=EA)
  (kc:Kp K C)
  (n0:PySem.W.findIn K (.y C) "net"=O W)
  (n1:PySem.W.findIn K (.y C) "rows"=O W)
  (n2:PySem.W.findIn K (.y C) "moments"=O W)
  (n3:PySem.W.findIn K (.y C) "tip_ticks"=O W)
  (pg2:PySem.W.plainGet K CD Str.empty=EA)
  (hd2:PySem.W.hasDictIn K CD=EA)
  (po2:PySem.W.plainOver K CD=EA)
  (sa2:PySem.W.findIn K (.y CD) "__setattr__"=O (O (.z "object.__setattr__")))
  (mk2:PySem.W.makesIn K CD=EA)
  (kc2:Kp K CD)
  (nr2:PySem.W.findIn K (.y CD) "run"=O W)
  (mc0:PySem.W.nsIn K mainGlobals "MOST_VESSELS"=O (O (.u 12 tk0)))
  (mc1:PySem.W.nsIn K mainGlobals "MOST_SPOUTS"=O (O (.u 12 tk1)))
  (mc2:PySem.W.nsIn K mainGlobals "MOST_SIZE"=O (O (.u 60 tk2)))
  (mc3:PySem.W.nsIn K mainGlobals "MOST_BRIM"=O (O (.u 200 tk3)))
  (mc4:PySem.W.nsIn K mainGlobals "MOST_OUTS"=O (O (.u 3 tk4)))
  (mc5:PySem.W.nsIn K mainGlobals "MOST_PARTS"=O (O (.u 60 tk5)))
  (mc6:PySem.W.nsIn K mainGlobals "MOST_ACTS"=O (O (.u 3 tk6)))
  (mc7:PySem.W.nsIn K mainGlobals "MOST_FLOW"=O (O (.u 60 tk7)))
  (mcw:Na K "ACT_WORDS" aw)
  (mlw:K.lookup aw=O ⟨.q "tuple",odw,.V #[.o "open" tw1,.o "shut" tw2,.o "turn" tw3] nw,slw⟩)
  (mcT:PySem.W.nsIn K mainGlobals "LAST_TICK"=O (O (.u 2000 tkT)))
  (Ks:Na K "ANSWERS" aA)
  (Kt:Na K "NUMBER_COUNTS" aN)
  (mlA:K.lookup aA=O ⟨.q "dict",W,.dict #[⟨PyData.keyHash w.params "pour",.o "pour" ka0,.y f34⟩,⟨PyData.keyHash w.params "go",.o "go" ka1,.y f46⟩,⟨PyData.keyHash w.params "held",.o "held" ka2,.y f49⟩,⟨PyData.keyHash w.params "coming",.o "coming" ka3,.y f50⟩,⟨PyData.keyHash w.params "doors",.o "doors" ka4,.y ga0⟩,⟨PyData.keyHash w.params "tick",.o "tick" ka5,.y f52⟩,⟨PyData.keyHash w.params "came",.o "came" ka6,.y f54⟩,⟨PyData.keyHash w.params "grounded",.o "grounded" ka7,.y f56⟩,⟨PyData.keyHash w.params "tips",.o "tips" ka8,.y f58⟩,⟨PyData.keyHash w.params "back",.o "back" ka9,.y f60⟩,⟨PyData.keyHash w.params "round",.o "round" ka10,.y f63⟩,⟨PyData.keyHash w.params "stuck",.o "stuck" ka11,.y f67⟩,⟨PyData.keyHash w.params "soonest",.o "soonest" ka12,.y f71⟩] mA,#[]⟩)
  (mlN:K.lookup aN=O ⟨.q "dict",W,.dict #[⟨PyData.keyHash w.params "pour",.o "pour" ku0,.u 2 kv0⟩,⟨PyData.keyHash w.params "go",.o "go" ku1,.u 1 kv1⟩,⟨PyData.keyHash w.params "tips",.o "tips" ku2,.u 1 kv2⟩,⟨PyData.keyHash w.params "stuck",.o "stuck" ku3,.u 1 kv3⟩,⟨PyData.keyHash w.params "soonest",.o "soonest" ku4,.u 2 kv4⟩] nA,#[]⟩)
  (Sz:PySem.W.nsIn K mainGlobals "MOST_POURED"=O (O (.u 1000 tkB1)))
  (Ta:PySem.W.nsIn K mainGlobals "MOST_TICKS"=O (O (.u 3000 tkB2)))
  (mcM:PySem.W.nsIn K mainGlobals "MOST_STATES"=O (O (.u 300 tkM)))
  (mcQ:PySem.W.nsIn K mainGlobals "MOST_POURING"=O (O (.u 5 tkQ)))
  (mcF:PySem.W.nsIn K mainGlobals "MOST_FIGURES"=O (O (.u 9 tkF)))
  (yl70:K.lookup q70=O ⟨.q "code",yd70,.U yv70,ys70⟩)
  (zS:Nn K "str")
  (xa:Na K "TipError" ik)
  (Bp:Na K "NoNet" im)
  (rh:Na K "NoVessel" gv)
  (sy:Na K "TooLong" gy)
  (tj:Na K "TooMany" gz)
  (tm:Na K "TooMuch" gx)
  (tu:Na K "Nothing" ia)
  (vq:Na K "NoText" ig)
  (xo:Na K "NoRow" ic)
  (xv:Nn K "ValueError")
  (eV:Ek K ik im gv gy gz gx ia ig ic gv [JJ,EA,JJ,JJ,JJ,JJ,JJ,JJ])
  (eL:Ek K ik im gv gy gz gx ia ig ic gy [JJ,JJ,EA,JJ,JJ,JJ,JJ,JJ])
  (eN:Ek K ik im gv gy gz gx ia ig ic ia [JJ,JJ,JJ,JJ,JJ,EA,JJ,JJ])
  (eM:Ek K ik im gv gy gz gx ia ig ic gz [JJ,JJ,JJ,EA,JJ,JJ,JJ,JJ])
  (eR:Ek K ik im gv gy gz gx ia ig ic ic [JJ,JJ,JJ,JJ,JJ,JJ,JJ,EA])
  (eS:Ek K ik im gv gy gz gx ia ig ic gx [JJ,JJ,JJ,JJ,EA,JJ,JJ,JJ])
  (z0:Nn K "len")
  (z1:Nn K "sum")
  (z2:Nn K "all")
  (z3:Nn K "max")
  (z4:Nn K "min")
  (z5:Nn K "int")
  (z6:Nn K "tuple")
  (z7:Nn K "list")
  (z8:Nn K "bool")
  (z9:Nn K "range")
  (z10:Nn K "zip")
  (z11:Nn K "enumerate")
  (z12:Nn K "isinstance")
  (z13:Nn K "divmod")
  (z14:Nn K "set")
  (z15:Nn K "sorted")
  (yqA:(aA==sysModules)=JJ)
  (yqN:(aN==sysModules)=JJ)
  (yp70:yv70[11]?=O (.y p70))
  (yn70:K.lookup p70=W)
  (yt70:p70∈ts)
  (yh70:PySem.W.codeHdIn K q70 p70=EA)
  (exX:PySem.W.excIn K ig [.q "ValueError",.q "Exception",.q "BaseException",.q "object"] "ValueError.__new__" =EA) :
  ∃(fd:FuncData) (jg:List (Á×Á)),(∀ q∈jg,q.2∈ts/\K.lookup q.2=W/\PySem.W.codeHdIn K q.1 q.2=EA)/\(∀(s:Â) (v:À),BindsTo s fd ⟨[v],[]⟩ [("script",v)])/\∀ base:Heap,K.In base->base.Ns mainGlobals mg->(∀ q∈jg,NestB mg base q.1 q.2)->FnOk l.prog w K mg base gT 13 fa fd ["script"] (spT K jg):=by
 let e:=Wk.symm.trans (å X G a83);ext e;let T:Txt mg:=⟨ü X G z0,ü X G z1,ü X G z2,ü X G z3,ü X G z4,ü X G z5,ü X G z6,ü X G z7,ü X G z8,ü X G z9,ü X G z10,ü X G z11,ü X G z12,ü X G z13,ü X G z14,ü X G z15⟩;let U:TxtN K mg aw:=⟨⟨_,å X G mc0,_,rfl⟩,⟨_,å X G mc1,_,rfl⟩,⟨_,å X G mc2,_,rfl⟩,⟨_,å X G mc3,_,rfl⟩,⟨_,å X G mc4,_,rfl⟩,⟨_,å X G mc5,_,rfl⟩,⟨_,å X G mc6,_,rfl⟩,⟨_,å X G mc7,_,rfl⟩,⟨_,å X G mcw,rfl⟩,λ H=>.inr ⟨_,_,_,mlw,rfl,rfl,by change 3<=sizeLine;decide,.B ⟨_,rfl⟩ (.B ⟨_,rfl⟩ (.B ⟨_,rfl⟩ .nil))⟩⟩;let UB:TxtB mg:=⟨⟨_,å X G Sz,_,rfl⟩,⟨_,å X G Ta,_,rfl⟩⟩;let UM:TxtM mg:=⟨⟨_,å X G mcM,_,rfl⟩⟩;let UF:TxtF mg:=⟨⟨_,å X G mcF,_,rfl⟩⟩;let U5:Txt5 mg:=⟨⟨_,å X G mcQ,_,rfl⟩⟩;let TS:TxtS mg:=⟨ü X G zS⟩;let UT:TxtT mg:=⟨⟨_,å X G mcT,_,rfl⟩⟩;let E9:TxtW mg ik im gv gy gz gx ia ig ic:=⟨å X G xa,å X G Bp,å X G rh,å X G sy,å X G tj,å X G tm,å X G tu,å X G vq,å X G xo,ü X G xv⟩;let lb:ExC K "NoVessel" gv:=⟨rh,eV.ex⟩;let jv:ExC K "TooLong" gy:=⟨sy,eL.ex⟩;let mf:ExC K "Nothing" ia:=⟨tu,eN.ex⟩;let md:ExC K "TooMany" gz:=⟨tj,eM.ex⟩;let jh:ExC K "NoText" ig:=⟨vq,exX⟩;let km:ExC K "NoRow" ic:=⟨xo,eR.ex⟩;let ju:ExC K "TooMuch" gx:=⟨tm,eS.ex⟩;let KX:=QS eR.kd eR.hm eV.kd eV.hm eS.kd eS.hm eL.kd eL.hm eM.kd eM.hm eN.kd eN.hm;let Tb:DeskTx2 K CD:=⟨⟨pg2,hd2,po2,sa2⟩,nr2⟩;let tx:RunTx K C:=⟨⟨pg,hd,po,sa⟩,n0,n1,n2,n3⟩;let t_:=D5 (st:=(aX 59)) l70 c70 k70;let F83:=D5 (st:=(aX 112)) l83 c83 k83;show⟨PySem.W.fnOf "law" "law" (fZ (aX 112)) (dS (aX 112)) (aJ (aX 112)) .none kV83 dc83 pm83 an83 cd83 ct83,[(q70,p70)],λ q hq=>?_,λ s v=>.of_eq Y,λ base _ _ hN=>?_⟩
 ·simp only[Ð,ā,or_false]at hq;rcases hq with rfl
  ·show⟨yt70,yn70,yh70⟩
 let oi:=hN (q70,p70) JN;let Z:Zz l.prog w K mg base h:=⟨X,G⟩;let CB0:=Z.c (sp:=AU) F0 (pS F0.F T);let C0:=Z.c F0 (CN F0.F T);let C1:=Z.c F1 (CJ F1.F T C0);let C2:=Z.c F2 (xN F2.F T C0 C1);let C3:=Z.c F3 (CL F3.F T C0 C2);let C4:=Z.c F4 (CM F4.F T TS);let C5:=Z.c F5 (CH F5.F T TS C4);let C6:=Z.c F6 (CA F6.F T TS UF);let C7:=Z.r F7 (xE F7.F T jh C6);let C8:=Z.r F8 (xD F8.F T C7);let C9:=Z.r F9 (BX F9.F T C7);let C10:=Z.r Yc (xC Yc.F T C7 C8 C9);let C11:=Z.r Yd (yM Yd.F T C7);let Ku:=Z.c Ye (EU Ye.F T);let Tc:=Z.c (sp:=vV) Nj (BY Nj.F T);let No:=Z.c Nj (ET Nj.F T);let C14:=Z.c Yf (M8 Yf.F T U Ku No);let C15:=Z.c Yg (MA Yg.F T U Ku No);let C16:=Z.c Yh (BZ Yh.F T U Ku No C14 C15);let C17:=Z.c Yi (EV Yi.F T U Ku No);let u_:=Z.c Yj (M9 Yj.F T U Ku C16 C17);let C19:=Z.c Yk (xB Yk.F T TS);let C20:=Z.c Yl (xA Yl.F T C19);let C21:=Z.c Ym (CC Ym.F T);let C22:=Z.c Yn (yL Yn.F T C21);let C23:=Z.c Yo (ES Yo.F T C20 C22);let C24:=Z.r Yp (BW Yp.F T TS jh C10 C11 u_ C23);let Np:=Z.c Yq (xG Yq.F T);let Kv:=Z.c Yr (HQ Yr.F T);let C27:=Z.c Ys (uP Ys.F T Np Kv);let v_:MkCal l.prog w K mg base C "Run" ["self","net"] 5 (AT K C) f28 _:=⟨⟨mk,Nk.a,Nk.i,kc⟩,UL Nk.F T tx u_ C27,å X G aC,Nk.F.binds λ _ _ _ _ _ _=>mR λ _ _=>rfl⟩;let C29:MkCalR l.prog w K mg base CD "Desk" ["self","text"] 7 (qY K C CD) f29 _:=⟨⟨mk2,Nl.a,Nl.i,kc2⟩,MC Nl.F T Tb C24 v_,å X G aCD,Nl.F.binds λ _ _ _ _ _ _=>mR λ _ _=>rfl⟩;let Kw:=Z.r Yt (uN Yt.F T lb Tc);let C31:=Z.c Yu (uO Yu.F T UB);let C32:=Z.c Yv (tH Yv.F T);let w_:=Z.mr tx.cls Yw (Q3 Yw.F T tx Kw C32);let Td:=Z.r (sp:=(iU K C ic gx gv "pour")) Yx (xJ Yx.F T tx ju Kw C31 w_);let C35:=Z.c Yy (yN Yy.F T UB);let x_:=Z.c Yz (MB Yz.F T);let y_:=Z.c Za (UJ Za.F T);let C38:=Z.c Zb (BT Zb.F T y_);let z_:=Z.c Zc (M7 Zc.F T y_ C38);let A_:=Z.c Zd (uQ Zd.F T);let Te:=Z.c (sp:=(uX K)) Nm (n9 Nm.F T x_ z_ A_);let Tf:=Z.c Nm (uM Nm.F T x_ z_ A_);let C42:=Z.c Ze (HR Ze.F T);let C43:=Z.c Zf (tI Zf.F T Tf C42 Kv);let C44:=Z.c Zg (xF Zg.F T C43);let B_:=Z.m tx.cls Zh (ok_go Zh.F T tx C44);let Tg:=Z.r (sp:=(iU K C ic gx gv "go")) Zi (CF Zi.F T tx ju C35 B_);let Th:=Z.m tx.cls Zj (Q0 Zj.F T tx);let Go:=Z.c Zk (x9 Zk.F T TS);let Ti:=Z.r (sp:=(iU K C ic gx gv "held")) Zl (xK Zl.F T Th Go);let Tj:=Z.r (sp:=(iU K C ic gx gv "coming")) Zm (tJ Zm.F T Th Go);let C_:=Z.m tx.cls Zn (Q2 Zn.F T tx);let Tl:=Z.r (sp:=(iU K C ic gx gv "tick")) Zo (xI Zo.F T TS C_);let D_:=Z.m tx.cls Zp (UN Zp.F T tx);let Tm:=Z.r (sp:=(iU K C ic gx gv "came")) Zq (xL Zq.F T TS D_);let E_:=Z.m tx.cls Zr (EW Zr.F T tx);let Tn:=Z.r (sp:=(iU K C ic gx gv "grounded")) Zs (qH Zs.F T TS E_);let F_:=Z.mr tx.cls Zt (PZ Zt.F T tx Kw);let To:=Z.r (sp:=(iU K C ic gx gv "tips")) Zu (xH Zu.F T F_ Go);let G_:=Z.mr tx.cls Zv (Q4 Zv.F T tx mf);let Tp:=Z.r (sp:=(mU K C ic gx gv gy gz ia p70 "back")) Zw (xM Zw.F T G_);let C61:=Z.r Zx (CB Zx.F T UT jv Np Kv Tf);let H_:=Z.r Zy (BU Zy.F T C61);let Tq:=Z.r (sp:=(mU K C ic gx gv gy gz ia p70 "round")) a_ (uS a_.F T tx H_ Go);let C64:=Z.c b_ (x8 b_.F T);let C65:=Z.c c_ (BS c_.F T C64);let I_:=Z.r d_ (M6 d_.F T UT jv Kw C65 Np Kv Tf);let Tr:=Z.r (sp:=(mU K C ic gx gv gy gz ia p70 "stuck")) e_ (uR e_.F T tx I_ Go);let C68:=Z.c f_ (PY f_.F T Kv Te);let C69:=Z.s (sp:=(OC l.prog w K mg base gz fX)) g_ (yO g_.F T md);let J_:=Z.r (.mk a70 t_) (HP t_ T rfl oi UM Kw Np C68 C69);let Ts:=Z.r (sp:=(mU K C ic gx gv gy gz ia p70 "soonest")) h_ (rY h_.F T tx J_ Go);let UA:=SW (P:=l.prog) (w:=w) (base:=base) (C:=C) (cR:=ic) (cM:=gx) (cV:=gv) (cL:=gy) (cY:=gz) (cN:=ia) (Pt:=p70) (å X G Ks) (å X G Kt) mlA mlN yqA yqN (oE ⟨_,Td.ok,Td.kp,Td.bd⟩ JK) (oE ⟨_,Tg.ok,Tg.kp,Tg.bd⟩ JK) (oE ⟨_,Ti.ok,Ti.kp,Ti.bd⟩ JK) (oE ⟨_,Tj.ok,Tj.kp,Tj.bd⟩ JK) (oE ⟨_,Tl.ok,Tl.kp,Tl.bd⟩ JK) (oE ⟨_,Tm.ok,Tm.kp,Tm.bd⟩ JK) (oE ⟨_,Tn.ok,Tn.kp,Tn.bd⟩ JK) (oE ⟨_,To.ok,To.kp,To.bd⟩ JK) ⟨_,Tp.ok,Tp.kp,Tp.bd⟩ ⟨_,Tq.ok,Tq.kp,Tq.bd⟩ ⟨_,Tr.ok,Tr.kp,Tr.bd⟩ ⟨_,Ts.ok,Ts.kp,Ts.bd⟩;let C72:=Z.r i_ (BV i_.F T TS U5 km UA C6);let K_:=Z.mr Tb.cls j_ (UK j_.F T Tb UA C72);let L_:=Z.c k_ (CG k_.F T E9);let C75:=Z.c l_ (yQ l_.F T E9 KX K_ L_);let C76:=Z.c m_ (CI m_.F T CB0);let C77:=Z.m tx.cls n_ (UO n_.F T tx);let C78:=Z.c o_ (CK o_.F T);let C79:=Z.c p_ (xO p_.F T E9 KX H_ I_ J_ G_ F_ L_);let M_:=Z.c q_ (uT q_.F T TS);let C81:=Z.c r_ (yR r_.F T B_ C77 w_ C78 C79 M_);let C82:=Z.c s_ (yP s_.F T TS Th C_ D_ E_ M_);show XY F83 T TS C0 C3 C5 C29 v_ C75 C76 C81 C82 K_
def walk {l:PySem.W.OpenLaw}{q:Ã}{XP:(Str->Option À)->Heap->Prop}{d:DefRec}{K:Params->Ç}{ts:List Á} (hn:l.most=O 63) (Gy:d.params.defaults=[])
  (hY:∀(w:World) (h:Heap),YP w h->(K w.O).In h) (Qs:∀(w:World) (h:Heap),YP w h->∀ P∈ts,h.get? P=O (PySem.W.tabObj #[]))
  (F:∀(w:World) (mg:Str->Option À) (fa:Á) (h:Heap),(K w.O).In h->h.Ns mainGlobals mg->mg d.name=O (.y fa)->
   ∃(fd:FuncData) (jg:List (Á×Á)),(∀ q∈jg,q.2∈ts/\(K w.O).lookup q.2=W/\PySem.W.codeHdIn (K w.O) q.1 q.2=EA)/\(∀(s:Â) (u:À),BindsTo s fd ⟨[u],[]⟩ [("script",u)])/\∀ base:Heap,(K w.O).In base->base.Ns mainGlobals mg->(∀ q∈jg,NestB mg base q.1 q.2)->FnOk l.prog w (K w.O) mg base gT 13 fa fd ["script"] (spT (K w.O) jg)) :
  PySem.W.WalkO q loose XP YP l.row.toRowW d [] (λ f vs=>PySem.call f vs):=
 L2.walk_ofT (n:=63) (k:=13) (x :="script") (sp:=spT) hn JL Gy ⟨rfl,JL,JL⟩ hY Qs F O6
end Tw
def PySem.W.Fast.tw10054703412147179867:Nat:=0
theorem PySem.W.Fast.te10054703412147179867:PySem.W.Fast.tw10054703412147179867=PySem.W.Fast.tw10054703412147179867:=rfl
def PySem.W.Fast.tw14331543404329550706:PySem.Program:=PySem.Challenge.pw_tipwell_k32_whole_desks_of_all_rows
theorem PySem.W.Fast.te14331543404329550706:PySem.Challenge.pw_tipwell_k32_whole_desks_of_all_rows=PySem.W.Fast.tw14331543404329550706:=rfl
namespace PySem.W.Fast
local macro_rules|`(#print $s:str)=>do
  let c<-(s.getString.splitOn " ").mapM fun x=>`(theorem $(Lean.mkIdent (.mkSimple s!"tw{x.foldl (fun n c=>n*57+c.toNat%57) 0}")):ident:True:=trivial)
  return Lean.mkNullNode (c.map (·.raw)).toArray
#print "XUU)Q//>=8( L4%0.(4$I>F Q#%;%,>T%QX YV:&U5?I/$; %H4$+5;Q3/= S$'F4ARCyGT 1/R,TN%JJ+J +MGAO)9XP1* -L5R''-=7VW ;NJJ1N)026Y ':42T43MK+O <-N#/<J$*W0 170B36[967R HYEYJK8N#96 ,5<8.+:(HF# EL?>)SC[B#4 FJ$$,BKL0T1 H#9#.DX<$4U N'%2PNU3D'4 R1<y-U4KZV6 HG#>#FTJQ2V QR5Y1T>W6D+ ?ZHYVHJ#M:Y ?3-ETN<$Q*F VF&T5I[K8-O /%IR1-(:Z&Q #21&;TO>F$+ QyNB**L:(<* $-1%LRHA2[W J0;X8$6EK'# Hy>+%[?7/JS *?AX[VZ7#7$ R34[54G/.#K VWy0+(DR4N5 *&(=DEVN:(+ I[0+,F(7')# TG/%=#3F<:C &&R0$yU-KNI W>5H.4F5%69 R.&J2Q5)1PL 0=6GYBM(9/3 CN9[J8;<1$' */*H?+10GEA R.&A72:ZS#( X',>HW0Y;*I NTLFH?8[Z-y W;&$76OGO$Q AVQEM<W/.'I :U,Z/0R=UQ[ X($'SOR=6S1 ?/?JLR3-1WU M7*NPY7QI6X -XV4=B#By:Q UYRT&<I021? XB7940Y&8TX +<ZIM?W8X>C /6S,$H+22DR [H$936+0XE6 1%=A'SHFU2P ,O/Y%R,=EB8 (+=S>+JCU(B (4$C9H16Q5+ ,E2V3?yH:<. .VIV7V-CW& F<FUUGB>6G, [:USZ%F&%W6 S'[B6G3)>$) :;DGD)Z%9:I 2EZ(8J0&yZ* BL/B$R.I<$I 'M//KO51J== JB8);&/CU;L BE=8)FQ&/&C )NT*ZE'Z(0K *?S&R/5..'' IN4SUX;43;4 yYN;C3+A.I1 V7FDKLL4)>y .=413MG1/DL CRAVIS*BAV6 VGJ=:CRyLG> ;E3BB'3>8?E y$,[PQ0/)V' 'HZH#(M,RXJ H:CPZ(?'$(Z YTK*D1DM:J- MC67Q=;BK5> JS97Q/RE[BV =&>TCA$IW?D S;=AGABEG:[ O9/<J2$G;EC E(Q%SMK+G(? :MCANSA&1X) R&R>=ZU.D[R KV%F%ECG'4[ QW9LyO*%HKW -H)&Q,6CON> ZVBE.:=</US %L+N2A1S3<6 LE7;U.&#=HE TZ7*SA)EZ)* *R#8O<2?%HR D>:BERDQ(,) $1L$%Ey<=0M #SE%$+J26,M ZG/?'5-(O)Q &M&QV(?8W<K <0.850GTS,' /[QB,$QY2YI KIT?PPR=>'E 1R<TI1+,,YL V[y<PIyQ#J; A7(>;3',EEy EQB;XJIG/3& FWP'8$'R?H$ 2<?&QD%ENIR ;,T=+I%)'AG LE3O95J/86U SW'(K;U'5R* A.S%P/7&GF= C%LPH7NFKRI U;C#<%5HAKU CYIE679JZ?H RV'),K*(YI> +58ySCXQ1I, +O2Q=$B0J6> U(HD>%BZ27I HD$N3>B:=MX (F*B9<TUH[# O?4A7)GE1>D W?C&M)XL?>7 SQ/B5IZOU78 2A,B'=Y6J-U IP8Q9QU,[PW $/E6*#I2yFR >(JGD5LGD#O ?/MW;F'y1-6 US+O[HH1$+Q y9UH;)A?>.A :'?R#MK3?;F X?QH:YS*G[4 N*F5+Q$%EC' KI-V)07.%?4 XX5Q=X7#W;A +OS*.=Z1-L5 KHB0W'4V[6. [CIBK4XB.?A GNMS?.RW?DK Z0#B8EGAA*F *--VJ9$X;R0 .WL/YDZFF1: By:XSCUH68; 1*#&*YG=S&$ [F5P/:V9JOV &<[R-JZ,D*1 +SP?Ay7Y89> ,FM)E81BA9K Z;#Z;1W9+U4 S++:A7&OYR8 /=C-'+M<O5M %'/+WZ[9%O6 -'.9:FT%RU# ',J&B?%=EN. +P;X%8PY[/2 Y?HI43NPRSD HQFUR;3T)yI M7F'[=T6&Z[ MY%I9D[1RE& *B9DMD3UKPU EA7)&S1Q/>V TAL4JEW'(KW 1?HP4SUC/TD U7LC'-PS'UQ +67Q5FW?Ky) RKSCJ8M'yZD $CY[&T8J1;5 -NE?6'//DRQ )C+$S7-I$G6 '7#N2?/AQ3% G>A7KNH;%W5 $75%RC.D5F, HBQ-QKQ<NOH VCH6&B1<.UT /W$ET/%SM=3 -D5-8Z9K'W5 X/24J>B59Y5 <XR$H/15=S) =,#Q)LAZ5'6 K;ZS0&A.2D? F7VC8=$W0CY [:<5'6LX.G0 K;F*S&?MY$, ?AAQ2D#2RW. YSM6<8.0U&y <#>54'LW.;U LI50UIPR)V) XLM$GGK50%G <?TBA$PI=%A [T9;HYB:B9* +y1=IBH5X=Y yAA(D?83V:; FGL5(=1I8E( F7UY4D'8L%+ >.:6RP=#5?V QQ,GJUC?5WH W<,2=[J1(AV <#Q;D3:,J:# :ZC,2=:G9.J B76-:BDB0N) %SY&LS;5&[< X..(3G7H;)K >;:BJQD$JW1 **.W%BUY?)= %=322;y%,6, )6,-SV[yM?D AAY8+5;05G7 C>-0X8LP'#' M&$OGE)&WV* V/>5Q>K13R' H6;5N%GT798 >N6/SL)8J,X VD3*&6:3%R6 A1KTK-H/K8Q ,T466L+[N8C *MAU=FF1;0+ JL3AM5)&M%M $EW>JC9JA7B -)PT,/<YD6E P=YZAUG*$#S FCO8JXD4C8> M%K?85.*39# .IM#V<6(FMX %?MVOF6X,N< 1K1=?NV%*NG =IE=43J9+YQ E9K5RPI:B4S #L'A&%$+23H GL$y+6P:+J- +>M498WE[/U BOZ9=/Y-Y$K /E'';H8NyL( OP*X7O6$,&J JU,2,A=U5); HCA0--=-W&O :027(XJMT'Z OyNKQCByD8< WWOS6NKCO>T :'1+C'T2=W9 2SZ[WTyO<WR :VO>:#Q.3O, B?BB:CKJ0T KA6KCZW&Z04 VY>182%.08G >/;.TPF;EN[ 2&E=4RPNS9: y<L/F,HPD() *9CA%$Z&#Y[ <W=WA;NI(?R Y3PR#QER5&7 TMYZ'I<$F+G ;<?KA5XEX2P .3%*(QW9>>C [H10%?=>9E= *4UN*RB9QJW L%$#y>4F;$$ (**JS,TMU[[ .XIL8RGD5LI V7D&2+:Q9ZB &$ANC,254P3 AL4Q3#',y#E X+SLS%G/#<M U0Z'U>+ZDy# U3+YAF/6<#U <F:;7,'(/UM yXJW/8&y5-2 YK[(;WH[)H9 P*750TKZN8T C.,(DN=%$3% C[KQYAJQM>& ,;I#GXJY)#A &Y>7(59I5;G P[.%-MN-)A< B3$:)I#%K3F YAW58>N5$P% >WJ:D37y06) ($VB-E8I,M$ *yF<9IC>G=0 B,3=)I,J+I+ BQ7:/[>YyL- -yWJ+VL.G<O %$6.y;$DVGC M'26O3.I?KE HI<ZJHEPVB' )6D2>KRAD<I O7H-VBX$G9% L>->5J/3[S3 2O44W6LJBH: 1J=CR.(;J;/ =E7F)*R(#ZE 2[1RWNIHJ8J S1D>9&?N0/+ ON$V:.,H&:$ GSROZF(;34< DXV:[5%%XP) #CNF%='/D-/ :8ICG9DQJQI M:D?F[,?0Z- Y*294A#-5=I H/H)AX2))ZL -F,Y+D$6L)J H(-X,F,>PQU :HD%#((B.I) YRHM*X2Z7MG <0ZS=<4-DZU YYI9$F;*SIQ E&O*,Q;,[TQ A*7GEX.0Wy3 ZDAKDSU01&L W/E6HF+ISNF N:17?EI:JT, X;SS0=</1YZ C[W'V0O%8H9 :'LKYDL'*1= y&;B1GECH,S USX$*,ATZ[6 (#y-<-GW$&Z H0(?%S:L2y# &N8#D6HO0KC GQR3[';NL[U =5LO:+VK',E &/+LUNTWy;D 2V,+*,D35)C IRHyCDLS-3= Q6)7yQM1>L [-TyJ;?=*9E (4.AS>=+RMG $0)FPED0$80 L/NyVBQ5ZYO 1%.:%RNQ&6P WWSS6S,NCM/ H7FW5OBYM*4 Z;/9#4S&CFE [N*(RJ[YB=- XWU>%7QKK-0 CDO-S=<ID#4 (E+Q[7.y<K, >D-SC&/WT2D :5;=,Y$=F6y Q[#+<56CS1X XSY&FYNVB+4 ,KL.GQ5MO36 .3P.$AO<Y?, )-BF=LJ5'0V R9P[;2U)T1( #TXD;$)#I5> :WMKE#,HU;K W.6-I:&y<[K $<%;'#:7NY S3#T8WOX?&[ PV?0$:A&#.T H.2W<;BF<I2 >(H,4E49W.Y H,T6'[)BBV, *W-(?T5E;D+ NDG#RF=7WN0 *:Q?U,2IOXW V*MN$M9U(UW ??YN2J;/EMS ?R+5ABS=1+F ,IPC$V,.91X F35*)C)D9=C 1X#1E7H%>+* [R</R/A6Zy> G;K'5:)V/QR K>#KRWVMF+; H$yOAy#/26, ?KFX(;1C0G' ;I-JS#R8QQC BXCH0*#21HO YF>&IP(<W7/ G#V$-Q;>P03 [YA9#y2T(:- AD4F9.>(SL> FEPI2U3#?69 1;SBSK6B/8D -L9ZM,.BEQ2 T+OPCQIJ5;6 >*/8O96B7(P E0yY1Z#&XW= y3<P2;=TM;; BK4:)*RKI&U G>%Q8HX?/K UJ)?J?N-KEJ y03=1:S[6CB =1O5*UA&2KX PyM34N%KW)% TN:S'Q'LRZ[ >PSU*:(KI0F (R378Z/LYS. :+<F<UL)NR9 .;S4=<MI&Dy V.<CZN&SG;= CKMY%,9=?V( MJSDY>N2[<% LU;)-IWA5IA Y['M#OH(L>E :ZZJ*7Q:0?; MA316*Z($GQ ?,5UZ2$+49- y27[1**CND2 M$O+%XL7:(Q A22+BPH?GZG X7CV?0IO%,< GWDAV-%;OB+ E&/KN>&2F0T GG9T:%7?2FD MD#%V389.Z4 ?1W*/6Q+RDP O3WQ375Z.K# DRO-.J4NYD3 W2A<9$G[KI, A8FXZ.QXH/M ,?D$9-'<O<W yG=VGFLO'>J 04V*TDVRZ3L FW8%%J*H3-9 .EL22DAS#JO N.O4TN.E2C< L<%UC*Y75FZ &8=SOSV[Y(< >8T$+%.YQHy >X7(>:JIAHX ZOEJ=:%PX<P [JED%P*5KB# ::?OWM0)(H7 A5-KUI.+CYF H-%[1QAUL%6 M+<XFBC/22[ D:$5V35B911 T2ZRCJ'8W3+ N+U-/>&;.A HK<'B5+45IG X?&JF%:R3Q3 (O1Z6ERB$,W JH8)8Y-CRN* .HD;$4I-'(% WYA21=:D&=R EOCZ.ARG',* <D'G.IAM:ON 1:;#>yPIZ9= OFSA6QCF(38 2PDU99*KyT: ,CL2M#M.AKy G=M>*O[%XWF MN=HZy.QU>T YOS3V22[[*N L&=y&2*EB8= O9*&$XBW;YT 'yH3J6:,/8- )O-JS/PFD'/ Y,B96C7VQ#V y[HQ?D55LX2 N>F?44y8NLQ YOB&=?&Z3+' XI(A.5-W*=( #SB1$P0TAJL"
end PySem.W.Fast
open PySem PySem.W PyProof.Rows
set_option maxRecDepth 100000 in
set_option maxHeartbeats 0 in
theorem PySem.Challenge.cw_tipwell_k32_whole_desks_of_all_rows_holds : PySem.Challenge.rw_tipwell_k32_whole_desks_of_all_rows.Holds := by
 w_on;o_law;km_head;(case hw=>w_witness2)
 k_fill
 refine Tw.walk (l:=PySem.Challenge.rw_tipwell_k32_whole_desks_of_all_rows) rfl rfl (λ w h Y=>PySem.W.km_in_of Y) (λ w h Y=>PySem.W.km_tabs_of Y) ?F
 case F=>
  intro w mg fa h KX G Gz;refine' Tw.all_mk KX G Gz ?_ ?_ (Tw.fw_mk ?_ ?_ ?_ ?_) (Tw.fw_mk ?_ ?_ ?_ ?_) (Tw.fw_mk ?_ ?_ ?_ ?_) (Tw.fw_mk ?_ ?_ ?_ ?_) (Tw.fw_mk ?_ ?_ ?_ ?_) (Tw.fw_mk ?_ ?_ ?_ ?_) (Tw.fw_mk ?_ ?_ ?_ ?_) (Tw.fw_mk ?_ ?_ ?_ ?_) (Tw.fw_mk ?_ ?_ ?_ ?_) (Tw.fw_mk ?_ ?_ ?_ ?_) (Tw.fw_mk ?_ ?_ ?_ ?_) (Tw.fw_mk ?_ ?_ ?_ ?_) (Tw.fw_mk ?_ ?_ ?_ ?_) (Tw.fw_mk ?_ ?_ ?_ ?_) (Tw.fw_mk ?_ ?_ ?_ ?_) (Tw.fw_mk ?_ ?_ ?_ ?_) (Tw.fw_mk ?_ ?_ ?_ ?_) (Tw.fw_mk ?_ ?_ ?_ ?_) (Tw.fw_mk ?_ ?_ ?_ ?_) (Tw.fw_mk ?_ ?_ ?_ ?_) (Tw.fw_mk ?_ ?_ ?_ ?_) (Tw.fw_mk ?_ ?_ ?_ ?_) (Tw.fw_mk ?_ ?_ ?_ ?_) (Tw.fw_mk ?_ ?_ ?_ ?_) (Tw.fw_mk ?_ ?_ ?_ ?_) (Tw.fw_mk ?_ ?_ ?_ ?_) (Tw.fw_mk ?_ ?_ ?_ ?_) (Tw.fw_mk ?_ ?_ ?_ ?_) (Tw.fm_mk ?_ ?_ ?_ ?_ ?_) (Tw.fm_mk ?_ ?_ ?_ ?_ ?_) (Tw.fw_mk ?_ ?_ ?_ ?_) (Tw.fw_mk ?_ ?_ ?_ ?_) (Tw.fw_mk ?_ ?_ ?_ ?_) (Tw.fm_mk ?_ ?_ ?_ ?_ ?_) (Tw.fw_mk ?_ ?_ ?_ ?_) (Tw.fw_mk ?_ ?_ ?_ ?_) (Tw.fw_mk ?_ ?_ ?_ ?_) (Tw.fw_mk ?_ ?_ ?_ ?_) (Tw.fw_mk ?_ ?_ ?_ ?_) (Tw.fw_mk ?_ ?_ ?_ ?_) (Tw.fw_mk ?_ ?_ ?_ ?_) (Tw.fw_mk ?_ ?_ ?_ ?_) (Tw.fw_mk ?_ ?_ ?_ ?_) (Tw.fw_mk ?_ ?_ ?_ ?_) (Tw.fw_mk ?_ ?_ ?_ ?_) (Tw.fm_mk ?_ ?_ ?_ ?_ ?_) (Tw.fw_mk ?_ ?_ ?_ ?_) (Tw.fm_mk ?_ ?_ ?_ ?_ ?_) (Tw.fw_mk ?_ ?_ ?_ ?_) (Tw.fw_mk ?_ ?_ ?_ ?_) (Tw.fw_mk ?_ ?_ ?_ ?_) (Tw.fm_mk ?_ ?_ ?_ ?_ ?_) (Tw.fw_mk ?_ ?_ ?_ ?_) (Tw.fm_mk ?_ ?_ ?_ ?_ ?_) (Tw.fw_mk ?_ ?_ ?_ ?_) (Tw.fm_mk ?_ ?_ ?_ ?_ ?_) (Tw.fw_mk ?_ ?_ ?_ ?_) (Tw.fm_mk ?_ ?_ ?_ ?_ ?_) (Tw.fw_mk ?_ ?_ ?_ ?_) (Tw.fm_mk ?_ ?_ ?_ ?_ ?_) (Tw.fw_mk ?_ ?_ ?_ ?_) (Tw.fw_mk ?_ ?_ ?_ ?_) (Tw.fw_mk ?_ ?_ ?_ ?_) (Tw.fw_mk ?_ ?_ ?_ ?_) (Tw.fw_mk ?_ ?_ ?_ ?_) (Tw.fw_mk ?_ ?_ ?_ ?_) (Tw.fw_mk ?_ ?_ ?_ ?_) (Tw.fw_mk ?_ ?_ ?_ ?_) (Tw.fw_mk ?_ ?_ ?_ ?_) (Tw.fw_mk ?_ ?_ ?_ ?_) ?_ ?_ ?_ ?_ (Tw.fw_mk ?_ ?_ ?_ ?_) (Tw.fw_mk ?_ ?_ ?_ ?_) (Tw.fm_mk ?_ ?_ ?_ ?_ ?_) (Tw.fw_mk ?_ ?_ ?_ ?_) (Tw.fw_mk ?_ ?_ ?_ ?_) (Tw.fw_mk ?_ ?_ ?_ ?_) (Tw.fm_mk ?_ ?_ ?_ ?_ ?_) (Tw.fw_mk ?_ ?_ ?_ ?_) (Tw.fw_mk ?_ ?_ ?_ ?_) (Tw.fw_mk ?_ ?_ ?_ ?_) (Tw.fw_mk ?_ ?_ ?_ ?_) (Tw.fw_mk ?_ ?_ ?_ ?_) ?_ ?_ ?_ ?_ ?_ ?_ ?_ ?_ ?_ ?_ ?_ ?_ ?_ ?_ ?_ ?_ ?_ ?_ ?_ ?_ ?_ ?_ ?_ ?_ ?_ ?_ ?_ ?_ ?_ ?_ ?_ ?_ ?_ ?_ ?_ ?_ ?_ ?_ ?_ ?_ ?_ ?_ ?_ ?_ ?_ ?_ ?_ ?_ ?_ ?_ ?_ ?_ ?_ (Tw.ek_mk ?_ ?_ ?_ ?_ ?_ ?_ ?_ ?_ ?_ ?_ ?_ ?_ ?_ ?_ ?_ ?_ ?_ ?_ ?_) (Tw.ek_mk ?_ ?_ ?_ ?_ ?_ ?_ ?_ ?_ ?_ ?_ ?_ ?_ ?_ ?_ ?_ ?_ ?_ ?_ ?_) (Tw.ek_mk ?_ ?_ ?_ ?_ ?_ ?_ ?_ ?_ ?_ ?_ ?_ ?_ ?_ ?_ ?_ ?_ ?_ ?_ ?_) (Tw.ek_mk ?_ ?_ ?_ ?_ ?_ ?_ ?_ ?_ ?_ ?_ ?_ ?_ ?_ ?_ ?_ ?_ ?_ ?_ ?_) (Tw.ek_mk ?_ ?_ ?_ ?_ ?_ ?_ ?_ ?_ ?_ ?_ ?_ ?_ ?_ ?_ ?_ ?_ ?_ ?_ ?_) (Tw.ek_mk ?_ ?_ ?_ ?_ ?_ ?_ ?_ ?_ ?_ ?_ ?_ ?_ ?_ ?_ ?_ ?_ ?_ ?_ ?_) ?_ ?_ ?_ ?_ ?_ ?_ ?_ ?_ ?_ ?_ ?_ ?_ ?_ ?_ ?_ ?_ ?yqA ?yqN ?yp70 ?yn70 ?yt70 ?yh70 ?exX
  all_goals (try delta Tw.Na)
  all_goals (try delta Tw.Nn)
  all_goals (try delta Tw.Kp)
  all_goals (try delta Tw.Cd)
  all_goals (try delta Tw.Lk)
  all_goals try k_is
  all_goals try kit_is
  all_goals try k_exc
  all_goals try kts_exm
  (case yqA=>decide)
  (case yqN=>decide)
  (case yp70=>exact rfl)
  (case yn70=>first|k_is|exact rfl)
  (case yt70=>decide)
  (case yh70=>first|k_is|exact rfl)
#print axioms PySem.Challenge.cw_tipwell_k32_whole_desks_of_all_rows_holds