import PyProof.Rows.All
import Wide.All
import OpenK.AllK
import Wide.FinOn
import Lean
import PyProof.EqAt
import PyProof.EqKinds
import PyProof.TupleCall
import PyProof.FactsAll.NoneType
import PyProof.ZipIter
import PyProof.EnumMake
import KE.KUnpack
import KE.KTryMore
import PyProof.NsDelKeeps
import PyProof.TupleKey
import PyProof.FactsAll.bool_1
import PyProof.DictDisplay
import KE.KLam
import KE.KNestM
import PyProof.NeKinds
import PyProof.ListRange
import PyProof.FactsAll.tuple_0
import PyProof.FactsAll.tuple_2
import PyProof.DictTruth
import KE.KIsAll
import PyProof.Rows.SetFrom
import PyProof.CollectWalk
import PyProof.Rows.SortWalk
import KE.RegKIsAll
import KE.RegKTryMore
import PySem.Challenge.RW_tipwell_k37_lists_of_ones_own
set_option Elab.async false
set_option linter.all false
set_option maxRecDepth 100000
noncomputable section
section
theorem ĸ1{p:A->Prop}{F:Prop}(h:∃ a,p a)(k:∀ a,p a->F):F:=h.elim k
theorem ĸ2{p:A->B->Prop}{F:Prop}(h:∃ a b,p a b)(k:∀ a b,p a b->F):F:=h.elim λ a h=>ĸ1 h (k a)
theorem ĸ3{p:A->B->C->Prop}{F:Prop}(h:∃ a b c,p a b c)(k:∀ a b c,p a b c->F):F:=h.elim λ a h=>ĸ2 h (k a)
theorem ĸ4{p:A->B->C->D->Prop}{F:Prop}(h:∃ a b c d,p a b c d)(k:∀ a b c d,p a b c d->F):F:=h.elim λ a h=>ĸ3 h (k a)
theorem ĸ5{p:A->B->C->D->E->Prop}{F:Prop}(h:∃ a b c d e,p a b c d e)(k:∀ a b c d e,p a b c d e->F):F:=h.elim λ a h=>ĸ4 h (k a)
theorem ĸ6{p:A->B->C->D->E->O->Prop}{F:Prop}(h:∃ a b c d e f,p a b c d e f)(k:∀ a b c d e f,p a b c d e f->F):F:=h.elim λ a h=>ĸ5 h (k a)
theorem ĸ7{p:A->B->C->D->E->O->G->Prop}{F:Prop}(h:∃ a b c d e f g,p a b c d e f g)(k:∀ a b c d e f g,p a b c d e f g->F):F:=h.elim λ a h=>ĸ6 h (k a)
theorem ĸ8{p:A->B->C->D->E->O->G->I->Prop}{F:Prop}(h:∃ a b c d e f g i,p a b c d e f g i)(k:∀ a b c d e f g i,p a b c d e f g i->F):F:=h.elim λ a h=>ĸ7 h (k a)
variable{A B C D E F G I J:Prop}
theorem ŉ2(h:A/\B)(k:A->B->F):F:=k h.1 h.2
theorem ŉ3(h:A/\B/\C)(k:A->B->C->F):F:=ŉ2 h.2 (k h.1)
theorem ŉ4(h:A/\B/\C/\D)(k:A->B->C->D->F):F:=ŉ3 h.2 (k h.1)
theorem ŉ5(h:A/\B/\C/\D/\E)(k:A->B->C->D->E->F):F:=ŉ4 h.2 (k h.1)
theorem ŉ6(h:A/\B/\C/\D/\E/\G)(k:A->B->C->D->E->G->F):F:=ŉ5 h.2 (k h.1)
theorem ŉ7(h:A/\B/\C/\D/\E/\G/\I)(k:A->B->C->D->E->G->I->F):F:=ŉ6 h.2 (k h.1)
theorem ŉ8(h:A/\B/\C/\D/\E/\G/\I/\J)(k:A->B->C->D->E->G->I->J->F):F:=ŉ7 h.2 (k h.1)
end
local macro_rules | `(tactic|show $t)=>`(tactic|refine $t)
local macro_rules | `(tactic|let $p:term:=$v)=>do
  let rec c : Nat->Lean.Term->Lean.MacroM (Lean.TSyntax `rcasesPat)
    | 0,_=>Lean.Macro.throwUnsupported
    | n+1,p=>match p with
      | `(⟨$a,*⟩)=>do
        let b<-a.getElems.mapM (c n)
        `(rcasesPat|⟨$[$b:rcasesPat],*⟩)
      | `($i:ident)=>`(rcasesPat|$i:ident)
      | _=>`(rcasesPat|_)
  let q<-c 30 p
  let mut r<-`(tactic|obtain $q:rcasesPat:=$v)
  let `(⟨$a,*⟩):=p|return r
  let x:=a.getElems
  let n:=x.size
  if n<3 then return r
  for j in [2:2*(min n 8)+1] do
    let k:=j/2
    let e:=Lean.mkIdent (.mkSimple s!"{if j%2=0 then "ŉ" else "ĸ"}{k}")
    let m:=if j%2=0&&k<n then k-1 else k
    let b<-(x.extract 0 m).mapM fun y=>do `(rintroPat|$(<-c 30 y):rcasesPat)
    let d:=x.extract m n
    let z<-if d.size=0 then `(tactic|skip) else if d.size=1 then `(tactic|rintro $(<-c 30 d[0]!):rcasesPat) else `(tactic|(intro z;let ⟨$d,*⟩:=z))
    r<-`(tactic|first|(refine $e $v ?_;(try clear $v);rintro $b*;$z)|($r:tactic))
  return r
open Option renaming some->Y,none->W
open Bool renaming true->Eg,false->Eh
theorem O {α} {a:α}:a=a:=rfl
open PySem renaming wpAny_bind->Æ,wpAny_pure->Ë,mem_of_lookup->ó,wpAny_mono->ä,wpAny_field->ê,wpAny_holding->ü,wpAny_rule->Č,wpAny_setField_rec->Ā,wpAny_seqItems->ā,wpAny_call_entry->ē,wpAny_newObj_type->Ğ,wpAny_callSpecial?_slot->Ĵ,wpAny_Call_Name_kw->Ĩ,wpAny_callSpecialIfBoundUnlessNone?_slot->adl,sizeLine_eq->ĕ,wpAny_onRaise->ğ,wpAny_truthy_bool->Ķ,wpAny_specialOf->Ĺ,wpAny_passesOwn->ĺ,wpAny_letGo->Ġ,wpAny_standAt->Ļ,wpAny_newFunctionEnv->Ŭ,call_meets->ģ,wpAny_comprehension_free->aet,wpAny_pyIter_tuple->ů,atKey_none_of_get->ŷ,wpAny_bindName->ř,wpAny_newTuple->Ś,codeAny_mono->ō,codeAny_call_function->afm,wpAny_execs_nil->ź,wpAny_pyIter_list->agg,beq_builtin_none->agu,noFill_tuple_add->agx,wpAny_isInstance->agy,typeIs_int->Ŝ
open List renaming length_map->Ê,getElem?_eq_some_iff->Ö,mem_of_getElem?->Û,getElem?_map->Ø,map_append->Ó,length_append->Þ,mem_cons->Ò,size_toArray->Ü,length_cons->Ý,length_take->ß,map_cons->Ù,take_length->æ,length_singleton->ö,mem_cons_of_mem->ø,getElem?_eq_getElem->þ,mem_singleton->ù,nodup_cons->ñ,mem_map->å,getD_eq_getElem?_getD->Ė,mem_append_right->Ċ,take_of_length_le->đ,map_nil->í,mem_cons_self->ă,mem_append->ÿ,all_eq_true->Ē,length_range->ė,getElem?_append_left->Į,append_assoc->ě,map_map->ĉ,not_mem_nil->Ĝ,mem_iff_getElem?->į,getElem?_append_right->Ŏ,mem_map_of_mem->İ,append_nil->Ģ,getElem_mem->Ĥ,mem_append_left->ľ,length_replicate->ŏ,mem_range->ĥ,take_succ->Ĳ,getElem?_set_self->ŝ,getElem?_set_ne->ş,getElem?_eq_none->acz,length_filter_le->ada,length_set->Š,foldl_cons->š,range_succ->Ţ,getElem?_zip_eq_some->Ħ,replicate_succ->ħ,cons_append->ĩ,lookup_cons->Ī,eq_nil_of_length_eq_zero->Ť,forIn_cons->ī,take_succ_cons->ł,map_inj_right->ņ,forIn_nil->Ĭ,mem_of_mem_take->Ő,getElem?_take_of_lt->Ŧ,nodup_append->Ň,filterMap_cons->ő,getElem?_cons_succ->ŧ,filter_append->Œ,of_mem_zip->Ŋ,find?_cons->ŋ,flatten_cons->œ,foldl_append->ŕ,replicate_succ'->ŭ,eq_of_mem_replicate->aeu,getElem?_replicate->aex,nil_append->ŗ,pairwise_singleton->ae4,find?_cons_of_pos->afb,find?_cons_of_neg->afc,range_succ_eq_map->afd,take_add_one->Ŷ,length_drop->Ÿ,zipIdx_cons->Ź,getElem?_mapIdx->aft,any_cons->ś,zipIdx_nil->Ż,getElem?_range->af7,take_zero->ž,take_sublist->agi,filterMap_cons_some->agm,set_comm->agn,all_cons->ago,map_take->ags,getElem_inj->agv,nodup_nil->ag4,drop_zero->ag5
open PySem.Heap renaming get?_push_of_some->Ï,get?_push_size->á,lt_size->Ô,size_push->ą,get?_update_self->Ş
open Nat renaming le_refl->Ñ,lt_of_lt_of_le->ï,ne_of_lt->â,zero_le->à,le_trans->ý,lt_irrefl->ċ,le_of_lt->ĝ,zero_add->Ě,le_add_right->ķ,min_eq_left->Ř,le_of_eq->Ō,lt_of_le_of_lt->agd,lt_succ_of_lt->agj,add_assoc->agr,exists_eq_add_of_le->agt,lt_succ_self->agw,not_lt_zero->ag1
open Option renaming map_eq_some_iff->é,isSome_map->Ŕ,map_some->Ŗ
open PySem.F renaming plainAttrs_list->ì,slot_list_append->ô,type_list_append->õ,slot_tuple_iterator_next->ť,args_tuple_add_2->aer,entry_tuple_add->aey,slot_list_clear->ae6,type_list_clear->ae7,slot_tuple_add->ae9,slot_dict_get->afn,args_tuple_iterator_next_1->afv,slot_dict_setdefault->afw,slot_int_rmul->ż,excBase_ValueError->af9,args_tuple_mul_2->age,entry_tuple_mul->agk,args_dict_get_3->agp,plainAttrs_dict->agq,slot_tuple_mul->agz,entry_dict_get->ag0
open Bool renaming false_ne_true->ã,and_eq_true->Ĕ,eq_iff_iff->ę,false_eq_true->ĵ,false_and->ag3,false_or->ag6
open Option.some renaming inj->ç
open PySem.W renaming mg_none_of->Ą,mg_of->ú,kia_one->Ď,hideAll_get->Ů,callWith_K->Ű,cellsFrom_some->ae8,plainGet_of->af3,kitx_tuple->agc,kitx_list->agh
open Int renaming toNat_natCast->ı,le_refl->Ć,eq_ofNat_of_zero_le->ŀ,emod_lt_of_pos->Ų,emod_nonneg->Ž,fdiv_eq_ediv_of_nonneg->af8
open Array renaming length_toList->Ŀ,forIn_toList->Ņ
open PySem.PassesOwn renaming never->ò
open PySem.Paired renaming length->î
open PyProof.Rows renaming callWith_type1->ĳ,slot_tuple_getitem->ţ,assignInOrder_cons->Ń,boot_sum->ũ,boot_all->Ū,subscriptTail_builtinR->afa,boot_max->afo
open PySem.Heap.SameBut renaming update->Ł,refl->ŵ
open PySem.Calls renaming spliced_cons->ń,callWith_builtin->Ũ,evalArgs_plain->ū,spliced_nil->Ŵ
open PySem.SeqAt.EqAt renaming same->ň,int_int->ű,of_refs->ų,bool_bool->afs,int_none->afy,str_none->afz,none_int->af0,none_str->af1,int_str->aga,str_int->agb
open PySem.Around renaming frames_deeper->afr
open PySem.SeqAt.RcAt renaming tuples->agl
open Prod.mk renaming injEq->ag7
abbrev À:=PySem.Value
abbrev Á:=PySem.Addr
abbrev Â:=PySem.Shared
abbrev Ã:=PySem.Program
def Ä:=@if_neg
def Å:=@if_pos
abbrev Ç:=PySem.W.Frag
def ð:=@decide_eq_true
def ć:=@of_decide_eq_true
def Ĉ:=@decide_eq_false
variable {P:PySem.Program}{w:PySem.World}{K:Ç}{mg:PySem.Str->Option PySem.Value}{base:PySem.Heap}{C c_TipError c_NoNet c_NoVessel c_TooLong c_TooMany c_TooMuch c_Nothing c_NoText c_NoRow:PySem.Addr}
def č:=@decide_eq_true_eq
def ļ:=@beq_iff_eq
theorem sz0 (n:Nat) (h:n<=1000:=by decide):n<=PySem.sizeLine:=Nat.le_trans h (by decide)
theorem wr0 {p:Prop} (h:p:=by with_unfolding_all rfl):p:=h
theorem FY {p:Prop} (h:p:=by decide +kernel):p:=h
theorem FZ {p:Prop} (h:p:=by decide):p:=h
theorem Fn {p:Prop} (h:p:=by lia):p:=h
theorem G0 {p:Prop} (h:p:=by simp):p:=h
theorem _1(_:True:=by show wr0):True:=trivial
def _0:=_1._auto_1
theorem _3(_:True:=by decide):True:=trivial
def _2:=_3._auto_1
theorem _5(_:True:=by with_unfolding_all first | show .inl O | show .inr O | assumption):True:=trivial
def _4:=_5._auto_1
theorem _7(_:True:=by intro _;with_unfolding_all rfl):True:=trivial
def _6:=_7._auto_1
theorem _9(_:True:=by intro _ _ _ _ _ _;first | show pX λ _=>O | show n9 λ _ _=>O | show pW λ _ _ _=>O | show pV λ _ _ _ _=>O | show pU λ _ _ _ _ _=>O):True:=trivial
def _8:=_9._auto_1
theorem _B(_:True:=by with_unfolding_all show Or.inl O):True:=trivial
def _A:=_B._auto_1
theorem _D(_:True:=by show {}):True:=trivial
def _C:=_D._auto_1
theorem _F(_:True:=by intro vs H Q E h;repeat first | (let⟨rfl,_⟩:=h;rfl) | let⟨_,h⟩:=h):True:=trivial
def _E:=_F._auto_1
namespace L2
open PySem PySem.Spec PyProof.Rows
theorem bA {T0:Sort _}{B:Sort _}{l r:T0->B}{p:T0->Prop} (a:T0) (qq:l a=r a) (hh:p a):∃ x0,l x0=r x0/\p x0:=⟨a,qq,hh⟩
theorem bU {T0 T1:Sort _}{B:Sort _}{l r:T0->T1->B}{p:T0->T1->Prop} (a:T0) (b:T1) (qq:l a b=r a b) (hh:p a b):∃ x0 x1,l x0 x1=r x0 x1/\p x0 x1:=⟨a,b,qq,hh⟩
theorem NN {T0 T1 T2:Sort _}{B:Sort _}{l r:T0->T1->T2->B}{p:T0->T1->T2->Prop} (a:T0) (b:T1) (c:T2) (qq:l a b c=r a b c) (hh:p a b c):∃ x0 x1 x2,l x0 x1 x2=r x0 x1 x2/\p x0 x1 x2:=⟨a,b,c,qq,hh⟩
theorem JJ {T0 T1 T2 T3:Sort _}{B:Sort _}{l r:T0->T1->T2->T3->B}{p:T0->T1->T2->T3->Prop} (a:T0) (b:T1) (c:T2) (d:T3) (qq:l a b c d=r a b c d) (hh:p a b c d):∃ x0 x1 x2 x3,l x0 x1 x2 x3=r x0 x1 x2 x3/\p x0 x1 x2 x3:=⟨a,b,c,d,qq,hh⟩
theorem eA5 {T0 T1 T2 T3 T4:Sort _}{B:Sort _}{l r:T0->T1->T2->T3->T4->B}{p:T0->T1->T2->T3->T4->Prop} (a:T0) (b:T1) (c:T2) (d:T3) (e:T4) (qq:l a b c d e=r a b c d e) (hh:p a b c d e):∃ x0 x1 x2 x3 x4,l x0 x1 x2 x3 x4=r x0 x1 x2 x3 x4/\p x0 x1 x2 x3 x4:=⟨a,b,c,d,e,qq,hh⟩
theorem eA6 {T0 T1 T2 T3 T4 T5:Sort _}{B:Sort _}{l r:T0->T1->T2->T3->T4->T5->B}{p:T0->T1->T2->T3->T4->T5->Prop} (a:T0) (b:T1) (c:T2) (d:T3) (e:T4) (f:T5) (qq:l a b c d e f=r a b c d e f) (hh:p a b c d e f):∃ x0 x1 x2 x3 x4 x5,l x0 x1 x2 x3 x4 x5=r x0 x1 x2 x3 x4 x5/\p x0 x1 x2 x3 x4 x5:=⟨a,b,c,d,e,f,qq,hh⟩
theorem eA7 {T0 T1 T2 T3 T4 T5 T6:Sort _}{B:Sort _}{l r:T0->T1->T2->T3->T4->T5->T6->B}{p:T0->T1->T2->T3->T4->T5->T6->Prop} (a:T0) (b:T1) (c:T2) (d:T3) (e:T4) (f:T5) (g:T6) (qq:l a b c d e f g=r a b c d e f g) (hh:p a b c d e f g):∃ x0 x1 x2 x3 x4 x5 x6,l x0 x1 x2 x3 x4 x5 x6=r x0 x1 x2 x3 x4 x5 x6/\p x0 x1 x2 x3 x4 x5 x6:=⟨a,b,c,d,e,f,g,qq,hh⟩
theorem eA8 {T0 T1 T2 T3 T4 T5 T6 T7:Sort _}{B:Sort _}{l r:T0->T1->T2->T3->T4->T5->T6->T7->B}{p:T0->T1->T2->T3->T4->T5->T6->T7->Prop} (a:T0) (b:T1) (c:T2) (d:T3) (e:T4) (f:T5) (g:T6) (h:T7) (qq:l a b c d e f g h=r a b c d e f g h) (hh:p a b c d e f g h):∃ x0 x1 x2 x3 x4 x5 x6 x7,l x0 x1 x2 x3 x4 x5 x6 x7=r x0 x1 x2 x3 x4 x5 x6 x7/\p x0 x1 x2 x3 x4 x5 x6 x7:=⟨a,b,c,d,e,f,g,h,qq,hh⟩
abbrev gX:=Sum Int (Option Str)
def MY:À->Bool
 |.none=>Eg
 |_=>Eh
theorem CM  (h:MY v=Eg):v=Value.none:=by
 cases v <;> simp_all [MY]
def xT:gX->À->Bool
 |.inl k,v=>Value.isInt k v
 |.inr (Y x),v=>Value.isStrOf x v
 |.inr W,v=>MY v
def pS:Int:=0xFCA86420
def keyH (w:World):gX->Int
 |.inl k=>hashInt k
 |.inr (Y x)=>hashStr w x
 |.inr W=>pS
theorem cQ:∀ {k:gX}{v:À},xT k v=Eg->(∃ i t,k=Sum.inl i/\v=Value.int i t)\/(∃ x t,k=Sum.inr (Y x)/\v=Value.str x t)\/(k=Sum.inr W/\v=Value.none)
 |.inl i,v,h=>by
  let⟨t,e⟩:=Value.isInt_shape (k:=i) (v:=v) h;show .inl ⟨i,t,O,e⟩
 |.inr (Y x),v,h=>by
  let⟨t,e⟩:=Value.isStrOf_shape (x:=x) (v:=v) h;show .inr (.inl ⟨x,t,O,e⟩)
 |.inr W,v,h=>.inr (.inr ⟨rfl,CM h⟩)
theorem J9 (i:Int) (t:Tok):xT (.inl i) (.int i t)=true:=by simp[xT,Value.isInt]
theorem J7 (x:Str) (t:Tok):xT (.inr (Y x)) (.str x t)=true:=by simp[xT,Value.isStrOf]
theorem SV (a b:Int):decide ((Sum.inl a:gX)=Sum.inl b)=(a==b):=by
 by_cases e:a=b
 ·subst e;simp
 ·have h:¬ (Sum.inl a:gX)=Sum.inl b:=λ q=>e (Sum.inl.inj q);rw[Ĉ h];show(beq_eq_false_iff_ne.mpr e).symm
theorem ST (a b:Str):decide ((Sum.inr (Y a):gX)=Sum.inr (Y b))=decide (a=b):=by
 by_cases e:a=b
 ·subst e;simp
 ·have h:¬ (Sum.inr (Y a):gX)=Sum.inr (Y b):=λ q=>e (ç (Sum.inr.inj q));rw[Ĉ h,Ĉ e]
theorem MP (i:Int) (o:Option Str):decide ((Sum.inl i:gX)=Sum.inr o)=false:=Ĉ (λ q=>nomatch q)
theorem MQ (i:Int) (o:Option Str):decide ((Sum.inr o:gX)=Sum.inl i)=false:=Ĉ (λ q=>nomatch q)
theorem SS (x:Str):decide ((Sum.inr (Y x):gX)=Sum.inr W)=false:=Ĉ (λ q=>nomatch (Sum.inr.inj q))
theorem SU (x:Str):decide ((Sum.inr W:gX)=Sum.inr (Y x))=false:=Ĉ (λ q=>nomatch (Sum.inr.inj q))
theorem N5 {prog:Ã}{E:À->Â->Prop}{s:Â}{Q:Int->Â->Prop} (h:Q pS { s with toks:=s.toks+1 }) :
  wpAny (model prog w) A (pyHash .none) Q E s:=by
 have hT:s.TypeIs .none "NoneType" := rfl;unfold pyHash;have hv:[Value.none].any Value.onHeap=false:=rfl;show Æ ?_;rw[cRoomFor,Ä (by rw[hv];show ã)];show Ë ?_;show Æ (Ĺ hT F.slot_NoneType_hash.lookup ?_);change wpAny _ _ (if (Y (Value.builtin "NoneType.__hash__") == Y Value.none)=Eg then _ else _) Q E s;rw[Ä (by rw[agu];show ã)];show Æ (Ĺ hT F.slot_NoneType_hash.lookup ?_);change wpAny _ _ (callSpecialIfBoundUnlessNone? .none "__hash__" _ >>= _) Q E s;show Æ (adl hT F.slot_NoneType_hash
  (ē F.slot_NoneType_hash hT F.entry_NoneType_hash
   (show wpAny _ _ (do ret (<- mkInt pS)) _ _ s from wpAny_ret_mkInt ?_) (F.args_NoneType_hash_1 _)))
 change wpAny _ _ (if (decide (-(2:Int) ^ 63<=pS) && decide (pS < 2 ^ 63))=Eg then _ else _) Q E _;rw[Å FZ];show Ë h
def eO (prog:Ã) (w:World):PySem.KeyKind prog w gX where
 is:=xT
 hash:=keyH w
 inj:=λ v a b ha hb=>by
  rcases cQ ha with⟨i,t,rfl,rfl⟩|⟨x,t,rfl,rfl⟩|⟨rfl,rfl⟩
  ·rcases cQ hb with⟨j,u,rfl,e⟩|⟨y,u,rfl,e⟩|⟨rfl,e⟩
   ·injection e with e1 _;rw[e1]
   ·show nomatch e
   ·show nomatch e
  ·rcases cQ hb with⟨j,u,rfl,e⟩|⟨y,u,rfl,e⟩|⟨rfl,e⟩
   ·show nomatch e
   ·injection e with e1 _;rw[e1]
   ·show nomatch e
  ·rcases cQ hb with⟨j,u,rfl,e⟩|⟨y,u,rfl,e⟩|⟨rfl,e⟩
   ·show nomatch e
   ·show nomatch e
   ·rfl
 byValue:=λ k v h=>by
  rcases cQ h with⟨i,t,rfl,rfl⟩|⟨x,t,rfl,rfl⟩|⟨rfl,rfl⟩ <;> rfl
 pyHash:=λ hv h=>by
  rcases cQ hv with⟨i,t,rfl,rfl⟩|⟨x,t,rfl,rfl⟩|⟨rfl,rfl⟩
  ·show wpAny_pyHash_int h
  ·show wpAny_pyHash_str h
  ·show N5 h
 eqBool:=λ hu hv h=>by
  rcases cQ hu with⟨i,t,rfl,rfl⟩|⟨x,t,rfl,rfl⟩|⟨rfl,rfl⟩
  ·rcases cQ hv with⟨j,u,rfl,rfl⟩|⟨y,u,rfl,rfl⟩|⟨rfl,rfl⟩
   ·rw[SV]at h;show wpAny_eqBool_int h
   ·rw[MP]at h;show aga i t y u _ _ _ _ h
   ·rw[MP]at h;show afy i t _ _ _ _ h
  ·rcases cQ hv with⟨j,u,rfl,rfl⟩|⟨y,u,rfl,rfl⟩|⟨rfl,rfl⟩
   ·rw[MQ]at h;show agb x t j u _ _ _ _ h
   ·rw[ST]at h;show wpAny_eqBool_str h
   ·rw[SS]at h;show afz x t _ _ _ _ h
  ·rcases cQ hv with⟨j,u,rfl,rfl⟩|⟨y,u,rfl,rfl⟩|⟨rfl,rfl⟩
   ·rw[MQ]at h;show af0 j u _ _ _ _ h
   ·rw[SU]at h;show af1 y u _ _ _ _ h
   ·rw[ð rfl]at h;show ň Value.none _ _ _ _ h
 «strs»:=λ k x t v h=>by
  rcases cQ h with⟨i,u,rfl,e⟩|⟨y,u,rfl,e⟩|⟨rfl,e⟩
  ·show nomatch e
  ·injection e with e1 _;subst e1;cases v <;> rfl
  ·show nomatch e
theorem CH (prog:Ã) (w:World) (i:Int) (t:Tok):(eO prog w).is (.inl i) (.int i t)=true:=J9 i t
theorem CG (prog:Ã) (w:World) (x:Str) (t:Tok):(eO prog w).is (.inr (Y x)) (.str x t)=true:=J7 x t
inductive V where
 |non|bl (b:Bool)|int (i:Int)|str (x:Str)|byt (b:Array UInt8)|flt (b:UInt64)|ref (a:Á)|ty (n:String)
 deriving DecidableEq
def aX:V->À->Prop
 |.non,u=>u=Value.none
 |.bl b,u=>u=Value.bool b
 |.int i,u=>∃ t,u=Value.int i t
 |.str x,u=>∃ t,u=Value.str x t
 |.byt b,u=>∃ t,u=Value.bytes b t
 |.flt b,u=>∃ t,u=Value.float b t
 |.ref a,u=>u=Value.ref a
 |.ty n,u=>u=Value.type n
abbrev bI:List V->List À->Prop:=Paired aX
theorem bI.length  (r:bI xs us):xs.length=us.length:=î r
theorem bI.get:∀ {xs:List V}{us:List À}{i:Nat}{x:V},bI xs us->xs[i]?=Y x->∃ u,us[i]?=Y u/\aX x u
 |_,_,_,_,.nil,e=>by simp at e
 |_,_,0,_,.cons r _,e=>by simp at e;subst e;show⟨_,O,r⟩
 |_,_,i+1,x,.cons _ t,e=>by
  let⟨u,h1,h2⟩:=bI.get (i:=i) (x:=x) t (by simpa using e);show⟨u,by simpa using h1,h2⟩
theorem bI.set  (r:aX x u):∀ {xs:List V}{us:List À} (i:Nat),bI xs us->bI (xs.set i x) (us.set i u)
 |_,_,_,.nil=>.nil
 |_,_,0,.cons _ t=>.cons r t
 |_,_,i+1,.cons q t=>.cons q (bI.set r i t)
theorem bI.append:∀ {xs ys:List V}{us ws:List À},bI xs us->bI ys ws->bI (xs++ys) (us++ws)
 |_,_,_,_,.nil,s=>s
 |_,_,_,_,.cons r t,s=>.cons r (bI.append t s)
theorem bI.take:∀ {xs:List V}{us:List À} (n:Nat),bI xs us->bI (xs.take n) (us.take n)
 |_,_,0,_=>.nil
 |_,_,_+1,.nil=>.nil
 |_,_,n+1,.cons r t=>.cons r (bI.take n t)
theorem bI.drop:∀ {xs:List V}{us:List À} (n:Nat),bI xs us->bI (xs.drop n) (us.drop n)
 |_,_,0,r=>r
 |_,_,_+1,.nil=>.nil
 |_,_,n+1,.cons _ t=>bI.drop n t
def lE:Option V->Option À->Prop
 |some v,Y u=>aX v u
 |none,W=>True
 |_,_=>False
def KV {ba:Type}:List (ba×V)->List (ba×À)->Prop:=Paired λ(p:ba×V) (q:ba×À)=>p.1=q.1/\aX p.2 q.2
def kV:gX->V
 |.inl i=>.int i
 |.inr (Y x)=>.str x
 |.inr W=>.non
inductive HO where
 |lst (xs:List V)
 |tup (xs:List V)
 |dK (gn:List (gX×V))|dT (gn:List (List gX×V))
 |set (S:Int->Bool) (n:Nat)
 |ins (C dx:Á) (fs:List (Str×V))
 |own (x:Á)
 |xd (fs:List (Str×V))
 |met (f x:Á)
 |rng (lo hi:Int)
 |frz (o:Obj) (u:HO)
 |tbl (ps:Array À)
 |ext (fj:Heap->Prop)
abbrev Hp:=Á->Option HO
def upd (H:Hp) (a:Á) (o:HO):Hp:=λ b=>if b=a then Y o else H b
theorem a8 :upd H a o a=Y o:=by unfold upd;rw[Å rfl]
theorem aG  (h:b≠a):upd H a o b=H b:=by unfold upd;rw[Ä h]
theorem OK :upd (upd H a o) a u=upd H a u:=by
 funext b;unfold upd;split <;> rfl
theorem R0 {H:Hp} (h:H a=Y o) (h':H b=Y u) (d:o≠u):a≠b:=by
 intro e;subst e;rw[h]at h';show d (ç h')
theorem aI {H:Hp} (h:H a=Y o) (h':H b=W):a≠b:=by
 intro e;subst e;rw[h]at h';cases h'
section
variable (P:Ã)(w:World)
def bY (H:Hp) (h:Heap) (a:Á):HO->Prop
 |.lst xs=>xs.length<=sizeLine/\∃(its:List À) (n:Nat),bI xs its/\h.get? a=Y { cls:=.type "list",data:=.seq its.toArray n }
 |.tup xs=>xs.length<=sizeLine/\∃ its:List À,bI xs its/\IsTup h a its.toArray
 |.dK gn=>gn.length<=sizeLine/\(a==sysModules)=Eh/\∃ vs,KV gn vs/\h.DictOf (eO P w) a vs
 |.dT gn=>gn.length<=sizeLine/\(a==sysModules)=Eh/\∃ xs:List (List gX×Á×À),
   Paired (λ(p:List gX×V) (q:List gX×Á×À)=>p.1=q.1/\H q.2.1=Y (.tup (p.1.map kV))/\aX p.2 q.2.2) gn xs/\
   ∃ o es ep,h.get? a=Y o/\o.ExactDict/\o.data=.dict es ep/\es.toList=xs.map (entryOfKey (tupleKind (eO P w)))/\(xs.map (·.1)).Nodup
 |.set S n=>h.SetOf (intKind P w) a S n
 |.ins C dx fs=>H dx=Y (.own a)/\fs.length<=1000/\dx≠a/\h.get? a=Y (PySem.W.instObj C dx)/\
   ∃ mA,h.Ns1 dx mA/\(∀ f,lE (fs.lookup f) (mA f))/\PySem.Within mA (fs.map (·.1))
 |.own _=>∃ o,h.get? a=Y o
 |.xd fs=>∃ mA,h.Ns1 a mA/\∀ f,lE (fs.lookup f) (mA f)
 |.rng lo hi=>∃ t u v,h.get? a=Y { cls:=.type "range",data:=.fields #[.int lo t,.int hi u,.int 1 v] }
 |.frz o u=>h.get? a=Y o/\bY H h a u
 |.tbl ps=>h.get? a=Y { cls:=.none,data:=.fields ps }
 |.met f x=>h.get? a=Y (PySem.W.methodObj (.ref f) (.ref x))
 |.ext fj=>fj h/\(∃ o,h.get? a=Y o)/\∀ h1 h2:Heap,fj h1->(∀ o,h1.get? a=Y o->h2.get? a=Y o)->fj h2
def nP (H:Hp) (h:Heap):Prop:=∀ a o,H a=Y o->bY P w H h a o
end
section
variable {H H':Hp}{h h':Heap}{a:Á}{o:HO}
theorem bY.lt (x:bY P w H h a o):a < h.objs.size:=by
 cases o with
 |lst xs=>let⟨_,_,_,_,e⟩:=x;show Ô e
 |tup xs=>let⟨_,_,_,p⟩:=x;show p.lt
 |dK gn=>let⟨_,_,_,_,o,_,_,e,_⟩:=x;show Ô e
 |dT gn=>let⟨_,_,_,_,o,_,_,e,_⟩:=x;show Ô e
 |set S n=>let⟨o,_,_,_,e,_⟩:=x;show Ô e
 |ins C dx fs=>let⟨_,_,_,e,_⟩:=x;show Ô e
 |own y=>let⟨_,e⟩:=x;show Ô e
 |xd fs=>let⟨_,⟨_,_,_,e,_⟩,_⟩:=x;show Ô e
 |rng lo hi=>let⟨_,_,_,e⟩:=x;show Ô e
 |frz ob u=>let⟨e,_⟩:=x;show Ô e
 |tbl ps=>show Ô (show h.get? a=Y _ from x)
 |met f y=>show Ô (show h.get? a=Y _ from x)
 |ext fj=>let⟨_,⟨_,e⟩,_⟩:=x;show Ô e
theorem Paired.mapP {ae cj:Type}{F G:ae->cj->Prop}:∀ {bo:List ae}{bq:List cj},Paired F bo bq->(∀ a b,F a b->G a b)->Paired G bo bq
 |_,_,.nil,_=>.nil
 |_,_,.cons r t,f=>.cons (f _ _ r) (Paired.mapP t f)
def ë:=@Paired.mapP
theorem bY.stay (x:bY P w H h a o) (k:∀ b u,(b=a\/H b=Y (.own a))->h.get? b=Y u->h'.get? b=Y u)
  (ho:∀ b,H b=Y (.own a)->H' b=Y (.own a)) (ht:∀ b xs,H b=Y (.tup xs)->H' b=Y (.tup xs)):bY P w H' h' a o:=by
 induction o with
 |lst xs=>let⟨z,its,n,r,e⟩:=x;show⟨z,its,n,r,k _ _ (.inl O) e⟩
 |tup xs=>let⟨z,its,r,ob,e,c⟩:=x;show⟨z,its,r,ob,k _ _ (.inl O) e,c⟩
 |dK gn=>let⟨z,y,vs,r,ob,es,ep,e,c⟩:=x;show⟨z,y,vs,r,ob,es,ep,k _ _ (.inl O) e,c⟩
 |dT gn=>
  let⟨z,y,xs,r,ob,es,ep,e,c⟩:=x;show⟨z,y,xs,ë r λ p q z=>⟨z.1,ht _ _ z.2.1,z.2.2⟩,ob,es,ep,k _ _ (.inl O) e,c⟩
 |set S n=>let⟨ob,es,ep,t,e,c⟩:=x;show⟨ob,es,ep,t,k _ _ (.inl O) e,c⟩
 |ins C dx fs=>
  let⟨d,z,ne,e,mA,⟨od,es,ep,e2,c⟩,r⟩:=x;show⟨ho _ d,z,ne,k _ _ (.inl O) e,mA,⟨od,es,ep,k _ _ (.inr d) e2,c⟩,r⟩
 |own y=>let⟨ob,e⟩:=x;show⟨ob,k _ _ (.inl O) e⟩
 |xd fs=>let⟨mA,⟨od,es,ep,e,c⟩,r⟩:=x;show⟨mA,⟨od,es,ep,k _ _ (.inl O) e,c⟩,r⟩
 |rng lo hi=>let⟨t,u,v,e⟩:=x;show⟨t,u,v,k _ _ (.inl O) e⟩
 |frz ob u ih=>let⟨e,q⟩:=x;show⟨k _ _ (.inl O) e,ih q⟩
 |tbl ps=>
  have e:h.get? a=Y { cls:=.none,data:=.fields ps }:=x;change h'.get? a=Y { cls:=.none,data:=.fields ps };show k a _ (.inl O) e
 |met f y=>
  have e:h.get? a=Y (PySem.W.methodObj (.ref f) (.ref y)):=x;change h'.get? a=Y (PySem.W.methodObj (.ref f) (.ref y));show k a _ (.inl O) e
 |ext fj=>let⟨p,⟨o,e⟩,st⟩:=x;show⟨st _ _ p λ o q=>k _ _ (.inl O) q,⟨o,k _ _ (.inl O) e⟩,st⟩
theorem nP.lt (x:nP P w H h) (e:H a=Y o):a < h.objs.size:=(x a o e).lt
theorem nP.fresh (x:nP P w H h) (e:h.objs.size<=a):H a=none:=by
 cases q:H a with
 |none=>rfl
 |some u=>show absurd (ï (x.lt q) e) (ċ _)
theorem nP.kept (x:nP P w H h) (k:∀ b u,h.get? b=Y u->h'.get? b=Y u):nP P w H h':=λ a o e=>
 (x a o e).stay (λ b u _ q=>k b u q) (λ _ q=>q) λ _ _ q=>q
theorem nP.laid (x:nP P w H h) (k:∀ b u,h.get? b=Y u->h'.get? b=Y u) (hp:h.objs.size<=a) (new:bY P w (upd H a o) h' a o):nP P w (upd H a o) h':=λ b u e=>by
 have hn:=x.fresh hp
 by_cases hb:b=a
 ·subst hb;rw[a8]at e;cases e;show new
 ·rw[aG hb]at e;show(x b u e).stay (λ c v _ q=>k c v q) (λ c q=>by rw[aG (aI q hn)];show q) λ c xs q=>by rw[aG (aI q hn)];show q
end
def Rd (H:Hp) (a:Á) (u:HO):Prop:=H a=Y u\/∃ o,H a=Y (.frz o u)
theorem Rd.ok {P:Ã}{u:HO} (r:Rd H a u) (x:nP P w H h):bY P w H h a u:=by
 rcases r with r|⟨o,r⟩
 ·show x a u r
 ·let⟨_,q⟩:=x a _ r;show q
def iI:Option HO->Prop
 |some (.lst _)=>True
 |some (.dK _)=>True
 |some (.dT _)=>True
 |some (.set _ _)=>True
 |some (.ins _ _ _)=>True
 |some (.ext _)=>True
 |_=>False
section
variable {H:Hp}{h h':Heap}{x e:Á}{o':HO}
theorem nP.write (ok:nP P w H h) (mu:iI (H x)) (he:e=x\/H e=Y (.own x)) (k:∀ b u,b≠e->h.get? b=Y u->h'.get? b=Y u) (Ei:∃ u,h'.get? e=Y u)
  (new:bY P w (upd H x o') h' x o'):nP P w (upd H x o') h':=λ b u q=>by
 have Fo:∀ c y,H c=Y (.own y)->c≠x:=λ c y r z=>by subst z;rw[r]at mu;show mu
 have Mg:∀ c xs,H c=Y (.tup xs)->c≠x:=λ c xs r z=>by subst z;rw[r]at mu;show mu
 by_cases hb:b=x
 ·subst hb;rw[a8]at q;cases q;show new
 ·rw[aG hb]at q
  by_cases Cj:b=e
  ·have q':H b=Y (.own x):=by
    rcases he with z|z
    ·show absurd (Cj.trans z) hb
    ·rw[Cj];show z
   rw[q]at q';cases q';let⟨v,hv⟩:=Ei;show⟨v,by rw[Cj];show hv⟩
  ·show(ok b u q).stay (λ c v hc r=>k c v ?_ r) (λ c r=>by rw[aG (Fo c b r)];show r) λ c xs r=>by rw[aG (Mg c xs r)];show r
   rcases hc with rfl|hc
   ·show Cj
   ·rintro rfl;rcases he with z|z
    ·show Fo c b hc z
    ·rw[hc]at z;cases z;show hb O
end
structure Un (fs ex:List Á) (H H':Hp) (h h':Heap):Prop where
 keep:∀ b o,h.get? b=Y o->H b=W->b∉fs->b∉ex->h'.get? b=Y o
 slot:∀ b o,h.get? b=Y o->H b=W->b∈fs->b∉ex->∃ sl,h'.get? b=Y { o with slots:=sl }
 free:∀ b o,h.get? b=Y o->H b=W->b∉ex->H' b=W
 there:∀ b o,h.get? b=Y o->b∉ex->∃ o',h'.get? b=Y o'
 tups:∀ b xs,H b=Y (.tup xs)->H' b=Y (.tup xs)
 frzs:∀ b o u,H b=Y (.frz o u)->H' b=Y (.frz o u)
 tbls:∀ b ps,H b=Y (.tbl ps)->∃ more,H' b=Y (.tbl (ps++more))
section
variable {fs jz ex K':List Á}{H H1 H2:Hp}{h h1 h2 h':Heap}{a x e:Á}{o:HO}
theorem Un.any (u:Un fs ex H H1 h h1) {b:Á} (q:h.get? b=Y ob) (n:H b=W) (hx:b∉ex):∃ sl,h1.get? b=Y { ob with slots:=sl }:=by
 by_cases hb:b∈fs
 ·show u.slot b ob q n hb hx
 ·show⟨ob.slots,u.keep b ob q n hb hx⟩
theorem Un.kept (k:∀ b u,h.get? b=Y u->h'.get? b=Y u):Un fs ex H H h h':=
 ⟨λ b ob q _ _ _=>k b ob q,λ b ob q _ _ _=>⟨ob.slots,k b ob q⟩,λ _ _ _ n _=>n,λ b ob q _=>⟨ob,k b ob q⟩,λ _ _ q=>q,λ _ _ _ q=>q,λ _ ps q=>⟨#[],by rw[q];simp⟩⟩
theorem Un.refl:Un fs ex H H h h:=Un.kept λ _ _ q=>q
theorem Un.laid (k:∀ b u,h.get? b=Y u->h'.get? b=Y u) (hp:h.objs.size<=a) (hn:H a=W):Un fs ex H (upd H a o) h h' where
 keep:=λ b u q _ _ _=>k b u q
 slot:=λ b u q _ _ _=>⟨u.slots,k b u q⟩
 free:=λ b u q n _=>by rw[aG (â (ï (Ô q) hp))];show n
 there:=λ b u q _=>⟨u,k b u q⟩
 tups:=λ b xs q=>by rw[aG (aI q hn)];show q
 frzs:=λ b u xs q=>by rw[aG (aI q hn)];show q
 tbls:=λ b ps q=>⟨#[],by rw[aG (aI q hn),q];simp⟩
theorem Un.write (mu:iI (H x)) (he:e=x\/H e=Y (.own x)) (k:∀ b u,b≠e->h.get? b=Y u->h'.get? b=Y u) (Ei:∃ u,h'.get? e=Y u):Un fs ex H (upd H x o) h h':=by
 have hx:∀ b,H b=W->b≠x:=λ b n z=>by subst z;rw[n]at mu;show mu
 have hb:∀ b,H b=W->b≠e:=λ b n z=>by
  subst z;rcases he with r|r
  ·show hx b n r
  ·rw[n]at r;cases r
 have hm:∀ b u,H b=Y u->¬ iI (Y u)->b≠x:=λ b u q nm z=>by subst z;rw[q]at mu;show nm mu
 show⟨λ b u q n _ _=>k b u (hb b n) q,λ b u q n _ _=>⟨u.slots,k b u (hb b n) q⟩,λ b u q n _=>by rw[aG (hx b n)];show n,λ b u q _=>?_,
  λ b xs q=>by rw[aG (hm b _ q λ z=>z)];show q,λ b u xs q=>by rw[aG (hm b _ q λ z=>z)];show q,λ b ps q=>⟨#[],by rw[aG (hm b _ q λ z=>z),q];simp⟩⟩
 by_cases Cj:b=e
 ·subst Cj;show Ei
 ·show⟨u,k b u Cj q⟩
end
def trk (h:Heap) (H:Hp):List Á:=(List.range h.objs.size).filter λ a=>(H a).isSome
def wN (h:Heap) (H:Hp):Heap:=PySem.W.hideAll h (trk h H)
theorem JC (h:Heap) (H:Hp):(wN h H).objs.size=h.objs.size:=PySem.W.hideAll_size _ _
theorem N4 {b:Á} (e:h.get? b=Y o) (n:H b=W):(wN h H).get? b=Y o:=
 Ů _ e λ hm=>by
  have q:(H b).isSome=true:=(List.mem_filter.mp hm).2;rw[n]at q;simp at q
theorem PP {b:Á} (e:(wN h H).get? b=Y o):h.get? b=Y o/\H b=none:=by
 have e':h.get? b=Y o:=PySem.W.of_hideAll (trk h H) e;show⟨e',?_⟩;cases q:H b with
 |none=>rfl
 |some x=>
  have hm:b∈trk h H:=List.mem_filter.mpr ⟨ĥ.mpr (Ô e'),by simp[q]⟩;have z:(wN h H).get? b=none:=PySem.W.hideAll_none (trk h H) hm;rw[z]at e;cases e
structure Mod (K:Ç) (mg:Str->Option À) (base:Heap):Prop where
 kin:K.In base
 glob:base.Ns mainGlobals mg
 blt:∃ mb,base.Ns builtinsNs mb/\∀ x:Str,x ≠ "__name__" -> mb x=bootBuiltins x
 nolimit:base.NoLimit
structure Cx where
 prog:Ã
 w:World
 K:Ç
 mg:Str->Option À
 base:Heap
 A:Around
 N:List Str
 s₀:Â
 H₀:Hp
 env:Env
 outer:List Env
 stack:List Env
 ex:List Á
 fn:Str->Bool
 calm:Bool
 pn:List (Á×Obj)
 xe:À->Â->Prop
def kA (l:List Env):List Á:=l.filterMap (·.frame)
abbrev Cx.fs (X:Cx):List Á:=kA X.outer
def VG (sc:Scope) (x:Str):Prop:=sc.names.lookup x=Y .local\/sc.names.lookup x=Y .cell\/sc.names.lookup x=Y .free
def RJ (sc:Scope) (x:Str):Prop:=sc.names.lookup x=Y .local\/sc.names.lookup x=Y .cell
def Look (env:Env) (h:Heap) (m:Str->Option À) (x:Str) (u:À):Prop:=
 (env.kindOf x=Y .local/\m x=Y u)\/((env.kindOf x=Y .cell\/env.kindOf x=Y .free)/\∃ c,env.cells.lookup x=Y c/\h.IsCell c (Y u))
structure Cx.Ok (X:Cx):Prop where
 mod:Mod X.K X.mg X.base
 kind:X.env.scope.kind=.function
 glob:X.env.globals=mainGlobals
 blt:X.env.builtins=builtinsNs
 above:X.s₀.heap.objs.size<=X.env.locals
 inj:∀ x y c,X.env.cells.lookup x=Y c->X.env.cells.lookup y=Y c->x=y
 has:∀ x,(X.env.kindOf x=Y .cell\/X.env.kindOf x=Y .free)->∃ c,X.env.cells.lookup x=Y c
 cab:∀ x c,X.fn x=Eg->X.env.cells.lookup x=Y c->X.s₀.heap.objs.size<=c
 hd:X.calm=Eg->X.A.handled=W
 frames:X.A.frames=Y X.stack
 stk:X.stack=X.outer\/(X.stack=X.env::X.outer/\X.env.frame=Y X.env.locals)
 exf:∀ b∈X.ex,b≠X.env.locals/\∀ x c,X.env.cells.lookup x=Y c->c≠b
 bs:∀ b o,X.base.get? b=Y o->X.s₀.heap.get? b=Y o/\X.H₀ b=W
 bsz:X.base.objs.size<=X.s₀.heap.objs.size
 noex:∀ b o,X.base.get? b=Y o->b∉X.ex
 exfs:∀ b∈X.ex,b∉X.fs
 funs:X.s₀.heap.FunFrames X.base X.outer
 frf:∀ b∈X.fs,X.H₀ b=W
structure Inv (X:Cx) (gj:List (Á×Obj)) (σ:List (Option V)) (H:Hp) (s:Â):Prop where
 ok:X.Ok
 os:s.os=X.s₀.os
 bare:AllBare s.gens
 base:Un X.fs X.ex X.H₀ H X.s₀.heap s.heap
 loc:∃ m,s.heap.Ns X.env.locals m/\∀(i:Nat) (x:Str) (v:V),X.N[i]?=Y x->σ[i]?=Y (Y v)->VG X.env.scope x->∃ u,aX v u/\Look X.env s.heap m x u
 cell:∀ x c,X.env.cells.lookup x=Y c->∃ v,s.heap.IsCell c v
 free:H X.env.locals=W
 freeC:∀ x c,X.env.cells.lookup x=Y c->H c=W
 pin:∀ p∈X.pn++gj,s.heap.get? p.1=Y p.2/\H p.1=W/\p.1≠X.env.locals/\p.1∉X.fs/\∀ v,p.2.data≠.cell v
 hok:nP X.prog X.w H s.heap
 len:σ.length=X.N.length
section
variable {X:Cx}{gj:List (Á×Obj)}{σ:List (Option V)}{H H':Hp}{s:Â}{h':Heap}
theorem Cx.Ok.nofr (ok:X.Ok) {b:Á} (e:X.base.get? b=Y o):b∉X.fs:=λ hb=>by
 have:=(ok.funs.mem hb).1;rw[e]at this;cases this
theorem Inv.bs (I:Inv X gj σ H s):∀ b o,X.base.get? b=Y o->s.heap.get? b=Y o/\H b=none:=λ b o e=>
 ⟨I.base.keep b o (I.ok.bs b o e).1 (I.ok.bs b o e).2 (I.ok.nofr e) (I.ok.noex b o e),I.base.free b o (I.ok.bs b o e).1 (I.ok.bs b o e).2 (I.ok.noex b o e)⟩
theorem Inv.bk (I:Inv X gj σ H s):∀ b o,X.base.get? b=Y o->s.heap.get? b=Y o:=λ b o e=>(I.bs b o e).1
theorem Inv.mod (I:Inv X gj σ H s):Mod X.K X.mg X.base:=I.ok.mod
theorem Inv.kIn (I:Inv X gj σ H s):X.K.In s.heap:=I.ok.mod.kin.keeps I.bk
theorem Inv.lt (I:Inv X gj σ H s):X.env.locals < s.heap.objs.size:=let ⟨_,hn,_⟩:=I.loc;hn.lt
theorem Inv.sz (I:Inv X gj σ H s):X.s₀.heap.objs.size<=s.heap.objs.size:=ý I.ok.above (ĝ I.lt)
theorem Inv.nofs (I:Inv X gj σ H s) {a:Á} (h:s.heap.objs.size<=a):a∉X.fs:=λ hb=>by
 let⟨_,o,ho,_⟩:=I.ok.funs.mem hb;show absurd (ï (Ô ho) (ý I.sz h)) (ċ _)
theorem Inv.cne (I:Inv X gj σ H s):∀ x c,X.env.cells.lookup x=Y c->c≠X.env.locals:=λ x c e z=>by
 let⟨v,o,ho,hd⟩:=I.cell x c e;let⟨m,⟨o',es,ep,om,Fp,_⟩,_⟩:=I.loc;rw[z,om]at ho;cases ho;rw[Fp]at hd;cases hd
theorem Inv.funs (I:Inv X gj σ H s):s.heap.FunFrames X.base X.outer:=by
 have all:∀(l:List Env),(∀ b∈kA l,b∈X.fs)->X.s₀.heap.FunFrames X.base l->s.heap.FunFrames X.base l:=by
  intro l
  induction l with
  |nil=>intro _ _;trivial
  |cons env r ih=>
   intro hs hl;let⟨hk,⟨L,o,hf,hn,ho,hd⟩,hr⟩:=hl;have hL:L∈X.fs:=hs L (by unfold kA;rw[ő,hf];show ă);let⟨sl,e⟩:=I.base.slot L o ho (I.ok.frf L hL) hL λ z=>I.ok.exfs L z hL;show⟨hk,⟨L,_,hf,hn,e,hd⟩,ih (λ b hb=>hs b (by unfold kA;rw[ő,hf];show ø _ hb)) hr⟩
 show all X.outer (λ _ hb=>hb) I.ok.funs
theorem Inv.stack (I:Inv X gj σ H s):s.heap.FunFrames X.base X.stack:=by
 rcases I.ok.stk with e|⟨e,hf⟩
 ·rw[e];show I.funs
 ·rw[e];let⟨m,hn,_⟩:=I.loc;show .cons (by rw[I.ok.kind];decide) hf hn ?_ I.funs;show Heap.get?_none_of_le (ý I.ok.bsz I.ok.above)
theorem Inv.stkSub (I:Inv X gj σ H s):∀ b∈kA X.stack,b∈X.env.locals::X.fs:=λ b hb=>by
 rcases I.ok.stk with e|⟨e,hf⟩
 ·rw[e]at hb;show ø _ hb
 ·rw[e]at hb;unfold kA at hb;rw[ő,hf]at hb;show hb
theorem Inv.stkFree (I:Inv X gj σ H s):∀ b∈kA X.stack,H b=none:=λ b hb=>by
 rcases Ò.mp (I.stkSub b hb)with e|hb
 ·rw[e];show I.free
 ·let⟨_,o,ho,_⟩:=I.ok.funs.mem hb;show I.base.free b o ho (I.ok.frf b hb) λ z=>I.ok.exfs b z hb
theorem Inv.step {ch:List Á} (I:Inv X gj σ H s)
  (xu:∀ b∈ch,(b∈X.ex\/X.s₀.heap.objs.size<=b)/\b≠X.env.locals/\(∀ x c,X.env.cells.lookup x=Y c->c≠b)/\∀ p∈X.pn++gj,p.1≠b)
  (keep:∀ b o,b≠X.env.locals->b∉X.fs->b∉ch->s.heap.get? b=Y o->H b=W->h'.get? b=Y o)
  (slot:∀ b o,b≠X.env.locals->b∈X.fs->b∉ch->s.heap.get? b=Y o->H b=W->∃ sl,h'.get? b=Y { o with slots:=sl }) (free:∀ b o,b∉ch->s.heap.get? b=Y o->H b=W->H' b=W)
  (there:∀ b o,b∉ch->s.heap.get? b=Y o->∃ o',h'.get? b=Y o')
  (tups:∀ b xs,H b=Y (.tup xs)->H' b=Y (.tup xs)) (frzs:∀ b o u,H b=Y (.frz o u)->H' b=Y (.frz o u)) (tbls:∀ b ps,H b=Y (.tbl ps)->∃ jr,H' b=Y (.tbl (ps++jr)))
  (ns:∀ m,s.heap.Ns X.env.locals m->h'.Ns X.env.locals m) (hok:nP X.prog X.w H' h') (hg:AllBare g') :
  Inv X gj σ H' { s with heap:=h',gens:=g',drawn:=d',toks:=t' }:=by
 have Sx:∀ b o,X.s₀.heap.get? b=Y o->b≠X.env.locals:=λ b o e=>â (ï (Ô e) I.ok.above);have Kg:∀ b o,X.s₀.heap.get? b=Y o->b∉X.ex->b∉ch:=λ b o e hx hb=>by
  rcases (xu b hb).1 with z|z
  ·show hx z
  ·show absurd (ï (Ô e) z) (ċ _)
 have cellK:∀ x c,X.env.cells.lookup x=Y c->∀ v,s.heap.IsCell c v->h'.IsCell c v:=λ x c e v ⟨o,ho,hd⟩=>by
  have Fq:c∉ch:=λ z=>(xu c z).2.2.1 x c e rfl
  by_cases hc:c∈X.fs
  ·let⟨sl,q⟩:=slot c o (I.cne x c e) hc Fq ho (I.freeC x c e);show⟨_,q,hd⟩
  ·show⟨o,keep c o (I.cne x c e) hc Fq ho (I.freeC x c e),hd⟩
 show⟨I.ok,I.os,hg,⟨λ b o e n hb hx=>?_,λ b o e n hb hx=>?_,λ b o e n hx=>?_,λ b o e hx=>?_,λ b xs e=>tups b xs (I.base.tups b xs e),λ b o xs e=>frzs b o xs (I.base.frzs b o xs e),λ b ps e=>?_⟩,?_,λ x c e=>?_,?_,λ x c e=>?_,λ p hp=>?_,hok,I.len⟩
 ·show keep b o (Sx b o e) hb (Kg b o e hx) (I.base.keep b o e n hb hx) (I.base.free b o e n hx)
 ·let⟨sl,e1⟩:=I.base.slot b o e n hb hx;let⟨Ej,e2⟩:=slot b _ (Sx b o e) hb (Kg b o e hx) e1 (I.base.free b o e n hx);show⟨Ej,e2⟩
 ·let⟨o',e1⟩:=I.base.there b o e hx;show free b o' (Kg b o e hx) e1 (I.base.free b o e n hx)
 ·let⟨o',e1⟩:=I.base.there b o e hx;show there b o' (Kg b o e hx) e1
 ·let⟨m1,e1⟩:=I.base.tbls b ps e;let⟨m2,e2⟩:=tbls b _ e1;show⟨m1++m2,by rw[e2,Array.append_assoc]⟩
 ·let⟨m,hn,hl⟩:=I.loc;show⟨m,ns m hn,λ i x v e1 e2 e3=>?_⟩;let⟨u,r,l⟩:=hl i x v e1 e2 e3;show⟨u,r,?_⟩;rcases l with l|⟨k,c,e,z⟩
  ·show .inl l
  ·show .inr ⟨k,c,e,cellK x c e _ z⟩
 ·let⟨v,z⟩:=I.cell x c e;show⟨v,cellK x c e v z⟩
 ·let⟨m,⟨o,_,_,ho,_⟩,_⟩:=I.loc;show free _ o (λ z=>(xu _ z).2.1 O) ho I.free
 ·let⟨v,o,ho,hd⟩:=I.cell x c e;show free c o (λ z=>(xu c z).2.2.1 x c e O) ho (I.freeC x c e)
 ·let⟨e,n,ne,nf,d⟩:=I.pin p hp;have Fq:p.1∉ch:=λ z=>(xu p.1 z).2.2.2 p hp rfl;show⟨keep p.1 p.2 ne nf Fq e n,free p.1 p.2 Fq e n,ne,nf,d⟩
theorem Inv.un  (I:Inv X gj σ H s) (u:Un X.fs [] H H' s.heap h') (hok:nP X.prog X.w H' h'):Inv X gj σ H' { s with heap:=h',toks:=t' }:=by
 let⟨m,⟨o,es,ep,ho,r⟩,_⟩:=id I.loc;let⟨sl,hL⟩:=u.any ho I.free G0;show I.step (g':=s.gens) (d':=s.drawn) (ch:=[]) (λ _ z=>nomatch z) (λ b o _ hb _ e n=>u.keep b o e n hb G0) (λ b o _ hb _ e n=>u.slot b o e n hb G0) (λ b o _ e n=>u.free b o e n G0) (λ b o _ e=>u.there b o e G0) u.tups u.frzs u.tbls (λ m' hm=>by
  let⟨o',yn,yo,om,r'⟩:=hm;rw[ho]at om;cases om;show⟨_,yn,yo,hL,r'⟩) hok I.bare
theorem Inv.call  (I:Inv X gj σ H s) (u:Un (kA X.stack) ch H H' s.heap h') (hok:nP X.prog X.w H' h') (hg:AllBare g')
  (xu:∀ b∈ch,(b∈X.ex\/X.s₀.heap.objs.size<=b)/\b≠X.env.locals/\(∀ x c,X.env.cells.lookup x=Y c->c≠b)/\∀ p∈X.pn++gj,p.1≠b) :
  Inv X gj σ H' { s with heap:=h',gens:=g',drawn:=d',toks:=t' }:=by
 let⟨m,⟨o,es,ep,ho,r⟩,_⟩:=id I.loc;let⟨sl,hL⟩:=u.any ho I.free λ z=>(xu _ z).2.1 rfl;show I.step (ch:=ch) xu (λ b o hL hb hc e n=>u.keep b o e n (λ z=>(Ò.mp (I.stkSub b z)).elim hL hb) hc) (λ b o _ _ hc e n=>u.any e n hc) (λ b o hc e n=>u.free b o e n hc) (λ b o hc e=>u.there b o e hc) u.tups u.frzs u.tbls (λ m' hm=>by
  let⟨o',yn,yo,om,r'⟩:=hm;rw[ho]at om;cases om;show⟨_,yn,yo,hL,r'⟩) hok hg
theorem Inv.turned {it:Á} (I:Inv X gj σ H s) (k:∀ b o,b≠it->s.heap.get? b=Y o->h'.get? b=Y o) (hn:H it=W) (hL:it≠X.env.locals)
  (h1:it∈X.ex\/X.s₀.heap.objs.size<=it) (h2:∀ x c,X.env.cells.lookup x=Y c->c≠it) (h3:∀ p∈X.pn++gj,p.1≠it):Inv X gj σ H { s with heap:=h',toks:=t' }:=by
 have Sy:∀ b u,H b=Y u->b≠it:=λ b u e z=>by rw[z,hn]at e;cases e
 show I.step (g':=s.gens) (d':=s.drawn) (ch:=[it]) (λ b hb=>?_) (λ b o _ _ hc e _=>k b o (λ z=>hc (by simp [z])) e) (λ b o _ _ hc e _=>⟨o.slots,k b o (λ z=>hc (by simp [z])) e⟩) (λ _ _ _ _ n=>n)
  (λ b o hc e=>⟨o,k b o (λ z=>hc (by simp[z])) e⟩) (λ _ _ e=>e) (λ _ _ _ e=>e) (λ b ps e=>⟨#[],by rw[e];simp⟩) (λ m hm=>?_) (λ b u e=>?_) I.bare
 ·have e:b=it:=by simpa using hb
  subst e;show⟨h1,hL,h2,h3⟩
 ·let⟨o,es,ep,ho,r⟩:=hm;show⟨o,es,ep,k _ o (Ne.symm hL) ho,r⟩
 ·show(I.hok b u e).stay (λ c v hc q=>k c v ?_ q) (λ _ q=>q) λ _ _ q=>q;rcases hc with z|z
  ·rw[z];show Sy b u e
  ·show Sy c _ z
theorem Inv.tok (I:Inv X gj σ H s) (t:Nat):Inv X gj σ H { s with toks:=t }:=I.un (h':=s.heap) (t':=t) Un.refl I.hok
theorem Inv.kept  (I:Inv X gj σ H s) (k:∀ b u,s.heap.get? b=Y u->h'.get? b=Y u):Inv X gj σ H { s with heap:=h',toks:=t' }:=I.un (Un.kept k) (I.hok.kept k)
theorem Inv.laid {a:Á} (I:Inv X gj σ H s) (k:∀ b u,s.heap.get? b=Y u->h'.get? b=Y u) (hp:s.heap.objs.size<=a) (new:bY X.prog X.w (upd H a o) h' a o) :
  Inv X gj σ (upd H a o) { s with heap:=h',toks:=t' }:=I.un (Un.laid k hp (I.hok.fresh hp)) (I.hok.laid k hp new)
theorem Inv.write  (I:Inv X gj σ H s) (mu:iI (H x)) (he:e=x\/H e=Y (.own x)) (k:∀ b u,b≠e->s.heap.get? b=Y u->h'.get? b=Y u) (Ei:∃ u,h'.get? e=Y u)
  (new:bY X.prog X.w (upd H x o) h' x o):Inv X gj σ (upd H x o) { s with heap:=h',toks:=t' }:=I.un (Un.write mu he k Ei) (I.hok.write mu he k Ei new)
theorem Inv.pins_of {wm:List (Á×Obj)} (I:Inv X gj σ H s) (h:∀ p∈wm,s.heap.get? p.1=Y p.2/\H p.1=W/\p.1≠X.env.locals/\p.1∉X.fs/\∀ v,p.2.data≠.cell v):Inv X wm σ H s:=
 ⟨I.ok,I.os,I.bare,I.base,I.loc,I.cell,I.free,I.freeC,λ p hp=>(ÿ.mp hp).elim (λ z=>I.pin p (ľ _ z)) (h p),I.hok,I.len⟩
theorem CF {N:List Str} (hN:N.Nodup) {i j:Nat} (a:N[i]?=Y x) (b:N[j]?=Y x):i=j:=by
 let⟨h1,e1⟩:=Ö.mp a;let⟨h2,e2⟩:=Ö.mp b;show(agv hN).mp (e1.trans e2.symm)
theorem wY {E:À->Â->Prop}{v:V}{u:À}{Q:Unit->Â->Prop} (I:Inv X gj σ H s) (hN:X.N.Nodup) (hi:X.N[i]?=Y x) (hx:RJ X.env.scope x) (r:aX v u)
  (h:∀ s',Inv X gj (σ.set i (Y v)) H s'->(∃ a,Heap.SameBut a s.heap s'.heap/\(a=X.env.locals\/X.env.cells.lookup x=Y a))->Q () s') (hf:autoParam (X.fn x=Eg\/X.env.scope.names.lookup x=Y .local) _4):wpAny M A (storeName X.env x u) Q E s:=by
 let⟨m,hn,hl⟩:=id I.loc;have Ck:(X.env.scope.kind== .class || (X.env.scope.kind== .module && X.env.locals != X.env.globals))=false:=by rw[I.ok.kind];rfl
 have ge:i < σ.length:=by rw[I.len];show(Ö.mp hi).1
 have Mh:=I.cne;have tracked:∀ {a:Á}{h':Heap},(∃ o,s.heap.get? a=Y o/\H a=W)->Heap.SameBut a s.heap h'->nP X.prog X.w H h':=λ {a h'} ha hs b ob e=>by
  let⟨_,_,mz⟩:=ha;show(I.hok b ob e).stay (λ c w' hc q=>(hs.2 c ?_).trans q) (λ _ q=>q) λ _ _ q=>q;rintro rfl;rcases hc with rfl|hc
  ·rw[mz]at e;cases e
  ·rw[mz]at hc;cases hc
 rcases hx with hk|hk
 ·show wpAny_storeName_local hk hn (λ h' Mi hs=>?_) Ck;let⟨oL,_,_,Xc,_⟩:=id hn;show h _ ⟨I.ok,I.os,I.bare,⟨λ b o e n hb hx=>?_,λ b o e n hb hx=>?_,I.base.free,λ b o e hx=>?_,I.base.tups,I.base.frzs,I.base.tbls⟩,⟨_,Mi,λ j y v' e1 e2 e3=>?_⟩,λ y c e=>?_,I.free,I.freeC,λ p hp=>?_,tracked ⟨oL,Xc,I.free⟩ hs,by simpa using I.len⟩ ⟨_,hs,.inl O⟩
  ·show(hs.2 b (â (ï (Ô e) I.ok.above))).trans (I.base.keep b o e n hb hx)
  ·let⟨sl,e1⟩:=I.base.slot b o e n hb hx;show⟨sl,(hs.2 b (â (ï (Ô e) I.ok.above))).trans e1⟩
  ·let⟨o',e1⟩:=I.base.there b o e hx;show⟨o',(hs.2 b (â (ï (Ô e) I.ok.above))).trans e1⟩
  ·by_cases hj:j=i
   ·subst hj;rw[hi]at e1;cases e1;rw[ŝ ge]at e2;cases e2;show⟨u,r,.inl ⟨hk,G0⟩⟩
   ·rw[ş (Ne.symm hj)]at e2;let⟨u',r',q⟩:=hl j y v' e1 e2 e3;show⟨u',r',?_⟩;rcases q with⟨k,e⟩|⟨k,c,e,z⟩
    ·show .inl ⟨k,?_⟩;have:y≠x:=λ e=>hj (CF hN e1 (e ▸ hi));simp[this,e]
    ·show .inr ⟨k,c,e,z.sameBut hs (Mh y c e)⟩
  ·let⟨w',z⟩:=I.cell y c e;show⟨w',z.sameBut hs (Mh y c e)⟩
  ·let⟨e,n,ne,nf,d⟩:=I.pin p hp;show⟨(hs.2 p.1 ne).trans e,n,ne,nf,d⟩
 ·have qi:X.fn x=true:=by
   rcases hf with z|z
   ·show z
   ·rw[z]at hk;cases hk
  let⟨c,hc⟩:=I.ok.has x (.inl hk);let⟨w',z⟩:=I.cell x c hc;show wpAny_storeName_cell I.ok.kind hk hc z (λ h' sr hs=>?_);let⟨oc,pq,Mj⟩:=id z;show h { s with heap:=h' } ⟨I.ok,I.os,I.bare,⟨λ b o e n hb hx=>?_,λ b o e n hb hx=>?_,I.base.free,λ b o e hx=>?_,I.base.tups,I.base.frzs,I.base.tbls⟩,⟨m,hn.sameBut hs (Ne.symm (Mh x c hc)),λ j y v' e1 e2 e3=>?_⟩,λ y c' e=>?_,I.free,I.freeC,λ p hp=>?_,tracked ⟨oc,pq,I.freeC x c hc⟩ hs,by simpa using I.len⟩ ⟨c,hs,.inr hc⟩
  ·show(hs.2 b (â (ï (Ô e) (I.ok.cab x c qi hc)))).trans (I.base.keep b o e n hb hx)
  ·let⟨sl,e1⟩:=I.base.slot b o e n hb hx;show⟨sl,(hs.2 b (â (ï (Ô e) (I.ok.cab x c qi hc)))).trans e1⟩
  ·let⟨o',e1⟩:=I.base.there b o e hx;show⟨o',(hs.2 b (â (ï (Ô e) (I.ok.cab x c qi hc)))).trans e1⟩
  ·by_cases hj:j=i
   ·subst hj;rw[hi]at e1;cases e1;rw[ŝ ge]at e2;cases e2;show⟨u,r,.inr ⟨.inl hk,c,hc,sr⟩⟩
   ·rw[ş (Ne.symm hj)]at e2;let⟨u',r',q⟩:=hl j y v' e1 e2 e3;show⟨u',r',?_⟩;rcases q with q|⟨k,c',e,z'⟩
    ·show .inl q
    ·show .inr ⟨k,c',e,z'.sameBut hs ?_⟩;rintro rfl;show hj (CF hN e1 (I.ok.inj _ _ _ e hc ▸ hi))
  ·by_cases Sz:c'=c
   ·subst Sz;show⟨_,sr⟩
   ·let⟨w2,z2⟩:=I.cell y c' e;show⟨w2,z2.sameBut hs Sz⟩
  ·let⟨e,n,ne,nf,d⟩:=I.pin p hp;show⟨(hs.2 p.1 ?_).trans e,n,ne,nf,d⟩;intro q;rw[q,pq]at e;have q':oc=p.2:=ç e;show d w' (by rw[<- q'];show Mj)
theorem fP {E:À->Â->Prop}{v:V}{u:À}{Q:Unit->Â->Prop} (I:Inv X gj σ H s) (hN:X.N.Nodup) (hi:X.N[i]?=Y x) (hx:RJ X.env.scope x) (r:aX v u)
  (h:∀ s',Inv X gj (σ.set i (Y v)) H s'->Q () s') (hf:autoParam (X.fn x=Eg\/X.env.scope.names.lookup x=Y .local) _4):wpAny M A (storeName X.env x u) Q E s:=
 wY I hN hi hx r (λ s' I' _=>h s' I') hf
theorem Inv.call'  (I:Inv X gj σ H s) (ho:s'.os=s.os) (u:Un (kA X.stack) ch H H' s.heap s'.heap) (hok:nP X.prog X.w H' s'.heap) (hg:AllBare s'.gens)
  (xu:∀ b∈ch,(b∈X.ex\/X.s₀.heap.objs.size<=b)/\b≠X.env.locals/\(∀ x c,X.env.cells.lookup x=Y c->c≠b)/\∀ p∈X.pn++gj,p.1≠b):Inv X gj σ H' s':=by
 let⟨h',g',d',t',o'⟩:=s';have e:o'=s.os:=ho;subst e;show I.call (g':=g') (t':=t') (d':=d') u hok hg xu
end
abbrev XK:=À->Option Á->Hp->Prop
abbrev St:=List (Option V)
abbrev VK:=V->Hp->Prop
abbrev TE:=St->Hp->VK->Prop
abbrev TT:=St->Hp->(Bool->Hp->Prop)->Prop
abbrev TA:=St->Hp->(List V->Hp->Prop)->Prop
structure Ends where
 nx:St->Hp->Prop
 rt:VK
 bk:St->Hp->Prop:=λ _ _=>False
 ct:St->Hp->Prop:=λ _ _=>False
abbrev TS:=Ends->St->Hp->Prop
def EP (X:Cx) (gj:List (Á×Obj)) (σ:St) (Q:VK) (u:À) (s':Â):Prop:=∃ v H',Inv X gj σ H' s'/\aX v u/\Q v H'
def TP (X:Cx) (gj:List (Á×Obj)) (σ:St) (Q:Bool->Hp->Prop) (b:Bool) (s':Â):Prop:=∃ H',Inv X gj σ H' s'/\Q b H'
def AP (X:Cx) (gj:List (Á×Obj)) (σ:St) (Q:List V->Hp->Prop) (us:List À) (s':Â):Prop:=∃ vs H',Inv X gj σ H' s'/\bI vs us/\Q vs H'
def SP (X:Cx) (gj:List (Á×Obj)) (D:Ends) (f:Flow) (s':Â):Prop:=
 match f with
 |.next=>∃ ac H',Inv X gj ac H' s'/\D.nx ac H'
 |.brk=>∃ ac H',Inv X gj ac H' s'/\D.bk ac H'
 |.cont=>∃ ac H',Inv X gj ac H' s'/\D.ct ac H'
 |.ret u=>∃ v ac H',Inv X gj ac H' s'/\aX v u/\D.rt v H'
def PE (X:Cx) (e:Expr) (t:TE):Prop:=
 ∀(gj:List (Á×Obj)) (s:Â) (σ:St) (H:Hp) (Q:VK),Inv X gj σ H s->t σ H Q->wpAny (model X.prog X.w) X.A (eval e X.env) (EP X gj σ Q) X.xe s
def PT (X:Cx) (e:Expr) (t:TT):Prop:=
 ∀(gj:List (Á×Obj)) (s:Â) (σ:St) (H:Hp) (Q:Bool->Hp->Prop),Inv X gj σ H s->t σ H Q->wpAny (model X.prog X.w) X.A (isTrue e X.env (eval e X.env)) (TP X gj σ Q) X.xe s
def PW (X:Cx) (e:Expr) (t:TT):Prop:=
 ∀(whole:Sem À) (gj:List (Á×Obj)) (s:Â) (σ:St) (H:Hp) (Q:Bool->Hp->Prop),Inv X gj σ H s->t σ H Q->wpAny (model X.prog X.w) X.A (isTrue e X.env whole) (TP X gj σ Q) X.xe s
theorem PW.pt  (h:PW X e t):PT X e t:=h _
def PA (X:Cx) (es:List Expr) (t:TA):Prop:=
 ∀(pos:Pos) (gj:List (Á×Obj)) (s:Â) (σ:St) (H:Hp) (Q:List V->Hp->Prop),Inv X gj σ H s->t σ H Q->wpAny (model X.prog X.w) X.A (spliced (backTo pos (starEach es X.env))) (AP X gj σ Q) X.xe s
def PS (X:Cx) (st:Stmt) (t:TS):Prop:=
 ∀(gj:List (Á×Obj)) (s:Â) (σ:St) (H:Hp) (D:Ends),Inv X gj σ H s->t D σ H->wpAny (model X.prog X.w) X.A (exec st X.env) (SP X gj D) X.xe s
def yO (X:Cx) (st:List Stmt) (t:TS):Prop:=
 ∀(gj:List (Á×Obj)) (s:Â) (σ:St) (H:Hp) (D:Ends),Inv X gj σ H s->t D σ H->wpAny (model X.prog X.w) X.A (execs st X.env) (SP X gj D) X.xe s
theorem cK {ae:Type}{t:Sem ae}{Q Q':ae->Â->Prop}{E:À->Â->Prop}{s:Â} (h:wpAny M A t Q E s) (hQ:∀ a s,Q a s->Q' a s):wpAny M A t Q' E s:=ä h hQ λ _ _ x=>x
section
variable {X:Cx}
def dG (i:Nat):TE:=λ σ H Q=>∃ v,σ[i]?=Y (Y v)/\Q v H
def tC (v:V):TE:=λ _ H Q=>Q v H
theorem LP {pos:Pos} (hN:X.N[i]?=Y x) (hv:VG X.env.scope x) (hd:autoParam ((x==("__debug__":Str))=false) _2) (qj:autoParam ((x==("__classdict__":Str))=false) _2):PE X (.Name x pos) (dG i):=by
 intro gj s σ H Q I h;let⟨v,e,h⟩:=h;let⟨m,hn,hl⟩:=I.loc;let⟨u,r,l⟩:=hl i x v hN e hv;have fin:EP X gj σ Q u s:=⟨v,H,I,r,h⟩;rcases l with⟨hk,hm⟩|⟨hk,c,hc,jk⟩
 ·show wpAny_Name (wpAny_loadName_local I.ok.kind hk hn hm fin) hd
 ·rcases hk with hk|hk
  ·show wpAny_Name (wpAny_loadName_cell I.ok.kind hk hc jk fin) hd
  ·show wpAny_Name (wpAny_loadName_free I.ok.kind hk hc jk fin qj) hd
theorem aD {i j pos}:PE X (.Constant (.int i) j pos) (tC (.int i)):=λ _ _ _ H _ I h=>wpAny_Constant_int ⟨.int i,H,I.tok _,⟨_,rfl⟩,h⟩
theorem eI {b j pos}:PE X (.Constant (.bool b) j pos) (tC (.bl b)):=λ _ _ _ H _ I h=>Constant_bool ⟨.bl b,H,I,rfl,h⟩
theorem cH {j pos}:PE X (.Constant .none j pos) (tC .non):=λ _ _ _ H _ I h=>Constant_none ⟨.non,H,I,rfl,h⟩
theorem eY {x j pos}:PE X (.Constant (.str x) j pos) (tC (.str x)):=λ _ _ _ H _ I h=>Calls.Constant_str ⟨.str x,H,I.tok _,⟨_,rfl⟩,h⟩
def Gl (X:Cx) (x:Str):Prop:=X.env.kindOf x=Y .globalImplicit
theorem mX {E:À->Â->Prop}{σ:St}{x:Str}{u:À}{pos:Pos}{Q:À->Â->Prop} (I:Inv X gj σ H s) (hg:Gl X x) (hm:X.mg x=Y u) (h:Q u s)
  (hd:autoParam ((x==("__debug__":Str))=false) _2):wpAny (model X.prog X.w) X.A (eval (.Name x pos) X.env) Q E s:=
 Calls.Name_function_global I.ok.kind hg (Calls.loadGlobal_global (by rw[I.ok.glob];show I.mod.glob.keeps I.bk) hm h) hd
theorem kP {E:À->Â->Prop}{σ:St}{x:Str}{u:À}{pos:Pos}{Q:À->Â->Prop} (I:Inv X gj σ H s) (hg:Gl X x) (hm:X.mg x=W) (hv:bootBuiltins x=Y u) (h:Q u s)
  (hn:autoParam (x ≠ "__name__") _2) (hd:autoParam ((x==("__debug__":Str))=false) _2):wpAny (model X.prog X.w) X.A (eval (.Name x pos) X.env) Q E s:=by
 let⟨mb,h1,h2⟩:=I.mod.blt;show Calls.Name_function_global I.ok.kind hg (Calls.loadGlobal_builtin (by rw[I.ok.glob];show I.mod.glob.keeps I.bk) hm (by rw[I.ok.blt];show h1.keeps I.bk) ((h2 x hn).trans hv) h) hd
theorem PB  (hg:Gl X x) (hm:X.mg x=Y u) (r:aX v u) (hd:autoParam ((x==("__debug__":Str))=false) _2):PE X (.Name x pos) (tC v):=
 λ _ _ _ H _ I h=>mX I hg hm ⟨v,H,I,r,h⟩ hd
theorem gZ {u:À}{pos:Pos} (hg:Gl X x) (hm:X.mg x=W) (hv:bootBuiltins x=Y u) (r:aX v u) (hn:autoParam (x ≠ "__name__") _2) (hd:autoParam ((x==("__debug__":Str))=false) _2):PE X (.Name x pos) (tC v):=
 λ _ _ _ H _ I h=>kP I hg hm hv ⟨v,H,I,r,h⟩ hn hd
variable {a b:Expr}{ta tb:TE}{pos:Pos}
def tB (t:TE):TT:=λ σ H Q=>t σ H λ x H1=>∃ c,x=.bl c/\Q c H1
theorem cO {e:Expr}{t:TE} (h:PE X e t) (he:autoParam (∀ whole,isTrue e X.env whole=(do let v <- whole;standAt e.pos;holding [v] (truthy v))) _6):PT X e (tB t):=by
 intro gj s σ H Q I hw;show isTrue_plain (cK (h gj s σ H _ I hw) λ v s1 ⟨x,H1,I1,r1,q1⟩=>?_) (he _);let⟨d,rfl,q⟩:=q1;cases r1;show Ķ ⟨H1,I1,q⟩
variable {tA Kh:TT}{ja:List Expr}
def tAnd (t u:TT):TT:=λ σ H Q=>t σ H λ c H1=>if c=Eg then u σ H1 Q else Q Eh H1
def tOr (t u:TT):TT:=λ σ H Q=>t σ H λ c H1=>if c=Eg then Q Eg H1 else u σ H1 Q
def tNot (t:TT):TT:=λ σ H Q=>t σ H λ c H1=>Q (!c) H1
theorem zC (ha:PT X a tA):PW X (.BoolOp .And [a] pos) tA:=by
 intro wh gj s σ H Q I h;show isTrue_and (cK (ha gj s σ H Q I h) λ c s1 e=>?_);cases c with
 |true=>show isTrue_and_nil e
 |false=>show e
theorem uP (ha:PT X a tA):PW X (.BoolOp .Or [a] pos) tA:=by
 intro wh gj s σ H Q I h;show isTrue_or (cK (ha gj s σ H Q I h) λ c s1 e=>?_);cases c with
 |false=>show isTrue_or_nil e
 |true=>show e
theorem E5 (ha:PT X a tA) (hb:PW X (.BoolOp .And (b::ja) pos) Kh):PW X (.BoolOp .And (a::b::ja) pos) (tAnd tA Kh):=by
 intro wh gj s σ H Q I h;show isTrue_and (cK (ha gj s σ H _ I h) λ c s1 ⟨H1,I1,q1⟩=>?_);cases c with
 |true=>show hb wh gj s1 σ H1 Q I1 q1
 |false=>show⟨H1,I1,q1⟩
theorem BM (ha:PT X a tA) (hb:PW X (.BoolOp .Or (b::ja) pos) Kh):PW X (.BoolOp .Or (a::b::ja) pos) (tOr tA Kh):=by
 intro wh gj s σ H Q I h;show isTrue_or (cK (ha gj s σ H _ I h) λ c s1 ⟨H1,I1,q1⟩=>?_);cases c with
 |true=>show⟨H1,I1,q1⟩
 |false=>show hb wh gj s1 σ H1 Q I1 q1
theorem fY (ha:PT X a tA):PT X (.UnaryOp .Not a pos) (tNot tA):=by
 intro gj s σ H Q I h;show isTrue_not (ha gj s σ H (λ c H1=>Q (!c) H1) I h)
def UH (ta tb:TE):TE:=λ σ H Q=>ta σ H λ x H1=>∃ c,x=.bl c/\if c=Eg then tb σ H1 Q else Q (.bl Eh) H1
def tOrV (ta tb:TE):TE:=λ σ H Q=>ta σ H λ x H1=>∃ c,x=.bl c/\if c=Eg then Q (.bl Eg) H1 else tb σ H1 Q
def QJ (ta:TE):TE:=λ σ H Q=>ta σ H λ x H1=>∃ c,x=.bl c/\Q (.bl (!c)) H1
theorem fL {op} (h:PE X a t):PE X (.BoolOp op [a] pos) t:=λ gj s σ H Q I hw=>BoolOp_one (h gj s σ H Q I hw)
theorem eK (ha:PE X a ta) (hb:PE X (.BoolOp .And (b::ja) pos) tb):PE X (.BoolOp .And (a::b::ja) pos) (UH ta tb):=by
 intro gj s σ H Q I h;show BoolOp_and (cK (ha gj s σ H _ I h) λ v s1 ⟨x,H1,I1,r1,q1⟩=>?_);let⟨c,rfl,q1⟩:=q1;cases r1;show Ķ ?_;cases c with
 |true=>show hb gj s1 σ H1 Q I1 q1
 |false=>show⟨.bl Eh,H1,I1,O,q1⟩
theorem LS (ha:PE X a ta) (hb:PE X (.BoolOp .Or (b::ja) pos) tb):PE X (.BoolOp .Or (a::b::ja) pos) (tOrV ta tb):=by
 intro gj s σ H Q I h;show BoolOp_or (cK (ha gj s σ H _ I h) λ v s1 ⟨x,H1,I1,r1,q1⟩=>?_);let⟨c,rfl,q1⟩:=q1;cases r1;show Ķ ?_;cases c with
 |false=>show hb gj s1 σ H1 Q I1 q1
 |true=>show⟨.bl Eg,H1,I1,O,q1⟩
theorem zG (ha:PE X a ta):PE X (.UnaryOp .Not a pos) (QJ ta):=by
 intro gj s σ H Q I h;show UnaryOp_ (cK (ha gj s σ H _ I h) λ v s1 ⟨x,H1,I1,r1,q1⟩=>?_);let⟨c,rfl,q1⟩:=q1;cases r1;show not_of (Ķ ⟨.bl (!c),H1,I1,O,q1⟩)
def tIf (t:TT) (ta tb:TE):TE:=λ σ H Q=>t σ H λ c H1=>if c=Eg then ta σ H1 Q else tb σ H1 Q
theorem pE  (hc:PT X c tA) (ha:PE X a ta) (hb:PE X b tb):PE X (.IfExp c a b pos) (tIf tA ta tb):=by
 intro gj s σ H Q I h;show wpAny_IfExp (cK (hc gj s σ H _ I h) λ d s1 ⟨H1,I1,q1⟩=>?_);cases d with
 |true=>show ha gj s1 σ H1 Q I1 q1
 |false=>show hb gj s1 σ H1 Q I1 q1
end
def bE (K:Ç) (H:Hp) (a:Á) (xs:List V):Prop:=
 Rd H a (.lst xs)\/
  ∃(o:Obj) (its:Array À) (n:Nat),K.lookup a=Y o/\o.cls=.type "list" /\ o.dict=W/\o.data=.seq its n/\its.size<=sizeLine/\bI xs its.toList
def aP (K:Ç) (H:Hp) (a:Á) (xs:List V):Prop:=
 Rd H a (.tup xs)\/
  ∃(o:Obj) (its:Array À) (n:Nat),K.lookup a=Y o/\o.cls=.type "tuple" /\ o.data=.seq its n/\its.size<=sizeLine/\bI xs its.toList
def absV:À->Option V
 |.none=>Y .non
 |.bool b=>Y (.bl b)
 |.int i _=>Y (.int i)
 |.str x _=>Y (.str x)
 |.bytes b _=>Y (.byt b)
 |.float b _=>Y (.flt b)
 |.ref a=>Y (.ref a)
 |.type n=>Y (.ty n)
 |_=>W
theorem aX.abs  (r:aX x u):absV u=Y x:=by
 cases x with
 |non=>cases r;rfl
 |bl _=>cases r;rfl
 |int _=>let⟨t,rfl⟩:=r;rfl
 |str _=>let⟨t,rfl⟩:=r;rfl
 |byt _=>let⟨t,rfl⟩:=r;rfl
 |flt _=>let⟨t,rfl⟩:=r;rfl
 |ref _=>cases r;rfl
 |ty _=>cases r;rfl
theorem aX.inj  (r:aX x u) (q:aX y u):x=y:=ç (r.abs.symm.trans q.abs)
theorem bI.inj:∀ {xs ys:List V}{us:List À},bI xs us->bI ys us->xs=ys
 |_,_,_,.nil,.nil=>rfl
 |_,_,_,.cons r t,.cons r' t'=>by rw[r.inj r',bI.inj t t']
section
variable {X:Cx}{gj:List (Á×Obj)}{σ:St}{H:Hp}{s:Â}{a:Á}{xs ys:List V}
theorem bE.of  (h:H a=Y (.lst xs)):bE K H a xs:=.inl (.inl h)
def É:=@bE.of
theorem aP.of  (h:H a=Y (.tup xs)):aP K H a xs:=.inl (.inl h)
def Í:=@aP.of
theorem Inv.list (I:Inv X gj σ H s) (h:bE X.K H a xs):∃ its:List À,bI xs its/\PlainL s.heap a its.toArray/\xs.length<=sizeLine:=by
 rcases h with h|⟨o,its,n,hk,hc,hd,hs,hz,r⟩
 ·let⟨z,its,n,r,e⟩:=h.ok I.hok;show⟨its,r,⟨_,n,e,O,O,O⟩,z⟩
 ·show⟨its.toList,r,⟨o,n,I.kIn a o hk,hc,hd,by simpa using hs⟩,?_⟩;have e:=r.length;simp only[Ŀ]at e;lia
theorem Inv.tuple (I:Inv X gj σ H s) (h:aP X.K H a xs):∃ its:List À,bI xs its/\IsTup s.heap a its.toArray/\xs.length<=sizeLine:=by
 rcases h with h|⟨o,its,n,hk,hc,hs,hz,r⟩
 ·let⟨z,its,r,p⟩:=h.ok I.hok;show⟨its,r,p,z⟩
 ·show⟨its.toList,r,⟨o,I.kIn a o hk,hc,n,by simpa using hs⟩,?_⟩;have e:=r.length;simp only[Ŀ]at e;lia
theorem Inv.list_inj (I:Inv X gj σ H s) (h:bE X.K H a xs) (h':bE X.K H a ys):xs=ys:=by
 let⟨its,r,⟨o,n,e,_,_,d⟩,_⟩:=I.list h;let⟨its',r',⟨o',n',e',_,_,d'⟩,_⟩:=I.list h';rw[e]at e';cases e';rw[d]at d';injection d' with d1 _;have:its=its':=by simpa using congrArg Array.toList d1
 subst this;show r.inj r'
theorem Inv.tuple_inj (I:Inv X gj σ H s) (h:aP X.K H a xs) (h':aP X.K H a ys):xs=ys:=by
 let⟨its,r,⟨o,e,_,n,d⟩,_⟩:=I.tuple h;let⟨its',r',⟨o',e',_,n',d'⟩,_⟩:=I.tuple h';rw[e]at e';cases e';rw[d]at d';injection d' with d1 _;have:its=its':=by simpa using congrArg Array.toList d1
 subst this;show r.inj r'
end
abbrev Cx.wish (X:Cx) (E:À->Â->Prop):Cx:={ X with xe:=E }
abbrev Cx.nox (X:Cx):Cx:=X.wish λ _ _=>False
theorem Cx.Ok.wish {X:Cx} (ok:X.Ok) (E:À->Â->Prop):(X.wish E).Ok:=
 ⟨ok.mod,ok.kind,ok.glob,ok.blt,ok.above,ok.inj,ok.has,ok.cab,ok.hd,ok.frames,ok.stk,ok.exf,ok.bs,ok.bsz,ok.noex,ok.exfs,ok.funs,ok.frf⟩
theorem Cx.Ok.unwish {X:Cx} (ok:(X.wish E).Ok):X.Ok:=
 ⟨ok.mod,ok.kind,ok.glob,ok.blt,ok.above,ok.inj,ok.has,ok.cab,ok.hd,ok.frames,ok.stk,ok.exf,ok.bs,ok.bsz,ok.noex,ok.exfs,ok.funs,ok.frf⟩
section
variable {X:Cx}{gj:List (Á×Obj)}{σ:St}{H:Hp}{s:Â}{E:À->Â->Prop}
theorem Inv.wish (I:Inv X gj σ H s) (E:À->Â->Prop):Inv (X.wish E) gj σ H s:=⟨I.ok.wish E,I.os,I.bare,I.base,I.loc,I.cell,I.free,I.freeC,I.pin,I.hok,I.len⟩
theorem Inv.unwish (I:Inv (X.wish E) gj σ H s):Inv X gj σ H s:=⟨I.ok.unwish,I.os,I.bare,I.base,I.loc,I.cell,I.free,I.freeC,I.pin,I.hok,I.len⟩
theorem SP.unwish  (h:SP (X.wish E) gj D f s'):SP X gj D f s':=by
 cases f with
 |next=>let⟨ac,H',I,q⟩:=h;show⟨ac,H',I.unwish,q⟩
 |brk=>let⟨ac,H',I,q⟩:=h;show⟨ac,H',I.unwish,q⟩
 |cont=>let⟨ac,H',I,q⟩:=h;show⟨ac,H',I.unwish,q⟩
 |ret u=>let⟨v,ac,H',I,r,q⟩:=h;show⟨v,ac,H',I.unwish,r,q⟩
theorem yO.nox {st:List Stmt} (h:yO X.nox st t):yO X st t:=λ gj s σ H D I hw=>
 ä (h gj s σ H D (I.wish _) hw) (λ _ _ q=>q.unwish) λ _ _ z=>False.elim z
end
section
variable {X:Cx}{st:Stmt}{ja:List Stmt}{t u:TS}{e:Expr}{te:TE}{pos:Pos}
def nE:TS:=λ D σ H=>D.nx σ H
def kB (t u:TS):TS:=λ D σ H=>t { D with nx:=u D } σ H
theorem bF:yO X [] nE:=λ _ _ σ H _ I h=>ź ⟨σ,H,I,h⟩
theorem aA (h1:PS X st t) (h2:yO X ja u):yO X (st::ja) (kB t u):=by
 intro gj s σ H D I h;show wpAny_execs_cons (cK (h1 gj s σ H { D with nx:=u D } I h) λ f s1 q=>?_);cases f with
 |next=>
  let⟨ac,H',I',q⟩:=q;show h2 gj s1 ac H' D I' q
 |ret v=>show q
 |brk=>show q
 |cont=>show q
theorem aF (h1:PS X st t):yO X [st] t:=by
 intro gj s σ H D I h;show wpAny_execs_cons (cK (h1 gj s σ H D I h) λ f s1 q=>?_);cases f with
 |next=>show ź q
 |ret v=>show q
 |brk=>show q
 |cont=>show q
theorem Inv.quiet {σ:St} (I:Inv X gj σ H s):interactive X.env=false:=by simp[interactive,I.ok.kind]
def UD (te:TE):TS:=λ D σ H=>te σ H λ _ H1=>D.nx σ H1
theorem bH (he:PE X e te) (hs:autoParam (swapsWith e W pos.line X.env=pure false) _0):PS X (.Expr e pos) (UD te):=by
 intro gj s σ H D I h;show wpAny_Expr_any (cK (he gj s σ H _ I h) λ v s1 ⟨x,H1,I1,r1,q1⟩=>⟨σ,H1,I1,q1⟩) I.quiet hs
def RP (te:TE):TS:=λ D σ H=>te σ H D.rt
theorem aK (he:PE X e te):PS X (.Return (Y e) pos) (RP te):=by
 intro gj s σ H D I h;show wpAny_Return_some (cK (he gj s σ H _ I h) λ v s1 ⟨x,H1,I1,r1,q1⟩=>⟨x,σ,H1,I1,r1,q1⟩)
def HX (c:TT) (t u:TS):TS:=λ D σ H=>c σ H λ b H1=>if b=Eg then t D σ H1 else u D σ H1
theorem cE  (hc:PT X c tc) (ha:yO X a t) (hb:yO X b u):PS X (.If c a b pos) (HX tc t u):=by
 intro gj s σ H D I h;show wpAny_If (cK (hc gj s σ H _ I h) λ d s1 ⟨H1,I1,q1⟩=>?_);cases d with
 |true=>show ha gj s1 σ H1 D I1 q1
 |false=>show hb gj s1 σ H1 D I1 q1
end
abbrev TG:=V->St->Hp->(St->Hp->Prop)->Prop
abbrev RG:=List V->St->Hp->(St->Hp->Prop)->Prop
def PG (X:Cx) (target:Expr) (t:TG):Prop:=
 ∀(gj:List (Á×Obj)) (s:Â) (σ:St) (H:Hp) (v:V) (u:À) (Q:St->Hp->Prop),Inv X gj σ H s->aX v u->t v σ H Q->
  wpAny (model X.prog X.w) X.A (assign target X.env u) (λ _ s'=>∃ ac H',Inv X gj ac H' s'/\Q ac H') X.xe s
def VI (X:Cx) (ts:List Expr) (t:RG):Prop:=
 ∀(gj:List (Á×Obj)) (s:Â) (σ:St) (H:Hp) (vs:List V) (us:List À) (Q:St->Hp->Prop),Inv X gj σ H s->bI vs us->t vs σ H Q->
  wpAny (model X.prog X.w) X.A (assignInOrder ((assignEach ts X.env).map (·.2)) us) (λ _ s'=>∃ ac H',Inv X gj ac H' s'/\Q ac H') X.xe s
abbrev O8:=V->V->V->Hp->(Hp->Prop)->Prop
def TV (X:Cx) (t:O8):Prop:=
 ∀(gj:List (Á×Obj)) (s:Â) (σ:St) (H:Hp) (o i v:V) (ov iv u:À) (Q:Hp->Prop),Inv X gj σ H s->aX o ov->aX i iv->aX v u->t o i v H Q->
  wpAny (model X.prog X.w) X.A (setItem ov iv u) (λ _ s'=>∃ H',Inv X gj σ H' s'/\Q H') X.xe s
abbrev U2:=V->V->Hp->VK->Prop
def PIp (X:Cx) (op:Operator) (t:U2):Prop:=
 ∀(gj:List (Á×Obj)) (s:Â) (σ:St) (H:Hp) (x y:V) (v u:À) (Q:VK),Inv X gj σ H s->aX x v->aX y u->t x y H Q->
  wpAny (model X.prog X.w) X.A (inplaceOp op v u) (EP X gj σ Q) X.xe s
section
variable {X:Cx}{pos:Pos}
def eJ (i:Nat):TG:=λ v σ H Q=>Q (σ.set i (Y v)) H
theorem pD  (hN:X.N.Nodup) (hi:X.N[i]?=Y x) (hx:RJ X.env.scope x) (hf:autoParam (X.fn x=Eg\/X.env.scope.names.lookup x=Y .local) _4):PG X (.Name x pos) (eJ i):=by
 intro gj s σ H v u Q I r h;show wpAny_assign_Name (fP I hN hi hx r (λ s' I'=>⟨_,H,I',h⟩) hf)
def VA:RG:=λ vs σ H Q=>vs=[]/\Q σ H
def NI (t:TG) (u:RG):RG:=λ vs σ H Q=>∃ v r,vs=v::r/\t v σ H λ ac H'=>u r ac H' Q
theorem aL:VI X [] VA:=by
 intro gj s σ H vs us Q I r h;let⟨e,h⟩:=h;subst e;cases r;show assignInOrder_nil ⟨σ,H,I,h⟩
theorem aB {e:Expr}{es:List Expr}{t:TG}{u:RG} (h1:PG X e t) (h2:VI X es u)
  (hs:autoParam ((assignEach (e::es) X.env).map (·.2)=assign e X.env::(assignEach es X.env).map (·.2)) _0):VI X (e::es) (NI t u):=by
 intro gj s σ H vs us Q I r h;let⟨v,vr,e1,h⟩:=h;subst e1;cases r with
 |cons r rr=>
  rw[hs];show Ń (cK (h1 gj s σ H _ _ _ I r h) λ _ s1 ⟨dn,H1,I1,q1⟩=>?_);show h2 gj s1 dn H1 _ _ Q I1 rr q1
def TC (K:Ç) (n:Nat) (t:RG):TG:=λ v σ H Q=>∃ a xs,v=.ref a/\aP K H a xs/\xs.length=n/\t xs σ H Q
theorem SI {es:List Expr}{k:Nat}{t:RG}{n:Nat} (hc:X.calm=Eg) (h:VI X es t)
  (hn:autoParam ((assignEach es X.env).length=n) _0) (vn:autoParam ((assignEach es X.env).findIdx? (·.1)=none) _0):PG X (.Tuple es k pos) (TC X.K n t):=by
 intro gj s σ H v u Q I r hw;let⟨a,xs,e1,hq,hl,hw⟩:=hw;subst e1;cases r;let⟨its,rv,ht,hz⟩:=I.tuple hq;show assign_Tuple_tuple (I.ok.hd hc) ht (by simp[hn,<- hl,rv.length]) vn λ h' hx=>?_;have I1:Inv X gj σ H { s with heap:=h' }:=I.kept (t':=s.toks) λ b o e=>hx b o (â (Ô e)) e;show h gj _ σ H xs _ Q I1 (by simpa using rv) hw
def NG (to ti:TE) (t:O8):TG:=λ v σ H Q=>to σ H λ o H1=>ti σ H1 λ i H2=>t o i v H2 λ H3=>Q σ H3
theorem zF {o i:Expr}{to ti:TE}{t:O8} (ho:PE X o to) (hi:PE X i ti) (hs:TV X t)
  (ha:autoParam (∀ v,assign (.Subscript o i pos) X.env v=(do
   let ov <- holding [v] (eval o X.env);let iv <- holding [v,ov] (eval i X.env)
   standAt pos
   holding [v,ov,iv] (setItem ov iv v)
   release [v,ov,iv] [])) _6):PG X (.Subscript o i pos) (NG to ti t):=by
 intro gj s σ H v u Q I r h;rw[ha];show Æ (ü (cK (ho gj s σ H _ I h) λ ov s1 ⟨x,H1,I1,r1,q1⟩=>?_));show Æ (ü (cK (hi gj s1 σ H1 _ I1 q1) λ iv s2 ⟨y,H2,I2,r2,q2⟩=>?_));show Æ (Ļ (Æ (ü (cK (hs gj s2 σ H2 x y v ov iv u _ I2 r1 r2 r q2) λ _ s3 ⟨H3,I3,q3⟩=>?_))));show wpAny_release ⟨σ,H3,I3,q3⟩
def nA (te:TE) (g:TG):TS:=λ D σ H=>te σ H λ x H1=>g x σ H1 D.nx
theorem bP {tg e:Expr}{te:TE}{g:TG} (he:PE X e te) (hg:PG X tg g) (hs:autoParam (swapsWithSole [tg] e pos.line X.env=pure false) _0) (hw:autoParam (swappedStores [tg] e X.env=pure none) _0)
  (h1:autoParam ((assignEach [tg] X.env).map (·.2)=[assign tg X.env]) _0):PS X (.Assign [tg] e pos) (nA te g):=by
 intro gj s σ H D I h;show wpAny_Assign_stores (cK (he gj s σ H _ I h) λ v s1 ⟨x,H1,I1,r1,q1⟩=>?_) hs hw;rw[h1];show cK (hg gj s1 σ H1 x v _ I1 r1 q1) λ _ s2 q=>q
theorem iN  (hN:X.N.Nodup) (hi:X.N[i]?=Y x) (hx:RJ X.env.scope x) (he:PE X e te) (hs:autoParam (swapsWith e (Y (.Name x pos')) pos.line X.env=pure false) _0) (hf:autoParam (X.fn x=Eg\/X.env.scope.names.lookup x=Y .local) _4) :
  PS X (.Assign [.Name x pos'] e pos) (nA te (eJ i)):=by
 intro gj s σ H D I h;show wpAny_Assign_Name (cK (he gj s σ H _ I h) λ v s1 ⟨y,H1,I1,r1,q1⟩=>?_) hs;show fP I1 hN hi hx r1 (λ s2 I2=>⟨_,H1,I2,q1⟩) hf
def tPar (i j:Nat) (ta:TA):TS:=λ D σ H=>ta σ H λ vs H1=>∃ v w,vs=[v,w]/\D.nx ((σ.set i (Y v)).set j (Y w)) H1
theorem LI {kt k2 pt2} (hc:X.calm=Eg) (hN:X.N.Nodup) (hi:X.N[i]?=Y x) (hj:X.N[j]?=Y y) (Ml:i≠j)
  (hx:X.env.scope.names.lookup x=Y .local) (hy:X.env.scope.names.lookup y=Y .local) (ha:PA X [a,b] ta)
  (hw:swappedStores [.Tuple [.Name x px,.Name y py] kt pt] (.Tuple [a,b] k2 pt2) X.env=pure (Y [x,y]))
  (hs:autoParam (swapsWithSole [.Tuple [.Name x px,.Name y py] kt pt] (.Tuple [a,b] k2 pt2) pos.line X.env=pure false) _0) :
  PS X (.Assign [.Tuple [.Name x px,.Name y py] kt pt] (.Tuple [a,b] k2 pt2) pos) (tPar i j ta):=by
 intro gj s σ H D I h;rw[exec_Assign_arm];show Æ (Ļ ?_);rw[hs];show Æ (Ë ?_);rw[Ä FZ];show Æ (Tuple_ (cK (ha _ gj s σ H _ I h) λ us s1 ⟨vs,H1,I1,r1,q1⟩=>?_));let⟨v,w,e1,q1⟩:=q1;subst e1;obtain⟨u1,u2,rfl,rv,vo⟩:∃ u1 u2,us=[u1,u2]/\aX v u1/\aX w u2:=by
  cases r1 with
  |cons p q=>
   cases q with
   |cons p' q'=>
    cases q';show⟨_,_,O,p,p'⟩
 show Ğ ?_ (by change 2<=sizeLine;decide);have I2:Inv X gj σ H1 { s1 with heap:=s1.heap.push { cls:=.type "tuple",data:=.seq [u1,u2].toArray } }:=I1.kept (t':=s1.toks) λ b o e=>Ï _ e;rw[hw];show Æ (Ë ?_);change wpAny (model X.prog X.w) X.A (do rule "assign.swapped-stores";let items <- unpackItems (.ref s1.heap.objs.size) 2 W;assignInOrder [λ v=>bindName X.env y v,λ v=>bindName X.env x v] items.reverse;pure Flow.next) _ _ _;show Æ (Č (Æ (unpackItems_tuple (items:=#[u1,u2]) (I.ok.hd hc) (IsTup.new s1.heap _) λ h' rq=>?_)));have I3:=I2.kept (h':=h') (t':=s1.toks) λ b o e=>rq b o (â (Ô e)) e;change wpAny _ _ (assignInOrder [λ v=>bindName X.env y v,λ v=>bindName X.env x v] [u2,u1] >>= λ _=>pure Flow.next) _ _ _;show Æ (Ń (ř (fP I3 hN hj (.inl hy) vo (λ s2 I4=>?_) (.inr hy))));show Ń (ř (fP I4 hN hi (.inl hx) rv (λ s3 I5=>assignInOrder_nil (Ë ?_)) (.inr hx)));rw[agn _ _ (Ne.symm Ml)]at I5;show⟨_,H1,I5,q1⟩
def tAug (i:Nat) (te:TE) (ti:U2):TS:=λ D σ H=>∃ x,σ[i]?=Y (Y x)/\te σ H λ y H1=>ti x y H1 λ z H2=>D.nx (σ.set i (Y z)) H2
theorem E6  (hN:X.N.Nodup) (hi:X.N[i]?=Y x) (hx:RJ X.env.scope x) (he:PE X e te) (ho:PIp X op ti) (hf:autoParam (X.fn x=Eg\/X.env.scope.names.lookup x=Y .local) _4) :
  PS X (.AugAssign (.Name x pos') op e pos) (tAug i te ti):=by
 intro gj s σ H D I h;let⟨v,e1,h⟩:=h;let⟨m,hn,hl⟩:=I.loc;have Xd:VG X.env.scope x:=by rcases hx with k|k;show .inl k;show .inr (.inl k)
 let⟨u,r,l⟩:=hl i x v hi e1 Xd;show wpAny_AugAssign_Name ?_;have go:wpAny (model X.prog X.w) X.A (eval e X.env) (λ w cn=>wpAny (model X.prog X.w) X.A (inplaceOp op u w) (λ r bu=>wpAny (model X.prog X.w) X.A (storeName X.env x r) (λ _=>SP X gj D .next) X.xe bu) X.xe cn) X.xe s:=by
  show cK (he gj s σ H _ I h) λ w s1 ⟨y,H1,I1,r1,q1⟩=>?_;show cK (ho gj s1 σ H1 v y u w _ I1 r r1 q1) λ z s2 ⟨zv,H2,I2,r2,q2⟩=>?_;show fP I2 hN hi hx r2 (λ s3 I3=>⟨_,H2,I3,q2⟩) hf
 rcases l with⟨hk,hm⟩|⟨hk,c,hc,jk⟩
 ·show wpAny_loadName_local I.ok.kind hk hn hm go
 ·rcases hk with hk|hk
  ·show wpAny_loadName_cell I.ok.kind hk hc jk go
  ·rcases hx with k|k
   ·have:X.env.scope.names.lookup x=Y .free:=hk;rw[k]at this;cases this
   ·have:X.env.scope.names.lookup x=Y .free:=hk;rw[k]at this;cases this
def UG (to ti te:TE) (Al:V->V->Hp->VK->Prop) (tip:U2) (Am:O8):TS:=λ D σ H=>to σ H λ o H1=>ti σ H1 λ i H2=>Al o i H2 λ x H3=>te σ H3 λ y H4=>tip x y H4 λ z H5=>Am o i z H5 λ H6=>D.nx σ H6
def TW (X:Cx) (t:V->V->Hp->VK->Prop):Prop:=
 ∀(gj:List (Á×Obj)) (s:Â) (σ:St) (H:Hp) (o i:V) (ov iv:À) (Q:VK),Inv X gj σ H s->aX o ov->aX i iv->t o i H Q->
  wpAny (model X.prog X.w) X.A (getItem ov iv) (EP X gj σ Q) X.xe s
theorem G7 {o i e:Expr}{to ti te:TE}{Al:V->V->Hp->VK->Prop}{tip:U2}{Am:O8}{op:Operator}{Cl:Pos} (ho:PE X o to) (hi:PE X i ti) (hg:TW X Al) (he:PE X e te) (hp:PIp X op tip) (hs:TV X Am)
  (ha:∀ ov iv new,augStore i ov iv new=(do holding [new,ov,iv] (setItem ov iv new);release [new,ov,iv] [];pure .next):=by intros;with_unfolding_all rfl):PS X (.AugAssign (.Subscript o i Cl) op e pos) (UG to ti te Al tip Am):=by
 intro gj s σ H D I h;show wpAny_AugAssign_SubscriptAny (cK (ho gj s σ H _ I h) λ ov s1 ⟨x1,H1,I1,r1,q1⟩=>?_) ha;show cK (hi gj s1 σ H1 _ I1 q1) λ iv s2 ⟨x2,H2,I2,r2,q2⟩=>?_;show cK (hg gj s2 σ H2 x1 x2 ov iv _ I2 r1 r2 q2) λ ju s3 ⟨x3,H3,I3,r3,q3⟩=>?_;show cK (he gj s3 σ H3 _ I3 q3) λ v s4 ⟨x4,H4,I4,r4,q4⟩=>?_;show cK (hp gj s4 σ H4 x3 x4 ju v _ I4 r3 r4 q4) λ new s5 ⟨x5,H5,I5,r5,q5⟩=>?_;show cK (hs gj s5 σ H5 x1 x2 x5 ov iv new _ I5 r1 r2 r5 q5) λ _ s6 ⟨H6,I6,q6⟩=>⟨σ,H6,I6,q6⟩
def ipI (f:Int->Int->Int):U2:=λ x y H Q=>∃ i j,x=.int i/\y=.int j/\Q (.int (f i j)) H
theorem A2:PIp X .Add (ipI λ i j=>i+j):=by
 intro gj s σ H x y v u Q I r1 r2 h;let⟨i,j,e1,e2,q⟩:=h;subst e1;subst e2;let⟨t,rfl⟩:=r1;let⟨t',rfl⟩:=r2;show iadd_int ⟨.int _,H,I.tok _,⟨_,O⟩,q⟩
theorem T9:PIp X .Sub (ipI λ i j=>i - j):=by
 intro gj s σ H x y v u Q I r1 r2 h;let⟨i,j,e1,e2,q⟩:=h;subst e1;subst e2;let⟨t,rfl⟩:=r1;let⟨t',rfl⟩:=r2;show isub_int ⟨.int _,H,I.tok _,⟨_,O⟩,q⟩
def RO (c:TT) (tb:TS):TS:=λ D σ H=>∃ BH:Nat->St->Hp->Prop,(∃ m,BH m σ H)/\∀ m σ H,BH m σ H->
 c σ H λ b H1=>if b=Eg then ∃ N:St->Hp->Prop,(∀ ac H',N ac H'->∃ m',m' < m/\BH m' ac H')/\tb { D with nx:=N,ct:=N,bk:=D.nx } σ H1 else D.nx σ H1
theorem BN  (hp:PassesOwn (model X.prog X.w) X.A X.env X.xe) (hc:PT X c tc) (hb:yO X body tb):PS X (.While c body [] pos) (RO tc tb):=by
 intro gj s σ H D I h;let⟨BH,⟨m0,w0⟩,turn⟩:=h;show wpAny_While (codeAny_whileLoop (λ n s'=>∃ ac H',Inv X gj ac H' s'/\BH n ac H') ?_ m0 ⟨σ,H,I,w0⟩);rintro n s1 xK;let⟨dn,H1,I1,w1⟩:=xK;show ĺ hp (cK (hc gj s1 dn H1 _ I1 (turn n dn H1 w1)) λ b s2 ⟨H2,I2,q2⟩=>?_);cases b with
 |true=>
  let⟨N,hN,q2⟩:=q2;rw[Å rfl];show ĺ hp (cK (hb gj s2 dn H2 _ I2 q2) λ f s3 q3=>?_);cases f with
  |next=>
   let⟨aj,H3,I3,n3⟩:=q3;let⟨m',hm,w3⟩:=hN aj H3 n3;show⟨m',hm,aj,H3,I3,w3⟩
  |cont=>
   let⟨aj,H3,I3,n3⟩:=q3;let⟨m',hm,w3⟩:=hN aj H3 n3;show⟨m',hm,aj,H3,I3,w3⟩
  |brk=>show q3
  |ret v=>show q3
 |false=>
  rw[Ä ã];show ź ⟨dn,H2,I2,q2⟩
end
structure It where
 go:Nat->Hp->Prop
 yld:Nat->Hp->V->Hp->Prop
 stop:Nat->Hp->Prop
def kX (X:Cx) (gj:List (Á×Obj)) (H:Hp) (b:Á):Prop:=
 H b=W/\b≠X.env.locals/\b∉X.fs/\(b∈X.ex\/X.s₀.heap.objs.size<=b)/\(∀ x c,X.env.cells.lookup x=Y c->c≠b)/\∀ p∈X.pn++gj,p.1≠b
theorem Inv.fpOk {σ:St}{b:Á} (I:Inv X gj σ H s) (hb:s.heap.objs.size<=b) (hn:H' b=W):kX X gj H' b:=by
 show⟨hn,Nat.ne_of_gt (ï I.lt hb),I.nofs hb,.inr (ý I.sz hb),λ x c e z=>?_,λ p hp z=>?_⟩
 ·let⟨v,q⟩:=I.cell x c e;show absurd (ï q.lt (by rw[z];show hb)) (ċ _)
 ·show absurd (ï (Ô (I.pin p hp).1) (by rw[z];show hb)) (ċ _)
structure Turn (P:Ã) (w:World) (K:Ç) (tg:Expr) (J:It) (fp:List Á) (it:Á) (tn:Nat->Heap->Prop):Prop where
 mem:it∈fp
 obj:∀ i h,tn i h->∀ b∈fp,∃ o,h.get? b=Y o/\∀ v,o.data≠.cell v
 keep:∀ i h h',tn i h->(∀ b∈fp,∀ o,h.get? b=Y o->h'.get? b=Y o)->tn i h'
 item:∀(X:Cx),X.prog=P->X.w=w->X.K=K->X.calm=Eg->∀(i:Nat) (gj:List (Á×Obj)) (s:Â) (σ:St) (H:Hp) (E:À->Â->Prop),Inv X gj σ H s->(∀ b∈fp,kX X gj H b)->tn i s.heap->J.go i H->
  wpAny (model P w) X.A (pyNext (.ref it)) (λ r s1=>∃ u,r=Y u/\
   wpAny (model P w) X.A (letOwnedTupleGo tg (.ref it) u) (λ _ s2=>∃ x H',Inv X gj σ H' s2/\aX x u/\J.yld i H x H'/\tn (i+1) s2.heap/\∀ b∈fp,H' b=W) E s1) E s
 done:∀(X:Cx),X.prog=P->X.w=w->X.K=K->X.calm=Eg->∀(i:Nat) (gj:List (Á×Obj)) (s:Â) (σ:St) (H:Hp) (E:À->Â->Prop),Inv X gj σ H s->(∀ b∈fp,kX X gj H b)->tn i s.heap->J.stop i H->
  wpAny (model P w) X.A (pyNext (.ref it)) (λ r s1=>r=W/\Inv X gj σ H s1) E s
 self:∀(A:Around) (i:Nat) (s:Â) (Q:À->Â->Prop) (E:À->Â->Prop),tn i s.heap->Q (.ref it) s->wpAny (model P w) A (pyIter (.ref it)) Q E s
abbrev TI:=St->Hp->(It->Hp->Prop)->Prop
def PIE (X:Cx) (gj:List (Á×Obj)) (σ:St) (tg:Expr) (R:It->Hp->Prop) (Fr:À) (s2:Â):Prop:=
 ∃(it:Á) (fp:List Á) (tn:Nat->Heap->Prop) (J:It) (H':Hp),Fr=.ref it/\Inv X gj σ H' s2/\Turn X.prog X.w X.K tg J fp it tn/\tn 0 s2.heap/\(∀ b∈fp,kX X gj H' b)/\R J H'
def PI (X:Cx) (tg iter:Expr) (wi:TI):Prop:=
 ∀(gj:List (Á×Obj)) (s:Â) (σ:St) (H:Hp) (R:It->Hp->Prop),Inv X gj σ H s->wi σ H R->
  wpAny (model X.prog X.w) X.A (eval iter X.env) (λ v s1=>wpAny (model X.prog X.w) X.A (pyIter v) (PIE X gj σ tg R) X.xe s1) X.xe s
theorem N8 {E:À->Â->Prop}{it:Á}{u:À}{o:Obj}{n:String}{vs:Array À}{Q:Unit->Â->Prop} (ho:s.heap.get? it=Y o) (hc:o.cls=.type n) (hd:o.data=.fields vs)
  (hn:["enumerate","zip","dict_itemiterator","dict_reverseitemiterator","odict_iterator","itertools.zip_longest","itertools.pairwise"].contains n=Eh) (hQ:Q () s):wpAny M A (letOwnedTupleGo tg (.ref it) u) Q E s:=by
 unfold letOwnedTupleGo;cases tg <;> first
  |show Ë hQ
  | (cases u <;> first
    |show Ë hQ
    | (show Æ (wpAny_load ho ?_)
       rw[hc,hd];change wpAny M A (if (["enumerate","zip","dict_itemiterator","dict_reverseitemiterator","odict_iterator","itertools.zip_longest","itertools.pairwise"].contains n && vs[0]?==Y (rawInt _))=Eg then _ else _) Q E s;rw[Ä (by intro h;rw[hn,ag3]at h;cases h)];show Ë hQ))
def QG (K:Ç) (a:Á):It:=
 ⟨λ i H=>∃ xs x,bE K H a xs/\xs[i]?=Y x,λ i H x H'=>H'=H/\∀ xs,bE K H a xs->xs[i]?=Y x,λ i H=>∃ xs,bE K H a xs/\xs.length<=i⟩
def QF (K:Ç) (a:Á):It:=
 ⟨λ i H=>∃ xs x,aP K H a xs/\xs[i]?=Y x,λ i H x H'=>H'=H/\∀ xs,aP K H a xs->xs[i]?=Y x,λ i H=>∃ xs,aP K H a xs/\xs.length<=i⟩
def OH (lo:Int) (n:Nat):It:=⟨λ i _=>i < n,λ i H x H'=>H'=H/\x=.int (lo+i),λ i _=>n<=i⟩
theorem HR {P:Ã}{w:World}{K:Ç}{tg:Expr} (a it:Á):Turn P w K tg (QG K a) [it] it (λ i h=>h.IsListIter it a i) where
 mem:=by simp
 obj:=λ i h st b hb=>by
  have e:b=it:=by simpa using hb
  subst e;let⟨o,e,c,d⟩:=st;show⟨o,e,λ v z=>by rw[d]at z;cases z⟩
 keep:=λ i h h' st k=>st.at λ o e=>k it G0 o e
 item:=by
  intro X hP hw hK hc i gj s σ H E I hf st hg;subst hP hw hK;let⟨xs,x,hq,hx⟩:=hg;let⟨its,rv,p,hz⟩:=I.list hq;let⟨u,hu,ru⟩:=rv.get hx;let⟨f0,f1,f2,f3,f4,f5⟩:=hf it G0;show wpAny_pyNext_list_item st p.isList (x:=u) (by simpa using hu) λ h' Bo sb=>?_;have I1:Inv X gj σ H { s with heap:=h' }:=I.turned (t':=s.toks) (λ b o hb e=>(sb.2 b hb).trans e) f0 f1 f3 f4 f5;let⟨o,e,c,d⟩:=id Bo;show⟨u,O,N8 (s:={ s with heap:=h' }) e c d FZ ⟨x,H,I1,ru,⟨O,λ ys hy=>by rw[I.list_inj hy hq];show hx⟩,Bo,λ b hb=>(hf b hb).1⟩⟩
 done:=by
  intro X hP hw hK hc i gj s σ H E I hf st hg;subst hP hw hK;let⟨xs,hq,hx⟩:=hg;let⟨its,rv,p,hz⟩:=I.list hq;let⟨f0,f1,f2,f3,f4,f5⟩:=hf it G0;have hl:=rv.length;show wpAny_pyNext_list_end (I.ok.hd hc) st p.isList (by simp;lia) λ h' eb=>⟨O,I.turned (t':=s.toks) (λ b o hb e=>eb b o hb e) f0 f1 f3 f4 f5⟩
 self:=λ _ _ _ _ _ st h=>wpAny_pyIter_listiter st h
theorem DO {P:Ã}{w:World}{K:Ç}{tg:Expr} (a it:Á):Turn P w K tg (QF K a) [it] it (λ i h=>h.IsTupleIter it a i) where
 mem:=by simp
 obj:=λ i h st b hb=>by
  have e:b=it:=by simpa using hb
  subst e;let⟨o,e,c,d⟩:=st;show⟨o,e,λ v z=>by rw[d]at z;cases z⟩
 keep:=λ i h h' st k=>st.at λ o e=>k it G0 o e
 item:=by
  intro X hP hw hK hc i gj s σ H E I hf st hg;subst hP hw hK;let⟨xs,x,hq,hx⟩:=hg;let⟨its,rv,p,hz⟩:=I.tuple hq;let⟨u,hu,ru⟩:=rv.get hx;let⟨f0,f1,f2,f3,f4,f5⟩:=hf it G0;show wpAny_pyNext_tuple_item st (show s.heap.IsTuple a its.toArray from p) (x:=u) (by simpa using hu) λ h' Bo sb=>?_;have I1:Inv X gj σ H { s with heap:=h' }:=I.turned (t':=s.toks) (λ b o hb e=>(sb.2 b hb).trans e) f0 f1 f3 f4 f5;let⟨o,e,c,d⟩:=id Bo;show⟨u,O,N8 (s:={ s with heap:=h' }) e c d FZ ⟨x,H,I1,ru,⟨O,λ ys hy=>by rw[I.tuple_inj hy hq];show hx⟩,Bo,λ b hb=>(hf b hb).1⟩⟩
 done:=by
  intro X hP hw hK hc i gj s σ H E I hf st hg;subst hP hw hK;let⟨xs,hq,hx⟩:=hg;let⟨its,rv,p,hz⟩:=I.tuple hq;let⟨f0,f1,f2,f3,f4,f5⟩:=hf it G0;have hl:=rv.length;show wpAny_pyNext_tuple_end (I.ok.hd hc) st (show s.heap.IsTuple a its.toArray from p) (by simp;lia) λ h' eb=>⟨O,I.turned (t':=s.toks) (λ b o hb e=>eb b o hb e) f0 f1 f3 f4 f5⟩
 self:=λ _ _ _ _ _ st h=>wpAny_pyIter_tupleiter st h
theorem DP {P:Ã}{w:World}{K:Ç}{tg:Expr} (it:Á) (lo:Int) (n:Nat):Turn P w K tg (OH lo n) [it] it (λ i h=>IsRangeIter h it (lo+(i:Nat) * 1) ((n:Int) - (i:Nat)) 1) where
 mem:=by simp
 obj:=λ i h st b hb=>by
  have e:b=it:=by simpa using hb
  subst e;show⟨_,st,λ v z=>by
   have z':Data.fields _=Data.cell v:=z;cases z'⟩
 keep:=λ i h h' st k=>k it G0 _ st
 item:=by
  intro X hP hw hK hc i gj s σ H E I hf st hg;subst hP hw hK;let⟨f0,f1,f2,f3,f4,f5⟩:=hf it G0;have BH:=Walks.range (prog:=X.prog) (w:=X.w) (I.ok.hd hc) it lo 1 n;show BH.item i s _ _ hg st λ v h' tk hv Bo kk=>?_;let⟨t,rfl⟩:=hv;have I1:Inv X gj σ H { s with heap:=h',toks:=tk }:=I.turned (λ b o hb e=>kk b o (by simpa using hb) e) f0 f1 f3 f4 f5;show⟨_,O,N8 (s:={ s with heap:=h',toks:=tk }) (n :="range_iterator") Bo O O FZ ⟨.int (lo+i),H,I1,⟨t,?_⟩,⟨O,O⟩,Bo,λ b hb=>(hf b hb).1⟩⟩;rw[Int.mul_one]
 done:=by
  intro X hP hw hK hc i gj s σ H E I hf st hg;subst hP hw hK;let⟨f0,f1,f2,f3,f4,f5⟩:=hf it G0;show wpAny_pyNext_range_end (I.ok.hd hc) st (by have:n<=i:=hg;lia) λ h' eb=>⟨O,I.turned (t':=s.toks) (λ b o hb e=>eb b o hb e) f0 f1 f3 f4 f5⟩
 self:=λ _ _ _ _ _ st h=>wpAny_pyIter_rangeiter st h
section
variable {X:Cx}{tg:Expr}
def R5 (K:Ç) (tl:TE):TI:=λ σ H R=>tl σ H λ x H1=>∃ a,x=.ref a/\(∃ xs,bE K H1 a xs)/\R (QG K a) H1
def V7 (K:Ç) (tl:TE):TI:=λ σ H R=>tl σ H λ x H1=>∃ a,x=.ref a/\(∃ xs,aP K H1 a xs)/\R (QF K a) H1
theorem P5  (hl:PE X l tl):PI X tg l (R5 X.K tl):=by
 intro gj s σ H R I h;show cK (hl gj s σ H _ I h) λ v s1 ⟨x,H1,I1,r1,q1⟩=>?_;let⟨a,e,⟨xs,hq⟩,q⟩:=q1;subst e;cases r1;let⟨its,rv,p,hz⟩:=I1.list hq;show agg p.isList ?_;show⟨s1.heap.objs.size,[s1.heap.objs.size],_,_,H1,O,I1.kept (t':=s1.toks) λ b o e=>Ï _ e,HR a _,⟨_,á _ O,O,O⟩,λ b hb=>?_,q⟩;have e:b=s1.heap.objs.size:=by simpa using hb
 subst e;show I1.fpOk (Ñ _) (I1.hok.fresh (Ñ _))
theorem SH  (hl:PE X l tl):PI X tg l (V7 X.K tl):=by
 intro gj s σ H R I h;show cK (hl gj s σ H _ I h) λ v s1 ⟨x,H1,I1,r1,q1⟩=>?_;let⟨a,e,⟨xs,hq⟩,q⟩:=q1;subst e;cases r1;let⟨its,rv,p,hz⟩:=I1.tuple hq;show ů (show s1.heap.IsTuple a its.toArray from p) ?_;show⟨s1.heap.objs.size,[s1.heap.objs.size],_,_,H1,O,I1.kept (t':=s1.toks) λ b o e=>Ï _ e,DO a _,⟨_,á _ O,O,O⟩,λ b hb=>?_,q⟩;have e:b=s1.heap.objs.size:=by simpa using hb
 subst e;show I1.fpOk (Ñ _) (I1.hok.fresh (Ñ _))
theorem LE {σ:St}{E:À->Â->Prop}{lo hi:Int}{t u v:Tok}{tk:Nat} (I:Inv X gj σ H s) (h1 : -(2 ^ 62)<=lo) (h2:lo < 2 ^ 62) (h3 : -(2 ^ 62)<=hi) (h4:hi < 2 ^ 62)
  (q:R (OH lo (hi - lo).toNat) H):wpAny (model X.prog X.w) X.A (pyIter (.ref s.heap.objs.size)) (PIE X gj σ tg R) E { s with heap:=s.heap.push { cls:=.type "range",data:=.fields #[.int lo t,.int hi u,.int 1 v] },toks:=tk }:=by
 show wpAny_pyIter_range (IsRange.new ..) (small_one h1 h2 h3 h4) ?_;have I1:Inv X gj σ H { s with heap:=s.heap.push { cls:=.type "range",data:=.fields #[.int lo t,.int hi u,.int 1 v] },toks:=tk }:=I.kept λ b o e=>Ï _ e;show⟨(s.heap.push { cls:=.type "range",data:=.fields #[.int lo t,.int hi u,.int 1 v] }).objs.size,[(s.heap.push { cls:=.type "range",data:=.fields #[.int lo t,.int hi u,.int 1 v] }).objs.size],_,_,H,O,
  I1.kept (t':=tk) λ b o e=>Ï _ e,DP _ lo (hi - lo).toNat,?_,λ b hb=>?_,q⟩
 ·have e1:lo+((0:Nat):Int) * 1=lo:=by simp
  have e2:(((hi - lo).toNat:Nat):Int) - ((0:Nat):Int)=Builtin.Range.rangeSize lo hi 1:=by rw[rangeSize_one];split <;> lia
  change IsRangeIter _ _ (lo+((0:Nat):Int) * 1) ((((hi - lo).toNat:Nat):Int) - ((0:Nat):Int)) 1;rw[e1,e2];show á _ O
 ·have e:b=(s.heap.push { cls:=.type "range",data:=.fields #[.int lo t,.int hi u,.int 1 v] }).objs.size:=by simpa using hb
  subst e;show I1.fpOk (Ñ _) (I1.hok.fresh (Ñ _))
def V8 (ta:TA):TI:=λ σ H R=>ta σ H λ vs H1=>∃ j:Int,vs=[.int j]/\-(2 ^ 62)<=j/\j < 2 ^ 62/\R (OH 0 j.toNat) H1
theorem eF  (hg:Gl X "range") (hm:X.mg "range" =W) (ha:PA X [a] ta) (hs:autoParam (starEach [a] X.env=[(Eh,eval a X.env)]) _0):PI X tg (.Call (.Name "range" p) [a] [] pos) (V8 ta):=by
 intro gj s σ H R I h;show Call_ (kP I hg hm boot_range (ĳ (cK (ha pos gj s σ H _ I h) λ us s1 ⟨vs,H1,I1,r1,q1⟩=>?_) hs O));let⟨j,e,q1,q2,q⟩:=q1;subst e;cases r1 with
 |cons r rr=>
  cases rr;let⟨t,rfl⟩:=r;show call_range_1 (LE I1 Fn Fn q1 q2 (by simpa using q))
def RT (wi:TI) (g:TG) (tb:TS):TS:=λ D σ H=>wi σ H λ J H1=>∃ BH:Nat->Nat->St->Hp->Prop,(∃ m,BH 0 m σ H1)/\∀ i m σ H,BH i m σ H->
 (J.stop i H/\D.nx σ H)\/(J.go i H/\∃ N:St->Hp->Prop,(∀ ac H',N ac H'->∃ m',m' < m/\BH (i+1) m' ac H')/\∀ x H',J.yld i H x H'->g x σ H' λ au H2=>tb { D with nx:=N,ct:=N,bk:=D.nx } au H2)
def qO (fp:List Á) (h:Heap):List (Á×Obj):=fp.filterMap λ b=>(h.get? b).map λ o=>(b,o)
theorem gU  (hb:b∈fp) (e:h.get? b=Y o):(b,o)∈qO fp h:=List.mem_filterMap.mpr ⟨b,hb,by rw[e];rfl⟩
theorem IW  (hp:p∈qO fp h):p.1∈fp/\h.get? p.1=Y p.2:=by
 let⟨b,hb,e⟩:=List.mem_filterMap.mp hp;cases q:h.get? b with
 |none=>rw[q]at e;cases e
 |some o=>
  rw[q]at e;have e':(b,o)=p:=ç e;subst e';show⟨hb,q⟩
theorem Inv.pinned {σ:St}{fp:List Á} (I:Inv X gj σ H s) (hf:∀ b∈fp,kX X gj H b) (ho:∀ b∈fp,∃ o,s.heap.get? b=Y o/\∀ v,o.data≠.cell v):Inv X (gj++qO fp s.heap) σ H s:=
 I.pins_of λ p hp=>(ÿ.mp hp).elim (λ z=>I.pin p (Ċ _ z)) λ z=>by
  let⟨hb,e⟩:=IW z;let⟨f0,f1,f2,_⟩:=hf p.1 hb;let⟨o,e',d⟩:=ho p.1 hb;rw[e]at e';cases e';show⟨e,f0,f1,f2,d⟩
theorem Inv.unpinned {σ:St} (I:Inv X (gj++pl) σ H s):Inv X gj σ H s:=I.pins_of λ p hp=>I.pin p (Ċ _ (ľ _ hp))
theorem dB  (hp:PassesOwn (model X.prog X.w) X.A X.env X.xe) (hc:X.calm=Eg) (hi:PI X tg iter wi) (hg:PG X tg g) (hb:yO X body tb)
  (hs:autoParam (∀ x,foldedSetIterable iter X.env x=pure x) _6):PS X (.For tg iter body [] pos) (RT wi g tb):=by
 intro gj s σ H D I h;show wpAny_For (cK (hi gj s σ H _ I h) λ v s1 h1=>cK h1 λ Fr s2 h2=>?_) hs;let⟨it,fp,tn,J,H2,e,I2,T,Cm,f2,BH,⟨m0,w0⟩,turn⟩:=h2;subst e;have oo:∀ {H':Hp},(∀ b∈fp,H' b=W)->∀ b∈fp,kX X gj H' b:=λ hn b hb=>⟨hn b hb,(f2 b hb).2⟩;show codeAny_forLoop_any (λ n s'=>∃ i ac H',Inv X gj ac H' s'/\tn i s'.heap/\(∀ b∈fp,H' b=W)/\BH i n ac H') ?_ m0 ⟨0,σ,H2,I2,Cm,λ b hb=>(f2 b hb).1,w0⟩;rintro n s3 xK;let⟨i,aj,H3,I3,Ta,Tb,w3⟩:=xK;rcases turn i n aj H3 w3 with⟨stop,qn⟩|⟨go,N,hN,step⟩
 ·show ĺ hp (cK (T.done X O O O hc i gj s3 aj H3 X.xe I3 (oo Tb) Ta stop) λ r s4 ⟨hr,I4⟩=>?_);subst hr;show ź ⟨aj,H3,I4,qn⟩
 ·show ĺ hp (cK (T.item X O O O hc i gj s3 aj H3 X.xe I3 (oo Tb) Ta go) λ r s4 ⟨u,hr,h4⟩=>?_);subst hr;show ĺ hp (cK h4 λ _ s5 ⟨x,H5,I5,r5,y5,An,Cn⟩=>?_);have Xe:=I5.pinned (oo Cn) (T.obj _ _ An);show ĺ hp (cK (hg _ s5 aj H5 x u _ Xe r5 (step x H5 y5)) λ _ s6 ⟨σ6,H6,I6,q6⟩=>?_);show ĺ hp (cK (hb _ s6 σ6 H6 _ I6 q6) λ f s7 q7=>?_);have again:∀ {cu:St}{H7:Hp},Inv X (gj++qO fp s5.heap) cu H7 s7->N cu H7->∃ m,m < n/\∃ i ac H',Inv X gj ac H' s7/\tn i s7.heap/\(∀ b∈fp,H' b=W)/\BH i m ac H':=λ {cu H7} I7 n7=>by
   let⟨m',hm,w7⟩:=hN cu H7 n7;show⟨m',hm,i+1,cu,H7,I7.unpinned,T.keep _ _ _ An λ b hb o e=>(I7.pin (b,o) (Ċ _ (Ċ _ (gU hb e)))).1,λ b hb=>?_,w7⟩;let⟨o,e,d⟩:=T.obj _ _ An b hb;show(I7.pin (b,o) (Ċ _ (Ċ _ (gU hb e)))).2.1
  cases f with
  |next=>let⟨cu,H7,I7,n7⟩:=q7;show again I7 n7
  |cont=>let⟨cu,H7,I7,n7⟩:=q7;show again I7 n7
  |brk=>let⟨cu,H7,I7,q7⟩:=q7;show⟨cu,H7,I7.unpinned,q7⟩
  |ret v=>let⟨x7,cu,H7,I7,r7,q7⟩:=q7;show⟨x7,cu,H7,I7.unpinned,r7,q7⟩
end
theorem iT {g:TG}{tb:TS}{D:Ends}{σ:St}{H:Hp} (Pv:Nat->St->Hp->Prop) (h0:Pv 0 σ H) (hl:∀ i σ H,i<=xs.length->Pv i σ H->bE K H a xs)
  (hs:∀ i x σ H,xs[i]?=Y x->Pv i σ H->g x σ H λ au H2=>tb { D with nx:=Pv (i+1),ct:=Pv (i+1),bk:=D.nx } au H2) (hd:∀ σ H,Pv xs.length σ H->D.nx σ H) :
  ∃ BH:Nat->Nat->St->Hp->Prop,(∃ m,BH 0 m σ H)/\∀ i m σ H,BH i m σ H->
   ((QG K a).stop i H/\D.nx σ H)\/((QG K a).go i H/\∃ N:St->Hp->Prop,(∀ ac H',N ac H'->∃ m',m' < m/\BH (i+1) m' ac H')/\∀ x H',(QG K a).yld i H x H'->g x σ H' λ au H2=>tb { D with nx:=N,ct:=N,bk:=D.nx } au H2):=by
 show⟨λ i m σ H=>m=xs.length - i/\i<=xs.length/\Pv i σ H,⟨xs.length,G0,à _,h0⟩,?_⟩;rintro i m σ H ⟨rfl,hi,p⟩;have q:=hl i σ H hi p
 by_cases jh:i < xs.length
 ·show .inr ⟨⟨xs,xs[i],q,by simp[jh]⟩,Pv (i+1),λ ac H' p'=>⟨xs.length - (i+1),Fn,O,jh,p'⟩,λ x H' y=>?_⟩;let⟨e,y⟩:=y;subst e;show hs i x σ _ (y xs q) p
 ·have e:i=xs.length:=by lia
  subst e;show .inl ⟨⟨xs,q,Ñ _⟩,hd σ H p⟩
theorem A6 {g:TG}{tb:TS}{D:Ends}{σ:St}{H:Hp} (Pv:Nat->St->Hp->Prop) (h0:Pv 0 σ H) (hl:∀ i σ H,i<=xs.length->Pv i σ H->aP K H a xs)
  (hs:∀ i x σ H,xs[i]?=Y x->Pv i σ H->g x σ H λ au H2=>tb { D with nx:=Pv (i+1),ct:=Pv (i+1),bk:=D.nx } au H2) (hd:∀ σ H,Pv xs.length σ H->D.nx σ H) :
  ∃ BH:Nat->Nat->St->Hp->Prop,(∃ m,BH 0 m σ H)/\∀ i m σ H,BH i m σ H->
   ((QF K a).stop i H/\D.nx σ H)\/((QF K a).go i H/\∃ N:St->Hp->Prop,(∀ ac H',N ac H'->∃ m',m' < m/\BH (i+1) m' ac H')/\∀ x H',(QF K a).yld i H x H'->g x σ H' λ au H2=>tb { D with nx:=N,ct:=N,bk:=D.nx } au H2):=by
 show⟨λ i m σ H=>m=xs.length - i/\i<=xs.length/\Pv i σ H,⟨xs.length,G0,à _,h0⟩,?_⟩;rintro i m σ H ⟨rfl,hi,p⟩;have q:=hl i σ H hi p
 by_cases jh:i < xs.length
 ·show .inr ⟨⟨xs,xs[i],q,by simp[jh]⟩,Pv (i+1),λ ac H' p'=>⟨xs.length - (i+1),Fn,O,jh,p'⟩,λ x H' y=>?_⟩;let⟨e,y⟩:=y;subst e;show hs i x σ _ (y xs q) p
 ·have e:i=xs.length:=by lia
  subst e;show .inl ⟨⟨xs,q,Ñ _⟩,hd σ H p⟩
theorem mZ {lo:Int}{g:TG}{tb:TS}{D:Ends}{σ:St}{H:Hp} (Pv:Nat->St->Hp->Prop) (h0:Pv 0 σ H)
  (hs:∀ i σ H,i < n->Pv i σ H->g (.int (lo+i)) σ H λ au H2=>tb { D with nx:=Pv (i+1),ct:=Pv (i+1),bk:=D.nx } au H2) (hd:∀ σ H,Pv n σ H->D.nx σ H) :
  ∃ BH:Nat->Nat->St->Hp->Prop,(∃ m,BH 0 m σ H)/\∀ i m σ H,BH i m σ H->
   ((OH lo n).stop i H/\D.nx σ H)\/((OH lo n).go i H/\∃ N:St->Hp->Prop,(∀ ac H',N ac H'->∃ m',m' < m/\BH (i+1) m' ac H')/\∀ x H',(OH lo n).yld i H x H'->g x σ H' λ au H2=>tb { D with nx:=N,ct:=N,bk:=D.nx } au H2):=by
 show⟨λ i m σ H=>m=n - i/\i<=n/\Pv i σ H,⟨n,G0,à _,h0⟩,?_⟩;rintro i m σ H ⟨rfl,hi,p⟩
 by_cases jh:i < n
 ·show .inr ⟨jh,Pv (i+1),λ ac H' p'=>⟨n - (i+1),Fn,O,jh,p'⟩,λ x H' y=>?_⟩;let⟨e,y⟩:=y;subst e y;show hs i σ _ jh p
 ·have e:i=n:=by lia
  subst e;show .inl ⟨Ñ _,hd σ H p⟩
abbrev R2:=V->V->Hp->VK->Prop
def jG (X:Cx) (f:À->À->Sem À) (r:R2):Prop:=
 ∀(gj:List (Á×Obj)) (s:Â) (σ:St) (H:Hp) (x y:V) (v u:À) (Q:VK),Inv X gj σ H s->aX x v->aX y u->r x y H Q->
  wpAny (model X.prog X.w) X.A (f v u) (EP X gj σ Q) X.xe s
def UnR (X:Cx) (f:À->Sem À) (r:V->Hp->VK->Prop):Prop:=
 ∀(gj:List (Á×Obj)) (s:Â) (σ:St) (H:Hp) (x:V) (v:À) (Q:VK),Inv X gj σ H s->aX x v->r x H Q->
  wpAny (model X.prog X.w) X.A (f v) (EP X gj σ Q) X.xe s
def eV (X:Cx) (f:À) (r:List V->Hp->VK->Prop):Prop:=
 ∀(gj:List (Á×Obj)) (s:Â) (σ:St) (H:Hp) (xs:List V) (us:List À) (Q:VK),Inv X gj σ H s->bI xs us->r xs H Q->
  wpAny (model X.prog X.w) X.A (call f us) (EP X gj σ Q) X.xe s
def jJ (r:R2) (ta tb:TE):TE:=λ σ H Q=>ta σ H λ x H1=>tb σ H1 λ y H2=>r x y H2 Q
def tUn (r:V->Hp->VK->Prop) (ta:TE):TE:=λ σ H Q=>ta σ H λ x H1=>r x H1 Q
def rI (C:Int->Int->Prop) (g:Int->Int->V):R2:=λ x y H Q=>∃ i j,x=.int i/\y=.int j/\C i j/\Q (g i j) H
def zB (g:Int->Int->V):R2:=λ x y H Q=>∃ i j,x=.int i/\y=.int j/\Q (g i j) H
def rU (g:Int->V):V->Hp->VK->Prop:=λ x H Q=>∃ i,x=.int i/\Q (g i) H
section
variable {X:Cx}{a b c:Expr}{ta tb tc:TE}{pos:Pos}
theorem TQ (ha:PE X a ta) (hb:PE X b tb){σ:St}{R:V->V->Hp->Prop} (I:Inv X gj σ H s)
  (h:ta σ H λ x H1=>tb σ H1 λ y H2=>R x y H2) {Q:À->Â->Prop}{f:À->À->Sem À}
  (hf:∀ v u s2 x y H2,Inv X gj σ H2 s2->aX x v->aX y u->R x y H2->wpAny (model X.prog X.w) X.A (f v u) Q X.xe s2) :
  wpAny (model X.prog X.w) X.A (eval a X.env) (λ v ah=>wpAny (model X.prog X.w) X.A (eval b X.env) (λ u cn=>wpAny (model X.prog X.w) X.A (f v u) Q X.xe cn) X.xe ah) X.xe s:=by
 show cK (ha gj s σ H _ I h) λ v s1 ⟨x,H1,I1,r1,q1⟩=>?_;show cK (hb gj s1 σ H1 _ I1 q1) λ u s2 ⟨y,H2,I2,r2,q2⟩=>?_;show hf v u s2 x y H2 I2 r1 r2 q2
theorem aW  (ho:jG X (binaryOp op) r) (ha:PE X a ta) (hb:PE X b tb):PE X (.BinOp a op b pos) (jJ r ta tb):=by
 intro gj s σ H Q I h;show wpAny_BinOp (TQ ha hb I h λ v u s2 x y H2 I2 rx ry q=>ho gj s2 σ H2 x y v u Q I2 rx ry q)
theorem QZ  (ho:UnR X (unaryOp op) r) (ha:PE X a ta):PE X (.UnaryOp op a pos) (tUn r ta):=by
 intro gj s σ H Q I h;show UnaryOp_ (cK (ha gj s σ H _ I h) λ v s1 ⟨x,H1,I1,r1,q1⟩=>ho gj s1 σ H1 x v Q I1 r1 q1)
theorem V3 {C:Int->Int->Prop}{g:Int->Int->Int}
  (rule:∀(i j:Int) (t u:Tok) (s:Â) (Q:À->Â->Prop) (E:À->Â->Prop),C i j->Q (.int (g i j) s.toks) { s with toks:=s.toks+1 }->wpAny (model X.prog X.w) X.A (f (.int i t) (.int j u)) Q E s) :
  jG X f (rI C λ i j=>.int (g i j)):=by
 intro gj s σ H x y v u Q I rx ry h;let⟨i,j,rfl,rfl,hc,q⟩:=h;let⟨t,rfl⟩:=rx;let⟨t',rfl⟩:=ry;show rule i j t t' s _ _ hc ⟨.int (g i j),H,I.tok _,⟨_,O⟩,q⟩
theorem V2 {g:Int->Int->Int}
  (rule:∀(i j:Int) (t u:Tok) (s:Â) (Q:À->Â->Prop) (E:À->Â->Prop),Q (.int (g i j) s.toks) { s with toks:=s.toks+1 }->wpAny (model X.prog X.w) X.A (f (.int i t) (.int j u)) Q E s) :
  jG X f (zB λ i j=>.int (g i j)):=by
 intro gj s σ H x y v u Q I rx ry h;let⟨i,j,rfl,rfl,q⟩:=h;let⟨t,rfl⟩:=rx;let⟨t',rfl⟩:=ry;show rule i j t t' s _ _ ⟨.int (g i j),H,I.tok _,⟨_,O⟩,q⟩
theorem PK {g:Int->Int->Bool}
  (rule:∀(i j:Int) (t u:Tok) (s:Â) (Q:À->Â->Prop) (E:À->Â->Prop),Q (.bool (g i j)) s->wpAny (model X.prog X.w) X.A (f (.int i t) (.int j u)) Q E s) :
  jG X f (zB λ i j=>.bl (g i j)):=by
 intro gj s σ H x y v u Q I rx ry h;let⟨i,j,rfl,rfl,q⟩:=h;let⟨t,rfl⟩:=rx;let⟨t',rfl⟩:=ry;show rule i j t t' s _ _ ⟨.bl (g i j),H,I,O,q⟩
def TY (i j:Int):Prop:=0 < j/\j < 1073741824
def VO (i j:Int):Prop:=0<=j/\j<=1000000/\i.natAbs < 2 ^ 64
def DL (i j:Int):Prop:=(-(2 ^ 64) < i/\i < 2 ^ 64)\/(-(2 ^ 64) < j/\j < 2 ^ 64)
theorem DL.ok  (h:DL i j):IntMulOk i j:=by
 rcases h with⟨h1,h2⟩|⟨h1,h2⟩
 ·show .of_left (intBits_le_64 h1 h2)
 ·show .of_right (intBits_le_64 h1 h2)
theorem cF:jG X (binaryOp .Add) (zB λ i j=>.int (i+j)):=V2 λ _ _ _ _ _ _ _ q=>add_int q
theorem eN:jG X (binaryOp .Sub) (zB λ i j=>.int (i - j)):=V2 λ _ _ _ _ _ _ _ q=>sub_int q
theorem nV:jG X (binaryOp .Mult) (rI DL λ i j=>.int (i * j)):=V3 λ _ _ _ _ _ _ _ hc q=>mul_int q hc.ok
theorem mS:jG X (binaryOp .FloorDiv) (rI TY λ i j=>.int (i / j)):=V3 λ i j _ _ _ _ _ hc q=>by
 have h1:(0:Int) < j:=hc.1;have h2:j < 1073741824:=hc.2;show floordiv_int Fn (by rw[af8 i Fn];show q) (.inl (PyProof.noPylong_small Fn))
theorem nW:jG X (binaryOp .Mod) (rI (λ _ j=>0 < j) λ i j=>.int (i % j)):=V3 λ i j _ _ _ _ _ hc q=>by
 have h1:(0:Int) < j:=hc;show mod_int' Fn (by rw[Int.fmod_eq_emod_of_nonneg i Fn];show q)
theorem SM:jG X (binaryOp .Pow) (rI VO λ i j=>.int (i ^ j.toNat)):=V3 λ _ _ _ _ _ _ _ hc q=>pow_int_small hc.1 hc.2.1 hc.2.2 q
theorem unI {g:Int->Int}
  (rule:∀(i:Int) (t:Tok) (s:Â) (Q:À->Â->Prop) (E:À->Â->Prop),Q (.int (g i) s.toks) { s with toks:=s.toks+1 }->wpAny (model X.prog X.w) X.A (f (.int i t)) Q E s) :
  UnR X f (rU λ i=>.int (g i)):=by
 intro gj s σ H x v Q I rx h;let⟨i,rfl,q⟩:=h;let⟨t,rfl⟩:=rx;show rule i t s _ _ ⟨.int (g i),H,I.tok _,⟨_,O⟩,q⟩
theorem KI:UnR X (unaryOp .USub) (rU λ i=>.int (-i)):=unI λ _ _ _ _ _ q=>neg_int q
end
def UK:V->V->Bool
 |.non,.non=>Eg|.non,.int _=>Eg|.int _,.non=>Eg|.non,.bl _=>Eg|.bl _,.non=>Eg|.non,.str _=>Eg|.str _,.non=>Eg
 |.int _,.int _=>Eg|.bl _,.bl _=>Eg|.str _,.str _=>Eg|.byt _,.byt _=>Eg
 |.int _,.str _=>Eg|.str _,.int _=>Eg|.bl _,.str _=>Eg|.str _,.bl _=>Eg
 |_,_=>Eh
def rEq:R2:=λ x y H Q=>UK x y=Eg/\Q (.bl (decide (x=y))) H
def rNe:R2:=λ x y H Q=>UK x y=Eg/\Q (.bl (!decide (x=y))) H
theorem GU :decide (V.int i=V.int j)=(i==j):=by
 rw[ę];simp
theorem NW :decide (V.bl i=V.bl j)=(i==j):=by
 rw[ę];simp
theorem GT :decide (V.str i=V.str j)=(i==j):=by
 rw[ę];simp
theorem GV :decide (V.byt i=V.byt j)=(i.toList==j.toList):=by
 rw[ę];cases i;cases j;simp
section
variable {X:Cx}{a b c:Expr}{ta tb tc:TE}{pos:Pos}
theorem bX {σ:St}{k k':Bool} (I:Inv X gj σ H s) (q:Q (.bl k) H) (e:k=k'):EP X gj σ Q (.bool k') s:=by
 subst e;show⟨.bl k,H,I,O,q⟩
theorem lZ:jG X (compareOp .Eq) rEq:=by
 intro gj s σ H x y v u Q I rx ry h;let⟨hs,q⟩:=h;cases x with
 |non=>
  cases rx;cases y with
  |non=>cases ry;show PySem.EqNone.eq_none_none (bX I q G0)
  |bl j=>cases ry;show PySem.EqNone.eq_none_bool (bX I q G0)
  |int j=>let⟨t',rfl⟩:=ry;show PySem.EqNone.eq_none_int (bX I q G0)
  |str j=>let⟨t',rfl⟩:=ry;show PySem.EqNone.eq_none_str (bX I q G0)
  |_=>show absurd (show Eh=Eg from hs) ã
 |bl i=>
  cases rx;cases y with
  |non=>cases ry;show PySem.EqNone.eq_bool_none (bX I q G0)
  |bl j=>cases ry;show eq_bool (bX I q NW)
  |str j=>let⟨t',rfl⟩:=ry;show PySem.EqMixed.eq_bool_str (bX I q G0)
  |_=>show absurd (show Eh=Eg from hs) ã
 |int i=>
  let⟨t,rfl⟩:=rx;cases y with
  |non=>cases ry;show PySem.EqNone.eq_int_none (bX I q G0)
  |int j=>let⟨t',rfl⟩:=ry;show eq_int (bX I q GU)
  |str j=>let⟨t',rfl⟩:=ry;show PySem.EqMixed.eq_int_str (bX I q G0)
  |_=>show absurd (show Eh=Eg from hs) ã
 |str i=>
  let⟨t,rfl⟩:=rx;cases y with
  |non=>cases ry;show PySem.EqNone.eq_str_none (bX I q G0)
  |bl j=>cases ry;show PySem.EqMixed.eq_str_bool (bX I q G0)
  |int j=>let⟨t',rfl⟩:=ry;show PySem.EqMixed.eq_str_int (bX I q G0)
  |str j=>let⟨t',rfl⟩:=ry;show eq_str (bX I q GT)
  |_=>show absurd (show Eh=Eg from hs) ã
 |byt i=>
  let⟨t,rfl⟩:=rx;cases y with
  |byt j=>let⟨t',rfl⟩:=ry;show PySem.W.eq_bytes (bX I q GV)
  |_=>show absurd (show Eh=Eg from hs) ã
 |_=>cases y <;> show absurd (show Eh=Eg from hs) ã
theorem V1:jG X (compareOp .NotEq) rNe:=by
 intro gj s σ H x y v u Q I rx ry h;let⟨hs,q⟩:=h;cases x with
 |non=>
  cases rx;cases y with
  |non=>cases ry;show PySem.EqNone.ne_none_none (bX I q G0)
  |bl j=>cases ry;show PySem.EqNone.ne_none_bool (bX I q G0)
  |int j=>let⟨t',rfl⟩:=ry;show PySem.EqNone.ne_none_int (bX I q G0)
  |str j=>let⟨t',rfl⟩:=ry;show PySem.EqNone.ne_none_str (bX I q G0)
  |_=>show absurd (show Eh=Eg from hs) ã
 |bl i=>
  cases rx;cases y with
  |non=>cases ry;show PySem.EqNone.ne_bool_none (bX I q G0)
  |bl j=>cases ry;show ne_bool (bX I q (congrArg not NW))
  |str j=>let⟨t',rfl⟩:=ry;show PySem.EqMixed.ne_bool_str (bX I q G0)
  |_=>show absurd (show Eh=Eg from hs) ã
 |int i=>
  let⟨t,rfl⟩:=rx;cases y with
  |non=>cases ry;show PySem.EqNone.ne_int_none (bX I q G0)
  |int j=>let⟨t',rfl⟩:=ry;show ne_int (bX I q (congrArg not GU))
  |str j=>let⟨t',rfl⟩:=ry;show PySem.EqMixed.ne_int_str (bX I q G0)
  |_=>show absurd (show Eh=Eg from hs) ã
 |str i=>
  let⟨t,rfl⟩:=rx;cases y with
  |non=>cases ry;show PySem.EqNone.ne_str_none (bX I q G0)
  |bl j=>cases ry;show PySem.EqMixed.ne_str_bool (bX I q G0)
  |int j=>let⟨t',rfl⟩:=ry;show PySem.EqMixed.ne_str_int (bX I q G0)
  |str j=>let⟨t',rfl⟩:=ry;show ne_str (bX I q (congrArg not GT))
  |_=>show absurd (show Eh=Eg from hs) ã
 |byt i=>
  let⟨t,rfl⟩:=rx;cases y with
  |byt j=>let⟨t',rfl⟩:=ry;show PySem.W.ne_bytes (bX I q (congrArg not GV))
  |_=>show absurd (show Eh=Eg from hs) ã
 |_=>cases y <;> show absurd (show Eh=Eg from hs) ã
theorem rX:jG X (compareOp .Lt) (zB λ i j=>.bl (decide (i < j))):=PK λ _ _ _ _ _ _ _ q=>lt_int q
theorem rY:jG X (compareOp .LtE) (zB λ i j=>.bl (decide (i<=j))):=PK λ _ _ _ _ _ _ _ q=>le_int q
theorem GA:jG X (compareOp .Gt) (zB λ i j=>.bl (decide (j < i))):=PK λ _ _ _ _ _ _ _ q=>gt_int q
theorem M3:jG X (compareOp .GtE) (zB λ i j=>.bl (decide (j<=i))):=PK λ _ _ _ _ _ _ _ q=>ge_int q
theorem qP:jG X (compareOp .Is) (λ x y H Q=>y=.non/\Q (.bl (decide (x=.non))) H):=by
 intro gj s σ H x y v u Q I rx ry h;let⟨rfl,q⟩:=h;cases ry;show is_none_gen (bX I q ?_);cases x <;> first
  |(cases rx;rfl)
  |(let⟨t,rfl⟩:=rx;rfl)
theorem PH:jG X (compareOp .IsNot) (λ x y H Q=>y=.non/\Q (.bl (!decide (x=.non))) H):=by
 intro gj s σ H x y v u Q I rx ry h;let⟨rfl,q⟩:=h;cases ry;show isnot_none_gen (bX I q ?_);cases x <;> first
  |(cases rx;rfl)
  |(let⟨t,rfl⟩:=rx;rfl)
theorem bK (b:Expr) (h:autoParam (op≠.In) _2) (h2:autoParam (op≠.NotIn) _2):behindInMarks op b=false:=by
 have e1:(op==CmpOp.In)=false:=by cases op <;> first|rfl|show absurd O h
 have e2:(op==CmpOp.NotIn)=false:=by cases op <;> first|rfl|show absurd O h2
 cases b <;> simp[behindInMarks,e1,e2]
theorem fI  (ho:jG X (compareOp op) r) (ha:PE X a ta) (hb:PE X b tb) (hm:behindInMarks op b=Eh):PE X (.Compare a [op] [b] pos) (jJ r ta tb):=by
 intro gj s σ H Q I h;show wpAny_Compare1 (TQ ha hb I h λ v u s2 x y H2 I2 rx ry q=>ho gj s2 σ H2 x y v u Q I2 rx ry q) hm
def AS (t:TE):TT:=λ σ H Q=>t σ H λ x H'=>∃ k,x=.bl k/\Q k H'
theorem bN  (ho:jG X (compareOp op) r) (ha:PE X a ta) (hb:PE X b tb) (hm:behindInMarks op b=Eh):PT X (.Compare a [op] [b] pos) (AS (jJ r ta tb)):=by
 intro gj s σ H Q I h;show wpAny_isTrue_Compare1 (cK (ha gj s σ H _ I h) λ v s1 ⟨x,H1,I1,r1,q1⟩=>cK (hb gj s1 σ H1 _ I1 q1) λ u s2 ⟨y,H2,I2,r2,q2⟩=>
  cK (ho gj s2 σ H2 x y v u _ I2 r1 r2 q2) λ c s3 ⟨z,H3,I3,r3,k,e,q3⟩=>?_) hm
 subst e;cases r3;show Ķ ⟨H3,I3,q3⟩
def RW (r r':R2) (ta tb tc:TE):TE:=λ σ H Q=>ta σ H λ x H1=>tb σ H1 λ y H2=>r x y H2 λ z H3=>∃ k,z=.bl k/\
 (if k=Eg then tc σ H3 λ w' H4=>r' y w' H4 Q else Q (.bl Eh) H3)
theorem pF  (ho:jG X (compareOp op) r) (om:jG X (compareOp Mm) r') (ha:PE X a ta) (hb:PE X b tb) (hc:PE X c tc)
  (hm:autoParam (lastMarks [op,Mm] [b,c]=false) _0):PE X (.Compare a [op,Mm] [b,c] pos) (RW r r' ta tb tc):=by
 intro gj s σ H Q I h;show Compare_chain (cK (ha gj s σ H _ I h) λ v s1 ⟨x,H1,I1,r1,q1⟩=>chain_link (cK (hb gj s1 σ H1 _ I1 q1) λ u s2 ⟨y,H2,I2,r2,q2⟩=>
  cK (ho gj s2 σ H2 x y v u _ I2 r1 r2 q2) λ d s3 ⟨z,H3,I3,r3,k,e,q3⟩=>?_)) hm
 subst e;cases r3;show Ķ ?_;cases k with
 |false=>show ite_ff ⟨.bl Eh,H3,I3,O,q3⟩
 |true=>show ite_tt (chain_last (cK (hc gj s3 σ H3 _ I3 q3) λ w' s4 ⟨z',H4,I4,r4,q4⟩=>om gj s4 σ H4 y z' u w' Q I4 r2 r4 q4))
theorem vL:(sizeLine:Nat) < 2 ^ 63:=by rw[ĕ];decide
theorem oJ  (r:bI [x] us):∃ u,us=[u]/\aX x u:=by
 cases r with
 |cons r1 r2=>cases r2;show⟨_,O,r1⟩
theorem KF  (r:bI [x,y] us):∃ u w',us=[u,w']/\aX x u/\aX y w':=by
 cases r with
 |cons r1 r2=>
  cases r2 with
  |cons r3 r4=>cases r4;show⟨_,_,O,r1,r3⟩
theorem yJ (hc:X.calm=Eg):eV X (.builtin "max") (λ xs H Q=>∃ i j,xs=[.int i,.int j]/\Q (.int (if j > i then j else i)) H):=by
 intro gj s σ H xs us Q I r h;let⟨i,j,rfl,q⟩:=h;let⟨u,w',rfl,⟨t,rfl⟩,⟨t',rfl⟩⟩:=KF r;show max_two_ints (I.ok.hd hc) λ h' tk k=>⟨_,H,I.kept k,?_,q⟩
 by_cases hj:j > i
 ·rw[Å hj,Å hj];show⟨_,O⟩
 ·rw[Ä hj,Ä hj];show⟨_,O⟩
theorem yI (hc:X.calm=Eg):eV X (.builtin "min") (λ xs H Q=>∃ i j,xs=[.int i,.int j]/\Q (.int (if j < i then j else i)) H):=by
 intro gj s σ H xs us Q I r h;let⟨i,j,rfl,q⟩:=h;let⟨u,w',rfl,⟨t,rfl⟩,⟨t',rfl⟩⟩:=KF r;show min_two_ints (I.ok.hd hc) λ h' tk k=>⟨_,H,I.kept k,?_,q⟩
 by_cases hj:j < i
 ·rw[Å hj,Å hj];show⟨_,O⟩
 ·rw[Ä hj,Ä hj];show⟨_,O⟩
theorem k7:eV X (.type "int") (λ xs H Q=>(∃ i,xs=[.int i]/\Q (.int i) H)\/∃ k,xs=[.bl k]/\Q (.int (if k then 1 else 0)) H):=by
 intro gj s σ H xs us Q I r h;rcases h with⟨i,rfl,q⟩|⟨k,rfl,q⟩
 ·let⟨u,rfl,t,rfl⟩:=oJ r;show call_int_int ⟨.int i,H,I,⟨_,O⟩,q⟩
 ·let⟨u,rfl,r1⟩:=oJ r;cases r1;show call_int_bool ⟨.int (if k then 1 else 0),H,I.tok _,⟨_,O⟩,q⟩
end
structure ObjM (h:Heap) (x dx C:Á) (mA:Str->Option À):Prop where
 obj:h.get? x=Y (PySem.W.instObj C dx)
 ns:h.Ns1 dx mA
 ne:dx≠x
theorem J0 {h:Heap}{dx:Á}{mA:Str->Option À} (n:h.Ns1 dx mA):∃ od,h.get? dx=Y od/\∀ name,PySem.W.lookIn name od=Y (mA name):=by
 let⟨o,es,ep,ho,hd,hk,_,hm⟩:=n;show⟨o,ho,λ name=>?_⟩;have e:=hm name;unfold nsFind findBy at e;rw[<- Array.find?_toList]at e;unfold PySem.W.lookIn;rw[hd];dsimp only
 split
 ·rename_i y q
  rw[q]at e;show congrArg Y e
 ·rename_i q
  rw[q]at e;have a:es.toList.any (·.refKey)=false:=by
   rw[List.any_eq_false];intro y hy;let⟨z,t,vp⟩:=hk y (Array.mem_toList_iff.mp hy);simp[DictEntry.refKey,vp]
  have a':¬ es.toList.any (·.refKey)=true:=by rw[a];show ã
  rw[Ä a'];show congrArg Y e
theorem ObjM.look {x dx C:Á} (I:ObjM h x dx C mA):∃ od,PySem.W.InstAt h x (PySem.W.instObj C dx) C (Y od)/\∀ name,PySem.W.lookIn name od=Y (mA name):=
 let ⟨od,ho,hl⟩:=J0 I.ns
 ⟨od,⟨I.obj,rfl,rfl,ho⟩,hl⟩
section
variable {prog:Ã}{A:Around}{E:À->Â->Prop}{s:Â}{x dx f:Á}{mA:Str->Option À}{name:Str}{v:À}
theorem Q3 {Q:À->Â->Prop} (X:K.In s.heap) (I:ObjM s.heap x dx C mA) (hg:PySem.W.plainGet K C name=Eg) (hh:PySem.W.hasDictIn K C=Eg)
  (ha:PySem.W.findIn K (.ref C) name=Y W) (hv:mA name=Y v) (Bp:PySem.W.handedIn v=Eg) (h:Q v { s with toks:=s.toks+1 }) :
  wpAny (model prog w) A (getAttr (.ref x) name expr) Q E s:=by
 let⟨od,J,hl⟩:=I.look;show PySem.W.get_value X J (af3 hg).1 (PySem.W.findObj_own hh ha O (by rw[hl,hv])) Bp h
theorem ND {Q:À×List À->Â->Prop} (X:K.In s.heap) (I:ObjM s.heap x dx C mA) (hg:PySem.W.plainGet K C name=Eg)
  (hf:PySem.W.findIn K (.ref C) name=Y (Y (.ref f))) (ht:PySem.W.isFn K (.ref f)=Eg) (hv:mA name=W) (h:Q (.ref f,[.ref x]) s) :
  wpAny (model prog w) A (getMethod (.ref x) name pl) Q E s:=by
 let⟨od,J,hl⟩:=I.look;show PySem.W.method_fn X J (af3 hg).1 (af3 hg).2 hf (beq_iff_eq.mp ht) (by change(PySem.W.lookIn name od).map (·.isSome)=Y Eh;rw[hl,hv];rfl) h
theorem OR {Q:Unit->Â->Prop} (X:K.In s.heap) (I:ObjM s.heap x dx C mA)
  (hs:PySem.W.findIn K (.ref C) "__setattr__" =Y (Y (.builtin "object.__setattr__"))) (hp:PySem.W.plainOver K C=Eg) (ht:PySem.W.takerIn K C name=Y W) (hh:PySem.W.hasDictIn K C=Eg)
  (hw:PySem.Within mA ns) (hsz:ns.length<=sizeLine)
  (h:∀ h',ObjM h' x dx C (λ y=>if y=name then Y v else mA y)->Heap.SameBut dx s.heap h'->Q () { s with heap:=h',toks:=s.toks+2 }) :
  wpAny (model prog w) A (setAttr (.ref x) name v) Q E s:=by
 let⟨od,J,hl⟩:=I.look;show PySem.W.set_plain X J hs (PySem.W.osa_open (s:={ s with toks:=s.toks+1 }) (r:=W) X J hp ht λ b=>?_);let⟨cd,hc,Fp⟩:=PySem.W.any_some hh;have hx:s.heap.get? x=Y ⟨.ref C,Y dx,.plain,#[]⟩:=I.obj;show Æ (Ë (Æ (Æ (wpAny_loadPart hx (Æ (PySem.W.Looks.here (s:={ s with toks:=s.toks+1 }) (PySem.W.looks_clsIn X hc) ?_))))));rw[Fp];show Ë (a:=Y dx) (Æ (Ë (Æ ?_)));show wpAny_nsSet1 (s:={ s with toks:=s.toks+1 }) I.ns λ h' Ki vq=>?_;let⟨oD,L',M',Xf,Xg,Xh⟩:=Ki.count (PySem.Within.cons name v hw);show Æ (wpAny_lookBehind Xf (by rw[Xg];show pastItsLine_dict (ý Xh (by rw[Ý];lia))) ?_);show Ë (h _ ⟨(vq.2 _ (Ne.symm I.ne)).trans I.obj,Ki,I.ne⟩ vq)
theorem MH {R:Result->Â->Prop}{vs:List À}{kw:List (Str×À)} (X:K.In s.heap) (hm:PySem.W.makesIn K C=Eg)
  (hi:PySem.W.findIn K (.ref C) "__init__" =Y (Y (.ref f))) (hf:PySem.W.typeIn K (.ref f)=Y (.type "function"))
  (h:codeAny (model prog w) (A.under (.builtin "type.__call__" ⟨.ref C::vs,kw⟩)) (.call (.ref f) ⟨.ref (s.heap.objs.size+1)::vs,kw⟩) (PySem.W.InitBack (s.heap.objs.size+1) R)
   { s with heap:=(s.heap.push PySem.W.emptyDict).push (PySem.W.instObj C s.heap.objs.size) }) :
  codeAny (model prog w) A (.call (.ref C) ⟨vs,kw⟩) R s:=by
 let⟨hh,g,d,t,os⟩:=s;show PySem.W.make_core (PySem.W.makes_of X hm) (PySem.W.looks_findIn X hi) (λ self=>PySem.W.bind_fn X self hf) (.inl O) h
end
def cD (f:Str) (v:V):List (Str×V)->List (Str×V)
 |[]=>[(f,v)]
 |(g,x)::r=>if g=f then(g,v)::r else(g,x)::cD f v r
theorem rZ (f g:Str) (v:V):∀ fs:List (Str×V),(cD f v fs).lookup g=if g=f then Y v else fs.lookup g
 |[]=>by
  change List.lookup g [(f,v)]=_
  by_cases h:g=f
  ·have hb:(g==f)=true:=beq_iff_eq.mpr h;simp only[List.lookup,hb,Å h]
  ·have hb:(g==f)=false:=beq_eq_false_iff_ne.mpr h;simp only[List.lookup,hb,Ä h]
 | (k,x)::r=>by
  have ih:=rZ f g v r;rw[show cD f v ((k,x)::r)=(if k=f then(k,v)::r else(k,x)::cD f v r)from rfl]
  by_cases hk:k=f
  ·rw[Å hk]
   by_cases h:g=k
   ·have hb:(g==k)=true:=beq_iff_eq.mpr h;simp only[List.lookup,hb,Å (h.trans hk)]
   ·have hb:(g==k)=false:=beq_eq_false_iff_ne.mpr h;simp only[List.lookup,hb,Ä (λ e:g=f=>h (e.trans hk.symm))]
  ·rw[Ä hk]
   by_cases h:g=k
   ·have hb:(g==k)=true:=beq_iff_eq.mpr h;simp only[List.lookup,hb,Ä (λ e:g=f=>hk (h.symm.trans e))]
   ·have hb:(g==k)=false:=beq_eq_false_iff_ne.mpr h;simp only[List.lookup,hb];show ih
theorem qY (f:Str) (v:V):∀ fs:List (Str×V),f∈(cD f v fs).map (·.1)/\∀ g,g∈fs.map (·.1)->g∈(cD f v fs).map (·.1)
 |[]=>⟨by simp[cD],λ g h=>by simp at h⟩
 | (k,x)::r=>by
  let⟨i1,i2⟩:=qY f v r;rw[show cD f v ((k,x)::r)=(if k=f then(k,v)::r else(k,x)::cD f v r)from rfl]
  by_cases hk:k=f
  ·rw[Å hk];subst hk;show⟨G0,λ g h=>by simpa using h⟩
  ·rw[Ä hk];show⟨?_,λ g h=>?_⟩
   ·rw[Ù];show ø _ i1
   ·rw[Ù]at h ⊢;rcases Ò.mp h with e|e
    ·show Ò.mpr (.inl e)
    ·show ø _ (i2 g e)
theorem sE (f:Str) (v:V):∀ fs:List (Str×V),(cD f v fs).length<=fs.length+1
 |[]=>by simp[cD]
 | (k,x)::r=>by
  have ih:=sE f v r;rw[show cD f v ((k,x)::r)=(if k=f then(k,v)::r else(k,x)::cD f v r)from rfl]
  by_cases hk:k=f
  ·rw[Å hk,Ý,Ý];lia
  ·rw[Ä hk,Ý,Ý];lia
theorem lE.some_of  (r:lE (Y v) o):∃ u,o=Y u/\aX v u:=by
 cases o with
 |none=>show(show False from r).elim
 |some u=>show⟨u,O,r⟩
theorem lE.none_of  (r:lE W o):o=none:=by
 cases o with
 |none=>rfl
 |some u=>show(show False from r).elim
theorem JD  (r:aX v u):PySem.W.handedIn u=true:=by
 cases v with
 |non=>cases(show u=Value.none from r);rfl
 |bl b=>cases(show u=Value.bool b from r);rfl
 |int i=>let⟨t,e⟩:=(show ∃ t,u=Value.int i t from r);cases e;rfl
 |str x=>let⟨t,e⟩:=(show ∃ t,u=Value.str x t from r);cases e;rfl
 |byt b=>let⟨t,e⟩:=(show ∃ t,u=Value.bytes b t from r);cases e;rfl
 |flt b=>let⟨t,e⟩:=(show ∃ t,u=Value.float b t from r);cases e;rfl
 |ref a=>cases(show u=Value.ref a from r);rfl
 |ty n=>cases(show u=Value.type n from r);rfl
section
variable {H H':Hp}{h h':Heap}{a dx:Á}{fs jz:List (Str×V)}
theorem sZ (hok:nP P w H h) (e:H a=Y (.ins C dx fs)):∃ mA,ObjM h a dx C mA/\(∀ f,lE (fs.lookup f) (mA f))/\PySem.Within mA (fs.map (·.1))/\fs.length<=1000/\H dx=Y (.own a):=by
 let⟨d,z,ne,ob,mA,n,r,q⟩:=(show bY P w H h a (.ins C dx fs)from hok a _ e);show⟨mA,⟨ob,n,ne⟩,r,q,z,d⟩
end
structure Cls (K:Ç) (C:Á):Prop where
 pg:PySem.W.plainGet K C Str.empty=Eg
 hd:PySem.W.hasDictIn K C=Eg
 po:PySem.W.plainOver K C=Eg
 sa:PySem.W.findIn K (.ref C) "__setattr__" =Y (Y (.builtin "object.__setattr__"))
theorem Cls.get {C:Á} (c:Cls K C) (f:Str):PySem.W.plainGet K C f=true:=c.pg
def jE (K:Ç) (C:Á) (f:Str):Prop:=PySem.W.findIn K (.ref C) f=Y W
theorem jE.taker {C:Á} (n:jE K C f):PySem.W.takerIn K C f=Y none:=by
 unfold PySem.W.takerIn;rw[show PySem.W.findIn K (.ref C) f=Y W from n];rfl
structure Meth (K:Ç) (C:Á) (m:Str) (f:Á):Prop where
 at_:PySem.W.findIn K (.ref C) m=Y (Y (.ref f))
 fn:PySem.W.isFn K (.ref f)=Eg
 kp:PySem.W.keepIn K (.ref f)=Eg
section
variable {X:Cx}{gj:List (Á×Obj)}{σ:St}{H:Hp}{s:Â}{a dx:Á}{fs:List (Str×V)}{f:Str}{v:V}{A:Around}{E:À->Â->Prop}
theorem EU {Q:À->Â->Prop} (I:Inv X gj σ H s) (e:H a=Y (.ins C dx fs)) (c:Cls X.K C) (n:jE X.K C f) (l:fs.lookup f=Y v)
  (h:∀ u s',Inv X gj σ H s'->aX v u->Q u s'):wpAny (model X.prog X.w) A (getAttr (.ref a) f b) Q E s:=by
 let⟨mA,BF,r,_,_,_⟩:=sZ I.hok e;let⟨u,hu,ru⟩:=lE.some_of (v:=v) (o:=mA f) (by rw[<- l];show r f);show Q3 I.kIn BF (c.get f) c.hd n hu (JD ru) (h u _ (I.tok _) ru)
theorem vV {Q:À×List À->Â->Prop} (I:Inv X gj σ H s) (e:H a=Y (.ins C dx fs)) (c:Cls X.K C) (k:Meth X.K C m g) (l:fs.lookup m=W)
  (h:Q (.ref g,[.ref a]) s):wpAny (model X.prog X.w) A (getMethod (.ref a) m pl) Q E s:=by
 let⟨mA,BF,r,_,_,_⟩:=sZ I.hok e;have hn:mA m=none:=lE.none_of (by rw[<- l];show r m);show ND I.kIn BF (c.get m) k.at_ k.fn hn h
theorem DZ {Q:Unit->Â->Prop} (I:Inv X gj σ H s) (e:H a=Y (.ins C dx fs)) (c:Cls X.K C) (n:jE X.K C f) (hl:fs.length < 1000) (ry:aX y u)
  (h:∀ s',Inv X gj σ (upd H a (.ins C dx (cD f y fs))) s'->Q () s'):wpAny (model X.prog X.w) A (setAttr (.ref a) f u) Q E s:=by
 let⟨mA,BF,r,wi,_,ho⟩:=sZ I.hok e;have hz:(fs.map (·.1)).length<=sizeLine:=by rw[Ê,ĕ];lia
 show OR I.kIn BF c.sa c.po n.taker c.hd wi hz λ h' O' sb=>h _ ?_;have hd:∃ o,h'.get? dx=Y o:=let ⟨o,_,_,e',_⟩:=O'.ns;⟨o,e'⟩;show I.write (x:=a) (e:=dx) (by rw[e];show True.intro) (.inr ho) (λ b q hb z=>(sb.2 b hb).trans z) hd ?_;show⟨by rw[aG BF.ne];show ho,?_,BF.ne,O'.obj,_,O'.ns,λ g=>?_,λ g hg=>?_⟩
 ·have:=sE f y fs;lia
 ·change lE ((cD f y fs).lookup g) (if g=f then Y u else mA g);rw[rZ]
  by_cases q:g=f
  ·rw[Å q,Å q];show ry
  ·rw[Ä q,Ä q];show r g
 ·by_cases q:g=f
  ·rw[q];show(qY f y fs).1
  ·show(qY f y fs).2 g (wi g λ z=>hg ?_);change(if g=f then Y u else mA g)=W;rw[Ä q];show z
theorem Inv.made (I:Inv X gj σ H s):Inv X gj σ (upd (upd H s.heap.objs.size (.own (s.heap.objs.size+1))) (s.heap.objs.size+1) (.ins C s.heap.objs.size []))
  { s with heap:=(s.heap.push PySem.W.emptyDict).push (PySem.W.instObj C s.heap.objs.size) }:=by
 have e1:(s.heap.push PySem.W.emptyDict).get? s.heap.objs.size=Y PySem.W.emptyDict:=á s.heap rfl;have e2:((s.heap.push PySem.W.emptyDict).push (PySem.W.instObj C s.heap.objs.size)).get? (s.heap.objs.size+1)=Y (PySem.W.instObj C s.heap.objs.size):=by
  have:=á (s.heap.push PySem.W.emptyDict) (o:=PySem.W.instObj C s.heap.objs.size) rfl
  rwa [ą]at this
 have e3:(s.heap.push PySem.W.emptyDict).Ns s.heap.objs.size (λ _=>W):=⟨PySem.W.emptyDict,#[],_,e1,rfl,(λ e he=>absurd he G0),λ _=>rfl⟩;have I1:=I.laid (a:=s.heap.objs.size) (o:=.own (s.heap.objs.size+1)) (h':=s.heap.push PySem.W.emptyDict) (t':=s.toks) (λ b u q=>Ï _ q) (Ñ _) ⟨_,e1⟩;show I1.laid (a:=s.heap.objs.size+1) (o:=.ins C s.heap.objs.size []) (t':=s.toks) (λ b u q=>Ï _ q) (Ō (ą _ _)) ?_;have ne:s.heap.objs.size≠s.heap.objs.size+1:=â (agw _);show⟨by rw[aG ne,a8],à _,ne,e2,λ _=>W,(Heap.Ns1.of_empty e3).at λ o q=>Ï _ q,λ _=>True.intro,λ y hy=>absurd O hy⟩
theorem QB {prog:Ã}{pos:Pos}{s:Â}{Q:À->Â->Prop} (hb:attributeBase e f env (eval e env)=eval e env)
  (h:wpAny (model prog w) A (eval e env) (λ o ah=>wpAny (model prog w) A (getAttr o f Eg) Q E ah) E s):wpAny (model prog w) A (eval (.Attribute e f pos) env) Q E s:=
 Attribute_any_ h (by rw[arm_eval_Attribute,hb])
end
def UC (K:Ç) (ta:TE) (f:Str):TE:=λ σ H Q=>ta σ H λ x H1=>∃ a C dx fs v,x=.ref a/\H1 a=Y (.ins C dx fs)/\Cls K C/\jE K C f/\fs.lookup f=Y v/\Q v H1
def UN (K:Ç) (ta tv:TE) (f:Str):TS:=λ D σ H=>tv σ H λ y H1=>ta σ H1 λ x H2=>∃ a C dx fs,x=.ref a/\H2 a=Y (.ins C dx fs)/\Cls K C/\jE K C f/\fs.length < 1000/\
 D.nx σ (upd H2 a (.ins C dx (cD f y fs)))
section
variable {X:Cx}{o e value:Expr}{f:Str}{pos pos' Cl:Pos}{ta tv:TE}
theorem SJ (he:PE X e ta) (hb:attributeBase e f X.env (eval e X.env)=eval e X.env):PE X (.Attribute e f pos) (UC X.K ta f):=by
 intro gj s σ H Q I h;show QB hb (cK (he gj s σ H _ I h) λ u s1 ⟨x,H1,I1,rx,a,C,dx,fs,v,ex,ea,c,n,l,q⟩=>?_);subst ex;obtain rfl:u=Value.ref a:=rx;show EU I1 ea c n l λ u' s2 I2 ru=>⟨v,H1,I2,ru,q⟩
theorem SF (ha:PE X o ta) (hv:PE X value tv) (hs:swapsWith value (Y (.Attribute o f pos')) pos.line X.env=pure Eh):PS X (.Assign [.Attribute o f pos'] value pos) (UN X.K ta tv f):=by
 intro gj s σ H D I h;show plainObj_wpAny_Assign_Attribute (cK (hv gj s σ H _ I h) λ u s1 ⟨y,H1,I1,ry,q⟩=>cK (ha gj s1 σ H1 _ I1 q) λ ov s2 ⟨x,H2,I2,rx,a,C,dx,fs,ex,ea,c,n,l,q2⟩=>?_) hs;subst ex;obtain rfl:ov=Value.ref a:=rx;show DZ I2 ea c n l ry λ s3 I3=>⟨σ,_,I3,q2⟩
end
section
variable {X:Cx}{gj:List (Á×Obj)}{σ:St}{H:Hp}{s:Â}{A:Around}{E:À->Â->Prop}{Q:À->Â->Prop}{c:À}{b:Bool}
inductive TyOf (K:Ç) (H:Hp):V->À->Prop where
 |non:TyOf K H .non (.type "NoneType")
 |bl (x:Bool):TyOf K H (.bl x) (.type "bool")
 |int (i:Int):TyOf K H (.int i) (.type "int")
 |str (x:Str):TyOf K H (.str x) (.type "str")
 |flt (x:UInt64):TyOf K H (.flt x) (.type "float")
 |lst {a:Á}{xs:List V} (e:H a=Y (.lst xs)):TyOf K H (.ref a) (.type "list")
 |frz {a:Á}{o:Obj}{xs:List V} (e:H a=Y (.frz o (.lst xs))):TyOf K H (.ref a) (.type "list")
 |tup {a:Á}{xs:List V} (e:H a=Y (.tup xs)):TyOf K H (.ref a) (.type "tuple")
 |dK {a:Á}{gn:List (gX×V)} (e:H a=Y (.dK gn)):TyOf K H (.ref a) (.type "dict")
 |dT {a:Á}{gn:List (List gX×V)} (e:H a=Y (.dT gn)):TyOf K H (.ref a) (.type "dict")
 |ins {a C dx:Á}{fs:List (Str×V)} (e:H a=Y (.ins C dx fs)) (cl:Cls K C) (ha:PySem.W.findIn K (.ref C) "__class__" =Y (Y (.builtin "object.__class__")))
   (hn:PySem.W.specialIn K (.builtin "object.__class__") "__get__" =Y (Y (.builtin "getset_descriptor.__get__"))) (htk:PySem.W.takesIn K (.builtin "object.__class__")=Y Eg)
   (hm:PySem.W.mroIn K C (.type "object")=Y Eg):TyOf K H (.ref a) (.ref C)
theorem jU  (I:Inv X gj σ H s) (rx:aX x u) (ty:TyOf X.K H x t) (e:PySem.W.kitOne X.K t c=Y b) (h:∀ tk,Q (.bool b) { s with toks:=tk }) :
  wpAny (model X.prog X.w) A (call (.builtin "isinstance") [u,c]) Q E s:=by
 cases ty with
 |non=>cases(show u=Value.none from rx);show Ď PySem.W.kitx_none I.kIn True.intro e (λ z=>nomatch z) h
 |bl y=>cases(show u=Value.bool y from rx);show Ď PySem.W.kitx_bool I.kIn True.intro e (λ z=>nomatch z) h
 |int i=>let⟨t,q⟩:=(show ∃ t,u=Value.int i t from rx);cases q;show Ď PySem.W.kitx_int I.kIn True.intro e (λ z=>nomatch z) h
 |str y=>let⟨t,q⟩:=(show ∃ t,u=Value.str y t from rx);cases q;show Ď PySem.W.kitx_str I.kIn True.intro e (λ z=>nomatch z) h
 |flt y=>let⟨t,q⟩:=(show ∃ t,u=Value.float y t from rx);cases q;show Ď PySem.W.kitx_float I.kIn True.intro e (λ z=>nomatch z) h
 | @lst a xs ea=>
  cases(show u=Value.ref a from rx);let⟨_,_,n,_,h1⟩:=(show bY X.prog X.w H s.heap a (.lst xs)from I.hok a _ ea);show Ď agh I.kIn ⟨_,h1,O⟩ e (λ z=>nomatch z) h
 | @frz a ob xs ea=>
  cases(show u=Value.ref a from rx);let⟨_,_,_,n,_,h1⟩:=(show bY X.prog X.w H s.heap a (.frz ob (.lst xs))from I.hok a _ ea);show Ď agh I.kIn ⟨_,h1,O⟩ e (λ z=>nomatch z) h
 | @tup a xs ea=>
  cases(show u=Value.ref a from rx);let⟨_,_,_,p⟩:=(show bY X.prog X.w H s.heap a (.tup xs)from I.hok a _ ea);let⟨o,h1,h2,_⟩:=p;show Ď agc I.kIn ⟨o,h1,h2⟩ e (λ z=>nomatch z) h
 | @dK a gn ea=>
  cases(show u=Value.ref a from rx);let⟨_,_,vs,_,p⟩:=(show bY X.prog X.w H s.heap a (.dK gn)from I.hok a _ ea);let⟨o,es,ep,h1,h2,_⟩:=p;show Ď PySem.W.kitx_dict I.kIn ⟨o,h1,h2.1⟩ e (λ z=>nomatch z) h
 | @dT a gn ea=>
  cases(show u=Value.ref a from rx);let⟨_,_,xs,_,o,es,ep,h1,h2,_⟩:=(show bY X.prog X.w H s.heap a (.dT gn)from I.hok a _ ea);show Ď PySem.W.kitx_dict I.kIn ⟨o,h1,h2.1⟩ e (λ z=>nomatch z) h
 | @ins a C dx fs ea cl ha hn Ft hm=>
  cases(show u=Value.ref a from rx);let⟨mA,BF,_⟩:=sZ I.hok ea;let⟨od,J,_⟩:=BF.look;show Ď (PySem.W.kitx_own (cl.get _) cl.hd ha hn Ft hm) I.kIn J e (λ z=>nomatch z) h
end
structure Room (k:Nat) (A:Around):Prop where
 hd:A.handled=W
 dp:A.depth+3 * k+5 < recursionLimit
 un:A.units+16 * k+200 < cLine
theorem Room.mono  (r:Room k A) (h:j<=k):Room j A:=⟨r.hd,by have:=r.dp;lia,by have:=r.un;lia⟩
theorem Room.deeper  (r:Room (k+1) A) (env:Env):Room k (A.deeper env):=
 ⟨r.hd,by have:=r.dp;change A.depth+1+3 * k+5 < _;lia,by have:=r.un;change A.units+3+16 * k+200 < _;lia⟩
theorem EO {A:Around}{C:Á}{us:List À}{kw:List (Str×À)}:(A.under (.builtin "type.__call__" ⟨.ref C::us,kw⟩)).depth=A.depth+1:=by
 first|rfl|simp[Around.under,Code.weight,Code.isCreation,Code.isGuard,Code.isCaller,Code.frames,Code.isFrame,guardIds]
theorem EN {A:Around}{C:Á}{us:List À}{kw:List (Str×À)}:(A.under (.builtin "type.__call__" ⟨.ref C::us,kw⟩)).units=A.units+1:=by
 first|rfl|simp[Around.under,Code.cUnits,Code.frames,Code.isFrame]
theorem Room.make  (r:Room (k+1) A) (C:Á) (us:List À) (kw:List (Str×À)):Room k (A.under (.builtin "type.__call__" ⟨.ref C::us,kw⟩)):=
 ⟨r.hd,by have:=r.dp;rw[EO];lia,by have:=r.un;rw[EN];lia⟩
theorem Room.depth  (r:Room k A):A.depth < recursionLimit:=by have:=r.dp;lia
theorem Room.units  (r:Room k A):A.units+64 < cLine:=by have:=r.un;lia
def cU:TA:=λ _ H Q=>Q [] H
def aR (ta:TE) (tr:TA):TA:=λ σ H Q=>ta σ H λ x H1=>tr σ H1 λ xs H2=>Q (x::xs) H2
section
variable {X:Cx}{e:Expr}{es:List Expr}{te:TE}{t:TA}{pos:Pos}
theorem a9:PA X [] cU:=λ _ _ _ _ H Q I h=>Ŵ ⟨[],H,I,.nil,h⟩
theorem a7 (ha:PE X e te) (hr:PA X es t) (hs:autoParam (starEach (e::es) X.env=(Eh,eval e X.env)::starEach es X.env) _0):PA X (e::es) (aR te t):=by
 intro pos gj s σ H Q I h;rw[hs];change wpAny _ _ (spliced ((Eh,eval e X.env)::backTo pos (starEach es X.env))) _ _ s;show ń (cK (ha gj s σ H _ I h) λ u s1 ⟨x,H1,I1,r1,q1⟩=>?_);show cK (hr pos gj s1 σ H1 _ I1 q1) λ us s2 ⟨xs,H2,I2,r2,q2⟩=>⟨x::xs,H2,I2,.cons r1 r2,q2⟩
def jI (t:TA):TE:=λ σ H Q=>t σ H λ xs H1=>xs.length<=sizeLine/\∀ p,H1 p=W->Q (.ref p) (upd H1 p (.tup xs))
def DQ (t:TA):TE:=λ σ H Q=>t σ H λ xs H1=>xs.length<=sizeLine/\∀ p,H1 p=W->Q (.ref p) (upd H1 p (.lst xs))
theorem aQ {x1} (h:PA X es t):PE X (.Tuple es x1 pos) (jI t):=by
 intro gj s σ H Q I hq;show wpAny_Tuple_spliced (cK (h pos gj s σ H _ I hq) λ us s1 ⟨xs,H1,I1,r,z,q⟩=>⟨by rw[<- r.length];show z,?_⟩);have hf:H1 s1.heap.objs.size=none:=I1.hok.fresh (Ñ _);show⟨.ref s1.heap.objs.size,upd H1 s1.heap.objs.size (.tup xs),I1.laid (t':=s1.toks) (λ b u e=>Ï _ e) (Ñ _) ?_,O,q _ hf⟩;show⟨z,us,r,⟨_,á _ O,O,_,O⟩⟩
theorem bC (h:PA X es t):PE X (.List es pos) (DQ t):=by
 intro gj s σ H Q I hq;show wpAny_List_spliced (cK (h pos gj s σ H _ I hq) λ us s1 ⟨xs,H1,I1,r,z,q⟩=>⟨by rw[<- r.length];show z,?_⟩);have hf:H1 s1.heap.objs.size=none:=I1.hok.fresh (Ñ _);show⟨.ref s1.heap.objs.size,upd H1 s1.heap.objs.size (.lst xs),I1.laid (t':=s1.toks) (λ b u e=>Ï _ e) (Ñ _) ?_,O,q _ hf⟩;show⟨z,us,0,r,á _ O⟩
end
abbrev Sp:=List V->Hp->VK->XK->Prop
abbrev FM:=List Env->Hp->Â->XK->À->Â->Prop
structure Env0 (P:Ã) (w:World) (K:Ç) (mg:Str->Option À) (base:Heap) (A:Around) (outer:List Env) (s:Â) (H:Hp):Prop where
 frames:A.frames=Y outer
 mod:Mod K mg base
 bs:∀ b o,base.get? b=Y o->s.heap.get? b=Y o/\H b=W
 bsz:base.objs.size<=s.heap.objs.size
 funs:s.heap.FunFrames base outer
 frf:∀ b∈kA outer,H b=W
 hok:nP P w H s.heap
 bare:AllBare s.gens
def CE (outer:List Env) (P:Ã) (w:World) (H:Hp) (s:Â) (Q:VK) (u:À) (s':Â):Prop:=
 ∃ v H',s'.os=s.os/\AllBare s'.gens/\Un (kA outer) [] H H' s.heap s'.heap/\nP P w H' s'.heap/\aX v u/\Q v H'
def CR (CX:FM) (outer:List Env) (P:Ã) (w:World) (H:Hp) (s:Â) (Q:VK) (E:XK) (r:Result) (s':Â):Prop:=
 match r with
 |.ok (.ret u)=>CE outer P w H s Q u s'
 |.ok _=>False
 |.error e=>CX outer H s E e s'
structure FnOk (P:Ã) (w:World) (K:Ç) (mg:Str->Option À) (base:Heap) (CX:FM) (k:Nat) (f:Á) (fd:FuncData) (ps:List Str) (sp:Sp):Prop where
 len:∀ vs H Q E,sp vs H Q E->vs.length=ps.length
 run:∀(A:Around) (outer:List Env) (s:Â) (H:Hp) (args:Args) (us:List À) (vs:List V) (Q:VK) (E:XK),Room k A->Env0 P w K mg base A outer s H->BindsTo s fd args (ps.zip us)->bI vs us->sp vs H Q E->
  codeAny (model P w) A (.call (.ref f) args) (CR CX outer P w H s Q E) s
theorem FnOk.imp {P:Ã}{mg:Str->Option À}{CX:FM}{k:Nat}{f:Á}{fd:FuncData}{ps:List Str}{sp Tc:Sp} (F:FnOk P w K mg base CX k f fd ps sp)
  (h:∀ vs H Q E,Tc vs H Q E->sp vs H Q E):FnOk P w K mg base CX k f fd ps Tc:=
 ⟨λ vs H Q E q=>F.len vs H Q E (h _ _ _ _ q),λ A outer s H args us vs Q E hr he hb hv hs=>F.run A outer s H args us vs Q E hr he hb hv (h _ _ _ _ hs)⟩
theorem Env0.make {P:Ã}{mg:Str->Option À}{A:Around}{outer:List Env}{s:Â}{H:Hp} (e:Env0 P w K mg base A outer s H) (C:Á) (us:List À) (kw:List (Str×À)) :
  Env0 P w K mg base (A.under (.builtin "type.__call__" ⟨.ref C::us,kw⟩)) outer s H:=⟨by first|show e.frames|(simpa [Around.under,Code.envs,Code.isFrame,pushEnvs]using e.frames),e.mod,e.bs,e.bsz,e.funs,e.frf,e.hok,e.bare⟩
section
variable {X:Cx}{gj:List (Á×Obj)}{σ:St}{H:Hp}{s s':Â}
theorem Inv.env0 (I:Inv X gj σ H s):Env0 X.prog X.w X.K X.mg X.base X.A X.stack s H:=
 ⟨I.ok.frames,I.ok.mod,I.bs,ý I.ok.bsz I.sz,I.stack,I.stkFree,I.hok,I.bare⟩
theorem Inv.after  (I:Inv X gj σ H s) (h:CE X.stack X.prog X.w H s Q u s'):EP X gj σ Q u s':=by
 let⟨v,H',os,bare,un,hok,r,q⟩:=h;let⟨hh,g,d,t,Xi⟩:=s';obtain rfl:Xi=s.os:=os;show⟨v,H',I.call (h':=hh) (g':=g) (d':=d) (t':=t) (ch:=[]) un hok bare (λ b z=>absurd z G0),r,q⟩
end
def oK (sp:Sp) (qk:List V) (E:XK) (t:TA):TE:=λ σ H Q=>t σ H λ vs H1=>sp (vs++qk) H1 Q E
def FO (C:Á) (m:Str) (sp:Sp) (qk:List V) (E:XK) (ta:TE) (t:TA):TE:=λ σ H Q=>ta σ H λ x H1=>∃ a dx fs,x=.ref a/\H1 a=Y (.ins C dx fs)/\fs.lookup m=W/\
 t σ H1 λ vs H2=>sp (x::(vs++qk)) H2 Q E
def U9 (C:Á) (sp:Sp) (qk:List V) (E:XK) (t:TA):TE:=λ σ H Q=>t σ H λ vs H1=>∀ x dx,H1 x=W->H1 dx=W->dx≠x->
 sp (.ref x::(vs++qk)) (upd (upd H1 dx (.own x)) x (.ins C dx [])) (λ v H2=>v=.non/\Q (.ref x) H2) E
def iF (K:Ç) (fd:FuncData) (ps:List Str) (ds:List À):Prop:=
 ∀(s:Â) (us:List À),K.In s.heap->(us++ds).length=ps.length->BindsTo s fd ⟨us,[]⟩ (ps.zip (us++ds))
theorem iF.all {ps:List Str} (h:∀ us:List À,us.length=ps.length->bindArgs fd ⟨us,[]⟩=pure (ps.zip us)):iF K fd ps []:=λ s us _ hl=>by
 rw[Ģ]at hl ⊢;show .of_eq (h us hl)
def iD (CX:FM) (X:Cx) (E:XK):Prop:=∀(gj:List (Á×Obj)) (σ:St) (H:Hp) (s:Â) (e:À) (s':Â),Inv X gj σ H s->CX X.stack H s E e s'->X.xe e s'
section
variable {X:Cx}{CX:FM}{k:Nat}{f:Á}{fd:FuncData}{ps:List Str}{sp:Sp}{qk:List V}{ds:List À}{E:XK}{x m:Str}{p pos apos:Pos}{e o:Expr}{es:List Expr}{ta:TE}{t:TA}
theorem E2 {σ:St}{us:List À}{vs:List V} (F:FnOk X.prog X.w X.K X.mg X.base CX k f fd ps sp) (hr:Room k X.A) (hb:iF X.K fd ps ds) (hd:bI qk ds) (hx:iD CX X E)
  (I:Inv X gj σ H s) (r:bI vs us) (h:sp (vs++qk) H Q E):wpAny (model X.prog X.w) X.A (call (.ref f) us) (EP X gj σ Q) X.xe s:=by
 have r2:bI (vs++qk) (us++ds):=r.append hd;have hl:(us++ds).length=ps.length:=by rw[<- r2.length];show F.len _ _ _ _ h
 show wpAny_call (ō (F.run X.A X.stack s H ⟨us,[]⟩ (us++ds) (vs++qk) Q E hr I.env0 (hb s us I.kIn hl) r2 h) λ r s' hq=>?_);cases r with
 |error e=>show hx gj σ H s e s' I hq
 |ok fl=>
  cases fl with
  |ret u=>show I.after hq
  |next=>show False.elim hq
  |brk=>show False.elim hq
  |cont=>show False.elim hq
theorem gH (F:FnOk X.prog X.w X.K X.mg X.base CX k f fd ps sp) (hr:Room k X.A) (hg:Gl X x) (hm:X.mg x=Y (.ref f)) (hk:PySem.W.keepIn X.K (.ref f)=Eg) (hb:iF X.K fd ps ds) (hd:bI qk ds) (hx:iD CX X E)
  (ha:PA X (e::es) t) (yp:autoParam ((x==("__debug__":Str))=false) _2) (he:autoParam (starEach (e::es) X.env=(Eh,eval e X.env)::starEach es X.env) _0) (kz:autoParam ((backTo pos (starEach es X.env)).any (·.1)=false) _0) :
  PE X (.Call (.Name x p) (e::es) [] pos) (oK sp qk E t):=by
 intro gj s σ H Q I h;show Ĩ (mX I hg hm ?_ yp);show Ű (h₀:=X.base) I.ok.mod.kin hk (cK (ha pos gj s σ H _ I h) λ us s1 ⟨vs,H1,I1,r,q⟩=>⟨I1.kIn,?_⟩) he kz;show E2 F hr hb hd hx I1 r q
theorem sY {pl:Sem Bool} (he:PE X o ta) (c:Cls X.K C) (hm:Meth X.K C m f) (F:FnOk X.prog X.w X.K X.mg X.base CX k f fd ps sp) (hr:Room k X.A) (hb:iF X.K fd ps ds) (hd:bI qk ds) (hx:iD CX X E) (ha:PA X (e::es) t)
  (vn:autoParam (starEach (e::es) X.env=(Eh,eval e X.env)::starEach es X.env) _0) (kz:autoParam ((backTo pos (starEach es X.env)).any (·.1)=false) _0)
  (ht:autoParam (eval (.Call (.Attribute o m apos) (e::es) [] pos) X.env=(do
   let ov <- eval o X.env
   standAt apos.atName
   let (f,first) <- holding [ov] (getMethod ov m pl)
   callWith pos f first (backTo pos (starEach (e::es) X.env)) (backToKw pos (keywordEach [] X.env)))) _0) :
  PE X (.Call (.Attribute o m apos) (e::es) [] pos) (FO C m sp qk E ta t):=by
 intro gj s σ H Q I h;show PySem.W.methodCall_KW (pl:=pl) (cK (he gj s σ H _ I h) λ u s1 ⟨x,H1,I1,rx,a,dx,fs,ex,ea,l,q⟩=>?_) ht;subst ex;obtain rfl:u=Value.ref a:=rx;show vV I1 ea c hm l ?_;show Ű (first:=[.ref a]) (h₀:=X.base) I.ok.mod.kin hm.kp (cK (ha pos gj s1 σ H1 _ I1 q) λ us s2 ⟨vs,H2,I2,r,q2⟩=>⟨I2.kIn,?_⟩) vn kz;show E2 (us:=.ref a::us) (vs:=.ref a::vs) F hr hb hd hx I2 (.cons O r) q2
theorem uU {pl:Sem Bool} (he:PE X o ta) (c:Cls X.K C) (hm:Meth X.K C m f) (F:FnOk X.prog X.w X.K X.mg X.base CX k f fd ps sp) (hr:Room k X.A) (hb:iF X.K fd ps ds) (hd:bI qk ds) (hx:iD CX X E)
  (ht:autoParam (eval (.Call (.Attribute o m apos) [] [] pos) X.env=(do
   let ov <- eval o X.env
   standAt apos.atName
   let (f,first) <- holding [ov] (getMethod ov m pl)
   callWith pos f first (backTo pos (starEach [] X.env)) (backToKw pos (keywordEach [] X.env)))) _0) :
  PE X (.Call (.Attribute o m apos) [] [] pos) (FO C m sp qk E ta cU):=by
 intro gj s σ H Q I h;show PySem.W.methodCall_KW (pl:=pl) (cK (he gj s σ H _ I h) λ u s1 ⟨x,H1,I1,rx,a,dx,fs,ex,ea,l,q⟩=>?_) ht;subst ex;obtain rfl:u=Value.ref a:=rx;show vV I1 ea c hm l ?_;show PySem.W.callWith_K0 (first:=[.ref a]) I1.kIn hm.kp (E2 (us:=[.ref a]) (vs:=[.ref a]) F hr hb hd hx I1 (.cons O .nil) q)
structure Mk (K:Ç) (C f:Á):Prop where
 makes:PySem.W.makesIn K C=Eg
 init:PySem.W.findIn K (.ref C) "__init__" =Y (Y (.ref f))
 fn:PySem.W.isFn K (.ref f)=Eg
 kp:PySem.W.keepIn K (.ref C)=Eg
theorem LA {σ:St}{us:List À}{vs:List V} (M:Mk X.K C f) (F:FnOk X.prog X.w X.K X.mg X.base CX k f fd ps sp) (hr:Room (k+1) X.A) (hb:iF X.K fd ps ds) (hd:bI qk ds)
  (hx:iD CX X E) (I:Inv X gj σ H s) (r:bI vs us)
  (h:∀ x dx,H x=W->H dx=W->dx≠x->sp (.ref x::(vs++qk)) (upd (upd H dx (.own x)) x (.ins C dx [])) (λ v H2=>v=.non/\Q (.ref x) H2) E) :
  wpAny (model X.prog X.w) X.A (call (.ref C) us) (EP X gj σ Q) X.xe s:=by
 have hq:=h (s.heap.objs.size+1) s.heap.objs.size (I.hok.fresh (Nat.le_succ _)) (I.hok.fresh (Ñ _)) (â (agw _));have I2:=Inv.made (C:=C) I;have r2:bI (V.ref (s.heap.objs.size+1)::(vs++qk)) (Value.ref (s.heap.objs.size+1)::(us++ds)):=.cons rfl (r.append hd);have hl:(Value.ref (s.heap.objs.size+1)::us++ds).length=ps.length:=by
  have e:=r2.length;rw[F.len _ _ _ _ hq]at e;show e.symm
 show wpAny_call (MH (f:=f) I.kIn M.makes M.init (beq_iff_eq.mp M.fn) (ō (F.run _ X.stack _ _ ⟨Value.ref (s.heap.objs.size+1)::us,[]⟩ (Value.ref (s.heap.objs.size+1)::(us++ds)) _ _ E (hr.make C us [])
  (I2.env0.make C us []) (hb _ (Value.ref (s.heap.objs.size+1)::us) I2.kIn hl) r2 hq) λ r s' su=>?_))
 cases r with
 |error e=>show hx gj σ _ _ e s' I2 su
 |ok fl=>
  cases fl with
  |ret u=>
   let⟨v,H',I3,rv,ev,q3⟩:=I2.after su;subst ev;show⟨rv,⟨V.ref (s.heap.objs.size+1),H',I3,O,q3⟩⟩
  |next=>show False.elim su
  |brk=>show False.elim su
  |cont=>show False.elim su
theorem P8 (M:Mk X.K C f) (F:FnOk X.prog X.w X.K X.mg X.base CX k f fd ps sp) (hr:Room (k+1) X.A) (hg:Gl X x) (hm:X.mg x=Y (.ref C)) (hb:iF X.K fd ps ds) (hd:bI qk ds) (hx:iD CX X E)
  (ha:PA X (e::es) t) (yp:autoParam ((x==("__debug__":Str))=false) _2) (he:autoParam (starEach (e::es) X.env=(Eh,eval e X.env)::starEach es X.env) _0) (kz:autoParam ((backTo pos (starEach es X.env)).any (·.1)=false) _0) :
  PE X (.Call (.Name x p) (e::es) [] pos) (U9 C sp qk E t):=by
 intro gj s σ H Q I h;show Ĩ (mX I hg hm ?_ yp);show Ű (h₀:=X.base) I.ok.mod.kin M.kp (cK (ha pos gj s σ H _ I h) λ us s1 ⟨vs,H1,I1,r,q⟩=>⟨I1.kIn,?_⟩) he kz;show LA M F hr hb hd hx I1 r q
end
section
variable {X:Cx}{CX:FM}{k:Nat}{f:Á}{fd:FuncData}{ps ks:List Str}{sp:Sp}{E:XK}{x m:Str}{p pos apos Xj:Pos}{e o:Expr}{es:List Expr}{R':List Keyword}{te ta:TE}{t tk:TA}{nm:Option Str}
variable {g:List À->List À->List À}{gV:List V->List V->List V}
end
structure FnScope (N P:List Str) (sc:Scope):Prop where
 kind:sc.kind=.function:=by rfl
 co:sc.isCoroutine=false:=by rfl
 gen:sc.isGenerator=false:=by rfl
 nd:N.Nodup:=by decide +kernel
 pre:N.take P.length=P:=by rfl
 par:∀ x∈P,sc.names.lookup x=Y .local\/sc.names.lookup x=Y .cell:=by decide +kernel
 nofree:∀ y∈sc.names,y.2≠.free:=by decide +kernel
theorem yK {kindOf:Str->Option NameKind}:∀ {binds:List (Str×À)}{m:Str->Option À},(∀ v,(x,v)∉binds)->bindL kindOf binds m x=m x
 |[],_,_=>rfl
 | (n,v)::r,m,h=>by
  unfold bindL;rw[yK λ w hw=>h w (ø _ hw)]
  split
  ·have:x≠n:=by rintro rfl;show h v ă
   simp[this]
  ·rfl
theorem yM {kindOf:Str->Option NameKind}:∀ {binds:List (Str×À)}{m:Str->Option À},(∀ v,(x,v)∉binds)->bindC kindOf binds m x=m x
 |[],_,_=>rfl
 | (n,v)::r,m,h=>by
  unfold bindC;rw[yM λ w hw=>h w (ø _ hw)]
  split
  ·rfl
  ·have:x≠n:=by rintro rfl;show h v ă
   simp[this]
theorem yL {kindOf:Str->Option NameKind}:∀ {P:List Str}{vs:List À}{i:Nat}{m:Str->Option À},P.Nodup->P[i]?=Y x->vs[i]?=Y v->kindOf x=Y .local->
  bindL kindOf (P.zip vs) m x=Y v
 |[],_,_,_,_,h,_,_=>by simp at h
 |_::_,[],_,_,_,_,h,_=>by simp at h
 |p::P,w::vs,0,m,nd,h1,h2,hk=>by
  simp at h1 h2;subst h1;subst h2;change bindL kindOf ((p,w)::P.zip vs) m p=_;unfold bindL;rw[yK λ v hv=>(ñ.mp nd).1 (Ŋ hv).1,Å hk];simp
 |p::P,w::vs,i+1,m,nd,h1,h2,hk=>by
  change bindL kindOf ((p,w)::P.zip vs) m x=_;unfold bindL;show yL (i:=i) (ñ.mp nd).2 (by simpa using h1) (by simpa using h2) hk
theorem yN {kindOf:Str->Option NameKind}:∀ {P:List Str}{vs:List À}{i:Nat}{m:Str->Option À},P.Nodup->P[i]?=Y x->vs[i]?=Y v->kindOf x≠Y .local->
  bindC kindOf (P.zip vs) m x=Y v
 |[],_,_,_,_,h,_,_=>by simp at h
 |_::_,[],_,_,_,_,h,_=>by simp at h
 |p::P,w::vs,0,m,nd,h1,h2,hk=>by
  simp at h1 h2;subst h1;subst h2;change bindC kindOf ((p,w)::P.zip vs) m p=_;unfold bindC;rw[yM λ v hv=>(ñ.mp nd).1 (Ŋ hv).1,Ä hk];simp
 |p::P,w::vs,i+1,m,nd,h1,h2,hk=>by
  change bindC kindOf ((p,w)::P.zip vs) m x=_;unfold bindC;show yN (i:=i) (ñ.mp nd).2 (by simpa using h1) (by simpa using h2) hk
def start (N:List Str) (vs:List V):St:=vs.map Y++List.replicate (N.length - vs.length) W
def jZ (CX:FM) (P:Ã) (w:World) (K:Ç) (mg:Str->Option À) (base:Heap) (N:List Str) (qual:Str) (scope:Scope) (f:Á) (cd:À) (A:Around) (outer:List Env) (s:Â) (H:Hp) (E:XK):Cx where
 prog:=P
 w:=w
 K:=K
 mg:=mg
 base:=base
 A:=A.deeper (envOfC qual scope s.heap.objs.size f cd)
 N:=N
 s₀:=s
 H₀:=H
 env:=envOfC qual scope s.heap.objs.size f cd
 outer:=outer
 stack:=envOfC qual scope s.heap.objs.size f cd::outer
 ex:=[]
 calm:=Eg
 fn:=λ _=>Eg
 pn:=[]
 xe:=λ e s'=>wpAny (model P w) (A.deeper (envOfC qual scope s.heap.objs.size f cd)) (leaving (envOfC qual scope s.heap.objs.size f cd) e) (λ _ ve=>CX outer H s E e ve) (λ e' ve=>CX outer H s E e' ve) s'
theorem D7 {sc:Scope} (h:sc.names.lookup x=Y .cell):∃ c,(cellsFrom n sc.names []).lookup x=Y c:=by
 have q:=ae8 sc.names n [] (.inl h);show Option.isSome_iff_exists.mp q
theorem xW {CX:FM}{P:Ã}{w:World}{K:Ç}{mg:Str->Option À}{base:Heap}{N ps:List Str}{qual:Str}{scope:Scope}{f:Á}{cd:À}{A:Around}{outer:List Env}{s s1:Â}{H:Hp}{E:XK}{us:List À}{vs:List V}
  (S:FnScope N ps scope) (hd:A.handled=W) (e0:Env0 P w K mg base A outer s H) (hl:vs.length=ps.length) (r:bI vs us)
  (x:InCallC s s.heap.objs.size (bindL (envOfC qual scope s.heap.objs.size f cd).kindOf (ps.zip us) λ _=>W) (cellsFrom (s.heap.objs.size+1) scope.names []) (bindC (envOfC qual scope s.heap.objs.size f cd).kindOf (ps.zip us) λ _=>W) s1) :
  Inv (jZ CX P w K mg base N qual scope f cd A outer s H E) [] (start N vs) H s1:=by
 have kz:ps.length<=N.length:=by have:=congrArg List.length S.pre;rw[ß]at this;lia
 let⟨h1,tk,rfl,hk⟩:=x.done;have yq:∀ b:Á,b∉(jZ CX P w K mg base N qual scope f cd A outer s H E).ex:=λ b z=>absurd (show b∈([]:List Á) from z) G0;show⟨⟨e0.mod,S.kind,O,O,Ñ _,λ y z c h1 h2=>?_,λ y hy=>?_,λ y c _ h=>?_,λ _=>hd,afr e0.frames,.inr ⟨O,O⟩,λ b z=>absurd z (yq b),e0.bs,e0.bsz,λ b _ _=>yq b,λ b z=>absurd z (yq b),e0.funs,e0.frf⟩,
  rfl,e0.bare,Un.kept hk,⟨_,x.toInCall.ns,λ i y v h1 h2 h3=>?_⟩,λ y c h=>⟨_,x.cell y c h⟩,e0.hok.fresh (Ñ _),λ y c h=>?_,λ p hp=>absurd (show p∈([]:List (Á×Obj))from hp) G0,e0.hok.kept hk,?_⟩
 ·show name_of_addr x.apart (ó h1) (ó h2)
 ·have hy:scope.names.lookup y=Y .cell\/scope.names.lookup y=Y .free:=hy;rcases hy with hy|hy
  ·show D7 hy
  ·show absurd O (S.nofree _ (ó hy))
 ·show ĝ (x.above y c (ó h))
 ·have hi:i < vs.length:=by
   unfold start at h2
   by_cases hi:i < vs.length
   ·show hi
   ·rw[Ŏ (by simpa using hi)] at h2;rw[aex] at h2
    split at h2 <;> cases h2
  have ha:vs[i]?=Y v:=by
   unfold start at h2;rw[Į (by simpa using hi),Ø]at h2;cases e:vs[i]? with
   |none=>rw[e]at h2;cases h2
   |some a=>rw[e]at h2;cases h2;rfl
  let⟨u,hu,rv⟩:=r.get ha;have hp:ps[i]?=Y y:=by
   rw[<- S.pre,Ŧ Fn];show h1
  have Ek:ps.Nodup:=by rw[<- S.pre];show S.nd.sublist (agi _ _)
  show⟨u,rv,?_⟩;rcases S.par y (Û hp)with k|k
  ·show .inl ⟨k,yL Ek hp hu k⟩
  ·let⟨c,e⟩:=D7 (n:=s.heap.objs.size+1) k;show .inr ⟨.inl k,c,e,?_⟩;have q:=x.cell y c e;rw[yN Ek hp hu (by change scope.names.lookup y≠_;rw[k];decide)]at q;show q
 ·show e0.hok.fresh (ĝ (x.above y c (ó h)))
 ·unfold start;change _=N.length;rw[Þ,Ê,ŏ];lia
theorem NK {CX:FM}{P:Ã}{w:World}{K:Ç}{mg:Str->Option À}{base:Heap}{k:Nat}{f:Á}{name qual:Str}{params:Arguments}{body:List Stmt}{scope:Scope}{dV kV doc pm gz ct oc:À}{an od:Option Á}
  {ue:Array (Option À)}{N ps:List Str}{sp:Sp} (lk:K.lookup f=Y ⟨oc,od,.func (PySem.W.fnOf name qual params body scope dV kV doc pm an gz ct),ue⟩) (qj:PySem.W.codeIn K gz qual=Eg) (S:FnScope N ps scope)
  (len:∀ vs H Q E,sp vs H Q E->vs.length=ps.length)
  (jl:∀(A:Around) (outer:List Env) (s:Â) (H:Hp) (vs:List V) (Q:VK) (E:XK),Room k (A.deeper (envOfC qual scope s.heap.objs.size f gz))->sp vs H Q E->
   ∃ t,yO (jZ CX P w K mg base N qual scope f gz A outer s H E) body t/\t { nx:=λ _ H'=>Q .non H',rt:=Q } (start N vs) H) :
  FnOk P w K mg base CX (k+1) f (PySem.W.fnOf name qual params body scope dV kV doc pm an gz ct) ps sp:=by
 show⟨len,λ A outer s H args us vs Q E hr e0 hb r kf=>?_⟩;have hl:=len _ _ _ _ kf;have KX:K.In s.heap:=e0.mod.kin.keeps λ b o e=>(e0.bs b o e).1;have ik:s.heap.NoLimit:=e0.mod.nolimit.keeps λ b o e=>(e0.bs b o e).1;have yr:∀ y∈ps.zip us,scope.names.lookup y.1=Y .local\/(scope.names.lookup y.1=Y .cell/\((cellsFrom (s.heap.objs.size+1) scope.names []).lookup y.1).isSome=Eg):=λ⟨n,v⟩ hy=>by
  rcases S.par n (Ŋ hy).1 with q|q
  ·show .inl q
  ·show .inr ⟨q,ae8 _ _ _ (.inl q)⟩
 show afm hr.depth (KX _ _ lk) O S.co S.gen O (PySem.W.codeRec_of KX qj) (hb _ _ _ _ ?_);show wpAny_newFunctionEnv_cells S.kind yr λ env he s1 x=>?_;subst he;show⟨ik.keeps x.toInCall.keep,codeAny_func ?_⟩;let⟨t,ht,hq⟩:=jl A outer s H vs Q E (hr.deeper _) kf;have I:Inv (jZ CX P w K mg base N qual scope f gz A outer s H E) [] (start N vs) H s1:=xW S hr.hd e0 hl r x;show ä (ht [] s1 (start N vs) H _ I hq) (λ fl s' hs=>?_) λ e s' hs=>hs;have fin:∀ {ac:St}{H':Hp}{v:V}{u:À},Inv (jZ CX P w K mg base N qual scope f gz A outer s H E) [] ac H' s'->aX v u->Q v H'->CE outer P w H s Q u s':=
  λ {ac H' v u} J rv q=>⟨v,H',J.os,J.bare,J.base,J.hok,rv,q⟩
 cases fl with
 |ret u=>
  let⟨v,ac,H',J,rv,q⟩:=hs;show fin J rv q
 |next=>
  let⟨ac,H',J,q⟩:=hs;show fin (v:=V.non) (u:=Value.none) J O q
 |brk=>
  let⟨_,_,_,q⟩:=hs;show False.elim q
 |cont=>
  let⟨_,_,_,q⟩:=hs;show False.elim q
section
variable {X:Cx}{x:Str}{p pos:Pos}{e:Expr}{es:List Expr}{t:TA}{id T:String}{r:List V->Hp->VK->Prop}
def RZ (r:List V->Hp->VK->Prop) (t:TA):TE:=λ σ H Q=>t σ H λ vs H1=>r vs H1 Q
theorem bO (hc:eV X (.builtin id) r) (hg:Gl X x) (hm:X.mg x=W) (hv:bootBuiltins x=Y (.builtin id)) (ha:PA X (e::es) t) (hn:autoParam (x ≠ "__name__") _2) (yp:autoParam ((x==("__debug__":Str))=false) _2)
  (he:autoParam (starEach (e::es) X.env=(Eh,eval e X.env)::starEach es X.env) _0) (kz:autoParam ((backTo pos (starEach es X.env)).any (·.1)=false) _0):PE X (.Call (.Name x p) (e::es) [] pos) (RZ r t):=by
 intro gj s σ H Q I h;show Ĩ (kP I hg hm hv ?_ hn yp);show PyProof.Rows.callWith_builtin1 (cK (ha pos gj s σ H _ I h) λ us s1 ⟨vs,H1,I1,r1,q1⟩=>hc gj s1 σ H1 vs us Q I1 r1 q1) he kz
theorem aU (hc:eV X (.type T) r) (hg:Gl X x) (hm:X.mg x=W) (hv:bootBuiltins x=Y (.type T)) (ha:PA X (e::es) t) (hn:autoParam (x ≠ "__name__") _2) (yp:autoParam ((x==("__debug__":Str))=false) _2)
  (he:autoParam (starEach (e::es) X.env=(Eh,eval e X.env)::starEach es X.env) _0) (kz:autoParam ((backTo pos (starEach es X.env)).any (·.1)=false) _0):PE X (.Call (.Name x p) (e::es) [] pos) (RZ r t):=by
 intro gj s σ H Q I h;show Ĩ (kP I hg hm hv ?_ hn yp);show ĳ (cK (ha pos gj s σ H _ I h) λ us s1 ⟨vs,H1,I1,r1,q1⟩=>hc gj s1 σ H1 vs us Q I1 r1 q1) he kz
end
end L2
namespace HT
open PySem PyProof.Rows
section
open PySem.SeqAt
open PySem.AutoSeq1 (wpAny_loadPart')
open PySem.MeetsSeq PySem.MeetsSeq2 PySem.MeetsSeq3
end
section
variable {prog:Ã}{A:Around}{E:À->Â->Prop}{s:Â}
theorem cat_tup {t b:Á}{vs ws:List À}{Q:À->Â->Prop} (ht:IsTup s.heap t vs.toArray) (hb:IsTup s.heap b ws.toArray) (hv:vs≠[])
  (h1:ws=[]->Q (.ref t) s) (h2:ws≠[]->Q (.ref s.heap.objs.size) { s with heap:=s.heap.push { cls:=.type "tuple",data:=.seq (vs++ws).toArray } })
  (hsz:vs.length+ws.length<=sizeLine):wpAny (model prog w) A (binaryOp .Add (.ref t) (.ref b)) Q E s:=by
 let⟨⟨cls,dd,data,sl⟩,ho,hc,n,hd⟩:=id ht;let⟨⟨Mn,Kj,data2,Fu⟩,Co,wn,n2,hd2⟩:=id hb;simp only at hc hd wn hd2;subst hc hd wn hd2;have e:vs.toArray++ws.toArray=(vs++ws).toArray:=by simp
 by_cases hw:ws=[]
 ·show concat_meets ⟨_,ho,O⟩ ⟨_,Co,O⟩ agx seq_tuple_add ae9 aey (aer _ _)
   (tuple_addW1 t b vs.toArray ws.toArray n n2 dd Kj sl Fu (by simpa using hv) (by simp[hw])) ⟨ho,Co,h1 hw⟩
 ·show concat_meets ⟨_,ho,O⟩ ⟨_,Co,O⟩ agx seq_tuple_add ae9 aey (aer _ _)
   (tuple_addW2 t b vs.toArray ws.toArray n n2 dd Kj sl Fu (by simpa using hv) (by simpa using hw) (by rw[Ü,Ü];show hsz)) ⟨ho,Co,?_⟩
  rw[e];show h2 hw
def sIx (n d:Nat):Option Int->Nat
 |none=>d
 |some v=>if v < 0 then(v+(n:Int)).toNat else min v.toNat n
theorem sIx_none (n d:Nat):sIx n d W=d:=rfl
theorem sIx_nat (n d k:Nat):sIx n d (Y (k:Int))=min k n:=by
 change(if (k:Int) < 0 then((k:Int)+(n:Int)).toNat else min (k:Int).toNat n)=min k n;rw[Ä Fn,ı]
theorem S3 (n d:Nat) (hd:d<=n) (o:Option Int):sIx n d o<=n:=by
 cases o with
 |none=>show hd
 |some v=>
  change(if v < 0 then(v+(n:Int)).toNat else min v.toNat n)<=n
  by_cases hv:v < 0
  ·rw[Å hv];lia
  ·rw[Ä hv];show Nat.min_le_right _ _
theorem GX (v:Int) (n d:Nat):(if v < 0 then max (v+(n:Int)) 0 else min v (n:Int))=((sIx n d (Y v):Nat):Int):=by
 change(if v < 0 then max (v+(n:Int)) 0 else min v (n:Int))=(((if v < 0 then(v+(n:Int)).toNat else min v.toNat n):Nat):Int)
 by_cases hv:v < 0
 ·simp only[Å hv];lia
 ·simp only[Ä hv];lia
theorem FF (lo hi:Option Int) (n:Nat):Builtin.Slice.sliceAdjust lo hi 1 (n:Int)=(((sIx n 0 lo:Nat):Int),((sIx n n hi:Nat):Int)):=by
 have h1:¬ ((1:Int) < 0):=by lia
 unfold Builtin.Slice.sliceAdjust;simp only[h1,if_false];show Prod.ext ?_ ?_
 ·cases lo with
  |none=>rfl
  |some v=>show GX v n 0
 ·cases hi with
  |none=>rfl
  |some v=>show GX v n n
theorem E9 (i j:Nat):Builtin.Slice.slicePlaces (i:Int) (j:Int) 1=j - i:=by
 unfold Builtin.Slice.slicePlaces;have h1:(1:Int) > 0:=by lia
 simp only[h1,if_true,Int.ediv_one]
 split <;> lia
theorem uE {v:À}{Q:Option Int->Â->Prop} (p:IsPart v o) (h:Q o s):wpAny (model prog w) A (Builtin.Slice.slicePartIndex v) Q E s:=by
 cases p with
 |none=>show slicePart_none h
 |int i t=>show slicePart_int h
theorem jK {sl:Á}{vl vu:À}{lo hi:Option Int}{Q:Int×Int×Nat->Â->Prop} (hs:s.heap.IsSliceOf sl vl vu .none) (pl:IsPart vl lo) (pu:IsPart vu hi)
  (h:Q (((sIx n 0 lo:Nat):Int),1,sIx n n hi - sIx n 0 lo) s):wpAny (model prog w) A (Builtin.Slice.sliceApplied (.ref sl) (pure (n:Int))) Q E s:=by
 let⟨os,Cp,El,Cq⟩:=id hs;unfold Builtin.Slice.sliceApplied Builtin.Slice.sliceFields;show Æ (Æ (ê Cp Cq (x:=vl) O (Æ (ê Cp Cq (x:=vu) O (Æ (ê Cp Cq (x:=.none) O (Ë ?_)))))));show Æ (slicePart_none ?_);change wpAny _ _ (if ((1:Int)== 0)=Eg then _ else _) _ _ s;rw[Ä FZ];show Æ (uE pl (Æ (uE pu (Æ (Ë ?_)))));change wpAny _ _ (match Builtin.Slice.sliceAdjust lo hi 1 (n:Int)with|(lo,hi)=>pure (lo,(1:Int),Builtin.Slice.slicePlaces lo hi 1)) _ _ s;rw[FF lo hi n];change wpAny _ _ (pure (((sIx n 0 lo:Nat):Int),(1:Int),Builtin.Slice.slicePlaces ((sIx n 0 lo:Nat):Int) ((sIx n n hi:Nat):Int) 1)) _ _ s;rw[E9];show Ë h
theorem LN (xs:Array À) (i k:Nat):((List.range k).filterMap λ(m:Nat)=>xs[((i:Int)+(m:Int) * 1).toNat]?).toArray=((xs.toList.drop i).take k).toArray:=by
 have e:(λ(m:Nat)=>xs[((i:Int)+(m:Int) * 1).toNat]?)=λ m=>xs[i+m]?:=by
  funext m;have:((i:Int)+(m:Int) * 1).toNat=i+m:=by lia
  rw[this]
 rw[e];have:=pick_run xs i k;rw[List.filterMap_map]at this;have e2:((λ x=>xs[x]?) ∘ λ x=>i+x)=λ m=>xs[i+m]?:=rfl;rw[e2]at this;rw[this]
theorem getItem_tuple_cut {t sl:Á}{items:Array À}{vl vu:À}{lo hi:Option Int}{Q:À->Â->Prop} (ht:IsTup s.heap t items) (hs:s.heap.IsSliceOf sl vl vu .none) (pl:IsPart vl lo) (pu:IsPart vu hi)
  (hw:¬ (sIx items.size 0 lo=0/\sIx items.size items.size hi=items.size))
  (h:Q (.ref s.heap.objs.size) { s with heap:=s.heap.push { cls:=.type "tuple",data:=.seq ((items.toList.drop (sIx items.size 0 lo)).take (sIx items.size items.size hi - sIx items.size 0 lo)).toArray } })
  (hsz:items.size<=sizeLine):wpAny (model prog w) A (getItem (.ref t) (.ref sl)) Q E s:=by
 have wo:sizeOk (.seq ((items.toList.drop (sIx items.size 0 lo)).take (sIx items.size items.size hi - sIx items.size 0 lo)).toArray):=by
  change((items.toList.drop (sIx items.size 0 lo)).take (sIx items.size items.size hi - sIx items.size 0 lo)).toArray.size<=sizeLine;rw[Ü,ß,Ÿ,Ŀ];lia
 have hj:sIx items.size items.size hi<=items.size:=S3 _ _ (Ñ _) hi;let⟨os,Cp,El,Cq⟩:=id hs;have Mo:s.TypeIs (.ref sl) "slice" :=⟨os,Cp,El⟩;unfold getItem
 try with_reducible show ü ?_
 first|show Æ (Ë ?_)|skip
 show Æ (wpAny_sequenceKey ht.typeIs FZ ?_);show Æ (Ĵ (name:=Str.ofString "__getitem__") ht.typeIs ţ
  (ē ţ ht.typeIs entry_tuple_getitem ?_ (args_tuple_getitem _ _)))
 change wpAny _ _ (Builtin.Tuple.tupleItemsOf (.ref t) >>= _) _ _ s;show Æ (tupleItemsOf_ ht ?_);show Æ (wpAny_typeOf Mo ?_);rw[Å FZ];show Æ (jK hs pl pu ?_);have Cr:¬ ((((sIx items.size 0 lo:Nat):Int)== 0 && (1:Int)== 1 && (sIx items.size items.size hi - sIx items.size 0 lo)==items.size)=Eg):=by
  intro q;rw[Ĕ,Ĕ]at q;have q1:((sIx items.size 0 lo:Nat):Int)=0:=eq_of_beq q.1.1;have q2:sIx items.size items.size hi - sIx items.size 0 lo=items.size:=eq_of_beq q.2;show hw ⟨Fn,Fn⟩
 change wpAny _ _ (if (((sIx items.size 0 lo:Nat):Int)== 0 && (1:Int)== 1 && (sIx items.size items.size hi - sIx items.size 0 lo)==items.size)=Eg then _ else _) _ _ s;rw[Ä Cr,LN]
 first
  |show Æ (m:=Builtin.Tuple.tupleExact _) (Ğ (Ë ⟨_,O,Ë h⟩) wo)
  |show Æ (m:=Builtin.Tuple.tupleExact _) (Ğ (Æ (Ë (Ë ⟨_,O,Ë h⟩))) wo)
  |show Æ (Æ (m:=Builtin.Tuple.tupleExact _) (Ğ (Ë (Ë ⟨_,O,Ë h⟩)) wo))
  |show Æ (Æ (m:=Builtin.Tuple.tupleExact _) (Ğ (Ë ⟨_,O,Ë h⟩) wo))
end
end HT
namespace L2
open PySem PySem.Spec PyProof.Rows
abbrev TO:=St->Hp->(Option Int->Hp->Prop)->Prop
def PO (X:Cx) (e:Option Expr) (t:TO):Prop:=
 ∀(gj:List (Á×Obj)) (s:Â) (σ:St) (H:Hp) (Q:Option Int->Hp->Prop),Inv X gj σ H s->t σ H Q->
  wpAny (model X.prog X.w) X.A (evalPart e X.env) (λ u s'=>∃ o H',Inv X gj σ H' s'/\IsPart u o/\Q o H') X.xe s
def OO:TO:=λ _ H Q=>Q W H
def U7 (t:TE):TO:=λ σ H Q=>t σ H λ x H1=>∃ i,x=.int i/\Q (Y i) H1
theorem vR :∀ {us:List À},bI (ns.map V.int) us->IntsAre us ns:=by
 induction ns with
 |nil=>intro us r;rw[í]at r;cases r;show .nil
 |cons n ns ih=>
  intro us r;rw[Ù]at r;cases r with
  |cons r1 r2=>
   let⟨t,e⟩:=r1;subst e;show .cons n t (ih r2)
section
variable {X:Cx}{e:Expr}{te:TE}{lo hi:Option Expr}{tl th:TO}{pos p2:Pos}
theorem pC:PO X W OO:=by
 intro gj s σ H Q I h;rw[evalPart_none];show Ë ⟨W,H,I,.none,h⟩
theorem pB (h:PE X e te):PO X (Y e) (U7 te):=by
 intro gj s σ H Q I hw;rw[evalPart_some];show cK (h gj s σ H _ I hw) λ u s1 ⟨x,H1,I1,r1,q1⟩=>?_;let⟨i,rfl,q⟩:=q1;let⟨t,rfl⟩:=r1;show⟨Y i,H1,I1,.int i t,q⟩
def SlR (X:Cx) (r:V->Option Int->Option Int->Hp->VK->Prop):Prop:=
 ∀(gj:List (Á×Obj)) (s:Â) (σ:St) (H:Hp) (x:V) (v vl vu:À) (lo hi:Option Int) (sl:Á) (Q:VK),Inv X gj σ H s->aX x v->s.heap.IsSliceOf sl vl vu .none->IsPart vl lo->IsPart vu hi->r x lo hi H Q->
  ∃ T id,typeLookup (.type T) "__getitem__" =pure (Y (.builtin id))/\s.TypeIs v T/\wpAny (model X.prog X.w) X.A (getItem v (.ref sl)) (EP X gj σ Q) X.xe s
def tSl (r:V->Option Int->Option Int->Hp->VK->Prop) (te:TE) (tl th:TO):TE:=λ σ H Q=>te σ H λ x H1=>tl σ H1 λ l H2=>th σ H2 λ u H3=>r x l u H3 Q
theorem lY  (hr:SlR X r) (he:PE X e te) (hl:PO X lo tl) (hu:PO X hi th):PE X (.Subscript e (.Slice lo hi W p2) pos) (tSl r te tl th):=by
 intro gj s σ H Q I h;show Subscript_ (cK (he gj s σ H _ I h) λ v s1 ⟨x,H1,I1,r1,q1⟩=>?_);show wpAny_Slice (cK (hl gj s1 σ H1 _ I1 q1) λ vl s2 ⟨l,H2,I2,pl,q2⟩=>cK (hu gj s2 σ H2 _ I2 q2) λ vu s3 ⟨u,H3,I3,pu,q3⟩=>?_);rw[evalPart_none];show Ë ?_;have I4:Inv X gj σ H3 { s3 with heap:=s3.heap.push { cls:=.type "slice",data:=.fields #[vl,vu,.none] } }:=I3.kept (t':=s3.toks) λ b ob q=>Ï _ q;let⟨T,id,hT,ht,hg⟩:=hr gj { s3 with heap:=s3.heap.push { cls:=.type "slice",data:=.fields #[vl,vu,.none] } } σ H3 x v vl vu l u s3.heap.objs.size Q I4 r1 (Heap.IsSliceOf.new ..) pl pu q3;change wpAny (model X.prog X.w) X.A (subscriptTail e (.Slice lo hi W p2) v (.ref s3.heap.objs.size)) (EP X gj σ Q) X.xe { s3 with heap:=s3.heap.push { cls:=.type "slice",data:=.fields #[vl,vu,.none] } };show tail_any (ops:=[.ref s3.heap.objs.size,v]) ht hT hg (by with_unfolding_all rfl)
def wA (xs:List V) (lo hi:Option Int):List V:=(xs.drop (HT.sIx xs.length 0 lo)).take (HT.sIx xs.length xs.length hi - HT.sIx xs.length 0 lo)
theorem D5 (xs:List V) (lo hi:Option Int):(wA xs lo hi).length<=xs.length:=by
 unfold wA;rw[ß,Ÿ];lia
def UR (K:Ç):V->Option Int->Option Int->Hp->VK->Prop:=λ x lo hi H Q=>∃ a xs,x=.ref a/\aP K H a xs/\
 ¬ (HT.sIx xs.length 0 lo=0/\HT.sIx xs.length xs.length hi=xs.length)/\∀ p,H p=W->Q (.ref p) (upd H p (.tup (wA xs lo hi)))
theorem L6:SlR X (UR X.K):=by
 intro gj s σ H x v vl vu lo hi sl Q I rx hs pl pu h;let⟨a,xs,rfl,hx,hw,q⟩:=h;cases rx;let⟨its,r,ht,hz⟩:=I.tuple hx;have gr:its.toArray.size=xs.length:=by rw[Ü];show r.length.symm
 show⟨"tuple",_,PyProof.Rows.slot_tuple_getitem.lookup,ht.typeIs,?_⟩;show HT.getItem_tuple_cut ht hs pl pu (by rw[gr];show hw) ?_ (by rw[gr];show hz);rw[gr];show⟨.ref s.heap.objs.size,_,I.laid (t':=s.toks) (o:=.tup (wA xs lo hi)) (λ b ob q=>Ï _ q) (Ñ _) ?_,O,q _ (I.hok.fresh (Ñ _))⟩;show⟨ý (D5 xs lo hi) hz,_,(r.drop (HT.sIx xs.length 0 lo)).take (HT.sIx xs.length xs.length hi - HT.sIx xs.length 0 lo),IsTup.new _ _⟩
def QY (K:Ç):R2:=λ x y H Q=>∃ a b xs ys,x=.ref a/\y=.ref b/\aP K H a xs/\aP K H b ys/\xs≠[]/\xs.length+ys.length<=sizeLine/\
 (ys=[]->Q (.ref a) H)/\(ys≠[]->∀ p,H p=W->Q (.ref p) (upd H p (.tup (xs++ys))))
theorem bI.nil_iff  (r:bI xs us):us=[]↔xs=[]:=by
 cases r with
 |nil=>simp
 |cons _ _=>simp
theorem GB:jG X (binaryOp .Add) (QY X.K):=by
 intro gj s σ H x y v u Q I rx ry h;let⟨a,b,xs,ys,rfl,rfl,ha,hb,hx,hz,q1,q2⟩:=h;cases rx;cases ry;let⟨its,r1,p1,_⟩:=I.tuple ha;let⟨ni,r2,p2,_⟩:=I.tuple hb;show HT.cat_tup p1 p2 (λ z=>hx (r1.nil_iff.mp z)) (λ z=>⟨.ref a,H,I,O,q1 (r2.nil_iff.mp z)⟩) (λ z=>?_) (by rw[<- r1.length,<- r2.length];show hz);show⟨.ref s.heap.objs.size,_,I.laid (t':=s.toks) (o:=.tup (xs++ys)) (λ b ob q=>Ï _ q) (Ñ _) ?_,O,q2 (λ w=>z (r2.nil_iff.mpr w)) _ (I.hok.fresh (Ñ _))⟩;show⟨by rw[Þ];show hz,_,r1.append r2,IsTup.new _ _⟩
end
def MX (n:Nat) (i:Int):Option Nat:=if 0<=i then(if i < n then Y i.toNat else W)else if -(n:Int)<=i then Y (i+n).toNat else W
def OG {ae:Type} (xs:List ae) (i:Int):Option ae:=(MX xs.length i).bind λ j=>xs[j]?
theorem GH  (h:MX n i=Y j):seqIndex? i n=Y j/\j < n/\-(n:Int)<=i/\i < n:=by
 unfold MX at h
 by_cases h0:0<=i
 ·rw[Å h0]at h
  by_cases h1:i < n
  ·rw[Å h1]at h;have e:i.toNat=j:=ç h;show⟨by rw[seqIndex_of h0 h1,e],Fn,Fn,h1⟩
  ·rw[Ä h1]at h;cases h
 ·rw[Ä h0]at h
  by_cases h1 : -(n:Int)<=i
  ·rw[Å h1]at h;have e:(i+n).toNat=j:=ç h;show⟨by rw[seqIndex_neg Fn h1,e],Fn,h1,Fn⟩
  ·rw[Ä h1]at h;cases h
theorem AE {ae:Type}{xs:List ae}{v:ae} (h:OG xs i=Y v):∃ j,seqIndex? i xs.length=Y j/\xs[j]?=Y v/\j < xs.length/\-(xs.length:Int)<=i/\i < xs.length:=by
 unfold OG at h;cases e:MX xs.length i with
 |none=>rw[e]at h;cases h
 |some j=>
  rw[e]at h;let⟨h1,h2,h3,h4⟩:=GH e;show⟨j,h1,h,h2,h3,h4⟩
theorem hU {ae:Type}{xs:List ae}{j:Nat}{v:ae} (h:xs[j]?=Y v):OG xs (j:Int)=Y v:=by
 have hj:j < xs.length:=(Ö.mp h).1;have e:MX xs.length (j:Int)=Y j:=by
  unfold MX;rw[Å Fn,Å Fn];simp
 unfold OG;rw[e];show h
theorem DH {ae:Type} (xs:List ae) (v:ae):OG (xs++[v]) (-1)=Y v:=by
 have hl:(xs++[v]).length=xs.length+1:=by simp
 have e:MX (xs++[v]).length (-1)=Y xs.length:=by
  unfold MX;rw[hl,Ä FZ,Å Fn];congr 1;lia
 unfold OG;rw[e];change(xs++[v])[xs.length]?=Y v;simp
def HF (b:Expr):Prop:=∀ o i,subscripted b Eh o i=operate [o,i] (getItem o i)
def KA (X:Cx) (r:R2):Prop:=
 ∀(value slice:Expr) (gj:List (Á×Obj)) (s:Â) (σ:St) (H:Hp) (x y:V) (v u:À) (Q:VK),Inv X gj σ H s->aX x v->aX y u->r x y H Q->
  subscripted slice Eh v u=operate [v,u] (getItem v u)->wpAny (model X.prog X.w) X.A (subscriptTail value slice v u) (EP X gj σ Q) X.xe s
def VJ (X:Cx) (id:String) (r:V->List V->Hp->VK->Prop):Prop:=
 ∀(gj:List (Á×Obj)) (s:Â) (σ:St) (H:Hp) (x:V) (xs:List V) (v:À) (us:List À) (Q:VK),Inv X gj σ H s->aX x v->bI xs us->r x xs H Q->
  wpAny (model X.prog X.w) X.A (call (.builtin id) (v::us)) (EP X gj σ Q) X.xe s
section
variable {X:Cx}{a b:Expr}{ta tb:TE}{pos:Pos}
theorem KA.or  (h:KA X r) (h':KA X r'):KA X (λ x y H Q=>r x y H Q\/r' x y H Q):=by
 intro value slice gj s σ H x y v u Q I rx ry q hs;rcases q with q|q
 ·show h value slice gj s σ H x y v u Q I rx ry q hs
 ·show h' value slice gj s σ H x y v u Q I rx ry q hs
theorem BS  (hr:KA X r) (ha:PE X a ta) (hb:PE X b tb) (hs:HF b):PE X (.Subscript a b pos) (jJ r ta tb):=by
 intro gj s σ H Q I h;show Subscript_ (TQ ha hb I h λ v u s2 x y H2 I2 rx ry q=>hr a b gj s2 σ H2 x y v u Q I2 rx ry q (hs _ _))
def UV (K:Ç):R2:=λ x y H Q=>∃ p xs i v,x=.ref p/\y=.int i/\bE K H p xs/\OG xs i=Y v/\Q v H
def UT (K:Ç):R2:=λ x y H Q=>∃ p xs i v,x=.ref p/\y=.int i/\aP K H p xs/\OG xs i=Y v/\Q v H
def UU:R2:=λ x y H Q=>∃ z i c,x=.str z/\y=.int i/\z.length<=sizeLine/\OG z.cps.toList i=Y c/\Q (.str ⟨#[c]⟩) H
theorem Q1:KA X (UV X.K):=by
 intro value slice gj s σ H x y v u Q I rx ry h hs;let⟨p,xs,i,z,rfl,rfl,hq,he,q⟩:=h;cases rx;let⟨t,rfl⟩:=ry;let⟨its,r,pl,hz⟩:=I.list hq;let⟨j,h1,h2,h3,h4,h5⟩:=AE he;let⟨w,ew,vo⟩:=r.get h2;have hl:=r.length;have hn:=vL;have fin:EP X gj σ Q w s:=⟨z,H,I,vo,q⟩
 by_cases h0:0<=i
 ·have hj:i.toNat=j:=by
   rw[seqIndex_of h0 h5]at h1;show ç h1
  show item_listR pl.isList h0 Fn (by rw[hj];simpa using ew) fin hs
 ·have hj:(i+(its.toArray.size:Int)).toNat=j:=by
   rw[seqIndex_neg Fn h4]at h1;rw[Ü,<- hl];show ç h1
  show afa (x:=w) pl.isList.typeIs slot_list_getitem.lookup
   (wpAny_getItem_list_neg (Q:=λ r s'=>r=w/\EP X gj σ Q r s') pl.isList Fn (by rw[Ü] <;> lia) Fn (by rw[hj];simpa using ew) ⟨rfl,fin⟩) hs
theorem SW:KA X (UT X.K):=by
 intro value slice gj s σ H x y v u Q I rx ry h hs;let⟨p,xs,i,z,rfl,rfl,hq,he,q⟩:=h;cases rx;let⟨t,rfl⟩:=ry;let⟨its,r,pl,hz⟩:=I.tuple hq;let⟨j,h1,h2,h3,h4,h5⟩:=AE he;let⟨w,ew,vo⟩:=r.get h2;have hl:=r.length;have hn:=vL;have fin:EP X gj σ Q w s:=⟨z,H,I,vo,q⟩;show afa (x:=w) pl.typeIs slot_tuple_getitem.lookup
  (getItem_tuple (j:=j) (Q:=λ r s'=>r=w/\EP X gj σ Q r s') pl Fn Fn (by rw[Ü,<- hl];show h1) (by simpa using ew) ⟨rfl,fin⟩) hs
theorem SX:KA X UU:=by
 intro value slice gj s σ H x y v u Q I rx ry h hs;let⟨z,i,c,rfl,rfl,hz,he,q⟩:=h;let⟨t,rfl⟩:=rx;let⟨t',rfl⟩:=ry;let⟨j,h1,h2,h3,h4,h5⟩:=AE he;have hl:z.cps.toList.length=z.length:=by simp[Str.length]
 rw[hl]at h1 h4 h5;have hn:=vL;show tail_any (typeIs_str s z t) slot_str_getitem.lookup (getItem_str (c:=c) (by
  have e1:decide (i < -(2 ^ 63:Int))=false:=Ĉ Fn;have e2:decide (i ≥ 2 ^ 63)=false:=Ĉ Fn;rw[e1,e2,Bool.or_false]) (by rw[h1];simpa using h2) ⟨.str ⟨#[c]⟩,H,I.tok _,⟨_,O⟩,q⟩) hs
def E4 (K:Ç):R2:=λ x y H Q=>UV K x y H Q\/UT K x y H Q\/UU x y H Q
theorem SY:KA X (E4 X.K):=Q1.or (SW.or SX)
theorem EM (its:List À) (n j:Nat) (u:À):Obj.mapSeq (·.setIfInBounds j u) { cls:=.type "list",data:=.seq its.toArray n }={ cls:=.type "list",data:=.seq (its.set j u).toArray n }:=by
 simp[Obj.mapSeq]
theorem Inv.lst {σ:St}{xs:List V} (I:Inv X gj σ H s) (h:H p=Y (.lst xs)) :
  ∃(its:List À) (n:Nat),bI xs its/\s.heap.get? p=Y { cls:=.type "list",data:=.seq its.toArray n }/\xs.length<=sizeLine:=by
 let⟨z,its,n,r,e⟩:=I.hok p _ h;show⟨its,n,r,e,z⟩
theorem Inv.lstUpd {σ:St}{xs ys:List V}{its its':List À}{n n':Nat}{f:Obj->Obj} (I:Inv X gj σ H s) (h:H p=Y (.lst xs))
  (ho:s.heap.get? p=Y { cls:=.type "list",data:=.seq its.toArray n }) (hf:f { cls:=.type "list",data:=.seq its.toArray n }={ cls:=.type "list",data:=.seq its'.toArray n' }) (r:bI ys its') (hz:ys.length<=sizeLine) (t:Nat) :
  Inv X gj σ (upd H p (.lst ys)) { s with heap:=s.heap.update p f,toks:=t }:=by
 have e:(s.heap.update p f).get? p=Y { cls:=.type "list",data:=.seq its'.toArray n' }:=by
  rw[Ş f ho (by rw[hf] <;> rfl),hf]
 show I.write (x:=p) (e:=p) (by rw[h];trivial) (.inl O) (λ b u hb q=>(Heap.get?_update_other _ _ (Ne.symm hb)).trans q) ⟨_,e⟩ ?_;show⟨hz,its',n',r,e⟩
def BK:V->V->V->Hp->(Hp->Prop)->Prop:=λ o i v H Q=>∃ p xs k j,o=.ref p/\i=.int k/\H p=Y (.lst xs)/\MX xs.length k=Y j/\Q (upd H p (.lst (xs.set j v)))
theorem jM:TV X BK:=by
 intro gj s σ H o i v ov iv u Q I ro ri rv h;let⟨p,xs,k,j,rfl,rfl,hp,hj,q⟩:=h;cases ro;let⟨t,rfl⟩:=ri;let⟨its,n,r,ho,hz⟩:=I.lst hp;let⟨h1,h2,h3,h4⟩:=GH hj;have hl:=r.length;have hn:=vL;have I':Inv X gj σ (upd H p (.lst (xs.set j v))) { s with heap:=s.heap.update p (Obj.mapSeq (·.setIfInBounds j u)) }:=
  I.lstUpd hp ho (EM its n j u) (r.set rv j) (by rw[Š];show hz) s.toks
 by_cases h0:0<=k
 ·have hk:k.toNat=j:=by
   rw[seqIndex_of h0 h4]at h1;show ç h1
  show PySem.W.ki_setAt ho h0 Fn (by rw[Ü,<- hl];show h4) (by rw[hk];show⟨_,I',q⟩)
 ·have hk:(k+(its.toArray.size:Int)).toNat=j:=by
   rw[seqIndex_neg Fn h3]at h1;rw[Ü,<- hl];show ç h1
  show PySem.W.ki_setBack ho Fn (by rw[Ü,<- hl];show h3) Fn (by rw[hk];show⟨_,I',q⟩)
def jW:V->Bool
 |.non=>Eg
 |.bl _=>Eg
 |.int _=>Eg
 |.str _=>Eg
 |_=>Eh
def GS:V->V->Bool
 |.non,.non=>Eg
 |.bl a,.bl b=>a==b
 |.bl a,.int b=>(if a then 1 else 0)==b
 |.int a,.bl b=>a==(if b then 1 else 0)
 |.int a,.int b=>a==b
 |.str a,.str b=>a==b
 |_,_=>Eh
theorem TK {s:Â} (ry:aX y u) (rx:aX x v) (fy:jW y=Eg) (fx:jW x=Eg):SeqAt.EqAt A s u v (GS y x):=by
 cases y with
 |non=>
  cases ry;cases x with
  |non=>cases rx;show ň _
  |bl b=>cases rx;show SeqAt.EqAt.none_bool b
  |int b=>let⟨t,rfl⟩:=rx;show af0 b t
  |str b=>let⟨t,rfl⟩:=rx;show af1 b t
  |_=>show absurd (show Eh=Eg from fx) ã
 |bl a=>
  cases ry;cases x with
  |non=>cases rx;show SeqAt.EqAt.bool_none a
  |bl b=>cases rx;show afs a b
  |int b=>let⟨t,rfl⟩:=rx;show SeqAt.EqAt.bool_int a b t
  |str b=>let⟨t,rfl⟩:=rx;show SeqAt.EqAt.bool_str a b t
  |_=>show absurd (show Eh=Eg from fx) ã
 |int a=>
  let⟨t',rfl⟩:=ry;cases x with
  |non=>cases rx;show afy a t'
  |bl b=>cases rx;show SeqAt.EqAt.int_bool a t' b
  |int b=>let⟨t,rfl⟩:=rx;show ű a t' b t
  |str b=>let⟨t,rfl⟩:=rx;show aga a t' b t
  |_=>show absurd (show Eh=Eg from fx) ã
 |str a=>
  let⟨t',rfl⟩:=ry;cases x with
  |non=>cases rx;show afz a t'
  |bl b=>cases rx;show SeqAt.EqAt.str_bool a t' b
  |int b=>let⟨t,rfl⟩:=rx;show agb a t' b t
  |str b=>let⟨t,rfl⟩:=rx;show SeqAt.EqAt.str_str a t' b t
  |_=>show absurd (show Eh=Eg from fx) ã
 |_=>show absurd (show Eh=Eg from fy) ã
def K9 (x:V) (u:À):Bool:=match u with
 |.none=>GS .non x
 |.bool b=>GS (.bl b) x
 |.int i _=>GS (.int i) x
 |.str z _=>GS (.str z) x
 |_=>Eh
theorem A8  (r:aX y u) (f:jW y=Eg):K9 x u=GS y x:=by
 cases y with
 |non=>cases r;rfl
 |bl b=>cases r;rfl
 |int i=>let⟨t,rfl⟩:=r;rfl
 |str z=>let⟨t,rfl⟩:=r;rfl
 |_=>show absurd (show Eh=Eg from f) ã
theorem AF :∀ {xs:List V}{us:List À},bI xs us->xs.all jW=Eg->us.any (K9 x)=xs.any λ y=>GS y x
 |_,_,.nil,_=>rfl
 |y::xs,u::us,.cons r t,f=>by
  rw[ago,Ĕ]at f;rw[ś,ś,A8 r f.1,AF t f.2]
theorem pO {s:Â} (rx:aX x v) (fx:jW x=Eg):∀ {xs:List V}{us:List À},bI xs us->xs.all jW=Eg->∀ u∈us,SeqAt.EqAt A s u v (K9 x u)
 |_,_,.nil,_=>λ u hu=>by cases hu
 |y::xs,u::us,.cons r t,f=>λ u' hu=>by
  rw[ago,Ĕ]at f;rcases Ò.mp hu with rfl|hu
  ·rw[A8 r f.1];show TK r rx f.1 fx
  ·show pO rx fx t f.2 u' hu
def U1 (x:V) (xs:List V):Bool:=xs.any λ y=>GS y x
def rIn (K:Ç) (neg:Bool):R2:=λ x y H Q=>∃ p xs,y=.ref p/\(bE K H p xs\/aP K H p xs)/\jW x=Eg/\xs.all jW=Eg/\Q (.bl (if neg then !U1 x xs else U1 x xs)) H
theorem IJ:jG X (compareOp .In) (rIn X.K Eh):=by
 intro gj s σ H x y v u Q I rx ry h;let⟨p,xs,rfl,hq,fx,fs,q⟩:=h;cases ry;rcases hq with hq|hq
 ·let⟨its,r,pl,hz⟩:=I.list hq;show SeqAt.in_listAt (K9 x) pl.isList (λ w hw=>pO rx fx r fs w (by simpa using hw)) ⟨.bl _,H,I,O,?_⟩;rw[show its.toArray.any (K9 x)=its.any (K9 x) by simp,AF r fs];show q
 ·let⟨its,r,pl,hz⟩:=I.tuple hq;show SeqAt.in_tupleAt (K9 x) pl (λ w hw=>pO rx fx r fs w (by simpa using hw)) ⟨.bl _,H,I,O,?_⟩;rw[show its.toArray.any (K9 x)=its.any (K9 x) by simp,AF r fs];show q
theorem AC:eV X (.builtin "len") (λ xs H Q=>∃ p ys,xs=[.ref p]/\(bE X.K H p ys\/aP X.K H p ys)/\Q (.int ys.length) H):=by
 intro gj s σ H xs us Q I r h;let⟨p,ys,rfl,hq,q⟩:=h;let⟨u,rfl,rx⟩:=oJ r;cases rx;have hn:=vL;rcases hq with hq|hq
 ·let⟨its,r',pl,hz⟩:=I.list hq;have gr:=r'.length;show Calls.call_len_list pl.isList (by simp only[Ü] <;> lia) ⟨.int ys.length,H,I.tok _,⟨s.toks+1,by rw[Ü,gr]⟩,q⟩
 ·let⟨its,r',pl,hz⟩:=I.tuple hq;have gr:=r'.length;show len_tuple pl (by simp only[Ü] <;> lia) ⟨.int ys.length,H,I.tok _,⟨s.toks+1,by rw[Ü,gr]⟩,q⟩
theorem AB:eV X (.type "list") (λ xs H Q=>∃ p ys,xs=[.ref p]/\(bE X.K H p ys\/aP X.K H p ys)/\∀ l,H l=W->Q (.ref l) (upd H l (.lst ys))):=by
 intro gj s σ H xs us Q I r h;let⟨p,ys,rfl,hq,q⟩:=h;let⟨u,rfl,rx⟩:=oJ r;cases rx;have fin:∀(its:List À),bI ys its->ys.length<=sizeLine->∀(h':Heap) (c':Nat),(∀ b o',s.heap.get? b=Y o'->h'.get? b=Y o')->
   h'.get? s.heap.objs.size=Y { cls:=.type "list",dict:=W,data:=.seq its.toArray c',slots:=#[] }->EP X gj σ Q (.ref s.heap.objs.size) { s with heap:=h' }:=λ its r' hz h' c' kp e=>
  ⟨.ref s.heap.objs.size,_,I.laid (t':=s.toks) kp (Ñ _) (show bY X.prog X.w _ h' _ (.lst ys)from⟨hz,its,c',r',e⟩),rfl,q _ (I.hok.fresh (Ñ _))⟩
 rcases hq with hq|hq
 ·let⟨its,r',pl,hz⟩:=I.list hq;have gr:=r'.length;let⟨o,ho,hc,n,hd⟩:=pl.isList;show call_list_seq p (.inl O) ho hc hd (λ h' c' kp e=>fin its r' hz h' c' kp e) (by simp only[Ü] <;> lia)
 ·let⟨its,r',pl,hz⟩:=I.tuple hq;have gr:=r'.length;let⟨o,ho,hc,n,hd⟩:=pl;show call_list_seq p (.inr O) ho hc hd (λ h' c' kp e=>fin its r' hz h' c' kp e) (by simp only[Ü] <;> lia)
theorem wR:eV X (.type "tuple") (λ xs H Q=>∃ p ys,xs=[.ref p]/\((bE X.K H p ys/\∀ l,H l=W->Q (.ref l) (upd H l (.tup ys)))\/(aP X.K H p ys/\Q (.ref p) H))):=by
 intro gj s σ H xs us Q I r h;let⟨p,ys,rfl,h⟩:=h;let⟨u,rfl,rx⟩:=oJ r;cases rx;rcases h with⟨hq,q⟩|⟨hq,q⟩
 ·let⟨its,r',pl,hz⟩:=I.list hq;have gr:=r'.length;show call_tuple_list pl.isList (λ h' kp=>?_) (by simp only [Ü] <;> lia);have I1:Inv X gj σ H { s with heap:=h' }:=I.kept (t':=s.toks) kp;have I2:Inv X gj σ (upd H h'.objs.size (.tup ys)) { s with heap:=h'.push { cls:=.type "tuple",data:=.seq its.toArray } }:=
   I1.laid (t':=s.toks) (λ b o e=>Ï _ e) (Ñ _) (show bY X.prog X.w _ _ _ (.tup ys)from⟨hz,its,r',IsTup.new _ _⟩)
  show⟨.ref h'.objs.size,_,I2,O,q _ (I1.hok.fresh (Ñ _))⟩
 ·let⟨its,r',pl,hz⟩:=I.tuple hq;show call_tuple_same pl ⟨.ref p,H,I,O,q⟩
def tyV (K:Ç) (T:String) (x:V) (H:Hp):Prop:=match x with
 |.str _=>T="str"
 |.int _=>T="int"
 |.ref p=>(T="list" /\ ∃ xs,bE K H p xs)\/(T="tuple" /\ ∃ o,K.lookup p=Y o/\o.cls=.type "tuple" /\ o.dict=W)\/
   (T="dict" /\ ((∃ gn,H p=Y (.dK gn))\/∃ gn,H p=Y (.dT gn)))\/(T="set" /\ ∃ S n,H p=Y (.set S n))
 |_=>False
theorem KJ {σ:St}{x:V}{v:À} (I:Inv X gj σ H s) (r:aX x v) (ty:tyV X.K T x H) :
  s.TypeIs v T/\∀ a,v=.ref a->∃ ob,s.heap.get? a=Y ob/\ob.dict=none:=by
 cases x with
 |str z=>
  let⟨t,rfl⟩:=r;cases(show T="str" from ty);show⟨typeIs_str s z t,λ _ e=>nomatch e⟩
 |int i=>
  let⟨t,rfl⟩:=r;cases(show T="int" from ty);show⟨Ŝ s i t,λ _ e=>nomatch e⟩
 |ref p=>
  cases r;rcases ty with⟨rfl,xs,hq⟩|⟨rfl,o,hk,hc,hd⟩|⟨rfl,hk⟩|⟨rfl,S,n,hk⟩
  ·let⟨its,_,pl,_⟩:=I.list hq;show⟨pl.isList.typeIs,λ a e=>?_⟩;cases e;let⟨o,n,e,c,hd,_⟩:=pl;show⟨o,e,hd⟩
  ·show⟨⟨o,I.kIn p o hk,hc⟩,λ a e=>?_⟩;cases e;show⟨o,I.kIn _ o hk,hd⟩
  ·have z:∃ o,s.heap.get? p=Y o/\o.ExactDict:=by
    rcases hk with⟨gn,hk⟩|⟨gn,hk⟩
    ·let⟨_,_,_,_,o,_,_,e,ex,_⟩:=I.hok p _ hk;show⟨o,e,ex⟩
    ·let⟨_,_,_,_,o,_,_,e,ex,_⟩:=I.hok p _ hk;show⟨o,e,ex⟩
   let⟨o,e,ex⟩:=z;show⟨⟨o,e,ex.1⟩,λ a e2=>?_⟩;cases e2;show⟨o,e,ex.2.1⟩
  ·let⟨o,_,_,_,e,ex,_⟩:=I.hok p _ hk;show⟨⟨o,e,ex.1⟩,λ a e2=>?_⟩;cases e2;show⟨o,e,ex.2.1⟩
 |_=>show False.elim ty
def UF (K:Ç) (T:String) (r:V->List V->Hp->VK->Prop) (to:TE):TE:=λ σ H Q=>to σ H λ x H1=>tyV K T x H1/\r x [] H1 Q
def tBM (K:Ç) (T:String) (r:V->List V->Hp->VK->Prop) (to:TE) (t:TA):TE:=λ σ H Q=>to σ H λ x H1=>tyV K T x H1/\t σ H1 λ xs H2=>r x xs H2 Q
variable {o e:Expr}{es:List Expr}{to:TE}{t:TA}{name:Str}{apos iq:Pos}{T id:String}{r:V->List V->Hp->VK->Prop}
theorem SL (pa:PlainAttrs T) (slot:Slot T name id) (Cs:typeOf (.builtin id)=pure (.type "method_descriptor")) (hm:VJ X id r) (ho:PE X o to)
  (oq:autoParam (attributeBase o name X.env (eval o X.env)=eval o X.env) _0) (ou:autoParam ((apos.endLine==iq.line)=true) _0):PE X (.Call (.Attribute o name apos) [] [] iq) (UF X.K T r to):=by
 intro gj s σ H Q I h;show wpAny_Call_method0_late oq ou (cK (ho gj s σ H _ I h) λ v s1 ⟨x,H1,I1,r1,ty,q1⟩=>?_);let⟨h1,h2⟩:=KJ I1 r1 ty;show⟨T,id,pa,slot,Cs,h1,h2,Ũ O (PySem.evalArgs_none (hm gj s1 σ H1 x [] v [] Q I1 r1 .nil q1))⟩
theorem V0 (pa:PlainAttrs T) (slot:Slot T name id) (Cs:typeOf (.builtin id)=pure (.type "method_descriptor")) (hm:VJ X id r) (ho:PE X o to) (ha:PA X (e::es) t)
  (oq:autoParam (attributeBase o name X.env (eval o X.env)=eval o X.env) _0)
  (Ct:autoParam (((backTo iq (starEach (e::es) X.env)).all (λ x=>!x.1) && (backToKw iq (keywordEach [] X.env)).all (λ x=>x.1.isSome)
   && decide ((e::es).length+([]:List Keyword).length+(if ([]:List Keyword).isEmpty then 0 else 1) < 30))=true) _0)
  (ou:autoParam ((apos.endLine==iq.line)=true) _0) (hs:autoParam (starEach (e::es) X.env=(Eh,eval e X.env)::starEach es X.env) _0) (ow:autoParam ((backTo iq (starEach es X.env)).any (·.1)=false) _0) :
  PE X (.Call (.Attribute o name apos) (e::es) [] iq) (tBM X.K T r to t):=by
 intro gj s σ H Q I h;show wpAny_Call_method_late oq Ct ou O (cK (ho gj s σ H _ I h) λ v s1 ⟨x,H1,I1,r1,ty,q1⟩=>?_);let⟨h1,h2⟩:=KJ I1 r1 ty;show⟨T,id,pa,slot,Cs,h1,h2,?_⟩;have hA:=ha iq gj s1 σ H1 _ I1 q1;rw[hs]at hA ⊢;show Ũ (by change(Eh || (backTo iq (starEach es X.env)).any (·.1))=Eh;rw[ow] <;> rfl) (ū ?_);show cK hA λ us s2 ⟨vs,H2,I2,r2,q2⟩=>hm gj s2 σ H2 x vs v us Q I2 r1 r2 q2
end
def VL (X:Cx) (id:String) (r:V->List V->Hp->VK->Prop):Prop:=
 ∀(gj:List (Á×Obj)) (s:Â) (σ:St) (H:Hp) (x:V) (xs:List V) (v:À) (us:List À) (Q:VK),Inv X gj σ H s->aX x v->bI xs us->r x xs H Q->
  wpAny (model X.prog X.w) X.A (call (.builtin id) (v::us)) (EP X gj σ Q) X.xe s
theorem um {id:String} (h:VL X id r):VJ X id r:=h
theorem rf {p:Prop} (h:p:=by with_unfolding_all show O):p:=h
theorem bI.one  (h:bI [x] us):∃ u,us=[u]/\aX x u:=oJ h
theorem bI.two  (h:bI [x,y] us):∃ u v,us=[u,v]/\aX x u/\aX y v:=KF h
theorem bI.zero:∀ {us:List À},bI [] us->us=[]
 |_,.nil=>rfl
theorem bI.rep  (h:bI xs us):∀ k:Nat,bI (List.replicate k xs).flatten (List.replicate k us).flatten
 |0=>.nil
 |k+1=>by
  rw[ħ,ħ,œ,œ];show bI.append h (bI.rep h k)
theorem y6 (its:List À):∀(k:Nat) (md:List À),
  List.foldl (λ x1 x2=>x1++x2) md.toArray (List.replicate k its.toArray)=(md++(List.replicate k its).flatten).toArray
 |0,md=>by simp
 |k+1,md=>by
  have e:md.toArray++its.toArray=(md++its).toArray:=by simp
  have e2:(md++its)++(List.replicate k its).flatten=md++(List.replicate (k+1) its).flatten:=by
   rw[ħ,œ,ě]
  rw[<- e2,<- y6 its k (md++its),<- e,ħ,š]
section
variable {X:Cx}{gj:List (Á×Obj)}{σ:St}{H:Hp}{s:Â}{l b:Á}{xs ys zs:List V}
theorem Inv.lset {its its':List À}{f:Array À->Array À} (I:Inv X gj σ H s) (hH:H l=Y (.lst xs))
  (e:s.heap.get? l=Y { cls:=.type "list",data:=.seq its.toArray n }) (hf:f its.toArray=its'.toArray) (hv:bI ys its') (hz:ys.length<=sizeLine) :
  Inv X gj σ (upd H l (.lst ys)) { s with heap:=s.heap.update l (Obj.mapSeq f),toks:=t' }:=by
 have q:=PySem.IsL.update e f;rw[hf]at q;show I.write (x:=l) (e:=l) (by rw[hH];show trivial) (.inl O) (λ b' u hb hu=>(Heap.get?_update_other s.heap (Obj.mapSeq f) (Ne.symm hb)).trans hu) ⟨_,q⟩ ?_;show⟨hz,its',_,hv,q⟩
theorem Inv.lnew  (I:Inv X gj σ H s) (hv:bI ys its) (hz:ys.length<=sizeLine) :
  Inv X gj σ (upd H s.heap.objs.size (.lst ys)) { s with heap:=s.heap.push { cls:=.type "list",data:=.seq its.toArray },toks:=t' }:=
 I.laid (λ _ _ q=>Ï _ q) (Ñ _) ⟨hz,its,0,hv,á _ rfl⟩
theorem Inv.fresh (I:Inv X gj σ H s):H s.heap.objs.size=none:=I.hok.fresh (Ñ _)
theorem Inv.lstM (I:Inv X gj σ H s) (hH:H l=Y (.lst xs)):xs.length<=sizeLine/\∃(its:List À) (n:Nat),bI xs its/\xs.length=its.length/\s.heap.get? l=Y { cls:=.type "list",data:=.seq its.toArray n }:=by
 let⟨z,its,n,r,e⟩:=I.hok l _ hH;show⟨z,its,n,r,r.length,e⟩
theorem ME  (h:n<=sizeLine):Builtin.List.listTooLong n=false:=by
 unfold Builtin.List.listTooLong;show Ĉ Fn
end
section
variable {X:Cx}
def OW:V->List V->Hp->VK->Prop:=λ x vs H Q=>∃ l xs y,x=.ref l/\vs=[y]/\H l=Y (.lst xs)/\xs.length < sizeLine/\Q .non (upd H l (.lst (xs++[y])))
theorem bL:VL X "list.append" OW:=by
 intro gj s σ H x vs v us Q I rx rv h;let⟨l,xs,y,rfl,rfl,hH,hz,q⟩:=h;cases rx;let⟨u,rfl,ru⟩:=rv.one;let⟨z,its,n,r,hl,e⟩:=I.lstM hH;show ģ F.slot_list_append ⟨_,e,O⟩ F.entry_list_append (F.args_list_append_2 _ _) (PySem.list_append l its.toArray n u (by rw[Ü];lia)) ⟨e,?_⟩;show⟨.non,_,I.lset (its':=its++[u]) hH e G0 (r.append (.cons ru .nil)) ?_,O,q⟩;rw[Þ,ö];lia
def OV:V->List V->Hp->VK->Prop:=λ x vs H Q=>∃ l b xs zs,x=.ref l/\vs=[.ref b]/\H l=Y (.lst xs)/\H b=Y (.lst zs)/\xs.length+zs.length<=sizeLine/\Q .non (upd H l (.lst (xs++zs)))
theorem IY:VL X "list.extend" OV:=by
 intro gj s σ H x vs v us Q I rx rv h;let⟨l,b,xs,zs,rfl,rfl,hH,hB,hz,q⟩:=h;cases rx;let⟨u,rfl,ru⟩:=rv.one;cases ru;let⟨z,its,n,r,hl,e⟩:=I.lstM hH;let⟨z2,ni,n2,r2,xw,e2⟩:=I.lstM hB;have hsz:its.toArray.size+ni.toArray.size<=sizeLine:=by rw[Ü,Ü];lia
 have Fv:¬ (!its.toArray.isEmpty && Builtin.List.listTooLong (its.toArray.size+ni.toArray.size))=true:=by
  rw[ME hsz,Bool.and_false];show ã
 show ģ F.slot_list_extend ⟨_,e,O⟩ F.entry_list_extend (F.args_list_extend_2 _ _)
  (AutoSeq1.list_extend_list_list_0 l its.toArray n b ni.toArray n2 Fv (by rw[Ü];lia) Fn) ⟨e,e2,?_⟩
 show⟨.non,_,I.lset (its':=its++ni) hH e G0 (r.append r2) ?_,O,q⟩;rw[Þ];lia
def SC:V->List V->Hp->VK->Prop:=λ x vs H Q=>∃ l xs,x=.ref l/\vs=[]/\H l=Y (.lst xs)/\Q .non (upd H l (.lst []))
theorem vK:VL X "list.clear" SC:=by
 intro gj s σ H x vs v us Q I rx rv h;let⟨l,xs,rfl,rfl,hH,q⟩:=h;cases rx;have yt:=rv.zero;subst yt;let⟨z,its,n,r,hl,e⟩:=I.lstM hH;show ģ F.slot_list_clear ⟨_,e,O⟩ F.entry_list_clear (F.args_list_clear_1 _) (AutoSeq1.list_clear_list_0 l its.toArray n (by rw[Ü];lia)) ⟨e,?_⟩;show⟨.non,_,I.lset (its':=[]) (ys:=[]) hH e O .nil (à _),O,q⟩
def rCat:R2:=λ x y H Q=>∃ l b xs zs,x=.ref l/\y=.ref b/\H l=Y (.lst xs)/\H b=Y (.lst zs)/\xs.length+zs.length<=sizeLine/\∀ p,H p=W->Q (.ref p) (upd H p (.lst (xs++zs)))
theorem M9:jG X (binaryOp .Add) rCat:=by
 intro gj s σ H x y v u Q I rx ry h;let⟨l,b,xs,zs,rfl,rfl,hH,hB,hz,q⟩:=h;cases rx;cases ry;let⟨z,its,n,r,hl,e⟩:=I.lstM hH;let⟨z2,ni,n2,r2,xw,e2⟩:=I.lstM hB;show PySem.P.add_list e e2 ?_ (by rw[Ü,Ü];lia);have ea:its.toArray++ni.toArray=(its++ni).toArray:=by simp
 rw[ea];show⟨.ref _,_,I.lnew (t':=s.toks) (r.append r2) (by rw[Þ];lia),O,q _ I.fresh⟩
theorem GE {ae:Type} (xs:List ae) (k:Nat):(List.replicate k xs).flatten.length=k * xs.length:=by
 induction k with
 |zero=>simp
 |succ k ih=>rw[ħ,œ,Þ,ih,Nat.succ_mul,Nat.add_comm]
end
section
variable {prog:Ã}{A:Around}{E:À->Â->Prop}{s:Â}
end
section
variable {X:Cx}
end
section
variable {ba:Type}[DecidableEq ba]
def eB (gn:List (ba×V)) (k:ba):Option V:=(gn.find? λ kv=>decide (kv.1=k)).map (·.2)
def gR (gn:List (ba×V)) (k:ba) (v:V):List (ba×V):=
 if (gn.any λ kv=>decide (kv.1=k))=Eg then gn.map (λ kv=>if kv.1=k then(kv.1,v)else kv)else gn++[(k,v)]
theorem eE {k:ba} (e:p.1=k):eB (p::r) k=Y p.2:=by simp[eB,ŋ,e]
theorem dR {k:ba} (e:¬ p.1=k):eB (p::r) k=eB r k:=by simp[eB,ŋ,e]
theorem jH (k:ba):∀ gn:List (ba×V),(gn.any λ kv=>decide (kv.1=k))=(eB gn k).isSome
 |[]=>rfl
 |p::r=>by
  rw[ś]
  by_cases e:p.1=k
  ·simp only[eE e,ð e,Bool.true_or,Option.isSome_some]
  ·rw[dR e,Ĉ e,ag6];show jH k r
theorem AM (k j:ba) (y:V):∀ gn:List (ba×V),eB (gn.map λ kv=>if kv.1=k then(kv.1,y)else kv) j=(eB gn j).map λ x=>if j=k then y else x
 |[]=>rfl
 |p::r=>by
  have ih:=AM k j y r;rw[Ù]
  by_cases h:p.1=k
  ·rw[Å h]
   by_cases e:p.1=j
   ·rw[eE (p:=(p.1,y)) e,eE e,Ŗ,Å (e.symm.trans h)]
   ·rw[dR (p:=(p.1,y)) e,dR e,ih]
  ·rw[Ä h]
   by_cases e:p.1=j
   ·rw[eE (p:=p) e,eE e,Ŗ,Ä (λ z=>h (e.trans z))]
   ·rw[dR (p:=p) e,dR e,ih]
theorem wV (k j:ba) (y:V):∀ gn:List (ba×V),eB gn k=W->eB (gn++[(k,y)]) j=if j=k then Y y else eB gn j
 |[],_=>by
  by_cases e:k=j
  ·rw[Å e.symm];show eE (p:=(k,y)) e
  ·rw[Ä (λ z=>e z.symm)];show dR (p:=(k,y)) e
 |p::r,hn=>by
  rw[ĩ];have hk:¬ p.1=k:=λ z=>by rw[eE z]at hn;cases hn
  rw[dR hk]at hn;have ih:=wV k j y r hn
  by_cases e:p.1=j
  ·rw[eE e,eE e,Ä (λ z=>hk (e.trans z))]
  ·rw[dR e,dR e,ih]
theorem KG (gn:List (ba×V)) (k j:ba) (y:V):eB (gR gn k y) j=if j=k then Y y else eB gn j:=by
 unfold gR
 by_cases a:(gn.any λ kv=>decide (kv.1=k))=Eg
 ·rw[Å a,AM];rw[jH]at a
  by_cases e:j=k
  ·let⟨x,hx⟩:=Option.isSome_iff_exists.mp a;rw[Å e,e,hx,Ŗ,Å rfl]
  ·rw[Ä e];cases eB gn j with
   |none=>rfl
   |some x=>rw[Ŗ,Ä e]
 ·rw[Ä a];show wV k j y gn ?_;rw[jH]at a;cases q:eB gn k with
  |none=>rfl
  |some x=>rw[q]at a;show(a O).elim
theorem gA (gn:List (ba×V)) (k:ba) (v:V):(gR gn k v).length<=gn.length+1:=by
 unfold gR
 split
 ·rw[Ê];lia
 ·rw[Þ,Ý,List.length_nil];lia
theorem uQ {k:ba} (v:V) (h:eB gn k=W):gR gn k v=gn++[(k,v)]:=by
 unfold gR;rw[jH,h];show Ä FZ
theorem lE.isSome_eq  (r:lE o u):o.isSome=u.isSome:=by
 cases o with
 |none=>cases u with
  |none=>rfl
  |some _=>show(show False from r).elim
 |some _=>cases u with
  |none=>show(show False from r).elim
  |some _=>rfl
theorem lE.getD  (r:lE o u) (rd:aX d d'):aX (o.getD d) (u.getD d'):=by
 cases o with
 |none=>cases u with
  |none=>show rd
  |some _=>show(show False from r).elim
 |some _=>cases u with
  |none=>show(show False from r).elim
  |some _=>show r
theorem KV.val  (r:KV gn vs) (k:ba):lE (eB gn k) (valueAt vs k):=by
 unfold KV at r
 induction r with
 |nil=>show True.intro
 | @cons p q ps qs h t ih=>
  let⟨h1,h2⟩:=h
  by_cases e:p.1=k
  ·have e':q.1=k:=h1.symm.trans e;have b:valueAt (q::qs) k=Y q.2:=by simp[valueAt,ŋ,e']
   rw[eE e,b];show h2
  ·have e':¬ q.1=k:=λ z=>e (h1.trans z);have b:valueAt (q::qs) k=valueAt qs k:=by simp[valueAt,ŋ,e']
   rw[dR e,b];show ih
theorem KV.any  (r:KV gn vs) (k:ba):(gn.any λ kv=>decide (kv.1=k))=vs.any λ kv=>decide (kv.1=k):=by
 unfold KV at r
 induction r with
 |nil=>rfl
 |cons h t ih=>rw[ś,ś,ih,h.1]
theorem KV.repl  (r:KV gn vs) (k:ba) (ry:aX y u) :
  KV (gn.map λ kv=>if kv.1=k then(kv.1,y)else kv) (vs.map λ kv=>if kv.1=k then(kv.1,u)else kv):=by
 unfold KV at r ⊢
 induction r with
 |nil=>show .nil
 | @cons p q ps qs h t ih=>
  rw[Ù,Ù];show .cons ?_ ih;let⟨h1,h2⟩:=h
  by_cases e:p.1=k
  ·rw[Å e,Å (h1.symm.trans e)];show⟨h1,ry⟩
  ·rw[Ä e,Ä (λ z=>e (h1.trans z))];show⟨h1,h2⟩
theorem KV.put  (r:KV gn vs) (k:ba) (ry:aX y u):KV (gR gn k y) (stored vs k u):=by
 unfold gR stored;rw[r.any k]
 by_cases e:(vs.any λ kv=>decide (kv.1=k))=Eg
 ·rw[Å e,Å e];show r.repl k ry
 ·rw[Ä e,Ä e];show Paired.snoc r ⟨O,ry⟩
theorem KV.length {vs:List (ba×À)} (r:KV gn vs):gn.length=vs.length:=î r
end
theorem MV {P:Ã} (r:aX (kV k) u):(eO P w).is k u=true:=by
 cases k with
 |inl i=>let⟨t,e⟩:=(show ∃ t,u=Value.int i t from r);subst e;show CH P w i t
 |inr z=>cases z with
  |some x=>let⟨t,e⟩:=(show ∃ t,u=Value.str x t from r);subst e;show CG P w x t
  |none=>obtain rfl:=(show u=Value.none from r);rfl
theorem xU {P:Ã}:∀ {ks:List gX}{us:List À},bI (ks.map kV) us->ItemsAre (eO P w) ks us
 |[],_,r=>by rw[í]at r;cases r;show .nil
 |k::ks,_,r=>by
  rw[Ù]at r;cases r with
  |cons h t=>show .cons (MV h) (xU t)
abbrev KT (H:Hp):List (List gX×V)->List (List gX×Á×À)->Prop:=Paired λ p q=>p.1=q.1/\H q.2.1=Y (.tup (p.1.map kV))/\aX p.2 q.2.2
theorem KT.val {H:Hp}{gn:List (List gX×V)}{xs:List (List gX×Á×À)} (r:KT H gn xs) (k:List gX):lE (eB gn k) ((atKey xs k).map (·.2)):=by
 induction r with
 |nil=>show True.intro
 | @cons p q ps qs h t ih=>
  let⟨h1,_,h2⟩:=h
  by_cases e:p.1=k
  ·have e':q.1=k:=h1.symm.trans e;have b:atKey (q::qs) k=Y q.2:=by simp[atKey,ŋ,e']
   rw[eE e,b];show h2
  ·have e':¬ q.1=k:=λ z=>e (h1.trans z);have b:atKey (q::qs) k=atKey qs k:=by simp[atKey,ŋ,e']
   rw[dR e,b];show ih
theorem KT.repl  (r:KT H gn xs) (k:List gX) (ry:aX y u) :
  KT H (gn.map λ kv=>if kv.1=k then(kv.1,y)else kv) (xs.map (putAt k u)):=by
 induction r with
 |nil=>show .nil
 | @cons p q ps qs h t ih=>
  rw[Ù,Ù];show .cons ?_ ih;let⟨h1,h2,h3⟩:=h;unfold putAt
  by_cases e:p.1=k
  ·rw[Å e,Å (h1.symm.trans e)];show⟨h1,h2,ry⟩
  ·rw[Ä e,Ä (λ z=>e (h1.trans z))];show⟨h1,h2,h3⟩
theorem KT.put  (r:KT H gn xs) (k:List gX) (hb:H b=Y (.tup (k.map kV))) (ry:aX y u) :
  KT H (gR gn k y) (storedH xs k b u):=by
 have e:(gn.any λ kv=>decide (kv.1=k))=(atKey xs k).isSome:=by
  rw[jH,(r.val k).isSome_eq,Ŕ]
 unfold gR storedH;rw[e]
 by_cases q:(atKey xs k).isSome=Eg
 ·rw[Å q,Å q];show r.repl k ry
 ·rw[Ä q,Ä q];show Paired.snoc r ⟨O,hb,ry⟩
theorem KT.keeps  (r:KT H gn xs) (ht:∀ b ys,H b=Y (.tup ys)->H' b=Y (.tup ys)):KT H' gn xs:=
 ë r λ _ _ z=>⟨z.1,ht _ _ z.2.1,z.2.2⟩
section
variable {H:Hp}{h:Heap}{a:Á}
theorem QO  (ok:nP P w H h) (e:Rd H a u):bY P w H h a u:=e.ok ok
theorem NP  (ok:nP P w H h) (e:Rd H a (.dK gn)):gn.length<=sizeLine/\(a==sysModules)=Eh/\∃ vs,KV gn vs/\h.DictOf (eO P w) a vs:=
 show bY P w H h a (.dK gn)from QO ok e
theorem RD  (ok:nP P w H h) (e:H a=Y (.dK gn)):gn.length<=sizeLine/\(a==sysModules)=Eh/\∃ vs,KV gn vs/\h.DictOf (eO P w) a vs:=NP ok (.inl e)
theorem ES  (ok:nP P w H h) (e:H a=Y (.tup (ks.map kV))):(tupleKind (eO P w)).is h ks a:=by
 let⟨_,its,r,o,h1,h2,n,h3⟩:=(show bY P w H h a (.tup (ks.map kV))from ok a _ e);show⟨o,its.toArray,n,h1,h2,h3,by simpa using xU r⟩
theorem NO  (ok:nP P w H h) (e:Rd H a (.dT gn)):gn.length<=sizeLine/\(a==sysModules)=Eh/\
  ∃ xs,KT H gn xs/\h.DictOfH (tupleKind (eO P w)) a xs:=by
 let⟨z,y,xs,r,o,es,ep,h1,h2,h3,h4,h5⟩:=(show bY P w H h a (.dT gn) from QO ok e);show⟨z,y,xs,r,o,es,ep,h1,h2,h3,h4,λ x hx=>?_,h5⟩;have all:∀ {l:List (List gX×V)}{m:List (List gX×Á×À)},KT H l m->∀ x∈m,(tupleKind (eO P w)).is h x.1 x.2.1:=by
  intro l m q
  induction q with
  |nil=>intro x hx;show nomatch hx
  | @cons p q ps qs hq t ih=>
   intro x hx;rcases Ò.mp hx with e|hx
   ·subst e;show ES ok (by rw[<- hq.1];show hq.2.1)
   ·show ih x hx
 show all r x hx
theorem VD  (ok:nP P w H h) (e:H a=Y (.dT gn)):gn.length<=sizeLine/\(a==sysModules)=Eh/\
  ∃ xs,KT H gn xs/\h.DictOfH (tupleKind (eO P w)) a xs:=NO ok (.inl e)
end
def FL (H:Hp) (a:Á) (y:V) (r:Option V):Prop:=
 (∃ gn k,Rd H a (.dK gn)/\y=kV k/\r=eB gn k)\/∃ gn k b,Rd H a (.dT gn)/\y=.ref b/\H b=Y (.tup (k.map kV))/\r=eB gn k
def OD (H:Hp) (a:Á) (y v:V) (H':Hp):Prop:=
 (∃ gn k,H a=Y (.dK gn)/\y=kV k/\gn.length < sizeLine/\H'=upd H a (.dK (gR gn k v)))\/
 ∃ gn k b,H a=Y (.dT gn)/\y=.ref b/\H b=Y (.tup (k.map kV))/\gn.length < sizeLine/\H'=upd H a (.dT (gR gn k v))
theorem FL.k {k:gX} (e:H a=Y (.dK gn)):FL H a (kV k) (eB gn k):=.inl ⟨gn,k,.inl e,rfl,rfl⟩
theorem OD.k {k:gX} (e:H a=Y (.dK gn)) (hl:gn.length < sizeLine):OD H a (kV k) v (upd H a (.dK (gR gn k v))):=.inl ⟨gn,k,e,rfl,hl,rfl⟩
section
variable {X:Cx}{gj:List (Á×Obj)}{σ:St}{H:Hp}{s:Â}{a:Á}{y v:V}{u r:À}{o:Option V}{A:Around}{E:À->Â->Prop}
theorem Inv.big (I:Inv X gj σ H s):sysModules < s.heap.objs.size:=by
 have h:mainGlobals < s.heap.objs.size:=(I.mod.glob.keeps I.bk).lt;show Nat.lt_trans FZ h
theorem n5  (I:Inv X gj σ H s) (mu:iI (H a)) (hs:Heap.SameBut a s.heap h') (he:∃ q,h'.get? a=Y q) (new:bY X.prog X.w (upd H a ob) h' a ob) :
  Inv X gj σ (upd H a ob) { s with heap:=h',toks:=t' }:=
 I.write (x:=a) (e:=a) mu (.inl rfl) (λ b q hb z=>(hs.2 b hb).trans z) he new
theorem TL {P:Ã}{vs:List (gX×À)} (z:gn.length<=sizeLine) (hd:(a==sysModules)=Eh) (rel:KV gn vs) (dd:h'.DictOf (eO P w) a vs) :
  bY P w H' h' a (.dK gn):=⟨z,hd,vs,rel,dd⟩
theorem JL {Q:Unit->Â->Prop} (hu:A.units+1 < cLine) (I:Inv X gj σ H s) (g:OD H a y v H') (ry:aX y u) (rv:aX v r) (h:∀ s',Inv X gj σ H' s'->Q () s') :
  wpAny (model X.prog X.w) A (setItem (.ref a) u r) Q E s:=by
 rcases g with⟨gn,k,e,ey,l,eH⟩|⟨gn,k,b,e,ey,eb,l,eH⟩
 ·subst ey eH;let⟨z,hd,vs,rel,dd⟩:=RD I.hok e;have hz:vs.length<=sizeLine:=by rw[<- rel.length];show z
  have hl:(gR gn k v).length<=sizeLine:=by have:=gA gn k v;lia
  show wpAny_setItem_pairs (hsz:=hz) (MV ry) dd λ h' xx hs=>h _ ?_;have he:∃ q,h'.get? a=Y q:=let ⟨q,_,_,hq,_⟩:=xx;⟨q,hq⟩;show n5 I (by rw[e];show True.intro) hs he (TL hl hd (rel.put k rv) xx)
 ·subst ey eH;cases (show u=Value.ref b from ry);let⟨z,hd,xs,rel,dd⟩:=VD I.hok e;have hz:xs.length<=sizeLine:=by rw[<- î rel];show z
  have hl:(gR gn k v).length<=sizeLine:=by have:=gA gn k v;lia
  show wpAny_setItem_heap (hsz:=hz) (tupleKind_room_in1 hu) (ES I.hok eb) dd λ h' xx hs=>h _ ?_;let⟨q,es,ep,hq,h2,h3,h4,_,h5⟩:=xx;show n5 I (by rw[e];show True.intro) hs ⟨q,hq⟩ ⟨hl,hd,_,(rel.put k eb rv).keeps λ c ys ec=>?_,q,es,ep,hq,h2,h3,h4,h5⟩;rw[aG (R0 ec e (λ z=>nomatch z))];show ec
end
section
variable {X:Cx}{gj:List (Á×Obj)}{σ:St}{H:Hp}{s:Â}{a:Á}{gn:List (gX×V)}{k:gX}{u:À}{A:Around}{E:À->Â->Prop}
end
def UO (td ty tv:TE):TS:=λ D σ H=>tv σ H λ v H1=>td σ H1 λ x H2=>ty σ H2 λ y H3=>∃ a H4,x=.ref a/\OD H3 a y v H4/\D.nx σ H4
section
variable {X:Cx}{o i e value:Expr}{pos pos' Cl:Pos}{td ty tv:TE}
theorem P0 (hu:X.A.units+1 < cLine) (ho:PE X o td) (hi:PE X i ty) (hv:PE X value tv) (hs:swapsWith value (Y (.Subscript o i pos')) pos.line X.env=pure Eh) :
  PS X (.Assign [.Subscript o i pos'] value pos) (UO td ty tv):=by
 intro gj s σ H D I h;show wpAny_Assign_Subscript (cK (hv gj s σ H _ I h) λ r s1 ⟨v,H1,I1,rv,q1⟩=>cK (ho gj s1 σ H1 _ I1 q1) λ u s2 ⟨x,H2,I2,rx,q2⟩=>cK (hi gj s2 σ H2 _ I2 q2) λ iv s3 ⟨y,H3,I3,ry,a,H4,ex,g,q3⟩=>?_) hs;subst ex;obtain rfl:u=Value.ref a:=rx;show JL hu I3 g ry rv λ s4 I4=>⟨σ,H4,I4,q3⟩
end
theorem vX {P:Ã} (h:Heap) (hb:sysModules < h.objs.size):bY P w H (h.push { cls:=.type "dict",data:=.dict #[] }) h.objs.size (.dK []):=
 ⟨à _,beq_eq_false_iff_ne.mpr (Ne.symm (â hb)),[],.nil,Heap.DictOf.new h⟩
def RU:TE:=λ _ H Q=>∀ p,H p=W->Q (.ref p) (upd H p (.dK []))
section
variable {X:Cx}{pos:Pos}
theorem BT:PE X (.Dict [] [] pos) RU:=λ gj s σ H Q I h=>
 wpAny_Dict_empty ⟨.ref s.heap.objs.size,_,I.laid (a:=s.heap.objs.size) (o:=.dK []) (t':=s.toks) (λ _ _ q=>Ï _ q) (Ñ _) (vX s.heap I.big),rfl,h _ (I.hok.fresh (Ñ _))⟩
end
def KO:List (TE×TE)->St->Hp->(List (V×V)->Hp->Prop)->Prop
 |[],_,H,Q=>Q [] H
 |(tk,tv)::r,σ,H,Q=>tk σ H λ x H1=>tv σ H1 λ y H2=>KO r σ H2 λ ps H3=>Q ((x,y)::ps) H3
abbrev VV:List (V×V)->List (À×À)->Prop:=Paired λ p q=>aX p.1 q.1/\aX p.2 q.2
def PPs (X:Cx) (pos:Pos) (keys:List (Option Expr)) (values:List Expr) (Kk:List (TE×TE)):Prop:=
 ∀(gj:List (Á×Obj)) (s:Â) (σ:St) (H:Hp) (Q:List (V×V)->Hp->Prop),Inv X gj σ H s->KO Kk σ H Q->
  wpAny (model X.prog X.w) X.A (evalPairs (pairTrees keys values X.env pos)) (λ vs s'=>∃ ps H',Inv X gj σ H' s'/\VV ps vs/\Q ps H') X.xe s
theorem P2 :PPs X pos [] [] []:=λ gj s σ H Q I h=>pairTrees_nil_walk ⟨[],H,I,.nil,h⟩
theorem LK  (hk:PE X k tk) (hv:PE X v tv) (hr:PPs X pos ks vs Kk) :
  PPs X pos (Y k::ks) (v::vs) ((tk,tv)::Kk):=λ gj s σ H Q I h=>
 pairTrees_cons_walk (cK (hk gj s σ H _ I h) λ u s1 ⟨x,H1,I1,rx,q1⟩=>cK (hv gj s1 σ H1 _ I1 q1) λ w2 s2 ⟨y,H2,I2,ry,q2⟩=>
  cK (hr gj s2 σ H2 _ I2 q2) λ ws s3 ⟨ps,H3,I3,rel,q3⟩=>⟨(x,y)::ps,H3,I3,.cons ⟨rx,ry⟩ rel,q3⟩)
structure M2 (X:Cx) (o:Expr) (m:Str) (apos:Pos) (e f:Expr) (iq:Pos):Prop where
 base:attributeBase o m X.env (eval o X.env)=eval o X.env
 few:((backTo iq (starEach [e,f] X.env)).all (λ x=>!x.1) && (backToKw iq (keywordEach [] X.env)).all (λ x=>x.1.isSome)
  && decide (([e,f]:List Expr).length+([]:List Keyword).length+(if ([]:List Keyword).isEmpty then 0 else 1) < 30))=Eg
 line:(apos.endLine==iq.line)=Eg
 trees:backTo iq (starEach [e,f] X.env)=[(Eh,eval e X.env),(Eh,eval f X.env)]
def IsD (H:Hp) (a:Á):Prop:=(∃ gn,Rd H a (.dK gn))\/∃ gn,Rd H a (.dT gn)
theorem SZ {σ:St}{a:Á} (I:Inv X gj σ H s) (d:IsD H a) :
  s.TypeIs (.ref a) "dict" /\ (∀ b,Value.ref a=.ref b->∃ ob,s.heap.get? b=Y ob/\ob.dict=W)/\(a==sysModules)=false:=by
 rcases d with⟨gn,e⟩|⟨gn,e⟩
 ·let⟨_,hd,vs,_,dd⟩:=NP I.hok e;show⟨dd.typeIs,λ b q=>?_,hd⟩;cases q;let⟨ob,_,_,h1,h2,_⟩:=dd;show⟨ob,h1,h2.2.1⟩
 ·let⟨_,hd,xs,_,dd⟩:=NO I.hok e;show⟨dd.typeIs,λ b q=>?_,hd⟩;cases q;let⟨ob,_,_,h1,h2,_⟩:=dd;show⟨ob,h1,h2.2.1⟩
section
variable {X:Cx}{gj:List (Á×Obj)}{σ:St}{H:Hp}{s:Â}{a:Á}{y d:V}{u r:À}{o:Option V}{A:Around}{E:À->Â->Prop}
theorem TN {Q:À->Â->Prop} (hu:A.units+1 < cLine) (I:Inv X gj σ H s) (g:FL H a y o) (ry:aX y u) (rd:aX d r) (h:∀ w' s',Inv X gj σ H s'->aX (o.getD d) w'->Q w' s') :
  wpAny (model X.prog X.w) A (call (.builtin "dict.get") [.ref a,u,r]) Q E s:=by
 rcases g with⟨gn,k,e,ey,l⟩|⟨gn,k,b,e,ey,eb,l⟩
 ·subst ey;let⟨z,hd,vs,rel,dd⟩:=NP I.hok e;show call_meetsIn afn dd.typeIs ag0 (agp _ _ _) (meets_dict_get_default (eO X.prog X.w) a (MV ry) hd r) ⟨_,dd.mapOf,h _ _ (I.tok _) ?_⟩;rw[l];show(rel.val k).getD rd
 ·subst ey;cases(show u=Value.ref b from ry);let⟨z,hd,xs,rel,dd⟩:=NO I.hok e;show call_meetsIn afn dd.typeIs ag0 (agp _ _ _) (meetsH_dict_get_default (tupleKind (eO X.prog X.w)) a b hd r) ⟨tupleKind_room_in1 hu,k,xs,ES I.hok eb,dd,h _ _ (I.tok _) ?_⟩;rw[l];show(rel.val k).getD rd
end
def RV (td ty tx:TE):TE:=λ σ H Q=>td σ H λ x H1=>∃ a,x=.ref a/\IsD H1 a/\ty σ H1 λ y H2=>tx σ H2 λ z H3=>∃ o,FL H3 a y o/\Q (o.getD z) H3
section
variable {X:Cx}{o e f:Expr}{apos iq:Pos}{td ty tx:TE}
theorem uV (hu:X.A.units+1 < cLine) (ho:PE X o td) (he:PE X e ty) (hf:PE X f tx) (m:M2 X o "get" apos e f iq):PE X (.Call (.Attribute o "get" apos) [e,f] [] iq) (RV td ty tx):=by
 intro gj s σ H Q I h;show wpAny_Call_method m.base m.few m.line agq afn PySem.F.type_dict_get (cK (ho gj s σ H _ I h) λ u s1 ⟨x,H1,I1,rx,a,ex,d,q1⟩=>?_);subst ex;obtain rfl:u=Value.ref a:=rx;let⟨t1,t2,_⟩:=SZ I1 d;show⟨t1,t2,?_⟩;rw[m.trees];show Ũ O (ū (ń (cK (he gj s1 σ H1 _ I1 q1) λ iv s2 ⟨y,H2,I2,ry,q2⟩=>
  ń (cK (hf gj s2 σ H2 _ I2 q2) λ fv s3 ⟨z,H3,I3,rz,ov,g,q3⟩=>Ŵ ?_))))
 show TN hu I3 g ry rz λ w' s4 I4 vo=>⟨_,H3,I4,vo,q3⟩
end
section
variable {X:Cx}{gj:List (Á×Obj)}{σ:St}{H:Hp}{s:Â}{a:Á}{gn:List (gX×V)}{A:Around}{E:À->Â->Prop}
end
section
variable {X:Cx}{gj:List (Á×Obj)}{σ:St}{H:Hp}{s:Â}{a:Á}{y:V}{u:À}{A:Around}{E:À->Â->Prop}
end
end L2
namespace Att
open PySem PySem.W PySem.Calls PyProof.Rows
theorem sP {P:Params}:∀(ns:List Int) (vs:List À),WellAll P h vs (ns.map WData.int)->IntsAre vs ns:=by
 intro ns
 induction ns with
 |nil=>
  intro vs w;rw[í]at w;cases w;show .nil
 |cons n ns ih=>
  intro vs w;rw[Ù]at w;cases w with
  |cons a b=>
   cases a;show .cons _ _ (ih _ b)
theorem IC {l:OpenLaw} (hn:l.most=Y n) {P:Params}{vals:List À}
  (Ao:l.row.toRowW.claim.pre args=Eg) (Mp:WellAll P h vals args) :
  ∃ a vs ns,vals=[Value.ref a]/\args=[WData.list (ns.map WData.int)]/\h.get? a=Y { cls:=.type "list",data:=.seq vs.toArray }/\IntsAre vs ns/\ns.length<=n:=by
 have Mq:WShape.hasAll [] args [.list .int]=true:=(pre_splitW Ao).1;have hc:l.pre.holds [] { args:=args }=true:=(pre_splitW Ao).2;let⟨d,r,rfl,h1,h2⟩:=hasAllW_cons Mq;obtain rfl:=hasAllW_nil h2;let⟨xs,rfl,h3⟩:=hasW_list h1;let⟨ns,rfl⟩:=items_int h3;have gr:ns.length<=n:=by
  unfold OpenLaw.pre at hc;have h4:(WTm.not (.lt (.lit (.int (n:Int))) (.len (.arg 0)))).holds [] { args:=[.list (ns.map .int)] }=true:=by
   have h4:=(holds_andW hc).1;rw[hn]at h4;show h4
  have h5:=condW_of h4 (w_not (w_lt w_lit (w_len_list (w_arg rfl))));rw[Ê]at h5;show Nat.le_of_not_lt λ q=>?_;have q':(n:Int) < ((ns.length:Nat):Int):=by lia
  first
   |(rw[ð q']at h5;show absurd h5 FZ)
   |(simp at h5;lia)
 cases Mp with
 |cons w1 w2=>
  cases w2;cases w1 with
  |list ho qm=>show⟨_,_,ns,O,O,ho,sP ns _ qm,gr⟩
theorem IH (l:OpenLaw) (args:List WData):l.row.toRowW.claim.post args (.bool Eg) args=true:=
 postW_of (r:=l.row.toRowW) (X:=(Eg==Eg))
  (show WShape.has [] (.bool Eg) .bool=Eg by first|rfl|decide|simp[WShape.has,WShape.arms,WShape.armsAll])
  (show(WTm.eq .res (.lit (.bool Eg))).value [] { args:=args,res:=Y (.bool Eg),after:=args }=Y (.bool (Eg==Eg))from w_eq_bool (w_res rfl) w_lit) rfl
theorem attach_call {l:OpenLaw}{q:Ã}{XP:(Str->Option À)->Heap->Prop}{YP:World->Heap->Prop}{d:DefRec}
  (hn:l.most=Y n) (Fx:d.params.defaults=[])
  (call:∀(w:World) (s₀ ah:Â) (mg mb:Str->Option À) (fa:Á) (o:Obj) (pm cd doc:À) (a:Á) (vs:List À) (ns:List Int),
   Ground q loose [] XP w s₀ mg mb ah.heap->YP w ah.heap->
   ah.heap.get? fa=Y o->o.data=.func (docDef d.name d.params d.body d.scope pm cd doc)->ah.heap.CodeRec cd d.name->mg d.name=Y (.ref fa)->
   ah.heap.get? a=Y { cls:=.type "list",data:=.seq vs.toArray }->IntsAre vs ns->ns.length<=n->ah.gens= #[]->
   codeAny (model l.prog w) callerA (.call (.ref fa) ⟨[.ref a],[]⟩) (λ r s'=>r=.ok (.ret (.bool Eg))/\OldK ah.heap s'.heap/\s'.os=ah.os/\AllBare s'.gens) ah) :
  WalkO q loose XP YP l.row.toRowW d [] (λ f vs=>PySem.call f vs):=by
 intro w s₀ ah mg mb G BG fa o pm cd doc dV kV ho hd qj hD Fy hg args vals as Ao Xk S' Mp Mr;obtain rfl:dV=.none:=Dflts.none hD Fx;obtain rfl:kV=.none:=Dflts.noKw hD;let⟨a,vs,ns,rfl,rfl,Cu,hints,gr⟩:=IC hn Ao Mp;show enter_call (ō (call w s₀ ah mg mb fa o pm cd doc a vs ns G BG ho (fd_plain hd) qj Fy Cu hints gr hg) λ r s' hq=>?_);let⟨rfl,h2,h3,h4⟩:=hq;show⟨.inl ⟨.bool Eg,.bool Eg,[],O,λ _=>O,.bool Eg,IH l _,λ _=>⟨List.Pairwise.nil,λ _ hm=>(nomatch hm)⟩⟩,h2,h3,h4⟩
section
variable {prog:Ã}{A:Around}{E:À->Â->Prop}{s:Â}{K:Frag}
end
end Att
namespace L2
open PySem PySem.Spec PyProof.Rows
theorem wU:∀ {vs:List À}{ns:List Int},IntsAre vs ns->bI (ns.map V.int) vs
 |_,_,.nil=>.nil
 |_,_,.cons n t h=>.cons ⟨t,rfl⟩ (wU h)
def eP (s:Stmt) (j:Nat):Stmt:=match s with
 |.ClassDef _ _ _ body _ _ _ _ _ _ _=>body.getD j (.Pass ⟨0,0,0,0⟩)
 |_=>.Pass ⟨0,0,0,0⟩
def eQ (s:Stmt):Arguments:=match s with
 |.FunctionDef _ a _ _ _ _ _ _ _ _=>a
 |_=>{ posonlyargs:=[],args:=[],vararg:=W,kwonlyargs:=[],kw_defaults:=[],kwarg:=W,defaults:=[] }
def cL (s:Stmt):List Stmt:=match s with
 |.FunctionDef _ _ b _ _ _ _ _ _ _=>b
 |_=>[]
def aH (s:Stmt):Scope:=match s with
 |.FunctionDef _ _ _ _ _ _ sc _ _ _=>sc
 |_=>{ kind:=.function,names:=[],isGenerator:=Eh,isCoroutine:=Eh }
abbrev fX:FM:=λ _ _ _ _ _ _=>False
abbrev E0:XK:=λ _ _ _=>False
theorem xM :iD fX X E0:=λ _ _ _ _ _ _ _ h=>h.elim
structure Fun (K:Ç) (x qual:Str) (st:Stmt) (f:Á) (fd:FuncData):Prop where
 ex:∃(oc:À) (od:Option Á) (kV doc pm:À) (an:Option Á) (cdv ct:À) (osl:Array (Option À)),
  fd=PySem.W.fnOf x qual (eQ st) (cL st) (aH st) .none kV doc pm an cdv ct/\K.lookup f=Y ⟨oc,od,.func fd,osl⟩/\PySem.W.codeIn K cdv qual=Eg
 kp:PySem.W.keepIn K (.ref f)=Eg
theorem Fun.ok {x qual:Str}{st:Stmt}{ps:List Str}{k:Nat}{sp:Sp} (F:Fun K x qual st f fd) (N) (jl:FnScope N ps (aH st)->∀(gz:À) (A:Around) (outer:List Env) (s:Â) (H:Hp) (vs:List V) (Q:VK) (E:XK),Room k (A.deeper (envOfC qual (aH st) s.heap.objs.size f gz))->sp vs H Q E->
   ∃ t,yO (jZ fX P w K mg base N qual (aH st) f gz A outer s H E).nox (cL st) t/\t { nx:=λ _ H'=>Q .non H',rt:=Q } (start N vs) H) (S:autoParam (FnScope N ps (aH st)) _C) (len:autoParam (∀ vs H Q E,sp vs H Q E->vs.length=ps.length) _E):FnOk P w K mg base fX (k+1) f fd ps sp:=by
 let⟨oc,od,kV,doc,pm,an,gz,ct,ue,rfl,lk,qj⟩:=F.ex;show NK lk qj S len λ A outer s H vs Q E hr kf=>?_;let⟨t,h,q⟩:=jl S gz A outer s H vs Q E hr kf;show⟨t,h.nox,q⟩
theorem Fun.binds {st:Stmt}{ps:List Str} (F:Fun K x qual st f fd)
  (h:∀(kV doc pm:À) (an:Option Á) (gz ct:À) (us:List À),us.length=ps.length->bindArgs (PySem.W.fnOf x qual (eQ st) (cL st) (aH st) .none kV doc pm an gz ct) ⟨us,[]⟩=pure (ps.zip us)):iF K fd ps []:=by
 let⟨oc,od,kV,doc,pm,an,gz,ct,ue,rfl,lk,qj⟩:=F.ex;show .all (h kV doc pm an gz ct)
theorem qZ {st:Stmt}{f:Á}{oc:À}{od an:Option Á}{ue:Array (Option À)}{kV doc pm gz ct:À} (l:K.lookup f=Y ⟨oc,od,.func (PySem.W.fnOf x qual (eQ st) (cL st) (aH st) .none kV doc pm an gz ct),ue⟩)
  (c:PySem.W.codeIn K gz qual=Eg) (k:PySem.W.keepIn K (.ref f)=Eg):Fun K x qual st f (PySem.W.fnOf x qual (eQ st) (cL st) (aH st) .none kV doc pm an gz ct):=⟨⟨oc,od,kV,doc,pm,an,gz,ct,ue,rfl,l,c⟩,k⟩
theorem RA  (hr:Room k A):A.units+1 < cLine:=agd (Nat.add_le_add_left (by decide:1<=64) _) hr.units
theorem aS  (h:n<=1000):n < sizeLine:=agd h FZ
section
variable {X:Cx}
theorem pv (i:Nat){pos:Pos} (hN:autoParam (X.N[i]?=Y x) _0) (hv:VG X.env.scope x:=by with_unfolding_all first|show Or.inl O|show Or.inr (Or.inl O)|show Or.inr (Or.inr O)) (hd:autoParam ((x==("__debug__":Str))=false) _2)
  (qj:autoParam ((x==("__classdict__":Str))=false) _2):PE X (.Name x pos) (dG i):=LP hN hv hd qj
end
theorem eG {A B:Prop} (h:B):if Eh=Eg then A else B:=by
 rw[Ä ã];show h
theorem eS {A B:Prop} (h:A):if Eg=Eg then A else B:=by
 rw[Å rfl];show h
theorem i9 {c A B:Prop} [Decidable c] (h1:c->A) (h2:¬ c->B):if c then A else B:=by
 by_cases h:c
 ·rw[Å h];show h1 h
 ·rw[Ä h];show h2 h
theorem V6 {c A B:Prop} [Decidable c] (hc:c) (h:B):if (!decide c)=Eg then A else B:=by
 rw[ð hc];show eG h
def aE (H H':Hp):Prop:=∀ b o,H b=Y o->H' b=Y o
theorem aE.refl (H:Hp):aE H H:=λ _ _ h=>h
def Ľ:=@aE.refl
theorem aE.trans  (a:aE H H1) (b:aE H1 H2):aE H H2:=λ c o h=>b c o (a c o h)
theorem aE.free  (e:aE H H') (h:H' l=Option.none):H l=Option.none:=by
 cases q:H l with
 |none=>rfl
 |some o=>
  rw[e l o q]at h;cases h
theorem aE.seq  (e:aE H H') (h:bE K H a xs):bE K H' a xs:=by
 rcases h with(h|⟨o,h⟩)|h
 ·show .inl (.inl (e _ _ h))
 ·show .inl (.inr ⟨o,e _ _ h⟩)
 ·show .inr h
end L2
set_option maxHeartbeats 4000000
namespace L2
open PySem PySem.Spec PyProof.Rows
theorem iE {env:Env} (hk:env.scope.kind=.function):∀ {names:List (Str×NameKind)}{x:Str},names.lookup x=Y .free->env.kindOf x=Y .cell->
  (names.map λ(n,k)=>if (k==NameKind.free && env.scope.kind== .function && env.kindOf n==Y .cell)then(n,NameKind.cell)else(n,k)).lookup x=Y .cell
 |[],_,h,_=>by simp at h
 | (n,k)::r,x,h,hc=>by
  have ih:=@iE env hk r x;change List.lookup x ((if (k==NameKind.free && env.scope.kind== .function && env.kindOf n==Y .cell)=Eg then(n,NameKind.cell)else(n,k))::_)=_;cases hx:x==n with
  |true=>
   simp only[Ī,hx]at h;cases h;have e:x=n:=by simpa using hx
   subst e;rw[Å (by rw[hk,hc];decide)];simp[Ī]
  |false=>
   simp only[Ī,hx]at h
   by_cases hq:(k==NameKind.free && env.scope.kind== .function && env.kindOf n==Y .cell)=Eg
   ·rw[Å hq];simp only[Ī,hx];show ih h hc
   ·rw[Ä hq];simp only[Ī,hx];show ih h hc
def OE (env:Env):List (Str×Á)->Prop
 |[]=>True
 |p::r=>env.cells.lookup p.1=Y p.2/\OE env r
theorem OE.get :∀ {cl:List (Str×Á)},OE env cl->∀ x c,cl.lookup x=Y c->env.cells.lookup x=Y c
 |[],_,_,_,e=>by simp at e
 | (n,a)::r,h,x,c,e=>by
  cases hx:x==n with
  |true=>
   simp only[Ī,hx]at e;cases e;have e':x=n:=by simpa using hx
   subst e';show h.1
  |false=>
   simp only[Ī,hx]at e;show OE.get h.2 x c e
def DK (X:Cx) (scope:Scope) (N':List Str):List (Option Nat)->Nat->Prop
 |[],_=>True
 |none::r,i=>DK X scope N' r (i+1)
 |some j::r,i=>(∃ x,N'[i]?=Y x/\X.N[j]?=Y x/\scope.names.lookup x=Y .free/\X.env.kindOf x=Y .cell)/\DK X scope N' r (i+1)
theorem DK.get :∀ {fr:List (Option Nat)}{k:Nat},DK X scope N' fr k->∀ i j,fr[i]?=Y (Y j)->
  ∃ x,N'[k+i]?=Y x/\X.N[j]?=Y x/\scope.names.lookup x=Y .free/\X.env.kindOf x=Y .cell
 |[],_,_,i,j,e=>by simp at e
 |none::r,k,h,0,j,e=>by simp at e
 |some _::r,k,h,0,j,e=>by simp at e;subst e;show h.1
 |none::r,k,h,i+1,j,e=>by
  have:=DK.get (k:=k+1) (show DK X scope N' r (k+1)from h) i j (by simpa using e)
  rwa [Nat.add_right_comm]at this
 |some _::r,k,h,i+1,j,e=>by
  have:=DK.get (k:=k+1) h.2 i j (by simpa using e)
  rwa [Nat.add_right_comm]at this
structure LcOk (X:Cx) (scope:Scope) (cl:List (Str×Á)) (N':List Str) (fr:List (Option Nat)):Prop where
 clos:closureFor scope X.env=pure cl
 cls:OE X.env cl
 kind:scope.kind=.function
 nocell:(scope.names.all λ p=>p.2 != NameKind.cell)=Eg
 locs:(scope.names.all λ p=>p.2 != NameKind.local || scope.names.lookup p.1==Y NameKind.local)=Eg
 frees:(scope.names.all λ p=>p.2 != NameKind.free || (cl.lookup p.1).isSome)=Eg
 len:fr.length=N'.length
 fr:DK X scope N' fr 0
def CS (fr:List (Option Nat)) (σ:St):St:=fr.map λ o=>o.bind λ j=>(σ[j]?).join
def lD (X:Cx) (N':List Str) (scope:Scope) (cl:List (Str×Á)) (fp:List Á) (s:Â) (H:Hp):Cx:=
 { X with N:=N',s₀:=s,H₀:=H,env:=compEnvC scope cl s.heap.objs.size X.env,outer:=X.stack,ex:=fp,fn:=λ _=>Eh,pn:=[] }
def RI (X:Cx) (ifs:List Expr) (t:TT):Prop:=
 ∀(gj:List (Á×Obj)) (s:Â) (σ:St) (H:Hp) (Q:Bool->Hp->Prop),Inv X gj σ H s->t σ H Q->
  wpAny (model X.prog X.w) X.A (forIn ifs Eg λ c r=>if r=Eg then do let ok <- isTrue c X.env (eval c X.env);pure (ForInStep.yield ok)else pure (ForInStep.yield r)) (TP X gj σ Q) X.xe s
def RN:TT:=λ _ H Q=>Q Eg H
theorem c9 :RI X [] RN:=λ _ _ _ H _ I h=>wpAny_tests_nil ⟨H,I,h⟩
theorem sX  (h:PT X c t):RI X [c] t:=λ gj s σ H Q I hw=>wpAny_tests_one (h gj s σ H Q I hw)
def kQ (J:It) (g:TG) (tc:TT) (te:TE) (fr:List (Option Nat)) (σ:St) (H1:Hp) (Q:Á->Hp->Prop):Prop:=
 ∀ D,H1 D=W->∃ BH:Nat->Nat->List V->St->Hp->Prop,(∃ m,BH 0 m [] (CS fr σ) (upd H1 D (.lst [])))/\
  ∀ i m ys ac H',BH i m ys ac H'->(J.stop i H'/\Q D H')\/
   (J.go i H'/\∃ N:List V->St->Hp->Prop,(∀ Bq cx lg,N Bq cx lg->∃ m',m' < m/\BH (i+1) m' Bq cx lg)/\
    ∀ x H2,J.yld i H' x H2->g x ac H2 λ aj H3=>tc aj H3 λ b H4=>
    if b=Eg then te aj H4 λ y H5=>H5 D=Y (.lst ys)/\ys.length < sizeLine/\N (ys++[y]) aj (upd H5 D (.lst (ys++[y])))
    else N ys aj H4)
theorem qW  (Pv:Á->Nat->List V->St->Hp->Prop)
  (h0:∀ D,H1 D=W->Pv D 0 [] (CS fr σ) (upd H1 D (.lst [])))
  (iu:∀ D ys ac H',Pv D n ys ac H'->J.stop n H'/\Q D H')
  (ox:∀ D i ys ac H',i < n->Pv D i ys ac H'->J.go i H'/\∀ x H2,J.yld i H' x H2->g x ac H2 λ aj H3=>tc aj H3 λ b H4=>
    if b=Eg then te aj H4 λ y H5=>H5 D=Y (.lst ys)/\ys.length < sizeLine/\Pv D (i+1) (ys++[y]) aj (upd H5 D (.lst (ys++[y])))
    else Pv D (i+1) ys aj H4):kQ J g tc te fr σ H1 Q:=by
 intro D hD;show⟨λ i m ys σ H=>m=n - i/\i<=n/\Pv D i ys σ H,⟨n,G0,à _,h0 D hD⟩,?_⟩;rintro i m ys ac H' xK;let⟨rfl,hi,p⟩:=xK
 by_cases jh:i < n
 ·let⟨go,step⟩:=ox D i ys ac H' jh p;show .inr ⟨go,Pv D (i+1),λ Bq cx lg p'=>⟨n - (i+1),Fn,O,jh,p'⟩,step⟩
 ·have e:i=n:=by lia
  subst e;show .inl (iu D ys ac H' p)
theorem GP {J:It}{g:TG}{tb:TS}{D:Ends}{σ:St}{H:Hp} (Pv:Nat->St->Hp->Prop) (h0:Pv 0 σ H) (iu:∀ σ H,Pv n σ H->J.stop n H/\D.nx σ H)
  (ox:∀ i σ H,i < n->Pv i σ H->J.go i H/\∀ x H',J.yld i H x H'->g x σ H' λ au H2=>tb { D with nx:=Pv (i+1),ct:=Pv (i+1),bk:=D.nx } au H2) :
  ∃ BH:Nat->Nat->St->Hp->Prop,(∃ m,BH 0 m σ H)/\∀ i m σ H,BH i m σ H->
   (J.stop i H/\D.nx σ H)\/(J.go i H/\∃ N:St->Hp->Prop,(∀ ac H',N ac H'->∃ m',m' < m/\BH (i+1) m' ac H')/\∀ x H',J.yld i H x H'->g x σ H' λ au H2=>tb { D with nx:=N,ct:=N,bk:=D.nx } au H2):=by
 show⟨λ i m σ H=>m=n - i/\i<=n/\Pv i σ H,⟨n,G0,à _,h0⟩,?_⟩;rintro i m σ H ⟨rfl,hi,p⟩
 by_cases jh:i < n
 ·let⟨go,step⟩:=ox i σ H jh p;show .inr ⟨go,Pv (i+1),λ ac H' p'=>⟨n - (i+1),Fn,O,jh,p'⟩,step⟩
 ·have e:i=n:=by lia
  subst e;show .inl (iu σ H p)
def tLC (wi:TI) (fr:List (Option Nat)) (g:TG) (tc:TT) (te:TE):TE:=λ σ H Q=>wi σ H λ J H1=>kQ J g tc te fr σ H1 λ D H'=>Q (.ref D) H'
section
variable {prog:Ã}{A:Around}{R:Result->Â->Prop}{s:Â}
theorem AA {elt target iter:Expr}{ifs:List Expr}{scope:Scope}{pos:Pos}{it md:À}{env:Env} (I:Nat->Â->Prop)
  (turn:∀ n s,I n s->wpAny (model prog w) A (pyNext it) (λ r ah=>match r with
   |none=>R (.ok .next) ah
   | some v=>wpAny (model prog w) A (letOwnedTupleGo target it v) (λ _ db=>wpAny (model prog w) A (assign target env v) (λ _ cn=>
     wpAny (model prog w) A (forIn ifs Eg λ c r=>if r=Eg then do let ok <- isTrue c env (eval c env);pure (ForInStep.yield ok)else pure (ForInStep.yield r)) (λ ok bu=>
      if ok=Eg then wpAny (model prog w) A (eval elt env) (λ x cq=>
       wpAny (model prog w) A (call (.builtin "list.append") [md,x]) (λ _ dj=>∃ m,m < n/\I m dj) (notedBy (model prog w) A env λ e s'=>R (.error e) s') cq) (notedBy (model prog w) A env λ e s'=>R (.error e) s') bu
      else ∃ m,m < n/\I m bu) (notedBy (model prog w) A env λ e s'=>R (.error e) s') cn) (notedBy (model prog w) A env λ e s'=>R (.error e) s') db) (notedBy (model prog w) A env λ e s'=>R (.error e) s') ah)
    (notedBy (model prog w) A env λ e s'=>R (.error e) s') s)
  (n:Nat) (h:I n s) :
  codeAny (model prog w) A (.compLoop (.ListComp elt [⟨target,iter,ifs,0⟩] scope pos) 0 it md env) R s:=by
 show codeAny_loop O I (λ n s hI=>?_) n h;change wpAny _ A ((compTurn (.ListComp elt [⟨target,iter,ifs,0⟩] scope pos) 0 it md env).onRaise (λ x=>do noteFrame x env;theTreesLotGoes x)) _ _ s;show wpAny_noted ?_;rw[compTurn_list];show Æ (Ļ (Æ (ä (turn n s hI) (λ r ah h₁=>?_) λ _ _ h'=>h')));cases r with
 |none=>show Ë h₁
 |some v=>
  show Æ (ä h₁ (λ _ db dq=>?_) λ _ _ h'=>h');show Æ (ä dq (λ _ cn ap=>Æ (ä ap (λ ok bu ak=>?_) λ _ _ h'=>h')) λ _ _ h'=>h');cases ok with
  |false=>show Ë ⟨O,ak⟩
  |true=>
   show Æ (Æ (ä ak (λ x cq aq=>Æ (ä aq (λ _ dj bc=>Ë (Ë ⟨O,bc⟩)) λ _ _ h'=>h')) λ _ _ h'=>h'))
end
section
variable {X:Cx}
theorem LcOk.invC {fr:List (Option Nat)}{σ:St}{H:Hp}{s:Â}{h1:Heap}{fp:List Á}{m1:Str->Option À}{tk:Nat}
  (S:LcOk X scope cl N' fr) (I:Inv X gj σ H s) (hf:∀ b∈fp,kX X gj H b) (xy:∀ b∈fp,b < s.heap.objs.size)
  (k:∀ b o,s.heap.get? b=Y o->h1.get? b=Y o) (hn:h1.Ns s.heap.objs.size m1):Inv (lD X N' scope cl fp s H) [] (CS fr σ) H { s with heap:=h1,toks:=tk }:=by
 have mz:=S.frees;have jk:=S.nocell;rw[Ē]at mz jk;have fresh:H s.heap.objs.size=none:=I.hok.fresh (Ñ _);have Em:=S.cls.get;show⟨⟨I.ok.mod,S.kind,I.ok.glob,I.ok.blt,Ñ _,λ x y c e1 e2=>I.ok.inj x y c (Em x c e1) (Em y c e2),λ x hx=>?_,(λ x c e=>nomatch e),I.ok.hd,I.ok.frames,.inl O,λ b hb=>⟨â (xy b hb),λ x c e=>(hf b hb).2.2.2.2.1 x c (Em x c e)⟩,
  I.bs,ý I.ok.bsz I.sz,λ b o e hb=>?_,λ b hb hz=>?_,I.stack,I.stkFree⟩,O,I.bare,Un.kept k,⟨m1,hn,λ i x v e1 e2 e3=>?_⟩,λ x c e=>?_,fresh,λ x c e=>I.freeC x c (Em x c e),λ p hp=>absurd (show p∈([]:List (Á×Obj))from hp) G0,I.hok.kept k,?_⟩
 ·
  have hm:∃ k',(x,k')∈scope.names/\k'=NameKind.free:=by
   have rq:(relabel scope X.env).names.lookup x=Y .cell\/(relabel scope X.env).names.lookup x=Y .free:=hx;obtain⟨k',e,yu⟩:∃ k',(relabel scope X.env).names.lookup x=Y k'/\(k'=.cell\/k'=.free):=by
    rcases rq with e|e
    ·show⟨_,e,.inl O⟩
    ·show⟨_,e,.inr O⟩
   have Cv:=ó e;let⟨⟨n,kn⟩,hp,he⟩:=å.mp Cv;dsimp only at he
   split at he
   ·rename_i hc
    cases he;have:kn=.free:=by
     simp only[Ĕ,ļ]at hc;show hc.1.1
    show⟨kn,hp,this⟩
   ·cases he;rcases yu with e'|e'
    ·subst e';have:=jk _ hp;simp at this
    ·show⟨_,hp,e'⟩
  let⟨k',hp,rfl⟩:=hm;have:=mz _ hp;simp only[bne_self_eq_false,ag6]at this;show Option.isSome_iff_exists.mp this
 ·rcases (hf b hb).2.2.2.1 with z|z
  ·show I.ok.noex b o e z
  ·have:=Ô e;show absurd (ï this (ý I.ok.bsz z)) (ċ _)
 ·let⟨_,f1,f2,_⟩:=hf b hb;rcases Ò.mp (I.stkSub b hz)with e|e
  ·show f1 e
  ·show f2 e
 ·
  unfold CS at e2;rw[Ø]at e2;cases ef:fr[i]? with
  |none=>rw[ef]at e2;cases e2
  |some o=>
   rw[ef]at e2;cases o with
   |none=>simp at e2
   |some j=>
    have Fz:(σ[j]?).join=Y v:=by simpa using e2
    let⟨x',Cw,Br,Cy,Ms⟩:=S.fr.get i j ef;rw[Ě]at Cw;have ex:x'=x:=by
     have:N'[i]?=Y x:=e1;rw[Cw]at this;show ç this
    subst ex;have Mt:σ[j]?=Y (Y v):=by
     cases q:σ[j]? with
     |none=>rw[q]at Fz;cases Fz
     |some z=>rw[q]at Fz;simp at Fz;rw[Fz]
    let⟨m,hm,hl⟩:=I.loc;let⟨u,r,lk⟩:=hl j x' v Br Mt (.inr (.inl Ms));show⟨u,r,?_⟩;rcases lk with⟨q,_⟩|⟨_,c,hc,z⟩
    ·rw[Ms]at q;cases q
    ·have vf:∃ c',cl.lookup x'=Y c':=by
      have:=mz _ (ó Cy);simp only[bne_self_eq_false,ag6]at this;show Option.isSome_iff_exists.mp this
     let⟨c',sr⟩:=vf;have e':=Em x' c' sr;rw[hc]at e';cases e';let⟨oc,pq,hd⟩:=z;show .inr ⟨.inl ?_,c,sr,oc,k c oc pq,hd⟩;show iE I.ok.kind Cy Ms
 ·let⟨v,oc,pq,hd⟩:=I.cell x c (Em x c e);show⟨v,oc,k c oc pq,hd⟩
 ·change(CS fr σ).length=N'.length;unfold CS;rw[Ê,S.len]
theorem Inv.outC {σ ac:St}{H H':Hp}{s s':Â}{fp:List Á} (I:Inv X gj σ H s) (J:Inv (lD X N' scope cl fp s H) wm ac H' s')
  (hf:∀ b∈fp,kX X gj H b):Inv X gj σ H' s':=
 I.call' (ch:=fp) J.os J.base J.hok J.bare λ b hb=>by
  let⟨_,f1,_,f3,f4,f5⟩:=hf b hb;show⟨f3,f1,f4,f5⟩
theorem Inv.letgo {σ:St}{C:Á}{h':Heap} (I:Inv X gj σ H s) (f:kX X gj H C) (qr:Heap.SameBut C s.heap h'):Inv X gj σ H { s with heap:=h' }:=by
 let⟨f0,f1,f2,f3,f4,f5⟩:=f;show I.turned (t':=s.toks) (it:=C) (h':=h') (λ b o hb e=>(qr.2 b hb).trans e) f0 f1 f3 f4 f5
theorem CJ {fr:List (Option Nat)}{cl:List (Str×Á)}{g:TG}{tc:TT}{te:TE}
  {gj:List (Á×Obj)}{σ:St}{H:Hp}{s:Â}{J:It}{fp:List Á}{it:Á}{tn:Nat->Heap->Prop}{Q:Á->Hp->Prop}{RR:À->Á->Result->Â->Prop}{E:À->Â->Prop}
  (hx:∀ e s,¬ X.xe e s) (hc:X.calm=Eg) (S:LcOk X scope cl N' fr)
  (hg:∀ fp s H,PG (lD X N' scope cl fp s H) tg g) (ht:∀ fp s H,RI (lD X N' scope cl fp s H) ifs tc) (he:∀ fp s H,PE (lD X N' scope cl fp s H) elt te)
  (I:Inv X gj σ H s) (T:Turn X.prog X.w X.K tg J fp it tn) (st:tn 0 s.heap) (hf:∀ b∈fp,kX X gj H b) (h:kQ J g tc te fr σ H Q)
  (Mu:∀ D C H' s' m',Inv X gj σ H' s'->Q D H'->s'.heap.Ns C m'->kX X gj H' C->RR (.ref D) C (.ok .next) s') :
  wpAny (model X.prog X.w) X.A (newList []) (λ md bu=>wpAny (model X.prog X.w) X.A (newFunctionEnv scope X.env.globals cl [] X.env.qual W .none (Y X.env)) (λ yw cq=>
   codeAny (model X.prog X.w) X.A (.compStart (.ListComp elt [⟨tg,iter,ifs,0⟩] scope pos) 0 (.ref it) md { yw with scope:=relabel scope X.env }) (RR md yw.locals) cq) E bu) E s:=by
 have jk:=S.nocell;rw[Ē] at jk;show Ğ (Ŭ (λ x rq=>by simpa using jk x rq) (by intro y hy;simp at hy) (λ h₁ cg ci=>?_) S.kind);dsimp only at cg ci ⊢;have fresh:H s.heap.objs.size=none:=I.hok.fresh (Ñ _);have I3:Inv X gj σ (upd H s.heap.objs.size (.lst [])) { s with heap:=s.heap.push { cls:=.type "list",data:=.seq ([]:List À).toArray },toks:=s.toks }:=I.lnew (ys:=[]) (its:=[]) .nil (à _);have Cz:∀ b∈fp,kX X gj (upd H s.heap.objs.size (.lst [])) b:=λ b hb=>by
  let⟨o,ho,_⟩:=T.obj _ _ st b hb;show⟨by rw[aG (â (Ô ho))];show(hf b hb).1,(hf b hb).2⟩
 generalize Ga:({ s with heap:=s.heap.push { cls:=.type "list",data:=.seq ([]:List À).toArray },toks:=s.toks }:Â)=s3 at I3;have e3:s3.heap=s.heap.push { cls:=.type "list",dict:=W,data:=.seq ([]:List À).toArray }:=by rw[<- Ga]
 have Gb:({ s with heap:=s.heap.push { cls:=.type "list",dict:=W,data:=.seq ([]:List À).toArray } }:Â)=s3:=Ga;have Db:s3.heap.objs.size=s.heap.objs.size+1:=by rw[e3,ą]
 have xy:∀ b∈fp,b < s3.heap.objs.size:=λ b hb=>by
  let⟨o,ho,_⟩:=T.obj _ _ st b hb;rw[Db];show agj (Ô ho)
 rw[<- e3]at cg ci ⊢;have vt:∀ b o,s3.heap.get? b=Y o->h₁.get? b=Y o:=λ b o e=>ci.extBut b o (â (Ô e)) (Ï _ e);have ju:∀ b o,s.heap.get? b=Y o->s3.heap.get? b=Y o:=λ b o e=>by rw[e3];show Ï _ e
 have I4:=S.invC (tk:=s3.toks) I3 Cz xy vt cg;let⟨BH,⟨m0,w0⟩,turn⟩:=h s.heap.objs.size fresh;have oo:∀ {H':Hp},(∀ b∈fp,H' b=W)->∀ b∈fp,kX (lD X N' scope cl fp s3 (upd H s.heap.objs.size (.lst []))) [] H' b:=λ hn b hb=>by
  show⟨hn b hb,â (xy b hb),?_,.inl hb,λ x c e=>(hf b hb).2.2.2.2.1 x c (S.cls.get x c e),λ p hp=>absurd (show p∈([]:List (Á×Obj))from hp) G0⟩;intro hz;let⟨_,f1,f2,_⟩:=hf b hb;rcases Ò.mp (I.stkSub b hz)with e|e
  ·show f1 e
  ·show f2 e
 have loop:∀ s4:Â,s4={ s3 with heap:=h₁,toks:=s3.toks }->
   codeAny (model X.prog X.w) X.A (.compLoop (.ListComp elt [⟨tg,iter,ifs,0⟩] scope pos) 0 (.ref it) (.ref s.heap.objs.size) (compEnvC scope cl s3.heap.objs.size X.env)) (RR (.ref s.heap.objs.size) s3.heap.objs.size) s4:=by
  intro s4 Ad;show AA (λ n s'=>∃ i ys ac H',Inv (lD X N' scope cl fp s3 (upd H s.heap.objs.size (.lst []))) [] ac H' s'/\tn i s'.heap/\(∀ b∈fp,H' b=W)/\BH i n ys ac H') ?_ m0
   ⟨0,[],CS fr σ,_,by rw[Ad];show I4,by rw[Ad];show T.keep _ _ _ st λ b _ o e=>vt b o (ju b o e),λ b hb=>(Cz b hb).1,w0⟩
  rintro n s5 xK;let⟨i,ys,cw,H5,I5,An,Cn,w5⟩:=xK;rcases turn i n ys cw H5 w5 with⟨stop,qn⟩|⟨go,N,hN,step⟩
  ·show cK (T.done (lD X N' scope cl fp s3 (upd H s.heap.objs.size (.lst []))) O O O hc i [] s5 cw H5 _ I5 (oo Cn) An stop) λ r s6 ⟨hr,I6⟩=>?_;subst hr;let⟨m',Bs,_⟩:=I6.loc;show Mu _ _ H5 s6 m' (I3.outC I6 Cz) qn Bs (I3.fpOk (Ñ _) I6.free)
  ·show cK (T.item (lD X N' scope cl fp s3 (upd H s.heap.objs.size (.lst []))) O O O hc i [] s5 cw H5 _ I5 (oo Cn) An go) λ r s6 ⟨u,hr,h6⟩=>?_;subst hr;show cK h6 λ _ s7 ⟨x,H7,I7,r7,y7,Dc,Mv⟩=>?_;have Mw:=I7.pinned (oo Mv) (T.obj _ _ Dc);show ä (hg fp s3 _ _ s7 cw H7 x u _ Mw r7 (step x H7 y7)) (λ _ s8 ⟨bw,H8,I8,q8⟩=>?_) λ e s' z=>(hx e s' z).elim;show ä (ht fp s3 _ _ s8 bw H8 _ I8 q8) (λ ok s9 ⟨H9,I9,q9⟩=>?_) λ e s' z=>(hx e s' z).elim;have again:∀ {lh:Â}{oy:Hp}{Bq:List V},Inv (lD X N' scope cl fp s3 (upd H s.heap.objs.size (.lst []))) ([]++qO fp s7.heap) bw oy lh->N Bq bw oy->
     ∃ m,m < n/\∃ i ys ac H',Inv (lD X N' scope cl fp s3 (upd H s.heap.objs.size (.lst []))) [] ac H' lh/\tn i lh.heap/\(∀ b∈fp,H' b=W)/\BH i m ys ac H':=λ {lh oy Bq} uf Mx=>by
    let⟨m',hm,Dd⟩:=hN Bq bw oy Mx;show⟨m',hm,i+1,Bq,bw,oy,uf.unpinned,T.keep _ _ _ Dc λ b hb o e=>(uf.pin (b,o) (Ċ _ (Ċ _ (gU hb e)))).1,λ b hb=>?_,Dd⟩;let⟨o,e,d⟩:=T.obj _ _ Dc b hb;show(uf.pin (b,o) (Ċ _ (Ċ _ (gU hb e)))).2.1
   cases ok with
   |false=>
    rw[Ä ã]at q9 ⊢;show again I9 q9
   |true=>
    rw[Å rfl]at q9 ⊢;show ä (he fp s3 _ _ s9 bw H9 _ I9 q9) (λ y lh ⟨yv,oy,uf,My,hD,gr,Gc⟩=>?_) λ e s' z=>(hx e s' z).elim;show ä (bL (X:=lD X N' scope cl fp s3 (upd H s.heap.objs.size (.lst []))) _ lh bw oy (.ref s.heap.objs.size) [yv] (.ref s.heap.objs.size) [y] (λ _ xz=>xz=upd oy s.heap.objs.size (.lst (ys++[yv]))) uf O (.cons My .nil)
     ⟨_,ys,yv,O,O,hD,gr,O⟩) (λ _ Xl ⟨_,xz,En,_,yx⟩=>?_) λ e s' z=>(hx e s' z).elim
    subst yx;show again En Gc
 show codeAny_compStart_list (loop _ (by rw[<- Gb];rfl)) (T.self X.A 0 _ _ _ (T.keep _ _ _ st λ b _ o e=>vt b o (ju b o e)) (loop _ (by rw[<- Gb];rfl)))
theorem fQ 
  (hx:∀ e s,¬ X.xe e s) (hc:X.calm=Eg) (S:LcOk X scope cl N' fr) (hi:PI X tg iter wi)
  (hg:∀ fp s H,PG (lD X N' scope cl fp s H) tg g) (ht:∀ fp s H,RI (lD X N' scope cl fp s H) ifs tc) (he:∀ fp s H,PE (lD X N' scope cl fp s H) elt te)
  (hs:autoParam (∀ x,foldedSetIterable iter X.env x=pure x) _6):PE X (.ListComp elt [⟨tg,iter,ifs,0⟩] scope pos) (tLC wi fr g tc te):=by
 intro gj s σ H Q I h;have mq:=S.locs;rw[Ē]at mq;rw[eval_ListComp];show aet (use:=W) O hs S.clos S.kind (λ x rq hl=>by have:=mq x rq;rw[hl]at this;simpa using this) (cK (hi gj s σ H _ I h) λ v s1 h1=>cK h1 λ Fr s2 h2=>?_);let⟨it,fp,tn,J,H2,e,I2,T,Cm,f2,ja⟩:=h2;subst e;show CJ (RR:=λ md C=>compPost (model X.prog X.w) X.A X.xe W (EP X gj σ Q) md C) hx hc S hg ht he I2 T Cm f2 ja ?_;intro D C H' s' m' I' q hn f;show⟨m',hn,λ h' qr=>⟨.ref D,H',I'.letgo f qr,O,q⟩⟩
theorem gS {Gd:Pos}{ifs:List Expr}{scope:Scope}{pos:Pos}{N':List Str}{fr:List (Option Nat)}{cl:List (Str×Á)}{wi:TI}{g:TG}{tc:TT}{te:TE}
  (hN:X.N.Nodup) (hy:X.N[i]?=Y y) (hk:X.env.scope.names.lookup y=Y .local)
  (hx:∀ e s,¬ X.xe e s) (hc:X.calm=Eg) (S:LcOk X scope cl N' fr) (hi:PI X tg iter wi)
  (hg:∀ fp s H,PG (lD X N' scope cl fp s H) tg g) (ht:∀ fp s H,RI (lD X N' scope cl fp s H) ifs tc) (he:∀ fp s H,PE (lD X N' scope cl fp s H) elt te)
  (Xm:autoParam (swapsWith (.ListComp elt [⟨tg,iter,ifs,0⟩] scope pos) (Y (.Name y py)) Gd.line X.env=pure true) _0)
  (hs:autoParam (∀ x,foldedSetIterable iter X.env x=pure x) _6):PS X (.Assign [.Name y py] (.ListComp elt [⟨tg,iter,ifs,0⟩] scope pos) Gd) (nA (tLC wi fr g tc te) (eJ i)):=by
 intro gj s σ H D I h;have mq:=S.locs;rw[Ē]at mq;rw[exec_Assign_Name_used _ _ _ _ Xm];show Æ (Ļ (Æ ?_));change wpAny _ X.A (do let _ <- comprehension (.ListComp elt [⟨tg,iter,ifs,0⟩] scope pos) scope X.env _ (newList []) Eh (eval iter X.env) (Y (assign (.Name y py) X.env))) _ _ s;show Æ (ä (aet (use:=Y (assign (.Name y py) X.env)) (Q:=λ _ s'=>SP X gj D .next s') O hs S.clos S.kind (λ x rq hl=>by have:=mq x rq;rw[hl]at this;simpa using this)
  (cK (hi gj s σ H _ I h) λ v s1 h1=>cK h1 λ Fr s2 h2=>?_)) (λ _ s' hq=>Ë (Ë hq)) λ _ _ e=>e)
 let⟨it,fp,tn,J,H2,e,I2,T,Cm,f2,ja⟩:=h2;subst e;show CJ (RR:=λ md C=>compPost (model X.prog X.w) X.A X.xe (Y (assign (.Name y py) X.env)) (λ _ s'=>SP X gj D .next s') md C) hx hc S hg ht he I2 T Cm f2 ja ?_;intro Da C H' s' m' I' q hn f;change wpAny _ X.A (assign (.Name y py) X.env (.ref Da)) _ _ _;show wpAny_assign_Name (wY I' hN hy (.inl hk) (v:=.ref Da) O (λ ve Xn xu=>?_) (.inr hk));let⟨a,qr,ha⟩:=xu;have Xo:a≠C:=by
  rcases ha with e|e
  ·rw[e];show Ne.symm f.2.1
  ·show f.2.2.2.2.1 _ _ e
 show⟨m',hn.sameBut qr (Ne.symm Xo),λ h' De=>⟨_,H',Xn.letgo f De,q⟩⟩
end
end L2
namespace TwZ
open PySem
open Sem (wp)
def dZ (h:Heap) (t:Bool) (it a:Á) (i:Nat):Prop:=if t=Eg then h.IsTupleIter it a i else h.IsListIter it a i
def bV (h:Heap) (t:Bool) (a:Á) (items:Array À):Prop:=if t=Eg then h.IsTuple a items else h.IsList a items
theorem dZ.at  (x:dZ h t it a i) (k:∀ o,h.get? it=Y o->h'.get? it=Y o):dZ h' t it a i:=by
 cases t <;> (let⟨o,ho,r⟩:=x;show⟨o,k o ho,r⟩)
theorem ex {b c:Á} (hs:Heap.SameBut b h h') (hc:@Ne Nat c b) (e:h.get? c=Y o):h'.get? c=Y o:=hs.extBut _ _ hc e
theorem dZ.ext {it a b:Á} (x:dZ h t it a i) (hs:Heap.SameBut b h h') (xh:@Ne Nat it b):dZ h' t it a i:=x.at λ o e=>hs.extBut _ _ xh e
theorem bV.at  (x:bV h t a xs) (k:∀ o,h.get? a=Y o->h'.get? a=Y o):bV h' t a xs:=by
 cases t <;> (let⟨o,ho,r⟩:=x;show⟨o,k o ho,r⟩)
theorem bV.ext {a b:Á} (x:bV h t a xs) (hs:Heap.SameBut b h h') (xh:@Ne Nat a b):bV h' t a xs:=x.at λ o e=>hs.extBut _ _ xh e
theorem bV.lt  (x:bV h t a xs):a < h.objs.size:=by
 cases t <;> (let⟨o,ho,r⟩:=x;show Ô ho)
theorem dZ.obj  (x:dZ h t it a i):∃ o,h.get? it=Y o/\∀ v,o.data≠.cell v:=by
 cases t <;> (let⟨o,ho,_,d⟩:=x;show⟨o,ho,λ v z=>by rw[d]at z;cases z⟩)
section
variable {prog:Ã}{M:Model}{A:Around}{E:À->Â->Prop}{s:Â}
theorem rK {a:Á}{Q:Option Obj->Â->Prop} (h:Q (s.heap.get? a) s):wpAny M A (loadIfAlive a) Q E s:=λ Γ p _=>by
 unfold loadIfAlive;rw[Sem.wp_loadIfAlive];show h
theorem pK {it l:Á}{items}{x:À}{Q:À->Â->Prop} (hit:s.heap.IsTupleIter it l i)
  (hl:s.heap.IsTuple l items) (hx:items[i]?=Y x)
  (hQ:∀ h',h'.IsTupleIter it l (i+1)->Heap.SameBut it s.heap h'->Q x { s with heap:=h' }) :
  wpAny (model prog w) A (Builtin.SmallTypes.nextOf (.ref it)) Q E s:=by
 let⟨o,ho,hc,hd⟩:=id hit;let⟨ol,Bt,_,nl,Ge⟩:=hl;unfold Builtin.SmallTypes.nextOf;show Æ (Ĵ (name:=Str.ofString "__next__") hit.typeIs ť
  (ē ť hit.typeIs F.entry_tuple_iterator_next ?_ (afv _)))
 change wpAny _ _ (field (.ref it) 0 >>= _) _ _ s;show Æ (ê ho hd (x:=.ref l) O ?_);change wpAny _ _ (if (Value.ref l == Value.none)=Eg then _ else _) _ _ s;rw[Ä (show ¬ ((Value.ref l == Value.none)=Eg) from ã)];change wpAny _ _ (field (.ref it) 1 >>= _) _ _ s;show Æ (ê ho hd (x:=.int i 0) O ?_);change wpAny _ _ (seqItems? (.ref l) >>= _) _ _ s;show Æ (ā Bt Ge ?_);simp only [ı,hx];show Æ (wpAny_setField ho hd G0 (Ë ⟨x,O,Ë (hQ _ ?_ (Ł ..))⟩));show⟨_,Ş _ ho (Obj.isFreed_of_fields (Obj.data_mapFields hd _)),(Obj.cls_mapFields ..).trans hc,by
  rw[Obj.data_mapFields hd];simp[rawInt]⟩
theorem qT {it l:Á}{items}{Q:À->Â->Prop} (hh:A.handled=W)
  (hit:s.heap.IsTupleIter it l i) (hl:s.heap.IsTuple l items) (hx:items[i]?=W)
  (hE:∀ h' e,Heap.ExtBut it s.heap h'->(∃ o,h'.get? e=Y o/\o.cls=.type "StopIteration")->E (.ref e) { s with heap:=h' }) :
  wpAny (model prog w) A (Builtin.SmallTypes.nextOf (.ref it)) Q E s:=by
 let⟨o,ho,hc,hd⟩:=id hit;let⟨ol,Bt,_,nl,Ge⟩:=hl;unfold Builtin.SmallTypes.nextOf;show Æ (Ĵ (name:=Str.ofString "__next__") hit.typeIs ť
  (ē ť hit.typeIs F.entry_tuple_iterator_next ?_ (afv _)))
 change wpAny _ _ (field (.ref it) 0 >>= _) _ _ s;show Æ (ê ho hd (x:=.ref l) O ?_);change wpAny _ _ (if (Value.ref l==Value.none)=Eg then _ else _) _ _ s;rw[Ä (show ¬ ((Value.ref l==Value.none)=Eg)from ã)];change wpAny _ _ (field (.ref it) 1 >>= _) _ _ s;show Æ (ê ho hd (x:=.int i 0) O ?_);change wpAny _ _ (seqItems? (.ref l) >>= _) _ _ s;show Æ (ā Bt Ge ?_);simp only[ı,hx];show Æ (Č (Æ (wpAny_setField ho hd G0 ?_)));change wpAny _ _ (newExc (.type "StopIteration") [] >>= _) _ _ _;show Æ ?_;simp only[newExc,newTuple];show Æ (Ğ ?_ (by size_fits));show Æ (m:=firstArgMember _ _) (wpAny_of_eq (a:=Value.none) (by first|rfl|(simp only[firstArgMember];rfl)) ?_);show Ğ ?_ (by size_fits);simp only[raiseNew];show Æ (wpAny_handled ?_)
 first|rw[show A.in1.handled=W from hh]|rw[hh]
 show Æ (Ë (wpAny_throw ?_));show hE _ _ (((Ł ..).extBut.push _).push _) ⟨_,á _ O,O⟩
theorem bM {items}{Q:À->Â->Prop} (hit:dZ s.heap t it l i)
  (hl:bV s.heap t l items) (hx:items[i]?=Y x)
  (hQ:∀ h',dZ h' t it l (i+1)->Heap.SameBut it s.heap h'->Q x { s with heap:=h' }) :
  wpAny (model prog w) A (Builtin.SmallTypes.nextOf (.ref it)) Q E s:=by
 cases t with
 |true=>show pK hit hl hx hQ
 |false=>show wpAny_nextOf_list_item hit hl hx hQ
theorem dI {items}{Q:À->Â->Prop} (hh:A.handled=W)
  (hit:dZ s.heap t it l i) (hl:bV s.heap t l items) (hx:items[i]?=W)
  (hE:∀ h' e,Heap.ExtBut it s.heap h'->(∃ o,h'.get? e=Y o/\o.cls=.type "StopIteration")->E (.ref e) { s with heap:=h' }) :
  wpAny (model prog w) A (Builtin.SmallTypes.nextOf (.ref it)) Q E s:=by
 cases t with
 |true=>show qT hh hit hl hx hE
 |false=>show wpAny_nextOf_list_end hh hit hl hx hE
abbrev oH (h:Heap) (z TI TO:Á) (f0:À) (f1:Bool):Prop:=
 h.get? z=Y { cls:=.type "zip",dict:=W,data:=.fields #[f0,.bool f1,.bool Eh,.ref TI,.ref TO],slots:=#[] }
abbrev dP (h:Heap) (T:Á) (vs:Array À):Prop:=h.get? T=Y { cls:=.type "tuple",data:=.seq vs }
def hW (f0:À):Prop:=f0=.none\/∃ a:Int,f0=.int a 0
theorem kK {Q:Bool->Â->Prop} (hz:oH s.heap z TI TO f0 f1) (hf:hW f0) (yes:Q Eg s)
  (no:∀ h',oH h' z TI TO f0 Eg->Heap.SameBut z s.heap h'->Q Eh { s with heap:=h' }):wpAny (model prog w) A (Builtin.SmallTypes.ownedTupleIsFree (.ref z)) Q E s:=by
 unfold Builtin.SmallTypes.ownedTupleIsFree;show Æ (ê hz O (x:=f0) O ?_);rcases hf with rfl|⟨a,rfl⟩
 ·show Ë yes
 ·show Æ (rK ?_);cases h:s.heap.get? a.toNat with
  |none=>show Ë yes
  |some o=>
   change wpAny _ _ (field (.ref z) 1 >>= _) _ _ _;show Æ (ê hz O (x:=.bool f1) O ?_);cases f1 with
   |true=>show Ë (no s.heap hz (ŵ ..))
   |false=>
    change wpAny _ _ (setField (.ref z) 1 (.bool Eg) >>= _) _ _ _;show Æ (Ā hz G0 λ h₁ ao ad=>Ë (no h₁ ao ad))
theorem GM {T:Á}{Q:Unit->Â->Prop} (hz:oH s.heap z TI TO f0 f1)
  (h:∀ h',oH h' z TI TO (rawInt T) Eh->Heap.SameBut z s.heap h'->Q () { s with heap:=h' }):wpAny (model prog w) A (Builtin.SmallTypes.ownedTupleHandOut (.ref z) (.ref T)) Q E s:=by
 unfold Builtin.SmallTypes.ownedTupleHandOut;show Æ (Ā hz G0 λ h₁ ao ad=>?_);replace ao:oH h₁ z TI TO (rawInt T) f1:=ao;show Ā ao G0 λ ap cr af=>?_;show h ap cr (Heap.SameBut.trans ad af)
theorem iY {T:Á}{vs:Array À}{x:À}{k:Nat}{Q:Unit->Â->Prop} (hT:dP s.heap T vs) (h3:vs.size<=3)
  (h:∀ h',dP h' T (vs.setIfInBounds k x)->Heap.SameBut T s.heap h'->Q () { s with heap:=h' }):wpAny (model prog w) A (updateSeq T (·.setIfInBounds k x)) Q E s:=by
 have hl:vs.size<=sizeLine:=ý h3 FZ;show wpAny_updateSeq (hz:=hl) (_hz':=by rw[Array.size_setIfInBounds];lia) hT O (h _ ?_ (Ł ..));change Heap.get? _ _=_;rw[Ş _ hT rfl];simp[Obj.mapSeq]
theorem nn {n i j:Nat} (h:i≠j):n+i≠n+j:=λ e=>h (Nat.add_left_cancel e)
theorem n0  (h:0 < j):n≠n+j:=λ e=>absurd e (â (Nat.lt_add_of_pos_right h))
theorem n0'  (h:0 < j):n+j≠n:=Ne.symm (n0 h)
theorem al  (h:a < n) (j:Nat):a≠n+j:=â (ï h (ķ n j))
theorem al0 {a n:Nat} (h:a < n):a≠n:=â h
theorem co {c n m k:Nat} (h:c < n\/n+m < c) (hk:k<=m):c≠n+k:=λ e=>h.elim (λ h=>absurd e (al h k)) λ h=>absurd (agd (Nat.add_le_add_left hk n) h) (by rw[e];show ċ _)
theorem co0 {c n m:Nat} (h:c < n\/n+m < c):c≠n:=co (k:=0) h (à m)
theorem aV  (h:@Ne Nat a b:=by first|show nn FZ|show n0 FZ|show n0' FZ|show al l1 _|show al l2 _|show al l3 _|show al0 l1|show al0 l2|show al0 l3|show co hc FZ|show co0 hc|lia):@Ne Nat a b:=h
theorem HJ {n a1 a2 a3:Nat}{f1:Bool}{Q:À->Â->Prop} (hf:hW f0)
  (hz:oH s.heap (n+5) (n+3) (n+4) f0 f1) (li:dP s.heap (n+3) #[.ref n,.ref (n+1),.ref (n+2)]) (mj:dP s.heap (n+4) #[c1,c2,c3])
  (i1:dZ s.heap t1 n a1 k) (i2:dZ s.heap t2 (n+1) a2 k) (i3:dZ s.heap t3 (n+2) a3 k) (s1:bV s.heap t1 a1 xs) (s2:bV s.heap t2 a2 ys) (s3:bV s.heap t3 a3 zs)
  (l1:a1 < n) (l2:a2 < n) (l3:a3 < n) (hx:xs[k]?=Y x) (hy:ys[k]?=Y y) (hw:zs[k]?=Y z)
  (hQ:∀(T:Nat) h' ug vw d1 d2 d3,s.heap.objs.size<=T->hW ug->oH h' (n+5) (n+3) (n+4) ug vw->dP h' (n+3) #[.ref n,.ref (n+1),.ref (n+2)]->dP h' (n+4) #[d1,d2,d3]->
   dZ h' t1 n a1 (k+1)->dZ h' t2 (n+1) a2 (k+1)->dZ h' t3 (n+2) a3 (k+1)->dP h' T #[x,y,z]->
   (∀(c:Nat) o,(c < n\/n+5 < c)->s.heap.get? c=Y o->h'.get? c=Y o)->Q (.ref T) { s with heap:=h' }) :
  wpAny (model prog w) A (Builtin.«zip.__next__» ⟨[.ref (n+5)],[]⟩) (λ fin s'=>∃ v,fin=.done (.ret v)/\Q v s') E s:=by
 have Df:n+5 < s.heap.objs.size:=Ô hz;change wpAny _ _ (field (.ref (n+5)) 2 >>= _) _ _ _;show Æ (ê hz O (x:=.bool Eh) O ?_);change wpAny _ _ (field (.ref (n+5)) 3 >>= _) _ _ _;show Æ (ê hz O (x:=.ref (n+3)) O ?_);show Æ (ā li O ?_);change wpAny _ _ (Builtin.SmallTypes.ownedTupleIsFree (.ref (n+5)) >>= _) _ _ _;show Æ (kK hz hf ?_ ?_)
 ·simp only[if_true];show Æ (Č ?_);show Æ (ê hz O (x:=.ref (n+4)) O ?_);show Æ (Ā hz G0 λ h₁ ao ad=>?_);replace ao:oH h₁ (n+5) (n+3) (n+4) .ellipsis f1:=ao;show Æ ?_;simp only[Ź,Ż,ī,Ĭ];show Æ (Æ (ğ ?_));change wpAny _ _ (Builtin.SmallTypes.nextOf (.ref n) >>= _) _ _ _;show Æ (bM (i1.ext ad aV) (s1.ext ad aV) hx λ ap bj af=>Ë ?_);have bi:dP ap (n+4) #[c1,c2,c3]:=ex af aV (ex ad aV mj);show Æ (ā bi O ?_);show Æ (iY bi G0 λ ak bf ag=>?_);replace bf:dP ak (n+4) #[x,c2,c3]:=bf;show Æ (Ġ (Ë ?_));show Æ (Æ (ğ ?_));change wpAny _ _ (Builtin.SmallTypes.nextOf (.ref (n+1)) >>= _) _ _ _;show Æ (bM (((i2.ext ad aV).ext af aV).ext ag aV) (((s2.ext ad aV).ext af aV).ext ag aV) hy λ aq cv ai=>Ë ?_);have bz:dP aq (n+4) #[x,c2,c3]:=ex ai aV bf;show Æ (ā bz O ?_);show Æ (iY bz G0 λ bc de ar=>?_);replace de:dP bc (n+4) #[x,y,c3]:=de;show Æ (Ġ (Ë ?_));show Æ (Æ (ğ ?_));change wpAny _ _ (Builtin.SmallTypes.nextOf (.ref (n+2)) >>= _) _ _ _;show Æ (bM (((((i3.ext ad aV).ext af aV).ext ag aV).ext ai aV).ext ar aV)
   (((((s3.ext ad aV).ext af aV).ext ag aV).ext ai aV).ext ar aV) hw λ cp Xp be=>Ë ?_)
  have fi:dP cp (n+4) #[x,y,c3]:=ex be aV de;show Æ (ā fi O ?_);show Æ (iY fi G0 λ az bn bg=>?_);replace bn:dP az (n+4) #[x,y,z]:=bn;show Æ (Ġ (Ë (Ë ?_)));show Æ (ā bn O ?_);show Æ (Ś ?_);have hsz:az.objs.size=s.heap.objs.size:=by rw[bg.1,be.1,ar.1,ai.1,ag.1,af.1,ad.1]
  have keep:∀(c:Nat) o,(c < n\/n+5 < c)->s.heap.get? c=Y o->az.get? c=Y o:=λ c o hc e=>
   ex bg aV (ex be aV (ex ar aV (ex ai aV (ex ag aV (ex af aV (ex ad aV e))))))
  have dt:oH az (n+5) (n+3) (n+4) .ellipsis f1:=ex bg aV (ex be aV (ex ar aV (ex ai aV (ex ag aV (ex af aV ao)))));have dk:dP az (n+3) #[.ref n,.ref (n+1),.ref (n+2)]:=ex bg aV (ex be aV (ex ar aV (ex ai aV (ex ag aV (ex af aV (ex ad aV li))))));have du:=((((bj.ext ag aV).ext ai aV).ext ar aV).ext be aV).ext bg aV;have dw:=((cv.ext ar aV).ext be aV).ext bg aV;have Xq:=Xp.ext bg aV;have gb:n+5 < az.objs.size:=by rw[hsz];show Df
  have up:∀ {c o},az.get? c=Y o->(az.push { cls:=.type "tuple",data:=.seq #[x,y,z] }).get? c=Y o:=λ e=>Ï _ e;show Æ (GM (z:=n+5) (TI:=n+3) (TO:=n+4) (f0:=.ellipsis) (f1:=f1) (up dt) λ dm dy df=>?_);have yb:∀ {c:Nat}{o},c≠n+5->az.get? c=Y o->dm.get? c=Y o:=λ hc e=>ex df hc (up e);show Ë ⟨_,O,hQ az.objs.size dm (rawInt az.objs.size) Eh x y z (by rw[hsz];show Ñ _) (.inr ⟨_,O⟩) dy (yb aV dk) (yb aV bn) (du.at λ o e=>yb aV e) (dw.at λ o e=>yb aV e) (Xq.at λ o e=>yb aV e)
   (ex df aV (á _ O)) λ c o hc e=>yb aV (keep c o hc e)⟩
 ·intro h₁ ao ad;simp only[ĵ,if_false];show Æ ?_;rw[<- Ņ];simp only[ī,Ĭ];show Æ (Æ (ü ?_));change wpAny _ _ (Builtin.SmallTypes.nextOf (.ref n) >>= _) _ _ _;show Æ (bM (i1.ext ad aV) (s1.ext ad aV) hx λ ap bj af=>Ë (Ë ?_));show Æ (Æ (ü ?_));change wpAny _ _ (Builtin.SmallTypes.nextOf (.ref (n+1)) >>= _) _ _ _;show Æ (bM ((i2.ext ad aV).ext af aV) ((s2.ext ad aV).ext af aV) hy λ ak fm ag=>Ë (Ë ?_));show Æ (Æ (ü ?_));change wpAny _ _ (Builtin.SmallTypes.nextOf (.ref (n+2)) >>= _) _ _ _;show Æ (bM (((i3.ext ad aV).ext af aV).ext ag aV) (((s3.ext ad aV).ext af aV).ext ag aV) hw λ aq Xr ai=>Ë (Ë (Ë ?_)));show Æ (Ś (hsz:=by change 3<=sizeLine;decide) (Ë ⟨_,O,?_⟩));have hsz:aq.objs.size=s.heap.objs.size:=by rw[ai.1,ag.1,af.1,ad.1]
  have up:∀ {c o},aq.get? c=Y o->(aq.push { cls:=.type "tuple",data:=.seq #[x,y,z] }).get? c=Y o:=λ e=>Ï _ e;have keep:∀ (c:Nat) o,(c < n\/n+5 < c)->s.heap.get? c=Y o->aq.get? c=Y o:=λ c o hc e=>ex ai aV (ex ag aV (ex af aV (ex ad aV e)));show hQ aq.objs.size (aq.push { cls:=.type "tuple",data:=.seq #[x,y,z] }) f0 Eg c1 c2 c3 (by rw[hsz];show Ñ _) hf (up (ex ai aV (ex ag aV (ex af aV ao))))
   (up (ex ai aV (ex ag aV (ex af aV (ex ad aV li))))) (up (ex ai aV (ex ag aV (ex af aV (ex ad aV mj)))))
   (((bj.ext ag aV).ext ai aV).at λ o e=>up e) ((fm.ext ai aV).at λ o e=>up e) (Xr.at λ o e=>up e) (á _ rfl) λ c o hc e=>up (keep c o hc e)
theorem KB {n a1 a2 a3:Nat}{f1:Bool}{Q:Fin->Â->Prop} (hh:A.handled=W) (hf:hW f0)
  (hz:oH s.heap (n+5) (n+3) (n+4) f0 f1) (li:dP s.heap (n+3) #[.ref n,.ref (n+1),.ref (n+2)]) (mj:dP s.heap (n+4) #[c1,c2,c3])
  (i1:dZ s.heap t1 n a1 k) (i2:dZ s.heap t2 (n+1) a2 k) (i3:dZ s.heap t3 (n+2) a3 k) (s1:bV s.heap t1 a1 xs) (s2:bV s.heap t2 a2 ys) (s3:bV s.heap t3 a3 zs)
  (l1:a1 < n) (l2:a2 < n) (l3:a3 < n) (qu:xs[k]?=W\/ys[k]?=W\/zs[k]?=W)
  (hE:∀ h' e,(∀(c:Nat) o,(c < n\/n+5 < c)->s.heap.get? c=Y o->h'.get? c=Y o)->(∃ o,h'.get? e=Y o/\o.cls=.type "StopIteration")->E (.ref e) { s with heap:=h' }) :
  wpAny (model prog w) A (Builtin.«zip.__next__» ⟨[.ref (n+5)],[]⟩) Q E s:=by
 change wpAny _ _ (field (.ref (n+5)) 2 >>= _) _ _ _;show Æ (ê hz O (x:=.bool Eh) O ?_);change wpAny _ _ (field (.ref (n+5)) 3 >>= _) _ _ _;show Æ (ê hz O (x:=.ref (n+3)) O ?_);show Æ (ā li O ?_);change wpAny _ _ (Builtin.SmallTypes.ownedTupleIsFree (.ref (n+5)) >>= _) _ _ _;show Æ (kK hz hf ?_ ?_)
 ·simp only[if_true];show Æ (Č ?_);show Æ (ê hz O (x:=.ref (n+4)) O ?_);show Æ (Ā hz G0 λ h₁ ao ad=>?_);replace ao:oH h₁ (n+5) (n+3) (n+4) .ellipsis f1:=ao;show Æ ?_;simp only[Ź,Ż,ī,Ĭ];have fin:∀ {ap ak:Heap}{e j:Nat}{oe:Obj},oH ap (n+5) (n+3) (n+4) .ellipsis f1->Heap.ExtBut j ap ak->@Ne Nat (n+5) j->(n<=j/\j<=n+5)->(∀(c:Nat) o,(c < n\/n+5 < c)->s.heap.get? c=Y o->ap.get? c=Y o)->ak.get? e=Y oe->oe.cls=.type "StopIteration" ->
    wpAny (model prog w) A (setField (.ref (n+5)) 0 .none) (λ _ s'=>E (.ref e) s') E { s with heap:=ak }:=λ {ap ak e j oe} cr hx hj hr hk sv vz=>by
   have bv:oH ak (n+5) (n+3) (n+4) .ellipsis f1:=hx _ _ hj cr;have Mz:e≠n+5:=λ q=>by subst q;rw[bv]at sv;cases sv;simp at vz
   show Ā bv G0 λ aq _ ai=>hE aq e (λ c o hc q=>ex ai aV (hx c o (show @Ne Nat c j by lia) (hk c o hc q))) ⟨oe,ai.extBut _ _ Mz sv,vz⟩
  show Æ (Æ (ğ ?_));change wpAny _ _ (Builtin.SmallTypes.nextOf (.ref n) >>= _) _ _ _;cases hx:xs[k]? with
  |none=>
   show Æ (dI hh (i1.ext ad aV) (s1.ext ad aV) hx λ ap e af he=>?_);let⟨oe,sv,vz⟩:=he;show fin ao af aV Fn (λ c o hc q=>ex ad aV q) sv vz
  |some x=>
   show Æ (bM (i1.ext ad aV) (s1.ext ad aV) hx λ ap bj af=>Ë ?_);have bi:dP ap (n+4) #[c1,c2,c3]:=ex af aV (ex ad aV mj);show Æ (ā bi O ?_);show Æ (iY bi G0 λ ak bf ag=>?_);replace bf:dP ak (n+4) #[x,c2,c3]:=bf;show Æ (Ġ (Ë ?_));have bv:oH ak (n+5) (n+3) (n+4) .ellipsis f1:=ex ag aV (ex af aV ao);have dz:∀(c:Nat) o,(c < n\/n+5 < c)->s.heap.get? c=Y o->ak.get? c=Y o:=λ c o hc e=>ex ag aV (ex af aV (ex ad aV e));show Æ (Æ (ğ ?_));change wpAny _ _ (Builtin.SmallTypes.nextOf (.ref (n+1)) >>= _) _ _ _;cases hy:ys[k]? with
   |none=>
    show Æ (dI hh (((i2.ext ad aV).ext af aV).ext ag aV) (((s2.ext ad aV).ext af aV).ext ag aV) hy λ aq e ai he=>?_);let⟨oe,sv,vz⟩:=he;show fin bv ai aV Fn dz sv vz
   |some y=>
    have hw:zs[k]?=none:=by rcases qu with h|h|h;rw[hx]at h;cases h;rw[hy]at h;cases h;show h
    show Æ (bM (((i2.ext ad aV).ext af aV).ext ag aV) (((s2.ext ad aV).ext af aV).ext ag aV) hy λ aq cv ai=>Ë ?_);have bz:dP aq (n+4) #[x,c2,c3]:=ex ai aV bf;show Æ (ā bz O ?_);show Æ (iY bz G0 λ bc de ar=>?_);show Æ (Ġ (Ë ?_));show Æ (Æ (ğ ?_));change wpAny _ _ (Builtin.SmallTypes.nextOf (.ref (n+2)) >>= _) _ _ _;show Æ (dI hh (((((i3.ext ad aV).ext af aV).ext ag aV).ext ai aV).ext ar aV)
     (((((s3.ext ad aV).ext af aV).ext ag aV).ext ai aV).ext ar aV) hw λ cp e be he=>?_)
    let⟨oe,sv,vz⟩:=he;show fin (ex ar aV (ex ai aV bv)) be aV Fn (λ c o hc q=>ex ar aV (ex ai aV (dz c o hc q))) sv vz
 ·intro h₁ ao ad;simp only[ĵ,if_false];show Æ ?_;rw[<- Ņ];simp only[ī,Ĭ];show Æ (Æ (ü ?_));change wpAny _ _ (Builtin.SmallTypes.nextOf (.ref n) >>= _) _ _ _;cases hx:xs[k]? with
  |none=>
   show Æ (dI hh (i1.ext ad aV) (s1.ext ad aV) hx λ ap e af he=>?_);show hE ap e (λ c o hc q=>af c o (show @Ne Nat c n by lia) (ex ad aV q)) he
  |some x=>
   show Æ (bM (i1.ext ad aV) (s1.ext ad aV) hx λ ap bj af=>Ë (Ë ?_));show Æ (Æ (ü ?_));change wpAny _ _ (Builtin.SmallTypes.nextOf (.ref (n+1)) >>= _) _ _ _;cases hy:ys[k]? with
   |none=>
    show Æ (dI hh ((i2.ext ad aV).ext af aV) ((s2.ext ad aV).ext af aV) hy λ ak e ag he=>?_);show hE ak e (λ c o hc q=>ag c o (show @Ne Nat c (n+1) by lia) (ex af aV (ex ad aV q))) he
   |some y=>
    have hw:zs[k]?=none:=by rcases qu with h|h|h;rw[hx]at h;cases h;rw[hy]at h;cases h;show h
    show Æ (bM ((i2.ext ad aV).ext af aV) ((s2.ext ad aV).ext af aV) hy λ ak fm ag=>Ë (Ë ?_));show Æ (Æ (ü ?_));change wpAny _ _ (Builtin.SmallTypes.nextOf (.ref (n+2)) >>= _) _ _ _;show Æ (dI hh (((i3.ext ad aV).ext af aV).ext ag aV) (((s3.ext ad aV).ext af aV).ext ag aV) hw λ aq e ai he=>?_);show hE aq e (λ c o hc q=>ai c o (show @Ne Nat c (n+2) by lia) (ex ag aV (ex af aV (ex ad aV q)))) he
theorem HK {n a1 a2:Nat}{f1:Bool}{Q:À->Â->Prop} (hf:hW f0)
  (hz:oH s.heap (n+4) (n+2) (n+3) f0 f1) (li:dP s.heap (n+2) #[.ref n,.ref (n+1)]) (mj:dP s.heap (n+3) #[c1,c2])
  (i1:dZ s.heap t1 n a1 k) (i2:dZ s.heap t2 (n+1) a2 k) (s1:bV s.heap t1 a1 xs) (s2:bV s.heap t2 a2 ys)
  (l1:a1 < n) (l2:a2 < n) (hx:xs[k]?=Y x) (hy:ys[k]?=Y y)
  (hQ:∀(T:Nat) h' ug vw d1 d2,s.heap.objs.size<=T->hW ug->oH h' (n+4) (n+2) (n+3) ug vw->dP h' (n+2) #[.ref n,.ref (n+1)]->dP h' (n+3) #[d1,d2]->
   dZ h' t1 n a1 (k+1)->dZ h' t2 (n+1) a2 (k+1)->dP h' T #[x,y]->
   (∀(c:Nat) o,(c < n\/n+4 < c)->s.heap.get? c=Y o->h'.get? c=Y o)->Q (.ref T) { s with heap:=h' }) :
  wpAny (model prog w) A (Builtin.«zip.__next__» ⟨[.ref (n+4)],[]⟩) (λ fin s'=>∃ v,fin=.done (.ret v)/\Q v s') E s:=by
 have Df:n+4 < s.heap.objs.size:=Ô hz;change wpAny _ _ (field (.ref (n+4)) 2 >>= _) _ _ _;show Æ (ê hz O (x:=.bool Eh) O ?_);change wpAny _ _ (field (.ref (n+4)) 3 >>= _) _ _ _;show Æ (ê hz O (x:=.ref (n+2)) O ?_);show Æ (ā li O ?_);change wpAny _ _ (Builtin.SmallTypes.ownedTupleIsFree (.ref (n+4)) >>= _) _ _ _;show Æ (kK hz hf ?_ ?_)
 ·simp only[if_true];show Æ (Č ?_);show Æ (ê hz O (x:=.ref (n+3)) O ?_);show Æ (Ā hz G0 λ h₁ ao ad=>?_);replace ao:oH h₁ (n+4) (n+2) (n+3) .ellipsis f1:=ao;show Æ ?_;simp only[Ź,Ż,ī,Ĭ];show Æ (Æ (ğ ?_));change wpAny _ _ (Builtin.SmallTypes.nextOf (.ref n) >>= _) _ _ _;show Æ (bM (i1.ext ad aV) (s1.ext ad aV) hx λ ap bj af=>Ë ?_);have bi:dP ap (n+3) #[c1,c2]:=ex af aV (ex ad aV mj);show Æ (ā bi O ?_);show Æ (iY bi G0 λ ak bf ag=>?_);replace bf:dP ak (n+3) #[x,c2]:=bf;show Æ (Ġ (Ë ?_));show Æ (Æ (ğ ?_));change wpAny _ _ (Builtin.SmallTypes.nextOf (.ref (n+1)) >>= _) _ _ _;show Æ (bM (((i2.ext ad aV).ext af aV).ext ag aV) (((s2.ext ad aV).ext af aV).ext ag aV) hy λ aq cv ai=>Ë ?_);have bz:dP aq (n+3) #[x,c2]:=ex ai aV bf;show Æ (ā bz O ?_);show Æ (iY bz G0 λ az bn bg=>?_);replace bn:dP az (n+3) #[x,y]:=bn;show Æ (Ġ (Ë (Ë ?_)));show Æ (ā bn O ?_);show Æ (Ś ?_);have hsz:az.objs.size=s.heap.objs.size:=by rw[bg.1,ai.1,ag.1,af.1,ad.1]
  have keep:∀(c:Nat) o,(c < n\/n+4 < c)->s.heap.get? c=Y o->az.get? c=Y o:=λ c o hc e=>
   ex bg aV (ex ai aV (ex ag aV (ex af aV (ex ad aV e))))
  have dt:oH az (n+4) (n+2) (n+3) .ellipsis f1:=ex bg aV (ex ai aV (ex ag aV (ex af aV ao)));have dk:dP az (n+2) #[.ref n,.ref (n+1)]:=ex bg aV (ex ai aV (ex ag aV (ex af aV (ex ad aV li))));have du:=((bj.ext ag aV).ext ai aV).ext bg aV;have dw:=cv.ext bg aV;have gb:n+4 < az.objs.size:=by rw[hsz];show Df
  have up:∀ {c o},az.get? c=Y o->(az.push { cls:=.type "tuple",data:=.seq #[x,y] }).get? c=Y o:=λ e=>Ï _ e;show Æ (GM (z:=n+4) (TI:=n+2) (TO:=n+3) (f0:=.ellipsis) (f1:=f1) (up dt) λ dm dy df=>?_);have yb:∀ {c:Nat}{o},c≠n+4->az.get? c=Y o->dm.get? c=Y o:=λ hc e=>ex df hc (up e);show Ë ⟨_,O,hQ az.objs.size dm (rawInt az.objs.size) Eh x y (by rw[hsz];show Ñ _) (.inr ⟨_,O⟩) dy (yb aV dk) (yb aV bn) (du.at λ o e=>yb aV e) (dw.at λ o e=>yb aV e)
   (ex df aV (á _ O)) λ c o hc e=>yb aV (keep c o hc e)⟩
 ·intro h₁ ao ad;simp only[ĵ,if_false];show Æ ?_;rw[<- Ņ];simp only[ī,Ĭ];show Æ (Æ (ü ?_));change wpAny _ _ (Builtin.SmallTypes.nextOf (.ref n) >>= _) _ _ _;show Æ (bM (i1.ext ad aV) (s1.ext ad aV) hx λ ap bj af=>Ë (Ë ?_));show Æ (Æ (ü ?_));change wpAny _ _ (Builtin.SmallTypes.nextOf (.ref (n+1)) >>= _) _ _ _;show Æ (bM ((i2.ext ad aV).ext af aV) ((s2.ext ad aV).ext af aV) hy λ aq cv ai=>Ë (Ë (Ë ?_)));show Æ (Ś (hsz:=by change 2<=sizeLine;decide) (Ë ⟨_,O,?_⟩));have hsz:aq.objs.size=s.heap.objs.size:=by rw[ai.1,af.1,ad.1]
  have up:∀ {c o},aq.get? c=Y o->(aq.push { cls:=.type "tuple",data:=.seq #[x,y] }).get? c=Y o:=λ e=>Ï _ e;have keep:∀ (c:Nat) o,(c < n\/n+4 < c)->s.heap.get? c=Y o->aq.get? c=Y o:=λ c o hc e=>ex ai aV (ex af aV (ex ad aV e));show hQ aq.objs.size (aq.push { cls:=.type "tuple",data:=.seq #[x,y] }) f0 Eg c1 c2 (by rw[hsz];show Ñ _) hf (up (ex ai aV (ex af aV ao)))
   (up (ex ai aV (ex af aV (ex ad aV li)))) (up (ex ai aV (ex af aV (ex ad aV mj))))
   ((bj.ext ai aV).at λ o e=>up e) (cv.at λ o e=>up e) (á _ rfl) λ c o hc e=>up (keep c o hc e)
theorem KC {n a1 a2:Nat}{f1:Bool}{Q:Fin->Â->Prop} (hh:A.handled=W) (hf:hW f0)
  (hz:oH s.heap (n+4) (n+2) (n+3) f0 f1) (li:dP s.heap (n+2) #[.ref n,.ref (n+1)]) (mj:dP s.heap (n+3) #[c1,c2])
  (i1:dZ s.heap t1 n a1 k) (i2:dZ s.heap t2 (n+1) a2 k) (s1:bV s.heap t1 a1 xs) (s2:bV s.heap t2 a2 ys)
  (l1:a1 < n) (l2:a2 < n) (qu:xs[k]?=W\/ys[k]?=W)
  (hE:∀ h' e,(∀(c:Nat) o,(c < n\/n+4 < c)->s.heap.get? c=Y o->h'.get? c=Y o)->(∃ o,h'.get? e=Y o/\o.cls=.type "StopIteration")->E (.ref e) { s with heap:=h' }) :
  wpAny (model prog w) A (Builtin.«zip.__next__» ⟨[.ref (n+4)],[]⟩) Q E s:=by
 change wpAny _ _ (field (.ref (n+4)) 2 >>= _) _ _ _;show Æ (ê hz O (x:=.bool Eh) O ?_);change wpAny _ _ (field (.ref (n+4)) 3 >>= _) _ _ _;show Æ (ê hz O (x:=.ref (n+2)) O ?_);show Æ (ā li O ?_);change wpAny _ _ (Builtin.SmallTypes.ownedTupleIsFree (.ref (n+4)) >>= _) _ _ _;show Æ (kK hz hf ?_ ?_)
 ·simp only[if_true];show Æ (Č ?_);show Æ (ê hz O (x:=.ref (n+3)) O ?_);show Æ (Ā hz G0 λ h₁ ao ad=>?_);replace ao:oH h₁ (n+4) (n+2) (n+3) .ellipsis f1:=ao;show Æ ?_;simp only[Ź,Ż,ī,Ĭ];have fin:∀ {ap ak:Heap}{e j:Nat}{oe:Obj},oH ap (n+4) (n+2) (n+3) .ellipsis f1->Heap.ExtBut j ap ak->@Ne Nat (n+4) j->(n<=j/\j<=n+4)->(∀(c:Nat) o,(c < n\/n+4 < c)->s.heap.get? c=Y o->ap.get? c=Y o)->ak.get? e=Y oe->oe.cls=.type "StopIteration" ->
    wpAny (model prog w) A (setField (.ref (n+4)) 0 .none) (λ _ s'=>E (.ref e) s') E { s with heap:=ak }:=λ {ap ak e j oe} cr hx hj hr hk sv vz=>by
   have bv:oH ak (n+4) (n+2) (n+3) .ellipsis f1:=hx _ _ hj cr;have Mz:e≠n+4:=λ q=>by subst q;rw[bv]at sv;cases sv;simp at vz
   show Ā bv G0 λ aq _ ai=>hE aq e (λ c o hc q=>ex ai aV (hx c o (show @Ne Nat c j by lia) (hk c o hc q))) ⟨oe,ai.extBut _ _ Mz sv,vz⟩
  show Æ (Æ (ğ ?_));change wpAny _ _ (Builtin.SmallTypes.nextOf (.ref n) >>= _) _ _ _;cases hx:xs[k]? with
  |none=>
   show Æ (dI hh (i1.ext ad aV) (s1.ext ad aV) hx λ ap e af he=>?_);let⟨oe,sv,vz⟩:=he;show fin ao af aV Fn (λ c o hc q=>ex ad aV q) sv vz
  |some x=>
   have hy:ys[k]?=none:=by rcases qu with h|h;rw[hx]at h;cases h;show h
   show Æ (bM (i1.ext ad aV) (s1.ext ad aV) hx λ ap bj af=>Ë ?_);have bi:dP ap (n+3) #[c1,c2]:=ex af aV (ex ad aV mj);show Æ (ā bi O ?_);show Æ (iY bi G0 λ ak bf ag=>?_);show Æ (Ġ (Ë ?_));have bv:oH ak (n+4) (n+2) (n+3) .ellipsis f1:=ex ag aV (ex af aV ao);have dz:∀(c:Nat) o,(c < n\/n+4 < c)->s.heap.get? c=Y o->ak.get? c=Y o:=λ c o hc e=>ex ag aV (ex af aV (ex ad aV e));show Æ (Æ (ğ ?_));change wpAny _ _ (Builtin.SmallTypes.nextOf (.ref (n+1)) >>= _) _ _ _;show Æ (dI hh (((i2.ext ad aV).ext af aV).ext ag aV) (((s2.ext ad aV).ext af aV).ext ag aV) hy λ aq e ai he=>?_);let⟨oe,sv,vz⟩:=he;show fin bv ai aV Fn dz sv vz
 ·intro h₁ ao ad;simp only[ĵ,if_false];show Æ ?_;rw[<- Ņ];simp only[ī,Ĭ];show Æ (Æ (ü ?_));change wpAny _ _ (Builtin.SmallTypes.nextOf (.ref n) >>= _) _ _ _;cases hx:xs[k]? with
  |none=>
   show Æ (dI hh (i1.ext ad aV) (s1.ext ad aV) hx λ ap e af he=>?_);show hE ap e (λ c o hc q=>af c o (show @Ne Nat c n by lia) (ex ad aV q)) he
  |some x=>
   have hy:ys[k]?=none:=by rcases qu with h|h;rw[hx]at h;cases h;show h
   show Æ (bM (i1.ext ad aV) (s1.ext ad aV) hx λ ap bj af=>Ë (Ë ?_));show Æ (Æ (ü ?_));change wpAny _ _ (Builtin.SmallTypes.nextOf (.ref (n+1)) >>= _) _ _ _;show Æ (dI hh ((i2.ext ad aV).ext af aV) ((s2.ext ad aV).ext af aV) hy λ ak e ag he=>?_);show hE ak e (λ c o hc q=>ag c o (show @Ne Nat c (n+1) by lia) (ex af aV (ex ad aV q))) he
theorem kI {Q:Option À->Â->Prop} (hz:oH s.heap z TI TO f0 f1)
  (h:wpAny (model prog w) A.in1 (Builtin.«zip.__next__» ⟨[.ref z],[]⟩) (λ fin s'=>∃ v,fin=.done (.ret v)/\Q (Y v) s') (λ e s'=>(∃ a o,e=.ref a/\s'.heap.get? a=Y o/\o.cls=.type "StopIteration")/\Q W s') s) :
  wpAny (model prog w) A (pyNext (.ref z)) Q E s:=by
 have hT:s.TypeIs (.ref z) "zip" :=⟨_,hz,rfl⟩;unfold pyNext;show Æ (wpAny_attempt (Ĵ (name:=Str.ofString "__next__") hT F.slot_zip_next
  (ē F.slot_zip_next hT F.entry_zip_next (ä h (λ fin s' h'=>?_) λ e s' h'=>?_) (F.args_zip_next_1 _))))
 ·let⟨v,rfl,q⟩:=h';show⟨v,O,Ë q⟩
 ·let⟨⟨a,o,rfl,ho,hc⟩,q⟩:=h';show Æ (agy (T :="StopIteration") (b:=Eg) ⟨o,ho,hc⟩ isSubtype_stop (Ë q))
theorem xR {z TI TO T:Á}{Q:Unit->Â->Prop} (hf:hW f0) (hz:oH s.heap z TI TO f0 f1)
  (hQ:∀ h' ug,hW ug->oH h' z TI TO ug f1->Heap.SameBut z s.heap h'->Q () { s with heap:=h' }):wpAny (model prog w) A (letOwnedTupleGo tg (.ref z) (.ref T)) Q E s:=by
 have same:Q () s:=hQ s.heap f0 hf hz (ŵ ..);have core:wpAny (model prog w) A (do
   let o <- load z
   match o.cls,o.data with
   |.type n,.fields vs=>
    if ["enumerate","zip","dict_itemiterator","dict_reverseitemiterator","odict_iterator","itertools.zip_longest","itertools.pairwise"].contains n && vs[0]?==Y (rawInt T)then
     rule "for.unpacks-the-owned-tuple"
     updateField z 0 .none
   |_,_=>pure ()) Q E s:=by
  show Æ (wpAny_load hz ?_);change wpAny _ _ (if (["enumerate","zip","dict_itemiterator","dict_reverseitemiterator","odict_iterator","itertools.zip_longest","itertools.pairwise"].contains "zip" &&
   (#[f0,.bool f1,.bool Eh,.ref TI,.ref TO]:Array À)[0]?==Y (rawInt T))=Eg then _ else _) Q E s
  split
  ·show Æ (Č ?_);change wpAny _ _ (setField (.ref z) 0 .none) Q E s;show Ā hz G0 λ h' uh De=>hQ h' .none (.inl O) uh De
  ·show Ë same
 unfold letOwnedTupleGo;cases tg <;> first
  |show Ë same
  |show core
theorem kJ {Q:À->Â->Prop} (hz:oH s.heap z TI TO f0 f1) (h:Q (.ref z) s):wpAny (model prog w) A (pyIter (.ref z)) Q E s:=by
 have hT:s.TypeIs (.ref z) "zip" :=⟨_,hz,rfl⟩;show wpAny_pyIter_slot hT F.slot_zip_iter (ē F.slot_zip_iter hT F.entry_zip_iter ?_ (F.args_zip_iter_1 _));change wpAny _ _ (ret (.ref z)) _ _ s;show Ë ⟨_,O,"zip",_,hT,F.slot_zip_next.lookup,h⟩
def vO (t:Bool) (a:Á):Obj:={ cls:=.type (if t=Eg then "tuple_iterator" else "list_iterator"),data:=.fields #[.ref a,.int 0 0] }
theorem fE {Q:À->Â->Prop} (hs:bV s.heap t a items) (hQ:Q (.ref s.heap.objs.size) { s with heap:=s.heap.push (vO t a) }) :
  wpAny (model prog w) A (pyIter (.ref a)) Q E s:=by
 cases t with
 |true=>show ů hs hQ
 |false=>show agg hs hQ
theorem jT  (e:h.get? it=Y (vO t a)):dZ h t it a 0:=by
 cases t <;> show⟨_,e,O,O⟩
abbrev zA (h:Heap) (t:Bool) (a:Á):Heap:=h.push (vO t a)
abbrev OJ (h:Heap) (vs:List À):Heap:=h.push { cls:=.type "tuple",data:=.seq vs.toArray }
abbrev z2B (h:Heap) (t1 t2:Bool) (l1 l2:Á):Heap:=OJ (zA (zA h t1 l1) t2 l2) [.ref h.objs.size,.ref (zA h t1 l1).objs.size]
abbrev z2H (h:Heap) (t1 t2:Bool) (l1 l2:Á):Heap:=OJ (z2B h t1 t2 l1 l2) [.none,.none]
abbrev U0 (h:Heap) (t1 t2:Bool) (l1 l2:Á):Heap:=(z2H h t1 t2 l1 l2).push { cls:=.type "zip",data:=.fields #[.none,.bool Eh,.bool Eh,.ref (zA (zA h t1 l1) t2 l2).objs.size,.ref (z2B h t1 t2 l1 l2).objs.size] }
abbrev z3B (h:Heap) (t1 t2 t3:Bool) (l1 l2 l3:Á):Heap:=OJ (zA (zA (zA h t1 l1) t2 l2) t3 l3) [.ref h.objs.size,.ref (zA h t1 l1).objs.size,.ref (zA (zA h t1 l1) t2 l2).objs.size]
abbrev z3H (h:Heap) (t1 t2 t3:Bool) (l1 l2 l3:Á):Heap:=OJ (z3B h t1 t2 t3 l1 l2 l3) [.none,.none,.none]
abbrev RM (h:Heap) (t1 t2 t3:Bool) (l1 l2 l3:Á):Heap:=(z3H h t1 t2 t3 l1 l2 l3).push { cls:=.type "zip",data:=.fields #[.none,.bool Eh,.bool Eh,.ref (zA (zA (zA h t1 l1) t2 l2) t3 l3).objs.size,.ref (z3B h t1 t2 t3 l1 l2 l3).objs.size] }
theorem EK (t1 t2:Bool) (l1 l2:Á) (xs ys:Array À) :
  Meets (Builtin.«zip.__new__» ⟨[.type "zip",.ref l1,.ref l2],[]⟩) (λ _ R s=>bV s.heap t1 l1 xs/\bV s.heap t2 l2 ys/\
   R (.ok (.ret (.ref (z2H s.heap t1 t2 l1 l2).objs.size))) { s with heap:=U0 s.heap t1 t2 l1 l2 }):=
 .of_wp λ prog w A R s h=>by
  let⟨hp,g,d,tk,os⟩:=s;let⟨uj,xw,h⟩:=h;have yy:=sub_zip;have Nb:bV (Shared.heap ⟨hp,g,d,tk,os⟩) t1 l1 xs:=uj;have Nc:bV (Shared.heap ⟨hp.push (vO t1 l1),g,d,tk,os⟩) t2 l2 ys:=xw.at λ o e=>Ï _ e
  wp_walk using fE Nb,fE Nc
  show⟨_,O,h⟩
theorem EJ (t1 t2 t3:Bool) (l1 l2 l3:Á) (xs ys zs:Array À) :
  Meets (Builtin.«zip.__new__» ⟨[.type "zip",.ref l1,.ref l2,.ref l3],[]⟩) (λ _ R s=>bV s.heap t1 l1 xs/\bV s.heap t2 l2 ys/\bV s.heap t3 l3 zs/\
   R (.ok (.ret (.ref (z3H s.heap t1 t2 t3 l1 l2 l3).objs.size))) { s with heap:=RM s.heap t1 t2 t3 l1 l2 l3 }):=
 .of_wp λ prog w A R s h=>by
  let⟨hp,g,d,tk,os⟩:=s;let⟨uj,xw,Nd,h⟩:=h;have yy:=sub_zip;have Nb:bV (Shared.heap ⟨hp,g,d,tk,os⟩) t1 l1 xs:=uj;have Nc:bV (Shared.heap ⟨hp.push (vO t1 l1),g,d,tk,os⟩) t2 l2 ys:=xw.at λ o e=>Ï _ e;have Xs:bV (Shared.heap ⟨(hp.push (vO t1 l1)).push (vO t2 l2),g,d,tk,os⟩) t3 l3 zs:=Nd.at λ o e=>Ï _ (Ï _ e)
  wp_walk using fE Nb,fE Nc,fE Xs
  show⟨_,O,h⟩
theorem tP (a b c:À):checkTypeCall "zip" ⟨[a,b,c],[]⟩=pure ():=by kernel_rfl
theorem wM (a b c:À):checkBuiltinCall "zip.__new__" ⟨[.type "zip",a,b,c],[]⟩=pure ():=by kernel_rfl
theorem oE (a b c d:À):argsOk "object.__init__" ⟨[a,b,c,d],[]⟩:=by
 unfold argsOk;rw[signature?_of (id :="object.__init__") (n:=['_','_','t','i','n','i','_','_']) (o:=['t','c','e','j','b','o']) (by kernel_rfl) F.owner_object];kernel_rfl
theorem JO {Q:À->Â->Prop} (uj:bV s.heap t1 l1 xs) (xw:bV s.heap t2 l2 ys)
  (h:∀ h',oH h' (s.heap.objs.size+4) (s.heap.objs.size+2) (s.heap.objs.size+3) .none Eh->dP h' (s.heap.objs.size+2) #[.ref s.heap.objs.size,.ref (s.heap.objs.size+1)]->
   dP h' (s.heap.objs.size+3) #[.none,.none]->dZ h' t1 s.heap.objs.size l1 0->dZ h' t2 (s.heap.objs.size+1) l2 0->
   (∀ c o,s.heap.get? c=Y o->h'.get? c=Y o)->Q (.ref (s.heap.objs.size+4)) { s with heap:=h' }):wpAny (model prog w) A (call (.type "zip") [.ref l1,.ref l2]) Q E s:=by
 show callType_new F.called_zip FZ (F.typeCall_zip_2 _ _) (F.newCall_zip_2 _ _) (λ obj=>F.args_object_init_3 obj _ _) F.entry_zip_new (EK t1 t2 l1 l2 xs ys) ⟨uj,xw,?_⟩;generalize s.heap=h0 at *;have z1:(zA h0 t1 l1).objs.size=h0.objs.size+1:=ą ..;have z2:(zA (zA h0 t1 l1) t2 l2).objs.size=h0.objs.size+2:=by rw[ą,z1]
 have z3:(z2B h0 t1 t2 l1 l2).objs.size=h0.objs.size+3:=by rw[ą,z2]
 have z4:(z2H h0 t1 t2 l1 l2).objs.size=h0.objs.size+4:=by rw[ą,z3]
 have g5:(U0 h0 t1 t2 l1 l2).get? (z2H h0 t1 t2 l1 l2).objs.size=Y _:=á _ rfl;have g4:(U0 h0 t1 t2 l1 l2).get? (z2B h0 t1 t2 l1 l2).objs.size=Y _:=Ï _ (á _ rfl);have g3:(U0 h0 t1 t2 l1 l2).get? (zA (zA h0 t1 l1) t2 l2).objs.size=Y _:=Ï _ (Ï _ (á _ rfl));have g2:(U0 h0 t1 t2 l1 l2).get? (zA h0 t1 l1).objs.size=Y _:=Ï _ (Ï _ (Ï _ (á _ rfl)));have g1:(U0 h0 t1 t2 l1 l2).get? h0.objs.size=Y _:=Ï _ (Ï _ (Ï _ (Ï _ (á _ rfl))));change _/\_;rw[z2,z3,z4]at g5;rw[z1,z2]at g3;rw[z3]at g4;rw[z1]at g2;rw[z4];show⟨⟨_,g5,O⟩,h _ g5 g3 g4 (jT g1) (jT g2) λ c o x=>Ï _ (Ï _ (Ï _ (Ï _ (Ï _ x))))⟩
theorem JN {Q:À->Â->Prop} (uj:bV s.heap t1 l1 xs) (xw:bV s.heap t2 l2 ys) (Nd:bV s.heap t3 l3 zs)
  (h:∀ h',oH h' (s.heap.objs.size+5) (s.heap.objs.size+3) (s.heap.objs.size+4) .none Eh->dP h' (s.heap.objs.size+3) #[.ref s.heap.objs.size,.ref (s.heap.objs.size+1),.ref (s.heap.objs.size+2)]->
   dP h' (s.heap.objs.size+4) #[.none,.none,.none]->dZ h' t1 s.heap.objs.size l1 0->dZ h' t2 (s.heap.objs.size+1) l2 0->dZ h' t3 (s.heap.objs.size+2) l3 0->
   (∀ c o,s.heap.get? c=Y o->h'.get? c=Y o)->Q (.ref (s.heap.objs.size+5)) { s with heap:=h' }):wpAny (model prog w) A (call (.type "zip") [.ref l1,.ref l2,.ref l3]) Q E s:=by
 show callType_new F.called_zip FZ (tP _ _ _) (wM _ _ _) (λ obj=>oE obj _ _ _) F.entry_zip_new (EJ t1 t2 t3 l1 l2 l3 xs ys zs) ⟨uj,xw,Nd,?_⟩;generalize s.heap=h0 at *;have z1:(zA h0 t1 l1).objs.size=h0.objs.size+1:=ą ..;have z2:(zA (zA h0 t1 l1) t2 l2).objs.size=h0.objs.size+2:=by rw[ą,z1]
 have Nf:(zA (zA (zA h0 t1 l1) t2 l2) t3 l3).objs.size=h0.objs.size+3:=by rw[ą,z2]
 have z3:(z3B h0 t1 t2 t3 l1 l2 l3).objs.size=h0.objs.size+4:=by rw[ą,Nf]
 have z4:(z3H h0 t1 t2 t3 l1 l2 l3).objs.size=h0.objs.size+5:=by rw[ą,z3]
 have g5:(RM h0 t1 t2 t3 l1 l2 l3).get? (z3H h0 t1 t2 t3 l1 l2 l3).objs.size=Y _:=á _ rfl;have g4:(RM h0 t1 t2 t3 l1 l2 l3).get? (z3B h0 t1 t2 t3 l1 l2 l3).objs.size=Y _:=Ï _ (á _ rfl);have g3:(RM h0 t1 t2 t3 l1 l2 l3).get? (zA (zA (zA h0 t1 l1) t2 l2) t3 l3).objs.size=Y _:=Ï _ (Ï _ (á _ rfl));have Kl:(RM h0 t1 t2 t3 l1 l2 l3).get? (zA (zA h0 t1 l1) t2 l2).objs.size=Y _:=Ï _ (Ï _ (Ï _ (á _ rfl)));have g2:(RM h0 t1 t2 t3 l1 l2 l3).get? (zA h0 t1 l1).objs.size=Y _:=Ï _ (Ï _ (Ï _ (Ï _ (á _ rfl))));have g1:(RM h0 t1 t2 t3 l1 l2 l3).get? h0.objs.size=Y _:=Ï _ (Ï _ (Ï _ (Ï _ (Ï _ (á _ rfl)))));change _/\_;rw[Nf,z3,z4]at g5;rw[z1,z2,Nf]at g3;rw[z3]at g4;rw[z2]at Kl;rw[z1]at g2;rw[z4];show⟨⟨_,g5,O⟩,h _ g5 g3 g4 (jT g1) (jT g2) (jT Kl) λ c o x=>Ï _ (Ï _ (Ï _ (Ï _ (Ï _ (Ï _ x)))))⟩
end
end TwZ
namespace TwZ
open PySem
open Sem (wp)
open AutoSeq1 (wpAny_loadPart')
section
variable {prog:Ã}{M:Model}{A:Around}{E:À->Â->Prop}{s:Â}
abbrev jF (h:Heap) (e it:Á) (f0:À) (f1:Bool) (i:Int) (ju:À):Prop:=
 h.get? e=Y { cls:=.type "enumerate",dict:=W,data:=.fields #[f0,.bool f1,.ref it,rawInt i,.none,ju],slots:=#[] }
theorem BV {Q:Bool->Â->Prop} (hz:jF s.heap e it f0 f1 i ju) (hf:hW f0) (yes:Q Eg s)
  (no:∀ h',jF h' e it f0 Eg i ju->Heap.SameBut e s.heap h'->Q Eh { s with heap:=h' }):wpAny (model prog w) A (Builtin.SmallTypes.ownedTupleIsFree (.ref e)) Q E s:=by
 unfold Builtin.SmallTypes.ownedTupleIsFree;show Æ (ê hz O (x:=f0) O ?_);rcases hf with rfl|⟨a,rfl⟩
 ·show Ë yes
 ·show Æ (rK ?_);cases h:s.heap.get? a.toNat with
  |none=>show Ë yes
  |some o=>
   change wpAny _ _ (field (.ref e) 1 >>= _) _ _ _;show Æ (ê hz O (x:=.bool f1) O ?_);cases f1 with
   |true=>show Ë (no s.heap hz (ŵ ..))
   |false=>
    change wpAny _ _ (setField (.ref e) 1 (.bool Eg) >>= _) _ _ _;show Æ (Ā hz G0 λ h₁ ao ad=>Ë (no h₁ ao ad))
theorem N7 {T:Á}{Q:Unit->Â->Prop} (hz:jF s.heap e it f0 f1 i ju)
  (h:∀ h',jF h' e it (rawInt T) Eh i ju->Heap.SameBut e s.heap h'->Q () { s with heap:=h' }):wpAny (model prog w) A (Builtin.SmallTypes.ownedTupleHandOut (.ref e) (.ref T)) Q E s:=by
 unfold Builtin.SmallTypes.ownedTupleHandOut;show Æ (Ā hz G0 λ h₁ ao ad=>?_);replace ao:jF h₁ e it (rawInt T) f1 i ju:=ao;show Ā ao G0 λ ap cr af=>?_;show h ap cr (Heap.SameBut.trans ad af)
theorem JI {n a:Nat}{k:Nat}{f1:Bool}{Q:À->Â->Prop} (hf:hW f0)
  (he:jF s.heap (n+1) n f0 f1 k ju) (i1:dZ s.heap t n a k) (s1:bV s.heap t a xs) (l1:a < n) (hx:xs[k]?=Y x)
  (hQ:∀(T:Nat) h' ug vw Ap,s.heap.objs.size<=T->hW ug->jF h' (n+1) n ug vw ((k:Int)+1) Ap->dZ h' t n a (k+1)->dP h' T #[.int k s.toks,x]->
   (∀(c:Nat) o,(c < n\/n+1 < c)->s.heap.get? c=Y o->h'.get? c=Y o)->Q (.ref T) { s with heap:=h',toks:=s.toks+1 }) :
  wpAny (model prog w) A (Builtin.«enumerate.__next__» ⟨[.ref (n+1)],[]⟩) (λ fin s'=>∃ v,fin=.done (.ret v)/\Q v s') E s:=by
 let⟨hp,g,d,tk,os⟩:=s;have Ng:n+1 < hp.objs.size:=Ô he;change wpAny _ _ (field (.ref (n+1)) 2 >>= _) _ _ _;show Æ (ê he O (x:=.ref n) O ?_);show Æ (bM i1 s1 hx λ h₁ Xt ad=>?_);replace ad:Heap.SameBut n hp h₁:=ad;have ed:jF h₁ (n+1) n f0 f1 k ju:=ex ad Fn he;change wpAny _ _ (field (.ref (n+1)) 3 >>= _) _ _ ⟨h₁,g,d,tk,os⟩;show Æ (ê ed O (x:=rawInt k) O ?_);change wpAny _ _ (field (.ref (n+1)) 4 >>= _) _ _ ⟨h₁,g,d,tk,os⟩;show Æ (ê ed O (x:=.none) O ?_);change wpAny _ _ (mkInt k >>= _) _ _ ⟨h₁,g,d,tk,os⟩;show Æ (wpAny_mkInt ?_);change wpAny _ _ (setField (.ref (n+1)) 3 (rawInt ((k:Int)+1)) >>= _) _ _ ⟨h₁,g,d,tk+1,os⟩;show Æ (Ā ed G0 λ ap ee af=>?_);replace af:Heap.SameBut (n+1) h₁ ap:=af;replace ee:jF ap (n+1) n f0 f1 ((k:Int)+1) ju:=ee;change wpAny _ _ (setField (.ref (n+1)) 4 .none >>= _) _ _ ⟨ap,g,d,tk+1,os⟩;show Æ (Ā ee G0 λ ak ej ag=>?_);replace ag:Heap.SameBut (n+1) ap ak:=ag;replace ej:jF ak (n+1) n f0 f1 ((k:Int)+1) ju:=ej;change wpAny _ _ (newTuple [.int k tk,x] >>= _) _ _ ⟨ak,g,d,tk+1,os⟩;show Æ (Ś ?_);have di:jF (ak.push { cls:=.type "tuple",data:=.seq #[.int k tk,x] }) (n+1) n f0 f1 ((k:Int)+1) ju:=Ï _ ej;have hsz:ak.objs.size=hp.objs.size:=by rw[ag.1,af.1,ad.1]
 have eu:dP (ak.push { cls:=.type "tuple",data:=.seq #[.int k tk,x] }) ak.objs.size #[.int k tk,x]:=á _ rfl;have fk:∀(c:Nat) o,(c < n\/n+1 < c)->hp.get? c=Y o->(ak.push { cls:=.type "tuple",data:=.seq #[.int k tk,x] }).get? c=Y o:=λ c o hc e=>
  Ï _ (ex ag Fn (ex af Fn (ex ad Fn e)))
 have fc:dZ (ak.push { cls:=.type "tuple",data:=.seq #[.int k tk,x] }) t n a (k+1):=((Xt.ext af Fn).ext ag Fn).at λ o e=>Ï _ e;have Xu:n+1 < ak.objs.size:=by rw[hsz];show Ng
 generalize hh₄:ak.push { cls:=.type "tuple",data:=.seq #[.int k tk,x] }=aq at di eu fk fc;have Gf:hp.objs.size<=ak.objs.size:=Ō hsz.symm;change wpAny _ _ (Builtin.SmallTypes.ownedTupleIsFree (.ref (n+1)) >>= _) _ _ ⟨aq,g,d,tk+1,os⟩;show Æ (BV di hf ?_ ?_)
 ·simp only[if_true];show Æ (Č ?_);show Æ (ê di O (x:=ju) O ?_);show Æ (Ā di G0 λ bc dh ar=>?_);replace ar:Heap.SameBut (n+1) aq bc:=ar;replace dh:jF bc (n+1) n f0 f1 ((k:Int)+1) x:=dh;show Æ (N7 (s:=⟨bc,g,d,tk+1,os⟩) dh λ cp Xv be=>?_);replace be:Heap.SameBut (n+1) bc cp:=be;show Æ (Ġ (Ë ⟨_,O,?_⟩));show hQ ak.objs.size cp _ _ _ Gf (.inr ⟨_,O⟩) Xv ((fc.ext ar Fn).ext be Fn) (ex be Fn (ex ar Fn eu)) λ c o hc e=>ex be Fn (ex ar Fn (fk c o hc e))
 ·intro bc dh ar;replace ar:Heap.SameBut (n+1) aq bc:=ar;simp only[ĵ,if_false];show Ë ⟨_,O,?_⟩;show hQ ak.objs.size bc _ _ _ Gf hf dh (fc.ext ar Fn) (ex ar Fn eu) λ c o hc e=>ex ar Fn (fk c o hc e)
theorem NM {n a:Nat}{k:Nat}{f1:Bool}{Q:Fin->Â->Prop} (hh:A.handled=W)
  (he:jF s.heap (n+1) n f0 f1 k ju) (i1:dZ s.heap t n a k) (s1:bV s.heap t a xs) (hx:xs[k]?=W)
  (hE:∀ h' e,(∀(c:Nat) o,(c < n\/n+1 < c)->s.heap.get? c=Y o->h'.get? c=Y o)->(∃ o,h'.get? e=Y o/\o.cls=.type "StopIteration")->E (.ref e) { s with heap:=h' }) :
  wpAny (model prog w) A (Builtin.«enumerate.__next__» ⟨[.ref (n+1)],[]⟩) Q E s:=by
 change wpAny _ _ (field (.ref (n+1)) 2 >>= _) _ _ _;show Æ (ê he O (x:=.ref n) O ?_);show Æ (dI hh i1 s1 hx λ h' e hk Nh=>hE h' e (λ c o hc q=>hk c o (show @Ne Nat c n by lia) q) Nh)
theorem rT {Q:Option À->Â->Prop} (he:jF s.heap e it f0 f1 i ju)
  (h:wpAny (model prog w) A.in1 (Builtin.«enumerate.__next__» ⟨[.ref e],[]⟩) (λ fin s'=>∃ v,fin=.done (.ret v)/\Q (Y v) s') (λ e s'=>(∃ a o,e=.ref a/\s'.heap.get? a=Y o/\o.cls=.type "StopIteration")/\Q W s') s) :
  wpAny (model prog w) A (pyNext (.ref e)) Q E s:=by
 have hT:s.TypeIs (.ref e) "enumerate" :=⟨_,he,rfl⟩;unfold pyNext;show Æ (wpAny_attempt (Ĵ (name:=Str.ofString "__next__") hT F.slot_enumerate_next
  (ē F.slot_enumerate_next hT F.entry_enumerate_next (ä h (λ fin s' h'=>?_) λ e s' h'=>?_) (F.args_enumerate_next_1 _))))
 ·let⟨v,rfl,q⟩:=h';show⟨v,O,Ë q⟩
 ·let⟨⟨a,o,rfl,ho,hc⟩,q⟩:=h';show Æ (agy (T :="StopIteration") (b:=Eg) ⟨o,ho,hc⟩ isSubtype_stop (Ë q))
theorem ER {e it T:Á}{ju:À}{Q:Unit->Â->Prop} (hf:hW f0) (hz:jF s.heap e it f0 f1 i ju)
  (hQ:∀ h' ug,hW ug->jF h' e it ug f1 i ju->Heap.SameBut e s.heap h'->Q () { s with heap:=h' }):wpAny (model prog w) A (letOwnedTupleGo tg (.ref e) (.ref T)) Q E s:=by
 have same:Q () s:=hQ s.heap f0 hf hz (ŵ ..);have core:wpAny (model prog w) A (do
   let o <- load e
   match o.cls,o.data with
   |.type n,.fields vs=>
    if ["enumerate","zip","dict_itemiterator","dict_reverseitemiterator","odict_iterator","itertools.zip_longest","itertools.pairwise"].contains n && vs[0]?==Y (rawInt T)then
     rule "for.unpacks-the-owned-tuple"
     updateField e 0 .none
   |_,_=>pure ()) Q E s:=by
  show Æ (wpAny_load hz ?_);change wpAny _ _ (if (["enumerate","zip","dict_itemiterator","dict_reverseitemiterator","odict_iterator","itertools.zip_longest","itertools.pairwise"].contains "enumerate" &&
   (#[f0,.bool f1,.ref it,rawInt i,.none,ju]:Array À)[0]?==Y (rawInt T))=Eg then _ else _) Q E s
  split
  ·show Æ (Č ?_);change wpAny _ _ (setField (.ref e) 0 .none) Q E s;show Ā hz G0 λ h' uh De=>hQ h' .none (.inl O) uh De
  ·show Ë same
 unfold letOwnedTupleGo;cases tg <;> first
  |show Ë same
  |show core
theorem rV {Q:À->Â->Prop} (he:jF s.heap e it f0 f1 i ju) (h:Q (.ref e) s):wpAny (model prog w) A (pyIter (.ref e)) Q E s:=by
 have hT:s.TypeIs (.ref e) "enumerate" :=⟨_,he,rfl⟩;show wpAny_pyIter_slot hT F.slot_enumerate_iter (ē F.slot_enumerate_iter hT F.entry_enumerate_iter ?_ (F.args_enumerate_iter_1 _));change wpAny _ _ (ret (.ref e)) _ _ s;show Ë ⟨_,O,"enumerate",_,hT,F.slot_enumerate_next.lookup,h⟩
theorem EL (t:Bool) (l:Á) (xs:Array À) :
  Meets (Builtin.«enumerate.__new__» ⟨[.type "enumerate",.ref l],[]⟩) (λ _ R s=>bV s.heap t l xs/\
   R (.ok (.ret (.ref (zA s.heap t l).objs.size))) { s with heap:=(zA s.heap t l).push { cls:=.type "enumerate",data:=.fields #[.none,.bool Eh,.ref s.heap.objs.size,rawInt 0,.none,.none] } }):=
 .of_wp λ prog w A R s h=>by
  let⟨hp,g,d,tk,os⟩:=s;let⟨hl,h⟩:=h;have yy:=sub_enumerate;have hL:bV (Shared.heap ⟨hp,g,d,tk,os⟩) t l xs:=hl
  wp_walk
  show wpAny_stack_any λ st=>Ë ?_
  split
  ·rename_i c _ _ _ _ _
   cases(c==Value.type "enumerate")
   ·wp_walk using fE hL
    show⟨_,O,h⟩
   ·wp_walk using fE hL
    show⟨_,O,h⟩
  ·wp_walk using fE hL
   show⟨_,O,h⟩
theorem JV {Q:À->Â->Prop} (hL:bV s.heap t l xs)
  (h:∀ h',jF h' (s.heap.objs.size+1) s.heap.objs.size .none Eh 0 .none->dZ h' t s.heap.objs.size l 0->(∀ b o,s.heap.get? b=Y o->h'.get? b=Y o)->Q (.ref (s.heap.objs.size+1)) { s with heap:=h' }) :
  wpAny (model prog w) A (call (.type "enumerate") [.ref l]) Q E s:=by
 show callType_new F.called_enumerate FZ (F.typeCall_enumerate_1 _) (F.newCall_enumerate_1 _) (λ obj=>F.args_object_init_2 obj _) F.entry_enumerate_new (EL t l xs) ⟨hL,?_⟩;have hz:(zA s.heap t l).objs.size=s.heap.objs.size+1:=ą ..;change _/\_;rw[hz];have he:jF ((zA s.heap t l).push { cls:=.type "enumerate",data:=.fields #[.none,.bool Eh,.ref s.heap.objs.size,rawInt 0,.none,.none] }) (s.heap.objs.size+1) s.heap.objs.size .none Eh 0 .none:=by
  have:=á (zA s.heap t l) (o:={ cls:=.type "enumerate",data:=.fields #[.none,.bool Eh,.ref s.heap.objs.size,rawInt 0,.none,.none] }) rfl;rw[hz]at this;show this
 show⟨⟨_,he,O⟩,h _ he (jT (Ï _ (á _ O))) λ b o x=>Ï _ (Ï _ x)⟩
end
end TwZ
namespace L2
open PySem PySem.Spec PyProof.Rows TwZ
def kW (K:Ç) (H:Hp) (t:Bool) (a:Á) (xs:List V):Prop:=if t=Eg then aP K H a xs else bE K H a xs
section
variable {X:Cx}{gj:List (Á×Obj)}{σ:St}{H:Hp}{s:Â}
theorem Inv.src  (I:Inv X gj σ H s) (h:kW X.K H t a xs):∃ its:List À,bI xs its/\bV s.heap t a its.toArray/\xs.length<=sizeLine:=by
 cases t with
 |true=>
  let⟨its,r,p,z⟩:=I.tuple h;show⟨its,r,(show s.heap.IsTuple a its.toArray from p),z⟩
 |false=>
  let⟨its,r,p,z⟩:=I.list h;show⟨its,r,p.isList,z⟩
theorem Inv.src_inj  (I:Inv X gj σ H s) (h:kW X.K H t a xs) (h':kW X.K H t a ys):xs=ys:=by
 cases t with
 |true=>show I.tuple_inj h h'
 |false=>show I.list_inj h h'
theorem Inv.turnedT {fp:List Á}{T:Á}{its:List À} (I:Inv X gj σ H s) (hf:∀ b∈fp,kX X gj H b) (k:∀ b o,b∉fp->s.heap.get? b=Y o->h'.get? b=Y o)
  (hT:s.heap.objs.size<=T) (hv:bI xs its) (hz:xs.length<=sizeLine) (ht:IsTup h' T its.toArray):Inv X gj σ (upd H T (.tup xs)) { s with heap:=h',toks:=t' }:=by
 have hn:H T=none:=I.hok.fresh hT;have nT:∀ b u,H b=Y u->b≠T:=λ b u e=>aI e hn;have Gg:∀ b u,H b=Y u->b∉fp:=λ b u e hb=>by rw[(hf b hb).1]at e;cases e
 have Xw:∀ b o,s.heap.get? b=Y o->b≠T:=λ b o e z=>by rw[z]at e;show absurd (ï (Ô e) hT) (ċ _)
 show I.step (g':=s.gens) (d':=s.drawn) (ch:=fp) (λ b hb=>?_) (λ b o _ _ hc e _=>k b o hc e) (λ b o _ _ hc e _=>⟨o.slots,k b o hc e⟩) (λ b o hc e n=>by rw[aG (Xw b o e)];show n)
  (λ b o hc e=>⟨o,k b o hc e⟩) (λ b ys e=>by rw[aG (nT b _ e)];show e) (λ b o u e=>by rw[aG (nT b _ e)];show e) (λ b ps e=>⟨#[],by rw[aG (nT b _ e),e];simp⟩) (λ m hm=>?_) (λ b u e=>?_) I.bare
 ·let⟨_,f1,_,f3,f4,f5⟩:=hf b hb;show⟨f3,f1,f4,f5⟩
 ·let⟨o,es,ep,ho,r⟩:=hm;show⟨o,es,ep,k _ o (λ hb=>(hf _ hb).2.1 O) ho,r⟩
 ·by_cases hb:b=T
  ·subst hb;rw[a8]at e;cases e;show⟨hz,its,hv,ht⟩
  ·rw[aG hb]at e;show(I.hok b u e).stay (λ c v hc q=>k c v ?_ q) (λ c q=>by rw[aG (nT c _ q)];show q) λ c ys q=>by rw[aG (nT c _ q)];show q
   rcases hc with z|z
   ·rw[z];show Gg b u e
   ·show Gg c _ z
theorem Inv.turnedL {fp:List Á} (I:Inv X gj σ H s) (hf:∀ b∈fp,kX X gj H b) (k:∀ b o,b∉fp->s.heap.get? b=Y o->h'.get? b=Y o):Inv X gj σ H { s with heap:=h',toks:=t' }:=by
 have Gg:∀ b u,H b=Y u->b∉fp:=λ b u e hb=>by rw[(hf b hb).1]at e;cases e
 show I.step (g':=s.gens) (d':=s.drawn) (ch:=fp) (λ b hb=>?_) (λ b o _ _ hc e _=>k b o hc e) (λ b o _ _ hc e _=>⟨o.slots,k b o hc e⟩) (λ b o hc e n=>n)
  (λ b o hc e=>⟨o,k b o hc e⟩) (λ b ys e=>e) (λ b o u e=>e) (λ b ps e=>⟨#[],by rw[e];simp⟩) (λ m hm=>?_) (λ b u e=>?_) I.bare
 ·let⟨_,f1,_,f3,f4,f5⟩:=hf b hb;show⟨f3,f1,f4,f5⟩
 ·let⟨o,es,ep,ho,r⟩:=hm;show⟨o,es,ep,k _ o (λ hb=>(hf _ hb).2.1 O) ho,r⟩
 ·show(I.hok b u e).stay (λ c v hc q=>k c v ?_ q) (λ c q=>q) λ c ys q=>q;rcases hc with z|z
  ·rw[z];show Gg b u e
  ·show Gg c _ z
end
def TX (K:Ç) (t1 t2 t3:Bool) (a1 a2 a3:Á):It:=
 ⟨λ i H=>∃ xs ys zs x y z,kW K H t1 a1 xs/\kW K H t2 a2 ys/\kW K H t3 a3 zs/\xs[i]?=Y x/\ys[i]?=Y y/\zs[i]?=Y z,
  λ i H v H'=>∃ T x y z,H T=W/\v=.ref T/\(∀ xs,kW K H t1 a1 xs->xs[i]?=Y x)/\(∀ xs,kW K H t2 a2 xs->xs[i]?=Y y)/\(∀ xs,kW K H t3 a3 xs->xs[i]?=Y z)/\H'=upd H T (.tup [x,y,z]),
  λ i H=>∃ xs ys zs,kW K H t1 a1 xs/\kW K H t2 a2 ys/\kW K H t3 a3 zs/\(xs.length<=i\/ys.length<=i\/zs.length<=i)⟩
def U3 (n a1 a2 a3:Nat) (t1 t2 t3:Bool) (i:Nat) (h:Heap):Prop:=
 ∃ f0 f1 c1 c2 c3,hW f0/\oH h (n+5) (n+3) (n+4) f0 f1/\dP h (n+3) #[.ref n,.ref (n+1),.ref (n+2)]/\dP h (n+4) #[c1,c2,c3]/\
  dZ h t1 n a1 i/\dZ h t2 (n+1) a2 i/\dZ h t3 (n+2) a3 i/\a1 < n/\a2 < n/\a3 < n
def EV (n:Nat) (m:Nat):List Á:=(List.range m).map λ k=>(n+k:Nat)
theorem eC :b∈EV n m↔∃ k,k < m/\b=n+k:=by
 unfold EV;rw[å];constructor
 ·rintro xK;let⟨k,hk,e⟩:=xK;show⟨k,ĥ.mp hk,e.symm⟩
 ·rintro xK;let⟨k,hk,e⟩:=xK;show⟨k,ĥ.mpr hk,e.symm⟩
theorem iH {b:Nat} (h:(b:Á)∉EV n m) (hm:0 < m):b < n\/n+(m - 1) < b:=by
 by_cases h1:b < n
 ·show .inl h1
 ·by_cases h2:n+(m - 1) < b
  ·show .inr h2
  ·show absurd (eC.mpr ⟨b - n,Fn,by change(b:Nat)=n+(b - n);lia⟩) h
theorem HP {P:Ã}{w:World}{K:Ç}{tg:Expr} (n a1 a2 a3:Nat) (t1 t2 t3:Bool):Turn P w K tg (TX K t1 t2 t3 a1 a2 a3) (EV n 6) (n+5) (U3 n a1 a2 a3 t1 t2 t3) where
 mem:=eC.mpr ⟨5,FZ,rfl⟩
 obj:=λ i h st b hb=>by
  let⟨f0,f1,c1,c2,c3,hf,hz,li,mj,i1,i2,i3,_⟩:=st;let⟨k,hk,rfl⟩:=eC.mp hb;have yu:k=0\/k=1\/k=2\/k=3\/k=4\/k=5:=by lia
  rcases yu with rfl|rfl|rfl|rfl|rfl|rfl
  ·show i1.obj
  ·show i2.obj
  ·show i3.obj
  ·show⟨_,li,λ v z=>by cases z⟩
  ·show⟨_,mj,λ v z=>by cases z⟩
  ·show⟨_,hz,λ v z=>by cases z⟩
 keep:=λ i h h' st k=>by
  let⟨f0,f1,c1,c2,c3,hf,hz,li,mj,i1,i2,i3,l⟩:=st;have m:∀ j,j < 6->((n+j:Nat):Á)∈EV n 6:=λ j hj=>eC.mpr ⟨j,hj,rfl⟩;show⟨f0,f1,c1,c2,c3,hf,k _ (m 5 FZ) _ hz,k _ (m 3 FZ) _ li,k _ (m 4 FZ) _ mj,i1.at λ o e=>k _ (m 0 FZ) _ e,i2.at λ o e=>k _ (m 1 FZ) _ e,i3.at λ o e=>k _ (m 2 FZ) _ e,l⟩
 item:=by
  intro X hP hw hK hc i gj s σ H E I hf st hg;subst hP hw hK;let⟨f0,f1,c1,c2,c3,f,hz,li,mj,i1,i2,i3,l1,l2,l3⟩:=st;let⟨xs,ys,zs,x,y,z,q1,q2,q3,hx,hy,hw⟩:=hg;let⟨us,r1,p1,_⟩:=I.src q1;let⟨vs,r2,p2,_⟩:=I.src q2;let⟨ws,r3,p3,_⟩:=I.src q3;let⟨u,hu,ru⟩:=r1.get hx;let⟨v,hv,rv⟩:=r2.get hy;let⟨w',Xx,vo⟩:=r3.get hw;show kI hz (HJ f hz li mj i1 i2 i3 p1 p2 p3 l1 l2 l3 (by simpa using hu) (by simpa using hv) (by simpa using Xx) λ T h' ug vw d1 d2 d3 hT f' uh Dg Dh Di Gh Xy Gi hk=>?_);show⟨_,O,xR (s:={ s with heap:=h' }) f' uh λ yc xi Gj Dj hs=>?_⟩;replace hs:Heap.SameBut (n+5) h' yc:=hs;have Td:n+5 < T:=ï (Ô hz) hT;have yz:dP yc T #[u,v,w']:=ex hs Fn Gi;have IT:Inv X gj σ (upd H T (.tup [x,y,z])) { s with heap:=yc,toks:=s.toks }:=I.turnedT (fp:=EV n 6) hf (λ b o hb e=>ex (c:=b) hs (by have:=iH (b:=b) hb FZ;have:n+(6 - 1)=n+5:=rfl;lia) (hk b o (iH (b:=b) hb FZ) e)) hT (its:=[u,v,w']) (.cons ru (.cons rv (.cons vo .nil))) (by change 3<=sizeLine;decide) ⟨_,yz,rfl,_,rfl⟩;show⟨.ref T,upd H T (.tup [x,y,z]),IT,O,
   ⟨T,x,y,z,I.hok.fresh hT,O,λ as q=>by rw[I.src_inj q q1];show hx,λ as q=>by rw[I.src_inj q q2];show hy,λ as q=>by rw[I.src_inj q q3];show hw,O⟩,
   ⟨xi,vw,d1,d2,d3,Gj,Dj,ex hs Fn Dg,ex hs Fn Dh,Di.ext hs Fn,Gh.ext hs Fn,Xy.ext hs Fn,l1,l2,l3⟩,λ b hb=>?_⟩
  ·let⟨j,hj,rfl⟩:=eC.mp hb;rw[aG (show((n+j:Nat):Á)≠T from(show @Ne Nat (n+j) T by lia))];show(hf _ hb).1
 done:=by
  intro X hP hw hK hc i gj s σ H E I hf st hg;subst hP hw hK;let⟨f0,f1,c1,c2,c3,f,hz,li,mj,i1,i2,i3,l1,l2,l3⟩:=st;let⟨xs,ys,zs,q1,q2,q3,qu⟩:=hg;let⟨us,r1,p1,_⟩:=I.src q1;let⟨vs,r2,p2,_⟩:=I.src q2;let⟨ws,r3,p3,_⟩:=I.src q3;have e1:=r1.length;have e2:=r2.length;have e3:=r3.length;show kI hz (KB (I.ok.hd hc) f hz li mj i1 i2 i3 p1 p2 p3 l1 l2 l3 (by
   rcases qu with h|h|h
   ·show .inl (by simp;lia)
   ·show .inr (.inl (by simp;lia))
   ·show .inr (.inr (by simp;lia))) λ h' e hk he=>?_)
  let⟨o,ho,vf⟩:=he;show⟨⟨e,o,O,ho,vf⟩,O,I.turnedL (t':=s.toks) hf λ b o hb q=>hk b o (iH (b:=b) hb FZ) q⟩
 self:=λ _ _ _ _ _ st h=>by
  let⟨f0,f1,c1,c2,c3,f,hz,_⟩:=st;show kJ hz h
def QE (K:Ç) (t1 t2:Bool) (a1 a2:Á):It:=
 ⟨λ i H=>∃ xs ys x y,kW K H t1 a1 xs/\kW K H t2 a2 ys/\xs[i]?=Y x/\ys[i]?=Y y,
  λ i H v H'=>∃ T x y,H T=W/\v=.ref T/\(∀ xs,kW K H t1 a1 xs->xs[i]?=Y x)/\(∀ xs,kW K H t2 a2 xs->xs[i]?=Y y)/\H'=upd H T (.tup [x,y]),
  λ i H=>∃ xs ys,kW K H t1 a1 xs/\kW K H t2 a2 ys/\(xs.length<=i\/ys.length<=i)⟩
def U4 (n a1 a2:Nat) (t1 t2:Bool) (i:Nat) (h:Heap):Prop:=
 ∃ f0 f1 c1 c2,hW f0/\oH h (n+4) (n+2) (n+3) f0 f1/\dP h (n+2) #[.ref n,.ref (n+1)]/\dP h (n+3) #[c1,c2]/\dZ h t1 n a1 i/\dZ h t2 (n+1) a2 i/\a1 < n/\a2 < n
theorem HQ {P:Ã}{w:World}{K:Ç}{tg:Expr} (n a1 a2:Nat) (t1 t2:Bool):Turn P w K tg (QE K t1 t2 a1 a2) (EV n 5) (n+4) (U4 n a1 a2 t1 t2) where
 mem:=eC.mpr ⟨4,FZ,rfl⟩
 obj:=λ i h st b hb=>by
  let⟨f0,f1,c1,c2,hf,hz,li,mj,i1,i2,_⟩:=st;let⟨k,hk,rfl⟩:=eC.mp hb;have yu:k=0\/k=1\/k=2\/k=3\/k=4:=by lia
  rcases yu with rfl|rfl|rfl|rfl|rfl
  ·show i1.obj
  ·show i2.obj
  ·show⟨_,li,λ v z=>by cases z⟩
  ·show⟨_,mj,λ v z=>by cases z⟩
  ·show⟨_,hz,λ v z=>by cases z⟩
 keep:=λ i h h' st k=>by
  let⟨f0,f1,c1,c2,hf,hz,li,mj,i1,i2,l⟩:=st;have m:∀ j,j < 5->((n+j:Nat):Á)∈EV n 5:=λ j hj=>eC.mpr ⟨j,hj,rfl⟩;show⟨f0,f1,c1,c2,hf,k _ (m 4 FZ) _ hz,k _ (m 2 FZ) _ li,k _ (m 3 FZ) _ mj,i1.at λ o e=>k _ (m 0 FZ) _ e,i2.at λ o e=>k _ (m 1 FZ) _ e,l⟩
 item:=by
  intro X hP hw hK hc i gj s σ H E I hf st hg;subst hP hw hK;let⟨f0,f1,c1,c2,f,hz,li,mj,i1,i2,l1,l2⟩:=st;let⟨xs,ys,x,y,q1,q2,hx,hy⟩:=hg;let⟨us,r1,p1,_⟩:=I.src q1;let⟨vs,r2,p2,_⟩:=I.src q2;let⟨u,hu,ru⟩:=r1.get hx;let⟨v,hv,rv⟩:=r2.get hy;show kI hz (HK f hz li mj i1 i2 p1 p2 l1 l2 (by simpa using hu) (by simpa using hv) λ T h' ug vw d1 d2 hT f' uh Dg Dh Di Gh Gi hk=>?_);show⟨_,O,xR (s:={ s with heap:=h' }) f' uh λ yc xi Gj Dj hs=>?_⟩;replace hs:Heap.SameBut (n+4) h' yc:=hs;have Td:n+4 < T:=ï (Ô hz) hT;have yz:dP yc T #[u,v]:=ex hs Fn Gi;have IT:Inv X gj σ (upd H T (.tup [x,y])) { s with heap:=yc,toks:=s.toks }:=I.turnedT (fp:=EV n 5) hf (λ b o hb e=>ex (c:=b) hs (by have:=iH (b:=b) hb FZ;have:n+(5 - 1)=n+4:=rfl;lia) (hk b o (iH (b:=b) hb FZ) e)) hT (its:=[u,v]) (.cons ru (.cons rv .nil)) (by change 2<=sizeLine;decide) ⟨_,yz,rfl,_,rfl⟩;show⟨.ref T,upd H T (.tup [x,y]),IT,O,
   ⟨T,x,y,I.hok.fresh hT,O,λ as q=>by rw[I.src_inj q q1];show hx,λ as q=>by rw[I.src_inj q q2];show hy,O⟩,
   ⟨xi,vw,d1,d2,Gj,Dj,ex hs Fn Dg,ex hs Fn Dh,Di.ext hs Fn,Gh.ext hs Fn,l1,l2⟩,λ b hb=>?_⟩
  ·let⟨j,hj,rfl⟩:=eC.mp hb;rw[aG (show((n+j:Nat):Á)≠T from(show @Ne Nat (n+j) T by lia))];show(hf _ hb).1
 done:=by
  intro X hP hw hK hc i gj s σ H E I hf st hg;subst hP hw hK;let⟨f0,f1,c1,c2,f,hz,li,mj,i1,i2,l1,l2⟩:=st;let⟨xs,ys,q1,q2,qu⟩:=hg;let⟨us,r1,p1,_⟩:=I.src q1;let⟨vs,r2,p2,_⟩:=I.src q2;have e1:=r1.length;have e2:=r2.length;show kI hz (KC (I.ok.hd hc) f hz li mj i1 i2 p1 p2 l1 l2 (by
   rcases qu with h|h
   ·show .inl (by simp;lia)
   ·show .inr (by simp;lia)) λ h' e hk he=>?_)
  let⟨o,ho,vf⟩:=he;show⟨⟨e,o,O,ho,vf⟩,O,I.turnedL (t':=s.toks) hf λ b o hb q=>hk b o (iH (b:=b) hb FZ) q⟩
 self:=λ _ _ _ _ _ st h=>by
  let⟨f0,f1,c1,c2,f,hz,_⟩:=st;show kJ hz h
def VM (K:Ç) (t:Bool) (a:Á):It:=
 ⟨λ i H=>∃ xs x,kW K H t a xs/\xs[i]?=Y x,
  λ i H v H'=>∃ T x,H T=W/\v=.ref T/\(∀ xs,kW K H t a xs->xs[i]?=Y x)/\H'=upd H T (.tup [.int i,x]),
  λ i H=>∃ xs,kW K H t a xs/\xs.length<=i⟩
def tne (n a:Nat) (t:Bool) (i:Nat) (h:Heap):Prop:=∃ f0 f1 ju,hW f0/\jF h (n+1) n f0 f1 i ju/\dZ h t n a i/\a < n
theorem HS {P:Ã}{w:World}{K:Ç}{tg:Expr} (n a:Nat) (t:Bool):Turn P w K tg (VM K t a) (EV n 2) (n+1) (tne n a t) where
 mem:=eC.mpr ⟨1,FZ,rfl⟩
 obj:=λ i h st b hb=>by
  let⟨f0,f1,ju,hf,he,i1,_⟩:=st;let⟨k,hk,rfl⟩:=eC.mp hb;have yu:k=0\/k=1:=by lia
  rcases yu with rfl|rfl
  ·show i1.obj
  ·show⟨_,he,λ v z=>by cases z⟩
 keep:=λ i h h' st k=>by
  let⟨f0,f1,ju,hf,he,i1,l⟩:=st;have m:∀ j,j < 2->((n+j:Nat):Á)∈EV n 2:=λ j hj=>eC.mpr ⟨j,hj,rfl⟩;show⟨f0,f1,ju,hf,k _ (m 1 FZ) _ he,i1.at λ o e=>k _ (m 0 FZ) _ e,l⟩
 item:=by
  intro X hP hw hK hc i gj s σ H E I hf st hg;subst hP hw hK;let⟨f0,f1,ju,f,he,i1,l1⟩:=st;let⟨xs,x,q1,hx⟩:=hg;let⟨us,r1,p1,_⟩:=I.src q1;let⟨u,hu,ru⟩:=r1.get hx;show rT he (JI f he i1 p1 l1 (by simpa using hu) λ T h' ug vw Ap hT f' Nh Di Gi hk=>?_);show⟨_,O,ER (s:={ s with heap:=h',toks:=s.toks+1 }) f' Nh λ yc xi Gj Ni hs=>?_⟩;replace hs:Heap.SameBut (n+1) h' yc:=hs;have Td:n+1 < T:=ï (Ô he) hT;have yz:dP yc T #[.int i s.toks,u]:=ex hs Fn Gi;have IT:Inv X gj σ (upd H T (.tup [.int i,x])) { s with heap:=yc,toks:=s.toks+1 }:=I.turnedT (fp:=EV n 2) hf (λ b o hb e=>ex (c:=b) hs (by have:=iH (b:=b) hb FZ;have:n+(2 - 1)=n+1:=rfl;lia) (hk b o (iH (b:=b) hb FZ) e)) hT (its:=[.int i s.toks,u]) (.cons ⟨_,rfl⟩ (.cons ru .nil)) (by change 2<=sizeLine;decide) ⟨_,yz,rfl,_,rfl⟩;have se:jF yc (n+1) n xi vw ((i+1:Nat):Int) Ap:=by
   have:((i+1:Nat):Int)=(i:Int)+1:=by push_cast;rfl
   rw[this];show Ni
  show⟨.ref T,upd H T (.tup [.int i,x]),IT,O,⟨T,x,I.hok.fresh hT,O,λ as q=>by rw[I.src_inj q q1];show hx,O⟩,⟨xi,vw,Ap,Gj,se,Di.ext hs Fn,l1⟩,λ b hb=>?_⟩
  ·let⟨j,hj,rfl⟩:=eC.mp hb;rw[aG (show((n+j:Nat):Á)≠T from(show @Ne Nat (n+j) T by lia))];show(hf _ hb).1
 done:=by
  intro X hP hw hK hc i gj s σ H E I hf st hg;subst hP hw hK;let⟨f0,f1,ju,f,he,i1,l1⟩:=st;let⟨xs,q1,qu⟩:=hg;let⟨us,r1,p1,_⟩:=I.src q1;have e1:=r1.length;show rT he (NM (I.ok.hd hc) he i1 p1 (by simp;lia) λ h' e hk he=>?_);let⟨o,ho,vf⟩:=he;show⟨⟨e,o,O,ho,vf⟩,O,I.turnedL (t':=s.toks) hf λ b o hb q=>hk b o (iH (b:=b) hb FZ) q⟩
 self:=λ _ _ _ _ _ st h=>by
  let⟨f0,f1,ju,f,he,_⟩:=st;show rV he h
section
variable {X:Cx}{tg:Expr}
theorem DB:bootBuiltins "zip" =Y (.type "zip"):=by decide +kernel
theorem JX:bootBuiltins "enumerate" =Y (.type "enumerate"):=by decide +kernel
def R4 (K:Ç) (ta:TA):TI:=λ σ H R=>ta σ H λ vs H1=>∃ t1 t2 a1 a2,vs=[.ref a1,.ref a2]/\(∃ xs,kW K H1 t1 a1 xs)/\(∃ xs,kW K H1 t2 a2 xs)/\R (QE K t1 t2 a1 a2) H1
def R3 (K:Ç) (ta:TA):TI:=λ σ H R=>ta σ H λ vs H1=>∃ t1 t2 t3 a1 a2 a3,vs=[.ref a1,.ref a2,.ref a3]/\(∃ xs,kW K H1 t1 a1 xs)/\(∃ xs,kW K H1 t2 a2 xs)/\(∃ xs,kW K H1 t3 a3 xs)/\R (TX K t1 t2 t3 a1 a2 a3) H1
def R6 (K:Ç) (ta:TA):TI:=λ σ H R=>ta σ H λ vs H1=>∃ t a,vs=[.ref a]/\(∃ xs,kW K H1 t a xs)/\R (VM K t a) H1
theorem P6  (hg:Gl X "enumerate") (hm:X.mg "enumerate" =W) (ha:PA X [a] ta) (hs:autoParam (starEach [a] X.env=[(Eh,eval a X.env)]) _0):PI X tg (.Call (.Name "enumerate" p) [a] [] pos) (R6 X.K ta):=by
 intro gj s σ H R I h;show Call_ (kP I hg hm JX (ĳ (cK (ha pos gj s σ H _ I h) λ us s1 ⟨vs,H1,I1,r1,q1⟩=>?_) hs O));let⟨t,a1,e,⟨xs,hq⟩,q⟩:=q1;subst e;cases r1 with
 |cons r rr=>
  cases rr;cases r;let⟨its,rv,p,hz⟩:=I1.src hq;show JV p λ h' he i1 hk=>?_;show rV (s:={ s1 with heap:=h' }) he ?_;show⟨_,EV s1.heap.objs.size 2,tne s1.heap.objs.size a1 t,_,H1,O,I1.kept (t':=s1.toks) hk,HS _ _ _,⟨.none,Eh,.none,.inl O,he,i1,p.lt⟩,λ b hb=>?_,q⟩;let⟨k,_,rfl⟩:=eC.mp hb;show I1.fpOk (ķ _ _) (I1.hok.fresh (ķ _ _))
theorem P4 {p pos:Pos} (hg:Gl X "zip") (hm:X.mg "zip" =W) (ha:PA X [a,b] ta) (hs:autoParam (starEach [a,b] X.env=[(Eh,eval a X.env),(Eh,eval b X.env)]) _0) (vq:autoParam (starEach [b] X.env=[(Eh,eval b X.env)]) _0) :
  PI X tg (.Call (.Name "zip" p) [a,b] [] pos) (R4 X.K ta):=by
 intro gj s σ H R I h;show Call_ (kP I hg hm DB (ĳ (cK (ha pos gj s σ H _ I h) λ us s1 ⟨vs,H1,I1,r1,q1⟩=>?_) (by rw[hs,vq]) (by rw[vq];rfl)));let⟨t1,t2,a1,a2,e,⟨xs,sw⟩,⟨ys,wa⟩,q⟩:=q1;subst e;cases r1 with
 |cons r rr=>
  cases rr with
  |cons r' rr=>
   cases rr;cases r;cases r';let⟨its,rv,p1,hz⟩:=I1.src sw;let⟨ni,Xz,p2,Nj⟩:=I1.src wa;show JO p1 p2 λ h' uh li mj i1 i2 hk=>?_;show kJ (s:={ s1 with heap:=h' }) uh ?_;show⟨_,EV s1.heap.objs.size 5,U4 s1.heap.objs.size a1 a2 t1 t2,_,H1,O,I1.kept (t':=s1.toks) hk,HQ _ _ _ _ _,⟨.none,Eh,_,_,.inl O,uh,li,mj,i1,i2,p1.lt,p2.lt⟩,λ b hb=>?_,q⟩;let⟨k,_,rfl⟩:=eC.mp hb;show I1.fpOk (ķ _ _) (I1.hok.fresh (ķ _ _))
theorem P3 {p pos:Pos} (hg:Gl X "zip") (hm:X.mg "zip" =W) (ha:PA X [a,b,c] ta) (hs:autoParam (starEach [a,b,c] X.env=[(Eh,eval a X.env),(Eh,eval b X.env),(Eh,eval c X.env)]) _0)
  (vq:autoParam (starEach [b,c] X.env=[(Eh,eval b X.env),(Eh,eval c X.env)]) _0) :
  PI X tg (.Call (.Name "zip" p) [a,b,c] [] pos) (R3 X.K ta):=by
 intro gj s σ H R I h;show Call_ (kP I hg hm DB (ĳ (cK (ha pos gj s σ H _ I h) λ us s1 ⟨vs,H1,I1,r1,q1⟩=>?_) (by rw[hs,vq]) (by rw[vq];rfl)));let⟨t1,t2,t3,a1,a2,a3,e,⟨xs,sw⟩,⟨ys,wa⟩,⟨zs,yd⟩,q⟩:=q1;subst e;cases r1 with
 |cons r rr=>
  cases rr with
  |cons r' rr=>
   cases rr with
   |cons XA rr=>
    cases rr;cases r;cases r';cases XA;let⟨its,rv,p1,hz⟩:=I1.src sw;let⟨ni,Xz,p2,Nj⟩:=I1.src wa;let⟨XB,U',p3,V'⟩:=I1.src yd;show JN p1 p2 p3 λ h' uh li mj i1 i2 i3 hk=>?_;show kJ (s:={ s1 with heap:=h' }) uh ?_;show⟨_,EV s1.heap.objs.size 6,U3 s1.heap.objs.size a1 a2 a3 t1 t2 t3,_,H1,O,I1.kept (t':=s1.toks) hk,HP _ _ _ _ _ _ _,⟨.none,Eh,_,_,_,.inl O,uh,li,mj,i1,i2,i3,p1.lt,p2.lt,p3.lt⟩,λ b hb=>?_,q⟩;let⟨k,_,rfl⟩:=eC.mp hb;show I1.fpOk (ķ _ _) (I1.hok.fresh (ķ _ _))
end
section
variable {prog:Ã}{A:Around}{E:À->Â->Prop}{s:Â}{l:Á}{xs:Array (Int×Tok)}
theorem DR {Q:À->Â->Prop} (hh:A.handled=W) (hl:s.heap.IsTuple l (intItems xs))
  (h:∀ h' tk t',(∀ b o,s.heap.get? b=Y o->h'.get? b=Y o)->Q (.int (preSum (numAt xs) xs.size) t') { s with heap:=h',toks:=tk }) :
  wpAny (model prog w) A (call (.builtin "sum") [.ref l]) Q E s:=by
 have jh:l < s.heap.objs.size:=by let⟨_,e,_⟩:=hl;show Ô e
 show call_sum_walkG (ů hl ?_);show⟨_,_,_,_,_,_,numAt xs,O,Walks.tuple (A:=A.in1) hh _ l (â jh) (intItems xs),⟨⟨_,á _ O,O,O⟩,hl.push _⟩,λ b hb=>?_,(λ _ _=>intItems_at),λ h' tk t' hk=>?_⟩
 ·change b < (s.heap.push _).objs.size;rw[ą];rcases Ò.mp hb with rfl|hb
  ·show agw _
  ·rcases Ò.mp hb with rfl|hb
   ·show agj jh
   ·cases hb
 ·have:=h h' tk t' (λ b o e=>hk b o (λ hm=>by rw[ù.mp hm]at e;show ċ _ (Ô e)) (Ï _ e));simpa [intItems]using this
theorem DS {vs:List À}{Q:À->Â->Prop} (hh:A.handled=W) (hl:bV s.heap t l vs.toArray) (hi:IntsAre vs ns)
  (h:∀ h' tk t',(∀ b o,s.heap.get? b=Y o->h'.get? b=Y o)->Q (.int ns.sum t') { s with heap:=h',toks:=tk }) :
  wpAny (model prog w) A (call (.builtin "sum") [.ref l]) Q E s:=by
 let⟨xs,hx⟩:=hi.allInts.items;have hn:numsOf vs.toArray.toList=ns:=by rw[show vs.toArray.toList=vs from rfl,hi.numsOf]
 rw[hx]at hl hn;rw[nums_intItems]at hn;have e:preSum (numAt xs) xs.size=ns.sum:=by rw[preSum_eq,đ G0,hn]
 cases t with
 |true=>show DR hh hl λ h' tk t' hk=>by rw[e];show h h' tk t' hk
 |false=>show sum_intListG hh hl λ h' tk t' hk=>by rw[e];show h h' tk t' hk
theorem QC {bs:List Bool}{Q:À->Â->Prop} (hh:A.handled=W) (hl:bV s.heap t l vs.toArray) (hb:bI (bs.map V.bl) vs)
  (h:∀ h' tk,(∀ b o,s.heap.get? b=Y o->h'.get? b=Y o)->Q (.bool (bs.all id)) { s with heap:=h',toks:=tk }):wpAny (model prog w) A (call (.builtin "all") [.ref l]) Q E s:=by
 have jh:l < s.heap.objs.size:=hl.lt;have gr:=hb.length;rw[Ê]at gr;have key:∀(P:Nat->À->Prop),(∀ i v,P i v->vs[i]?=Y v)->TruthOf prog w A.in1 P (λ i=>(bs[i]?).getD Eg):=λ P hP i v s' Q' E' hp hQ=>by
  have hv:=hP i v hp;have hi:i < vs.length:=(Ö.mp hv).1;have jj:(bs.map V.bl)[i]?=Y (V.bl bs[i]):=by simp[show i < bs.length by lia]
  let⟨u,hu,ru⟩:=hb.get jj;rw[hv]at hu;cases hu;cases ru;have e:(bs[i]?).getD Eg=bs[i]:=by simp[show i < bs.length by lia]
  have Te:Q' ((bs[i]?).getD Eg) s':=hQ;rw[e]at Te;show Ķ Te
 have rng:((List.range vs.toArray.size).all λ i=>(bs[i]?).getD Eg)=bs.all id:=by
  rw[Ü,<- gr,ę,Ē,Ē];constructor
  ·intro hq b jj;let⟨i,hi,rfl⟩:=List.getElem_of_mem jj;have:=hq i (ĥ.mpr hi);simpa [hi]using this
  ·intro hq i hi;have wq:=ĥ.mp hi;have:=hq bs[i] (Ĥ wq);simpa [wq]using this
 have kept:∀ {h':Heap}{o:Obj},(∀ b x,b∉[s.heap.objs.size]->(s.heap.push o).get? b=Y x->h'.get? b=Y x)->∀ b x,s.heap.get? b=Y x->h'.get? b=Y x:=λ hk b x e=>
  hk b x (λ hm=>by rw[ù.mp hm]at e;show ċ _ (Ô e)) (Ï _ e)
 cases t with
 |true=>
  show call_all_walk (ů hl ?_);show⟨s.heap.objs.size,[s.heap.objs.size,l],[s.heap.objs.size],vs.toArray.size,_,_,λ i=>(bs[i]?).getD Eg,O,Walks.tuple (A:=A.in1) hh _ l (â jh) vs.toArray,
   ⟨⟨_,á _ O,O,O⟩,Heap.IsTuple.push hl _⟩,key _ (λ i v hp=>by simpa using hp),λ h' tk hk=>?_⟩
  rw[rng];show h h' tk (kept hk)
 |false=>
  show call_all_walk (agg hl ?_);show⟨s.heap.objs.size,[s.heap.objs.size,l],[s.heap.objs.size],vs.toArray.size,_,_,λ i=>(bs[i]?).getD Eg,O,Walks.list (A:=A.in1) hh _ l (â jh) vs.toArray,
   ⟨⟨_,á _ O,O,O⟩,Heap.IsList.push hl _⟩,key _ (λ i v hp=>by simpa using hp),λ h' tk hk=>?_⟩
  rw[rng];show h h' tk (kept hk)
end
section
variable {X:Cx}
def UQ (K:Ç):List V->Hp->VK->Prop:=λ xs H Q=>∃(t:Bool) (p:Á) (ns:List Int),xs=[.ref p]/\kW K H t p (ns.map V.int)/\Q (.int ns.sum) H
theorem JQ (hc:X.calm=Eg):eV X (.builtin "sum") (UQ X.K):=by
 intro gj s σ H xs us Q I r h;let⟨t,p,ns,rfl,hq,q⟩:=h;let⟨u,rfl,ru⟩:=r.one;cases ru;let⟨its,rv,p1,hz⟩:=I.src hq;show DS (I.ok.hd hc) p1 (vR rv) λ h' tk t' hk=>⟨.int ns.sum,H,I.kept hk,⟨t',O⟩,q⟩
def UZ (K:Ç):List V->Hp->VK->Prop:=λ xs H Q=>∃(t:Bool) (p:Á) (bs:List Bool),xs=[.ref p]/\kW K H t p (bs.map V.bl)/\Q (.bl (bs.all id)) H
theorem JW (hc:X.calm=Eg):eV X (.builtin "all") (UZ X.K):=by
 intro gj s σ H xs us Q I r h;let⟨t,p,bs,rfl,hq,q⟩:=h;let⟨u,rfl,ru⟩:=r.one;cases ru;let⟨its,rv,p1,hz⟩:=I.src hq;show QC (I.ok.hd hc) p1 rv λ h' tk hk=>⟨.bl (bs.all id),H,I.kept hk,O,q⟩
def TyS (K:Ç) (H:Hp) (x:V) (t:À):Prop:=TyOf K H x t\/∃ a ys,x=.ref a/\aP K H a ys/\t=.type "tuple"
def UX (K:Ç):List V->Hp->VK->Prop:=λ xs H Q=>∃ x T t b,xs=[x,.ty T]/\TyS K H x t/\PySem.W.kitOne K t (.type T)=Y b/\Q (.bl b) H
theorem O0:eV X (.builtin "isinstance") (UX X.K):=by
 intro gj s σ H xs us Q I r h;let⟨x,T,t,b,rfl,ty,e,q⟩:=h;let⟨u,v,rfl,ru,rv⟩:=r.two;cases rv;rcases ty with ty|⟨a,ys,rfl,hq,rfl⟩
 ·show jU I ru ty e λ tk=>⟨.bl b,H,I.tok tk,O,q⟩
 ·cases(show u=Value.ref a from ru);let⟨its,Tf,⟨o,h1,h2,_⟩,_⟩:=I.tuple hq;show Ď agc I.kIn ⟨o,h1,h2⟩ e (λ z=>nomatch z) λ tk=>⟨.bl b,H,I.tok tk,O,q⟩
end
theorem jS:fillsNumberSlot (.type "tuple") "mul" =pure false:=
 PySem.fillsNumberSlot_seq (id :="tuple.__mul__") (r:=Y (.builtin "tuple.__rmul__")) F.slot_tuple_mul.lookup FY F.slot_tuple_rmul.lookup FY
theorem oZ:seqRepeat? (.type "tuple")=pure (Y (.builtin "tuple.__mul__")):=by
 unfold seqRepeat?;rw[PySem.seqSlot_of (T :="tuple") (name :="__mul__") (id :="tuple.__mul__") F.slot_tuple_mul.lookup FY,PySem.seqSlot_of (T :="tuple") (name :="__rmul__") (id :="tuple.__rmul__") F.slot_tuple_rmul.lookup FY];rfl
theorem m9 (a:Int) (t:Tok) (l:Á) (items:Array À) (n:Nat) (dd:Option Á) (sl:Array (Option À)) :
  Meets (Builtin.«int.__rmul__» ⟨[.int a t,.ref l],[]⟩) (λ _ R s=>s.heap.get? l=Y { cls:=.type "tuple",dict:=dd,data:=.seq items n,slots:=sl }/\R (.ok (.ret Value.notImplemented)) s):=
 .of_wp λ prog w A R s h=>by let⟨hp,g,d,tk,os⟩:=s;let⟨hl,h⟩:=h;wp_walk;show⟨_,O,h⟩
theorem wI (l:Á) (items:Array À) (n:Nat) (u:Tok) (dd:Option Á) (sl:Array (Option À)) :
  Meets (Builtin.«tuple.__mul__» ⟨[.ref l,.int 1 u],[]⟩) (λ _ R s=>s.heap.get? l=Y { cls:=.type "tuple",dict:=dd,data:=.seq items n,slots:=sl }/\R (.ok (.ret (.ref l))) s):=
 .of_wp λ prog w A R s h=>by
  let⟨hp,g,d,tk,os⟩:=s;let⟨hl,h⟩:=h;have c1:(items.isEmpty || (1:Int)== 1)=true:=by simp
  wp_walk
  show⟨_,O,h⟩
theorem tR (l:Á) (items:Array À) (n:Nat) (x:Int) (u:Tok) (dd:Option Á) (sl:Array (Option À)) (c0:¬ (decide (x < -(2 ^ 63)) || decide (x ≥ 2 ^ 63))=Eg) (c1:¬ (items.isEmpty || x== 1)=Eg)
  (c2:¬ (decide (x<=0) || items.isEmpty)=Eg) (c3:¬ (items.size:Int) * x > (2 ^ 63 - 1) / 8) (c4:¬ Builtin.Tuple.tupleTooMany ((items.size:Int) * x)=Eg) (hsz:(List.foldl (λ x1 x2=>x1++x2) #[] (List.replicate x.toNat items)).size<=sizeLine) :
  Meets (Builtin.«tuple.__mul__» ⟨[.ref l,.int x u],[]⟩) (λ _ R s=>s.heap.get? l=Y { cls:=.type "tuple",dict:=dd,data:=.seq items n,slots:=sl }/\
   R (.ok (.ret (.ref s.heap.objs.size))) { s with heap:=s.heap.push { cls:=.type "tuple",data:=.seq (List.foldl (λ x1 x2=>x1++x2) #[] (List.replicate x.toNat items)) } }):=
 .of_wp λ prog w A R s h=>by
  let⟨hp,g,d,tk,os⟩:=s;let⟨hl,h⟩:=h
  wp_walk
  rw[Ä c0]
  wp_walk
  all_goals (try rw[Ä c1])
  wp_walk
  all_goals (try rw[Ä c2])
  wp_walk
  all_goals (try rw[Ä c3])
  wp_walk
  all_goals (try rw[Ä c4])
  wp_walk
  show⟨_,O,h⟩
theorem aE.tup  (e:aE H H') (h:aP K H a xs):aP K H' a xs:=by
 rcases h with(h|⟨o,h⟩)|h
 ·show .inl (.inl (e _ _ h))
 ·show .inl (.inr ⟨o,e _ _ h⟩)
 ·show .inr h
theorem aE.new  (h:H p=W):aE H (upd H p o):=λ b u e=>by rw[aG (aI e h)];show e
def È:=@aE.new
section
variable {X:Cx}
def QS (K:Ç):R2:=λ x y H Q=>∃(l:Á) (k:Int) (xs:List V),x=.ref l/\y=.int k/\aP K H l xs/\1<=k/\k < 1000000/\xs≠[]/\xs.length<=10/\
 ∀ p H',aE H H'->aP K H' p (List.replicate k.toNat xs).flatten->Q (.ref p) H'
theorem G9:jG X (binaryOp .Mult) (QS X.K):=by
 intro gj s σ H x y v u Q I rx ry h;let⟨l,k,xs,rfl,rfl,hq,h1,h2,vg,Gk,q⟩:=h;cases rx;let⟨t,rfl⟩:=ry;let⟨its,r,ht,z⟩:=I.tuple hq;have gr:=r.length;let⟨⟨cls,dd,data,sl⟩,e,hc,n,hd⟩:=id ht;simp only at hc hd;subst hc hd;show wpAny_binaryOp_repeat_ref (T :="tuple") (U :="int") FZ ⟨_,e,O⟩ (λ s'=>Ŝ s' k t) jS F.fills_int_mul ż oZ F.slot_int_index.lookup
  (ģ ż (Ŝ s k t) F.entry_int_rmul (F.args_int_rmul_2 _ _) (m9 k t l its.toArray n dd sl) ⟨e,rfl,⟨_,e,rfl⟩,?_⟩)
 by_cases hk:k=1
 ·subst hk;show ģ agz ⟨_,e,O⟩ agk (age _ _) (wI l its.toArray n t dd sl) ⟨e,?_⟩;show⟨.ref l,H,I,O,q l H (Ľ H) ?_⟩;have e1:(List.replicate (1:Int).toNat xs).flatten=xs:=by simp
  rw[e1];show hq
 ·have Dk:its≠[]:=λ z=>by rw[z]at gr;show vg (Ť gr)
  have f0:List.foldl (λ x1 x2=>x1++x2) #[] (List.replicate k.toNat its.toArray)=(List.replicate k.toNat its).flatten.toArray:=by
   have:=y6 its k.toNat [];rw[ŗ]at this;show this
  have Aq:its.toArray.isEmpty=false:=by cases its with
   |nil=>show absurd O Dk
   |cons a r=>rfl
  have Gm:k.toNat * its.length<=sizeLine:=by
   have a1:its.length<=10:=by lia
   have a2:k.toNat<=1000000:=by lia
   have:=Nat.mul_le_mul a2 a1;rw[ĕ];lia
  have Tg:((its.toArray.size:Nat):Int) * k<=16777216:=by
   have a1:((its.toArray.size:Nat):Int)<=10:=by rw[Ü];lia
   have:=Int.mul_le_mul a1 (show k<=1000000 by lia) Fn Fn;lia
  show ģ agz ⟨_,e,O⟩ agk (age _ _) (tR l its.toArray n k t dd sl (by simp;lia) (by rw[Aq];simp;show hk) (by rw[Aq];simp;lia) Fn (by
    unfold Builtin.Tuple.tupleTooMany;rw[decide_eq_true_iff];rw[ĕ];lia) (by rw[f0,Ü,GE];show Gm)) ⟨e,?_⟩
  have I1:=I.laid (a:=s.heap.objs.size) (o:=.tup (List.replicate k.toNat xs).flatten) (h':=s.heap.push { cls:=.type "tuple",data:=.seq (List.foldl (λ x1 x2=>x1++x2) #[] (List.replicate k.toNat its.toArray)) }) (t':=s.toks)
   (λ _ _ q=>Ï _ q) (Ñ _) ⟨by rw[GE,gr];show Gm,(List.replicate k.toNat its).flatten,r.rep k.toNat,⟨_,á _ O,O,0,by simp only[f0]⟩⟩
  show⟨.ref _,_,I1,O,q _ _ (È I.fresh) (Í a8)⟩
end
inductive D where
 |non|bl (b:Bool)|int (i:Int)|str (x:Str)|tup (ds:List D)
mutual
def Is (K:Ç) (H:Hp):D->V->Prop
 |.non,v=>v=.non
 |.bl b,v=>v=.bl b
 |.int i,v=>v=.int i
 |.str x,v=>v=.str x
 |.tup ds,v=>∃ a xs,v=.ref a/\aP K H a xs/\IsL K H ds xs
def IsL (K:Ç) (H:Hp):List D->List V->Prop
 |[],xs=>xs=[]
 |d::ds,xs=>∃ x r,xs=x::r/\Is K H d x/\IsL K H ds r
end
def bD (K:Ç) (H H':Hp):Prop:=∀ a xs,aP K H a xs->aP K H' a xs
theorem bD.refl  (H:Hp):bD K H H:=λ _ _ h=>h
theorem bD.trans  (a:bD K H H1) (b:bD K H1 H2):bD K H H2:=λ c xs h=>b c xs (a c xs h)
theorem aE.ts  (e:aE H H'):bD K H H':=λ _ _ h=>e.tup h
mutual
theorem Is.mono {K:Ç}{H H':Hp} (t:bD K H H'):∀(d:D) (v:V),Is K H d v->Is K H' d v
 |.non,_,h=>h
 |.bl _,_,h=>h
 |.int _,_,h=>h
 |.str _,_,h=>h
 |.tup ds,v,h=>by
  rw[Is]at h ⊢;let⟨a,xs,e,q,l⟩:=h;show⟨a,xs,e,t a xs q,IsL.mono t ds xs l⟩
theorem IsL.mono {K:Ç}{H H':Hp} (t:bD K H H'):∀(ds:List D) (xs:List V),IsL K H ds xs->IsL K H' ds xs
 |[],xs,h=>h
 |d::ds,xs,h=>by
  rw[IsL]at h ⊢;let⟨x,r,e,hx,hr⟩:=h;show⟨x,r,e,Is.mono t d x hx,IsL.mono t ds r hr⟩
end
def Ì:=@Is.mono
def Î:=@IsL.mono
theorem IsL.length :∀ {ds:List D}{xs:List V},IsL K H ds xs->xs.length=ds.length
 |[],xs,h=>by rw[IsL]at h;subst h;rfl
 |d::ds,xs,h=>by
  rw[IsL]at h;let⟨x,r,rfl,_,hr⟩:=h;rw[Ý,Ý,IsL.length hr]
theorem IsL.get :∀ {ds:List D}{xs:List V}{i:Nat}{d:D},IsL K H ds xs->ds[i]?=Y d->∃ x,xs[i]?=Y x/\Is K H d x
 |[],_,_,_,_,e=>by simp at e
 |d::ds,xs,0,d',h,e=>by
  rw[IsL]at h;let⟨x,r,rfl,hx,hr⟩:=h;simp at e;subst e;show⟨x,O,hx⟩
 |d::ds,xs,i+1,d',h,e=>by
  rw[IsL]at h;let⟨x,r,rfl,hx,hr⟩:=h;let⟨y,h1,h2⟩:=IsL.get hr (i:=i) (by simpa using e);show⟨y,by simpa using h1,h2⟩
theorem IsL.get' {i:Nat}{x:V} (h:IsL K H ds xs) (e:xs[i]?=Y x):∃ d,ds[i]?=Y d/\Is K H d x:=by
 have hl:=h.length;have hi:i < ds.length:=by rw[<- hl];show(Ö.mp e).1
 let⟨y,h1,h2⟩:=h.get (i:=i) (d:=ds[i]) (by simp[hi]);rw[e]at h1;cases h1;show⟨ds[i],by simp[hi],h2⟩
theorem IsL.snoc  (hd:Is K H d x):∀ {ds:List D}{xs:List V},IsL K H ds xs->IsL K H (ds++[d]) (xs++[x])
 |[],xs,h=>by
  rw[IsL]at h;subst h;change IsL K H [d] [x];rw[IsL];show⟨x,[],O,hd,by rw[IsL]⟩
 |d'::ds,xs,h=>by
  rw[IsL]at h;let⟨y,r,rfl,hy,hr⟩:=h;change IsL K H (d'::(ds++[d])) (y::(r++[x]));rw[IsL];show⟨y,r++[x],O,hy,IsL.snoc hd hr⟩
def Ă:=@IsL.snoc
theorem IsL.ints :∀ {ns:List Int}{xs:List V},IsL K H (ns.map D.int) xs->xs=ns.map V.int
 |[],xs,h=>by rw[í,IsL]at h;show h
 |n::ns,xs,h=>by
  rw[Ù,IsL]at h;let⟨x,r,rfl,hx,hr⟩:=h;rw[Is]at hx;rw[hx,IsL.ints hr,Ù]
theorem IsL.of_ints :∀(ns:List Int),IsL K H (ns.map D.int) (ns.map V.int)
 |[]=>by rw[í,í,IsL]
 |n::ns=>by
  rw[Ù,Ù,IsL];show⟨_,_,O,by rw[Is],IsL.of_ints ns⟩
def aa8:=@IsL.of_ints
theorem IsL.bools :∀ {ns:List Bool}{xs:List V},IsL K H (ns.map D.bl) xs->xs=ns.map V.bl
 |[],xs,h=>by rw[í,IsL]at h;show h
 |n::ns,xs,h=>by
  rw[Ù,IsL]at h;let⟨x,r,rfl,hx,hr⟩:=h;rw[Is]at hx;rw[hx,IsL.bools hr,Ù]
theorem IsL.of_bools :∀(ns:List Bool),IsL K H (ns.map D.bl) (ns.map V.bl)
 |[]=>by rw[í,í,IsL]
 |n::ns=>by
  rw[Ù,Ù,IsL];show⟨_,_,O,by rw[Is],IsL.of_bools ns⟩
mutual
def D.depth:D->Nat
 |.tup ds=>dN ds+1
 |_=>0
def dN:List D->Nat
 |[]=>0
 |d::ds=>max d.depth (dN ds)
end
section
variable {X:Cx}{gj:List (Á×Obj)}{σ:St}{H:Hp}{s:Â}
end
section
variable {X:Cx}
def SB:V->List V->Hp->VK->Prop:=λ x vs H Q=>∃(l:Á) (xs:List V) (y:V) (j:Nat),x=.ref l/\vs=[y]/\H l=Y (.lst xs)/\jW y=Eg/\xs.all jW=Eg/\j < xs.length/\(∀ z,xs[j]?=Y z->GS z y=Eg)/\(∀ i z,i < j->xs[i]?=Y z->GS z y=Eh)/\Q (.int j) H
theorem MG:VL X "list.index" SB:=by
 intro gj s σ H x vs v us Q I rx rv h;let⟨l,xs,y,j,rfl,rfl,hH,fy,fx,hj,h1,h2,q⟩:=h;cases rx;let⟨u,rfl,ru⟩:=rv.one;let⟨z,its,n,r,hl,e⟩:=I.lstM hH;have key:∀ i (hi:i < its.length),∃ x,xs[i]?=Y x/\aX x its[i]/\jW x=true:=λ i hi=>by
  have hx:xs[i]?=Y xs[i]:=by simp[show i < xs.length by lia]
  let⟨w',h1,h2⟩:=r.get hx;have:its[i]?=Y its[i]:=by simp[hi]
  rw[this]at h1;cases h1;show⟨_,hx,h2,(Ē.mp fx) _ (Ĥ _)⟩
 show ģ F.slot_list_index ⟨_,e,O⟩ F.entry_list_index (F.args_list_index_2 _ _)
  (SeqAt.list_indexAt l its.toArray n W #[] u (K9 y) j (by rw[Ü];lia) (by rw[ĕ]at z;lia) ?_ ?_) ⟨e,λ w' hw=>?_,⟨.int j,H,I.tok _,⟨_,rfl⟩,q⟩⟩
 ·let⟨x,hx,rx,Nk⟩:=key j Fn;have:=A8 (x:=y) rx Nk;change K9 y its[j]=Eg;rw[this];show h1 x hx
 ·intro i hi jh;have wq:i < its.length:=by simpa using hi
  let⟨x,hx,rx,Nk⟩:=key i wq;have:=A8 (x:=y) rx Nk;change K9 y its[i]=Eh;rw[this];show h2 i x jh hx
 ·show pO ru fy r fx w' (by simpa using hw)
end
structure Callee (P:Ã) (w:World) (K:Ç) (mg:Str->Option À) (base:Heap) (x:Str) (ps:List Str) (k:Nat) (sp:Sp) (f:Á) (fd:FuncData):Prop where
 ok:FnOk P w K mg base fX k f fd ps sp
 mg:mg x=Y (.ref f)
 kp:PySem.W.keepIn K (.ref f)=Eg
 bd:iF K fd ps []
theorem cA {X:Cx}{x:Str}{ps:List Str}{k n:Nat}{sp:Sp}{f:Á}{fd:FuncData}{e:Expr}{es:List Expr}{t:TA}{p pos:Pos} (G:Callee X.prog X.w X.K X.mg X.base x ps k sp f fd) (hr:Room n X.A) (ha:PA X (e::es) t) (hg:autoParam (Gl X x) _0) (hle:autoParam (k<=n) _2)
  (yp:autoParam ((x==("__debug__":Str))=false) _2) (he:autoParam (starEach (e::es) X.env=(Eh,eval e X.env)::starEach es X.env) _0) (kz:autoParam ((backTo pos (starEach es X.env)).any (·.1)=false) _0) :
  PE X (.Call (.Name x p) (e::es) [] pos) (oK sp [] E0 t):=gH G.ok (hr.mono hle) hg G.mg G.kp G.bd .nil xM ha yp he kz
theorem fT:bootBuiltins "isinstance" =Y (.builtin "isinstance"):=by decide +kernel
def bS (t:Á) (H H':Hp):Prop:=∀ b o,b≠t->H b=Y o->H' b=Y o
theorem bS.refl  (H:Hp):bS t H H:=λ _ _ _ h=>h
def ď:=@bS.refl
theorem bS.trans  (a:bS t H H1) (b:bS t H1 H2):bS t H H2:=λ c o hc h=>b c o hc (a c o hc h)
theorem aE.but  (a:aE H H'):bS t H H':=λ b o _ h=>a b o h
theorem bS.upd :bS t H (upd H t o):=λ b u hb h=>by rw[aG hb];show h
def Ú:=@bS.upd
theorem bS.ts  (a:bS t H H') (hm:iI (H t)):bD K H H':=by
 intro b xs h;have ne:∀ {o:HO},H b=Y o->¬ iI (Y o)->b≠t:=λ e n z=>by rw[<- z,e]at hm;show n hm
 rcases h with(h|⟨o,h⟩)|h
 ·show .inl (.inl (a _ _ (ne h (λ z=>z)) h))
 ·show .inl (.inr ⟨o,a _ _ (ne h (λ z=>z)) h⟩)
 ·show .inr h
def è:=@bS.ts
theorem bS.free  (a:bS t H H') (hl:l≠t) (h:H' l=W):H l=none:=by
 cases q:H l with
 |none=>rfl
 |some o=>rw[a l o hl q]at h;cases h
def QX (K:Ç):V->V->Hp->VK->Prop:=λ o i H Q=>∃(p:Á) (xs:List V) (k:Int) (v:V),o=.ref p/\i=.int k/\bE K H p xs/\0<=k/\k < 2 ^ 63/\xs[k.toNat]?=Y v/\Q v H
theorem NE :TW X (QX X.K):=by
 intro gj s σ H o i ov iv Q I ro ri h;let⟨p,xs,k,v,rfl,rfl,hq,h0,h1,hx,q⟩:=h;cases ro;let⟨t,rfl⟩:=ri;let⟨its,r,pl,hz⟩:=I.list hq;let⟨w',ew,vo⟩:=r.get hx;show wpAny_getItem_list pl.isList h0 h1 (by simpa using ew) ⟨v,H,I,vo,q⟩
theorem zZ {n:Nat}{k:Int} (h0:0<=k) (h1:k < n):MX n k=Y k.toNat:=by
 unfold MX;rw[Å h0,Å h1]
theorem tJ {ae:Type}{xs:List ae}{v:ae} (h0:0<=k) (h:xs[k.toNat]?=Y v):OG xs k=Y v:=by
 let⟨j,rfl⟩:=ŀ h0;show hU (by simpa using h)
theorem Is.tupOf  (q:aP K H a xs) (l:IsL K H ds xs):Is K H (.tup ds) (.ref a):=by
 rw[Is];show⟨a,xs,O,q,l⟩
def Ð:=@Is.tupOf
theorem Is.un  (h:Is K H (.tup ds) v):∃ a xs,v=.ref a/\aP K H a xs/\IsL K H ds xs:=by
 rw[Is]at h;show h
theorem IsL.un  (h:IsL K H (d::ds) xs):∃ x r,xs=x::r/\Is K H d x/\IsL K H ds r:=by
 rw[IsL]at h;show h
theorem IsL.un0  (h:IsL K H [] xs):xs=[]:=by
 rw[IsL]at h;show h
theorem IsL.cons  (hd:Is K H d x) (h:IsL K H ds xs):IsL K H (d::ds) (x::xs):=by
 rw[IsL];show⟨x,xs,O,hd,h⟩
theorem IsL.nil :IsL K H [] []:=by rw[IsL]
theorem Is.i  (i:Int):Is K H (.int i) (.int i):=by rw[Is]
def Õ:=@Is.i
theorem Is.b  (i:Bool):Is K H (.bl i) (.bl i):=by rw[Is]
theorem Is.s  (i:Str):Is K H (.str i) (.str i):=by rw[Is]
theorem Is.n :Is K H .non .non:=by rw[Is]
theorem Is.ui {i:Int} (h:Is K H (.int i) v):v=.int i:=by rw[Is]at h;show h
theorem Is.ub {i:Bool} (h:Is K H (.bl i) v):v=.bl i:=by rw[Is]at h;show h
theorem Is.us {i:Str} (h:Is K H (.str i) v):v=.str i:=by rw[Is]at h;show h
theorem Is.u0  (h:Is K H .non v):v=.non:=by rw[Is]at h;show h
end L2
namespace Tw
open PySem L2
structure Vs where
 size:Int
 brim:Int
 outs:List (Option Int×Int)
 holds:Bool
 spill:Option Int
 acts:List (Str×Int)
abbrev AH:=Int×Int×Bool
structure Net where
 vs:List Vs
 sps:List AH
def HW:Option Int->D
 |none=>.non
 |some i=>.int i
def qD:Option Int->V
 |none=>.non
 |some i=>.int i
def jR (o:Option Int×Int):D:=.tup [HW o.1,.int o.2]
def kU (a:Str×Int):D:=.tup [.str a.1,.int a.2]
def lB (v:Vs):D:=.tup [.int v.size,.int v.brim,.tup (v.outs.map jR),.bl v.holds,HW v.spill,.tup (v.acts.map kU)]
def sI (s:AH):D:=.tup [.int s.1,.int s.2.1,.bl s.2.2]
def cJ (n:Net):D:=.tup [.tup (n.vs.map lB),.tup (n.sps.map sI)]
def DT (held coming:List Int) (doors:List Bool):D:=.tup [.tup (held.map D.int),.tup (coming.map D.int),.tup (doors.map D.bl)]
theorem Is.tg  (h:Is K H (HW t) v):v=qD t:=by
 cases t with
 |none=>show h.u0
 |some i=>show h.ui
theorem Is.tgOf  (t:Option Int):Is K H (HW t) (qD t):=by
 cases t with
 |none=>show Is.n
 |some i=>show Õ i
structure OutOk (n:Nat) (o:Option Int×Int):Prop where
 tg:∀ t,o.1=Y t->0<=t/\t < n
 lo:1<=o.2
 hi:o.2<=60
structure ActOk (m:Nat) (a:Str×Int):Prop where
 word:a.1="open" \/ a.1="shut" \/ a.1="turn"
 lo:0<=a.2
 hi:a.2 < m
structure VOk (n m:Nat) (v:Vs):Prop where
 size:1<=v.size
 ne:v.outs≠[]
 o3:v.outs.length<=3
 outs:∀ o∈v.outs,OutOk n o
 spill:∀ t,v.spill=Y t->0<=t/\t < n
 a3:v.acts.length<=3
 acts:∀ a∈v.acts,ActOk m a
structure NetOk (net:Net):Prop where
 lo:1<=net.vs.length
 hi:net.vs.length<=12
 sp:net.sps.length<=12
 vs:∀ v∈net.vs,VOk net.vs.length net.sps.length v
 sps:∀ s∈net.sps,0<=s.1/\s.1 < net.vs.length
def whole (outs:List (Option Int×Int)):Int:=(outs.map (·.2)).sum
theorem HL :∀ {outs:List (Option Int×Int)},outs≠[]->(∀ o∈outs,OutOk n o)->1<=whole outs
 |[],h,_=>absurd rfl h
 |o::r,_,h=>by
  have h1:=(h o ă).lo;have h2:0<=whole r:=by
   clear h1;have:∀(r:List (Option Int×Int)),(∀ o∈r,OutOk n o)->0<=whole r:=by
    intro r
    induction r with
    |nil=>intro _;show Ć _
    |cons o r ih=>
     intro h;have h1:=(h o ă).lo;have h2:=ih λ o ho=>h o (ø _ ho);change 0<=o.2+whole r;lia
   show this r λ o ho=>h o (ø _ ho)
  change 1<=o.2+whole r;lia
theorem AK :∀ {outs:List (Option Int×Int)},(∀ o∈outs,OutOk n o)->whole outs<=60 * outs.length
 |[],_=>Ć _
 |o::r,h=>by
  have h1:=(h o ă).hi;have h2:=AK λ o ho=>h o (ø _ ho);change o.2+whole r<=_;rw[Ý];lia
def fC (k:Option Int):List (Option Int×Int)->Int
 |[]=>0
 |g::r=>(if g.1=k then g.2 else 0)+fC k r
theorem nF (k:Option Int):∀(a b:List (Option Int×Int)),fC k (a++b)=fC k a+fC k b
 |[],b=>by simp[fC]
 |g::r,b=>by
  change(if g.1=k then g.2 else 0)+fC k (r++b)=(if g.1=k then g.2 else 0)+fC k r+fC k b;rw[nF k r b];lia
def eR (v:Vs) (has:Int):Int:=min has v.brim
def rL (v:Vs) (has:Int):Bool:=decide (v.size<=eR v has)
def yV (v:Vs) (here:Int):List (Option Int×Int):=v.outs.map λ o=>(o.1,here / whole v.outs * o.2)
def lI (v:Vs) (has:Int):List (Option Int×Int):=
 (v.spill,has - eR v has)::(if rL v has=Eg then yV v (eR v has)++(if v.holds=Eg then[]else[(W,eR v has % whole v.outs)])else[])
def nC (v:Vs) (has:Int):Int:=if rL v has=Eg then(if v.holds=Eg then eR v has % whole v.outs else 0)else eR v has
theorem HN  (ok:VOk n m v) (has:Int):(lI v has).length<=5:=by
 unfold lI yV;have:=ok.o3
 split
 ·split <;> simp <;> lia
 ·simp
def y9 (has:List Int) (s:AH) (d:Bool):List Int:=if d=Eg then has.set s.1.toNat (has.getD s.1.toNat 0+s.2.1)else has
def iU:List Int->List AH->List Bool->List Int
 |has,s::ss,d::ds=>iU (y9 has s d) ss ds
 |has,_,_=>has
def oG:List Int->List Int->List Int->List Int
 |a::as,b::bs,c::cs=>(a+b+c)::oG as bs cs
 |_,_,_=>[]
def cR (net:Net) (held coming poured:List Int) (doors:List Bool):List Int:=iU (oG held coming poured) net.sps doors
def gK:List Vs->List Int->List (Option Int×Int)
 |v::vs,h::hs=>lI v h++gK vs hs
 |_,_=>[]
def gG:List Vs->List Int->List Int
 |v::vs,h::hs=>nC v h::gG vs hs
 |_,_=>[]
def dF:Nat->List Vs->List Int->List Nat
 |i,v::vs,h::hs=>if rL v h=Eg then i::dF (i+1) vs hs else dF (i+1) vs hs
 |_,_,_=>[]
def K0 (doors:List Bool) (a:Str×Int):List Bool:=doors.set a.2.toNat (if a.1="open" then Eg else if a.1="turn" then !(doors.getD a.2.toNat Eh)else Eh)
def gO (doors:List Bool) (as:List (Str×Int)):List Bool:=as.foldl K0 doors
def dY (vs:List Vs) (doors:List Bool) (tip:List Nat):List Bool:=tip.foldl (λ ds i=>match vs[i]? with|some v=>gO ds v.acts|none=>ds) doors
def i5 (n:Nat) (Nl:List (Option Int×Int)):List Int:=(List.range n).map λ(k:Nat)=>fC (Y (k:Int)) Nl
structure Tick where
 held:List Int
 coming:List Int
 doors:List Bool
 tip:List Nat
 ground:Int
def tV (net:Net) (held coming poured:List Int) (doors:List Bool):Tick:=
 let hs:=cR net held coming poured doors
 ⟨gG net.vs hs,i5 net.vs.length (gK net.vs hs),dY net.vs doors (dF 0 net.vs hs),dF 0 net.vs hs,fC W (gK net.vs hs)⟩
def QI (t:Tick):D:=.tup [DT t.held t.coming t.doors,.tup (t.tip.map λ(i:Nat)=>D.int (i:Int)),.int t.ground]
end Tw
namespace L2
open PySem PySem.Spec PyProof.Rows TwZ
section
variable {g:TG}{tc:TT}{te:TE}{fr:List (Option Nat)}{σ:St}{H1:Hp}{Q:Á->Hp->Prop}
theorem iR  (Pv:Á->Nat->List V->St->Hp->Prop) (hq:∀ D i ys σ H,Pv D i ys σ H->aP K H a xs)
  (h0:∀ D,H1 D=W->Pv D 0 [] (CS fr σ) (upd H1 D (.lst []))) (iu:∀ D ys ac H',Pv D xs.length ys ac H'->Q D H')
  (ox:∀ D i x ys ac H',xs[i]?=Y x->Pv D i ys ac H'->g x ac H' λ aj H3=>tc aj H3 λ b H4=>
    if b=Eg then te aj H4 λ y H5=>H5 D=Y (.lst ys)/\ys.length < sizeLine/\Pv D (i+1) (ys++[y]) aj (upd H5 D (.lst (ys++[y])))
    else Pv D (i+1) ys aj H4):kQ (QF K a) g tc te fr σ H1 Q:=by
 show qW (n:=xs.length) Pv h0 (λ D ys ac H' p=>⟨⟨xs,hq D _ ys ac H' p,Ñ _⟩,iu D ys ac H' p⟩) λ D i ys ac H' hi p=>⟨⟨xs,xs[i],hq D _ ys ac H' p,by simp[hi]⟩,λ x H2 y=>?_⟩;let⟨e,y⟩:=y;subst e;show ox D i x ys ac _ (y xs (hq D _ ys ac _ p)) p
theorem hJ  (Pv:Á->Nat->List V->St->Hp->Prop) (hq:∀ D i ys σ H,Pv D i ys σ H->bE K H a xs)
  (h0:∀ D,H1 D=W->Pv D 0 [] (CS fr σ) (upd H1 D (.lst []))) (iu:∀ D ys ac H',Pv D xs.length ys ac H'->Q D H')
  (ox:∀ D i x ys ac H',xs[i]?=Y x->Pv D i ys ac H'->g x ac H' λ aj H3=>tc aj H3 λ b H4=>
    if b=Eg then te aj H4 λ y H5=>H5 D=Y (.lst ys)/\ys.length < sizeLine/\Pv D (i+1) (ys++[y]) aj (upd H5 D (.lst (ys++[y])))
    else Pv D (i+1) ys aj H4):kQ (QG K a) g tc te fr σ H1 Q:=by
 show qW (n:=xs.length) Pv h0 (λ D ys ac H' p=>⟨⟨xs,hq D _ ys ac H' p,Ñ _⟩,iu D ys ac H' p⟩) λ D i ys ac H' hi p=>⟨⟨xs,xs[i],hq D _ ys ac H' p,by simp[hi]⟩,λ x H2 y=>?_⟩;let⟨e,y⟩:=y;subst e;show ox D i x ys ac _ (y xs (hq D _ ys ac _ p)) p
theorem pP  (Pv:Á->Nat->List V->St->Hp->Prop)
  (h0:∀ D,H1 D=W->Pv D 0 [] (CS fr σ) (upd H1 D (.lst []))) (iu:∀ D ys ac H',Pv D n ys ac H'->Q D H')
  (ox:∀ D i ys ac H',i < n->Pv D i ys ac H'->g (.int (i:Int)) ac H' λ aj H3=>tc aj H3 λ b H4=>
    if b=Eg then te aj H4 λ y H5=>H5 D=Y (.lst ys)/\ys.length < sizeLine/\Pv D (i+1) (ys++[y]) aj (upd H5 D (.lst (ys++[y])))
    else Pv D (i+1) ys aj H4):kQ (OH 0 n) g tc te fr σ H1 Q:=by
 show qW (n:=n) Pv h0 (λ D ys ac H' p=>⟨Ñ _,iu D ys ac H' p⟩) λ D i ys ac H' hi p=>⟨hi,λ x H2 y=>?_⟩;let⟨e,y⟩:=y;subst e y;rw[Int.zero_add];show ox D i ys ac _ hi p
theorem PV  (h1:xs.length=n) (h2:ys.length=n) (h3:zs.length=n) (Pv:Á->Nat->List V->St->Hp->Prop)
  (hq:∀ D i r σ H,Pv D i r σ H->kW K H t1 a1 xs/\kW K H t2 a2 ys/\kW K H t3 a3 zs)
  (h0:∀ D,H1 D=W->Pv D 0 [] (CS fr σ) (upd H1 D (.lst []))) (iu:∀ D r ac H',Pv D n r ac H'->Q D H')
  (ox:∀ D i x y z r ac H' T,xs[i]?=Y x->ys[i]?=Y y->zs[i]?=Y z->Pv D i r ac H'->H' T=W->g (.ref T) ac (upd H' T (.tup [x,y,z])) λ aj H3=>tc aj H3 λ b H4=>
    if b=Eg then te aj H4 λ y H5=>H5 D=Y (.lst r)/\r.length < sizeLine/\Pv D (i+1) (r++[y]) aj (upd H5 D (.lst (r++[y])))
    else Pv D (i+1) r aj H4):kQ (TX K t1 t2 t3 a1 a2 a3) g tc te fr σ H1 Q:=by
 show qW (n:=n) Pv h0 (λ D r ac H' p=>?_) λ D i r ac H' hi p=>?_
 ·let⟨q1,q2,q3⟩:=hq D _ r ac H' p;show⟨⟨xs,ys,zs,q1,q2,q3,.inl Fn⟩,iu D r ac H' p⟩
 ·let⟨q1,q2,q3⟩:=hq D _ r ac H' p;show⟨⟨xs,ys,zs,xs[i]'Fn,ys[i]'Fn,zs[i]'Fn,q1,q2,q3,G0,G0,G0⟩,?_⟩;rintro v H2 xK;let⟨T,x,y,z,hT,rfl,e1,e2,e3,rfl⟩:=xK;show ox D i x y z r ac H' T (e1 xs q1) (e2 ys q2) (e3 zs q3) p hT
end
section
variable {g:TG}{tb:TS}{D:Ends}{σ:St}{H:Hp}
abbrev HI (J:It) (g:TG) (tb:TS) (D:Ends) (σ:St) (H:Hp):Prop:=
 ∃ BH:Nat->Nat->St->Hp->Prop,(∃ m,BH 0 m σ H)/\∀ i m σ H,BH i m σ H->
   (J.stop i H/\D.nx σ H)\/(J.go i H/\∃ N:St->Hp->Prop,(∀ ac H',N ac H'->∃ m',m' < m/\BH (i+1) m' ac H')/\∀ x H',J.yld i H x H'->g x σ H' λ au H2=>tb { D with nx:=N,ct:=N,bk:=D.nx } au H2)
theorem NJ  (h1:xs.length=n) (h2:ys.length=n) (Pv:Nat->St->Hp->Prop) (hq:∀ i σ H,Pv i σ H->kW K H t1 a1 xs/\kW K H t2 a2 ys)
  (h0:Pv 0 σ H) (iu:∀ σ H,Pv n σ H->D.nx σ H)
  (ox:∀ i x y σ H T,xs[i]?=Y x->ys[i]?=Y y->Pv i σ H->H T=W->g (.ref T) σ (upd H T (.tup [x,y])) λ au H2=>tb { D with nx:=Pv (i+1),ct:=Pv (i+1),bk:=D.nx } au H2):HI (QE K t1 t2 a1 a2) g tb D σ H:=by
 show GP (n:=n) Pv h0 (λ σ H p=>?_) λ i σ H hi p=>?_
 ·let⟨q1,q2⟩:=hq _ σ H p;show⟨⟨xs,ys,q1,q2,.inl Fn⟩,iu σ H p⟩
 ·let⟨q1,q2⟩:=hq _ σ H p;show⟨⟨xs,ys,xs[i]'Fn,ys[i]'Fn,q1,q2,G0,G0⟩,?_⟩;rintro v H2 xK;let⟨T,x,y,hT,rfl,e1,e2,rfl⟩:=xK;show ox i x y σ H T (e1 xs q1) (e2 ys q2) p hT
theorem mD  (Pv:Nat->St->Hp->Prop) (hq:∀ i σ H,Pv i σ H->kW K H t a xs)
  (h0:Pv 0 σ H) (iu:∀ σ H,Pv xs.length σ H->D.nx σ H)
  (ox:∀ i x σ H T,xs[i]?=Y x->Pv i σ H->H T=W->g (.ref T) σ (upd H T (.tup [.int (i:Int),x])) λ au H2=>tb { D with nx:=Pv (i+1),ct:=Pv (i+1),bk:=D.nx } au H2):HI (VM K t a) g tb D σ H:=by
 show GP (n:=xs.length) Pv h0 (λ σ H p=>?_) λ i σ H hi p=>?_
 ·show⟨⟨xs,hq _ σ H p,Ñ _⟩,iu σ H p⟩
 ·show⟨⟨xs,xs[i],hq _ σ H p,by simp[hi]⟩,?_⟩;rintro v H2 xK;let⟨T,x,hT,rfl,e1,rfl⟩:=xK;show ox i x σ H T (e1 xs (hq _ σ H p)) p hT
end
theorem iJ {A B:Hp->Prop} (h:A H):RN σ H λ b H4=>if b=Eg then A H4 else B H4:=by
 change if Eg=Eg then A H else B H
 rw[Å rfl];show h
theorem cZ {A B:St->Hp->Prop} (h:A (σ.set i (Y v)) H):eJ i v σ H λ aj H3=>RN aj H3 λ b H4=>if b=Eg then A aj H4 else B aj H4:=iJ (σ:=σ.set i (Y v)) (A:=A (σ.set i (Y v))) (B:=B (σ.set i (Y v))) h
theorem aE.put  (a:aE H H') (h:H p=W):aE H (upd H' p o):=λ b u e=>by rw[aG (aI e h)];show a b u e
theorem bD.put  (a:bD K H H') (h:H' p=W\/iI (H' p)):bD K H (upd H' p o):=a.trans (by
 rcases h with h|h
 ·show(È h).ts
 ·show è Ú h)
def RL (i j:Int):Prop:=0 < j/\j < 2 ^ 200
theorem M4 :jG X (binaryOp .FloorDiv) (rI RL λ i j=>.int (i / j)):=V3 λ i j _ _ _ _ _ hc q=>by
 have h1:(0:Int) < j:=hc.1;have h2:j < 2 ^ 200:=hc.2;show floordiv_int Fn (by rw[af8 i Fn];show q) (.inl (PyProof.noPylong_of_log2 ?_));have h0:j.natAbs≠0:=by lia
 have h3:j.natAbs < 2 ^ 200:=by lia
 have:=(Nat.log2_lt h0).mpr h3;lia
theorem oC:bootBuiltins "int" =Y (.type "int"):=by decide +kernel
theorem bT:bootBuiltins "tuple" =Y (.type "tuple"):=by decide +kernel
theorem gN:bootBuiltins "list" =Y (.type "list"):=by decide +kernel
theorem tG:bootBuiltins "bool" =Y (.type "bool"):=by decide +kernel
section
variable {X:Cx}{tg:Expr}{pos:Pos}
theorem aM {es:List Expr}{k:Nat}{t:RG}{n:Nat} (hK:X.K=K) (hc:X.calm=Eg) (h:VI X es t)
  (hn:autoParam ((assignEach es X.env).length=n) _0) (vn:autoParam ((assignEach es X.env).findIdx? (·.1)=none) _0):PG X (.Tuple es k pos) (TC K n t):=by
 subst hK;show SI hc h hn vn
theorem GG (hK:X.K=K):KA X (E4 K):=by subst hK;show SY
def SA (K:Ç):List V->Hp->VK->Prop:=λ xs H Q=>∃ p ys,xs=[.ref p]/\(bE K H p ys\/aP K H p ys)/\Q (.int ys.length) H
theorem JS (hK:X.K=K):eV X (.builtin "len") (SA K):=by subst hK;show AC
theorem n6 (hK:X.K=K) (hc:X.calm=Eg):eV X (.builtin "sum") (UQ K):=by subst hK;show JQ hc
theorem n8 (hK:X.K=K) (hc:X.calm=Eg):eV X (.builtin "all") (UZ K):=by subst hK;show JW hc
theorem gE (hK:X.K=K):eV X (.builtin "isinstance") (UX K):=by subst hK;show O0
def S8 (K:Ç):List V->Hp->VK->Prop:=λ xs H Q=>∃ p ys,xs=[.ref p]/\((bE K H p ys/\∀ l,H l=W->Q (.ref l) (upd H l (.tup ys)))\/(aP K H p ys/\Q (.ref p) H))
theorem bR (hK:X.K=K):eV X (.type "tuple") (S8 K):=by subst hK;show wR
def S9 (K:Ç):List V->Hp->VK->Prop:=λ xs H Q=>∃ p ys,xs=[.ref p]/\(bE K H p ys\/aP K H p ys)/\∀ l,H l=W->Q (.ref l) (upd H l (.lst ys))
theorem gD (hK:X.K=K):eV X (.type "list") (S9 K):=by subst hK;show AB
theorem cP  (hK:X.K=K) (hl:PE X l tl):PI X tg l (R5 K tl):=by subst hK;show P5 hl
theorem eZ  (hK:X.K=K) (hl:PE X l tl):PI X tg l (V7 K tl):=by subst hK;show SH hl
theorem iO  (hK:X.K=K) (hg:Gl X "enumerate") (hm:X.mg "enumerate" =W) (ha:PA X [a] ta) (hs:autoParam (starEach [a] X.env=[(Eh,eval a X.env)]) _0):PI X tg (.Call (.Name "enumerate" p) [a] [] pos) (R6 K ta):=by
 subst hK;show P6 hg hm ha hs
theorem uT {p:Pos} (hK:X.K=K) (hg:Gl X "zip") (hm:X.mg "zip" =W) (ha:PA X [a,b] ta) (hs:autoParam (starEach [a,b] X.env=[(Eh,eval a X.env),(Eh,eval b X.env)]) _0) (vq:autoParam (starEach [b] X.env=[(Eh,eval b X.env)]) _0) :
  PI X tg (.Call (.Name "zip" p) [a,b] [] pos) (R4 K ta):=by subst hK;show P4 hg hm ha hs vq
theorem LO {p:Pos} (hK:X.K=K) (hg:Gl X "zip") (hm:X.mg "zip" =W) (ha:PA X [a,b,c] ta) (hs:autoParam (starEach [a,b,c] X.env=[(Eh,eval a X.env),(Eh,eval b X.env),(Eh,eval c X.env)]) _0)
  (vq:autoParam (starEach [b,c] X.env=[(Eh,eval b X.env),(Eh,eval c X.env)]) _0):PI X tg (.Call (.Name "zip" p) [a,b,c] [] pos) (R3 K ta):=by subst hK;show P3 hg hm ha hs vq
theorem LZ (hK:X.K=K):jG X (binaryOp .Mult) (QS K):=by subst hK;show G9
theorem xZ (hK:X.K=K):TW X (QX K):=by subst hK;show NE
theorem dC {o e:Expr}{es:List Expr}{to:TE}{t:TA}{name:Str}{apos iq:Pos}{T id:String}{r:V->List V->Hp->VK->Prop} (hK:X.K=K)
  (pa:PlainAttrs T) (slot:Slot T name id) (Cs:typeOf (.builtin id)=pure (.type "method_descriptor")) (hm:VJ X id r) (ho:PE X o to) (ha:PA X (e::es) t)
  (oq:autoParam (attributeBase o name X.env (eval o X.env)=eval o X.env) _0)
  (Ct:autoParam (((backTo iq (starEach (e::es) X.env)).all (λ x=>!x.1) && (backToKw iq (keywordEach [] X.env)).all (λ x=>x.1.isSome)
   && decide ((e::es).length+([]:List Keyword).length+(if ([]:List Keyword).isEmpty then 0 else 1) < 30))=true) _0)
  (ou:autoParam ((apos.endLine==iq.line)=true) _0) (hs:autoParam (starEach (e::es) X.env=(Eh,eval e X.env)::starEach es X.env) _0) (ow:autoParam ((backTo iq (starEach es X.env)).any (·.1)=false) _0) :
  PE X (.Call (.Attribute o name apos) (e::es) [] iq) (tBM K T r to t):=by subst hK;show V0 pa slot Cs hm ho ha oq Ct ou hs ow
end
section
variable {X:Cx}{pos p:Pos}
theorem pL (i:Nat){pos':Pos} (hN:X.N.Nodup) (he:PE X e te) (hi:autoParam (X.N[i]?=Y x) _0) (hx:autoParam (RJ X.env.scope x) _A) (hs:autoParam (swapsWith e (Y (.Name x pos')) pos.line X.env=pure false) _0) (hf:autoParam (X.fn x=Eg\/X.env.scope.names.lookup x=Y .local) _4) :
  PS X (.Assign [.Name x pos'] e pos) (nA te (eJ i)):=iN hN hi hx he hs hf
theorem gL (i:Nat) (hN:X.N.Nodup) (hi:autoParam (X.N[i]?=Y x) _0) (hx:autoParam (RJ X.env.scope x) _A) (hf:autoParam (X.fn x=Eg\/X.env.scope.names.lookup x=Y .local) _4):PG X (.Name x pos) (eJ i):=pD hN hi hx hf
theorem gC (i:Nat) (N:List Str) {x:Str} (hN:N.Nodup:=by decide +kernel) (e:autoParam (X.N=N) _0) (hi:autoParam (N[i]?=Y x) _0) (hx:autoParam (RJ X.env.scope x) _A) (hf:X.fn x=Eg\/X.env.scope.names.lookup x=Y .local:=by with_unfolding_all show Or.inr O):PG X (.Name x pos) (eJ i):=pD (by rw[e];show hN) (by rw[e];show hi) hx hf
theorem px (K:Ç) (ha:PE X a ta) (hb:PE X b tb) (hK:autoParam (X.K=K) _0) (hs:HF b:=by with_unfolding_all show λ _ _=>O):PE X (.Subscript a b pos) (jJ (E4 K) ta tb):=BS (GG hK) ha hb hs
theorem rW (K:Ç) (hm:X.mg "len" =W) (ha:PE X a ta) (hK:autoParam (X.K=K) _0) (hg:Gl X "len" := by with_unfolding_all rfl) (hs:autoParam (starEach [a] X.env=[(Eh,eval a X.env)]) _0):PE X (.Call (.Name "len" p) [a] [] pos) (RZ (SA K) (aR ta cU)):=
 bO (JS hK) hg hm PySem.boot_len (a7 ha a9 hs) FZ FZ hs rfl
end
end L2
namespace Tw
open PySem L2
theorem kR {g:TG}{tb:TS}{D:Ends}{σ:St}{H:Hp} (Pv:Nat->St->Hp->Prop) (h0:Pv 0 σ H)
  (hs:∀(E:Ends) i,E.rt=D.rt->(∀ σ H,Pv (i+1) σ H->E.nx σ H)->∀ σ H,i < n->Pv i σ H->g (.int (lo+i)) σ H λ au H2=>tb E au H2) (hd:∀ σ H,Pv n σ H->D.nx σ H) :
  ∃ BH:Nat->Nat->St->Hp->Prop,(∃ m,BH 0 m σ H)/\∀ i m σ H,BH i m σ H->
   ((OH lo n).stop i H/\D.nx σ H)\/((OH lo n).go i H/\∃ N:St->Hp->Prop,(∀ ac H',N ac H'->∃ m',m' < m/\BH (i+1) m' ac H')/\∀ x H',(OH lo n).yld i H x H'->g x σ H' λ au H2=>tb { D with nx:=N,ct:=N,bk:=D.nx } au H2):=
 mZ Pv h0 (λ i σ H hi p=>hs { D with nx:=Pv (i+1),ct:=Pv (i+1),bk:=D.nx } i rfl (λ _ _ q=>q) σ H hi p) hd
theorem JF {g:TG}{tb:TS}{D:Ends}{σ:St}{H:Hp} (Pv:Nat->St->Hp->Prop) (h0:Pv 0 σ H) (hl:∀ i σ H,i<=xs.length->Pv i σ H->bE K H a xs)
  (hs:∀(E:Ends) i,E.rt=D.rt->(∀ σ H,Pv (i+1) σ H->E.nx σ H)->∀ x σ H,xs[i]?=Y x->Pv i σ H->g x σ H λ au H2=>tb E au H2) (hd:∀ σ H,Pv xs.length σ H->D.nx σ H) :
  ∃ BH:Nat->Nat->St->Hp->Prop,(∃ m,BH 0 m σ H)/\∀ i m σ H,BH i m σ H->
   ((QG K a).stop i H/\D.nx σ H)\/((QG K a).go i H/\∃ N:St->Hp->Prop,(∀ ac H',N ac H'->∃ m',m' < m/\BH (i+1) m' ac H')/\∀ x H',(QG K a).yld i H x H'->g x σ H' λ au H2=>tb { D with nx:=N,ct:=N,bk:=D.nx } au H2):=
 iT Pv h0 hl (λ i x σ H hi p=>hs { D with nx:=Pv (i+1),ct:=Pv (i+1),bk:=D.nx } i rfl (λ _ _ q=>q) x σ H hi p) hd
theorem CU {g:TG}{tb:TS}{D:Ends}{σ:St}{H:Hp} (Pv:Nat->St->Hp->Prop) (h0:Pv 0 σ H) (hl:∀ i σ H,i<=xs.length->Pv i σ H->aP K H a xs)
  (hs:∀(E:Ends) i,E.rt=D.rt->(∀ σ H,Pv (i+1) σ H->E.nx σ H)->∀ x σ H,xs[i]?=Y x->Pv i σ H->g x σ H λ au H2=>tb E au H2) (hd:∀ σ H,Pv xs.length σ H->D.nx σ H) :
  ∃ BH:Nat->Nat->St->Hp->Prop,(∃ m,BH 0 m σ H)/\∀ i m σ H,BH i m σ H->
   ((QF K a).stop i H/\D.nx σ H)\/((QF K a).go i H/\∃ N:St->Hp->Prop,(∀ ac H',N ac H'->∃ m',m' < m/\BH (i+1) m' ac H')/\∀ x H',(QF K a).yld i H x H'->g x σ H' λ au H2=>tb { D with nx:=N,ct:=N,bk:=D.nx } au H2):=
 A6 Pv h0 hl (λ i x σ H hi p=>hs { D with nx:=Pv (i+1),ct:=Pv (i+1),bk:=D.nx } i rfl (λ _ _ q=>q) x σ H hi p) hd
def bG (i:Nat):Stmt:=PySem.Challenge.pw_tipwell_k37_lists_of_ones_own.main.body.getD i (.Pass ⟨0,0,0,0⟩)
structure Txt (mg:Str->Option À):Prop where
 b_len:mg "len" =W
 b_sum:mg "sum" =W
 b_all:mg "all" =W
 b_max:mg "max" =W
 b_min:mg "min" =W
 b_int:mg "int" =W
 b_tuple:mg "tuple" =W
 b_list:mg "list" =W
 b_bool:mg "bool" =W
 b_range:mg "range" =W
 b_zip:mg "zip" =W
 b_enumerate:mg "enumerate" =W
 b_isinstance:mg "isinstance" =W
 b_divmod:mg "divmod" =W
 b_set:mg "set" =W
 b_sorted:mg "sorted" =W
def pQ:Option Int->gX
 |none=>.inr W
 |some i=>.inl i
theorem MS (k:Option Int):kV (pQ k)=qD k:=by cases k <;> rfl
theorem MR  (h:pQ a=pQ b):a=b:=by
 cases a <;> cases b <;> simp_all [pQ]
def lA (H:Hp) (d:Á) (gs:List (Option Int×Int)):Prop:=
 ∃ gn:List (gX×V),H d=Y (.dK gn)/\gn.length<=gs.length/\∀ k:Option Int,(eB gn (pQ k)).getD (.int 0)=.int (fC k gs)
theorem lA.mut  (h:lA H d gs):iI (H d):=by
 let⟨gn,e,_⟩:=h;rw[e];show trivial
def DV:Sp:=λ vs H Q _=>∃(d:Á) (t:Option Int) (a:Int) (gs:List (Option Int×Int)),vs=[.ref d,qD t,.int a]/\lA H d gs/\gs.length<=1000/\
 ∀ H',bS d H H'->lA H' d (gs++[(t,a)])->Q .non H'
theorem PL (F:Fun K "send" "send" (bG 14) f fd) (T:Txt mg):FnOk P w K mg base fX 1 f fd ["sent","target","amount"] DV:=by
 show F.ok ["sent","target","amount"] λ sc gz A outer s H vs Q E hr h=>?_
 ·let⟨d,t,a,gs,rfl,⟨gn,hd,hl,hv⟩,hg,k⟩:=h;have hu:=RA hr;show⟨_,(aF (P0 hu (pv 0) (pv 1) (aW cF (uV hu (pv 0) (pv 1) aD ⟨O,O,O,O⟩) (pv 2)) O)),?_⟩;have Go:=FL.k (k:=pQ t) hd;rw[MS]at Go;have Gp:=OD.k (k:=pQ t) (v:=V.int (fC t gs+a)) hd (aS Fn);rw[MS]at Gp;show⟨_,O,d,O,.inl ⟨gn,.inl hd⟩,_,O,eB gn (pQ t),Go,_,O,_,_,hv t,O,_,O,_,O,d,_,O,Gp,?_⟩;show k _ Ú ⟨_,a8,?_,λ k'=>?_⟩
  ·have:=gA gn (pQ t) (V.int (fC t gs+a));rw[Þ];simp;lia
  ·rw[KG,nF]
   by_cases e:k'=t
   ·subst e;rw[Å rfl];change V.int _=V.int _;simp[fC]
   ·rw[Ä (λ z=>e (MR z)),hv k'];have:¬ t=k':=λ z=>e z.symm;simp[fC,this]
theorem aY {ae:Type}{xs:List ae}{x:ae} (h:xs[i]?=Y x):xs.take (i+1)=xs.take i++[x]:=by
 rw[Ĳ,h];rfl
theorem zI {outs:List (Option Int×Int)}{i:Nat} (l:IsL K H (outs.map jR) xs) (h:xs[i]?=Y x) :
  ∃ o,outs[i]?=Y o/\∃ a,x=.ref a/\aP K H a [qD o.1,.int o.2]:=by
 let⟨d,hd,hx⟩:=l.get' h;rw[Ø]at hd;cases e:outs[i]? with
 |none=>rw[e]at hd;cases hd
 |some o=>
  rw[e]at hd;cases hd;show(bA o O ?_);let⟨a,ys,rfl,q,l⟩:=(show Is K H (.tup [HW o.1,.int o.2]) x from hx).un;let⟨y,r,rfl,hy,l⟩:=l.un;let⟨z,r,rfl,hz,l⟩:=l.un;have:=l.un0;subst this;rw[Is.tg hy,hz.ui]at q;show(bA a O q)
def FQ (K:Ç):Sp:=λ vs H Q _=>∃(o d:Á) (has:Int) (outs gs:List (Option Int×Int)) (n:Nat),vs=[.ref o,.int has,.ref d]/\Is K H (.tup (outs.map jR)) (.ref o)/\lA H d gs/\gs.length+3<=1000/\
 outs≠[]/\outs.length<=3/\(∀ x∈outs,OutOk n x)/\∀ H',bS d H H'->lA H' d (gs++outs.map λ x=>(x.1,has / whole outs * x.2))->Q (.int (has % whole outs)) H'
theorem zM (F:Fun K "share_out" "share_out" (bG 13) f fd) (T:Txt mg) (sx:Callee P w K mg base "send" ["sent","target","amount"] 1 DV fS Dl):FnOk P w K mg base fX 2 f fd ["outs","has","sent"] (FQ K):=by
 show F.ok ["outs","has","sent","whole","times","target","parts"] λ sc gz A outer s H vs Q E hr h=>?_
 ·let⟨o,d,has,outs,gs,n,rfl,ho,hd,hg,vg,h3,hok,k⟩:=h;show⟨_,(aA (pL 3 sc.nd (bO (n6 (K:=K) O O) O T.b_sum ũ (a7 (fQ (λ _ _ h=>h) O (LcOk.mk (N':=["target","parts"]) (fr:=[W,W]) O trivial O O O O O trivial) (eZ (K:=K) O (pv 0)) (λ _ _ _=>(aM (K:=K) (n:=2) O O (aB (gC 0 ["target","parts"]) (aB (gC 1 ["target","parts"]) aL)))) (λ _ _ _=>c9) (λ _ _ _=>(pv 1))) a9)))
   (aA (pL 4 sc.nd (aW mS (pv 1) (bO (yJ O) O T.b_max afo (a7 aD (a7 (pv 3) a9)))))
   (aA (dB ò O (eZ (K:=K) O (pv 0)) (aM (K:=K) (n:=2) O O (aB (gL 5 sc.nd) (aB (gL 6 sc.nd) aL))) (aF (bH (cA sx hr (a7 (pv 2) (a7 (pv 5) (a7 (aW nV (pv 6) (pv 4)) a9)))))))
   (aF (aK (aW eN (pv 1) (aW nV (pv 3) (pv 4)))))))),?_⟩
  have W':=HL vg hok;have X':=AK hok;let⟨o',xs,e,hq,hl⟩:=ho.un;cases e;have Gq:xs.length=outs.length:=by rw[hl.length,Ê]
  show⟨_,O,o,O,⟨_,hq⟩,iR (K:=K) (a:=o) (xs:=xs) (λ D i ys ac H'=>H D=W/\aE H H'/\H' D=Y (.lst ys)/\ys=(outs.take i).map (λ x=>V.int x.2)/\∃ x y,ac=[x,y])
   (λ D i ys ac H' p=>p.2.1.tup hq) (λ D hD=>⟨hD,È hD,a8,G0,W,W,O⟩) ?_ ?_⟩
  rotate_left
  ·rintro D i x ys ac H' hx xK;let⟨hD,sm,ie,rfl,v1,v2,rfl⟩:=xK;let⟨ot,Ar,a,rfl,qa⟩:=zI hl hx;have mw:=(Ö.mp Ar).1;show(bU a _ O ⟨sm.tup qa,O,(bU _ _ O (bU _ _ O ⟨O,?_⟩))⟩);show iJ ⟨_,O,ie,aS (by simp;lia),hD,sm.put hD,a8,?_,_,_,O⟩;rw[aY Ar];simp
  ·rintro D ys ac H1 xK;let⟨hD,sm,ie,rfl,_⟩:=xK;rw[Gq,æ] at ie;show⟨Eh,D,outs.map (·.2),O,É (by rw[ĉ];show ie),?_⟩;show(bA _ O (bA _ O (bU _ _ O (bU _ _ O ⟨O,?_,?_⟩))))
   ·change 0 < (if whole outs > 1 then whole outs else 1)/\(if whole outs > 1 then whole outs else 1) < 1073741824
    split <;> lia
   have hm:(if whole outs > 1 then whole outs else 1)=whole outs:=by split <;> lia
   change kB _ _ _ [Y (V.ref o),Y (V.int has),Y (V.ref d),Y (V.int (whole outs)),Y (V.int (has / (if whole outs > 1 then whole outs else 1))),W,W] _;rw[hm];have Gr:lA H1 d gs:=by let⟨gn,e,r⟩:=hd;show⟨gn,sm _ _ e,r⟩
   have Gs:bD K H H1:=sm.ts;show⟨_,O,o,O,⟨_,sm.tup hq⟩,CU (K:=K) (a:=o) (xs:=xs) (λ i ac H'=>bS d H1 H'/\lA H' d (gs++(outs.take i).map λ x=>(x.1,has / whole outs * x.2))/\
    ∃ x y,ac=[Y (V.ref o),Y (V.int has),Y (V.ref d),Y (V.int (whole outs)),Y (V.int (has / whole outs)),x,y]) ⟨ď _,by simpa using Gr,W,W,O⟩
    (λ i ac H' _ p=>(p.1.ts Gr.mut) _ _ (sm.tup hq)) ?_ ?_⟩
   ·rintro DD i - wt x ac H2 hx ⟨bt,dg,v1,v2,rfl⟩;let⟨ot,Ar,a,rfl,qa⟩:=zI hl hx;have mw:=(Ö.mp Ar).1;have Th:=hok ot (Û Ar);show(bU a _ O ⟨(bt.ts Gr.mut) _ _ (sm.tup qa),O,(bU _ _ O (bU _ _ O ⟨O,?_⟩))⟩);show⟨_,O,_,O,_,O,_,O,_,_,O,O,.inl ⟨by have:=Th.lo;lia,by have:=Th.hi;lia⟩,d,ot.1,ot.2 * (has / whole outs),_,O,dg,by simp;lia,λ H' XC Ti=>?_⟩;show wt _ _ ⟨bt.trans XC,?_,_,_,O⟩;rw[aY Ar,Ó,<- ě];rw[Int.mul_comm]at Ti;show Ti
   ·rintro ac H2 xK;let⟨bt,dg,v1,v2,rfl⟩:=xK;rw[Gq,æ]at dg;show(bA _ O (bA _ O (bA _ O (bU _ _ O ⟨O,.inl ⟨Fn,Fn⟩,(bU _ _ O ⟨O,?_⟩)⟩))));have e:has - whole outs * (has / whole outs)=has % whole outs:=by
     have:=Int.emod_add_mul_ediv has (whole outs);lia
    change Q (V.int (has - whole outs * (has / whole outs))) H2;rw[e];show k H2 (sm.but.trans bt) dg
theorem AL  (h:Is K H (lB v) x):∃(a:Á) (o c:V),x=.ref a/\aP K H a [.int v.size,.int v.brim,o,.bl v.holds,qD v.spill,c]/\Is K H (.tup (v.outs.map jR)) o/\Is K H (.tup (v.acts.map kU)) c:=by
 let⟨a,xs,rfl,q,l⟩:=(show Is K H (.tup [.int v.size,.int v.brim,.tup (v.outs.map jR),.bl v.holds,HW v.spill,.tup (v.acts.map kU)]) x from h).un;let⟨x1,r,rfl,h1,l⟩:=l.un;let⟨x2,r,rfl,h2,l⟩:=l.un;let⟨x3,r,rfl,h3,l⟩:=l.un;let⟨x4,r,rfl,h4,l⟩:=l.un;let⟨x5,r,rfl,h5,l⟩:=l.un;let⟨x6,r,rfl,h6,l⟩:=l.un;have:=l.un0;subst this;rw[h1.ui,h2.ui,h4.ub,Is.tg h5]at q;show(NN a x3 x6 O ⟨q,h3,h6⟩)
def u7 (K:Ç):Sp:=λ vs H Q _=>∃(x:V) (d:Á) (has:Int) (v:Vs) (gs:List (Option Int×Int)) (n m:Nat),vs=[x,.int has,.ref d]/\Is K H (lB v) x/\lA H d gs/\gs.length+5<=1000/\VOk n m v/\
 ∀ p H',bS d H H'->lA H' d (gs++lI v has)->aP K H' p [.int (nC v has),.bl (rL v has)]->Q (.ref p) H'
theorem IL (F:Fun K "settle" "settle" (bG 12) f fd) (T:Txt mg) (sx:Callee P w K mg base "send" ["sent","target","amount"] 1 DV fS Dl)
  (uk:Callee P w K mg base "share_out" ["outs","has","sent"] 2 (FQ K) fO Nm):FnOk P w K mg base fX 3 f fd ["vessel","has","sent"] (u7 K):=by
 show F.ok ["vessel","has","sent","size","brim","outs","holds","spill","acts","over","left"] λ sc gz A outer s H vs Q E hr h=>?_
 ·let⟨x,d,has,v,gs,n,m,rfl,hx,hd,hg,ok,k⟩:=h;show⟨_,(aA (bP (pv 0) (aM (K:=K) (n:=6) O O (aB (gL 3 sc.nd) (aB (gL 4 sc.nd) (aB (gL 5 sc.nd) (aB (gL 6 sc.nd) (aB (gL 7 sc.nd) (aB (gL 8 sc.nd) aL))))))))
   (aA (pL 9 sc.nd (bO (yJ O) O T.b_max afo (a7 aD (a7 (aW eN (pv 1) (pv 4)) a9))))
   (aA (bH (cA sx hr (a7 (pv 2) (a7 (pv 7) (a7 (pv 9) a9)))))
   (aA (E6 (i:=1) sc.nd O (Or.inl O) (pv 9) T9)
   (aA (cE (bN rX (pv 1) (pv 3) (bK _)) (aF (aK (aQ (a7 (pv 1) (a7 eI a9))))) bF)
   (aA (pL 10 sc.nd (cA uk hr (a7 (pv 5) (a7 (pv 1) (a7 (pv 2) a9)))))
   (aA (cE (cO (pv 6)) (aF (aK (aQ (a7 (pv 10) (a7 eI a9))))) bF)
   (aA (bH (cA sx hr (a7 (pv 2) (a7 cH (a7 (pv 10) a9)))))
   (aF (aK (aQ (a7 aD (a7 eI a9))))))))))))),?_⟩
  let⟨a,o,c,rfl,q,ho,hc⟩:=AL hx;show⟨_,O,a,_,O,q,O,_,_,O,_,_,O,_,_,O,_,_,O,_,_,O,_,_,O,O,?_⟩;show(bA _ O (bA _ O (bU _ _ O ⟨O,(bU _ _ O ?_)⟩)));have eo:(if has - v.brim > 0 then has - v.brim else 0)=has - eR v has:=by unfold eR;split <;> lia
  change kB _ _ _ [Y (V.ref a),Y (V.int has),Y (V.ref d),Y (V.int v.size),Y (V.int v.brim),Y o,Y (V.bl v.holds),Y (qD v.spill),Y c,Y (V.int (if has - v.brim > 0 then has - v.brim else 0)),W] _;rw[eo];show(bA _ O (bA _ O (bA _ O ⟨d,v.spill,has - eR v has,(bA gs O ⟨hd,Fn,λ H1 b1 d1=>?_⟩)⟩)));have Km:bD K H H1:=b1.ts hd.mut;show(bA _ O (bA _ O (bU _ _ O ⟨O,?_⟩)));have eh:has - (has - eR v has)=eR v has:=by lia
  change kB _ _ _ [Y (V.ref a),Y (V.int (has - (has - eR v has))),Y (V.ref d),Y (V.int v.size),Y (V.int v.brim),Y o,Y (V.bl v.holds),Y (qD v.spill),Y c,Y (V.int (has - eR v has)),W] _;rw[eh];show(bA _ O (bA _ O (bU _ _ O ⟨O,(bA _ O ?_)⟩)));show i9 (λ jh=>?_) (λ xj=>?_)
  ·have As:eR v has < v.size:=ć jh;have ht:rL v has=false:=Ĉ Fn;show(bA _ O ⟨(sz0 2),λ p hp=>?_⟩);show k p _ (b1.trans (È hp).but) ?_ ?_
   ·have:lI v has=[(v.spill,has - eR v has)]:=by unfold lI;rw[ht];rfl
    rw[this];let⟨gn,e,r⟩:=d1;show⟨gn,È hp _ _ e,r⟩
   ·have:nC v has=eR v has:=by unfold nC;rw[ht];rfl
    rw[this,ht];show Í a8
  ·have No:v.size<=eR v has:=by simpa using xj
   have ht:rL v has=true:=ð No;let⟨oa,os,rfl,_,_⟩:=ho.un;show⟨_,O,_,O,_,O,oa,d,eR v has,v.outs,_,n,O,Ì Km _ _ ho,d1,by simp;lia,ok.ne,ok.o3,ok.outs,λ H2 b2 d2=>?_⟩;show(bA _ O (bA _ O ?_));cases hh:v.holds with
   |true=>
    show eS ?_;show(bA _ O ⟨(sz0 2),λ p hp=>?_⟩);show k p _ (b1.trans (b2.trans (È hp).but)) ?_ ?_
    ·have:gs++lI v has=(gs++[(v.spill,has - eR v has)])++v.outs.map λ x=>(x.1,eR v has / whole v.outs * x.2):=by
      unfold lI yV;rw[ht,hh];simp
     rw[this];let⟨gn,e,r⟩:=d2;show⟨gn,È hp _ _ e,r⟩
    ·have:nC v has=eR v has % whole v.outs:=by unfold nC;rw[ht,hh];rfl
     rw[this,ht];show Í a8
   |false=>
    show eG ?_;show⟨_,O,_,O,d,W,eR v has % whole v.outs,_,O,d2,by simp;have:=ok.o3;lia,λ H3 b3 d3=>?_⟩;show⟨(sz0 2),λ p hp=>?_⟩;show k p _ (b1.trans (b2.trans (b3.trans (È hp).but))) ?_ ?_
    ·have:gs++lI v has=((gs++[(v.spill,has - eR v has)])++v.outs.map λ x=>(x.1,eR v has / whole v.outs * x.2))++[(W,eR v has % whole v.outs)]:=by
      unfold lI yV;rw[ht,hh];simp
     rw[this];let⟨gn,e,r⟩:=d3;show⟨gn,È hp _ _ e,r⟩
    ·have:nC v has=0:=by unfold nC;rw[ht,hh];rfl
     rw[this,ht];show Í a8
theorem tL {acts:List (Str×Int)}{i:Nat} (l:IsL K H (acts.map kU) xs) (h:xs[i]?=Y x) :
  ∃ o,acts[i]?=Y o/\∃ a,x=.ref a/\aP K H a [.str o.1,.int o.2]:=by
 let⟨d,hd,hx⟩:=l.get' h;rw[Ø]at hd;cases e:acts[i]? with
 |none=>rw[e]at hd;cases hd
 |some o=>
  rw[e]at hd;cases hd;show(bA o O ?_);let⟨a,ys,rfl,q,l⟩:=(show Is K H (.tup [.str o.1,.int o.2]) x from hx).un;let⟨y,r,rfl,hy,l⟩:=l.un;let⟨z,r,rfl,hz,l⟩:=l.un;have:=l.un0;subst this;rw[hy.us,hz.ui]at q;show(bA a O q)
theorem O5 (ds:List Bool) (a:Str×Int):(K0 ds a).length=ds.length:=by unfold K0;simp
theorem rH:∀(as:List (Str×Int)) (ds:List Bool),(gO ds as).length=ds.length
 |[],ds=>rfl
 |a::as,ds=>by
  change(gO (K0 ds a) as).length=_;rw[rH as,O5]
theorem kS (vs:List Vs):∀(tip:List Nat) (ds:List Bool),(dY vs ds tip).length=ds.length
 |[],ds=>rfl
 |i::r,ds=>by
  change(dY vs (match vs[i]? with|some v=>gO ds v.acts|none=>ds) r).length=_;rw[kS vs r];cases vs[i]? with
  |none=>rfl
  |some v=>show rH _ _
theorem FH (ds:List Bool) (as:List (Str×Int)) (a:Str×Int):gO ds (as++[a])=K0 (gO ds as) a:=by
 unfold gO;rw[ŕ];rfl
theorem D0 (vs:List Vs) (ds:List Bool) (tip:List Nat) (i:Nat) (v:Vs) (h:vs[i]?=Y v):dY vs ds (tip++[i])=gO (dY vs ds tip) v.acts:=by
 unfold dY;rw[ŕ];change(match vs[i]? with|some v=>_|none=>_)=_;rw[h]
def yT (K:Ç):Sp:=λ args H Q _=>∃(x y:V) (t:Á) (vs:List Vs) (doors:List Bool) (tip:List Nat) (n:Nat),args=[x,y,.ref t]/\Is K H (.tup (vs.map lB)) x/\Is K H (.tup (doors.map D.bl)) y/\
 bE K H t (tip.map λ(i:Nat)=>V.int (i:Int))/\(∀ i∈tip,i < vs.length)/\(∀ v∈vs,VOk n doors.length v)/\doors.length<=12/\
 ∀ p H',aE H H'->Is K H' (.tup ((dY vs doors tip).map D.bl)) p->Q p H'
theorem sO (F:Fun K "doors_behind" "doors_behind" (bG 15) f fd) (T:Txt mg):FnOk P w K mg base fX 1 f fd ["vessels","doors","tipped"] (yT K):=by
 show F.ok ["vessels","doors","tipped","behind","number","size","brim","outs","holds","spill","acts","word","spout"] λ sc gz A outer s H vs Q E hr h=>?_
 ·let⟨x,y,t,vs,doors,tip,n,rfl,hx,hy,ht,Np,hok,hm,k⟩:=h;show⟨_,(aA (pL 3 sc.nd (aU (gD (K:=K) O) O T.b_list gN (a7 (pv 1) a9)))
   (aA (dB ò O (cP (K:=K) O (pv 2)) (gL 4 sc.nd) (aA (bP (px K (pv 0) (pv 4)) (aM (K:=K) (n:=6) O O (aB (gL 5 sc.nd) (aB (gL 6 sc.nd) (aB (gL 7 sc.nd) (aB (gL 8 sc.nd) (aB (gL 9 sc.nd) (aB (gL 10 sc.nd) aL))))))))
   (aF (dB ò O (eZ (K:=K) O (pv 10)) (aM (K:=K) (n:=2) O O (aB (gL 11 sc.nd) (aB (gL 12 sc.nd) aL))) (aF (bP (LS (fI lZ (pv 11) eY (bK _)) (fL (eK (fI lZ (pv 11) eY (bK _)) (fL (zG (px K (pv 3) (pv 12))))))) (zF (pv 3) (pv 12) jM)))))))
   (aF (aK (aU (bR (K:=K) O) O T.b_tuple bT (a7 (pv 3) a9)))))),?_⟩
  let⟨ax,xs,rfl,qx,lx⟩:=hx.un;let⟨ay,ys,rfl,qy,ly⟩:=hy.un;have ey:=ly.bools;subst ey;have mx:xs.length=vs.length:=by rw[lx.length,Ê]
  show(bA _ O (bU ay _ O ⟨.inr qy,λ b hb=>?_⟩));have nb:∀ {c:Á}{o:HO},H c=Y o->c≠b:=λ e=>aI e hb;show⟨_,O,t,O,⟨_,(È hb).seq ht⟩,iT (K:=K) (a:=t) (xs:=tip.map λ(i:Nat)=>V.int (i:Int))
   (λ i ac H'=>aE H H'/\H' b=Y (.lst ((dY vs doors (tip.take i)).map V.bl))/\∃ v4 v5 v6 v7 v8 v9 sg uo Eo,ac=[Y (.ref ax),Y (.ref ay),Y (.ref t),Y (.ref b),v4,v5,v6,v7,v8,v9,sg,uo,Eo])
   ⟨È hb,a8,W,W,W,W,W,W,W,W,W,O⟩ (λ i ac H' _ p=>p.1.seq ht) ?_ ?_⟩
  ·rintro i x ac H1 hi xK;let⟨sm,Kn,v4,v5,v6,v7,v8,v9,sg,uo,Eo,rfl⟩:=xK;rw[Ø]at hi;let⟨j,hj,rfl⟩:=é.mp hi;have Tj:=Np j (Û hj);have hv:vs[j]?=Y vs[j]:=by simp[Tj]
   have Nq:=hok vs[j] (Ĥ Tj);let⟨xv,Gu,Gv⟩:=lx.get (i:=j) (d:=lB vs[j]) (by rw[Ø,hv];rfl);let⟨va,o,c,rfl,qv,ho,hc⟩:=AL Gv;show(bA _ O (bA _ O (.inr (.inl (JJ ax xs j _ O ⟨O,sm.tup qx,hU Gu,(bU va _ O ⟨sm.tup qv,O,(bU _ _ O (bU _ _ O (bU _ _ O (bU _ _ O (bU _ _ O (bU _ _ O ⟨O,?_⟩))))))⟩)⟩)))));let⟨ca,cs,rfl,qc,lc⟩:=hc.un;have XD:cs.length=vs[j].acts.length:=by rw[lc.length,Ê]
   show⟨_,O,ca,O,⟨_,sm.tup qc⟩,A6 (K:=K) (a:=ca) (xs:=cs)
    (λ l ac H'=>aE H H'/\H' b=Y (.lst ((gO (dY vs doors (tip.take i)) (vs[j].acts.take l)).map V.bl))/\
     ∃ tw sy,ac=[Y (.ref ax),Y (.ref ay),Y (.ref t),Y (.ref b),Y (.int (j:Int)),Y (.int vs[j].size),Y (.int vs[j].brim),Y o,Y (.bl vs[j].holds),Y (qD vs[j].spill),Y (.ref ca),tw,sy])
    ⟨sm,Kn,uo,Eo,O⟩ (λ l ac H' _ p=>p.1.tup qc) ?_ ?_⟩
   ·rintro l x ac H2 hl xK;let⟨il,oz,tw,sy,rfl⟩:=xK;let⟨at',uq,aa,rfl,qa⟩:=tL lc hl;have Dm:=Nq.acts at' (Û uq);show(bU aa _ O ⟨il.tup qa,O,(bU _ _ O (bU _ _ O ⟨O,?_⟩))⟩);have Ge:(gO (dY vs doors (tip.take i)) (vs[j].acts.take l)).length=doors.length:=by rw[rH,kS]
    have kf:at'.2.toNat < (gO (dY vs doors (tip.take i)) (vs[j].acts.take l)).length:=by rw[Ge];have:=Dm.lo;have:=Dm.hi;lia
    have fin:∀ c:Bool,c=(if at'.1="open" then Eg else if at'.1="turn" then !((gO (dY vs doors (tip.take i)) (vs[j].acts.take l)).getD at'.2.toNat Eh)else Eh)->
      aE H (upd H2 b (.lst (((gO (dY vs doors (tip.take i)) (vs[j].acts.take l)).map V.bl).set at'.2.toNat (.bl c))))/\
      upd H2 b (.lst (((gO (dY vs doors (tip.take i)) (vs[j].acts.take l)).map V.bl).set at'.2.toNat (.bl c))) b=Y (.lst ((gO (dY vs doors (tip.take i)) (vs[j].acts.take (l+1))).map V.bl)):=λ c hc=>by
     show⟨il.put hb,?_⟩;rw[a8,aY uq,FH,K0,<- hc,List.map_set]
    have set:∀ c:Bool,c=(if at'.1="open" then Eg else if at'.1="turn" then !((gO (dY vs doors (tip.take i)) (vs[j].acts.take l)).getD at'.2.toNat Eh)else Eh)->
      NG (dG 3) (dG 12) BK (.bl c) [Y (.ref ax),Y (.ref ay),Y (.ref t),Y (.ref b),Y (.int (j:Int)),Y (.int vs[j].size),Y (.int vs[j].brim),Y o,Y (.bl vs[j].holds),Y (qD vs[j].spill),Y (.ref ca),Y (.str at'.1),Y (.int at'.2)] H2
       λ ac H'=>aE H H'/\H' b=Y (.lst ((gO (dY vs doors (tip.take i)) (vs[j].acts.take (l+1))).map V.bl))/\
        ∃ tw sy,ac=[Y (.ref ax),Y (.ref ay),Y (.ref t),Y (.ref b),Y (.int (j:Int)),Y (.int vs[j].size),Y (.int vs[j].brim),Y o,Y (.bl vs[j].holds),Y (qD vs[j].spill),Y (.ref ca),tw,sy]:=λ c hc=>by
     let⟨f1,f2⟩:=fin c hc;show⟨_,O,_,O,b,_,at'.2,at'.2.toNat,O,O,oz,zZ Dm.lo (by rw[Ê];lia),f1,f2,_,_,O⟩
    show(bA _ O ⟨O,(bA _ O ?_)⟩);show i9 (λ h1=>?_) (λ h1=>?_)
    ·have e1:at'.1="open" := by have:=ć h1;injection this
     show set Eg (by rw[Å e1])
    ·have e1:¬ at'.1 = "open" := λ z=>h1 (ð (by rw[z]));show(bA _ O ⟨O,(bA _ O ?_)⟩);show i9 (λ h2=>?_) (λ h2=>?_)
     ·have e2:at'.1="turn" := by have:=ć h2;injection this
      have hg:((gO (dY vs doors (tip.take i)) (vs[j].acts.take l)).map V.bl)[at'.2.toNat]?=Y (.bl ((gO (dY vs doors (tip.take i)) (vs[j].acts.take l)).getD at'.2.toNat Eh)):=by
       rw[Ø,Ė];simp[kf]
      show(bA _ O (bA _ O (.inl ⟨b,_,at'.2,(bA _ O ⟨O,É oz,tJ Dm.lo hg,(bA _ O ?_)⟩)⟩)));show set _ (by rw[Ä e1,Å e2])
     ·have e2:¬ at'.1="turn" := λ z=>h2 (ð (by rw[z]));show set Eh (by rw[Ä e1,Ä e2])
   ·rintro ac H2 xK;let⟨il,oz,tw,sy,rfl⟩:=xK;rw[XD,æ]at oz;show⟨il,?_,_,_,_,_,_,_,_,_,_,O⟩;rw[aY hj,D0 vs doors _ j vs[j] hv];show oz
  ·rintro ac H1 xK;let⟨sm,Kn,v4,v5,v6,v7,v8,v9,sg,uo,Eo,rfl⟩:=xK;rw[Ê,æ]at Kn;show(bA _ O (bU b _ O (.inl ⟨É Kn,λ l hl=>?_⟩)));show k _ _ (sm.trans (È hl)) (Ð (Í a8) (IsL.of_bools _))
theorem mK:∀ {a b c:List Int}{n:Nat},a.length=n->b.length=n->c.length=n->(oG a b c).length=n
 |[],b,c,n,h,_,_=>by simp at h;subst h;rfl
 |x::a,[],c,n,h1,h2,_=>by simp at h1 h2;lia
 |x::a,y::b,[],n,h1,_,h3=>by simp at h1 h3;lia
 |x::a,y::b,z::c,n,h1,h2,h3=>by
  simp at h1 h2 h3;change(oG a b c).length+1=n;rw[mK (n:=n - 1) Fn Fn Fn];lia
theorem DJ:∀ {a b c:List Int}{i:Nat}{x y z:Int},a[i]?=Y x->b[i]?=Y y->c[i]?=Y z->(oG a b c)[i]?=Y (x+y+z)
 |[],_,_,i,_,_,_,h,_,_=>by simp at h
 |_::_,[],_,i,_,_,_,_,h,_=>by simp at h
 |_::_,_::_,[],i,_,_,_,_,_,h=>by simp at h
 |a::as,b::bs,c::cs,0,x,y,z,h1,h2,h3=>by simp at h1 h2 h3;subst h1 h2 h3;rfl
 |a::as,b::bs,c::cs,i+1,x,y,z,h1,h2,h3=>by
  change(oG as bs cs)[i]?=_;show DJ (by simpa using h1) (by simpa using h2) (by simpa using h3)
theorem JH (has:List Int) (s:AH) (d:Bool):(y9 has s d).length=has.length:=by unfold y9;split <;> simp
theorem jX:∀(ss:List AH) (ds:List Bool) (has:List Int),(iU has ss ds).length=has.length
 |[],ds,has=>by cases ds <;> rfl
 |s::ss,[],has=>rfl
 |s::ss,d::ds,has=>by change(iU (y9 has s d) ss ds).length=_;rw[jX ss ds,JH]
theorem vW:∀(ss:List AH) (ds:List Bool) (i:Nat) (has:List Int) (s:AH) (d:Bool),ss[i]?=Y s->ds[i]?=Y d->iU has (ss.take (i+1)) (ds.take (i+1))=y9 (iU has (ss.take i) (ds.take i)) s d
 |[],_,i,_,_,_,h,_=>by simp at h
 |_::_,[],i,_,_,_,_,h=>by simp at h
 |a::ss,b::ds,0,has,s,d,h1,h2=>by simp at h1 h2;subst h1 h2;simp[iU]
 |a::ss,b::ds,i+1,has,s,d,h1,h2=>by
  simp only[ł,iU];show vW ss ds i _ s d (by simpa using h1) (by simpa using h2)
theorem vT:∀(vs:List Vs) (hs:List Int) (i:Nat) (v:Vs) (h:Int),vs[i]?=Y v->hs[i]?=Y h->gK (vs.take (i+1)) (hs.take (i+1))=gK (vs.take i) (hs.take i)++lI v h
 |[],_,i,_,_,h,_=>by simp at h
 |_::_,[],i,_,_,_,h=>by simp at h
 |a::vs,b::hs,0,v,h,h1,h2=>by simp at h1 h2;subst h1 h2;simp[gK]
 |a::vs,b::hs,i+1,v,h,h1,h2=>by
  simp only[ł,gK,ě];rw[vT vs hs i v h (by simpa using h1) (by simpa using h2)]
theorem rM:∀(vs:List Vs) (hs:List Int) (i:Nat) (v:Vs) (h:Int),vs[i]?=Y v->hs[i]?=Y h->gG (vs.take (i+1)) (hs.take (i+1))=gG (vs.take i) (hs.take i)++[nC v h]
 |[],_,i,_,_,h,_=>by simp at h
 |_::_,[],i,_,_,_,h=>by simp at h
 |a::vs,b::hs,0,v,h,h1,h2=>by simp at h1 h2;subst h1 h2;simp[gG]
 |a::vs,b::hs,i+1,v,h,h1,h2=>by
  simp only[ł,gG,ĩ];rw[rM vs hs i v h (by simpa using h1) (by simpa using h2)]
theorem tS:∀(vs:List Vs) (hs:List Int) (i j:Nat) (v:Vs) (h:Int),vs[i]?=Y v->hs[i]?=Y h->dF j (vs.take (i+1)) (hs.take (i+1))=dF j (vs.take i) (hs.take i)++(if rL v h=Eg then[j+i]else[])
 |[],_,i,_,_,_,h,_=>by simp at h
 |_::_,[],i,_,_,_,_,h=>by simp at h
 |a::vs,b::hs,0,j,v,h,h1,h2=>by
  simp at h1 h2;subst h1 h2;simp only[ł,ž,dF,Nat.add_zero,ŗ]
 |a::vs,b::hs,i+1,j,v,h,h1,h2=>by
  simp only[ł,dF];rw[tS vs hs i (j+1) v h (by simpa using h1) (by simpa using h2)];have e:j+1+i=j+(i+1):=by lia
  rw[e]
  split <;> simp
theorem tT:∀(vs:List Vs) (hs:List Int) (j k:Nat),k∈dF j vs hs->j<=k/\k < j+vs.length
 |[],_,_,k,h=>by simp[dF]at h
 |_::_,[],_,k,h=>by simp[dF]at h
 |a::vs,b::hs,j,k,h=>by
  simp only[dF]at h;have ih:=tT vs hs (j+1) k;simp only[Ý]
  split at h
  ·rcases Ò.mp h with rfl|h
   ·lia
   ·have:=ih h;lia
  ·have:=ih h;lia
theorem qF:∀(vs:List Vs) (hs:List Int) (j:Nat),(dF j vs hs).length<=vs.length
 |[],_,_=>by simp[dF]
 |_::_,[],_=>by simp[dF]
 |a::vs,b::hs,j=>by
  simp only[dF,Ý];have:=qF vs hs (j+1)
  split
  ·rw[Ý];lia
  ·lia
theorem xY :∀(vs:List Vs) (hs:List Int),(∀ v∈vs,VOk n m v)->(gK vs hs).length<=5 * vs.length
 |[],_,_=>by simp[gK]
 |_::_,[],_=>by simp[gK]
 |a::vs,b::hs,h=>by
  simp only[gK,Þ,Ý];have h1:=HN (h a ă) b;have h2:=xY vs hs λ v hv=>h v (ø _ hv);lia
theorem tY {sps:List AH}{i:Nat} (l:IsL K H (sps.map sI) xs) (h:xs[i]?=Y x) :
  ∃ s,sps[i]?=Y s/\∃ a,x=.ref a/\aP K H a [.int s.1,.int s.2.1,.bl s.2.2]:=by
 let⟨d,hd,hx⟩:=l.get' h;rw[Ø]at hd;cases e:sps[i]? with
 |none=>rw[e]at hd;cases hd
 |some o=>
  rw[e]at hd;cases hd;show(bA o O ?_);let⟨a,ys,rfl,q,l⟩:=(show Is K H (.tup [.int o.1,.int o.2.1,.bl o.2.2]) x from hx).un;let⟨y,r,rfl,hy,l⟩:=l.un;let⟨z,r,rfl,hz,l⟩:=l.un;let⟨z2,r,rfl,Nj,l⟩:=l.un;have:=l.un0;subst this;rw[hy.ui,hz.ui,Nj.ub]at q;show(bA a O q)
theorem KQ  (h:Is K H (DT held coming doors) y):∃(a b c d:Á),y=.ref a/\aP K H a [.ref b,.ref c,.ref d]/\aP K H b (held.map V.int)/\aP K H c (coming.map V.int)/\aP K H d (doors.map V.bl):=by
 let⟨a,xs,rfl,q,l⟩:=(show Is K H (.tup [.tup (held.map D.int),.tup (coming.map D.int),.tup (doors.map D.bl)]) y from h).un;let⟨x1,r,rfl,h1,l⟩:=l.un;let⟨x2,r,rfl,h2,l⟩:=l.un;let⟨x3,r,rfl,h3,l⟩:=l.un;have:=l.un0;subst this;let⟨b,ys,rfl,q1,l1⟩:=h1.un;let⟨c,zs,rfl,q2,l2⟩:=h2.un;let⟨d,us,rfl,q3,l3⟩:=h3.un;rw[l1.ints]at q1;rw[l2.ints]at q2;rw[l3.bools]at q3;show(JJ a b c d O ⟨q,q1,q2,q3⟩)
theorem QL  (q:aP K H a [.ref b,.ref c,.ref d]) (q1:aP K H b (held.map V.int)) (q2:aP K H c (coming.map V.int)) (q3:aP K H d (doors.map V.bl)):Is K H (DT held coming doors) (.ref a):=
 Ð q (.cons (Ð q1 (aa8 _)) (.cons (Ð q2 (aa8 _)) (.cons (Ð q3 (IsL.of_bools _)) .nil)))
def uC (K:Ç):Sp:=λ args H Q _=>∃(x y:V) (z:Á) (sps:List AH) (held coming poured:List Int) (doors:List Bool) (n:Nat),args=[x,y,.ref z]/\Is K H (.tup (sps.map sI)) x/\Is K H (DT held coming doors) y/\aP K H z (poured.map V.int)/\
 held.length=n/\coming.length=n/\poured.length=n/\doors.length=sps.length/\n<=12/\(∀ s∈sps,0<=s.1/\s.1 < n)/\
 ∀ p H',aE H H'->H p=W->H' p=Y (.lst ((iU (oG held coming poured) sps doors).map V.int))->Q (.ref p) H'
theorem IS (F:Fun K "filled" "filled" (bG 11) f fd) (T:Txt mg):FnOk P w K mg base fX 1 f fd ["spouts","state","poured"] (uC K):=by
 show F.ok ["spouts","state","poured","held","coming","doors","has","target","flow","first_door","door"] λ sc gz A outer s H vs Q E hr h=>?_
 ·let⟨x,y,z,sps,held,coming,poured,doors,n,rfl,hx,hy,qz,l1,l2,l3,l4,hn,kf,k⟩:=h;show⟨_,(aA (bP (pv 1) (aM (K:=K) (n:=3) O O (aB (gL 3 sc.nd) (aB (gL 4 sc.nd) (aB (gL 5 sc.nd) aL)))))
   (aA (gS (i:=6) sc.nd O O (λ _ _ h=>h) O (LcOk.mk (N':=["amounts"]) (fr:=[W]) O trivial O O O O O trivial) (LO (K:=K) O O T.b_zip (a7 (pv 3) (a7 (pv 4) (a7 (pv 2) a9)))) (λ _ _ _=>(gC 0 ["amounts"])) (λ _ _ _=>c9) (λ _ _ _=>(bO (n6 (K:=K) O O) O T.b_sum ũ (a7 (pv 0) a9))))
   (aA (dB ò O (uT (K:=K) O O T.b_zip (a7 (pv 0) (a7 (pv 5) a9))) (aM (K:=K) (n:=2) O O (aB (aM (K:=K) (n:=3) O O (aB (gL 7 sc.nd) (aB (gL 8 sc.nd) (aB (gL 9 sc.nd) aL)))) (aB (gL 10 sc.nd) aL))) (aF (cE (cO (pv 10)) (aF (G7 (pv 6) (pv 7) (xZ (K:=K) O) (pv 8) A2 jM)) bF)))
   (aF (aK (pv 6)))))),?_⟩
  let⟨ax,xs,rfl,qx,lx⟩:=hx.un;let⟨ay,a1,a2,a3,rfl,qy,q1,q2,q3⟩:=KQ hy;have mx:xs.length=sps.length:=by rw[lx.length,Ê]
  show⟨_,O,ay,_,O,qy,O,_,_,O,_,_,O,_,_,O,O,?_⟩;have la:=mK l1 l2 l3;show⟨_,O,_,O,_,O,Eg,Eg,Eg,a1,a2,z,O,⟨_,q1⟩,⟨_,q2⟩,⟨_,qz⟩,PV (K:=K) (xs:=held.map V.int) (ys:=coming.map V.int) (zs:=poured.map V.int) (n:=n) (by simpa using l1) (by simpa using l2) (by simpa using l3)
   (λ D i r ac H'=>H D=W/\aE H H'/\H' D=Y (.lst r)/\r=((oG held coming poured).take i).map V.int/\∃ v,ac=[v])
   (λ D i r ac H' p=>⟨p.2.1.tup q1,p.2.1.tup q2,p.2.1.tup qz⟩) (λ D hD=>⟨hD,È hD,a8,G0,W,O⟩) ?_ ?_⟩
  rotate_left
  ·rintro D i x0 y0 z0 r ac H' Tt nz Ko Tk ⟨hD,sm,ie,rfl,v,rfl⟩ hT;rw[Ø] at nz Ko Tk;let⟨x,hx,rfl⟩:=é.mp nz;let⟨y,hy,rfl⟩:=é.mp Ko;let⟨z',hz,rfl⟩:=é.mp Tk;have hi:=DJ hx hy hz;have mw:=(Ö.mp hi).1;have nT:D≠Tt:=aI ie hT;show cZ ?_;show⟨_,O,Eg,Tt,[x,y,z'],O,Í a8,by rw[aG nT];show ie,aS (by simp;lia),hD,?_,a8,?_,_,O⟩
   ·intro b o e;rw[aG (aI e hD)];show È hT b o (sm b o e)
   ·rw[aY hi,Ó];have:[x,y,z'].sum=x+y+z':=by simp;lia
    rw[this];rfl
  ·rintro D r ac H1 xK;let⟨hD,sm,ie,rfl,_⟩:=xK;rw[<- la,æ] at ie;show⟨_,O,_,O,Eg,Eg,ax,a3,O,⟨_,sm.tup qx⟩,⟨_,sm.tup q3⟩,NJ (K:=K) (xs:=xs) (ys:=doors.map V.bl) (n:=sps.length) mx (by rw[Ê,l4])
    (λ i ac H'=>aE H H'/\H' D=Y (.lst ((iU (oG held coming poured) (sps.take i) (doors.take i)).map V.int))/\
     ∃ v7 v8 v9 sg,ac=[Y (.ref ax),Y (.ref ay),Y (.ref z),Y (.ref a1),Y (.ref a2),Y (.ref a3),Y (.ref D),v7,v8,v9,sg])
    (λ i ac H' p=>⟨p.1.tup qx,p.1.tup q3⟩) ⟨sm,by cases sps <;> show ie,W,W,W,W,rfl⟩ ?_ ?_⟩
   ·rintro ac H2 xK;let⟨il,h2,v7,v8,v9,sg,rfl⟩:=xK;rw[<- l4,æ]at h2;rw[l4,æ]at h2;show(bA _ O ?_);show k D H2 il hD h2
   ·rintro i x y ac H2 Tt hx hy ⟨il,h2,v7,v8,v9,sg,rfl⟩ hT;let⟨sp,za,sa,rfl,qs⟩:=tY lx hx;rw[Ø]at hy;let⟨dr,Nr,rfl⟩:=é.mp hy;have nT:D≠Tt:=aI h2 hT;have ko:aE H (upd H2 Tt (.tup [.ref sa,.bl dr])):=λ b o e=>È hT b o (il b o e);have h3:upd H2 Tt (.tup [.ref sa,.bl dr]) D=Y (.lst ((iU (oG held coming poured) (sps.take i) (doors.take i)).map V.int)):=by rw[aG nT];show h2
    show(bU Tt _ O ⟨Í a8,O,(bU _ _ O (bU sa _ O ⟨ko.tup qs,O,(bU _ _ O (bU _ _ O (bU _ _ O ⟨O,(bU _ _ O ⟨O,?_⟩)⟩)))⟩))⟩);show(bA _ O (bA _ O ?_));have snoc:=vW sps doors i (oG held coming poured) sp dr za Nr;cases dr with
    |false=>
     show eG ?_;show⟨ko,?_,_,_,_,_,O⟩;rw[snoc];show h3
    |true=>
     show eS ?_;have hs:=kf sp (Û za);have gr:(iU (oG held coming poured) (sps.take i) (doors.take i)).length=n:=by rw[jX,la]
     have jh:sp.1.toNat < (iU (oG held coming poured) (sps.take i) (doors.take i)).length:=by rw[gr];lia
     have hg:((iU (oG held coming poured) (sps.take i) (doors.take i)).map V.int)[sp.1.toNat]?=Y (.int ((iU (oG held coming poured) (sps.take i) (doors.take i)).getD sp.1.toNat 0)):=by
      rw[Ø,Ė];simp[jh]
     show⟨_,O,_,O,D,_,sp.1,_,O,O,É h3,hs.1,Fn,hg,_,O,_,_,O,O,D,_,sp.1,sp.1.toNat,O,O,h3,zZ hs.1 (by rw[Ê,gr];lia),?_⟩;show⟨ko.put hD,?_,_,_,_,_,O⟩;rw[a8,snoc,y9,Å rfl,List.map_set]
theorem kC:∀(vs:List Vs) (hs:List Int),vs.length=hs.length->(gG vs hs).length=vs.length
 |[],_,_=>by simp[gG]
 |_::_,[],h=>by simp at h
 |a::vs,b::hs,h=>by simp only[gG,Ý];rw[kC vs hs (by simpa using h)]
theorem gI  (h:Is K H (cJ net) x):∃(a b c:Á) (xs ys:List V),x=.ref a/\aP K H a [.ref b,.ref c]/\aP K H b xs/\IsL K H (net.vs.map lB) xs/\aP K H c ys/\IsL K H (net.sps.map sI) ys:=by
 let⟨a,zs,rfl,q,l⟩:=(show Is K H (.tup [.tup (net.vs.map lB),.tup (net.sps.map sI)]) x from h).un;let⟨x1,r,rfl,h1,l⟩:=l.un;let⟨x2,r,rfl,h2,l⟩:=l.un;have:=l.un0;subst this;let⟨b,xs,rfl,q1,l1⟩:=h1.un;let⟨c,ys,rfl,q2,l2⟩:=h2.un;show(eA5 a b c xs ys O ⟨q,q1,l1,q2,l2⟩)
structure StOk (net:Net) (held coming:List Int) (doors:List Bool):Prop where
 h:held.length=net.vs.length
 c:coming.length=net.vs.length
 d:doors.length=net.sps.length
def DU (K:Ç):Sp:=λ args H Q _=>∃(x y:V) (z:Á) (net:Net) (held coming poured:List Int) (doors:List Bool),args=[x,y,.ref z]/\Is K H (cJ net) x/\Is K H (DT held coming doors) y/\aP K H z (poured.map V.int)/\
 NetOk net/\StOk net held coming doors/\poured.length=net.vs.length/\∀(p:Á) (ys:List V) H',aE H H'->aP K H' p ys->Is K H' (QI (tV net held coming poured doors)) (.ref p)->Q (.ref p) H'
def fH (H:Hp) (t sl:Á):Prop:=∃(ns:List Int) (pos cell:Int),H t=Y (.lst [.ref sl,.int pos,.int cell])/\H sl=Y (.lst (ns.map V.int))/\ns.length<=1000
theorem fH.mut  (h:fH H t sl):iI (H t):=by let⟨ns,pos,cell,e,_⟩:=h;rw[e];show trivial
theorem fH.same  (h:fH H t sl) (s:aE H H'):fH H' t sl:=by
 let⟨ns,pos,cell,e,f,g⟩:=h;show⟨ns,pos,cell,s _ _ e,s _ _ f,g⟩
def kD:Sp:=λ vs H Q _=>∃(t sl:Á) (many:Int),vs=[.ref t,.int many]/\fH H t sl/\0 < many/\many < 1000000/\
 ∀(r:Int) H',bS t H H'->fH H' t sl->0<=r->r < many->Q (.int r) H'
def OP:Sp:=λ vs H Q _=>∃(t sl:Á) (many:Int),vs=[.ref t,.int many]/\fH H t sl/\0 < many/\many < 2 ^ 200/\
 ∀(r:Int) H',bS t H H'->fH H' t sl->0<=r->r < many->Q (.int r) H'
abbrev yZ (K:Ç):TS:=kB (nA (jJ (rI (λ _ j=>0 < j) λ i j=>.int (i % j)) (jJ (E4 K) (dG 0) (tC (.int 2))) (dG 1)) (eJ 4)) (kB (nA (jJ (rI RL λ i j=>.int (i / j)) (jJ (E4 K) (dG 0) (tC (.int 2))) (dG 1)) (NG (dG 0) (tC (.int 2)) BK)) (RP (dG 4)))
abbrev LC (K:Ç):TS:=kB (nA (jJ (zB λ i j=>.int (i+j)) (jJ (E4 K) (dG 0) (tC (.int 1))) (tC (.int 1))) (NG (dG 0) (tC (.int 1)) BK)) (nA (dG 3) (NG (dG 0) (tC (.int 2)) BK))
abbrev LD (K:Ç):TS:=kB (nA (jJ (rI (λ _ j=>0 < j) λ i j=>.int (i % j)) (jJ (zB λ i j=>.int (i+j)) (dG 3) (jJ (rI DL λ i j=>.int (i * j)) (tC (.int 1000003)) (jJ (E4 K) (dG 0) (tC (.int 1))))) (dG 2)) (eJ 3)) (kB (nA (jJ (rI (λ _ j=>0 < j) λ i j=>.int (i % j)) (jJ (zB λ i j=>.int (i+j)) (jJ (zB λ i j=>.int (i+j)) (jJ (rI DL λ i j=>.int (i * j)) (dG 3) (dG 3)) (jJ (rI DL λ i j=>.int (i * j)) (tC (.int 1181783497276652981)) (dG 3))) (tC (.int 2049848353892358983))) (dG 2)) (eJ 3)) (nA (jJ (rI (λ _ j=>0 < j) λ i j=>.int (i % j)) (jJ (zB λ i j=>.int (i+j)) (jJ (rI DL λ i j=>.int (i * j)) (dG 3) (dG 3)) (tC (.int 1442695040888963407))) (dG 2)) (eJ 3)))
abbrev S7 (K:Ç):TT:=tOr (AS (jJ (zB λ i j=>.bl (decide (j<=i))) (jJ (E4 K) (dG 0) (tC (.int 1))) (RZ (SA K) (aR (jJ (E4 K) (dG 0) (tC (.int 0))) cU)))) (AS (jJ (zB λ i j=>.bl (decide (i < j))) (dG 3) (jJ (rI VO λ i j=>.int (i ^ j.toNat)) (tC (.int 10)) (tC (.int 18)))))
abbrev dE (Q:VK):Ends:={ nx:=λ _ H'=>Q .non H',rt:=Q }
theorem wL (F:Fun K "_law_draw" "_law_draw" (bG 79) f fd) (T:Txt mg):FnOk P w K mg base fX 1 f fd ["tape","many"] OP:=by
 show F.ok ["tape","many","prime","cell","found"] λ sc gz A outer s H vs Q E hr h=>?_
 ·let⟨t,sl,many,rfl,⟨ns,pos,cell,ht,tz,ua⟩,Gw,XF,k⟩:=h;show⟨_,(aA (pL 2 sc.nd aD)
   (aA (cE (bN rX (px K (pv 0) aD) (pv 1) (bK _)) (aA (pL 3 sc.nd aD)
   (aA (cE (bN GA (rW K T.b_len (px K (pv 0) aD)) aD (bK _)) (aF (pL 3 sc.nd (px K (px K (pv 0) aD) (aW nW (px K (pv 0) aD) (rW K T.b_len (px K (pv 0) aD)))))) bF)
   (aA (cE (PW.pt (BM (bN M3 (px K (pv 0) aD) (rW K T.b_len (px K (pv 0) aD)) (bK _)) (uP (bN rX (pv 3) (aW SM aD aD) (bK _))))) (aA (pL 3 sc.nd (aW nW (aW cF (pv 3) (aW nV aD (px K (pv 0) aD))) (pv 2)))
   (aA (pL 3 sc.nd (aW nW (aW cF (aW cF (aW nV (pv 3) (pv 3)) (aW nV aD (pv 3))) aD) (pv 2)))
   (aF (pL 3 sc.nd (aW nW (aW cF (aW nV (pv 3) (pv 3)) aD) (pv 2)))))) bF)
   (aA (bP (aW cF (px K (pv 0) aD) aD) (zF (pv 0) aD jM))
   (aF (bP (pv 3) (zF (pv 0) aD jM))))))) bF)
   (aA (pL 4 sc.nd (aW nW (px K (pv 0) aD) (pv 1)))
   (aA (bP (aW M4 (px K (pv 0) aD) (pv 1)) (zF (pv 0) aD jM))
   (aF (aK (pv 4))))))),?_⟩
  have Kq:sl≠t:=R0 tz ht (by intro z;injection z with z;cases ns <;> simp at z);have ix:∀ {H1:Hp}{p' c':Int}{Q:VK},H1 t=Y (.lst [.ref sl,.int p',.int c'])->Q (.ref sl) H1->E4 K (.ref t) (.int 0) H1 Q:=λ e q=>.inl ⟨t,_,0,_,rfl,rfl,É e,rfl,q⟩;have Kr:∀ {H1:Hp}{p' c':Int}{Q:VK},H1 t=Y (.lst [.ref sl,.int p',.int c'])->Q (.int p') H1->E4 K (.ref t) (.int 1) H1 Q:=λ e q=>.inl ⟨t,_,1,_,rfl,rfl,É e,rfl,q⟩;have Nt:∀ {H1:Hp}{p' c':Int}{Q:VK},H1 t=Y (.lst [.ref sl,.int p',.int c'])->Q (.int c') H1->E4 K (.ref t) (.int 2) H1 Q:=λ e q=>.inl ⟨t,_,2,_,rfl,rfl,É e,rfl,q⟩;have tail:∀ (v3:Option V) (H1:Hp) (p' c':Int),bS t H H1->H1 t=Y (.lst [.ref sl,.int p',.int c'])->yZ K (dE Q) [Y (.ref t),Y (.int many),Y (.int 2305843009213693951),v3,W] H1:=by
   intro v3 H1 p' c' bt e;show(bA _ O (Nt e (bA _ O (bU _ _ O ⟨O,Gw,?_⟩))));show⟨_,O,Nt e ⟨_,O,_,_,O,O,⟨Gw,XF⟩,_,O,t,_,2,2,O,O,e,O,_,O,?_⟩⟩;show k _ _ (bt.trans Ú) ⟨ns,p',c' / many,a8,?_,ua⟩ (Ž _ Fn) (Ų _ Gw);rw[aG Kq];show bt sl _ Kq tz
  show(bA _ O (Nt ht (bA _ O (bU _ _ O ⟨O,(bA _ O ?_)⟩))));show i9 (λ _=>?_) (λ _=>tail W H pos cell (ď H) ht);have mid:∀(c':Int),LC K { nx:=yZ K (dE Q),rt:=Q } [Y (.ref t),Y (.int many),Y (.int 2305843009213693951),Y (.int c'),W] H:=by
   intro c';show⟨_,O,Kr ht ⟨_,_,O,O,_,O,t,_,1,1,O,O,ht,O,?_⟩⟩;show⟨_,O,_,O,t,_,2,2,O,O,a8,O,?_⟩;show tail (Y (.int c')) _ (pos+1) c' (bS.upd.trans Ú) a8
  have Tl:∀(c':Int),kB (HX (S7 K) (LD K) nE) (LC K) { nx:=yZ K (dE Q),rt:=Q } [Y (.ref t),Y (.int many),Y (.int 2305843009213693951),Y (.int c'),W] H:=by
   intro c';have body:∀ σ,σ=[Y (.ref t),Y (.int many),Y (.int 2305843009213693951),Y (.int c'),W]->LD K { nx:=LC K { nx:=yZ K (dE Q),rt:=Q },rt:=Q } σ H:=by
    rintro σ rfl;have prime:(0:Int) < 2305843009213693951:=by decide
    show(bA _ O (bA _ O (Kr ht (bU _ _ O ⟨O,.inl ⟨FZ,FZ⟩,(bU _ _ O ⟨O,(bA _ O (bU _ _ O ⟨O,prime,?_⟩))⟩)⟩))));have b1:=Ž (c'+1000003 * pos) (show(2305843009213693951:Int)≠0 by decide);have b2:=Ų (c'+1000003 * pos) prime;generalize(c'+1000003 * pos) % 2305843009213693951=c1 at b1 b2;show(bA _ O (bA _ O (bU _ _ O ⟨O,.inl ⟨Fn,Fn⟩,(bA _ O (bU _ _ O ⟨O,.inl ⟨FZ,FZ⟩,(bU _ _ O ⟨O,(bU _ _ O ⟨O,(bA _ O (bU _ _ O ⟨O,prime,?_⟩))⟩)⟩)⟩))⟩)));have b3:=Ž (c1 * c1+1181783497276652981 * c1+2049848353892358983) (show(2305843009213693951:Int)≠0 by decide);have b4:=Ų (c1 * c1+1181783497276652981 * c1+2049848353892358983) prime;generalize(c1 * c1+1181783497276652981 * c1+2049848353892358983) % 2305843009213693951=c2 at b3 b4;show(bA _ O (bA _ O (bU _ _ O ⟨O,.inl ⟨Fn,Fn⟩,(bU _ _ O ⟨O,(bA _ O (bU _ _ O ⟨O,prime,?_⟩))⟩)⟩)));show mid _
   show(bA _ O (Kr ht (bA _ O (ix ht (bU sl _ O ⟨.inl (É tz),(bU _ _ O ⟨O,(bA _ O ?_)⟩)⟩)))));show i9 (λ _=>?_) (λ _=>?_)
   ·show eS ?_;show body _ O
   ·show(bA _ O (bU _ _ O ⟨O,⟨FZ,FZ,FZ⟩,(bU _ _ O ⟨O,(bA _ O ?_)⟩)⟩));show i9 (λ _=>body _ O) (λ _=>mid _)
  show(bA _ O (ix ht (bU sl _ O ⟨.inl (É tz),(bU _ _ O ⟨O,(bA _ O ?_)⟩)⟩)));show i9 (λ gr=>?_) (λ _=>Tl 0);have Dn:0 < ns.length:=by have:=ć gr;simpa using this
  show⟨_,O,ix ht ⟨_,O,Kr ht ⟨_,O,ix ht ⟨sl,_,O,.inl (É tz),_,_,O,O,(show (0:Int) < (((ns.map V.int).length:Nat):Int) by rw[Ê];lia),?_⟩⟩⟩⟩;have m1:=Ž pos (show (((ns.map V.int).length:Nat):Int)≠0 by rw[Ê];lia);have m2:=Ų pos (show (0:Int) < (((ns.map V.int).length:Nat):Int) by rw[Ê];lia);rw[Ê] at m1 m2;have XG:(ns.map V.int)[(pos % ((ns.map V.int).length:Int)).toNat]? = Y (.int (ns[(pos % (ns.length:Int)).toNat]'Fn)):=by
   rw[Ê,Ø];simp[show(pos % (ns.length:Int)).toNat < ns.length by lia]
  show .inl ⟨sl,_,_,_,O,O,É tz,tJ (by rw[Ê];show m1) XG,?_⟩;show Tl _
theorem zT (F:Fun K "_law_draw" "_law_draw" (bG 79) f fd) (T:Txt mg):FnOk P w K mg base fX 1 f fd ["tape","many"] kD:=
 (wL F T).imp λ vs H Q E ⟨t,sl,many,e,tp,h0,h1,k⟩=>⟨t,sl,many,e,tp,h0,Int.lt_of_lt_of_le h1 FZ,k⟩
structure Ext (t sl:Á) (H H':Hp):Prop where
 bt:bS t H H'
 tp:fH H' t sl
theorem fH.some  (h:fH H t sl):∃ o,H t=Y o:=by let⟨ns,pos,cell,e,_⟩:=h;show⟨_,e⟩
theorem fH.put  (h:fH H t sl) (h1:p≠t) (h2:p≠sl):fH (upd H p o) t sl:=by
 let⟨ns,pos,cell,e,f,g⟩:=h;show⟨ns,pos,cell,by rw[aG (Ne.symm h1)];show e,by rw[aG (Ne.symm h2)];show f,g⟩
theorem fH.ne_sl  (h:fH H t sl) (hp:H p=W):p≠sl:=by
 let⟨ns,pos,cell,e,f,g⟩:=h;show λ z=>by rw[z,f]at hp;cases hp
theorem Ext.new  (e:Ext t sl H H') (hp:H' p=W):Ext t sl H (upd H' p o):=⟨e.bt.trans (È hp).but,e.tp.same (È hp)⟩
theorem Ext.ne  (e:Ext t sl H H') (hp:H' p=W):p≠t:=by
 let⟨o,h⟩:=e.tp.some;intro z;rw[z,h]at hp;cases hp
theorem Ext.ts  (e:Ext t sl H H') (tp:fH H t sl):bD K H H':=e.bt.ts tp.mut
def Gn (t sl:Á) (σ:St) (H0:Hp) (P:V->Prop) (te:TE):Prop:=∀ H Q,Ext t sl H0 H->(∀ v H',Ext t sl H0 H'->bS t H H'->P v->Q v H')->te σ H Q
section
variable {t sl:Á}{σ:St}{H0:Hp}{P:V->Prop}{a b c d:TE}
def eA (lo hi:Int):V->Prop:=λ v=>∃ i,v=.int i/\lo<=i/\i < hi
theorem Gn.imp  (h:Gn t sl σ H0 P a) (f:∀ v,P v->P' v):Gn t sl σ H0 P' a:=λ H Q e k=>h H Q e λ v H' e' b p=>k v H' e' b (f v p)
theorem vU  (h:P v):Gn t sl σ H0 P (tC v):=λ H Q e k=>k v H e (ď H) h
theorem V9  (cb:σ[i]?=Y (Y v)) (h:P v):Gn t sl σ H0 P (dG i):=λ H Q e k=>⟨v,cb,k v H e (ď H) h⟩
theorem iS (ha:Gn t sl σ H0 P a) (hb:Gn t sl σ H0 P b) (hc:Gn t sl σ H0 (eA 0 2) c):Gn t sl σ H0 P (jJ (E4 K) (DQ (aR a (aR b cU))) c):=by
 intro H Q e k;show ha H _ e λ v1 H1 e1 b1 p1=>hb H1 _ e1 λ v2 H2 e2 b2 p2=>⟨(sz0 2),λ p hp=>hc _ _ (e2.new hp) λ v H3 e3 b3 ⟨i,hi,h0,h1⟩=>?_⟩;subst hi;have hl:=b3 p _ (e2.ne hp) a8;have hb:bS t H H3:=b1.trans (b2.trans ((È hp).but.trans b3));rcases (show i=0\/i=1 by lia)with rfl|rfl
 ·show .inl (JJ p _ 0 v1 O ⟨O,É hl,O,k v1 H3 e3 hb p1⟩)
 ·show .inl (JJ p _ 1 v2 O ⟨O,É hl,O,k v2 H3 e3 hb p2⟩)
theorem CP (ha:Gn t sl σ H0 P a) (hb:Gn t sl σ H0 P b) (hd:Gn t sl σ H0 P d) (hc:Gn t sl σ H0 (eA 0 3) c):Gn t sl σ H0 P (jJ (E4 K) (DQ (aR a (aR b (aR d cU)))) c):=by
 intro H Q e k;show ha H _ e λ v1 H1 e1 b1 p1=>hb H1 _ e1 λ v2 H2 e2 b2 p2=>hd H2 _ e2 λ v4 H4 e4 b4 p4=>⟨(sz0 3),λ p hp=>hc _ _ (e4.new hp) λ v H3 e3 b3 ⟨i,hi,h0,h1⟩=>?_⟩;subst hi;have hl:=b3 p _ (e4.ne hp) a8;have hb:bS t H H3:=b1.trans (b2.trans (b4.trans ((È hp).but.trans b3)));rcases (show i=0\/i=1\/i=2 by lia)with rfl|rfl|rfl
 ·show .inl (JJ p _ 0 v1 O ⟨O,É hl,O,k v1 H3 e3 hb p1⟩)
 ·show .inl (JJ p _ 1 v2 O ⟨O,É hl,O,k v2 H3 e3 hb p2⟩)
 ·show .inl (JJ p _ 2 v4 O ⟨O,É hl,O,k v4 H3 e3 hb p4⟩)
theorem A4  (cb:σ[i]?=Y (Y (.ref t))) (Mr:0 < lo) (Do:hi<=1000000) (ha:Gn t sl σ H0 (eA lo hi) a):Gn t sl σ H0 (λ v=>∃ r m,v=.int r/\0<=r/\r < m/\lo<=m/\m < hi) (oK kD [] E0 (aR (dG i) (aR a cU))):=by
 intro H Q e k;show⟨_,cb,ha H _ e λ v H1 e1 b1 ⟨m,hm,h0,h1⟩=>?_⟩;subst hm;show(NN t sl m O ⟨e1.tp,Fn,Fn,λ r H2 b2 t2 r0 r1=>k _ H2 ⟨e1.bt.trans b2,t2⟩ (b1.trans b2) (bU r m O ⟨r0,r1,h0,h1⟩)⟩)
theorem bW  (cb:σ[i]?=Y (Y (.ref t))) (h0:0 < m) (h1:m < 1000000):Gn t sl σ H0 (eA 0 m) (oK kD [] E0 (aR (dG i) (aR (tC (.int m)) cU))):=
 (A4 (lo:=m) (hi:=m+1) cb h0 Fn (vU (bA m rfl ⟨Fn,Fn⟩))).imp λ v ⟨r,m',e,a,b,c,d⟩=>⟨r,e,a,Fn⟩
theorem mB  (cb:σ[i]?=Y (Y (.ref t))) (hj:σ[j]?=Y (Y (.int m))) (h0:0 < m) (h1:m < 1000000):Gn t sl σ H0 (eA 0 m) (oK kD [] E0 (aR (dG i) (aR (dG j) cU))):=
 (A4 (lo:=m) (hi:=m+1) cb h0 Fn (V9 hj (bA m rfl ⟨Fn,Fn⟩))).imp λ v ⟨r,m',e,a,b,c,d⟩=>⟨r,e,a,Fn⟩
theorem A5  (ha:Gn t sl σ H0 (eA x y) a) (hb:Gn t sl σ H0 (eA l h) b):Gn t sl σ H0 (eA (x+l) (y+h - 1)) (jJ (zB λ i j=>.int (i+j)) a b):=by
 intro H Q e k;show ha H _ e λ v1 H1 e1 b1 ⟨i,hi,i0,i1⟩=>hb H1 _ e1 λ v2 H2 e2 b2 ⟨j,hj,j0,j1⟩=>?_;subst hi hj;show(bU i j O ⟨O,k _ H2 e2 (b1.trans b2) (bA _ O ⟨Fn,Fn⟩)⟩)
theorem NC  (hm:0 < m) (Tm:m < 1000000) (ha:Gn t sl σ H0 (eA 0 y) a):Gn t sl σ H0 (λ v=>∃ i,v=.int (i / m)/\0<=i/\i < y) (jJ (rI TY λ i j=>.int (i / j)) a (tC (.int m))):=by
 intro H Q e k;show ha H _ e λ v1 H1 e1 b1 ⟨i,hi,i0,i1⟩=>?_;subst hi;show(bU i m O ⟨O,⟨hm,Fn⟩,k _ H1 e1 b1 (bA i O ⟨i0,i1⟩)⟩)
theorem A3  (ha:Gn t sl σ H0 (eA 0 y) a):Gn t sl σ H0 (λ v=>∃ b:Bool,v=.bl b) (jJ rEq a (tC (.int c0))):=by
 intro H Q e k;show ha H _ e λ v1 H1 e1 b1 ⟨i,hi,i0,i1⟩=>?_;subst hi;show⟨O,k _ H1 e1 b1 ⟨_,O⟩⟩
theorem TB  (ha:Gn t sl σ H0 (eA 0 y) a):Gn t sl σ H0 (λ v=>∃ b:Bool,v=.bl b) (jJ (zB λ i j=>.bl (decide (j < i))) a (tC (.int c0))):=by
 intro H Q e k;show ha H _ e λ v1 H1 e1 b1 ⟨i,hi,i0,i1⟩=>?_;subst hi;show(bU i c0 O ⟨O,k _ H1 e1 b1 ⟨_,O⟩⟩)
abbrev LG:List V->Hp->VK->Prop:=λ xs H Q=>(∃ i,xs=[.int i]/\Q (.int i) H)\/∃ k,xs=[.bl k]/\Q (.int (if k then 1 else 0)) H
theorem NA  (cb:σ[i]?=Y (Y (.bl s))):Gn t sl σ H0 (eA 0 2) (RZ LG (aR (dG i) cU)):=by
 intro H Q e k;show⟨_,cb,.inr (bA s O (k _ H e (ď H) ?_))⟩;cases s
 ·show(bA 0 O ⟨Fn,Fn⟩)
 ·show(bA 1 O ⟨Fn,Fn⟩)
theorem tD  (cb:σ[i]?=Y (Y (.bl s))) (h1:lo<=x/\x < hi) (h2:lo<=y/\y < hi):Gn t sl σ H0 (eA lo hi) (jJ (E4 K) (DQ (aR (tC (.int x)) (aR (tC (.int y)) cU))) (RZ LG (aR (dG i) cU))):=
 iS (vU (bA x rfl ⟨h1.1,h1.2⟩)) (vU (bA y rfl ⟨h2.1,h2.2⟩)) (NA cb)
theorem tE (ha:Gn t sl σ H0 (eA 0 4) a):Gn t sl σ H0 (eA 0 2) (jJ (rI TY λ i j=>.int (i / j)) a (tC (.int 3))):=
 (NC FZ FZ ha).imp λ v ⟨i,e,a,b⟩=>⟨i / 3,e,Fn,Fn⟩
theorem nN  (h:Gn t sl σ H0 (eA lo hi) a) (h1:Tn<=lo) (h2:hi<=wq):Gn t sl σ H0 (eA Tn wq) a:=h.imp λ v ⟨i,e,a,b⟩=>⟨i,e,Fn,Fn⟩
theorem mC  (cb:σ[i]?=Y (Y (.ref t))) (Mr:0 < lo) (Do:hi<=1000000) (ha:Gn t sl σ H0 (eA lo hi) a):Gn t sl σ H0 (eA 0 (hi - 1)) (oK kD [] E0 (aR (dG i) (aR a cU))):=
 (A4 cb Mr Do ha).imp λ v ⟨r,m,e,a,b,c,d⟩=>⟨r,e,a,Fn⟩
end
def KY (K:Ç):Sp:=λ args H Q _=>∃(t sl:Á) (n:Nat) (jb:Bool),args=[.ref t,.int (n:Int),.bl jb]/\fH H t sl/\1<=n/\n<=12/\
 ∀(outs:List (Option Int×Int)) p H',Ext t sl H H'->outs≠[]->outs.length<=3->(∀ o∈outs,OutOk n o)->Is K H' (.tup (outs.map jR)) p->Q p H'
theorem zR (F:Fun K "_law_outs" "_law_outs" (bG 80) f fd) (T:Txt mg) (gk:Callee P w K mg base "_law_draw" ["tape","many"] 1 kD fD At):FnOk P w K mg base fX 2 f fd ["tape","many","small"] (KY K):=by
 show F.ok ["tape","many","small","outs","k","target","parts"] λ sc gz A outer s H vs Q E hr h=>?_
 ·let⟨t,sl,n,jb,rfl,tp,n1,n2,k⟩:=h;show⟨_,(aA (pL 3 sc.nd (bC a9))
   (aA (dB ò O (eF O T.b_range (a7 (aW cF aD (px K (bC (a7 (cA gk hr (a7 (pv 0) (a7 aD a9))) (a7 (cA gk hr (a7 (pv 0) (a7 aD a9))) a9))) (cA gk hr (a7 (pv 0) (a7 aD a9))))) a9)) (gL 4 sc.nd) (aA (pL 5 sc.nd (px K (bC (a7 cH (a7 (cA gk hr (a7 (pv 0) (a7 (pv 1) a9))) (a7 (cA gk hr (a7 (pv 0) (a7 (pv 1) a9))) a9)))) (cA gk hr (a7 (pv 0) (a7 aD a9)))))
   (aA (pL 6 sc.nd (px K (bC (a7 (cA gk hr (a7 (pv 0) (a7 aD a9))) (a7 (cA gk hr (a7 (pv 0) (a7 (px K (bC (a7 aD (a7 aD a9))) (aU k7 O T.b_int oC (a7 (pv 2) a9))) a9))) a9))) (aW mS (cA gk hr (a7 (pv 0) (a7 aD a9))) aD)))
   (aF (bH (dC (K:=K) O ì ô õ bL (pv 3) (a7 (aQ (a7 (pv 5) (a7 (aW cF aD (pv 6)) a9))) a9)))))))
   (aF (aK (aU (bR (K:=K) O) O T.b_tuple bT (a7 (pv 3) a9)))))),?_⟩
  show⟨à _,λ ol Bt=>?_⟩;have e0:Ext t sl H (upd H ol (.lst [])):=Ext.new ⟨ď H,tp⟩ Bt;have no:ol≠t:=Ext.ne ⟨ď H,tp⟩ Bt;show A5 (x:=1) (y:=2) (l:=0) (h:=3) (H0:=upd H ol (.lst [])) (t:=t) (sl:=sl) (vU (bA 1 O ⟨Fn,Fn⟩))
   (iS (nN (bW rfl FZ FZ) (Ć _) FZ) (bW rfl FZ FZ) (bW rfl FZ FZ)) _ _ ⟨ď _,e0.tp⟩ ?_
  rintro v H1 e1 _ xK;let⟨m,rfl,m0,m1⟩:=xK;show(bA m O ⟨Fn,Fn,?_⟩);show kR (lo:=0) (n:=m.toNat) (λ i ac H'=>Ext t sl H H'/\∃(outs:List (Option Int×Int)) (xs:List V),H' ol=Y (.lst xs)/\IsL K H' (outs.map jR) xs/\outs.length=i/\(∀ o∈outs,OutOk n o)/\
   ∃ v4 v5 v6,ac=[Y (.ref t),Y (.int (n:Int)),Y (.bl jb),Y (.ref ol),v4,v5,v6]) ?_ ?_ ?_
  ·show⟨⟨e0.bt.trans e1.bt,e1.tp⟩,[],[],e1.bt ol _ no a8,.nil,O,λ o ho=>(nomatch ho),W,W,W,O⟩
  ·rintro DD i - wt ac H2 hi ⟨e2,outs,xs,ho,hl,gr,hok,v4,v5,v6,rfl⟩;show CP (H0:=H2) (t:=t) (sl:=sl) (P:=λ v=>∃ o:Option Int,v=qD o/\∀ z,o=Y z->0<=z/\z < n) (vU (bA W O (λ z h=>nomatch h)))
    ((mB (m:=(n:Int)) rfl rfl Fn Fn).imp λ v ⟨r,e,a,b⟩=>⟨Y r,e,λ z h=>by cases h;show⟨a,Fn⟩⟩)
    ((mB (m:=(n:Int)) rfl rfl Fn Fn).imp λ v ⟨r,e,a,b⟩=>⟨Y r,e,λ z h=>by cases h;show⟨a,Fn⟩⟩) (bW rfl FZ FZ) _ _ ⟨ď _,e2.tp⟩ ?_
   rintro v H3 e3 _ xK;let⟨tg,rfl,XH⟩:=xK;show iS (H0:=H3) (t:=t) (sl:=sl) (P:=eA 0 60) (nN (bW O FZ FZ) (Ć _) FZ)
    (nN (mC (lo:=3) (hi:=61) rfl FZ FZ (tD rfl ⟨FZ,FZ⟩ ⟨FZ,FZ⟩)) (Ć _) FZ) (tE (bW rfl FZ FZ)) _ _ ⟨ď _,e3.tp⟩ ?_
   rintro v H4 e4 _ xK;let⟨pt,rfl,p0,p1⟩:=xK;have Gx:H4 ol=Y (.lst xs):=e4.bt ol _ no (e3.bt ol _ no ho);show(bA _ O ⟨.inl ⟨O,_,É Gx⟩,(bA _ O (bA _ O (bU _ _ O ⟨O,(sz0 2),λ q hq=>?_⟩)))⟩);have nq:ol≠q:=aI Gx hq;have Gq:xs.length=outs.length:=by rw[hl.length,Ê]
   have Y':m.toNat<=3:=by lia
   show⟨ol,xs,_,O,O,by rw[aG nq];show Gx,aS Fn,?_⟩;have e5:Ext t sl H2 (upd H4 q (.tup [qD tg,.int (1+pt)])):=Ext.new ⟨e3.bt.trans e4.bt,e4.tp⟩ hq;have ts:bD K H2 (upd (upd H4 q (.tup [qD tg,.int (1+pt)])) ol (.lst (xs++[.ref q]))):=bD.put (e5.ts e2.tp) (.inr (by rw[aG nq,Gx];show trivial));show wt _ _ ⟨⟨λ b o hb e=>?_,?_⟩,outs++[(tg,1+pt)],xs++[.ref q],a8,?_,by simp[gr],?_,_,_,_,O⟩
   ·rw[aG (aI e Bt)];show e5.bt b o hb (e2.bt b o hb e)
   ·show e5.tp.put no (fH.ne_sl tp Bt)
   ·rw[Ó];show Ă (Ð (ds:=[HW tg,.int (1+pt)]) (bD.put (bD.refl _) (.inr (by rw[aG nq,Gx];show trivial)) _ _ (Í a8)) (.cons (Is.tgOf tg) (.cons (Õ _) .nil))) (Î ts _ _ hl)
   ·intro o ho;rcases ÿ.mp ho with ho|ho
    ·show hok o ho
    ·rw[ù.mp ho];show⟨λ z hz=>XH z hz,by change 1<=1+pt;lia,by change 1+pt<=60;lia⟩
  ·rintro ac H2 xK;let⟨e2,outs,xs,ho,hl,gr,hok,v4,v5,v6,rfl⟩:=xK;show(bA _ O (bU ol _ O (.inl ⟨É ho,λ l Gy=>?_⟩)));show k outs _ _ (e2.new Gy) (λ z=>by rw[z]at gr;simp at gr;lia) Fn hok (Ð (Í a8) (Î (È Gy).ts _ _ hl))
end Tw
namespace L2
theorem N0 {D:Ends} (I:St->Hp->Prop) (h1:∀ D':Ends,(∀ ac H',I ac H'->D'.nx ac H')->HX c a b D' σ H) (h2:∀ ac H',I ac H'->D.nx ac H'):HX c a b D σ H:=h1 D h2
theorem TD {D:Ends}{H:Hp} (I:St->Hp->Prop) (h1:∀ D':Ends,(∀ ac H',I ac H'->D'.nx ac H')->RT i g b D' σ H) (h2:∀ ac H',I ac H'->D.nx ac H'):RT i g b D σ H:=h1 D h2
theorem fK {D:Ends} (I:St->Hp->Prop) (h1:∀ D':Ends,(∀ ac H',I ac H'->D'.nx ac H')->s D' σ H) (h2:∀ ac H',I ac H'->R D ac H'):kB s R D σ H:=h1 _ h2
end L2
namespace Tw
open PySem L2
section
variable {t sl:Á}{σ:St}{H0:Hp}{P:V->Prop}{a b c d:TE}
theorem MZ  (ha:Gn t sl σ H0 (eA 0 y) a) (e:Ext t sl H0 H) (k:∀(b:Bool) H',Ext t sl H0 H'->bS t H H'->if b=Eg then t' D' σ H' else u' D' σ H'):HX (AS (jJ rEq a (tC (.int c0)))) t' u' D' σ H:=
 A3 ha H _ e λ v H' e' b ⟨c,hc⟩=>⟨c,hc,k c H' e' b⟩
theorem JE  (cb:σ[i]?=Y (Y (.bl s))) (ha:Gn t sl σ H0 (eA 0 2) a):Gn t sl σ H0 (eA 0 2) (jJ (rI DL λ i j=>.int (i * j)) a (RZ LG (aR (QJ (dG i)) cU))):=by
 intro H Q e k;show ha H _ e λ v1 H1 e1 b1 ⟨j,hj,j0,j1⟩=>⟨_,cb,s,O,.inr ⟨!s,O,?_⟩⟩;subst hj;show(bU j _ O ⟨O,.inl ⟨Fn,Fn⟩,k _ H1 e1 b1 ?_⟩);cases s
 ·show⟨j,G0,j0,j1⟩
 ·show⟨0,G0,Fn,Fn⟩
theorem N9  (hj:σ[j]?=Y (Y (.int y))):Gn t sl σ H0 (eA (x - y) (x - y+1)) (jJ (zB λ i j=>.int (i - j)) (tC (.int x)) (dG j)):=λ H Q e k=>
 ⟨_,hj,x,y,rfl,rfl,k _ H e (ď H) ⟨_,rfl,Fn,Fn⟩⟩
theorem GN  (hj:σ[j]?=Y (Y (.int y))) (hb:Gn t sl σ H0 (eA l h) b):Gn t sl σ H0 (eA (y+l) (y+h)) (jJ (zB λ i j=>.int (i+j)) (dG j) b):=
 nN (A5 (x:=y) (y:=y+1) (V9 hj (bA y rfl ⟨Fn,Fn⟩)) hb) Fn Fn
end
structure VFull (i:Nat) (v:Vs):Prop where
 sz:v.size<=60
 br:v.size<=v.brim
 bh:v.brim<=200
 sp:∀ t,v.spill=Y t->(i:Int) < t
structure NetFull (net:Net):Prop where
 vs:∀ i v,net.vs[i]?=Y v->VFull i v
 sps:∀ s∈net.sps,0<=s.2.1/\s.2.1<=60
def AZ (K:Ç):Sp:=λ args H Q _=>∃(t sl:Á) (i n m:Nat) (jb:Bool),args=[.ref t,.int (i:Int),.int (n:Int),.int (m:Int),.bl jb]/\fH H t sl/\i < n/\n<=12/\m<=12/\
 ∀(v:Vs) p H',Ext t sl H H'->VOk n m v->VFull i v->Is K H' (lB v) p->Q p H'
theorem vD (F:Fun K "_law_vessel" "_law_vessel" (bG 81) f fd) (T:Txt mg) (gk:Callee P w K mg base "_law_draw" ["tape","many"] 1 kD fD At)
  (ur:Callee P w K mg base "_law_outs" ["tape","many","small"] 2 (KY K) fO Nm):FnOk P w K mg base fX 3 f fd ["tape","number","many","spouts","small"] (AZ K):=by
 show F.ok ["tape","number","many","spouts","small","size","brim","spill","acts","k"] λ sc gz A outer s H vs Q E hr h=>?_
 ·let⟨t,sl,i,n,m,jb,rfl,tp,hi,hn,hm,k⟩:=h;show⟨_,(aA (pL 5 sc.nd (aW cF aD (px K (bC (a7 (cA gk hr (a7 (pv 0) (a7 (px K (bC (a7 aD (a7 aD a9))) (aU k7 O T.b_int oC (a7 (pv 4) a9))) a9))) (a7 (cA gk hr (a7 (pv 0) (a7 (px K (bC (a7 aD (a7 aD a9))) (aU k7 O T.b_int oC (a7 (pv 4) a9))) a9))) a9))) (aW mS (cA gk hr (a7 (pv 0) (a7 aD a9))) aD))))
   (aA (pL 6 sc.nd (aW cF (pv 5) (px K (bC (a7 aD (a7 (cA gk hr (a7 (pv 0) (a7 (aW eN aD (pv 5)) a9))) a9))) (aW nV (cA gk hr (a7 (pv 0) (a7 aD a9))) (aU k7 O T.b_int oC (a7 (zG (pv 4)) a9))))))
   (aA (cE (bN lZ (cA gk hr (a7 (pv 0) (a7 aD a9))) aD (bK _)) (aF (pL 6 sc.nd (aW cF (pv 5) (cA gk hr (a7 (pv 0) (a7 aD a9)))))) bF)
   (aA (pL 7 sc.nd cH)
   (aA (cE (PW.pt (E5 (bN rX (aW cF (pv 1) aD) (pv 2) (bK _)) (zC (bN lZ (cA gk hr (a7 (pv 0) (a7 aD a9))) aD (bK _))))) (aF (pL 7 sc.nd (aW cF (aW cF (pv 1) aD) (cA gk hr (a7 (pv 0) (a7 (aW eN (aW eN (pv 2) (pv 1)) aD) a9)))))) bF)
   (aA (pL 8 sc.nd (bC a9))
   (aA (cE (bN GA (pv 3) aD (bK _)) (aF (dB ò O (eF O T.b_range (a7 (aW mS (cA gk hr (a7 (pv 0) (a7 aD a9))) aD) a9)) (gL 9 sc.nd) (aF (bH (dC (K:=K) O ì ô õ bL (pv 8) (a7 (aQ (a7 (px K (bC (a7 eY (a7 eY (a7 eY a9)))) (cA gk hr (a7 (pv 0) (a7 aD a9)))) (a7 (cA gk hr (a7 (pv 0) (a7 (pv 3) a9))) a9))) a9)))))) bF)
   (aF (aK (aQ (a7 (pv 5) (a7 (pv 6) (a7 (cA ur hr (a7 (pv 0) (a7 (pv 2) (a7 (pv 4) a9)))) (a7 (fI lZ (cA gk hr (a7 (pv 0) (a7 aD a9))) aD (bK _)) (a7 (pv 7) (a7 (aU (bR (K:=K) O) O T.b_tuple bT (a7 (pv 8) a9)) a9)))))))))))))))),?_⟩
  show A5 (t:=t) (sl:=sl) (H0:=H) (x:=1) (y:=2) (l:=0) (h:=60) (vU (bA 1 O ⟨Fn,Fn⟩))
   (iS (nN (mC (lo:=4) (hi:=10) rfl FZ FZ (tD rfl ⟨FZ,FZ⟩ ⟨FZ,FZ⟩)) (Ć _) FZ)
    (nN (mC (lo:=4) (hi:=61) rfl FZ FZ (tD rfl ⟨FZ,FZ⟩ ⟨FZ,FZ⟩)) (Ć _) FZ) (tE (bW rfl FZ FZ))) _ _ ⟨ď _,tp⟩ ?_
  rintro v H1 e1 _ xK;let⟨size,rfl,s0,s1⟩:=xK;show GN (t:=t) (sl:=sl) (H0:=H) (y:=size) (l:=0) (h:=201 - size) O (iS (vU (bA 0 O ⟨Fn,Fn⟩))
   (nN (mC (lo:=201 - size) (hi:=201 - size+1) O Fn Fn (N9 O)) (Ć _) Fn) (JE O (bW O FZ FZ))) _ _ e1 ?_
  rintro v H2 e2 _ xK;let⟨brim,rfl,Z',br1⟩:=xK;dsimp only[kB,nA,tC,eJ];show N0 (λ ac H'=>Ext t sl H H'/\∃ brim,size<=brim/\brim<=200/\ac=[Y (.ref t),Y (.int (i:Int)),Y (.int (n:Int)),Y (.int (m:Int)),Y (.bl jb),Y (.int size),Y (.int brim),W,W,W]) (λ D' hD=>?_) ?_
  ·show MZ (t:=t) (sl:=sl) (H0:=H) (bW O FZ FZ) e2 λ b H3 e3 _=>?_;cases b with
   |false=>show eG (hD _ _ ⟨e3,brim,Fn,Fn,O⟩)
   |true=>
    show eS ?_;show GN (t:=t) (sl:=sl) (H0:=H) (y:=size) (l:=0) (h:=3) O (bW O FZ FZ) _ _ e3 ?_;rintro v H4 e4 _ xK;let⟨b2,rfl,c0,c1⟩:=xK;show hD _ _ ⟨e4,b2,Fn,Fn,O⟩
  rintro aj H3 xK;let⟨e3,brim,Ep,oz,rfl⟩:=xK;dsimp only[kB,nA,tC,eJ];show N0 (λ ac H'=>Ext t sl H H'/\∃ sp:Option Int,(∀ z,sp=Y z->(0<=z/\z < n)/\(i:Int) < z)/\ac=[Y (.ref t),Y (.int (i:Int)),Y (.int (n:Int)),Y (.int (m:Int)),Y (.bl jb),Y (.int size),Y (.int brim),Y (qD sp),W,W]) (λ D' hD=>?_) ?_
  ·show(bA _ O (bU _ _ O ⟨O,(bA _ O (bU _ _ O ⟨O,(bA _ O ?_)⟩))⟩));show i9 (λ jh=>?_) (λ _=>eG (hD _ _ ⟨e3,W,(λ z h=>nomatch h),O⟩));have As:(i:Int)+1 < n:=ć jh;show A3 (t:=t) (sl:=sl) (H0:=H) (bW O FZ FZ) _ _ e3 ?_;rintro v H4 e4 _ ⟨b,rfl⟩;show(bA b O ?_);cases b with
   |false=>show eG (hD _ _ ⟨e4,W,(λ z h=>nomatch h),O⟩)
   |true=>
    show eS ?_;show(bA _ O (bU _ _ O ⟨O,(bA _ O (bA _ O (bA _ O (bU _ _ O ⟨O,(bU _ _ O ⟨O,t,sl,(n:Int) - i - 1,O,e4.tp,Fn,Fn,λ r H5 b5 t5 r0 r1=>(bU _ _ O ⟨O,?_⟩)⟩)⟩))))⟩));show hD _ _ ⟨⟨e4.bt.trans b5,t5⟩,Y ((i:Int)+1+r),λ z h=>by cases h;lia,O⟩
  rintro σ4 H4 ⟨e4,sp,kf,rfl⟩;show⟨à _,λ al Gz=>?_⟩;dsimp only[kB,nA,tC,eJ];have To:H al=none:=e4.bt.free (e4.ne Gz) Gz;have Er:al≠t:=e4.ne Gz;show N0 (λ ac H'=>Ext t sl H H'/\∃(acts:List (Str×Int)) (xs:List V),H' al=Y (.lst xs)/\L2.IsL K H' (acts.map kU) xs/\acts.length<=3/\(∀ a∈acts,ActOk m a)/\
   ∃ v9,ac=[Y (.ref t),Y (.int (i:Int)),Y (.int (n:Int)),Y (.int (m:Int)),Y (.bl jb),Y (.int size),Y (.int brim),Y (qD sp),Y (.ref al),v9]) (λ D' hD=>?_) ?_
  ·show(bA _ O (bU _ _ O ⟨O,(bA _ O ?_)⟩));show i9 (λ jh=>?_) (λ _=>hD _ _ ⟨e4.new Gz,[],[],a8,.nil,G0,λ a ha=>(nomatch ha),W,O⟩);have Gw:(0:Int) < m:=ć jh;show NC (t:=t) (sl:=sl) (H0:=H) FZ FZ (bW (m:=11) O FZ FZ) _ _ (e4.new Gz) ?_;rintro v H5 e5 b5 xK;let⟨c,rfl,c0,c1⟩:=xK;show(bA _ O ⟨Fn,Fn,?_⟩);show kR (lo:=0) (n:=(c / 3).toNat) (λ j ac H'=>Ext t sl H H'/\∃(acts:List (Str×Int)) (xs:List V),H' al=Y (.lst xs)/\L2.IsL K H' (acts.map kU) xs/\acts.length=j/\(∀ a∈acts,ActOk m a)/\
    ∃ v9,ac=[Y (.ref t),Y (.int (i:Int)),Y (.int (n:Int)),Y (.int (m:Int)),Y (.bl jb),Y (.int size),Y (.int brim),Y (qD sp),Y (.ref al),v9]) ?_ ?_ ?_
   ·show⟨e5,[],[],b5 al _ Er a8,.nil,O,λ a ha=>(nomatch ha),W,O⟩
   ·rintro DD j - wt ac H6 hj ⟨e6,acts,xs,ha,hl,gr,hok,v9,rfl⟩;show(bA _ O ⟨.inl ⟨O,_,É ha⟩,?_⟩);show CP (t:=t) (sl:=sl) (H0:=H) (P:=λ v=>∃ wd:Str,v=.str wd/\(wd="open" \/ wd="shut" \/ wd="turn")) (vU (bA _ O (.inl O))) (vU (bA _ O (.inr (.inl O)))) (vU (bA _ O (.inr (.inr O)))) (bW O FZ FZ) _ _ e6 ?_;rintro v H7 e7 b7 xK;let⟨wd,rfl,Nu⟩:=xK;show mB (t:=t) (sl:=sl) (H0:=H) (m:=(m:Int)) O O Gw Fn _ _ e7 ?_;rintro v H8 e8 b8 xK;let⟨r,rfl,r0,r1⟩:=xK;show⟨(sz0 2),λ q hq=>?_⟩;have Nv:H8 al=Y (.lst xs):=b8 al _ Er (b7 al _ Er ha);have nq:al≠q:=aI Nv hq;have Gq:xs.length=acts.length:=by rw[hl.length,Ê]
    show⟨al,xs,_,O,O,by rw[aG nq];show Nv,aS Fn,?_⟩;have e9:Ext t sl H (upd H8 q (.tup [.str wd,.int r])):=e8.new hq;have mt:iI (upd H8 q (.tup [.str wd,.int r]) al):=by rw[aG nq,Nv];show trivial
    have ts:bD K H6 (upd (upd H8 q (.tup [.str wd,.int r])) al (.lst (xs++[.ref q]))):=bD.put (((b7.trans b8).trans (È hq).but).ts e6.tp.mut) (.inr mt);show wt _ _ ⟨⟨λ b o hb e=>?_,e9.tp.put Er (fH.ne_sl tp To)⟩,acts++[(wd,r)],xs++[.ref q],a8,?_,by simp[gr],?_,_,O⟩
    ·rw[aG (aI e To)];show e9.bt b o hb e
    ·rw[Ó];show Ă (Ð (ds:=[.str wd,.int r]) (bD.put (bD.refl _) (.inr mt) _ _ (Í a8)) (.cons (Is.s _) (.cons (Õ _) .nil))) (Î ts _ _ hl)
    ·intro a vh;rcases ÿ.mp vh with vh|vh
     ·show hok a vh
     ·rw[ù.mp vh];show⟨Nu,r0,r1⟩
   ·rintro ac H6 xK;let⟨e6,acts,xs,ha,hl,gr,hok,v9,rfl⟩:=xK;show hD _ _ ⟨e6,acts,xs,ha,hl,Fn,hok,v9,O⟩
  rintro cw H5 xK;let⟨e5,acts,xs,ha,hl,gr,hok,v9,rfl⟩:=xK;show(bA _ O (bA _ O (bA _ O (bA _ O (bA _ O (JJ t sl n jb O ⟨e5.tp,Fn,hn,λ outs p H6 e6 o1 o2 o3 hp=>?_⟩))))));show A3 (t:=t) (sl:=sl) (H0:=H) (bW O FZ FZ) _ _ ⟨e5.bt.trans e6.bt,e6.tp⟩ ?_;rintro v H7 e7 b7 ⟨b,rfl⟩;have XI:H7 al=Y (.lst xs):=b7 al _ Er (e6.bt al _ Er ha);have XJ:bS t H5 H7:=e6.bt.trans b7;show(bA _ O (bA _ O (bU al _ O (.inl ⟨É XI,λ q hq=>⟨(sz0 6),λ r Ae=>?_⟩⟩))));have m1:=È (o:=HO.tup xs) hq;have m2:aE (upd H7 q (.tup xs)) (upd (upd H7 q (.tup xs)) r (.tup [.int size,.int brim,p,.bl b,qD sp,.ref q])):=È Ae;show k ⟨size,brim,outs,b,sp,acts⟩ _ _ ((e7.new hq).new Ae) ⟨s0,o1,o2,o3,λ z h=>(kf z h).1,gr,hok⟩ ⟨by change size<=60;lia,Ep,oz,λ z h=>(kf z h).2⟩ ?_;show Ð (Í a8) (.cons (Õ _) (.cons (Õ _) (.cons ?_ (.cons (Is.b _) (.cons (Is.tgOf _) (.cons ?_ .nil))))))
  ·show Ì m2.ts _ _ (Ì m1.ts _ _ (Ì (b7.ts e6.tp.mut) _ _ hp))
  ·show Ì m2.ts _ _ (Ð (Í a8) (Î m1.ts _ _ (Î (XJ.ts e5.tp.mut) _ _ hl)))
theorem Ext.put  (e:Ext t sl H H') (tp:fH H t sl) (hp:H p=W):Ext t sl H (upd H' p o):=
 ⟨λ b u hb e1=>by rw[aG (aI e1 hp)];show e.bt b u hb e1,e.tp.put (λ z=>by let⟨o,h⟩:=tp.some;rw[z,h]at hp;cases hp) (fH.ne_sl tp hp)⟩
theorem Ext.trans  (a:Ext t sl H H1) (b:Ext t sl H1 H2):Ext t sl H H2:=⟨a.bt.trans b.bt,b.tp⟩
def yS (K:Ç):Sp:=λ args H Q _=>∃(t sl:Á) (gm:Int) (jb:Bool),args=[.ref t,.int gm,.bl jb]/\1<=gm/\gm<=12/\fH H t sl/\
 ∀(net:Net) p H',Ext t sl H H'->NetOk net->NetFull net->(net.vs.length:Int)<=gm->Is K H' (cJ net) p->Q p H'
theorem zS (F:Fun K "_law_net" "_law_net" (bG 82) f fd) (T:Txt mg) (gk:Callee P w K mg base "_law_draw" ["tape","many"] 1 kD fD At)
  (qw:Callee P w K mg base "_law_vessel" ["tape","number","many","spouts","small"] 3 (AZ K) fV XL):FnOk P w K mg base fX 4 f fd ["tape","most","small"] (yS K):=by
 show F.ok ["tape","most","small","many","spouts","vessels","found","k","flow"] λ sc gz A outer s H vs Q E hr h=>?_
 ·let⟨t,sl,gm,jb,rfl,mo1,mo2,tp,k⟩:=h;show⟨_,(aA (iN (i:=3) sc.nd O (Or.inr O) (aW cF aD (cA gk hr (a7 (pv 0) (a7 (pv 1) a9)))))
   (aA (iN (i:=4) sc.nd O (Or.inr O) (px K (bC (a7 (cA gk hr (a7 (pv 0) (a7 aD a9))) (a7 (cA gk hr (a7 (pv 0) (a7 aD a9))) a9))) (aW mS (cA gk hr (a7 (pv 0) (a7 aD a9))) aD)))
   (aA (gS (i:=5) sc.nd O O (λ _ _ h=>h) O (LcOk.mk (N':=["k","tape","many","spouts","small"]) (fr:=[W,Y 0,Y 3,Y 4,Y 2]) O ⟨O,O,O,O,trivial⟩ O O O O O ⟨⟨_,O,O,O,O⟩,⟨_,O,O,O,O⟩,⟨_,O,O,O,O⟩,⟨_,O,O,O,O⟩,trivial⟩) (eF O T.b_range (a7 (pv 3) a9)) (λ _ _ _=>(gC 0 ["k","tape","many","spouts","small"])) (λ _ _ _=>c9) (λ _ _ _=>(cA qw hr (a7 (pv 1) (a7 (pv 0) (a7 (pv 2) (a7 (pv 3) (a7 (pv 4) a9))))))))
   (aA (pL 6 sc.nd (bC a9))
   (aA (dB ò O (eF O T.b_range (a7 (pv 4) a9)) (gL 7 sc.nd) (aA (pL 8 sc.nd (px K (bC (a7 (cA gk hr (a7 (pv 0) (a7 aD a9))) (a7 (cA gk hr (a7 (pv 0) (a7 (px K (bC (a7 aD (a7 aD a9))) (aU k7 O T.b_int oC (a7 (pv 2) a9))) a9))) a9))) (aW mS (cA gk hr (a7 (pv 0) (a7 aD a9))) aD)))
   (aF (bH (dC (K:=K) O ì ô õ bL (pv 6) (a7 (aQ (a7 (cA gk hr (a7 (pv 0) (a7 (pv 3) a9))) (a7 (pv 8) (a7 (fI GA (cA gk hr (a7 (pv 0) (a7 aD a9))) aD (bK _)) a9)))) a9))))))
   (aF (aK (aQ (a7 (aU (bR (K:=K) O) O T.b_tuple bT (a7 (pv 5) a9)) (a7 (aU (bR (K:=K) O) O T.b_tuple bT (a7 (pv 6) a9)) a9)))))))))),?_⟩
  show A5 (t:=t) (sl:=sl) (H0:=H) (x:=1) (y:=2) (l:=0) (h:=gm) (vU (bA 1 O ⟨Fn,Fn⟩)) (mB (m:=gm) O O Fn Fn) _ _ ⟨ď _,tp⟩ ?_;rintro v H1 e1 _ xK;let⟨n',rfl,n0,n1⟩:=xK;let⟨n,rfl⟩:=ŀ (show 0<=n' by lia);show iS (t:=t) (sl:=sl) (H0:=H) (P:=eA 0 13) (nN (bW O FZ FZ) (Ć _) FZ) (bW O FZ FZ) (tE (bW O FZ FZ)) _ _ e1 ?_;rintro v H2 e2 _ xK;let⟨m',rfl,m0,m1⟩:=xK;let⟨m,rfl⟩:=ŀ m0;show(bA _ O (bA _ O ⟨Fn,Fn,?_⟩));show pP (n:=n) (λ D i r ac H'=>H2 D=W/\Ext t sl H H'/\H' D=Y (.lst r)/\∃ vs:List Vs,vs.length=i/\L2.IsL K H' (vs.map lB) r/\(∀ v∈vs,VOk n m v)/\(∀ i v,vs[i]? = Y v->VFull i v)/\∃ v0,ac=[v0,Y (.ref t),Y (.int (n:Int)),Y (.int (m:Int)),Y (.bl jb)])
   (λ D hD=>⟨hD,e2.new hD,a8,[],rfl,.nil,(λ v hv=>nomatch hv),(λ i v hv=>by simp at hv),W,rfl⟩) ?_ ?_
  rotate_left
  ·rintro D i r ac H3 hi xK;let⟨hD,e3,hl,vs,gr,wu,hok,Nw,v0,rfl⟩:=xK;show cZ ?_;show(bA _ O (bA _ O (bA _ O (bA _ O (bA _ O (eA6 t sl i n m jb O ⟨e3.tp,hi,Fn,Fn,λ v p H4 e4 ww Nx hp=>?_⟩))))));have nD:D≠t:=e2.ne hD;have fD:H D=none:=e2.bt.free nD hD;have Es:H4 D=Y (.lst r):=e4.bt D _ nD hl;have jg:r.length=vs.length:=by rw[wu.length,Ê]
   have mt:iI (H4 D):=by rw[Es];show trivial
   show⟨Es,aS Fn,hD,(e3.trans e4).put tp fD,a8,vs++[v],by simp[gr],?_,?_,?_,_,O⟩
   ·rw[Ó];show Ă (Ì (bD.put (bD.refl _) (.inr mt)) _ _ hp) (Î (bD.put (e4.bt.ts e3.tp.mut) (.inr mt)) _ _ wu)
   ·intro u hu;rcases ÿ.mp hu with hu|hu
    ·show hok u hu
    ·rw[ù.mp hu];show ww
   ·intro j u hu;rcases Nat.lt_or_ge j vs.length with hj|hj
    ·rw[Į hj]at hu;show Nw j u hu
    ·rw[Ŏ hj]at hu;have e0:j - vs.length=0:=by
      rcases Nat.eq_zero_or_pos (j - vs.length)with h|h
      ·show h
      ·rw[acz (show[v].length<=j - vs.length from h)]at hu;cases hu
     rw[e0]at hu;have e1:j=i:=by lia
     cases hu;rw[e1];show Nx
  rintro D r ac H3 xK;let⟨hD,e3,hl,vs,gr,wu,hok,Nw,_⟩:=xK;have nD:D≠t:=e2.ne hD;have fD:H D=none:=e2.bt.free nD hD;show⟨à _,λ fl mm=>?_⟩;have nf:fl≠t:=e3.ne mm;have ff:H fl=none:=e3.bt.free nf mm;have Tp:D≠fl:=aI hl mm;show(bA _ O (bA _ O ⟨Fn,Fn,?_⟩));show kR (lo:=0) (n:=m) (λ j ac H'=>Ext t sl H H'/\H' D=Y (.lst r)/\L2.IsL K H' (vs.map lB) r/\∃(sps:List AH) (xs:List V),H' fl=Y (.lst xs)/\L2.IsL K H' (sps.map sI) xs/\sps.length=j/\(∀ s∈sps,(0<=s.1/\s.1 < n)/\0<=s.2.1/\s.2.1<=60)/\
   ∃ v7 v8,ac=[Y (.ref t),Y (.int gm),Y (.bl jb),Y (.int (n:Int)),Y (.int (m:Int)),Y (.ref D),Y (.ref fl),v7,v8]) ?_ ?_ ?_
  ·show⟨e3.new mm,by rw[aG Tp];show hl,Î (È mm).ts _ _ wu,[],[],a8,.nil,O,(λ s hs=>nomatch hs),W,W,O⟩
  ·rintro DD j - wt ac H4 hj ⟨e4,Es,Ny,sps,xs,Ks,Ad,zb,Au,v7,v8,rfl⟩;show iS (t:=t) (sl:=sl) (H0:=H) (P:=eA 0 61) (nN (bW O FZ FZ) (Ć _) FZ)
    (nN (mC (lo:=4) (hi:=62) rfl FZ FZ (tD rfl ⟨FZ,FZ⟩ ⟨FZ,FZ⟩)) (Ć _) FZ) (tE (bW rfl FZ FZ)) _ _ e4 ?_
   rintro v H5 e5 b5 xK;let⟨zc,rfl,XM,fl1⟩:=xK;have XN:H5 fl=Y (.lst xs):=b5 fl _ nf Ks;show(bA _ O ⟨.inl ⟨O,_,É XN⟩,?_⟩);show mB (t:=t) (sl:=sl) (H0:=H) (m:=(n:Int)) O O Fn Fn _ _ e5 ?_;rintro v H6 e6 b6 xK;let⟨tg,rfl,XO,XQ⟩:=xK;show(bA _ O ?_);show TB (t:=t) (sl:=sl) (H0:=H) (bW O FZ FZ) _ _ e6 ?_;rintro v H7 e7 b7 ⟨dr,rfl⟩;show⟨(sz0 3),λ q hq=>?_⟩;have Nz:bS t H4 H7:=b5.trans (b6.trans b7);have Oa:H7 fl=Y (.lst xs):=Nz fl _ nf Ks;have Tq:H7 D=Y (.lst r):=Nz D _ nD Es;have nq:fl≠q:=aI Oa hq;have XR:D≠q:=aI Tq hq;have Gq:xs.length=sps.length:=by rw[Ad.length,Ê]
   show⟨fl,xs,_,O,O,by rw[aG nq];show Oa,aS Fn,?_⟩;have mt:iI (upd H7 q (.tup [.int tg,.int zc,.bl dr]) fl):=by rw[aG nq,Oa];show trivial
   have ts:bD K H4 (upd (upd H7 q (.tup [.int tg,.int zc,.bl dr])) fl (.lst (xs++[.ref q]))):=bD.put ((Nz.trans (È hq).but).ts e4.tp.mut) (.inr mt);show wt _ _ ⟨(e7.new hq).put tp ff,by rw[aG Tp,aG XR];show Tq,Î ts _ _ Ny,sps++[(tg,zc,dr)],xs++[.ref q],a8,?_,by simp[zb],?_,_,_,O⟩
   ·rw[Ó];show Ă (Ð (ds:=[.int tg,.int zc,.bl dr]) (bD.put (bD.refl _) (.inr mt) _ _ (Í a8)) (.cons (Õ _) (.cons (Õ _) (.cons (Is.b _) .nil)))) (Î ts _ _ Ad)
   ·intro s hs;rcases ÿ.mp hs with hs|hs
    ·show Au s hs
    ·rw[ù.mp hs];show⟨⟨XO,XQ⟩,XM,show zc<=60 by lia⟩
  ·rintro ac H4 xK;let⟨e4,Es,Ny,sps,xs,Ks,Ad,zb,Au,v7,v8,rfl⟩:=xK;show(bA _ O (bU D _ O (.inl ⟨É Es,λ q1 sw=>(bA _ O (bU fl _ O (.inl ⟨É (È sw _ _ Ks),λ q2 wa=>⟨(sz0 2),λ q3 yd=>?_⟩⟩)))⟩)));have m1:aE H4 (upd H4 q1 (.tup r)):=È sw;have m2:aE (upd H4 q1 (.tup r)) (upd (upd H4 q1 (.tup r)) q2 (.tup xs)):=È wa;have m3:aE (upd (upd H4 q1 (.tup r)) q2 (.tup xs)) (upd (upd (upd H4 q1 (.tup r)) q2 (.tup xs)) q3 (.tup [.ref q1,.ref q2])):=È yd;show k ⟨vs,sps⟩ _ _ (((e4.new sw).new wa).new yd) ⟨by change 1<=vs.length;lia,by change vs.length<=12;lia,by change sps.length<=12;lia,λ v hv=>by rw[gr,zb];show hok v hv,λ s hs=>by rw[gr];show(Au s hs).1⟩ ⟨Nw,λ s hs=>(Au s hs).2⟩ (by change (vs.length:Int)<=gm;lia) ?_;show Ð (Í a8) (.cons (Ð (m3.tup (m2.tup (Í a8))) ?_) (.cons (Ð (m3.tup (Í a8)) ?_) .nil))
   ·show Î m3.ts _ _ (Î m2.ts _ _ (Î m1.ts _ _ Ny))
   ·show Î m3.ts _ _ (Î m2.ts _ _ (Î m1.ts _ _ Ad))
theorem S6:∀ n:Nat,(List.replicate n [V.int 0]).flatten=(List.replicate n (0:Int)).map V.int
 |0=>rfl
 |n+1=>by rw[ħ,ħ,œ,S6 n,Ù];rfl
def eD (n:Nat):List Int:=List.replicate n 0
def oP (K:Ç):Sp:=λ args H Q _=>∃(x:V) (net:Net),args=[x]/\Is K H (cJ net) x/\NetOk net/\
 ∀ p H',aE H H'->Is K H' (DT (eD net.vs.length) (eD net.vs.length) (net.sps.map (·.2.2))) p->Q p H'
theorem vC (F:Fun K "first_state" "first_state" (bG 7) f fd) (T:Txt mg):FnOk P w K mg base fX 1 f fd ["net"] (oP K):=by
 show F.ok ["net","vessels","spouts","empty"] λ sc gz A outer s H vs Q E hr h=>?_
 ·let⟨x,net,rfl,hx,nok,k⟩:=h;show⟨_,(aA (bP (pv 0) (aM (K:=K) (n:=2) O O (aB (gL 1 sc.nd) (aB (gL 2 sc.nd) aL))))
   (aA (pL 3 sc.nd (aW (LZ (K:=K) O) (aQ (a7 aD a9)) (rW K T.b_len (pv 1))))
   (aF (aK (aQ (a7 (pv 3) (a7 (pv 3) (a7 (aU (bR (K:=K) O) O T.b_tuple bT (a7 (fQ (λ _ _ h=>h) O (LcOk.mk (N':=["target","flow","door"]) (fr:=[W,W,W]) O trivial O O O O O trivial) (eZ (K:=K) O (pv 2)) (λ _ _ _=>(aM (K:=K) (n:=3) O O (aB (gC 0 ["target","flow","door"]) (aB (gC 1 ["target","flow","door"]) (aB (gC 2 ["target","flow","door"]) aL))))) (λ _ _ _=>c9) (λ _ _ _=>(pv 2))) a9)) a9)))))))),?_⟩
  let⟨a,b,c,xs,ys,rfl,q,q1,l1,q2,l2⟩:=gI hx;have mx:xs.length=net.vs.length:=by rw[l1.length,Ê]
  have zd:ys.length=net.sps.length:=by rw[l2.length,Ê]
  have n1:=nok.lo;have n2:=nok.hi;have n3:=nok.sp;show⟨_,O,a,_,O,q,O,_,_,O,_,_,O,O,?_⟩;show⟨(sz0 1),λ z hz=>(bA _ O (bU b xs O ⟨.inr ((È hz).tup q1),(NN z _ [.int 0] O ⟨O,Í a8,Fn,Fn,G0,G0,λ e H1 pc qe=>?_⟩)⟩))⟩;have s1:aE H H1:=(È hz).trans pc;have en:((xs.length:Nat):Int).toNat=net.vs.length:=by rw[mx];simp
  rw[en,S6]at qe;show⟨_,O,_,O,_,O,c,O,⟨_,s1.tup q2⟩,iR (K:=K) (a:=c) (xs:=ys) (λ D i r ac H'=>H1 D=W/\aE H1 H'/\H' D=Y (.lst r)/\r=((net.sps.take i).map (·.2.2)).map V.bl/\∃ u v w,ac=[u,v,w])
   (λ D i r ac H' p=>p.2.1.tup (s1.tup q2)) (λ D hD=>⟨hD,È hD,a8,G0,W,W,W,O⟩) ?_ ?_⟩
  rotate_left
  ·rintro D i x r ac H2 hx xK;let⟨hD,sm,ie,rfl,u,v,w',rfl⟩:=xK;let⟨sp,za,sa,rfl,qs⟩:=tY l2 hx;have mw:=(Ö.mp za).1;show(bU sa _ O ⟨sm.tup (s1.tup qs),O,(bU _ _ O (bU _ _ O (bU _ _ O ⟨O,?_⟩)))⟩);show iJ ⟨_,O,ie,aS (by simp;lia),hD,sm.put hD,a8,?_,_,_,_,O⟩;rw[aY za];simp
  ·rintro D r ac H2 xK;let⟨hD,sm,ie,rfl,_⟩:=xK;rw[zd,æ]at ie;show(bU D _ O (.inl ⟨É ie,λ d hd=>⟨(sz0 3),λ r Ae=>?_⟩⟩));have m1:aE H2 (upd H2 d (.tup ((net.sps.map (·.2.2)).map V.bl))):=È hd;have m2:aE (upd H2 d (.tup ((net.sps.map (·.2.2)).map V.bl))) (upd (upd H2 d (.tup ((net.sps.map (·.2.2)).map V.bl))) r (.tup [.ref e,.ref e,.ref d])):=È Ae;show k _ _ (((s1.trans sm).trans m1).trans m2) (QL (Í a8) ?_ ?_ (m2.tup (Í a8)))
   ·show m2.tup (m1.tup (sm.tup qe))
   ·show m2.tup (m1.tup (sm.tup qe))
theorem jY {ae:Type} (f:ae->L2.D) (hf:∀ a,(f a).depth=0):∀ l:List ae,dN (l.map f)=0
 |[]=>by rw[í,dN]
 |a::r=>by rw[Ù,dN,hf,jY f hf r];rfl
theorem rC (i:Int):(L2.D.int i).depth=0:=by rw[L2.D.depth] <;> intros <;> (first|rfl|(intro z;cases z)|(rename_i z;cases z))
theorem D3 (i:Bool):(L2.D.bl i).depth=0:=by rw[L2.D.depth] <;> intros <;> (first|rfl|(intro z;cases z)|(rename_i z;cases z))
theorem vY (held coming:List Int) (doors:List Bool):dN [.tup (held.map L2.D.int),.tup (coming.map L2.D.int),.tup (doors.map L2.D.bl)]=1:=by
 simp only[dN,L2.D.depth,jY _ rC,jY _ D3];rfl
theorem MK (K:Ç):PySem.W.kitOne K (.type "tuple") (.type "tuple")=Y true:=by
 unfold PySem.W.kitOne;rw[Å FY]
theorem MO (K:Ç):PySem.W.kitOne K (.type "bool") (.type "bool")=Y true:=by
 unfold PySem.W.kitOne;rw[Å FY]
theorem MM (K:Ç):PySem.W.kitOne K (.type "int") (.type "bool")=Y false:=by
 unfold PySem.W.kitOne;rw[Ä FY];change(if PySem.W.kitMeta "bool" =Eg then PySem.W.subIn K (.type "int") (.type "bool")else W)=Y Eh;rw[Å FY];change(PySem.fastBuiltinMro "int").map (·.contains (.type "bool"))=Y Eh;decide +kernel
theorem qA (n:Nat):(List.replicate n Eg).all id=true:=by
 rw[Ē];intro x hx;rw[aeu hx];rfl
end Tw
namespace L2
open PySem PySem.Spec PyProof.Rows TwZ
section
variable {X:Cx}
theorem dS  (hg:Gl X x) (h:∃ u,X.mg x=Y u/\aX v u) (hd:autoParam ((x==("__debug__":Str))=false) _2):PE X (.Name x pos) (tC v):=by
 let⟨u,e,r⟩:=h;show PB hg e r hd
theorem M1 (hK:X.K=K):jG X (compareOp .In) (rIn K Eh):=by subst hK;show IJ
end
theorem JA {c A B:Prop} [Decidable c] (hc:c) (h:A):if decide c=Eg then A else B:=by
 rw[Å (ð hc)];show h
end L2
namespace Tw
open PySem L2
structure TxtN (K:Ç) (mg:Str->Option À) (aw:Á):Prop where
 g_MOST_VESSELS:∃ u,mg "MOST_VESSELS" =Y u/\aX (.int 12) u
 g_MOST_SPOUTS:∃ u,mg "MOST_SPOUTS" =Y u/\aX (.int 12) u
 g_MOST_SIZE:∃ u,mg "MOST_SIZE" =Y u/\aX (.int 60) u
 g_MOST_BRIM:∃ u,mg "MOST_BRIM" =Y u/\aX (.int 200) u
 g_MOST_OUTS:∃ u,mg "MOST_OUTS" =Y u/\aX (.int 3) u
 g_MOST_PARTS:∃ u,mg "MOST_PARTS" =Y u/\aX (.int 60) u
 g_MOST_ACTS:∃ u,mg "MOST_ACTS" =Y u/\aX (.int 3) u
 g_MOST_FLOW:∃ u,mg "MOST_FLOW" =Y u/\aX (.int 60) u
 g_ACT_WORDS:∃ u,mg "ACT_WORDS" =Y u/\aX (.ref aw) u
 words:∀ H,aP K H aw [.str "open",.str "shut",.str "turn"]
theorem ML (K:Ç):PySem.W.kitOne K (.type "int") (.type "int")=Y true:=by
 unfold PySem.W.kitOne;rw[Å FY]
section
variable {aw:Á}
def qH (K:Ç):Sp:=λ vs H Q _=>∃(a:Á) (xs:List V) (lo hi:Int),vs=[.ref a,.int lo,.int hi]/\aP K H a xs/\lo<=(xs.length:Int)/\(xs.length:Int)<=hi/\Q (.bl Eg) H
def mP:Sp:=λ vs H Q _=>∃(n lo hi:Int),vs=[.int n,.int lo,.int hi]/\lo<=n/\n<=hi/\Q (.bl Eg) H
def FT (K:Ç):Sp:=λ vs H Q _=>∃(a:Á) (n:Nat) (o:Option Int×Int),vs=[.ref a,.int (n:Int)]/\aP K H a [qD o.1,.int o.2]/\OutOk n o/\Q (.bl Eg) H
def FV (K:Ç):Sp:=λ vs H Q _=>∃(a:Á) (m:Nat) (c:Str×Int),vs=[.ref a,.int (m:Int)]/\aP K H a [.str c.1,.int c.2]/\ActOk m c/\Q (.bl Eg) H
def xA (K:Ç):Sp:=λ vs H Q _=>∃(a:Á) (n:Nat) (s:AH),vs=[.ref a,.int (n:Int)]/\aP K H a [.int s.1,.int s.2.1,.bl s.2.2]/\(0<=s.1/\s.1 < n)/\(0<=s.2.1/\s.2.1<=60)/\Q (.bl Eg) H
def uB (K:Ç):Sp:=λ vs H Q _=>∃(x:V) (i n m:Nat) (v:Vs),vs=[x,.int (i:Int),.int (n:Int),.int (m:Int)]/\Is K H (lB v) x/\VOk n m v/\VFull i v/\∀ H',aE H H'->Q (.bl Eg) H'
def FU (K:Ç):Sp:=λ vs H Q _=>∃(x:V) (net:Net),vs=[x]/\Is K H (cJ net) x/\NetOk net/\NetFull net/\∀ H',aE H H'->Q (.bl Eg) H'
theorem CA (F:Fun K "is_tuple" "is_tuple" (bG 42) f fd) (T:Txt mg):FnOk P w K mg base fX 1 f fd ["thing","least","most"] (qH K):=by
 show F.ok ["thing","least","most"] λ sc gz A outer s H vs Q E hr h=>?_
 ·let⟨a,xs,lo,hi,rfl,q,h1,h2,k⟩:=h;show⟨_,(aF (aK (eK (bO (gE (K:=K) O) O T.b_isinstance fT (a7 (pv 0) (a7 (gZ (v:=.ty "tuple") O T.b_tuple bT O) a9))) (fL (pF rY rY (pv 1) (rW K T.b_len (pv 0)) (pv 2)))))),?_⟩;show⟨_,O,_,"tuple",_,Eg,O,.inr ⟨a,xs,O,q,O⟩,MK K,_,O,eS ?_⟩;show⟨_,O,_,O,a,xs,O,.inr q,_,_,O,O,_,O,JA h1 ⟨_,O,_,_,O,O,?_⟩⟩;change Q (.bl (decide _)) H;rw[ð h2];show k
theorem BZ (F:Fun K "is_whole" "is_whole" (bG 43) f fd) (T:Txt mg):FnOk P w K mg base fX 1 f fd ["thing","least","most"] mP:=by
 show F.ok ["thing","least","most"] λ sc gz A outer s H vs Q E hr h=>?_
 ·let⟨n,lo,hi,rfl,h1,h2,k⟩:=h;show⟨_,(aF (aK (eK (bO (gE (K:=K) O) O T.b_isinstance fT (a7 (pv 0) (a7 (gZ (v:=.ty "int") O T.b_int oC O) a9))) (eK (zG (bO (gE (K:=K) O) O T.b_isinstance fT (a7 (pv 0) (a7 (gZ (v:=.ty "bool") O T.b_bool tG O) a9)))) (fL (pF rY rY (pv 1) (pv 0) (pv 2))))))),?_⟩;show⟨_,O,_,"int",_,Eg,O,.inl (.int _),ML K,_,O,eS ?_⟩;show⟨_,O,_,"bool",_,Eh,O,.inl (.int _),MM K,_,O,_,O,eS ?_⟩;show⟨_,O,_,O,_,_,O,O,_,O,JA h1 ⟨_,O,_,_,O,O,?_⟩⟩;change Q (.bl (decide _)) H;rw[ð h2];show k
theorem IP (F:Fun K "is_out" "is_out" (bG 37) f fd) (T:Txt mg) (U:TxtN K mg aw) (gv:Callee P w K mg base "is_tuple" ["thing","least","most"] 1 (qH K) f1 je)
  (gt:Callee P w K mg base "is_whole" ["thing","least","most"] 1 mP f2 js):FnOk P w K mg base fX 2 f fd ["thing","vessel_count"] (FT K):=by
 show F.ok ["thing","vessel_count","target","parts"] λ sc gz A outer s H vs Q E hr h=>?_
 ·let⟨a,n,o,rfl,q,ok,k⟩:=h;show⟨_,(aA (cE (fY (cO (cA gv hr (a7 (pv 0) (a7 aD (a7 aD a9)))))) (aF (aK eI)) bF)
   (aA (bP (pv 0) (aM (K:=K) (n:=2) O O (aB (gL 2 sc.nd) (aB (gL 3 sc.nd) aL))))
   (aF (aK (eK (LS (fI qP (pv 2) cH (bK _)) (fL (cA gt hr (a7 (pv 2) (a7 aD (a7 (aW eN (pv 1) aD) a9)))))) (fL (cA gt hr (a7 (pv 3) (a7 aD (a7 (dS O U.g_MOST_PARTS) a9)))))))))),?_⟩
  show⟨_,O,a,_,2,2,O,q,(show(2:Int)<=2 by decide),(show(2:Int)<=2 by decide),_,O,eG ?_⟩;show⟨_,O,a,_,O,q,O,_,_,O,_,_,O,O,?_⟩;let⟨tg,pa⟩:=o;cases tg with
  |none=>
   show⟨_,O,O,_,O,JA O ⟨_,O,eS ?_⟩⟩;show⟨_,O,pa,1,60,O,ok.lo,ok.hi,k⟩
  |some i=>
   have hi:=ok.tg i rfl;show⟨_,O,O,_,O,eG ⟨_,O,_,O,_,_,O,O,i,0,_,O,hi.1,Fn,_,O,eS ?_⟩⟩;show⟨_,O,pa,1,60,O,ok.lo,ok.hi,k⟩
theorem IR (F:Fun K "is_act" "is_act" (bG 38) f fd) (T:Txt mg) (U:TxtN K mg aw) (gv:Callee P w K mg base "is_tuple" ["thing","least","most"] 1 (qH K) f1 je)
  (gt:Callee P w K mg base "is_whole" ["thing","least","most"] 1 mP f2 js):FnOk P w K mg base fX 2 f fd ["thing","spout_count"] (FV K):=by
 show F.ok ["thing","spout_count","word","spout"] λ sc gz A outer s H vs Q E hr h=>?_
 ·let⟨a,m,c,rfl,q,ok,k⟩:=h;show⟨_,(aA (cE (fY (cO (cA gv hr (a7 (pv 0) (a7 aD (a7 aD a9)))))) (aF (aK eI)) bF)
   (aA (bP (pv 0) (aM (K:=K) (n:=2) O O (aB (gL 2 sc.nd) (aB (gL 3 sc.nd) aL))))
   (aF (aK (eK (fI (M1 (K:=K) O) (pv 2) (dS O U.g_ACT_WORDS) (by rfl)) (fL (cA gt hr (a7 (pv 3) (a7 aD (a7 (aW eN (pv 1) aD) a9)))))))))),?_⟩
  show⟨_,O,a,_,2,2,O,q,(show (2:Int)<=2 by decide),(show (2:Int)<=2 by decide),_,O,eG ?_⟩;show⟨_,O,a,_,O,q,O,_,_,O,_,_,O,O,?_⟩;have si:U1 (.str c.1) [.str "open",.str "shut",.str "turn"]=true:=by
   rcases ok.word with e|e|e <;> rw[e] <;> decide +kernel
  show⟨_,O,aw,_,O,.inr (U.words _),O,O,_,O,?_⟩;rw[show(if Eh=Eg then !U1 (V.str c.1) [.str "open",.str "shut",.str "turn"]else U1 (V.str c.1) [.str "open",.str "shut",.str "turn"])=Eg from si];show eS ?_;show⟨_,O,_,O,_,_,O,O,c.2,0,_,O,ok.lo,by have:=ok.hi;lia,k⟩
theorem CB (F:Fun K "is_spout" "is_spout" (bG 39) f fd) (T:Txt mg) (U:TxtN K mg aw) (gv:Callee P w K mg base "is_tuple" ["thing","least","most"] 1 (qH K) f1 je)
  (gt:Callee P w K mg base "is_whole" ["thing","least","most"] 1 mP f2 js):FnOk P w K mg base fX 2 f fd ["thing","vessel_count"] (xA K):=by
 show F.ok ["thing","vessel_count","target","flow","door"] λ sc gz A outer s H vs Q E hr h=>?_
 ·let⟨a,n,s,rfl,q,XS,Tr,k⟩:=h;show⟨_,(aA (cE (fY (cO (cA gv hr (a7 (pv 0) (a7 aD (a7 aD a9)))))) (aF (aK eI)) bF)
   (aA (bP (pv 0) (aM (K:=K) (n:=3) O O (aB (gL 2 sc.nd) (aB (gL 3 sc.nd) (aB (gL 4 sc.nd) aL)))))
   (aF (aK (eK (cA gt hr (a7 (pv 2) (a7 aD (a7 (aW eN (pv 1) aD) a9)))) (eK (cA gt hr (a7 (pv 3) (a7 aD (a7 (dS O U.g_MOST_FLOW) a9)))) (fL (bO (gE (K:=K) O) O T.b_isinstance fT (a7 (pv 4) (a7 (gZ (v:=.ty "bool") O T.b_bool tG O) a9)))))))))),?_⟩
  show⟨_,O,a,_,3,3,O,q,(show(3:Int)<=3 by decide),(show(3:Int)<=3 by decide),_,O,eG ?_⟩;show⟨_,O,a,_,O,q,O,_,_,O,_,_,O,_,_,O,O,?_⟩;show⟨_,O,_,O,_,_,O,O,s.1,0,_,O,XS.1,Fn,_,O,eS ?_⟩;show⟨_,O,s.2.1,0,60,O,Tr.1,Tr.2,_,O,eS ?_⟩;show⟨_,O,_,"bool",_,Eg,O,.inl (.bl _),MO K,k⟩
theorem zO (F:Fun K "is_vessel" "is_vessel" (bG 36) f fd) (T:Txt mg) (U:TxtN K mg aw) (gv:Callee P w K mg base "is_tuple" ["thing","least","most"] 1 (qH K) f1 je)
  (gt:Callee P w K mg base "is_whole" ["thing","least","most"] 1 mP f2 js) (zf:Callee P w K mg base "is_out" ["thing","vessel_count"] 2 (FT K) f3 nj) (zg:Callee P w K mg base "is_act" ["thing","spout_count"] 2 (FV K) f4 ze) :
  FnOk P w K mg base fX 3 f fd ["thing","number","vessel_count","spout_count"] (uB K):=by
 show F.ok ["thing","number","vessel_count","spout_count","size","brim","outs","holds","spill","acts"] λ sc gz A outer s H vs Q E hr h=>?_
 ·let⟨x,i,n,m,v,rfl,hx,ok,fu,k⟩:=h;show⟨_,(aA (cE (fY (cO (cA gv hr (a7 (pv 0) (a7 aD (a7 aD a9)))))) (aF (aK eI)) bF)
   (aA (bP (pv 0) (aM (K:=K) (n:=6) O O (aB (gL 4 sc.nd) (aB (gL 5 sc.nd) (aB (gL 6 sc.nd) (aB (gL 7 sc.nd) (aB (gL 8 sc.nd) (aB (gL 9 sc.nd) aL))))))))
   (aA (cE (PW.pt (BM (fY (cO (cA gt hr (a7 (pv 4) (a7 aD (a7 (dS O U.g_MOST_SIZE) a9)))))) (uP (fY (cO (cA gt hr (a7 (pv 5) (a7 (pv 4) (a7 (dS O U.g_MOST_BRIM) a9))))))))) (aF (aK eI)) bF)
   (aA (cE (PW.pt (BM (fY (cO (cA gv hr (a7 (pv 6) (a7 aD (a7 (dS O U.g_MOST_OUTS) a9)))))) (uP (fY (cO (cA gv hr (a7 (pv 9) (a7 aD (a7 (dS O U.g_MOST_ACTS) a9))))))))) (aF (aK eI)) bF)
   (aF (aK (eK (bO (n8 (K:=K) O O) O T.b_all Ū (a7 (fQ (λ _ _ h=>h) O (LcOk.mk (N':=["out","vessel_count"]) (fr:=[W,Y 2]) O ⟨O,trivial⟩ O O O O O ⟨⟨_,O,O,O,O⟩,trivial⟩) (eZ (K:=K) O (pv 6)) (λ _ _ _=>(gC 0 ["out","vessel_count"])) (λ _ _ _=>c9) (λ _ _ _=>(cA zf hr (a7 (pv 0) (a7 (pv 1) a9))))) a9)) (eK (bO (gE (K:=K) O) O T.b_isinstance fT (a7 (pv 7) (a7 (gZ (v:=.ty "bool") O T.b_bool tG O) a9))) (eK (LS (fI qP (pv 8) cH (bK _)) (fL (cA gt hr (a7 (pv 8) (a7 (aW cF (pv 1) aD) (a7 (aW eN (pv 2) aD) a9)))))) (fL (bO (n8 (K:=K) O O) O T.b_all Ū (a7 (fQ (λ _ _ h=>h) O (LcOk.mk (N':=["act","spout_count"]) (fr:=[W,Y 3]) O ⟨O,trivial⟩ O O O O O ⟨⟨_,O,O,O,O⟩,trivial⟩) (eZ (K:=K) O (pv 9)) (λ _ _ _=>(gC 0 ["act","spout_count"])) (λ _ _ _=>c9) (λ _ _ _=>(cA zg hr (a7 (pv 0) (a7 (pv 1) a9))))) a9)))))))))))),?_⟩
  let⟨va,o,cc,rfl,qv,ho,hc⟩:=AL hx;let⟨oa,os,rfl,qo,lo⟩:=ho.un;let⟨ca,cs,rfl,qc,lc⟩:=hc.un;have eol:os.length=v.outs.length:=by rw[lo.length,Ê]
  have Ts:cs.length=v.acts.length:=by rw[lc.length,Ê]
  have ne1:1<=v.outs.length:=by
   rcases Nat.eq_zero_or_pos v.outs.length with e|e
   ·show absurd (Ť e) ok.ne
   ·show e
  have o3:=ok.o3;have a3:=ok.a3;show⟨_,O,va,_,6,6,O,qv,(show (6:Int)<=6 by decide),(show (6:Int)<=6 by decide),_,O,eG ?_⟩;show⟨_,O,va,_,O,qv,O,_,_,O,_,_,O,_,_,O,_,_,O,_,_,O,_,_,O,O,?_⟩;show⟨_,O,v.size,1,60,O,ok.size,fu.sz,_,O,eG ?_⟩;show⟨_,O,_,O,v.brim,v.size,200,O,fu.br,fu.bh,_,O,eG ?_⟩;show⟨_,O,oa,_,1,3,O,qo,Fn,Fn,_,O,eG ?_⟩;show⟨_,O,ca,_,0,3,O,qc,Fn,Fn,_,O,eG ?_⟩;show⟨_,O,oa,O,⟨_,qo⟩,iR (K:=K) (a:=oa) (xs:=os) (λ D i r ac H'=>H D=W/\aE H H'/\H' D=Y (.lst r)/\r=(List.replicate i Eg).map V.bl/\∃ u,ac=[u,Y (.int (n:Int))])
   (λ D i r ac H' p=>p.2.1.tup qo) (λ D hD=>⟨hD,È hD,a8,O,W,O⟩) ?_ ?_⟩
  rotate_left
  ·rintro D j y r ac H2 hy xK;let⟨hD,sm,ie,rfl,u,rfl⟩:=xK;let⟨ot,Ar,XT,rfl,XU⟩:=zI lo hy;have Et:=(Ö.mp Ar).1;show cZ ?_;show⟨_,O,_,O,XT,n,ot,O,sm.tup XU,ok.outs _ (Û Ar),ie,aS (by simp;lia),hD,sm.put hD,a8,?_,_,O⟩;rw[ŭ,Ó];rfl
  rintro D r ac H2 xK;let⟨hD,il,ie,rfl,_⟩:=xK;show⟨Eh,D,_,O,É ie,_,O,?_⟩;rw[qA];show eS ?_;show⟨_,O,_,"bool",_,Eg,O,.inl (.bl _),MO K,_,O,eS ?_⟩;cases kf:v.spill with
  |none=>
   rw[kf]at qv;show⟨_,O,O,_,O,JA O ⟨_,O,eS ?_⟩⟩;show⟨_,O,ca,O,⟨_,il.tup qc⟩,iR (K:=K) (a:=ca) (xs:=cs) (λ D i r ac H'=>H2 D=W/\aE H2 H'/\H' D=Y (.lst r)/\r=(List.replicate i Eg).map V.bl/\∃ u,ac=[u,Y (.int (m:Int))])
    (λ D i r ac H' p=>p.2.1.tup (il.tup qc)) (λ D hD=>⟨hD,È hD,a8,O,W,O⟩) ?_ ?_⟩
   rotate_left
   ·rintro D j y r ac H3 hy xK;let⟨hD,sm,ie,rfl,u,rfl⟩:=xK;let⟨at',uq,aa,rfl,qa⟩:=tL lc hy;have Et:=(Ö.mp uq).1;show cZ ?_;show⟨_,O,_,O,aa,m,at',O,sm.tup (il.tup qa),ok.acts _ (Û uq),ie,aS (by simp;lia),hD,sm.put hD,a8,?_,_,O⟩;rw[ŭ,Ó];rfl
   rintro D r ac H3 xK;let⟨hD,ko,ie,rfl,_⟩:=xK;show⟨Eh,D,_,O,É ie,?_⟩;rw[qA];show k _ (il.trans ko)
  |some t=>
   have h1:=ok.spill t kf;have h2:=fu.sp t kf;rw[kf]at qv;show⟨_,O,O,_,O,eG ⟨_,O,_,O,_,_,O,O,_,O,_,_,O,O,t,_,_,O,Fn,Fn,_,O,eS ?_⟩⟩;show⟨_,O,ca,O,⟨_,il.tup qc⟩,iR (K:=K) (a:=ca) (xs:=cs) (λ D i r ac H'=>H2 D=W/\aE H2 H'/\H' D=Y (.lst r)/\r=(List.replicate i Eg).map V.bl/\∃ u,ac=[u,Y (.int (m:Int))])
    (λ D i r ac H' p=>p.2.1.tup (il.tup qc)) (λ D hD=>⟨hD,È hD,a8,O,W,O⟩) ?_ ?_⟩
   rotate_left
   ·rintro D j y r ac H3 hy xK;let⟨hD,sm,ie,rfl,u,rfl⟩:=xK;let⟨at',uq,aa,rfl,qa⟩:=tL lc hy;have Et:=(Ö.mp uq).1;show cZ ?_;show⟨_,O,_,O,aa,m,at',O,sm.tup (il.tup qa),ok.acts _ (Û uq),ie,aS (by simp;lia),hD,sm.put hD,a8,?_,_,O⟩;rw[ŭ,Ó];rfl
   rintro D r ac H3 xK;let⟨hD,ko,ie,rfl,_⟩:=xK;show⟨Eh,D,_,O,É ie,?_⟩;rw[qA];show k _ (il.trans ko)
theorem IQ (F:Fun K "is_net" "is_net" (bG 35) f fd) (T:Txt mg) (U:TxtN K mg aw) (gv:Callee P w K mg base "is_tuple" ["thing","least","most"] 1 (qH K) f1 je)
  (uu:Callee P w K mg base "is_vessel" ["thing","number","vessel_count","spout_count"] 3 (uB K) f2 js) (wb:Callee P w K mg base "is_spout" ["thing","vessel_count"] 2 (xA K) f3 nj):FnOk P w K mg base fX 4 f fd ["thing"] (FU K):=by
 show F.ok ["thing","vessels","spouts","number","vessel"] λ sc gz A outer s H vs Q E hr h=>?_
 ·let⟨x,net,rfl,hx,nok,uc,k⟩:=h;show⟨_,(aA (cE (fY (cO (cA gv hr (a7 (pv 0) (a7 aD (a7 aD a9)))))) (aF (aK eI)) bF)
   (aA (bP (pv 0) (aM (K:=K) (n:=2) O O (aB (pD (i:=1) sc.nd O (Or.inr O)) (aB (gL 2 sc.nd) aL))))
   (aA (cE (PW.pt (BM (fY (cO (cA gv hr (a7 (pv 1) (a7 aD (a7 (dS O U.g_MOST_VESSELS) a9)))))) (uP (fY (cO (cA gv hr (a7 (pv 2) (a7 aD (a7 (dS O U.g_MOST_SPOUTS) a9))))))))) (aF (aK eI)) bF)
   (aA (dB ò O (iO (K:=K) O O T.b_enumerate (a7 (pv 1) a9)) (aM (K:=K) (n:=2) O O (aB (gL 3 sc.nd) (aB (gL 4 sc.nd) aL))) (aF (cE (fY (cO (cA uu hr (a7 (pv 4) (a7 (pv 3) (a7 (rW K T.b_len (pv 1)) (a7 (rW K T.b_len (pv 2)) a9))))))) (aF (aK eI)) bF)))
   (aF (aK (bO (n8 (K:=K) O O) O T.b_all Ū (a7 (fQ (λ _ _ h=>h) O (LcOk.mk (N':=["spout","vessels"]) (fr:=[W,Y 1]) O ⟨O,trivial⟩ O O O O O ⟨⟨_,O,O,O,O⟩,trivial⟩) (eZ (K:=K) O (pv 2)) (λ _ _ _=>(gC 0 ["spout","vessels"])) (λ _ _ _=>c9) (λ _ _ _=>(cA wb hr (a7 (pv 0) (a7 (rW K T.b_len (pv 1)) a9))))) a9)))))))),?_⟩
  let⟨a,b,c,xs,ys,rfl,q,q1,l1,q2,l2⟩:=gI hx;have mx:xs.length=net.vs.length:=by rw[l1.length,Ê]
  have zd:ys.length=net.sps.length:=by rw[l2.length,Ê]
  have n1:=nok.lo;have n2:=nok.hi;have n3:=nok.sp;show⟨_,O,a,_,2,2,O,q,(show (2:Int)<=2 by decide),(show (2:Int)<=2 by decide),_,O,eG ?_⟩;show⟨_,O,a,_,O,q,O,_,_,O,_,_,O,O,?_⟩;show⟨_,O,b,_,1,12,O,q1,Fn,Fn,_,O,eG ?_⟩;show⟨_,O,c,_,0,12,O,q2,Fn,Fn,_,O,eG ?_⟩;show⟨_,O,Eg,b,O,⟨_,q1⟩,mD (K:=K) (t:=Eg) (a:=b) (xs:=xs) (λ i ac H'=>aE H H'/\∃ v3 v4,ac=[Y (.ref a),Y (.ref b),Y (.ref c),v3,v4])
   (λ i ac H' p=>p.1.tup q1) ⟨λ _ _ h=>h,W,W,O⟩ ?_ ?_⟩
  rotate_left
  ·rintro i y ac H2 Tt hy ⟨sm,v3,v4,rfl⟩ hT;let⟨d,hd,iy⟩:=l1.get' hy;rw[Ø]at hd;let⟨v,hv,rfl⟩:=é.mp hd;have ng:=È (o:=HO.tup [.int (i:Int),y]) hT;have ko:=sm.trans ng;show⟨Tt,_,O,Í a8,O,_,_,O,_,_,O,O,?_⟩;show⟨_,O,_,O,_,O,b,xs,O,.inr (ko.tup q1),_,O,c,ys,O,.inr (ko.tup q2),y,i,net.vs.length,net.sps.length,v,by rw[mx,zd];rfl,Ì ko.ts _ _ iy,nok.vs v (Û hv),uc.vs i v hv,λ H4 xk=>⟨_,O,eG ?_⟩⟩;show⟨ko.trans xk,_,_,O⟩
  rintro ac H2 xK;let⟨il,v3,v4,rfl⟩:=xK;show⟨_,O,c,O,⟨_,il.tup q2⟩,iR (K:=K) (a:=c) (xs:=ys) (λ D i r ac H'=>H2 D=W/\aE H2 H'/\H' D=Y (.lst r)/\r=(List.replicate i Eg).map V.bl/\∃ u,ac=[u,Y (.ref b)])
   (λ D i r ac H' p=>p.2.1.tup (il.tup q2)) (λ D hD=>⟨hD,È hD,a8,O,W,O⟩) ?_ ?_⟩
  rotate_left
  ·rintro D j y r ac H3 hy xK;let⟨hD,sm,ie,rfl,u,rfl⟩:=xK;let⟨sp,za,sa,rfl,qs⟩:=tY l2 hy;have Et:=(Ö.mp za).1;have hm:=Û za;show cZ ?_;show⟨_,O,_,O,b,xs,O,.inr (sm.tup (il.tup q1)),sa,net.vs.length,sp,by rw[mx];rfl,sm.tup (il.tup qs),nok.sps sp hm,uc.sps sp hm,ie,aS (by simp;lia),hD,sm.put hD,a8,?_,_,O⟩;rw[ŭ,Ó];rfl
  rintro D r ac H3 xK;let⟨hD,ko,ie,rfl,_⟩:=xK;show⟨Eh,D,_,O,É ie,?_⟩;rw[qA];show k _ (il.trans ko)
end
end Tw
namespace L2
open PySem PySem.Spec PyProof.Rows
end L2
namespace L2
open PySem PySem.Spec PyProof.Rows TwZ
section
variable {X:Cx}
theorem P1 {st:Stmt}:PS X st (λ _ _ _=>False):=λ _ _ _ _ _ _ h=>h.elim
theorem fW  (hK:X.K=K) (he:PE X e ta) (hb:attributeBase e f X.env (eval e X.env)=eval e X.env):PE X (.Attribute e f pos) (UC K ta f):=by subst hK;show SJ he hb
theorem sW  (hK:X.K=K) (ha:PE X o ta) (hv:PE X value tv) (hs:swapsWith value (Y (.Attribute o f pos')) pos.line X.env=pure Eh):PS X (.Assign [.Attribute o f pos'] value pos) (UN K ta tv f):=by subst hK;show SF ha hv hs
theorem M6 (hK:X.K=K):jG X (binaryOp .Add) (QY K):=by subst hK;show GB
theorem tQ (l:Á) (items:Array À) (n:Nat) (x:Int) (u:Tok) (dd:Option Á) (sl:Array (Option À)) (c0:¬ (decide (x < -(2 ^ 63)) || decide (x ≥ 2 ^ 63))=Eg) (c1:¬ (items.isEmpty || x== 1)=Eg)
  (c2:(decide (x<=0) || items.isEmpty)=Eg) :
  Meets (Builtin.«tuple.__mul__» ⟨[.ref l,.int x u],[]⟩) (λ _ R s=>s.heap.get? l=Y { cls:=.type "tuple",dict:=dd,data:=.seq items n,slots:=sl }/\
   R (.ok (.ret (.ref s.heap.objs.size))) { s with heap:=s.heap.push { cls:=.type "tuple",data:=.seq #[] } }):=
 .of_wp λ prog w A R s h=>by
  let⟨hp,g,d,tk,os⟩:=s;let⟨hl,h⟩:=h
  wp_walk
  rw[Ä c0]
  wp_walk
  all_goals (try rw[Ä c1])
  wp_walk
  all_goals (try rw[Å c2])
  wp_walk
  show⟨_,O,h⟩
def QR (K:Ç):R2:=λ x y H Q=>∃(l:Á) (k:Int) (xs:List V),x=.ref l/\y=.int k/\aP K H l xs/\0<=k/\k < 1000000/\xs≠[]/\xs.length<=10/\
 ∀ p H',aE H H'->aP K H' p (List.replicate k.toNat xs).flatten->Q (.ref p) H'
theorem PF:jG X (binaryOp .Mult) (QR X.K):=by
 intro gj s σ H x y v u Q I rx ry h;let⟨l,k,xs,rfl,rfl,hq,h1,h2,vg,Gk,q⟩:=h
 by_cases hk:1<=k
 ·show G9 gj s σ H _ _ v u Q I rx ry ⟨l,k,xs,O,O,hq,hk,h2,vg,Gk,q⟩
 ·have XV:k=0:=by lia
  subst XV;cases rx;let⟨t,rfl⟩:=ry;let⟨its,r,ht,z⟩:=I.tuple hq;have gr:=r.length;let⟨⟨cls,dd,data,sl⟩,e,hc,n,hd⟩:=id ht;simp only at hc hd;subst hc hd;show wpAny_binaryOp_repeat_ref (T :="tuple") (U :="int") FZ ⟨_,e,O⟩ (λ s'=>Ŝ s' 0 t) jS F.fills_int_mul ż oZ F.slot_int_index.lookup
   (ģ ż (Ŝ s 0 t) F.entry_int_rmul (F.args_int_rmul_2 _ _) (m9 0 t l its.toArray n dd sl) ⟨e,rfl,⟨_,e,rfl⟩,?_⟩)
  have Dk:its≠[]:=λ z=>by rw[z]at gr;show vg (Ť gr)
  have Aq:its.toArray.isEmpty=false:=by cases its with
   |nil=>show absurd O Dk
   |cons a r=>rfl
  show ģ agz ⟨_,e,O⟩ agk (age _ _) (tQ l its.toArray n 0 t dd sl FZ (by rw[Aq];decide) G0) ⟨e,?_⟩;have I1:=I.laid (a:=s.heap.objs.size) (o:=.tup []) (h':=s.heap.push { cls:=.type "tuple",data:=.seq #[] }) (t':=s.toks)
   (λ _ _ q=>Ï _ q) (Ñ _) ⟨à _,[],.nil,⟨_,á _ rfl,rfl,0,rfl⟩⟩
  show⟨.ref _,_,I1,O,q _ _ (È I.fresh) (Í a8)⟩
theorem LY (hK:X.K=K):jG X (binaryOp .Mult) (QR K):=by subst hK;show PF
end
structure MCal (P:Ã) (w:World) (K:Ç) (mg:Str->Option À) (base:Heap) (C:Á) (m:Str) (ps:List Str) (k:Nat) (sp:Sp) (f:Á) (fd:FuncData):Prop where
 cls:Cls K C
 mt:Meth K C m f
 ok:FnOk P w K mg base fX k f fd ps sp
 bd:iF K fd ps []
structure MkCal (P:Ã) (w:World) (K:Ç) (mg:Str->Option À) (base:Heap) (C:Á) (x:Str) (ps:List Str) (k:Nat) (sp:Sp) (f:Á) (fd:FuncData):Prop where
 make:Mk K C f
 ok:FnOk P w K mg base fX k f fd ps sp
 mg:mg x=Y (.ref C)
 bd:iF K fd ps []
def gY (fp:List Á) (H H':Hp):Prop:=∀ b o,b∉fp->H b=Y o->H' b=Y o
theorem gY.refl  (H:Hp):gY fp H H:=λ _ _ _ h=>h
theorem gY.trans  (a:gY fp H H1) (b:gY fp H1 H2):gY fp H H2:=λ c o hc h=>b c o hc (a c o hc h)
theorem gY.upd  (ha:a∈fp):gY fp H (upd H a o):=λ b u hb h=>by
 have ne:b≠a:=λ e=>hb (by rw[e];show ha);rw[aG ne];show h
theorem gY.ts  (a:gY fp H H') (hm:∀ b∈fp,iI (H b)):bD K H H':=by
 intro b xs h;have ne:∀ {o:HO},H b=Y o->¬ iI (Y o)->b∉fp:=λ e n z=>by
  have:=hm b z;rw[e]at this;show n this
 rcases h with(h|⟨o,h⟩)|h
 ·show .inl (.inl (a _ _ (ne h (λ z=>z)) h))
 ·show .inl (.inr ⟨o,a _ _ (ne h (λ z=>z)) h⟩)
 ·show .inr h
section
variable {g:TG}{tc:TT}{te:TE}{fr:List (Option Nat)}{σ:St}{H1:Hp}{Q:Á->Hp->Prop}
theorem GF  (h1:xs.length=n) (h2:ys.length=n) (Pv:Á->Nat->List V->St->Hp->Prop)
  (hq:∀ D i r σ H,Pv D i r σ H->kW K H t1 a1 xs/\kW K H t2 a2 ys)
  (h0:∀ D,H1 D=W->Pv D 0 [] (CS fr σ) (upd H1 D (.lst []))) (iu:∀ D r ac H',Pv D n r ac H'->Q D H')
  (ox:∀ D i x y r ac H' T,xs[i]?=Y x->ys[i]?=Y y->Pv D i r ac H'->H' T=W->g (.ref T) ac (upd H' T (.tup [x,y])) λ aj H3=>tc aj H3 λ b H4=>
    if b=Eg then te aj H4 λ y H5=>H5 D=Y (.lst r)/\r.length < PySem.sizeLine/\Pv D (i+1) (r++[y]) aj (upd H5 D (.lst (r++[y])))
    else Pv D (i+1) r aj H4):kQ (QE K t1 t2 a1 a2) g tc te fr σ H1 Q:=by
 show qW (n:=n) Pv h0 (λ D r ac H' p=>?_) λ D i r ac H' hi p=>?_
 ·let⟨q1,q2⟩:=hq D _ r ac H' p;show⟨⟨xs,ys,q1,q2,.inl Fn⟩,iu D r ac H' p⟩
 ·let⟨q1,q2⟩:=hq D _ r ac H' p;show⟨⟨xs,ys,xs[i]'Fn,ys[i]'Fn,q1,q2,G0,G0⟩,?_⟩;rintro v H2 xK;let⟨T,x,y,hT,rfl,e1,e2,rfl⟩:=xK;show ox D i x y r ac H' T (e1 xs q1) (e2 ys q2) p hT
end
end L2
namespace Tw
open PySem L2
structure Mom where
 tick:Int
 held:List Int
 coming:List Int
 doors:List Bool
 poured:List Int
 came:Int
 ground:Int
def jB (m:Mom):L2.D:=.tup [.int m.tick,DT m.held m.coming m.doors,.tup (m.poured.map L2.D.int),.int m.came,.int m.ground]
def h9:List AH->List Bool->Int
 |s::ss,d::ds=>(if d=Eg then s.2.1 else 0)+h9 ss ds
 |_,_=>0
structure MomOk (net:Net) (m:Mom):Prop where
 st:StOk net m.held m.coming m.doors
 pl:m.poured.length=net.vs.length
def Mom.tk (net:Net) (m:Mom):Tick:=tV net m.held m.coming m.poured m.doors
def Mom.step (net:Net) (m:Mom):Mom:=
 { tick:=m.tick+1,held:=(m.tk net).held,coming:=(m.tk net).coming,doors:=(m.tk net).doors,poured:=eD net.vs.length,came:=m.came+(m.poured.sum+h9 net.sps m.doors),ground:=m.ground+(m.tk net).ground }
def Mom.pour (m:Mom) (v a:Int):Mom:={ m with poured:=m.poured.set v.toNat (m.poured.getD v.toNat 0+a) }
def dJ (net:Net) (m:Mom):Nat->Mom
 |0=>m
 |i+1=>(dJ net m i).step net
def qG (net:Net) (m:Mom):List (Int×Nat):=(m.tk net).tip.map λ k=>(m.tick,k)
def dM (net:Net) (m:Mom):Nat->List (Int×Nat)
 |0=>[]
 |i+1=>dM net m i++qG net (dJ net m i)
inductive Row where
 |pour (v a:Int)
 |go (many:Int) (tips:List (Int×Nat))
def gQ (t:Int×Nat):L2.D:=.tup [.int t.1,.int (t.2:Int)]
def jQ:Row->L2.D
 |.pour v a=>.tup [.str "pour",.int v,.int a]
 |.go n ts=>.tup [.str "go",.int n,.tup (ts.map gQ)]
structure RunS where
 net:Net
 rows:List Row
 pre:List Mom
 cur:Mom
 tips:List (List Int)
def addTip (ts:List (List Int)) (t:Int×Nat):List (List Int):=ts.set t.2 (ts.getD t.2 []++[t.1])
def RunS.pour (S:RunS) (v a:Int):RunS:={ S with rows:=S.rows++[.pour v a],pre:=S.pre++[S.cur],cur:=S.cur.pour v a }
def RunS.go (S:RunS) (k:Nat):RunS:={ S with rows:=S.rows++[.go (k:Int) (dM S.net S.cur k)],pre:=S.pre++[S.cur],cur:=dJ S.net S.cur k,tips:=(dM S.net S.cur k).foldl addTip S.tips }
def fZ (net:Net):Mom:=⟨0,eD net.vs.length,eD net.vs.length,net.sps.map (·.2.2),eD net.vs.length,0,0⟩
def ID (net:Net):RunS:=⟨net,[],[],fZ net,List.replicate net.vs.length []⟩
structure RunOk (S:RunS):Prop where
 nok:NetOk S.net
 cur:MomOk S.net S.cur
 tl:S.tips.length=S.net.vs.length
structure RunSz (S:RunS) (B:Nat):Prop where
 rows:S.rows.length<=B
 pre:S.pre.length<=B
 tips:∀ l∈S.tips,l.length<=B
theorem mM (n:Nat):(eD n).length=n:=by simp[eD]
theorem tN  (h:1<=n):(0:Int)::eD (n - 1)=eD n:=by
 obtain⟨k,rfl⟩:∃ k,n=k+1:=⟨n - 1,Fn⟩;simp[eD,ħ]
theorem zW (net:Net):MomOk net (fZ net):=⟨⟨mM _,mM _,by simp[fZ]⟩,mM _⟩
theorem Mom.hs_len  (h:MomOk net m):(cR net m.held m.coming m.poured m.doors).length=net.vs.length:=by
 unfold cR;rw[jX,mK h.st.h h.st.c h.pl]
theorem MomOk.step  (h:MomOk net m):MomOk net (m.step net):=
 ⟨⟨kC _ _ (Mom.hs_len h).symm,by change(i5 _ _).length=_;unfold i5;simp,by change(dY _ _ _).length=_;rw[kS];show h.st.d⟩,mM _⟩
theorem MomOk.pour  (h:MomOk net m) (v a:Int):MomOk net (m.pour v a):=⟨h.st,by change(List.set _ _ _).length=_;rw[Š];show h.pl⟩
theorem pM  (h:MomOk net m):∀ i,MomOk net (dJ net m i)
 |0=>h
 |i+1=>(pM h i).step
theorem U5 {m:Mom} (h:k∈(m.tk net).tip):k < net.vs.length:=by
 have:=tT _ _ _ _ (show k∈dF 0 net.vs _ from h);lia
theorem KL (net:Net) (m:Mom):(m.tk net).tip.length<=net.vs.length:=qF _ _ _
theorem FN :∀(i:Nat) (t:Int×Nat),t∈dM net m i->t.2 < net.vs.length
 |0,t,h=>by simp[dM]at h
 |i+1,t,h=>by
  rcases ÿ.1 h with h|h
  ·show FN i t h
  ·let⟨k,hk,rfl⟩:=å.1 h;show U5 hk
theorem iK  (nok:NetOk net):∀(i:Nat),(dM net m i).length<=12 * i
 |0=>by simp[dM]
 |i+1=>by
  have h1:=iK (m:=m) nok i;have h2:=KL net (dJ net m i);have h3:=nok.hi;change(dM net m i++qG net (dJ net m i)).length<=_;rw[Þ];unfold qG;rw[Ê];lia
theorem mJ:∀(l:List (Int×Nat)) (ts:List (List Int)),(l.foldl addTip ts).length=ts.length
 |[],_=>rfl
 |t::l,ts=>by change(l.foldl addTip (addTip ts t)).length=_;rw[mJ l];unfold addTip;simp
theorem RunOk.pour  (h:RunOk S) (v a:Int):RunOk (S.pour v a):=⟨h.nok,h.cur.pour v a,h.tl⟩
theorem RunOk.go  (h:RunOk S) (k:Nat):RunOk (S.go k):=⟨h.nok,pM h.cur k,by change(List.foldl addTip S.tips (dM S.net S.cur k)).length=_;rw[mJ];show h.tl⟩
theorem G4  (nok:NetOk net):RunOk (ID net):=⟨nok,zW net,by simp[ID]⟩
def CV (np:V) (R M T:Á):List (Str×V):=[("net",np),("rows",.ref R),("moments",.ref M),("tip_ticks",.ref T)]
theorem EQ :(CV np R M T).lookup ("net":Str)=Y np:=rfl
theorem zX :(CV np R M T).lookup ("rows":Str)=Y (.ref R):=rfl
theorem kN :(CV np R M T).lookup ("moments":Str)=Y (.ref M):=rfl
theorem GD :(CV np R M T).lookup ("tip_ticks":Str)=Y (.ref T):=rfl
structure RunC (K:Ç) (C:Á) (H:Hp) (r:Á) (S:RunS) (dx:Á) (np:V) (R M T:Á) (ts:List Á) (rs ms:List V) (mv:V):Prop where
 ins:H r=Y (.ins C dx (CV np R M T))
 net:Is K H (cJ S.net) np
 hR:H R=Y (.lst rs)
 lR:IsL K H (S.rows.map jQ) rs
 hM:H M=Y (.lst (ms++[mv]))
 lM:IsL K H (S.pre.map jB) ms
 cM:Is K H (jB S.cur) mv
 hT:H T=Y (.lst (ts.map V.ref))
 tl:ts.length=S.tips.length
 ti:∀(i:Nat) (t:Á) (l:List Int),ts[i]?=Y t->S.tips[i]?=Y l->H t=Y (.lst (l.map V.int))
 nd:(R::M::T::ts).Nodup
 ok:RunOk S
def dW (K:Ç) (C:Á) (H:Hp) (r:Á) (S:RunS) (fp:List Á):Prop:=∃ dx np R M T ts rs ms mv,RunC K C H r S dx np R M T ts rs ms mv/\fp=R::M::T::ts
structure RunTx (K:Ç) (C:Á):Prop where
 cls:Cls K C
 net:jE K C "net"
 rows:jE K C "rows"
 moments:jE K C "moments"
 tips:jE K C "tip_ticks"
section
variable {r dx R M T:Á}{H H':Hp}{S:RunS}{fp:List Á}{np mv:V}{ts:List Á}{rs ms:List V}
theorem RunC.lists (c:RunC K C H r S dx np R M T ts rs ms mv):∀ b∈R::M::T::ts,∃ xs,H b=Y (.lst xs):=by
 intro b hb;rcases Ò.1 hb with rfl|hb
 ·show⟨_,c.hR⟩
 rcases Ò.1 hb with rfl|hb
 ·show⟨_,c.hM⟩
 rcases Ò.1 hb with rfl|hb
 ·show⟨_,c.hT⟩
 let⟨i,hi,rfl⟩:=List.mem_iff_getElem.1 hb;have hl:i < S.tips.length:=by rw[<- c.tl];show hi
 show⟨_,c.ti i ts[i] S.tips[i] G0 G0⟩
theorem dW.lists (c:dW K C H r S fp):∀ b∈fp,∃ xs,H b=Y (.lst xs):=by
 let⟨dx,np,R,M,T,ts,rs,ms,mv,c,rfl⟩:=c;show c.lists
theorem dW.mut (c:dW K C H r S fp):∀ b∈fp,iI (H b):=λ b hb=>by
 let⟨xs,e⟩:=c.lists b hb;rw[e];show trivial
theorem RunC.r_notin (c:RunC K C H r S dx np R M T ts rs ms mv):r∉R::M::T::ts:=λ hb=>by
 let⟨xs,e⟩:=c.lists r hb;rw[c.ins]at e;cases e
theorem RunC.keep (c:RunC K C H r S dx np R M T ts rs ms mv) (t:bD K H H') (k:∀ b∈r::R::M::T::ts,H' b=H b):RunC K C H' r S dx np R M T ts rs ms mv where
 ins:=by rw[k r G0];show c.ins
 net:=Ì t _ _ c.net
 hR:=by rw[k R G0];show c.hR
 lR:=Î t _ _ c.lR
 hM:=by rw[k M G0];show c.hM
 lM:=Î t _ _ c.lM
 cM:=Ì t _ _ c.cM
 hT:=by rw[k T G0];show c.hT
 tl:=c.tl
 ti:=λ i t l h1 h2=>by rw[k t (by have:=Û h1;simp[this])];show c.ti i t l h1 h2
 nd:=c.nd
 ok:=c.ok
theorem dW.same (c:dW K C H r S fp) (s:aE H H'):dW K C H' r S fp:=by
 let⟨dx,np,R,M,T,ts,rs,ms,mv,c,rfl⟩:=c;show⟨dx,np,R,M,T,ts,rs,ms,mv,c.keep s.ts λ b hb=>?_,O⟩;rcases Ò.1 hb with rfl|hb
 ·rw[s _ _ c.ins,c.ins]
 ·let⟨xs,e⟩:=c.lists b hb;rw[s _ _ e,e]
theorem dW.but  (c:dW K C H r S fp) (s:bS t H H') (hm:iI (H t)) (h1:t≠r) (h2:t∉fp):dW K C H' r S fp:=by
 let⟨dx,np,R,M,T,ts,rs,ms,mv,c,rfl⟩:=c;show⟨dx,np,R,M,T,ts,rs,ms,mv,c.keep (s.ts hm) λ b hb=>?_,O⟩;rcases Ò.1 hb with rfl|hb
 ·rw[s _ _ (Ne.symm h1) c.ins,c.ins]
 ·let⟨xs,e⟩:=c.lists b hb;rw[s _ _ (λ z=>h2 (by rw[<- z];show hb)) e,e]
theorem o0  (h:Is K H (jB m) v):∃(a po:Á) (st:V),v=.ref a/\aP K H a [.int m.tick,st,.ref po,.int m.came,.int m.ground]/\Is K H (DT m.held m.coming m.doors) st/\aP K H po (m.poured.map V.int):=by
 let⟨a,zs,rfl,q,l⟩:=(show Is K H (.tup [.int m.tick,DT m.held m.coming m.doors,.tup (m.poured.map L2.D.int),.int m.came,.int m.ground]) v from h).un;let⟨x1,r,rfl,h1,l⟩:=l.un;let⟨x2,r,rfl,h2,l⟩:=l.un;let⟨x3,r,rfl,h3,l⟩:=l.un;let⟨x4,r,rfl,h4,l⟩:=l.un;let⟨x5,r,rfl,h5,l⟩:=l.un;have:=l.un0;subst this;have:=h1.ui;subst this;have:=h4.ui;subst this;have:=h5.ui;subst this;let⟨po,xs,rfl,q1,l1⟩:=h3.un;have:=l1.ints;subst this;show(NN a po x2 O ⟨q,h2,q1⟩)
theorem EI  (q:aP K H a [.int m.tick,st,.ref po,.int m.came,.int m.ground]) (hs:Is K H (DT m.held m.coming m.doors) st) (hp:aP K H po (m.poured.map V.int)):Is K H (jB m) (.ref a):=
 Ð q (.cons (Õ _) (.cons hs (.cons (Ð hp (aa8 _)) (.cons (Õ _) (.cons (Õ _) .nil)))))
end
def mQ (K:Ç):Sp:=λ vs H Q _=>∃(x:V) (net:Net) (v:Int),vs=[x,.int v]/\Is K H (cJ net) x/\NetOk net/\∀ p H',aE H H'->aP K H' p ((v::eD (net.vs.length - 1)).map V.int)->Q (.ref p) H'
theorem ED (F:Fun K "pouring" "pouring" (bG 8) f fd) (T:Txt mg):FnOk P w K mg base fX 1 f fd ["net","amount"] (mQ K):=by
 show F.ok ["net","amount","vessels","spouts"] λ sc gz A outer s H vs Q E hr h=>?_
 ·let⟨x,net,v,rfl,hx,nok,k⟩:=h;show⟨_,(aA (bP (pv 0) (aM (K:=K) (n:=2) O O (aB (gL 2 sc.nd) (aB (gL 3 sc.nd) aL))))
   (aF (aK (aW (M6 (K:=K) O) (aQ (a7 (pv 1) a9)) (aW (LY (K:=K) O) (aQ (a7 aD a9)) (aW eN (rW K T.b_len (pv 2)) aD)))))),?_⟩
  let⟨a,b,c,xs,ys,rfl,q,q1,l1,q2,l2⟩:=gI hx;have mx:xs.length=net.vs.length:=by rw[l1.length,Ê]
  have n1:=nok.lo;have n2:=nok.hi;show⟨_,O,a,_,O,q,O,_,_,O,_,_,O,O,?_⟩;show(bA _ O ⟨(sz0 1),λ y hy=>⟨(sz0 1),λ z hz=>?_⟩⟩);have m1:=È (o:=HO.tup [.int v]) hy;have m2:=È (o:=HO.tup [.int 0]) hz;show(bA _ O (bU b xs O ⟨.inr (m2.tup (m1.tup q1)),(bU _ _ O ⟨O,(NN z _ [.int 0] O ⟨O,Í a8,Fn,Fn,G0,G0,λ e H1 pc qe=>?_⟩)⟩)⟩));have en:(((xs.length:Nat):Int) - 1).toNat=net.vs.length - 1:=by rw[mx];lia
  rw[en,S6]at qe;show⟨y,e,[.int v],_,O,O,pc.tup (m2.tup (Í a8)),qe,G0,aS (by simp;lia) |> ĝ,λ he=>?_,λ _ p hp=>?_⟩
  ·show k _ _ ((m1.trans m2).trans pc) ?_;have e0:eD (net.vs.length - 1)=[]:=List.map_eq_nil_iff.mp he;rw[e0];show pc.tup (m2.tup (Í a8))
  ·show k _ _ (((m1.trans m2).trans pc).trans (È hp)) (Í a8)
def BD (K:Ç):Sp:=λ vs H Q _=>∃(x y:V) (z:Á) (net:Net) (held coming poured:List Int) (doors:List Bool),vs=[x,y,.ref z]/\Is K H (cJ net) x/\Is K H (DT held coming doors) y/\aP K H z (poured.map V.int)/\
 NetOk net/\StOk net held coming doors/\∀ H',aE H H'->Q (.int (poured.sum+h9 net.sps doors)) H'
theorem pG:∀(ss:List AH) (ds:List Bool) (i:Nat) (s:AH) (d:Bool),ss[i]?=Y s->ds[i]?=Y d->h9 (ss.take (i+1)) (ds.take (i+1))=h9 (ss.take i) (ds.take i)+(if d=Eg then s.2.1 else 0)
 |[],_,i,_,_,h,_=>by simp at h
 |_::_,[],i,_,_,_,h=>by simp at h
 |a::ss,b::ds,0,s,d,h1,h2=>by simp at h1 h2;subst h1 h2;simp[h9]
 |a::ss,b::ds,i+1,s,d,h1,h2=>by
  simp only[ł,h9];rw[pG ss ds i s d (by simpa using h1) (by simpa using h2)];lia
theorem EG (F:Fun K "came_in" "came_in" (bG 10) f fd) (T:Txt mg):FnOk P w K mg base fX 1 f fd ["net","state","poured"] (BD K):=by
 show F.ok ["net","state","poured","vessels","spouts","held","coming","doors"] λ sc gz A outer s H vs Q E hr h=>?_
 ·let⟨x,y,z,net,held,coming,poured,doors,rfl,hx,hy,qz,nok,sj,k⟩:=h;show⟨_,(aA (bP (pv 0) (aM (K:=K) (n:=2) O O (aB (gL 3 sc.nd) (aB (gL 4 sc.nd) aL))))
   (aA (bP (pv 1) (aM (K:=K) (n:=3) O O (aB (gL 5 sc.nd) (aB (gL 6 sc.nd) (aB (gL 7 sc.nd) aL)))))
   (aF (aK (aW cF (bO (n6 (K:=K) O O) O T.b_sum ũ (a7 (pv 2) a9)) (bO (n6 (K:=K) O O) O T.b_sum ũ (a7 (fQ (λ _ _ h=>h) O (LcOk.mk (N':=["target","flow","first_door","door"]) (fr:=[W,W,W,W]) O trivial O O O O O trivial) (uT (K:=K) O O T.b_zip (a7 (pv 4) (a7 (pv 7) a9))) (λ _ _ _=>(aM (K:=K) (n:=2) O O (aB (aM (K:=K) (n:=3) O O (aB (gC 0 ["target","flow","first_door","door"]) (aB (gC 1 ["target","flow","first_door","door"]) (aB (gC 2 ["target","flow","first_door","door"]) aL)))) (aB (gC 3 ["target","flow","first_door","door"]) aL)))) (λ _ _ _=>sX (cO (pv 3))) (λ _ _ _=>(pv 1))) a9))))))),?_⟩
  let⟨a,b,c,xs,ys,rfl,q,q1,l1,q2,l2⟩:=gI hx;let⟨ay,b1,b2,b3,rfl,qy,qb1,qb2,Tu⟩:=KQ hy;have zd:ys.length=net.sps.length:=by rw[l2.length,Ê]
  have n3:=nok.sp;show⟨_,O,a,_,O,q,O,_,_,O,_,_,O,O,?_⟩;show⟨_,O,ay,_,O,qy,O,_,_,O,_,_,O,_,_,O,O,?_⟩;show⟨_,O,Eg,z,_,O,qz,?_⟩;show⟨_,O,_,O,Eg,Eg,c,b3,O,⟨_,q2⟩,⟨_,Tu⟩,GF (K:=K) (t1:=Eg) (t2:=Eg) (xs:=ys) (ys:=doors.map V.bl) (n:=net.sps.length) zd (by rw[Ê];show sj.d)
   (λ D i r ac H'=>H D=W/\aE H H'/\H' D=Y (.lst r)/\(∃ ns:List Int,r=ns.map V.int/\ns.sum=h9 (net.sps.take i) (doors.take i)/\ns.length<=i)/\∃ u1 u2 u3 u4,ac=[u1,u2,u3,u4])
   (λ D i r ac H' p=>⟨p.2.1.tup q2,p.2.1.tup Tu⟩) (λ D hD=>⟨hD,È hD,a8,⟨[],O,by simp[h9],G0⟩,W,W,W,W,O⟩) ?_ ?_⟩
  rotate_left
  ·rintro D i x y r ac H2 Tt hx hy ⟨hD,sm,ie,⟨ns,rfl,ua,Kt⟩,u1,u2,u3,u4,rfl⟩ hT;let⟨sp,za,sa,rfl,qs⟩:=tY l2 hx;have mw:=(Ö.mp za).1;obtain⟨d,Nr,rfl⟩:∃ d,doors[i]?=Y d/\y=V.bl d:=by
    rw[Ø]at hy;cases hd:doors[i]? with
    |none=>rw[hd]at hy;cases hy
    |some d=>rw[hd]at hy;cases hy;show⟨d,O,O⟩
   have mT:=È (o:=HO.tup [.ref sa,.bl d]) hT;have hs:=pG net.sps doors i sp d za Nr;show⟨Tt,_,O,Í a8,O,_,_,O,sa,_,O,mT.tup (sm.tup qs),O,_,_,O,_,_,O,_,_,O,O,_,_,O,O,?_⟩;show⟨_,O,_,O,?_⟩;have ng:=sm.trans mT;cases d with
   |false=>
    show eG ⟨hD,ng,mT _ _ ie,⟨ns,O,by rw[hs,ua];simp,Fn⟩,_,_,_,_,O⟩
   |true=>
    show eS ⟨_,O,mT _ _ ie,aS (by simp;lia),hD,ng.put hD,a8,⟨ns++[sp.2.1],by rw[Ó];rfl,by rw[hs,List.sum_append,ua];simp,by simp;lia⟩,_,_,_,_,O⟩
  ·rintro D r ac H2 xK;let⟨hD,sm,ie,⟨ns,rfl,ua,Kt⟩,_⟩:=xK;show⟨Eh,D,_,O,É ie,_,_,O,O,?_⟩;rw[ua,đ (Ñ _),đ (Ō sj.d)];show k _ sm
def BB (K:Ç):Sp:=λ vs H Q _=>∃(x y:V) (net:Net) (m:Mom),vs=[x,y]/\Is K H (cJ net) x/\Is K H (jB m) y/\NetOk net/\MomOk net m/\
 ∀ p p1 p2 H',aE H H'->aP K H' p [p1,.ref p2]->Is K H' (jB (m.step net)) p1->aP K H' p2 ((m.tk net).tip.map λ(k:Nat)=>V.int (k:Int))->Q (.ref p) H'
theorem qS (F:Fun K "moment_behind" "moment_behind" (bG 22) f fd) (T:Txt mg) (jt:Callee P w K mg base "tick_behind" ["net","state","poured"] 4 (DU K) f1 je)
  (xl:Callee P w K mg base "came_in" ["net","state","poured"] 1 (BD K) f2 js) (jv:Callee P w K mg base "pouring" ["net","amount"] 1 (mQ K) f3 nj):FnOk P w K mg base fX 5 f fd ["net","moment"] (BB K):=by
 show F.ok ["net","moment","tick","state","poured","came","grounded","behind","tipped","lost"] λ sc gz A outer s H vs Q E hr h=>?_
 ·let⟨x,y,net,m,rfl,hx,hy,nok,kr,k⟩:=h;show⟨_,(aA (bP (pv 1) (aM (K:=K) (n:=5) O O (aB (gL 2 sc.nd) (aB (gL 3 sc.nd) (aB (gL 4 sc.nd) (aB (gL 5 sc.nd) (aB (gL 6 sc.nd) aL)))))))
   (aA (bP (cA jt hr (a7 (pv 0) (a7 (pv 3) (a7 (pv 4) a9)))) (aM (K:=K) (n:=3) O O (aB (gL 7 sc.nd) (aB (gL 8 sc.nd) (aB (gL 9 sc.nd) aL)))))
   (aA (E6 (i:=5) sc.nd O (Or.inl O) (cA xl hr (a7 (pv 0) (a7 (pv 3) (a7 (pv 4) a9)))) A2)
   (aF (aK (aQ (a7 (aQ (a7 (aW cF (pv 2) aD) (a7 (pv 7) (a7 (cA jv hr (a7 (pv 0) (a7 aD a9))) (a7 (pv 5) (a7 (aW cF (pv 6) (pv 9)) a9)))))) (a7 (pv 8) a9)))))))),?_⟩
  let⟨a,po,st,rfl,q,hs,hp⟩:=o0 hy;show⟨_,O,a,_,O,q,O,_,_,O,_,_,O,_,_,O,_,_,O,_,_,O,O,?_⟩;show⟨_,O,_,O,_,O,x,st,po,net,m.held,m.coming,m.poured,m.doors,O,hx,hs,hp,nok,kr.st,kr.pl,λ f fxs H1 pc _ if1=>?_⟩;let⟨fa,gxs,ef,qf,lf⟩:=(show Is K H1 (.tup [DT (m.tk net).held (m.tk net).coming (m.tk net).doors,.tup ((m.tk net).tip.map λ (i:Nat)=>L2.D.int (i:Int)),.int (m.tk net).ground]) (.ref f) from if1).un;cases ef;let⟨y1,r,rfl,j1,lf⟩:=lf.un;let⟨y2,r,rfl,j2,lf⟩:=lf.un;let⟨y3,r,rfl,j3,lf⟩:=lf.un;have:=lf.un0;subst this;have:=j3.ui;subst this;let⟨p2,ts,rfl,qt,lt⟩:=j2.un;have et:ts=(m.tk net).tip.map λ (k:Nat)=>V.int (k:Int):=by
   have e1:((m.tk net).tip.map λ(i:Nat)=>L2.D.int (i:Int))=((m.tk net).tip.map λ(i:Nat)=>(i:Int)).map L2.D.int:=by rw[ĉ];rfl
   rw[e1]at lt;rw[lt.ints,ĉ];rfl
  subst et;show⟨f,_,O,qf,O,_,_,O,_,_,O,_,_,O,O,?_⟩;show⟨_,O,_,O,_,O,_,O,x,st,po,net,m.held,m.coming,m.poured,m.doors,O,Ì pc.ts _ _ hx,Ì pc.ts _ _ hs,pc.tup hp,nok,kr.st,λ H2 il=>⟨_,_,O,O,?_⟩⟩;have s2:aE H H2:=pc.trans il;show⟨_,O,_,_,O,O,_,O,_,O,x,net,0,O,Ì s2.ts _ _ hx,nok,λ z H3 ko qz=>?_⟩;rw[tN nok.lo]at qz;show⟨_,O,_,O,_,O,_,_,O,O,(sz0 5),λ p1 Ha=>?_⟩;have m1:aE H3 _:=È (o:=HO.tup [.int (m.tick+1),y1,.ref z,.int (m.came+(m.poured.sum+h9 net.sps m.doors)),.int (m.ground+(m.tk net).ground)]) Ha;show⟨_,O,(sz0 2),λ p Hb=>?_⟩;have m2:aE _ _:=È (o:=HO.tup [.ref p1,.ref p2]) Hb;show k p (.ref p1) p2 _ (((s2.trans ko).trans m1).trans m2) (Í a8) (EI (m:=m.step net) (m2.tup (Í a8)) ?_ ?_) ?_
  ·show Ì m2.ts _ _ (Ì m1.ts _ _ (Ì ko.ts _ _ (Ì il.ts _ _ j1)))
  ·show m2.tup (m1.tup qz)
  ·show m2.tup (m1.tup (ko.tup (il.tup qt)))
end Tw
namespace L2
open PySem PySem.Spec PyProof.Rows TwZ
section
variable {X:Cx}{gj:List (Á×Obj)}{σ:St}{H:Hp}{s:Â}
end
section
variable {H:Hp}
end
theorem bY.some {P:Ã}{o:HO} (x:bY P w H h a o):∃ ob,h.get? a=Y ob:=by
 cases o with
 |lst xs=>let⟨_,_,_,_,e⟩:=x;show⟨_,e⟩
 |tup xs=>let⟨_,_,_,ob,e,_⟩:=x;show⟨_,e⟩
 |dK gn=>let⟨_,_,_,_,o,_,_,e,_⟩:=x;show⟨_,e⟩
 |dT gn=>let⟨_,_,_,_,o,_,_,e,_⟩:=x;show⟨_,e⟩
 |set S n=>let⟨o,_,_,_,e,_⟩:=x;show⟨_,e⟩
 |ins C dx fs=>let⟨_,_,_,e,_⟩:=x;show⟨_,e⟩
 |own y=>let⟨_,e⟩:=x;show⟨_,e⟩
 |xd fs=>let⟨_,⟨_,_,_,e,_⟩,_⟩:=x;show⟨_,e⟩
 |rng lo hi=>let⟨_,_,_,e⟩:=x;show⟨_,e⟩
 |frz ob u=>let⟨e,_⟩:=x;show⟨_,e⟩
 |tbl ps=>show⟨_,(show h.get? a=Option.some _ from x)⟩
 |met f y=>show⟨_,(show h.get? a=Option.some _ from x)⟩
 |ext fj=>let⟨_,⟨_,e⟩,_⟩:=x;show⟨_,e⟩
structure Fly (P:Ã) (w:World) (stack:List Env) (H:Hp) (h:Heap) (ea:Á) (cls a0:À) (H':Hp) (h' B:Heap):Prop where
 fl:Heap.FlyingW B stack ea cls a0 h'
 keep:∀ b o,h.get? b=Y o->H b=W->b∉kA stack->B.get? b=Y o
 slot:∀ b o,h.get? b=Y o->H b=W->b∈kA stack->∃ sl,h'.get? b=Y { o with slots:=sl }
 free:∀ b o,h.get? b=Y o->H b=W->H' b=W
 there:∀ b o,h.get? b=Y o->b∉kA stack->∃ o',B.get? b=Y o'
 tups:∀ b xs,H b=Y (.tup xs)->H' b=Y (.tup xs)
 frzs:∀ b o u,H b=Y (.frz o u)->H' b=Y (.frz o u)
 tbls:∀ b ps,H b=Y (.tbl ps)->∃ more,H' b=Y (.tbl (ps++more))
 hok:nP P w H' B
def mL (P:Ã) (w:World):FM:=λ outer H s E e s'=>∃(ea:Á) (cls a0:À) (H':Hp) (B:Heap),e=.ref ea/\s'.os=s.os/\AllBare s'.gens/\Fly P w outer H s.heap ea cls a0 H' s'.heap B/\E cls W H'
structure Leaves (X:Cx) (E:XK):Prop where
 stk:X.stack=X.env::X.outer
 fr:X.env.frame=Y X.env.locals
 ex:X.ex=[]
 xe:∀ e s',wpAny (model X.prog X.w) X.A (leaving X.env e) (λ _ s''=>mL X.prog X.w X.outer X.H₀ X.s₀ E e s'') (λ e' s''=>mL X.prog X.w X.outer X.H₀ X.s₀ E e' s'') s'->X.xe e s'
section
variable {X:Cx}{gj:List (Á×Obj)}{σ:St}{H H':Hp}{s s':Â}{E:XK}
theorem PR {b:Á}{env:Env} (he:env∈l) (hf:env.frame=Y b):b∈kA l:=List.mem_filterMap.mpr ⟨env,he,hf⟩
theorem pN {b L:Á}{env:Env} (hf:env.frame=Y L) (h:b∈kA (env::l)):b=L\/b∈kA l:=by
 unfold kA at h ⊢;rw[ő,hf]at h;show Ò.1 h
theorem LF {ea:Á}{cls:À}{vs:List À} (L:Leaves X E) (I:Inv X gj σ H s) (hx:Heap.MadeExcOf s.heap h' ea cls vs) (hE:E cls W H):X.xe (.ref ea) { s with heap:=h' }:=by
 show L.xe _ _ ?_;have fr:X.A.frames=Y (X.env::X.outer):=by rw[<- L.stk];show I.ok.frames
 have hs:s.heap.FunFrames X.base (X.env::X.outer):=by rw[<- L.stk];show I.stack
 have mz:∀ b∈kA (X.env::X.outer),H b=none:=by rw[<- L.stk];show I.stkFree
 have ye:∀ b:Á,b∉X.ex:=λ b z=>by rw[L.ex]at z;cases z
 have out:∀ b o,X.s₀.heap.get? b=Y o->b∉kA X.outer->b∉kA (X.env::X.outer):=λ b o e hb z=>by
  rcases pN L.fr z with z|z
  ·show absurd (ï (Ô e) I.ok.above) (by rw[z];show ċ _)
  ·show hb z
 show wpAny_leaves_madeW (base:=PySem.W.hideAll s.heap (kA (X.env::X.outer))) fr L.fr (λ b o q=>PySem.W.of_hideAll _ q) (PySem.W.funFrames_hide hs λ env he a hf=>PR he hf) hx λ h2 t x1 x2 x3 x4=>?_;show⟨ea,cls,.ref t,H,_,O,I.os,I.bare,⟨x1,λ b o e n hb=>?_,λ b o e n hb=>?_,λ b o e n=>I.base.free b o e n (ye b),λ b o e hb=>?_,I.base.tups,I.base.frzs,I.base.tbls,λ a o e=>?_⟩,hE⟩
 ·show Ů _ (I.base.keep b o e n hb (ye b)) (out b o e hb)
 ·let⟨sl,e1⟩:=I.base.slot b o e n hb (ye b);let⟨_,o',om,hd⟩:=I.ok.funs.mem hb;rw[e]at om;cases om;let⟨Ej,e2⟩:=x4 b _ (hx.keeps _ _ e1) hd;show⟨Ej,e2⟩
 ·let⟨o',e1⟩:=I.base.there b o e (ye b);show⟨o',Ů _ e1 (out b o e hb)⟩
 ·show(I.hok a o e).stay (λ b u hb q=>Ů _ q λ z=>?_) (λ _ q=>q) λ _ _ q=>q;have:=mz b z;rcases hb with rfl|hb
  ·rw[e]at this;cases this
  ·rw[hb]at this;cases this
theorem jA (L:Leaves X E):iD (mL X.prog X.w) X E:=by
 intro gj σ H s e s' I h;let⟨ea,cls,a0,H',B,rfl,os,bare,F,hE⟩:=h;show L.xe _ _ ?_;have fr:X.A.frames=Y (X.env::X.outer):=by rw[<- L.stk];show I.ok.frames
 have ye:∀ b:Á,b∉X.ex:=λ b z=>by rw[L.ex]at z;cases z
 have out:∀ b o,X.s₀.heap.get? b=Y o->b∉kA X.outer->b∉kA X.stack:=λ b o e hb z=>by
  rw[L.stk]at z;rcases pN L.fr z with z|z
  ·show absurd (ï (Ô e) I.ok.above) (by rw[z];show ċ _)
  ·show hb z
 have XW:∀ b,b∈kA X.outer->b∈kA X.stack:=λ b hb=>by
  rw[L.stk];unfold kA at hb ⊢;rw[ő,L.fr];show ø _ hb
 show wpAny_leaves_onW fr L.fr (by rw[<- L.stk];show F.fl) λ h2 x1 x2=>?_;show⟨ea,cls,a0,H',B,O,os.trans I.os,bare,⟨x1,λ b o e n hb=>?_,λ b o e n hb=>?_,λ b o e n=>?_,λ b o e hb=>?_,λ b xs e=>F.tups b xs (I.base.tups b xs e),λ b o u e=>F.frzs b o u (I.base.frzs b o u e),λ b ps e=>?_,F.hok⟩,hE⟩
 ·show F.keep b o (I.base.keep b o e n hb (ye b)) (I.base.free b o e n (ye b)) (out b o e hb)
 ·let⟨sl,e1⟩:=I.base.slot b o e n hb (ye b);let⟨Ej,e2⟩:=F.slot b _ e1 (I.base.free b o e n (ye b)) (XW b hb);let⟨_,o',om,hd⟩:=I.ok.funs.mem hb;rw[e]at om;cases om;let⟨Ob,e3⟩:=x2 b _ e2 hd;show⟨Ob,e3⟩
 ·let⟨o',e1⟩:=I.base.there b o e (ye b);show F.free b o' e1 (I.base.free b o e n (ye b))
 ·let⟨o',e1⟩:=I.base.there b o e (ye b);show F.there b o' e1 (out b o e hb)
 ·let⟨m1,e1⟩:=I.base.tbls b ps e;let⟨m2,e2⟩:=F.tbls b _ e1;show⟨m1++m2,by rw[e2,Array.append_assoc]⟩
theorem uX {P:Ã}:iD (mL P w) X E0:=λ _ _ _ _ _ _ _ h=>by
 let⟨_,_,_,_,_,_,_,_,_,h⟩:=h;show h.elim
def TJ (ea:Á) (cls:À):HO:=.ext λ h=>∃ o,h.get? ea=Y o/\o.cls=cls
theorem Inv.caught  (I:Inv X gj σ H s) (os:s'.os=s.os) (bare:AllBare s'.gens) (F:Fly X.prog X.w X.stack H s.heap ea cls a0 H' s'.heap B):H' ea=W/\Inv X gj σ (upd H' ea (TJ ea cls)) s':=by
 let⟨ob,Eu,Ck⟩:=F.fl.there;let⟨oe,vs,sv,_,XX,_⟩:=F.fl.first
 have Af:H' ea=none:=by
  cases q:H' ea with
  |none=>rfl
  |some o=>
   let⟨o',e⟩:=(F.hok ea o q).some;rw[F.fl.2.1]at e;cases e
 have Oc:∀ b∈kA X.stack,b≠ea:=λ b hb z=>by
  let⟨_,o',om,hd⟩:=F.fl.2.2.1.mem hb;rw[z,sv]at om;cases om;show hd _ XX
 have ne:∀ b o,s.heap.get? b=Y o->b≠ea:=λ b o e z=>by
  by_cases hb:b∈kA X.stack
  ·show Oc b hb z
  ·let⟨o',e'⟩:=F.there b o e hb;rw[z,F.fl.2.1]at e';cases e'
 have kb:∀ b u,B.get? b=Y u->s'.heap.get? b=Y u:=F.fl.1;show⟨Af,I.call' (ch:=[]) os ⟨λ b o e n hb _=>kb _ _ (F.keep b o e n hb),λ b o e n hb _=>F.slot b o e n hb,λ b o e n _=>?_,λ b o e _=>?_,λ b xs e=>?_,λ b o u e=>?_,λ b ps e=>?_⟩ (λ b u e=>?_) bare (λ b z=>absurd z G0)⟩
 ·rw[aG (ne b o e)];show F.free b o e n
 ·by_cases hb:b∈kA X.stack
  ·let⟨_,o',om,_⟩:=F.fl.2.2.1.mem hb;show⟨o',om⟩
  ·let⟨o',e'⟩:=F.there b o e hb;show⟨o',kb _ _ e'⟩
 ·have:=F.tups b xs e;rw[aG (aI this Af)];show this
 ·have:=F.frzs b o u e;rw[aG (aI this Af)];show this
 ·let⟨m,e1⟩:=F.tbls b ps e;show⟨m,by rw[aG (aI e1 Af)];show e1⟩
 ·by_cases hb:b=ea
  ·subst hb;rw[a8]at e;cases e;show⟨⟨ob,Eu,Ck⟩,⟨ob,Eu⟩,λ h1 h2 ⟨o,e1,e2⟩ k=>⟨o,k _ e1,e2⟩⟩
  ·rw[aG hb]at e;show(F.hok b u e).stay (λ c v _ q=>kb c v q) (λ c q=>by rw[aG (aI q Af)];show q) λ c xs q=>by rw[aG (aI q Af)];show q
def RQ (E:XK) (C:Á) (t:TA):TS:=λ _ σ H=>t σ H λ vs H1=>vs.length<=100/\E (.ref C) W H1
theorem BO {x:Str}{C:Á}{bm:List À}{newId Dp B:String}{np iq pos:Pos}{fe:Expr}{ja:List Expr}{t:TA} (L:Leaves X E) (hc:X.calm=Eg) (hg:Gl X x) (BF:PySem.W.excIn X.K C bm newId=Eg) (hm:PySem.W.nsIn X.K mainGlobals x=Y (Y (.ref C))) (FB:ExcBaseFacts B newId Dp bm) (ha:PA X (fe::ja) t)
  (he:autoParam (starEach (fe::ja) X.env=(Eh,eval fe X.env)::starEach ja X.env) _0) (ow:autoParam ((backTo iq (starEach ja X.env)).any (·.1)=false) _0) (hd:autoParam ((x==("__debug__":Str))=false) _2) :
  PS X (.Raise (Y (.Call (.Name x np) (fe::ja) [] iq)) W pos) (RQ E C t):=by
 intro gj s σ H D I h;have G:X.mg x=Y (.ref C):=ú I.ok.mod.kin I.ok.mod.glob hm;have XY:OwnCls x C bm newId X.mg X.base:=by
  show⟨G,?_⟩;have q:=BF;unfold PySem.W.excIn at q
  split at q
  ·rename_i dd cd sl ho
   split at q
   ·rename_i C' bm' k0 k1 k2 k3 n k5 Bs hs
    simp only[Ĕ,Bool.not_eq_true',ļ]at q;let⟨⟨⟨⟨⟨rfl,rfl⟩,Hc⟩,ht⟩,hok⟩,Ku⟩:=q;let⟨nm,bs,mro,ns,qn,Fp,sn,sub,ab,col,del⟩:=cd;dsimp only at Bs Hc hok Ku;subst Bs Hc;have tz:sl= #[k0,k1,k2,k3,Y (.builtin n),k5]:=by let⟨l⟩:=sl;simp only at hs;rw[hs]
    subst tz;show⟨bm',ns,nm,qn,bs,Fp,sn,sub,ab,col,dd,k0,k1,k2,k3,k5,_,I.ok.mod.kin _ _ ho,.of_isNs (PySem.W.isNs_of_in I.ok.mod.kin hok),PySem.W.nsMap_none_of_in I.ok.mod.kin hok Ku,PySem.W.tail_of_in I.ok.mod.kin ht⟩
   ·cases q
  ·cases q
 let⟨tl,N,nm,q,bs,hdct,sn,sub,ab,col,dd,k0,k1,k2,k3,k5,mN,hC,hN,Ku,T⟩:=XY.obj;show wpAny_Raise_call_subT (C:=C) (nm:=nm) (q:=q) (N:=N) (bs:=bs) (bm:=tl) (hdct:=hdct) (sn:=sn) (sub:=sub) (ab:=ab) (col:=col) (dd:=dd) (k0:=k0) (k1:=k1) (k2:=k2) (k3:=k3) (k5:=k5) FB (mN:=mN) (T.hasType FB.hasBase) (I.ok.hd hc) (by rw[he];change(Eh || (backTo iq (starEach ja X.env)).any (·.1))=Eh;rw[ow];rfl) Ku (mX I hg G ⟨O,?_⟩ hd);have vh:=ha iq gj s σ H _ I h;rw[he]at vh ⊢;show ū (ä vh (λ us cn ⟨vs,H1,I1,r1,gr,hE⟩=>⟨O,?_,I1.bk _ _ hC,hN.keeps I1.bk,T.keeps I1.bk,λ h' e XZ=>LF L I1 XZ hE⟩) λ _ _ y=>y);have:=r1.length;change us.length<=sizeLine;rw[ĕ];lia
end
abbrev Cx.within (X:Cx) (pn:List (Á×Obj)) (E:À->Â->Prop):Cx:={ X with pn:=pn,xe:=E }
abbrev Cx.caughtIn (X:Cx) (ea:Á):Cx:={ X with A:=X.A.mark (Y (.ref ea)),calm:=Eh,xe:=λ _ _=>False }
section
variable {X:Cx}{gj:List (Á×Obj)}{σ:St}{H:Hp}{s:Â}{pn:List (Á×Obj)}{E:À->Â->Prop}{ea:Á}
theorem Cx.Ok.within (ok:X.Ok):(X.within pn E).Ok:=
 ⟨ok.mod,ok.kind,ok.glob,ok.blt,ok.above,ok.inj,ok.has,ok.cab,ok.hd,ok.frames,ok.stk,ok.exf,ok.bs,ok.bsz,ok.noex,ok.exfs,ok.funs,ok.frf⟩
theorem Cx.Ok.unwithin (ok:(X.within pn E).Ok):X.Ok:=
 ⟨ok.mod,ok.kind,ok.glob,ok.blt,ok.above,ok.inj,ok.has,ok.cab,ok.hd,ok.frames,ok.stk,ok.exf,ok.bs,ok.bsz,ok.noex,ok.exfs,ok.funs,ok.frf⟩
theorem Inv.within (I:Inv X gj σ H s):Inv (X.within (X.pn++gj) E) [] σ H s:=
 ⟨I.ok.within,I.os,I.bare,I.base,I.loc,I.cell,I.free,I.freeC,λ p hp=>I.pin p (by simpa using hp),I.hok,I.len⟩
theorem Inv.unwithin  (I:Inv (X.within (X.pn++gj) E) p2 σ H s):Inv X gj σ H s:=
 ⟨I.ok.unwithin,I.os,I.bare,I.base,I.loc,I.cell,I.free,I.freeC,λ p hp=>I.pin p (ľ _ hp),I.hok,I.len⟩
theorem Inv.mark (I:Inv X gj σ H s):Inv (X.caughtIn ea) gj σ H s:=
 ⟨⟨I.ok.mod,I.ok.kind,I.ok.glob,I.ok.blt,I.ok.above,I.ok.inj,I.ok.has,I.ok.cab,λ z=>Bool.noConfusion z,I.ok.frames,I.ok.stk,I.ok.exf,I.ok.bs,I.ok.bsz,I.ok.noex,I.ok.exfs,I.ok.funs,I.ok.frf⟩,I.os,I.bare,I.base,I.loc,I.cell,I.free,I.freeC,I.pin,I.hok,I.len⟩
theorem Inv.unmark (ok:X.Ok) (I:Inv (X.caughtIn ea) gj σ H s):Inv X gj σ H s:=
 ⟨ok,I.os,I.bare,I.base,I.loc,I.cell,I.free,I.freeC,I.pin,I.hok,I.len⟩
end
end L2
namespace L2
open PySem PySem.Spec PyProof.Rows TwZ PySem.Builtin PySem.Builtin.ObjectAttr PySem.Builtin.Getset_descriptor
section
variable {prog:Ã}{x D:Á}
end
section
variable {X:Cx}
def LH (K:Ç):R2:=λ x y H Q=>∃ a b xs ys,x=.ref a/\y=.ref b/\aP K H a xs/\aP K H b ys/\xs.length+ys.length<=sizeLine/\∀ p H',aE H H'->aP K H' p (xs++ys)->Q (.ref p) H'
theorem M5:jG X (binaryOp .Add) (LH X.K):=by
 intro gj s σ H x y v u Q I rx ry h;let⟨a,b,xs,ys,rfl,rfl,ha,hb,hz,q⟩:=h
 by_cases hx:xs=[]
 ·subst hx;cases rx;cases ry;let⟨its,r1,p1,_⟩:=I.tuple ha;let⟨ni,r2,p2,_⟩:=I.tuple hb;cases r1;let⟨⟨cls,dd,data,sl⟩,ho,hc,n,hd⟩:=id p1;let⟨⟨Mn,Kj,data2,Fu⟩,Co,wn,n2,hd2⟩:=id p2;simp only at hc hd wn hd2;subst hc hd wn hd2;show concat_meets ⟨_,ho,O⟩ ⟨_,Co,O⟩ agx seq_tuple_add ae9 aey (aer _ _) (tuple_addW0 a b _ ni.toArray n n2 dd Kj sl Fu G0) ⟨ho,Co,⟨.ref b,H,I,O,q b H (Ľ H) hb⟩⟩
 ·show GB gj s σ H _ _ v u Q I rx ry ⟨a,b,xs,ys,O,O,ha,hb,hx,hz,λ e=>?_,λ _ p hp=>?_⟩
  ·subst e;show q a H (Ľ H) (by rw[Ģ];show ha)
  ·show q p _ (È hp) (Í a8)
theorem xN (hK:X.K=K):jG X (binaryOp .Add) (LH K):=by subst hK;show M5
theorem FX (hK:X.K=K):SlR X (UR K):=by subst hK;show L6
end
theorem Fun.okR {x qual:Str}{st:Stmt}{ps:List Str}{k:Nat}{sp:Sp} (F:Fun K x qual st f fd) (N) (jl:FnScope N ps (aH st)->∀(gz:À) (A:Around) (outer:List Env) (s:Â) (H:Hp) (vs:List V) (Q:VK) (E:XK),Room k (A.deeper (envOfC qual (aH st) s.heap.objs.size f gz))->sp vs H Q E->
   Leaves (jZ (mL P w) P w K mg base N qual (aH st) f gz A outer s H E) E->
   ∃ t,yO (jZ (mL P w) P w K mg base N qual (aH st) f gz A outer s H E) (cL st) t/\t { nx:=λ _ H'=>Q .non H',rt:=Q } (start N vs) H) (S:autoParam (FnScope N ps (aH st)) _C) (len:autoParam (∀ vs H Q E,sp vs H Q E->vs.length=ps.length) _E):FnOk P w K mg base (mL P w) (k+1) f fd ps sp:=by
 let⟨oc,od,kV,doc,pm,an,gz,ct,ue,rfl,lk,qj⟩:=F.ex;show NK lk qj S len λ A outer s H vs Q E hr kf=>jl S gz A outer s H vs Q E hr kf ⟨O,O,O,λ _ _ h=>h⟩
structure CalleeR (P:Ã) (w:World) (K:Ç) (mg:Str->Option À) (base:Heap) (x:Str) (ps:List Str) (k:Nat) (sp:Sp) (f:Á) (fd:FuncData):Prop where
 ok:FnOk P w K mg base (mL P w) k f fd ps sp
 mg:mg x=Y (.ref f)
 kp:PySem.W.keepIn K (.ref f)=Eg
 bd:iF K fd ps []
structure MCalR (P:Ã) (w:World) (K:Ç) (mg:Str->Option À) (base:Heap) (C:Á) (m:Str) (ps:List Str) (k:Nat) (sp:Sp) (f:Á) (fd:FuncData):Prop where
 cls:Cls K C
 mt:Meth K C m f
 ok:FnOk P w K mg base (mL P w) k f fd ps sp
 bd:iF K fd ps []
structure ExC (K:Ç) (x:Str) (C:Á):Prop where
 ns:PySem.W.nsIn K mainGlobals x=Y (Y (.ref C))
 exc:PySem.W.excIn K C [.type "ValueError",.type "Exception",.type "BaseException",.type "object"] "ValueError.__new__" =Eg
end L2
namespace Tw
open PySem L2
def lN:Sp:=λ vs H Q _=>∃(n lo hi:Int),vs=[.int n,.int lo,.int hi]/\Q (.bl (decide (lo<=n) && decide (n<=hi))) H
theorem zN (F:Fun K "is_whole" "is_whole" (bG 43) f fd) (T:Txt mg):FnOk P w K mg base fX 1 f fd ["thing","least","most"] lN:=by
 show F.ok ["thing","least","most"] λ sc gz A outer s H vs Q E hr h=>?_
 ·let⟨n,lo,hi,rfl,k⟩:=h;show⟨_,(aF (aK (eK (bO (gE (K:=K) O) O T.b_isinstance fT (a7 (pv 0) (a7 (gZ (v:=.ty "int") O T.b_int oC O) a9))) (eK (zG (bO (gE (K:=K) O) O T.b_isinstance fT (a7 (pv 0) (a7 (gZ (v:=.ty "bool") O T.b_bool tG O) a9)))) (fL (pF rY rY (pv 1) (pv 0) (pv 2))))))),?_⟩;show⟨_,O,_,"int",_,Eg,O,.inl (.int _),ML K,_,O,eS ?_⟩;show⟨_,O,_,"bool",_,Eh,O,.inl (.int _),MM K,_,O,_,O,eS ?_⟩;show⟨_,O,_,O,_,_,O,O,_,O,i9 (λ h1=>?_) λ h1=>?_⟩
  ·rw[h1,Bool.true_and]at k;show⟨_,O,_,_,O,O,k⟩
  ·rw[Bool.not_eq_true]at h1;rw[h1,ag3]at k;show k
def oN (K:Ç) (cV:Á):Sp:=λ vs H Q E=>∃(x:V) (net:Net) (v:Int),vs=[x,.int v]/\Is K H (cJ net) x/\((0<=v/\v < net.vs.length/\Q .non H)\/(¬ (0<=v/\v < net.vs.length)/\E (.ref cV) W H))
theorem sL (F:Fun K "need_vessel" "need_vessel" (bG 40) f fd) (T:Txt mg) (jp:ExC K "NoVessel" gu) (gt:Callee P w K mg base "is_whole" ["thing","least","most"] 1 lN f1 je) :
  FnOk P w K mg base (mL P w) 2 f fd ["net","number"] (oN K gu):=by
 show F.okR ["net","number","vessels","spouts"] λ sc gz A outer s H vs Q E hr h L=>?_
 ·let⟨x,net,v,rfl,hx,k⟩:=h;show⟨_,(aA (bP (pv 0) (aM (K:=K) (n:=2) O O (aB (gL 2 sc.nd) (aB (gL 3 sc.nd) aL))))
   (aF (cE (fY (cO (cA gt hr (a7 (pv 1) (a7 aD (a7 (aW eN (rW K T.b_len (pv 2)) aD) a9)))))) (aF (BO L O O jp.exc jp.ns af9 (a7 eY a9))) bF))),?_⟩
  let⟨a,b,c,xs,ys,rfl,q,q1,l1,q2,l2⟩:=gI hx;have mx:xs.length=net.vs.length:=by rw[l1.length,Ê]
  show⟨_,O,a,_,O,q,O,_,_,O,_,_,O,O,?_⟩;show⟨_,O,_,O,b,xs,O,.inr q1,_,_,O,O,v,0,_,O,_,O,?_⟩;rcases k with⟨h0,h1,k⟩|⟨hn,k⟩
  ·rw[ð h0,ð (show v<=((xs.length:Nat):Int) - 1 by lia)];show eG k
  ·have:(decide (0<=v) && decide (v<=((xs.length:Nat):Int) - 1))=false:=by
    rw[Bool.eq_false_iff];intro z;rw[Ĕ,č,č]at z;show hn ⟨z.1,Fn⟩
   rw[this];show eS ⟨by change 1<=100;decide,k⟩
end Tw
namespace L2
open PySem PySem.Spec PyProof.Rows TwZ
mutual
def gF (h:Heap):D->À->Prop
 |.int i,v=>∃ t,v=.int i t
 |.bl b,v=>v=.bool b
 |.tup ds,v=>∃ a o items n,v=.ref a/\h.get? a=Y o/\o.cls=.type "tuple" /\ o.data=.seq items n/\eU h ds items.toList
 |.non,_=>False
 |.str _,_=>False
def eU (h:Heap):List D->List À->Prop
 |[],vs=>vs=[]
 |d::ds,vs=>∃ v r,vs=v::r/\gF h d v/\eU h ds r
end
mutual
def sh:D->D
 |.int _=>.int 0
 |.bl _=>.bl Eh
 |.tup ds=>.tup (lF ds)
 |d=>d
def lF:List D->List D
 |[]=>[]
 |d::ds=>sh d::lF ds
end
mutual
def vS:D->Int
 |.int i=>hashInt i
 |.bl b=>hashInt (if b=Eg then 1 else 0)
 |.tup ds=>reduceHash (Builtin.Tuple.tupleHashOf (fG ds))
 |_=>0
def fG:List D->List Int
 |[]=>[]
 |d::ds=>vS d::fG ds
end
mutual
def o5:D->Nat
 |.tup ds=>fA ds+1
 |_=>1
def fA:List D->Nat
 |[]=>0
 |d::ds=>o5 d+fA ds
end
mutual
theorem gF.inj {h:Heap}:∀ {x y:D}{v:À},sh x=sh y->gF h x v->gF h y v->x=y
 |.int i,.int j,v,_,hx,hy=>by
  rw[gF]at hx hy;let⟨t,rfl⟩:=hx;let⟨t',e⟩:=hy;injection e with e _;rw[e]
 |.bl i,.bl j,v,_,hx,hy=>by
  rw[gF]at hx hy;subst hx;injection hy with e;rw[e]
 |.tup ds,.tup es,v,hs,hx,hy=>by
  rw[gF]at hx hy;let⟨a,o,items,n,rfl,h1,h2,h3,l1⟩:=hx;let⟨a',o',lj,n',e,Cw,Br,Cy,l2⟩:=hy;cases e;rw[h1]at Cw;cases Cw;rw[h3]at Cy;cases Cy;rw[sh,sh]at hs;injection hs with hs;rw[eU.inj hs l1 l2]
 |.non,_,_,_,hx,_=>by rw[gF]at hx;show hx.elim
 |.str _,_,_,_,hx,_=>by rw[gF]at hx;show hx.elim
 |.int _,.bl _,_,hs,_,_=>by rw[sh,sh]at hs;cases hs
 |.int _,.tup _,_,hs,_,_=>by rw[sh,sh]at hs;cases hs
 |.int _,.non,_,_,_,hy=>by rw[gF]at hy;show hy.elim
 |.int _,.str _,_,_,_,hy=>by rw[gF]at hy;show hy.elim
 |.bl _,.int _,_,hs,_,_=>by rw[sh,sh]at hs;cases hs
 |.bl _,.tup _,_,hs,_,_=>by rw[sh,sh]at hs;cases hs
 |.bl _,.non,_,_,_,hy=>by rw[gF]at hy;show hy.elim
 |.bl _,.str _,_,_,_,hy=>by rw[gF]at hy;show hy.elim
 |.tup _,.int _,_,hs,_,_=>by rw[sh,sh]at hs;cases hs
 |.tup _,.bl _,_,hs,_,_=>by rw[sh,sh]at hs;cases hs
 |.tup _,.non,_,_,_,hy=>by rw[gF]at hy;show hy.elim
 |.tup _,.str _,_,_,_,hy=>by rw[gF]at hy;show hy.elim
theorem eU.inj {h:Heap}:∀ {x y:List D}{vs:List À},lF x=lF y->eU h x vs->eU h y vs->x=y
 |[],[],_,_,_,_=>rfl
 |[],_::_,_,hs,_,_=>by rw[lF,lF]at hs;cases hs
 |_::_,[],_,hs,_,_=>by rw[lF,lF]at hs;cases hs
 |x::xs,y::ys,vs,hs,hx,hy=>by
  rw[eU]at hx hy;let⟨v,r,rfl,h1,l1⟩:=hx;let⟨v',r',e,h2,l2⟩:=hy;cases e;rw[lF,lF]at hs;injection hs with e1 e2;rw[gF.inj e1 h1 h2,eU.inj e2 l1 l2]
end
mutual
theorem gF.keeps {h h':Heap} (k:∀ a o items n,h.get? a=Y o->o.data=.seq items n->h'.get? a=Y o):∀ {x:D}{v:À},gF h x v->gF h' x v
 |.int i,v,hx=>by rw[gF]at hx ⊢;show hx
 |.bl i,v,hx=>by rw[gF]at hx ⊢;show hx
 |.tup ds,v,hx=>by
  rw[gF]at hx ⊢;let⟨a,o,items,n,e,h1,h2,h3,l1⟩:=hx;show⟨a,o,items,n,e,k a o items n h1 h3,h2,h3,eU.keeps k l1⟩
 |.non,_,hx=>by rw[gF]at hx;show hx.elim
 |.str _,_,hx=>by rw[gF]at hx;show hx.elim
theorem eU.keeps {h h':Heap} (k:∀ a o items n,h.get? a=Y o->o.data=.seq items n->h'.get? a=Y o):∀ {x:List D}{vs:List À},eU h x vs->eU h' x vs
 |[],_,hx=>by rw[eU]at hx ⊢;show hx
 |x::xs,vs,hx=>by
  rw[eU]at hx ⊢;let⟨v,r,e,h1,l1⟩:=hx;show⟨v,r,e,gF.keeps k h1,eU.keeps k l1⟩
end
theorem eU.length :∀ {x:List D}{vs:List À},eU h x vs->vs.length=x.length
 |[],_,hx=>by rw[eU]at hx;subst hx;rfl
 |x::xs,vs,hx=>by
  rw[eU]at hx;let⟨v,r,rfl,_,l⟩:=hx;rw[Ý,Ý,eU.length l]
theorem eU.get :∀ {x:List D}{vs:List À}{j:Nat}{d:D}{v:À},eU h x vs->x[j]?=Y d->vs[j]?=Y v->gF h d v
 |[],_,_,_,_,_,e,_=>by simp at e
 |d::ds,vs,0,d',v,hx,e1,e2=>by
  rw[eU]at hx;let⟨v',r,rfl,h1,_⟩:=hx;simp at e1 e2;subst e1 e2;show h1
 |d::ds,vs,j+1,d',v,hx,e1,e2=>by
  rw[eU]at hx;let⟨v',r,rfl,_,l⟩:=hx;show eU.get l (by simpa using e1) (by simpa using e2)
section
variable {prog:Ã}
theorem oI {E:À->Â->Prop}{s:Â}{Q:Int->Â->Prop} (h:Q (hashInt (if b=Eg then 1 else 0)) { s with toks:=s.toks+1 }):wpAny (model prog w) A (pyHash (.bool b)) Q E s:=by
 have hT:s.TypeIs (.bool b) "bool" := rfl;have hr:=rawHash_range (if b=Eg then 1 else 0);unfold pyHash;have hv:[Value.bool b].any Value.onHeap=false:=rfl;show Æ ?_;rw[cRoomFor,Ä (by rw[hv];show ã)];show Ë (Æ (Ĺ hT F.slot_bool_hash.lookup ?_));change wpAny _ _ (if (Y (Value.builtin "int.__hash__")==Y Value.none)=Eg then _ else _) Q E s;rw[Ä (by rw[agu];show ã)];show Æ (Ĺ hT F.slot_bool_hash.lookup ?_);change wpAny _ _ (callSpecialIfBoundUnlessNone? (.bool b) "__hash__" _ >>= _) Q E s;show Æ (adl hT F.slot_bool_hash (ē F.slot_bool_hash hT F.entry_int_hash (show wpAny _ _ (do ret (<- mkInt (rawHash (if b=Eg then 1 else 0)))) _ _ s from wpAny_ret_mkInt ?_) (F.args_int_hash_1 _)));change wpAny _ _ (if (decide (-(2:Int) ^ 63<=rawHash (if b=Eg then 1 else 0)) && decide (rawHash (if b=Eg then 1 else 0) < 2 ^ 63))=Eg then _ else _) Q E _;rw[Å (by rw[ð hr.1,ð hr.2];rfl)];show Ë h
theorem nL:∀(a b:List D),fG (a++b)=fG a++fG b
 |[],b=>by rw[fG];rfl
 |d::a,b=>by rw[ĩ,fG,fG,nL a b];rfl
theorem mF:∀(a b:List D),fA (a++b)=fA a+fA b
 |[],b=>by rw[fA,ŗ,Ě]
 |d::a,b=>by rw[ĩ,fA,fA,mF a b,agr]
theorem rB:∀(ds:List D) (d:D),d∈ds->d.depth<=dN ds:=by
 intro ds
 induction ds with
 |nil=>intro d h;cases h
 |cons e r ih=>
  intro d h;rw[dN];rcases Ò.1 h with rfl|h
  ·lia
  ·have:=ih d h;lia
def OB (prog:Ã) (w:World) (d:D):Prop:=∀(A:Around) (E:À->Â->Prop) (s:Â) (v:À) (Q:Int->Â->Prop),A.units+d.depth < cLine->gF s.heap d v->Q (vS d) { s with toks:=s.toks+o5 d }->wpAny (model prog w) A (pyHash v) Q E s
mutual
theorem N6:∀(d:D),OB prog w d
 |.int i=>λ A E s v Q _ hx h=>by
  rw[gF]at hx;let⟨t,rfl⟩:=hx;rw[vS,o5]at h
  ·show wpAny_pyHash_int h
  ·intros;contradiction
 |.bl b=>λ A E s v Q _ hx h=>by
  rw[gF]at hx;subst hx;rw[vS,o5]at h
  ·show oI h
  ·intros;contradiction
 |.tup ds=>λ A E s v Q hu hx h=>by
  have all:=GL ds;rw[gF]at hx;let⟨a,o,items,n,rfl,ho,hc,hd,hi⟩:=hx;have hT:s.TypeIs (.ref a) "tuple" :=⟨o,ho,hc⟩;have zh:D.depth (.tup ds)=dN ds+1:=by rw[D.depth]
  rw[zh]at hu;rw[vS,o5]at h;unfold pyHash
  first|unfold pyHashByItsType|skip
  first|show Æ (wpAny_cRoomFor_or (.inr Fn) ?_)|skip
  show Æ (Ĺ hT F.slot_tuple_hash.lookup ?_);change wpAny _ _ (if (Y (Value.builtin "tuple.__hash__")==Y Value.none)=Eg then _ else _) Q E s;rw[Ä (by rw[agu];show ã)];show Æ (Ĺ hT F.slot_tuple_hash.lookup ?_);change wpAny _ _ (callSpecialIfBoundUnlessNone? (.ref a) "__hash__" _ >>= _) Q E s;show Æ (adl hT F.slot_tuple_hash (ē F.slot_tuple_hash hT F.entry_tuple_hash ?_ (F.args_tuple_hash_1 _)));change wpAny _ _ (Builtin.Tuple.tupleItemsOf (.ref a) >>= _) _ _ s;show Æ (wpAny_tupleItemsOf ho hd (Æ ?_));rw[<- Ņ];show wpAny_forIn_list _ (λ ja (b:Array Int) s'=>∃ done left,ds=done++left/\eU s.heap left ja/\b.toList=fG done/\s'={ s with toks:=s.toks+fA done }) _ ?_ ?_ _ _ ⟨[],ds,O,hi,by rw[fG],by rw[fA];rfl⟩
  ·rintro x ja b s' xK;let⟨done,left,rfl,hl,hb,rfl⟩:=xK;cases left with
   |nil=>rw[eU]at hl;cases hl
   |cons k Kv=>
    rw[eU]at hl;let⟨v',r',e,h1,l1⟩:=hl;cases e;have hk:=all k G0;have hdk:=rB (done++k::Kv) k G0;have fin:∃ zi Bu,done++k::Kv=zi++Bu/\eU s.heap Bu ja/\(b.push (vS k)).toList=fG zi/\({ s with toks:=s.toks+fA done+o5 k }:Â)={ s with toks:=s.toks+fA zi }:=
     ⟨done++[k],Kv,G0,l1,by rw[Array.toList_push,hb,nL,fG,fG],by rw[mF,fA,fA,Nat.add_zero,agr]⟩
    show Æ (hk _ _ _ _ _ ?_ h1 ?_)
    ·have si:A.in1.units=A.units+1:=rfl;lia
    ·first
      |show Ë fin
      |show Æ (Ë (Ë fin))
  ·rintro b s' xK;let⟨done,left,rfl,hl,hb,rfl⟩:=xK;cases left with
   |cons k Kv=>rw[eU]at hl;let⟨_,_,e,_⟩:=hl;cases e
   |nil=>
    rw[Ģ]at h;change wpAny _ _ (retInt (Builtin.Tuple.tupleHashOf b.toList)) _ _ _;rw[hb];show wpAny_ret_mkInt ?_;change wpAny _ _ (if (decide (-(2:Int) ^ 63<=Builtin.Tuple.tupleHashOf (fG done)) && decide (Builtin.Tuple.tupleHashOf (fG done) < 2 ^ 63))=Eg then _ else _) Q E _;unfold reduceHash at h
    by_cases hr:(decide (-(2:Int) ^ 63<=Builtin.Tuple.tupleHashOf (fG done)) && decide (Builtin.Tuple.tupleHashOf (fG done) < 2 ^ 63))=Eg
    ·rw[Å hr]at h ⊢;show Ë (by simpa [agr]using h)
    ·rw[Ä hr]at h ⊢;show Æ (Č (Ë (by simpa [agr]using h)))
 |.non=>λ _ _ _ _ _ _ hx _=>by rw[gF]at hx;show hx.elim
 |.str _=>λ _ _ _ _ _ _ hx _=>by rw[gF]at hx;show hx.elim
theorem GL:∀(ds:List D),∀ d∈ds,OB prog w d
 |[],_,h=>(nomatch h)
 |e::es,d,h=>by
  have h0:=N6 e;have h1:=GL es;rcases Ò.1 h with z|z
  ·rw[z];show h0
  ·show h1 d z
end
end
noncomputable instance decD:DecidableEq D:=λ a b=>Classical.propDecidable (a=b)
mutual
theorem NQ:∀(d:D),(sh d).depth=d.depth
 |.int _=>by rw[sh,D.depth,D.depth] <;> (intros;contradiction)
 |.bl _=>by rw[sh,D.depth,D.depth] <;> (intros;contradiction)
 |.tup ds=>by rw[sh,D.depth,D.depth,yD ds]
 |.non=>by rw[sh] <;> (intros;contradiction)
 |.str _=>by rw[sh] <;> (intros;contradiction)
theorem yD:∀(ds:List D),dN (lF ds)=dN ds
 |[]=>by rw[lF]
 |d::ds=>by rw[lF,dN,dN,NQ d,yD ds]
end
theorem yW:∀(ds:List D),(lF ds).length=ds.length
 |[]=>by rw[lF]
 |d::ds=>by rw[lF,Ý,Ý,yW ds]
def VN (x y:D):Prop:=∀(A:Around) (s:Â) (u v:À),A.units+x.depth < cLine->gF s.heap x u->gF s.heap y v->SeqAt.EqAt A s u v (decide (x=y))
mutual
theorem VB:∀(x y:D),sh x=sh y->VN x y
 |.int i,.int j,_=>λ A s u v _ hx hy=>by
  rw[gF]at hx hy;let⟨t,rfl⟩:=hx;let⟨t',rfl⟩:=hy;have:=ű (A:=A) (s:=s) i t j t';have e:decide (D.int i=D.int j)=(i==j):=by
   rw[ę,č,ļ,D.int.injEq]
  rw[e];show this
 |.bl i,.bl j,_=>λ A s u v _ hx hy=>by
  rw[gF]at hx hy;subst hx hy;have:=afs (A:=A) (s:=s) i j;have e:decide (D.bl i=D.bl j)=(i==j):=by
   rw[ę,č,ļ,D.bl.injEq]
  rw[e];show this
 |.tup ds,.tup es,hs=>λ A s u v hu hx hy=>by
  rw[sh,sh]at hs;injection hs with hs;have all:=RB ds es hs;have hl:ds.length=es.length:=by rw[<- yW ds,hs,yW]
  have Od:=λ(a:À) (h1:gF s.heap (.tup ds) a) (h2:gF s.heap (.tup es) a)=>gF.inj (by rw[sh,sh,hs]) h1 h2;have nz:=hx;have Ko:=hy;rw[gF]at hx hy;let⟨a,o,items,n,rfl,h1,h2,h3,l1⟩:=hx;let⟨b,o',lj,n',rfl,Cw,Br,Cy,l2⟩:=hy
  by_cases xh:a=b
  ·subst xh;rw[ð (Od _ nz Ko)];show ň _
  ·have zh:D.depth (.tup ds)=dN ds+1:=by rw[D.depth]
   rw[zh]at hu;have si:A.in1.units=A.units+1:=rfl;have k1:=l1.length;have k2:=l2.length;have z1:items.size=ds.length:=by rw[<- k1];simp
   have z2:lj.size=es.length:=by rw[<- k2];simp
   have:=agl (A:=A) (s:=s) (e:=λ j=>match ds[j]?,es[j]? with | some x,Y y=>decide (x=y) | _,_=>Eg) (show s.heap.IsTuple a items from ⟨o,h1,h2,n,h3⟩) (show s.heap.IsTuple b lj from ⟨o',Cw,Br,n',Cy⟩) Fn λ j j1 j2=>by
    have i1:j < ds.length:=by lia
    have i2:j < es.length:=by lia
    rw[þ i1,þ i2];have hd:=rB ds ds[j] (Ĥ i1);show all j ds[j] es[j] G0 G0 A.in1 s items[j] lj[j] Fn (eU.get (j:=j) l1 G0 G0) (eU.get (j:=j) l2 G0 G0)
   have e5:((List.range (min items.size lj.size)).all (λ j=>match ds[j]?,es[j]? with|some x,Y y=>decide (x=y)|_,_=>Eg) && items.size==lj.size)=decide (D.tup ds=D.tup es):=by
    have e0:(items.size==lj.size)=true:=by rw[ļ];lia
    rw[e0,Bool.and_true,ę,č,Ē,D.tup.injEq];constructor
    ·intro h;apply List.ext_getElem hl;intro j j1 j2;have:=h j (ĥ.mpr Fn);rw[þ j1,þ j2]at this;show ć this
    ·rintro rfl j hj;cases ds[j]? with
     |none=>rfl
     |some x=>show ð O
   rw[e5]at this;show ų xh this
 |.non,_,_=>λ _ _ _ _ _ hx _=>by rw[gF]at hx;show hx.elim
 |.str _,_,_=>λ _ _ _ _ _ hx _=>by rw[gF]at hx;show hx.elim
 |.int _,.bl _,hs=>by rw[sh,sh]at hs;cases hs
 |.int _,.tup _,hs=>by rw[sh,sh]at hs;cases hs
 |.int _,.non,_=>λ _ _ _ _ _ _ hy=>by rw[gF]at hy;show hy.elim
 |.int _,.str _,_=>λ _ _ _ _ _ _ hy=>by rw[gF]at hy;show hy.elim
 |.bl _,.int _,hs=>by rw[sh,sh]at hs;cases hs
 |.bl _,.tup _,hs=>by rw[sh,sh]at hs;cases hs
 |.bl _,.non,_=>λ _ _ _ _ _ _ hy=>by rw[gF]at hy;show hy.elim
 |.bl _,.str _,_=>λ _ _ _ _ _ _ hy=>by rw[gF]at hy;show hy.elim
 |.tup _,.int _,hs=>by rw[sh,sh]at hs;cases hs
 |.tup _,.bl _,hs=>by rw[sh,sh]at hs;cases hs
 |.tup _,.non,_=>λ _ _ _ _ _ _ hy=>by rw[gF]at hy;show hy.elim
 |.tup _,.str _,_=>λ _ _ _ _ _ _ hy=>by rw[gF]at hy;show hy.elim
theorem RB:∀(ds es:List D),lF ds=lF es->∀(j:Nat) (x y:D),ds[j]?=Y x->es[j]?=Y y->VN x y
 |[],_,_,j,x,y,h,_=>by simp at h
 |_::_,[],_,j,x,y,_,h=>by simp at h
 |d::ds,e::es,hs,j,x,y,h1,h2=>by
  rw[lF,lF]at hs;injection hs with s1 s2;have k0:=VB d e s1;have k1:=RB ds es s2;cases j with
  |zero=>simp at h1 h2;rw[<- h1,<- h2];show k0
  |succ j=>show k1 j x y (by simpa using h1) (by simpa using h2)
end
def HE (prog:Ã) (w:World) (d:D):Prop:=∀(n:Nat) (A:Around) (E:À->Â->Prop) (s:Â) (v:À) (Q:Bool->Â->Prop),d.depth<=n->gF s.heap d v->Q Eg s->wpAny (model prog w) A (eqIsQuiet n v) Q E s
section
variable {prog:Ã}
mutual
theorem G6:∀(d:D),HE prog w d
 |.int i=>λ n A E s v Q _ hx h=>by
  rw[gF]at hx;let⟨t,rfl⟩:=hx;rw[eqIsQuiet_byValue n (v:=.int i t) rfl];show Ë h
 |.bl b=>λ n A E s v Q _ hx h=>by
  rw[gF]at hx;subst hx;rw[eqIsQuiet_byValue n (v:=.bool b) rfl];show Ë h
 |.tup ds=>λ n A E s v Q hn hx h=>by
  have all:=BL ds;have zh:D.depth (.tup ds)=dN ds+1:=by rw[D.depth]
  rw[zh]at hn;rw[gF]at hx;let⟨a,o,items,m,rfl,ho,hc,hd,hi⟩:=hx;have hT:s.TypeIs (.ref a) "tuple" :=⟨o,ho,hc⟩;obtain⟨n',rfl⟩:∃ n',n=n'+1:=⟨n - 1,Fn⟩;unfold eqIsQuiet;show Æ (Ĺ hT F.slot_tuple_eq.lookup ?_);change wpAny _ _ (isInstance (.ref a) (.type "tuple") >>= _) _ _ s;show Æ (agy hT isSubtype_tuple_tuple ?_);simp only[Bool.not_true,ĵ,if_false];show Æ (ā ho hd (Æ ?_));change wpAny _ _ (forIn items _ _) _ _ s;rw[<- Ņ];show wpAny_forIn_list _ (λ ja r s'=>r.1=W/\s'=s/\∃ left,eU s.heap left ja/\∀ d∈left,d∈ds) _ ?_ ?_ _ _ ⟨O,O,ds,hi,λ _ z=>z⟩
  ·rintro v ja r s' xK;let⟨hr,rfl,left,hl,yy⟩:=xK;cases left with
   |nil=>rw[eU]at hl;cases hl
   |cons k ks=>
    rw[eU]at hl;let⟨v',r',e,h1,l1⟩:=hl;cases e;have hk:=yy k G0;show Æ (all k hk n' _ _ _ _ _ (by have:=rB ds k hk;lia) h1 ?_);simp only[Bool.not_true,ĵ,if_false];show Ë ⟨O,O,ks,l1,λ d hd=>yy d (ø _ hd)⟩
  ·rintro⟨r1,r2⟩ s' ⟨hr,rfl,_⟩;simp only at hr;subst hr;show Ë h
 |.non=>λ _ _ _ _ _ _ _ hx _=>by rw[gF]at hx;show hx.elim
 |.str _=>λ _ _ _ _ _ _ _ hx _=>by rw[gF]at hx;show hx.elim
theorem BL:∀(ds:List D),∀ d∈ds,HE prog w d
 |[],_,h=>(nomatch h)
 |e::es,d,h=>by
  have h0:=G6 e;have h1:=BL es;rcases Ò.1 h with z|z
  ·rw[z];show h0
  ·show h1 d z
end
def eW (prog:Ã) (w:World) (S:D):HeapKind prog w D where
 is:=λ h d a=>sh d=S/\d.depth<=7/\gF h d (.ref a)
 hash:=vS
 draws:=o5
 room:=λ A=>A.units+8 < cLine
 inj:=λ hx hy=>gF.inj (hx.1.trans hy.1.symm) hx.2.2 hy.2.2
 keeps:=λ {h h' k a d o es ep} x ho hd hs=>⟨x.1,x.2.1,gF.keeps (λ a' o' items n h1 h3=>by
  by_cases e:a'=d
  ·subst e;rw[ho]at h1;cases h1;rw[hd]at h3;cases h3
  ·show(hs.2 a' e).trans h1) x.2.2⟩
 pyHash:=λ {A E s k a Q} hu hk h=>N6 k A E s _ Q (by have:=hk.2.1;lia) hk.2.2 h
 eqBool:=λ {A E s x y a b Q} hu hx hy h=>VB x y (hx.1.trans hy.1.symm) A s _ _ (by have:=hx.2.1;lia) hx.2.2 hy.2.2 prog w E Q h
 quiet:=λ {A E s k a Q} hk h=>G6 k 8 A E s _ Q (by have:=hk.2.1;lia) hk.2.2 h
end
mutual
def dO:D->Prop
 |.int _=>True
 |.bl _=>True
 |.tup ds=>cS ds
 |.non=>False
 |.str _=>False
def cS:List D->Prop
 |[]=>True
 |d::ds=>dO d/\cS ds
end
section
variable {X:Cx}{gj:List (Á×Obj)}{σ:St}{H:Hp}{s:Â}
mutual
theorem Is.toU (I:Inv X gj σ H s):∀(d:D) (v:V) (u:À),dO d->Is X.K H d v->aX v u->gF s.heap d u
 |.int i,v,u,_,h,r=>by rw[Is]at h;subst h;rw[gF];show r
 |.bl b,v,u,_,h,r=>by rw[Is]at h;subst h;rw[gF];show r
 |.tup ds,v,u,p,h,r=>by
  rw[Is]at h;let⟨a,xs,rfl,q,l⟩:=h;cases r;let⟨its,rv,⟨o,e,c,n,d⟩,_⟩:=I.tuple q;rw[gF];show⟨a,o,its.toArray,n,O,e,c,d,by simpa using IsL.toU I ds xs its (by rw[dO]at p;show p) l rv⟩
 |.non,_,_,p,_,_=>by rw[dO]at p;show p.elim
 |.str _,_,_,p,_,_=>by rw[dO]at p;show p.elim
theorem IsL.toU (I:Inv X gj σ H s):∀(ds:List D) (vs:List V) (us:List À),cS ds->IsL X.K H ds vs->bI vs us->eU s.heap ds us
 |[],vs,us,_,h,r=>by rw[IsL]at h;subst h;cases r;rw[eU]
 |d::ds,vs,us,p,h,r=>by
  rw[IsL]at h;let⟨x,xs,rfl,h1,h2⟩:=h;rw[cS]at p;cases r with
  |cons r1 r2=>
   rw[eU];show⟨_,_,O,Is.toU I d x _ p.1 h1 r1,IsL.toU I ds xs _ p.2 h2 r2⟩
end
end
structure KeyD (K:Ç) (H:Hp) (S:D) (k:D) (v:V):Prop where
 sh:sh k=S
 dp:k.depth<=7
 pl:dO k
 is:Is K H k v
 tup:∃ b,v=.ref b
theorem KeyD.mono  (h:KeyD K H S k v) (t:bD K H H'):KeyD K H' S k v:=⟨h.sh,h.dp,h.pl,Ì t _ _ h.is,h.tup⟩
def nO (P:Ã) (w:World) (S:D) (a:Á) (xs:List (D×Á×À)) (h:Heap):Prop:=
 ∃ o es ep,h.get? a=Y o/\o.ExactDict/\o.data=.dict es ep/\es.toList=xs.map (entryOfKey (eW P w S))/\(xs.map (·.1)).Nodup
abbrev KD (K:Ç) (H:Hp) (S:D):List (D×V)->List (D×Á×À)->Prop:=Paired λ p q=>p.1=q.1/\KeyD K H S p.1 (.ref q.2.1)/\aX p.2 q.2.2
def cC (P:Ã) (w:World) (K:Ç) (H:Hp) (a:Á) (S:D) (gn:List (D×V)):Prop:=
 (H a=Y (.dK [])/\gn=[])\/∃ xs,H a=Y (.ext (nO P w S a xs))/\(a==sysModules)=Eh/\gn.length<=sizeLine/\KD K H S gn xs
section
variable {H H':Hp}{a:Á}{S:D}{gn:List (D×V)}
theorem KD.mono  (h:KD K H S gn xs) (t:bD K H H'):KD K H' S gn xs:=ë h λ p q z=>⟨z.1,z.2.1.mono t,z.2.2⟩
theorem cC.mono (h:cC P w K H a S gn) (t:bD K H H') (e:∀ o,H a=Y o->H' a=Y o):cC P w K H' a S gn:=by
 rcases h with⟨h,z⟩|⟨xs,h,y,z,p⟩
 ·show .inl ⟨e _ h,z⟩
 ·show .inr ⟨xs,e _ h,y,z,KD.mono p t⟩
theorem cC.same (h:cC P w K H a S gn) (m:aE H H'):cC P w K H' a S gn:=h.mono m.ts λ o e=>m _ _ e
theorem cC.some (h:cC P w K H a S gn):∃ o,H a=Y o:=by
 rcases h with⟨h,_⟩|⟨_,h,_⟩ <;> show⟨_,h⟩
theorem cC.mut (h:cC P w K H a S gn):iI (H a):=by
 rcases h with⟨h,_⟩|⟨_,h,_⟩ <;> (rw[h];show trivial)
theorem cC.new (h:H a=Option.some (.dK [])):cC P w K H a S []:=.inl ⟨h,rfl⟩
theorem KD.val {xs:List (D×Á×À)} (k:D):∀ {gn:List (D×V)},KD K H S gn xs->lE (eB gn k) ((atKey xs k).map (·.2))
 |[],h=>by cases h;show trivial
 |p::r,h=>by
  cases h with
  |cons h1 h2=>
   rename_i q m
   by_cases e:p.1=k
   ·rw[eE e];have:atKey (q::m) k=Option.some q.2:=by unfold atKey;rw[afb (by rw[<- h1.1];show ð e)];rfl
    rw[this];show h1.2.2
   ·rw[dR e];have:atKey (q::m) k=atKey m k:=by unfold atKey;rw[afc (by rw[<- h1.1];simpa using e)]
    rw[this];show KD.val k h2
theorem KD.put  (h:KD K H S gn xs) (hk:KeyD K H S k (.ref b)) (r:aX v u):KD K H S (gR gn k v) (storedH xs k b u):=by
 unfold gR storedH;have e:(gn.any λ kv=>decide (kv.1=k))=(atKey xs k).isSome:=by
  rw[jH,(KD.val k h).isSome_eq,Ŕ]
 rw[e]
 by_cases c:(atKey xs k).isSome=Eg
 ·rw[Å c,Å c];clear e c
  induction h with
  |nil=>show .nil
  |cons h1 h2 ih=>
   rename_i p q l m
   show .cons ?_ ih;unfold putAt;dsimp only
   by_cases z:p.1=k
   ·rw[Å z,Å (by rw[<- h1.1];show z)];show⟨h1.1,h1.2.1,r⟩
   ·rw[Ä z,Ä (by rw[<- h1.1];show z)];show h1
 ·rw[Ä c,Ä c];clear e c
  induction h with
  |nil=>show .cons ⟨O,hk,r⟩ .nil
  |cons h1 h2 ih=>show .cons h1 ih
end
section
variable {X:Cx}{gj:List (Á×Obj)}{σ:St}{H:Hp}{s:Â}{a:Á}{S:D}{gn:List (D×V)}
theorem KD.keys (I:Inv X gj σ H s):∀ {gn:List (D×V)}{xs:List (D×Á×À)},KD X.K H S gn xs->∀ x∈xs,(eW X.prog X.w S).is s.heap x.1 x.2.1
 |_,_,.nil,x,hx=>by simp at hx
 |_,_,.cons h1 h2,x,hx=>by
  rcases Ò.mp hx with e|hx
  ·subst e;have k:=h1.2.1;rw[h1.1]at k;show⟨k.sh,k.dp,Is.toU I _ _ _ k.pl k.is O⟩
  ·show KD.keys I h2 x hx
theorem cC.at (I:Inv X gj σ H s) (g:cC X.prog X.w X.K H a S gn):(a==sysModules)=Eh/\gn.length<=sizeLine/\∃ xs,KD X.K H S gn xs/\s.heap.DictOfH (eW X.prog X.w S) a xs:=by
 rcases g with⟨e,rfl⟩|⟨xs,e,y,z,p⟩
 ·let⟨z,hd,vs,rel,o,es,ep,h1,h2,h3,_,h4,_⟩:=RD I.hok e;cases rel;have e0:es.toList=[]:=by
   revert h4;generalize es.toList=l;intro h4;cases h4;rfl
  show⟨hd,à _,[],.nil,o,es,ep,h1,h2,h3,by rw[e0];rfl,λ x hx=>(nomatch hx),ag4⟩
 ·let⟨⟨o,es,ep,h1,h2,h3,h4,h5⟩,_⟩:=(show bY X.prog X.w H s.heap a (.ext (nO X.prog X.w S a xs))from I.hok a _ e);show⟨y,z,xs,p,o,es,ep,h1,h2,h3,h4,KD.keys I p,h5⟩
theorem KeyD.at (I:Inv X gj σ H s) (h:KeyD X.K H S k (.ref b)):(eW X.prog X.w S).is s.heap k b:=⟨h.sh,h.dp,Is.toU I _ _ _ h.pl h.is rfl⟩
def UW (P:Ã) (w:World) (K:Ç):R2:=λ x y H Q=>∃ a S gn k v,x=.ref a/\cC P w K H a S gn/\KeyD K H S k y/\eB gn k=Y v/\Q v H
theorem ix_D (hu:X.A.units+64 < cLine):KA X (UW X.prog X.w X.K):=by
 intro value slice gj s σ H x y v u Q I rx ry h hs;let⟨a,S,gn,k,z,rfl,g,hk,hv,q⟩:=h;let⟨b,rfl⟩:=hk.tup;cases rx;cases ry;let⟨hd,hz,xs,p,dd⟩:=g.at I;let⟨w',hw,vo⟩:=lE.some_of (v:=z) (o:=(atKey xs k).map (·.2)) (by rw[<- hv];show KD.val k p);let⟨pp,hp,pw⟩:=é.mp hw;show afa (x:=w') dd.typeIs PySem.F.slot_dict_getitem.lookup
  (wpAny_getItem_heap (knd:=eW X.prog X.w S) (Q:=λ r s'=>r=w'/\EP X gj σ Q r s') (show X.A.in1.units+8 < cLine by change X.A.units+1+8 < cLine;lia) (hk.at I) dd hp ⟨pw,?_⟩) hs
 rw[pw];show⟨z,H,I.tok _,vo,q⟩
def L9 (P:Ã) (w:World) (K:Ç) (td ty tv:TE):TS:=λ D σ H=>tv σ H λ v H1=>td σ H1 λ x H2=>ty σ H2 λ y H3=>∃ a S gn k,x=.ref a/\cC P w K H3 a S gn/\KeyD K H3 S k y/\gn.length < sizeLine/\
 ∀ H4,bS a H3 H4->cC P w K H4 a S (gR gn k v)->D.nx σ H4
theorem LJ  (hu:X.A.units+64 < cLine) (ho:PE X o td) (hi:PE X i ty) (hv:PE X value tv) (hs:swapsWith value (Y (.Subscript o i pos')) pos.line X.env=pure Eh) :
  PS X (.Assign [.Subscript o i pos'] value pos) (L9 X.prog X.w X.K td ty tv):=by
 intro gj s σ H D I h;show wpAny_Assign_Subscript (cK (hv gj s σ H _ I h) λ r s1 ⟨v,H1,I1,rv,q1⟩=>cK (ho gj s1 σ H1 _ I1 q1) λ u s2 ⟨x,H2,I2,rx,q2⟩=>cK (hi gj s2 σ H2 _ I2 q2) λ iv s3 ⟨y,H3,I3,ry,a,S,gn,k,ex,g,hk,hl,q3⟩=>?_) hs;subst ex;obtain rfl:u=Value.ref a:=rx;let⟨b,rfl⟩:=hk.tup;cases ry;let⟨hd,hz,xs,p,dd⟩:=g.at I3;have uh:xs.length<=sizeLine:=by rw[<- î p];show hz
 have Hd:(gR gn k v).length<=sizeLine:=by have:=gA gn k v;lia
 show wpAny_setItem_heap (knd:=eW X.prog X.w S) (hsz:=uh) (show X.A.in1.units+8 < cLine by change X.A.units+1+8 < cLine;lia) (hk.at I3) dd λ h' xx qr=>?_;let⟨qo,es,ep,hq,h2,h3,h4,_,h5⟩:=xx;have mu:=g.mut;have bt:bS a H3 (upd H3 a (.ext (nO X.prog X.w S a (storedH xs k b r)))):=Ú;have ts:=bt.ts (K:=X.K) mu;show⟨σ,_,n5 I3 mu qr ⟨qo,hq⟩ (ob:=.ext (nO X.prog X.w S a (storedH xs k b r))) ⟨⟨qo,es,ep,hq,h2,h3,h4,h5⟩,⟨qo,hq⟩,λ h1 Br ⟨o',yn,yo,z1,z⟩ kk=>⟨o',yn,yo,kk _ z1,z⟩⟩,q3 _ bt (.inr ⟨_,a8,hd,Hd,KD.mono (KD.put p hk rv) ts⟩)⟩
theorem MW {P:Ã} (hP:X.prog=P) (hw:X.w=w) (hK:X.K=K) (hu:X.A.units+64 < cLine):KA X (UW P w K):=by subst hP hw hK;show ix_D hu
theorem IG {P:Ã}{td ty tv:TE} (hP:X.prog=P) (hw:X.w=w) (hK:X.K=K) (hu:X.A.units+64 < cLine) (ho:PE X o td) (hi:PE X i ty) (hv:PE X value tv)
  (hs:swapsWith value (Y (.Subscript o i pos')) pos.line X.env=pure Eh):PS X (.Assign [.Subscript o i pos'] value pos) (L9 P w K td ty tv):=by subst hP hw hK;show LJ hu ho hi hv hs
end
end L2
namespace Tw
open PySem L2
structure Sta where
 held:List Int
 coming:List Int
 doors:List Bool
def oM (net:Net):Sta:=⟨eD net.vs.length,eD net.vs.length,net.sps.map (·.2.2)⟩
def Sta.tk (net:Net) (s:Sta):Tick:=tV net s.held s.coming (eD net.vs.length) s.doors
def Sta.next (net:Net) (s:Sta):Sta:=⟨(s.tk net).held,(s.tk net).coming,(s.tk net).doors⟩
def HZ (net:Net):Nat->Sta
 |0=>oM net
 |t+1=>(HZ net t).next net
def dA (s:Sta):L2.D:=DT s.held s.coming s.doors
theorem yP (n:Nat):(eD n).length=n:=by simp[eD]
def L7 (net:Net):L2.D:=.tup [.tup (List.replicate net.vs.length (.int 0)),.tup (List.replicate net.vs.length (.int 0)),.tup (List.replicate net.sps.length (.bl Eh))]
theorem oQ:∀ xs:List Int,lF (xs.map L2.D.int)=List.replicate xs.length (.int 0)
 |[]=>by rw[í,lF];rfl
 |x::xs=>by rw[Ù,lF,sh,oQ xs];rfl
theorem yX:∀ xs:List Bool,lF (xs.map L2.D.bl)=List.replicate xs.length (.bl Eh)
 |[]=>by rw[í,lF];rfl
 |x::xs=>by rw[Ù,lF,sh,yX xs];rfl
theorem j9:∀ xs:List Int,cS (xs.map L2.D.int)
 |[]=>by rw[í,cS];trivial
 |x::xs=>by rw[Ù,cS,dO];show⟨trivial,j9 xs⟩
theorem nU:∀ xs:List Bool,cS (xs.map L2.D.bl)
 |[]=>by rw[í,cS];trivial
 |x::xs=>by rw[Ù,cS,dO];show⟨trivial,nU xs⟩
theorem DY  (ok:StOk net s.held s.coming s.doors):sh (dA s)=L7 net:=by
 change sh (.tup [.tup (s.held.map L2.D.int),.tup (s.coming.map L2.D.int),.tup (s.doors.map L2.D.bl)])=_;rw[sh,lF,lF,lF,lF,sh,sh,sh,oQ,oQ,yX,ok.h,ok.c,ok.d];rfl
theorem qN (s:Sta):dO (dA s):=by
 change dO (.tup [.tup (s.held.map L2.D.int),.tup (s.coming.map L2.D.int),.tup (s.doors.map L2.D.bl)]);rw[dO,cS,cS,cS,cS,dO,dO,dO];show⟨j9 _,j9 _,nU _,trivial⟩
theorem JK (s:Sta):(dA s).depth<=7:=by
 change(L2.D.tup [.tup (s.held.map L2.D.int),.tup (s.coming.map L2.D.int),.tup (s.doors.map L2.D.bl)]).depth<=7;rw[L2.D.depth,vY];decide
theorem zY  (ok:StOk net s.held s.coming s.doors) (h:Is K H (dA s) v):KeyD K H (L7 net) (dA s) v:=by
 show⟨DY ok,JK s,qN s,h,?_⟩;let⟨a,xs,rfl,_⟩:=(show Is K H (.tup [.tup (s.held.map L2.D.int),.tup (s.coming.map L2.D.int),.tup (s.doors.map L2.D.bl)]) v from h).un;show⟨a,O⟩
theorem AY (x y:Sta) (h:dA x=dA y):x=y:=by
 let⟨a,b,c⟩:=x;let⟨a',b',c'⟩:=y;have h':L2.D.tup [.tup (a.map L2.D.int),.tup (b.map L2.D.int),.tup (c.map L2.D.bl)]=.tup [.tup (a'.map L2.D.int),.tup (b'.map L2.D.int),.tup (c'.map L2.D.bl)]:=h;injection h' with h';injection h' with h1 h';injection h' with h2 h';injection h' with h3 _;injection h1 with h1;injection h2 with h2;injection h3 with h3;have i1:∀ {p q:List Int},p.map L2.D.int=q.map L2.D.int->p=q:=λ {p q} h=>(ņ (λ x y h=>by injection h)).1 h;have i2:∀ {p q:List Bool},p.map L2.D.bl=q.map L2.D.bl->p=q:=λ {p q} h=>(ņ (λ x y h=>by injection h)).1 h;rw[i1 h1,i1 h2,i2 h3]
abbrev Fs (ae:Type):=List (ae×List Int)
inductive BRes (ae:Type) where
 |ends (row:List Int) (fs:Fs ae)
 |many
 |on (fs:Fs ae)
section
variable {ae:Type}(dD:ae->L2.D)(ir:ae->Int->ae)(fin:ae->Int->Bool)(gm ik:Nat)
def fB (fs:Fs ae) (k:L2.D):Option (List Int):=(fs.find? λ p=>decide (dD p.1=k)).map (·.2)
def wH (d:ae) (r:List Int):Nat->Int->Fs ae->BRes ae
 |0,_,fs=>.on fs
 |l+1,a,fs=>if fin d a=Eg then .ends (r++[a]) fs else if (fB dD fs (dD (ir d a))).isSome=Eg then wH d r l (a+1) fs else if ik<=fs.length then .many else wH d r l (a+1) (fs++[(ir d a,r++[a])])
def mI:Nat->Nat->Fs ae->BRes ae
 |0,_,fs=>.on fs
 |n+1,p,fs=>match fs[p]? with
  |none=>.on fs
  |some d=>match wH dD ir fin ik d.1 ((fB dD fs (dD d.1)).getD []) (gm+1) 0 fs with
   |.on jz=>mI n (p+1) jz
   |r=>r
def O1 (first:ae):BRes ae:=mI dD ir fin gm ik (ik+1) 0 [(first,[])]
def RE (p:Nat):BRes ae->BRes ae
 |.on fs=>mI dD ir fin gm ik (ik - p) (p+1) fs
 |r=>r
variable {dD ir fin gm ik}
theorem HM  (q:ae×List Int) (h:fB dD fs k=Y r):fB dD (fs++[q]) k=Y r:=by
 unfold fB at h ⊢;rw[List.find?_append];cases e:fs.find? λ p=>decide (dD p.1=k)with
 |none=>rw[e]at h;cases h
 |some x=>rw[e]at h;show h
theorem lH  (h:(d,r)∈fs):(fB dD fs (dD d)).isSome=true:=by
 unfold fB;rw[Ŕ,List.find?_isSome];show⟨_,h,G0⟩
theorem qE  (h:(fB dD fs k).isSome=Eg):∃ q∈fs,dD q.1=k:=by
 unfold fB at h;rw[Ŕ,List.find?_isSome]at h;let⟨q,hq,e⟩:=h;show⟨q,hq,by simpa using e⟩
theorem AD  (h:fin d a=Eg):wH dD ir fin ik d r (l+1) a fs=.ends (r++[a]) fs:=Å h
theorem tH  (h:fin d a=Eh) (h2:(fB dD fs (dD (ir d a))).isSome=Eg):wH dD ir fin ik d r (l+1) a fs=wH dD ir fin ik d r l (a+1) fs:=by
 rw[wH,Ä (by rw[h];decide),Å h2]
theorem pZ  (h:fin d a=Eh) (h2:(fB dD fs (dD (ir d a))).isSome=Eh) (h3:ik<=fs.length):wH dD ir fin ik d r (l+1) a fs=.many:=by
 rw[wH,Ä (by rw[h];decide),Ä (by rw[h2];decide),Å h3]
theorem tI  (h:fin d a=Eh) (h2:(fB dD fs (dD (ir d a))).isSome=Eh) (h3:fs.length < ik):wH dD ir fin ik d r (l+1) a fs=wH dD ir fin ik d r l (a+1) (fs++[(ir d a,r++[a])]):=by
 rw[wH,Ä (by rw[h];decide),Ä (by rw[h2];decide),Ä Fn]
theorem JY  (h:fs.length<=p):mI dD ir fin gm ik n p fs=.on fs:=by
 cases n with
 |zero=>rfl
 |succ n=>rw[mI,acz h]
theorem JZ  (h:fs[p]?=Y (d,r0)) (hr:fB dD fs (dD d)=Y r) (hn:n=ik - p):mI dD ir fin gm ik (n+1) p fs=RE dD ir fin gm ik p (wH dD ir fin ik d r (gm+1) 0 fs):=by
 subst hn;rw[mI,h];dsimp only;rw[hr];change(match wH dD ir fin ik d r (gm+1) 0 fs with|.on jz=>_|r=>r)=_;cases wH dD ir fin ik d r (gm+1) 0 fs <;> rfl
def Shut (first:ae) (fs:Fs ae):Prop:=(∃ q∈fs,dD q.1=dD first)/\∀ q∈fs,∀ a:Nat,a<=gm->fin q.1 a=Eh/\(fB dD fs (dD (ir q.1 a))).isSome=Eg
theorem TU :∀(l:Nat) (a:Nat) (fs jz:Fs ae),wH dD ir fin ik d r l a fs=.on jz->(∃ jr,jz=fs++jr)/\(fs.length<=ik->jz.length<=ik)/\∀ b:Nat,a<=b->b < a+l->fin d b=Eh/\(fB dD jz (dD (ir d b))).isSome=true:=by
 intro l
 induction l with
 |zero=>
  intro a fs jz h;cases h;show⟨⟨[],G0⟩,id,λ b h1 h2=>by lia⟩
 |succ l ih=>
  intro a fs jz h;cases hf:fin d a with
  |true=>rw[AD hf]at h;cases h
  |false=>
   have grow:∀ {fs1:Fs ae}{k:L2.D},(fB dD fs1 k).isSome=Eg->(∃ jr,jz=fs1++jr)->(fB dD jz k).isSome=true:=λ {fs1 k} h1 ⟨jr,e⟩=>by
    subst e;let⟨q,hq,e⟩:=qE h1;have:=lH (dD:=dD) (d:=q.1) (r:=q.2) (fs:=fs1++jr) (ľ _ hq);rw[e]at this;show this
   cases hv:(fB dD fs (dD (ir d a))).isSome with
   |true=>
    rw[tH hf hv]at h;let⟨m,hl,hb⟩:=ih (a+1) fs jz h;show⟨m,hl,λ b h1 h2=>?_⟩;rcases (show b=a\/a+1<=b by lia)with rfl|h3
    ·show⟨hf,grow hv m⟩
    ·show hb b h3 Fn
   |false=>
    by_cases hl:ik<=fs.length
    ·rw[pZ hf hv hl]at h;cases h
    ·rw[tI hf hv Fn] at h;let⟨⟨jr,m⟩,X0,hb⟩:=ih (a+1) _ jz h;show⟨⟨_,by rw[m,ě]⟩,λ _=>X0 (by simp;lia),λ b h1 h2=>?_⟩;rcases (show b=a\/a+1<=b by lia) with rfl | h3
     ·show⟨hf,grow (fs1:=fs++[(ir d b,r++[(b:Int)])]) (lH (r:=r++[(b:Int)]) G0) ⟨jr,m⟩⟩
     ·show hb b h3 Fn
theorem QA:∀(n p:Nat) (fs jz:Fs ae),ik < p+n->p<=fs.length->fs.length<=ik->(∀(i:Nat) q,i < p->fs[i]?=Y q->∀ a:Nat,a<=gm->fin q.1 a=Eh/\(fB dD fs (dD (ir q.1 a))).isSome=Eg)->
  mI dD ir fin gm ik n p fs=.on jz->(∃ jr,jz=fs++jr)/\∀ q∈jz,∀ a:Nat,a<=gm->fin q.1 a=Eh/\(fB dD jz (dD (ir q.1 a))).isSome=true:=by
 intro n
 induction n with
 |zero=>intro p fs jz h1 h2 h3 _ _;lia
 |succ n ih=>
  intro p fs jz h1 h2 h3 hi h;rw[mI]at h;cases hd:fs[p]? with
  |none=>
   rw[hd]at h;cases h;have hp:=List.getElem?_eq_none_iff.mp hd;show⟨⟨[],G0⟩,λ q hq=>?_⟩;let⟨i,wq⟩:=į.1 hq;have:=(Ö.mp wq).1;show hi i q Fn wq
  |some d=>
   rw[hd]at h;dsimp only at h;cases hb:wH dD ir fin ik d.1 ((fB dD fs (dD d.1)).getD []) (gm+1) 0 fs with
   |many=>rw[hb]at h;cases h
   |ends row f=>rw[hb]at h;cases h
   |on fs1=>
    rw[hb]at h;let⟨⟨jr,m⟩,hl,hq⟩:=TU (gm+1) 0 fs fs1 hb;have kz:=(Ö.mp hd).1;have grow:∀ {k:L2.D},(fB dD fs k).isSome=Eg->(fB dD fs1 k).isSome=true:=λ {k} h1=>by
     subst m;let⟨q,hq,e⟩:=qE h1;have:=lH (dD:=dD) (d:=q.1) (r:=q.2) (fs:=fs++jr) (ľ _ hq);rw[e]at this;show this
    have key:∀(i:Nat) q,i < p+1->fs1[i]?=Y q->∀ a:Nat,a<=gm->fin q.1 a=Eh/\(fB dD fs1 (dD (ir q.1 a))).isSome=true:=λ i q h4 h5 a ha=>by
     rcases (show i < p\/i=p by lia)with h6|rfl
     ·rw[m,Į Fn]at h5;let⟨h7,h8⟩:=hi i q h6 h5 a ha;show⟨h7,grow h8⟩
     ·rw[m,Į kz,hd]at h5;cases h5;show hq a (à _) Fn
    let⟨⟨He,m2⟩,hc⟩:=ih (p+1) fs1 jz Fn (by rw[m,Þ];lia) (hl h3) key h;show⟨⟨jr++He,by rw[m2,m,ě]⟩,hc⟩
theorem DC  (h1:1<=ik) (h:O1 dD ir fin gm ik first=.on fs):Shut (dD:=dD) (ir:=ir) (fin:=fin) (gm:=gm) first fs:=by
 let⟨⟨jr,m⟩,hc⟩:=QA (ik+1) 0 [(first,[])] fs Fn G0 (by simpa using h1) (λ i q h=>absurd h (ag1 _)) h;show⟨⟨(first,[]),by rw[m];simp,O⟩,hc⟩
end
end Tw
namespace L2
open PySem PySem.Spec PyProof.Rows TwZ
section
variable {X:Cx}
def QT (P:Ã) (w:World) (K:Ç):R2:=λ x y H Q=>∃ a S gn k,y=.ref a/\cC P w K H a S gn/\KeyD K H S k x/\Q (.bl (!(eB gn k).isSome)) H
theorem PJ (hu:X.A.units+64 < cLine):jG X (compareOp .NotIn) (QT X.prog X.w X.K):=by
 intro gj s σ H x y v u Q I rx ry h;let⟨a,S,gn,k,rfl,g,hk,q⟩:=h;let⟨b,rfl⟩:=hk.tup;cases rx;cases ry;let⟨hd,hz,xs,p,dd⟩:=g.at I;show wpAny_notIn_heap (knd:=eW X.prog X.w S) (show X.A.in1.units+8 < cLine by change X.A.units+1+8 < cLine;lia) (hk.at I) hd dd ?_;have e:=(KD.val k p).isSome_eq;rw[Ŕ]at e;rw[<- e];show⟨.bl _,H,I.tok _,O,q⟩
theorem M0 {P:Ã} (hP:X.prog=P) (hw:X.w=w) (hK:X.K=K) (hu:X.A.units+64 < cLine):jG X (compareOp .NotIn) (QT P w K):=by subst hP hw hK;show PJ hu
def one1 (R:V->V->Hp->Prop):List (V×V)->Hp->Prop
 |[(x,v)],H=>R x v H
 |_,_=>False
def KP (P:Ã) (w:World) (K:Ç) (tk tv:TE):TE:=λ σ H Q=>∀ p,H p=W->tk σ (upd H p (.dK [])) λ x H1=>tv σ H1 λ v H2=>H2 p=Y (.dK [])/\∃ S k,KeyD K H2 S k x/\∀ H3,bS p H2 H3->cC P w K H3 p S [(k,v)]->Q (.ref p) H3
theorem LW  (hu:X.A.units+64 < cLine) (hk:PE X k tk) (hv:PE X v tv):PE X (.Dict [Y k] [v] pos) (KP X.prog X.w X.K tk tv):=by
 intro gj s σ H Q I q;have hn:=I.hok.fresh (Ñ s.heap.objs.size);have I1:=I.laid (a:=s.heap.objs.size) (o:=.dK []) (h':=s.heap.push { cls:=.type "dict",data:=.dict #[] }) (t':=s.toks) (λ _ _ q=>Ï _ q) (Ñ _) (vX s.heap I.big);have hp:PPs X pos [Y k] [v] [(tk,tv)]:=LK hk hv P2;show wpAny_Dict_any O O G0 (show 1<=15 by decide) (cK (hp gj _ σ _ (one1 λ x v H2=>H2 s.heap.objs.size=Y (.dK [])/\∃ S k,KeyD X.K H2 S k x/\∀ H3,bS s.heap.objs.size H2 H3->cC X.prog X.w X.K H3 s.heap.objs.size S [(k,v)]->Q (.ref s.heap.objs.size) H3) I1 (q _ hn)) λ ws s2 ⟨ps,H2,I2,rel,h⟩=>?_);obtain _|⟨⟨x,y⟩,_|⟨_,_⟩⟩:=ps
 ·show h.elim
 ·let⟨e0,S,k',yu,q2⟩:=h;cases rel with
  | @cons _ wv _ _ r0 r1=>
   cases r1;let⟨u,r⟩:=wv;let⟨b,rfl⟩:=yu.tup;have ru:aX (.ref b) u:=r0.1;have rr:aX y r:=r0.2;cases ru;have g:cC X.prog X.w X.K H2 s.heap.objs.size S []:=cC.new e0;let⟨hd,hz,xs,p,dd⟩:=g.at I2;cases p;show Æ (Æ (wpAny_dictSet_heap (knd:=eW X.prog X.w S) (hsz:=à _) (show X.A.units+8 < cLine by lia) (yu.at I2) dd λ h' xx qr=>Ë ?_));let⟨qo,es,ep,hq,h2,h3,h4,_,h5⟩:=xx;have mu:=g.mut;have bt:bS s.heap.objs.size H2 (upd H2 s.heap.objs.size (.ext (nO X.prog X.w S s.heap.objs.size (storedH [] k' b r)))):=Ú;have ts:=bt.ts (K:=X.K) mu;show Ë (show EP X gj σ Q _ _ from⟨.ref s.heap.objs.size,_,n5 I2 mu qr ⟨qo,hq⟩ (ob:=.ext (nO X.prog X.w S s.heap.objs.size (storedH [] k' b r))) ⟨⟨qo,es,ep,hq,h2,h3,h4,h5⟩,⟨qo,hq⟩,λ h1 Br ⟨o',yn,yo,z1,z⟩ kk=>⟨o',yn,yo,kk _ z1,z⟩⟩,O,q2 _ bt (.inr ⟨_,a8,hd,(by rw[ĕ];change 1<=_;decide),KD.mono (KD.put (gn:=[]) .nil yu rr) ts⟩)⟩)
 ·show h.elim
theorem II {P:Ã}{tk tv:TE} (hP:X.prog=P) (hw:X.w=w) (hK:X.K=K) (hu:X.A.units+64 < cLine) (hk:PE X k tk) (hv:PE X v tv):PE X (.Dict [Y k] [v] pos) (KP P w K tk tv):=by subst hP hw hK;show LW hu hk hv
def U8 (i j k:Nat) (ta:TA):TS:=λ D σ H=>ta σ H λ vs H1=>∃ v w z,vs=[v,w,z]/\D.nx (((σ.set i (Y v)).set j (Y w)).set k (Y z)) H1
theorem OZ {pos px py pz pt:Pos}{kt k2 pt2} (hc:X.calm=Eg) (hN:X.N.Nodup) (hi:X.N[i]?=Y x) (hj:X.N[j]?=Y y) (hk:X.N[k]?=Y z) (Ml:i≠j) (X1:i≠k) (X2:j≠k)
  (hx:X.env.scope.names.lookup x=Y .local) (hy:X.env.scope.names.lookup y=Y .local) (hz:X.env.scope.names.lookup z=Y .local) (ha:PA X [a,b,c] ta)
  (hw:swappedStores [.Tuple [.Name x px,.Name y py,.Name z pz] kt pt] (.Tuple [a,b,c] k2 pt2) X.env=pure (Y [x,y,z]))
  (hs:autoParam (swapsWithSole [.Tuple [.Name x px,.Name y py,.Name z pz] kt pt] (.Tuple [a,b,c] k2 pt2) pos.line X.env=pure false) _0) :
  PS X (.Assign [.Tuple [.Name x px,.Name y py,.Name z pz] kt pt] (.Tuple [a,b,c] k2 pt2) pos) (U8 i j k ta):=by
 intro gj s σ H D I h;rw[exec_Assign_arm];show Æ (Ļ ?_);rw[hs];show Æ (Ë ?_);rw[Ä FZ];show Æ (Tuple_ (cK (ha _ gj s σ H _ I h) λ us s1 ⟨vs,H1,I1,r1,q1⟩=>?_));let⟨v,w,w2,e1,q1⟩:=q1;subst e1;obtain⟨u1,u2,u3,rfl,rv,vo,rz⟩:∃ u1 u2 u3,us=[u1,u2,u3]/\aX v u1/\aX w u2/\aX w2 u3:=by
  cases r1 with
  |cons p q=>
   cases q with
   |cons p' q'=>
    cases q' with
    |cons p2 q2=>
     cases q2;show⟨_,_,_,O,p,p',p2⟩
 show Ğ ?_ (by change 3<=sizeLine;decide);have I2:Inv X gj σ H1 { s1 with heap:=s1.heap.push { cls:=.type "tuple",data:=.seq [u1,u2,u3].toArray } }:=I1.kept (t':=s1.toks) λ b o e=>Ï _ e;rw[hw];show Æ (Ë ?_);change wpAny (model X.prog X.w) X.A (do rule "assign.swapped-stores";let items <- unpackItems (.ref s1.heap.objs.size) 3 W;assignInOrder [λ v=>bindName X.env z v,λ v=>bindName X.env y v,λ v=>bindName X.env x v] items.reverse;pure Flow.next) _ _ _;show Æ (Č (Æ (unpackItems_tuple (items:=#[u1,u2,u3]) (I.ok.hd hc) (IsTup.new s1.heap _) λ h' rq=>?_)));have I3:=I2.kept (h':=h') (t':=s1.toks) λ b o e=>rq b o (â (Ô e)) e;change wpAny _ _ (assignInOrder [λ v=>bindName X.env z v,λ v=>bindName X.env y v,λ v=>bindName X.env x v] [u3,u2,u1] >>= λ _=>pure Flow.next) _ _ _;show Æ (Ń (ř (fP I3 hN hk (.inl hz) rz (λ s2 I4=>?_) (.inr hz))));show Ń (ř (fP I4 hN hj (.inl hy) vo (λ s3 I5=>?_) (.inr hy)));show Ń (ř (fP I5 hN hi (.inl hx) rv (λ s4 I6=>assignInOrder_nil (Ë ?_)) (.inr hx)));have e6:((σ.set k (Y w2)).set j (Y w)).set i (Y v)=((σ.set i (Y v)).set j (Y w)).set k (Y w2):=by
  rw[agn _ _ (Ne.symm Ml),agn (Y w2) (Y v) (Ne.symm X1),agn (Y w2) (Y w) (Ne.symm X2)]
 rw[e6]at I6;show⟨_,H1,I6,q1⟩
theorem p7 {st:Stmt}{t:TS} (h:∀ pn:List (Á×Obj),PS (X.within pn λ _ _=>False) st t):PS X st t:=by
 intro gj s σ H D I h1;show ä (h (X.pn++gj) [] s σ H D I.within h1) (λ f ah hf=>?_) λ _ _ z=>z.elim;cases f with
 |next=>let⟨ac,H',J,q⟩:=hf;show⟨ac,H',J.unwithin,q⟩
 |brk=>let⟨ac,H',J,q⟩:=hf;show⟨ac,H',J.unwithin,q⟩
 |cont=>let⟨ac,H',J,q⟩:=hf;show⟨ac,H',J.unwithin,q⟩
 |ret u=>let⟨v,ac,H',J,r,q⟩:=hf;show⟨v,ac,H',J.unwithin,r,q⟩
end
abbrev RH:=Â->List Env->Sp
structure FnOkS (P:Ã) (w:World) (K:Ç) (mg:Str->Option À) (base:Heap) (CX:FM) (k:Nat) (f:Á) (fd:FuncData) (ps:List Str) (sp:RH):Prop where
 len:∀ s o vs H Q E,sp s o vs H Q E->vs.length=ps.length
 run:∀(A:Around) (outer:List Env) (s:Â) (H:Hp) (args:Args) (us:List À) (vs:List V) (Q:VK) (E:XK),Room k A->Env0 P w K mg base A outer s H->BindsTo s fd args (ps.zip us)->bI vs us->sp s outer vs H Q E->
  codeAny (model P w) A (.call (.ref f) args) (CR CX outer P w H s Q E) s
theorem TF {CX:FM}{P:Ã}{w:World}{K:Ç}{mg:Str->Option À}{base:Heap}{k:Nat}{f:Á}{name qual:Str}{params:Arguments}{body:List Stmt}{scope:Scope}{dV kV doc pm gz ct oc:À}{an od:Option Á}
  {ue:Array (Option À)}{N ps:List Str}{sp:RH} (lk:K.lookup f=Y ⟨oc,od,.func (PySem.W.fnOf name qual params body scope dV kV doc pm an gz ct),ue⟩) (qj:PySem.W.codeIn K gz qual=Eg) (S:FnScope N ps scope)
  (len:∀ s o vs H Q E,sp s o vs H Q E->vs.length=ps.length)
  (jl:∀(A:Around) (outer:List Env) (s:Â) (H:Hp) (vs:List V) (Q:VK) (E:XK),Room k (A.deeper (envOfC qual scope s.heap.objs.size f gz))->Env0 P w K mg base A outer s H->sp s outer vs H Q E->
   ∃ t,yO (jZ CX P w K mg base N qual scope f gz A outer s H E) body t/\t { nx:=λ _ H'=>Q .non H',rt:=Q } (start N vs) H) :
  FnOkS P w K mg base CX (k+1) f (PySem.W.fnOf name qual params body scope dV kV doc pm an gz ct) ps sp:=by
 show⟨len,λ A outer s H args us vs Q E hr e0 hb r kf=>?_⟩;have hl:=len _ _ _ _ _ _ kf;have KX:K.In s.heap:=e0.mod.kin.keeps λ b o e=>(e0.bs b o e).1;have ik:s.heap.NoLimit:=e0.mod.nolimit.keeps λ b o e=>(e0.bs b o e).1;have yr:∀ y∈ps.zip us,scope.names.lookup y.1=Y .local\/(scope.names.lookup y.1=Y .cell/\((cellsFrom (s.heap.objs.size+1) scope.names []).lookup y.1).isSome=Eg):=λ⟨n,v⟩ hy=>by
  rcases S.par n (Ŋ hy).1 with q|q
  ·show .inl q
  ·show .inr ⟨q,ae8 _ _ _ (.inl q)⟩
 show afm hr.depth (KX _ _ lk) O S.co S.gen O (PySem.W.codeRec_of KX qj) (hb _ _ _ _ ?_);show wpAny_newFunctionEnv_cells S.kind yr λ env he s1 x=>?_;subst he;show⟨ik.keeps x.toInCall.keep,codeAny_func ?_⟩;let⟨t,ht,hq⟩:=jl A outer s H vs Q E (hr.deeper _) e0 kf;have I:Inv (jZ CX P w K mg base N qual scope f gz A outer s H E) [] (start N vs) H s1:=xW S hr.hd e0 hl r x;show ä (ht [] s1 (start N vs) H _ I hq) (λ fl s' hs=>?_) λ e s' hs=>hs;have fin:∀ {ac:St}{H':Hp}{v:V}{u:À},Inv (jZ CX P w K mg base N qual scope f gz A outer s H E) [] ac H' s'->aX v u->Q v H'->CE outer P w H s Q u s':=
  λ {ac H' v u} J rv q=>⟨v,H',J.os,J.bare,J.base,J.hok,rv,q⟩
 cases fl with
 |ret u=>
  let⟨v,ac,H',J,rv,q⟩:=hs;show fin J rv q
 |next=>
  let⟨ac,H',J,q⟩:=hs;show fin (v:=V.non) (u:=Value.none) J O q
 |brk=>
  let⟨_,_,_,q⟩:=hs;show False.elim q
 |cont=>
  let⟨_,_,_,q⟩:=hs;show False.elim q
structure FnH (H:Hp) (f c:Á) (ob oc:Obj):Prop where
 fn:H f=Y (.frz ob (.own f))
 cd:H c=Y (.frz oc (.own c))
theorem FnH.same  (h:FnH H f c ob oc) (s:aE H H'):FnH H' f c ob oc:=⟨s _ _ h.fn,s _ _ h.cd⟩
structure CellsK (cl:List (Str×Á)) (s s':Â) (H':Hp) (outer:List Env):Prop where
 keep:∀ c∈cl.map (·.2),∀ o,s.heap.get? c=Y o->s'.heap.get? c=Y o
 free:∀ c∈cl.map (·.2),H' c=W
 out:∀ c∈cl.map (·.2),c∉kA outer
def HD (P:Ã) (w:World) (K:Ç) (mg:Str->Option À) (base:Heap) (k:Nat) (f c:Á) (ob oc:Obj) (cl:List (Str×Á)) (sp:Sp) (s:Â):Prop:=
 ∀(A:Around) (outer:List Env) (s':Â) (H':Hp) (us:List À) (vs:List V) (Q:VK),Room k A->Env0 P w K mg base A outer s' H'->FnH H' f c ob oc->CellsK cl s s' H' outer->bI vs us->sp vs H' Q E0->
  codeAny (model P w) A (.call (.ref f) ⟨us,[]⟩) (CR fX outer P w H' s' Q E0) s'
section
variable {X:Cx}{k:Nat}{f c:Á}{ob oc:Obj}{cl:List (Str×Á)}{sp:Sp}{x:Str}{p pos:Pos}{e:Expr}{es:List Expr}{t:TA}{i:Nat}
def RX (i:Nat) (f c:Á) (ob oc:Obj) (sp:Sp) (t:TA):TE:=λ σ H Q=>σ[i]?=Y (Y (.ref f))/\FnH H f c ob oc/\t σ H λ vs H1=>FnH H1 f c ob oc/\sp vs H1 Q E0
theorem LX (R:HD X.prog X.w X.K X.mg X.base k f c ob oc cl sp X.s₀) (qi:∃ cls od fd sl,ob=⟨cls,od,.func fd,sl⟩) (hr:Room k X.A)
  (hc:∀ c∈cl.map (·.2),X.H₀ c=W/\c∉X.fs/\c∉X.ex/\c < X.s₀.heap.objs.size/\∃ o,X.s₀.heap.get? c=Y o)
  (hN:X.N[i]?=Y x) (hv:VG X.env.scope x) (ha:PA X (e::es) t) (rc:X.stack=X.env::X.outer)
  (Ag:X.env.frame=Y X.env.locals)
  (hd:autoParam ((x==("__debug__":Str))=false) _2) (qj:autoParam ((x==("__classdict__":Str))=false) _2) (he:autoParam (starEach (e::es) X.env=(Eh,eval e X.env)::starEach es X.env) _0) (kz:autoParam ((backTo pos (starEach es X.env)).any (·.1)=false) _0) :
  PE X (.Call (.Name x p) (e::es) [] pos) (RX i f c ob oc sp t):=by
 intro gj s σ H Q I h;let⟨cb,hf,h⟩:=h;have fnAt:∀ {s':Â}{H':Hp},Inv X gj σ H' s'->FnH H' f c ob oc->PySem.W.FnAt f s'.heap:=λ I' X3=>by
  let⟨cls,od,fd,sl,rfl⟩:=qi;let⟨e1,_⟩:=(show bY X.prog X.w _ _ f (.frz _ (.own f))from I'.hok f _ X3.fn);show⟨cls,od,fd,sl,e1⟩
 show Ĩ ?_;show cK ((LP hN hv hd qj) gj s σ H (λ v H'=>v=V.ref f/\H'=H) I ⟨_,cb,O,O⟩) λ u s0 ⟨v,H0,I0,rv,q⟩=>?_;let⟨rfl,rfl⟩:=q;obtain rfl:u=Value.ref f:=rv;show PySem.W.callWith_F (fnAt I0 hf) (cK (ha pos gj s0 σ H0 _ I0 h) λ us s1 ⟨vs,H1,I1,r,Tv,q⟩=>⟨fnAt I1 Tv,?_⟩) he kz;show wpAny_call (ō (R X.A X.stack s1 H1 us vs Q hr I1.env0 Tv ⟨λ c' sr o ho=>?_,λ c' sr=>?_,λ c' sr z=>?_⟩ r q) λ r s' hq=>?_)
 ·let⟨h1,h2,h3,_⟩:=hc c' sr;show I1.base.keep c' o ho h1 h2 h3
 ·let⟨h1,h2,h3,_,o,ho⟩:=hc c' sr;show I1.base.free c' o ho h1 h3
 ·let⟨h1,h2,h3,h4,_⟩:=hc c' sr;rw[rc]at z;have z':c'∈kA (X.env::X.outer):=z;unfold kA at z';rw[agm Ag]at z';rcases Ò.1 z' with z'|z'
  ·have:=I1.ok.above;rw[<- z']at this;show absurd (ï h4 this) (ċ _)
  ·show h2 z'
 ·cases r with
  |error e=>show hq.elim
  |ok fl=>
   cases fl with
   |ret u=>show I1.after hq
   |next=>show False.elim hq
   |brk=>show False.elim hq
   |cont=>show False.elim hq
end
end L2
namespace L2
open PySem PySem.Spec PyProof.Rows TwZ
open PySem.W (envX kla_obj kla_fn)
def yH (P:Ã) (w:World) (K:Ç) (mg:Str->Option À) (base:Heap) (N:List Str) (qual:Str) (scope:Scope) (f:Á) (cd:À) (cl:List (Str×Á)) (A:Around) (outer:List Env) (s:Â) (H:Hp):Cx where
 prog:=P
 w:=w
 K:=K
 mg:=mg
 base:=base
 A:=A.deeper (envX qual scope s.heap.objs.size f cd cl)
 N:=N
 s₀:=s
 H₀:=H
 env:=envX qual scope s.heap.objs.size f cd cl
 outer:=outer
 stack:=envX qual scope s.heap.objs.size f cd cl::outer
 ex:=[]
 calm:=Eg
 fn:=λ _=>Eh
 pn:=[]
 xe:=λ _ _=>False
structure LamScope (N ps:List Str) (sc:Scope) (cl:List (Str×Á)):Prop where
 kind:sc.kind=.function
 co:sc.isCoroutine=Eh
 gen:sc.isGenerator=Eh
 nd:N.Nodup
 pre:N.take ps.length=ps
 par:∀ x∈ps,sc.names.lookup x=Y .local
 nocell:∀ y∈sc.names,y.2≠.cell
 frees:∀ y,sc.names.lookup y=Y .free->∃ c,cl.lookup y=Y c
 apart:cl.Pairwise λ x y=>x.2≠y.2
theorem m6:∀ {P:List Str}{us:List À}{i:Nat}{x:Str}{u:À},P.Nodup->P[i]?=Y x->us[i]?=Y u->((P.zip us).reverse).lookup x=Y u:=by
 intro P us i x u nd h1 h2;have hm:(x,u)∈(P.zip us).reverse:=by
  rw[List.mem_reverse];show į.2 ⟨i,by rw[Ħ];show⟨h1,h2⟩⟩
 have hu:∀ v,(x,v)∈(P.zip us).reverse->v=u:=λ v hv=>by
  rw[List.mem_reverse]at hv;let⟨j,hj⟩:=į.1 hv;rw[Ħ]at hj;have e1:=Ö.mp h1;have e2:=Ö.mp hj.1;have:j=i:=(agv (h₀:=e2.1) (h₁:=e1.1) nd).1 (by rw[e2.2,e1.2]);subst this;rw[h2]at hj;show(ç hj.2).symm
 generalize(P.zip us).reverse=l at hm hu;clear h1 h2 nd
 induction l with
 |nil=>show absurd hm G0
 |cons q l ih=>
  let⟨y,v⟩:=q;rw[Ī]
  by_cases c:x=y
  ·subst c;have:=hu v ă;subst this;simp
  ·have:(x==y)=false:=by simpa using c
   rw[this];show ih ?_ λ v hv=>hu v (ø _ hv);rcases Ò.1 hm with z|z
   ·injection z with z1 z2;show absurd z1 c
   ·show z
section
variable {k:Nat}{f c:Á}{name qual:Str}{params:Arguments}{body:Expr}{scope:Scope}{cl:List (Str×Á)}{pm mf:À}{oc:Obj}{sp:Sp}{s:Â}{N ps:List Str}{fv:List V}
theorem CK (S:LamScope N ps scope cl) (len:∀ vs H Q,sp vs H Q E0->vs.length=ps.length) (hl:N.length=ps.length+fv.length)
  (pq:∃ vs t,oc.data=.fields vs/\vs[1]?=Y (.str qual t)) (uv:∀ us:List À,us.length=ps.length->bindArgs (kla_fn name qual params body scope cl pm (.ref c) mf) ⟨us,[]⟩=pure (ps.zip us))
  (wc:∀ y c,cl.lookup y=Y c->∃ v,s.heap.IsCell c v) (Oe:∀(i:Nat) (y:Str) (v:V),N[ps.length+i]?=Y y->fv[i]?=Y v->scope.names.lookup y=Y .free/\∃ c u,cl.lookup y=Y c/\s.heap.IsCell c (Y u)/\aX v u)
  (jl:∀(A:Around) (outer:List Env) (s':Â) (H':Hp) (vs:List V) (Q:VK),Room k (A.deeper (envX qual scope s'.heap.objs.size f (.ref c) cl))->sp vs H' Q E0->
   ∃ te,PE (yH P w K mg base N qual scope f (.ref c) cl A outer s' H') body te/\te (vs.map Y++fv.map Y) H' Q) :
  HD P w K mg base (k+1) f c (kla_obj name qual params body scope cl pm c mf) oc cl sp s:=by
 intro A outer s' H' us vs Q hr e0 hf ck r kf;have gr:=len _ _ _ kf;have Of:us.length=ps.length:=by rw[<- r.length];show gr
 let⟨ef,_⟩:=(show bY P w H' s'.heap f (.frz _ (.own f)) from e0.hok f _ hf.fn);let⟨ec,_⟩:=(show bY P w H' s'.heap c (.frz _ (.own c)) from e0.hok c _ hf.cd);have ik:s'.heap.NoLimit:=e0.mod.nolimit.keeps λ b o e=>(e0.bs b o e).1;have cellK:∀ {y:Str}{a:Á}{v:Option À},cl.lookup y=Y a->s.heap.IsCell a v->s'.heap.IsCell a v:=λ {y a v} h1 h2=>by
  have hm:a∈cl.map (·.2):=å.2 ⟨(y,a),ó h1,rfl⟩;let⟨o,e1,e2⟩:=h2;show⟨o,ck.keep a hm o e1,e2⟩
 let⟨Og,t0,Oh,Oi⟩:=pq;show PySem.W.kla_callFunE hr.depth ef O S.co S.gen O ⟨c,oc,Og,t0,O,ec,Oh,Oi⟩ ?_;rw[uv us Of];have Ek:ps.Nodup:=by rw[<- S.pre];show S.nd.sublist (agi _ _)
 show Ë (Ŭ S.nocell (λ y hy=>S.par _ (Ŋ hy).1) (λ h₁ ua qr=>⟨ik.fresh _ qr,?_⟩) S.kind);change codeAny _ _ (.expr body (envX qual scope s'.heap.objs.size f (.ref c) cl)) _ _;have ce:∀ b o,s'.heap.get? b=Y o->h₁.get? b=Y o:=λ b o e=>qr.extBut b o (â (Ô e)) (Ï _ e);let⟨te,Oj,hq⟩:=jl A outer s' H' vs Q (hr.deeper _) kf;have I:Inv (yH P w K mg base N qual scope f (.ref c) cl A outer s' H') [] (vs.map Y++fv.map Y) H' { s' with heap:=h₁,toks:=s'.toks+(ps.zip us).length }:=by
  have yq:∀ b:Á,b∉(yH P w K mg base N qual scope f (.ref c) cl A outer s' H').ex:=λ b z=>absurd (show b∈([]:List Á) from z) G0;show⟨⟨e0.mod,S.kind,O,O,Ñ _,λ y z a h1 h2=>?_,λ y hy=>?_,λ y a h _=>absurd (show (Eh:Bool)=Eg from h) ã,λ _=>hr.hd,afr e0.frames,.inr ⟨O,O⟩,λ b z=>absurd z (yq b),e0.bs,e0.bsz,λ b _ _=>yq b,λ b z=>absurd z (yq b),e0.funs,e0.frf⟩,
   rfl,e0.bare,Un.kept ce,⟨_,ua,λ i y v h1 h2 h3=>?_⟩,λ y a h=>?_,e0.hok.fresh (Ñ _),λ y a h=>?_,λ p hp=>absurd (show p∈([]:List (Á×Obj))from hp) G0,e0.hok.kept ce,?_⟩
  ·show name_of_addr S.apart (ó h1) (ó h2)
  ·have hy:scope.names.lookup y=Y .cell\/scope.names.lookup y=Y .free:=hy;rcases hy with hy|hy
   ·show absurd O (S.nocell _ (ó hy))
   ·show S.frees y hy
  ·by_cases hi:i < vs.length
   ·rw[Į (by simpa using hi),Ø] at h2;let⟨a,ha,e⟩:=é.mp h2;cases e;let⟨u,hu,rv⟩:=r.get ha;have hp:ps[i]? = Y y:=by
     rw[<- S.pre,Ŧ Fn];show h1
    show⟨u,rv,.inl ⟨S.par y (Û hp),m6 Ek hp hu⟩⟩
   ·rw[Ŏ (by simpa using hi),Ê,Ø]at h2;let⟨a,ha,e⟩:=é.mp h2;cases e;let⟨hk,a,u,h4,h5,rv⟩:=Oe (i - vs.length) y v (by rw[show ps.length+(i - vs.length)=i by lia];show h1) ha;let⟨o,e1,e2⟩:=cellK h4 h5;show⟨u,rv,.inr ⟨.inr hk,a,h4,o,ce _ _ e1,e2⟩⟩
  ·let⟨v,hv⟩:=wc y a h;let⟨o,e1,e2⟩:=cellK h hv;show⟨v,o,ce _ _ e1,e2⟩
  ·show ck.free a (å.2 ⟨(y,a),ó h,O⟩)
  ·change _=N.length;rw[Þ,Ê,Ê];lia
 show PySem.W.kla_codeExpr (ä (Oj [] _ _ H' _ I hq) (λ u ve ⟨v,lg,J,rv,q⟩=>⟨v,lg,J.os,J.bare,J.base,J.hok,rv,q⟩) λ e ve z=>z.elim)
end
end L2
namespace L2
open PySem PySem.Spec PyProof.Rows TwZ
open PySem.W (envX kla_obj kla_fn CodeHd tabObj)
structure NestB (mg:Str->Option À) (base:Heap) (c Pt:Á):Prop where
 hd:CodeHd base c Pt
 bm:∃ bm ob,mg "__builtins__" =Y (.ref bm)/\bm≠builtinsNs/\bm≠mainGlobals/\base.get? bm=Y ob/\ob.cls=.type "module" /\ ob.dict=Y builtinsNs/\ob.data=.plain
def dU (H:Hp) (Pt:Á) (pos:Pos) (q:Str):Prop:=H Pt=Y (.tbl #[])\/∃(c:Á) (oc:Obj) (vs:Array À) (t:Tok),H Pt=Y (.tbl #[rawInt pos.line,rawInt pos.col,.ref c])/\H c=Y (.frz oc (.own c))/\oc.data=.fields vs/\vs[1]?=Y (.str q t)
def TZ (Pt:Á) (H H':Hp):Prop:=∀ b o,b≠Pt->H b=Y o->H' b=Y o
theorem dU.same  (h:dU H Pt pos q) (s:aE H H'):dU H' Pt pos q:=by
 rcases h with h|⟨c,oc,vs,t,h1,h2,h3⟩
 ·show .inl (s _ _ h)
 ·show .inr ⟨c,oc,vs,t,s _ _ h1,s _ _ h2,h3⟩
theorem dU.some  (h:dU H Pt pos q):∃ ps,H Pt=Y (.tbl ps):=by
 rcases h with h|⟨c,oc,vs,t,h1,_⟩
 ·show⟨_,h⟩
 ·show⟨_,h1⟩
def tLam (Pt:Á) (pos:Pos) (q:Str) (mk:Á->À->Obj):TE:=λ σ H Q=>dU H Pt pos q/\∀(f c:Á) (oc:Obj) (mf:À) (H':Hp),H f=W->TZ Pt H H'->dU H' Pt pos q->FnH H' f c (mk c mf) oc->(∃ vs t,oc.data=.fields vs/\vs[1]?=Y (.str q t))->Q (.ref f) H'
section
variable {X:Cx}
theorem Inv.frzNew {σ:St} (I:Inv X gj σ H s) {h':Heap}{tk:Nat}{ob:Obj} (k:∀ b o,s.heap.get? b=Y o->h'.get? b=Y o) (hsz:s.heap.objs.size<=h'.objs.size) (Ag:autoParam (ob.isFreed=false) _0) :
  Inv X gj σ (upd H h'.objs.size (.frz ob (.own h'.objs.size))) { s with heap:=h'.push ob,toks:=tk }:=
 I.laid (t':=tk) (a:=h'.objs.size) (λ b o e=>Ï _ (k b o e)) hsz (show bY X.prog X.w _ _ _ (.frz ob (.own h'.objs.size))from⟨á _ Ag,ob,á _ Ag⟩)
theorem LU {c Pt:Á}{clos:List (Str×Á)} (Ol:defaultsOf params X.env=([],[])) (vf:closureFor scope X.env=pure clos) (kh:X.env.code=.ref c) (NB:NestB X.mg X.base c Pt) :
  PE X (.Lambda params body scope pos) (tLam Pt pos (X.env.qual ++ "<lambda>") λ c' mf=>kla_obj "<lambda>" (X.env.qual ++ "<lambda>") params body scope clos ((X.mg "__name__").getD .none) c' mf):=by
 intro gj s σ H Q I h;let⟨tab,h⟩:=h;show PySem.W.kla_eval Ol ?_;have tf:∃ ps,H Pt=Y (.tbl ps):=tab.some;have Hf:∀ b o,X.base.get? b=Y o->b≠Pt:=λ b o e z=>by
  let⟨ps,hp⟩:=tf;have:=(I.bs b o e).2;rw[z,hp]at this;cases this
 have Hg:=I.mod.glob.keeps I.bk;have Om:mainGlobals≠Pt:=by
  let⟨o,es,ep,e,_⟩:=I.mod.glob;show Hf _ _ e
 let⟨bm,ob,b1,b2,b3,b4,b5,b6,b7⟩:=NB.bm;have hb:s.heap.BuiltinsAt X.mg Pt:=⟨bm,ob,b1,b2,b3,Hf _ _ b4,I.bk _ _ b4,b5,b6,b7⟩;rcases tab with e|⟨c',oc,vs,t,e,ec,d1,d2⟩
 ·have hP:s.heap.get? Pt=Y (tabObj #[]):=(show bY X.prog X.w H s.heap Pt (.tbl #[]) from I.hok Pt _ e);show PySem.W.kla_makeFunction (mg:=X.mg) vf I.ok.glob Hg kh (NB.hd.keeps I.bk) hP trivial O Om hb λ c' mf h' tk hx xj jh Dq On=>?_;let⟨c2,oc,vs,t,e2,pq,d1,d2⟩:=Dq;cases e2;have Av:H c'=none:=I.hok.fresh xj;have Hh:Pt≠c':=λ z=>by rw[<- z,e] at Av;cases Av
  have we:h'.get? Pt=Y (tabObj #[rawInt pos.line,rawInt pos.col,.ref c']):=by simpa using On
  have J:Inv X gj σ (upd (upd H Pt (.tbl #[rawInt pos.line,rawInt pos.col,.ref c'])) c' (.frz oc (.own c'))) { s with heap:=h',toks:=tk }:=by
   have zj:∀ {b:Á}{o:HO},H b=Y o->b≠Pt->upd (upd H Pt (.tbl #[rawInt pos.line,rawInt pos.col,.ref c'])) c' (.frz oc (.own c')) b=Y o:=λ {b o} q hb=>by
    rw[aG (aI q Av),aG hb];show q
   show I.call (h':=h') (g':=s.gens) (d':=s.drawn) (t':=tk) (ch:=[]) ?_ ?_ I.bare (λ b z=>absurd z G0)
   ·show⟨λ b o q n _ _=>hx b o (λ z=>by rw[z,e]at n;cases n) q,λ b o q n _ _=>⟨o.slots,hx b o (λ z=>by rw[z,e]at n;cases n) q⟩,λ b o q n _=>?_,λ b o q _=>?_,λ b xs q=>zj q (λ z=>by rw[z,e]at q;cases q),λ b o u q=>zj q (λ z=>by rw[z,e]at q;cases q),λ b ps q=>?_⟩
    ·rw[aG (â (ï (Ô q) xj)),aG (λ z=>by rw[z,e]at n;cases n)];show n
    ·by_cases jj:b=Pt
     ·subst jj;show⟨_,we⟩
     ·show⟨o,hx b o jj q⟩
    ·by_cases jj:b=Pt
     ·subst jj;rw[e]at q;cases q;show⟨#[rawInt pos.line,rawInt pos.col,.ref c'],by rw[aG Hh,a8];simp⟩
     ·show⟨#[],by rw[zj q jj];simp⟩
   ·intro b u q
    by_cases Hi:b=c'
    ·subst Hi;rw[a8]at q;cases q;show⟨pq,oc,pq⟩
    ·rw[aG Hi]at q
     by_cases jj:b=Pt
     ·subst jj;rw[a8]at q;cases q;show we
     ·rw[aG jj]at q;show(I.hok b u q).stay (λ d o hd r=>hx d o (λ z=>?_) r) (λ d r=>zj r (λ z=>by rw[z,e]at r;cases r)) λ d xs r=>zj r (λ z=>by rw[z,e]at r;cases r);rcases hd with rfl|hd
      ·show jj z
      ·rw[z,e]at hd;cases hd
  have J2:=Inv.frzNew (tk:=tk) (ob:=kla_obj "<lambda>" (X.env.qual ++ "<lambda>") params body scope clos ((X.mg "__name__").getD .none) c' mf) J (h':=h') (λ b o q=>q) (Ñ _);have Hj:c'≠h'.objs.size:=â jh;have Oo:Pt≠h'.objs.size:=â (Ô we);have qi:H h'.objs.size=none:=I.hok.fresh (ý xj (ĝ jh));show⟨.ref h'.objs.size,_,J2,O,h h'.objs.size c' oc mf _ qi (λ b o jj q=>?_) (.inr ⟨c',oc,vs,t,?_,?_,d1,d2⟩) ⟨a8,?_⟩ ⟨vs,t,d1,d2⟩⟩
  ·rw[aG (aI q qi),aG (aI q Av),aG jj];show q
  ·rw[aG Oo,aG Hh,a8]
  ·rw[aG Hj,a8]
  ·rw[aG Hj,a8]
 ·have hP:s.heap.get? Pt=Y (tabObj #[rawInt pos.line,rawInt pos.col,.ref c']):=(show bY X.prog X.w H s.heap Pt (.tbl #[rawInt pos.line,rawInt pos.col,.ref c'])from I.hok Pt _ e);show PySem.W.kla_makeFunctionHit (mg:=X.mg) vf I.ok.glob Hg kh (NB.hd.keeps I.bk) hP (show TriplesOk [rawInt pos.line,rawInt pos.col,.ref c']from trivial) (show codeAmong pos [rawInt pos.line,rawInt pos.col,.ref c']=Y (.ref c') by simp[codeAmong,rawInt]) hb λ mf h' tk hk hsz=>?_;have J2:=Inv.frzNew (tk:=tk) (ob:=kla_obj "<lambda>" (X.env.qual ++ "<lambda>") params body scope clos ((X.mg "__name__").getD .none) c' mf) I (h':=h') hk hsz;have qi:H h'.objs.size=none:=I.hok.fresh hsz;have s1:=È (o:=HO.frz (kla_obj "<lambda>" (X.env.qual ++ "<lambda>") params body scope clos ((X.mg "__name__").getD .none) c' mf) (.own h'.objs.size)) qi;show⟨.ref h'.objs.size,_,J2,O,h h'.objs.size c' oc mf _ qi (λ b o _ q=>s1 _ _ q) (.inr ⟨c',oc,vs,t,s1 _ _ e,s1 _ _ ec,d1,d2⟩) ⟨a8,s1 _ _ ec⟩ ⟨vs,t,d1,d2⟩⟩
end
end L2
namespace L2
open PySem PySem.Spec PyProof.Rows TwZ
open PySem.W (envX kla_obj kla_fn CodeHd tabObj)
structure CellF (X:Cx) (σ:St) (H:Hp) (s:Â):Prop where
 val:∀(i:Nat) (x:Str) (v:V),X.N[i]?=Y x->σ[i]?=Y (Y v)->X.env.scope.names.lookup x=Y .cell->∃ c u,X.env.cells.lookup x=Y c/\s.heap.IsCell c (Y u)/\aX v u
 cell:∀ x c,X.env.cells.lookup x=Y c->∃ v,s.heap.IsCell c v
 out:∀ x c,X.env.cells.lookup x=Y c->H c=W/\c∉kA X.stack/\c < s.heap.objs.size
 inj:∀ x y c,X.env.cells.lookup x=Y c->X.env.cells.lookup y=Y c->x=y
section
variable {X:Cx}{CX:FM}{k:Nat}{f:Á}{fd:FuncData}{ps:List Str}{sp:RH}{E:XK}{x:Str}{p pos:Pos}{e:Expr}{es:List Expr}{t:TA}
theorem Inv.cellF {σ:St} (I:Inv X gj σ H s) (rc:X.stack=X.env::X.outer) (Ag:X.env.frame=Y X.env.locals) (qi:∀ x,X.fn x=Eg):CellF X σ H s:=by
 show⟨λ i x v h1 h2 h3=>?_,I.cell,λ x c hc=>⟨I.freeC x c hc,λ z=>?_,?_⟩,I.ok.inj⟩
 ·let⟨m,hn,hl⟩:=I.loc;let⟨u,r,l⟩:=hl i x v h1 h2 (.inr (.inl h3));rcases l with⟨hk,_⟩|⟨_,c,hc,jk⟩
  ·have hk:X.env.scope.names.lookup x=Y .local:=hk;rw[h3]at hk;cases hk
  ·show⟨c,u,hc,jk,r⟩
 ·let⟨v,o,e1,e2⟩:=I.cell x c hc;rw[rc]at z;unfold kA at z;rw[agm Ag]at z;rcases Ò.1 z with z|z
  ·let⟨m,⟨oL,es,ep,eL,dL,_⟩,_⟩:=I.loc;rw[<- z,e1]at eL;cases eL;rw[e2]at dL;cases dL
  ·have h1:=I.ok.cab x c (qi x) hc;let⟨_,⟨ob,hb,_⟩⟩:=I.ok.funs.mem (show c∈kA X.outer from z);show absurd (ï (Ô hb) h1) (ċ _)
 ·let⟨v,o,e1,e2⟩:=I.cell x c hc;show Ô e1
def RY (X:Cx) (sp:RH) (E:XK) (t:TA):TE:=λ σ H Q=>t σ H λ vs H1=>∀ s1:Â,CellF X σ H1 s1->sp s1 X.stack vs H1 Q E
theorem uW (F:FnOkS X.prog X.w X.K X.mg X.base CX k f fd ps sp) (hr:Room k X.A) (hg:Gl X x) (hm:X.mg x=Y (.ref f)) (hk:PySem.W.keepIn X.K (.ref f)=Eg) (hb:iF X.K fd ps []) (hx:iD CX X E)
  (rc:X.stack=X.env::X.outer) (Ag:X.env.frame=Y X.env.locals) (qi:∀ x,X.fn x=Eg)
  (ha:PA X (e::es) t) (yp:autoParam ((x==("__debug__":Str))=false) _2) (he:autoParam (starEach (e::es) X.env=(Eh,eval e X.env)::starEach es X.env) _0) (kz:autoParam ((backTo pos (starEach es X.env)).any (·.1)=false) _0) :
  PE X (.Call (.Name x p) (e::es) [] pos) (RY X sp E t):=by
 intro gj s σ H Q I h;show Ĩ (mX I hg hm ?_ yp);show Ű (h₀:=X.base) I.ok.mod.kin hk (cK (ha pos gj s σ H _ I h) λ us s1 ⟨vs,H1,I1,r,q⟩=>⟨I1.kIn,?_⟩) he kz;have q1:=q s1 (I1.cellF rc Ag qi);have hl:us.length=ps.length:=by rw[<- r.length];show F.len _ _ _ _ _ _ q1
 have Ep:=hb s1 us I1.kIn (by rw[Ģ];show hl);rw[Ģ]at Ep;show wpAny_call (ō (F.run X.A X.stack s1 H1 ⟨us,[]⟩ us vs Q E hr I1.env0 Ep r q1) λ r s' hq=>?_);cases r with
 |error e=>show hx gj σ H1 s1 e s' I1 hq
 |ok fl=>
  cases fl with
  |ret u=>show I1.after hq
  |next=>show False.elim hq
  |brk=>show False.elim hq
  |cont=>show False.elim hq
end
structure CalleeS (P:Ã) (w:World) (K:Ç) (mg:Str->Option À) (base:Heap) (x:Str) (ps:List Str) (k:Nat) (sp:RH) (f:Á) (fd:FuncData):Prop where
 ok:FnOkS P w K mg base (mL P w) k f fd ps sp
 mg:mg x=Y (.ref f)
 kp:PySem.W.keepIn K (.ref f)=Eg
 bd:iF K fd ps []
theorem Fun.okS {x qual:Str}{st:Stmt}{N ps:List Str}{k:Nat}{sp:RH} (F:Fun K x qual st f fd) (S:FnScope N ps (aH st)) (len:∀ s o vs H Q E,sp s o vs H Q E->vs.length=ps.length)
  (jl:∀(gz:À) (A:Around) (outer:List Env) (s:Â) (H:Hp) (vs:List V) (Q:VK) (E:XK),Room k (A.deeper (envOfC qual (aH st) s.heap.objs.size f gz))->Env0 P w K mg base A outer s H->sp s outer vs H Q E->
   Leaves (jZ (mL P w) P w K mg base N qual (aH st) f gz A outer s H E) E->
   ∃ t,yO (jZ (mL P w) P w K mg base N qual (aH st) f gz A outer s H E) (cL st) t/\t { nx:=λ _ H'=>Q .non H',rt:=Q } (start N vs) H):FnOkS P w K mg base (mL P w) (k+1) f fd ps sp:=by
 let⟨oc,od,kV,doc,pm,an,gz,ct,ue,rfl,lk,qj⟩:=F.ex;show TF lk qj S len λ A outer s H vs Q E hr e0 kf=>jl gz A outer s H vs Q E hr e0 kf ⟨O,O,O,λ _ _ h=>h⟩
end L2
namespace L2
open PySem PySem.Spec PyProof.Rows TwZ
open PySem.W (CodeHd tabObj OpenLaw)
def HG (ij:List (Á×Á)) (H:Hp):Prop:=∀ b,H b=W\/(∃ o xs,H b=Y (.frz o (.lst xs)))\/∃ q∈ij,b=q.2
theorem J4 {P:Ã}{w:World}{K:Ç}{mg mb:Str->Option À}{CX:FM}{k:Nat}{fa a:Á}{fd:FuncData}{x:Str}{sp:Sp}{ah:Â}{vs:List À}{ns:List Int}{ij:List (Á×Á)}
  (KX:K.In ah.heap) (ua:ah.heap.Ns mainGlobals mg) (hb:ah.heap.Ns builtinsNs mb) (X4:∀ x:Str,x ≠ "__name__" -> mb x=bootBuiltins x) (Op:ah.heap.NoLimit) (hg:ah.gens= #[])
  (X5:∃ bm ob,mg "__builtins__" =Y (.ref bm)/\bm≠builtinsNs/\ah.heap.get? bm=Y ob/\ob.cls=.type "module" /\ ob.dict=Y builtinsNs/\ob.data=.plain)
  (hT:∀ q∈ij,ah.heap.get? q.2=Y (tabObj #[])) (hC:∀ q∈ij,CodeHd ah.heap q.1 q.2) (X6:∀ q∈ij,K.lookup q.2=W)
  (ha:ah.heap.get? a=Y { cls:=.type "list",data:=.seq vs.toArray }) (hi:IntsAre vs ns) (hl:ns.length<=sizeLine) (hr:Room k callerA)
  (F:∀ base:Heap,K.In base->base.Ns mainGlobals mg->(∀ q∈ij,NestB mg base q.1 q.2)->FnOk P w K mg base CX k fa fd [x] sp) (uv:∀(s:Â) (u:À),BindsTo s fd ⟨[u],[]⟩ [(x,u)])
  (kf:∀ H:Hp,HG ij H->bE K H a (ns.map V.int)->(∀ q∈ij,H q.2=Y (.tbl #[]))->sp [.ref a] H (λ v _=>v=.bl Eg) λ _ _ _=>False)
  (X7:∀ H e s',CX [] H ah (λ _ _ _=>False) e s'->False) :
  codeAny (model P w) callerA (.call (.ref fa) ⟨[.ref a],[]⟩) (λ r s'=>r=.ok (.ret (.bool Eg))/\OldK ah.heap s'.heap/\s'.os=ah.os/\AllBare s'.gens) ah:=by
 have rv:=wU hi;have Oq:=hi.length;have aT:∀ q∈ij,q.2≠a:=λ q hq z=>by
  have:=hT q hq;rw[z,ha]at this;cases this
 have core:∀ H:Hp,HG ij H->bE K H a (ns.map V.int)->nP P w H ah.heap->(∀ b,H b≠W->b=a\/∃ q∈ij,b=q.2)->(H a≠W->K.lookup a=W)->(∀ q∈ij,H q.2=Y (.tbl #[]))->
   codeAny (model P w) callerA (.call (.ref fa) ⟨[.ref a],[]⟩) (λ r s'=>r=.ok (.ret (.bool Eg))/\OldK ah.heap s'.heap/\s'.os=ah.os/\AllBare s'.gens) ah:=by
  intro H hO hS hok hA hK Tx;have oh:∀ {b:Á}{o:Obj},ah.heap.get? b=Y o->H b=W->(wN ah.heap H).get? b=Y o:=λ e n=>N4 e n;have Os:∀ {b:Á}{o:Obj},ah.heap.get? b=Y o->o≠{ cls:=.type "list",data:=.seq vs.toArray }->o≠tabObj #[]->H b=none:=λ {b o} e d1 d2=>by
   cases q:H b with
   |none=>rfl
   |some u=>
    rcases hA b (by rw[q];simp)with e'|⟨q',su,e'⟩
    ·subst e';rw[ha]at e;show absurd (ç e).symm d1
    ·subst e';rw[hT q' su]at e;show absurd (ç e).symm d2
  have Kw:∀ {b:Á}{m:Str->Option À},ah.heap.Ns b m->(wN ah.heap H).Ns b m:=λ {b m} ⟨o,es,ep,e,d,r⟩=>⟨o,es,ep,oh e (Os e (λ z=>by rw[z]at d;cases d) (λ z=>by rw[z]at d;cases d)),d,r⟩;have Ty:K.In (wN ah.heap H):=λ b o e=>oh (KX b o e) (by
   cases q:H b with
   |none=>rfl
   |some u=>
    rcases hA b (by rw[q];simp)with e'|⟨q',su,e'⟩
    ·subst e';rw[hK (by rw[q];simp)]at e;cases e
    ·subst e';rw[X6 q' su]at e;cases e)
  have hM:Mod K mg (wN ah.heap H):=⟨Ty,Kw ua,⟨mb,Kw hb,X4⟩,let ⟨mc,h1,h2⟩:=Op;⟨mc,Kw h1,h2⟩⟩;have e0:Env0 P w K mg (wN ah.heap H) callerA [] ah H:=⟨rfl,hM,λ b o e=>PP e,Ō (JC _ _),trivial,λ b hb=>absurd (show b∈([]:List Á) from hb) G0,hok,.of_eq hg⟩;have hN:∀ q∈ij,NestB mg (wN ah.heap H) q.1 q.2:=λ q hq=>by
   let⟨o,Ot,file,tf,flags,tg,X8,text,tt,e1,r1,r2,r3,r4,r5,r6,r7,r8,vg⟩:=hC q hq;let⟨bm,ob,b1,b2,b3,b4,b5,b6⟩:=X5;show⟨⟨o,Ot,file,tf,flags,tg,X8,text,tt,oh e1 (Os e1 (λ z=>absurd (r1.symm.trans (congrArg Obj.cls z)) (by change ¬ (Value.type "code" =Value.type "list");decide)) (λ z=>absurd (r1.symm.trans (congrArg Obj.cls z)) FZ)),r1,r2,r3,r4,r5,r6,r7,r8,vg⟩,bm,ob,b1,b2,λ z=>?_,oh b3 (Os b3 (λ z=>absurd (b4.symm.trans (congrArg Obj.cls z)) (by change ¬ (Value.type "module" =Value.type "list");decide)) (λ z=>absurd (b4.symm.trans (congrArg Obj.cls z)) FZ)),b4,b5,b6⟩;let⟨og,es,ep,eg,dg,_⟩:=ua;rw[z,eg]at b3;cases b3;rw[dg]at b6;cases b6
  show ō ((F _ Ty (Kw ua) hN).run callerA [] ah H ⟨[.ref a],[]⟩ [.ref a] [.ref a] _ _ hr e0 (uv ah (.ref a)) (.cons O .nil) (kf H hO hS Tx)) λ r s' h=>?_;cases r with
  |error e=>show(X7 H e s' h).elim
  |ok fl=>
   cases fl with
   |next=>show False.elim h
   |brk=>show False.elim h
   |cont=>show False.elim h
   |ret u=>
    let⟨v,H',os,bare,un,Hk,r',q⟩:=h;have q':v=.bl true:=q;subst q';obtain rfl:u=Value.bool true:=r';have Ou:∀ b:Á,b∉kA ([]:List Env):=λ b z=>absurd (show b∈([]:List Á) from z) G0;have fin:∀ b o,ah.heap.get? b=Y o->s'.heap.get? b=Y o\/∃ q∈ij,b=q.2/\o=tabObj #[]/\∃ ps,s'.heap.get? b=Y (tabObj ps):=λ b o e=>by
     cases q:H b with
     |none=>show .inl (un.keep b o e q (Ou b) G0)
     |some u=>
      rcases hO b with z|⟨ob,xs,z⟩|⟨q',su,e'⟩
      ·rw[q]at z;cases z
      ·have z2:=un.frzs b ob _ z;let⟨e1,_⟩:=hok b _ z;let⟨e2,_⟩:=Hk b _ z2;rw[e]at e1;cases e1;show .inl e2
      ·subst e';let⟨jr,z2⟩:=un.tbls _ _ (Tx q' su);have e2:s'.heap.get? q'.2=Y (tabObj (#[]++jr)):=Hk _ _ z2;rw[hT q' su]at e;show .inr ⟨q',su,O,(ç e).symm,_,e2⟩
    show⟨O,⟨λ b o e=>?_,λ b o e=>?_⟩,os,bare⟩
    ·rcases fin b o e with z|⟨q',su,rfl,rfl,ps,z⟩
     ·show .inl z
     ·show .inr (.inl ⟨((hC q' su).tab (hT q' su)).isCodeTable,O,#[],ps,O,by rw[Array.empty_append];show z⟩)
    ·rcases fin b o e with z|⟨q',su,rfl,rfl,ps,z⟩
     ·show⟨o,z⟩
     ·show⟨_,z⟩
 have tb:∀(G:Hp),(∀ b u,G b=Y u->bY P w G ah.heap b u)->(∀ b,G b≠W->b=a)->(G a≠W->∃ o xs,G a=Y (.frz o (.lst xs)))->
   nP P w (λ b=>if b∈ij.map (·.2)then Y (.tbl #[])else G b) ah.heap:=λ G hG hA hL b u z=>by
  by_cases jj:b∈ij.map (·.2)
  ·have z':Y (HO.tbl #[])=Y u:=by rw[<- z];show(Å jj).symm
   cases z';let⟨q,hq,rfl⟩:=å.1 jj;show hT q hq
  ·have z':G b=Y u:=by rw[<- z];show(Ä jj).symm
   have e':=hA b (by rw[z'];simp);subst e';let⟨o,xs,e2⟩:=hL (by rw[z'];simp);rw[z']at e2;cases e2;show hG b _ z'
 have Tz:∀ q∈ij,q.2∈ij.map (·.2):=λ q hq=>å.2 ⟨q,hq,rfl⟩;have aN:a∉ij.map (·.2):=λ z=>by
  let⟨q,hq,e⟩:=å.1 z;show aT q hq e
 cases hk:K.lookup a with
 |some o=>
  have e:=KX a o hk;rw[ha]at e;cases e;show core (λ b=>if b∈ij.map (·.2)then Y (.tbl #[])else W) (λ b=>?_) (.inr ⟨_,vs.toArray,_,hk,O,O,O,by rw[Ü,Oq];show hl,by simpa using rv⟩) (tb (λ _=>W) (λ b u z=>by have z':(W:Option HO)=Y u:=z;cases z') (λ b z=>absurd O z) λ z=>absurd O z) (λ b z=>?_) (λ z=>absurd (Ä aN) z) λ q hq=>Å (Tz q hq)
  ·by_cases jj:b∈ij.map (·.2)
   ·let⟨q,hq,e⟩:=å.1 jj;show .inr (.inr ⟨q,hq,e.symm⟩)
   ·show .inl (Ä jj)
  ·by_cases jj:b∈ij.map (·.2)
   ·let⟨q,hq,e⟩:=å.1 jj;show .inr ⟨q,hq,e.symm⟩
   ·show absurd (Ä jj) z
 |none=>
  show core (λ b=>if b∈ij.map (·.2)then Y (.tbl #[])else if b=a then Y (.frz { cls:=.type "list",data:=.seq vs.toArray } (.lst (ns.map V.int)))else W) (λ b=>?_) (.inl (.inr ⟨{ cls:=.type "list",data:=.seq vs.toArray },(Ä aN).trans (Å O)⟩))
   (tb (λ b=>if b=a then Y (.frz { cls:=.type "list",data:=.seq vs.toArray } (.lst (ns.map V.int)))else W) (λ b u z=>?_) (λ b z=>?_) λ _=>⟨_,_,Å rfl⟩) (λ b z=>?_) (λ _=>hk) λ q hq=>Å (Tz q hq)
  ·by_cases jj:b∈ij.map (·.2)
   ·let⟨q,hq,e⟩:=å.1 jj;show .inr (.inr ⟨q,hq,e.symm⟩)
   ·by_cases oz:b=a
    ·show .inr (.inl ⟨_,_,(Ä jj).trans (Å oz)⟩)
    ·show .inl ((Ä jj).trans (Ä oz))
  ·by_cases oz:b=a
   ·have z':=(Å oz).symm.trans z;cases z';subst oz;show⟨ha,by rw[Ê];show hl,vs,_,rv,ha⟩
   ·have z':=(Ä oz).symm.trans z;cases z'
  ·by_cases oz:b=a
   ·show oz
   ·show absurd (Ä oz) z
  ·by_cases jj:b∈ij.map (·.2)
   ·let⟨q,hq,e⟩:=å.1 jj;show .inr ⟨q,hq,e.symm⟩
   ·by_cases oz:b=a
    ·show .inl oz
    ·show absurd ((Ä jj).trans (Ä oz)) z
theorem walk_ofT {l:OpenLaw}{n k:Nat}{q:Ã}{loose:List Str}{XP:(Str->Option À)->Heap->Prop}{YP:World->Heap->Prop}{d:DefRec}{K:Params->Ç}{sp:Ç->List (Á×Á)->Sp}{x:Str}{ts:List Á}
  (hn:l.most=Y n) (Ki:n<=sizeLine) (Fx:d.params.defaults=[]) (hr:Room k callerA)
  (hY:∀(w:World) (h:Heap),YP w h->(K w.params).In h) (Ov:∀(w:World) (h:Heap),YP w h->∀ P∈ts,h.get? P=Y (tabObj #[]))
  (F:∀(w:World) (mg:Str->Option À) (fa:Á) (h:Heap),(K w.params).In h->h.Ns mainGlobals mg->mg d.name=Y (.ref fa)->
   ∃(fd:FuncData) (ij:List (Á×Á)),(∀ q∈ij,q.2∈ts/\(K w.params).lookup q.2=W/\PySem.W.codeHdIn (K w.params) q.1 q.2=Eg)/\(∀(s:Â) (u:À),BindsTo s fd ⟨[u],[]⟩ [(x,u)])/\
    ∀ base:Heap,(K w.params).In base->base.Ns mainGlobals mg->(∀ q∈ij,NestB mg base q.1 q.2)->FnOk l.prog w (K w.params) mg base fX k fa fd [x] (sp (K w.params) ij))
  (kf:∀(K:Ç) (ij:List (Á×Á)) (H:Hp) (a:Á) (ns:List Int),ns.length<=n->HG ij H->bE K H a (ns.map V.int)->(∀ q∈ij,H q.2=Y (.tbl #[]))->sp K ij [.ref a] H (λ v _=>v=.bl Eg) λ _ _ _=>False) :
  PySem.W.WalkO q loose XP YP l.row.toRowW d [] (λ f vs=>PySem.call f vs):=by
 show Att.attach_call hn Fx λ w s₀ ah mg mb fa o pm cd doc a vs ns G BG ho hd qj Fy Cu hints gr hg=>?_;have KX:=hY w _ BG;let⟨fd,ij,ht,hb,hF⟩:=F w mg fa _ KX G.T.g Fy;show J4 KX G.T.g G.T.b G.T.builtins G.T.nolimit hg G.T.bmain (λ q hq=>Ov w _ BG q.2 (ht q hq).1) (λ q hq=>PySem.W.codeHd_of_K KX (ht q hq).2.2) (λ q hq=>(ht q hq).2.1) Cu hints (ý gr Ki) hr hF hb
  (λ H hO hS hT=>kf _ ij H a ns gr hO hS hT) λ H e s' z=>z
end L2
namespace Tw
open PySem L2
section
variable {ae:Type}{dD:ae->L2.D}{S:L2.D}
structure BfsAt (P:Ã) (w:World) (K:Ç) (dD:ae->L2.D) (S:L2.D) (H:Hp) (fl sd:Á) (us:List V) (gn:List (L2.D×V)) (fs:Fs ae):Prop where
 lst:H fl=Y (.lst us)
 its:Paired (λ(p:ae×List Int) v=>KeyD K H S (dD p.1) v) fs us
 dic:cC P w K H sd S gn
 row:Paired (λ(p:ae×List Int) (q:L2.D×V)=>dD p.1=q.1/\∃ a,q.2=.ref a/\a≠fl/\H a=Y (.lst (p.2.map V.int))) fs gn
variable {H H':Hp}{fl sd:Á}{us:List V}{gn:List (L2.D×V)}{fs:Fs ae}
theorem BfsAt.ne (B:BfsAt P w K dD S H fl sd us gn fs):fl≠sd:=λ z=>by
 have h:=B.lst;rcases B.dic with⟨e,_⟩|⟨xs,e,_⟩
 ·rw[z,e]at h;cases h
 ·rw[z,e]at h;cases h
theorem BfsAt.rne (B:BfsAt P w K dD S H fl sd us gn fs) (h:H a=Y (.lst xs)):a≠sd:=λ z=>by
 rcases B.dic with⟨e,_⟩|⟨xs,e,_⟩
 ·rw[z,e]at h;cases h
 ·rw[z,e]at h;cases h
theorem BfsAt.same (B:BfsAt P w K dD S H fl sd us gn fs) (s:aE H H'):BfsAt P w K dD S H' fl sd us gn fs:=
 ⟨s _ _ B.lst,ë B.its λ _ _ h=>h.mono s.ts,B.dic.same s,ë B.row λ _ _ ⟨h1,a,h2,h3,h4⟩=>⟨h1,a,h2,h3,s _ _ h4⟩⟩
theorem Paired.get' {ae cj:Type}{F:ae->cj->Prop}:∀ {bo:List ae}{bq:List cj},Paired F bo bq->∀ {i:Nat}{a:ae},bo[i]?=Y a->∃ b,bq[i]?=Y b/\F a b:=by
 intro bo bq r
 induction r with
 |nil=>intro i a h;simp at h
 |cons h t ih=>
  intro i a e;cases i with
  |zero=>cases e;show(bA _ O h)
  |succ i=>show ih e
theorem Paired.getR {ae cj:Type}{F:ae->cj->Prop}:∀ {bo:List ae}{bq:List cj},Paired F bo bq->∀ {i:Nat}{b:cj},bq[i]?=Y b->∃ a,bo[i]?=Y a/\F a b:=by
 intro bo bq r
 induction r with
 |nil=>intro i a h;simp at h
 |cons h t ih=>
  intro i a e;cases i with
  |zero=>cases e;show(bA _ O h)
  |succ i=>show ih e
def Đ:=@Paired.getR
theorem Paired.snoc {ae cj:Type}{F:ae->cj->Prop}{bo:List ae}{bq:List cj}{a:ae}{b:cj} (r:Paired F bo bq) (h:F a b):Paired F (bo++[a]) (bq++[b]):=by
 induction r with
 |nil=>show .cons h .nil
 |cons h' t ih=>show .cons h' ih
def Ę:=@Paired.snoc
theorem BfsAt.val (B:BfsAt P w K dD S H fl sd us gn fs) (k:L2.D):(fB dD fs k=W/\eB gn k=W)\/∃ r a,fB dD fs k=Y r/\eB gn k=Y (.ref a)/\a≠fl/\H a=Y (.lst (r.map V.int)):=by
 have r:=B.row;clear B;unfold fB eB
 induction r with
 |nil=>show .inl ⟨O,O⟩
 | @cons p q ps qs h t ih=>
  let⟨e,a,e2,n,hl⟩:=h
  by_cases c:dD p.1=k
  ·show .inr ⟨p.2,a,?_,?_,n,hl⟩
   ·rw[afb (by simpa using c)];rfl
   ·rw[afb (by simpa using e ▸ c)];rw[Ŗ,e2]
  ·rw[afc (by simpa using c),afc (by rw[<- e];simpa using c)];show ih
theorem BfsAt.isSome (B:BfsAt P w K dD S H fl sd us gn fs) (k:L2.D):(eB gn k).isSome=(fB dD fs k).isSome:=by
 rcases B.val k with⟨h1,h2⟩|⟨r,a,h1,h2,_⟩
 ·rw[h1,h2];rfl
 ·rw[h1,h2];rfl
theorem BfsAt.lenU (B:BfsAt P w K dD S H fl sd us gn fs):us.length=fs.length:=(î B.its).symm
theorem BfsAt.lenK (B:BfsAt P w K dD S H fl sd us gn fs):gn.length=fs.length:=(î B.row).symm
theorem BfsAt.put  (B:BfsAt P w K dD S H fl sd us gn fs) (hn:(fB dD fs (dD d)).isSome=Eh) (hk:KeyD K H S (dD d) v) (hr:H ra=Y (.lst (r.map V.int))) (vg:ra≠fl) (bt:bS sd H H') (dd:cC P w K H' sd S (gR gn (dD d) (.ref ra))) :
  BfsAt P w K dD S (upd H' fl (.lst (us++[v]))) fl sd (us++[v]) (gn++[(dD d,.ref ra)]) (fs++[(d,r)])/\iI (H' fl):=by
 have mu:=B.dic.mut;have Km:=bt.ts (K:=K) mu;have e1:H' fl=Y (.lst us):=bt _ _ B.ne B.lst;have Dr:iI (H' fl):=by rw[e1];show trivial
 have b2:bS fl H' (upd H' fl (.lst (us++[v]))):=Ú;have Bv:=b2.ts (K:=K) Dr;have hv:eB gn (dD d)=none:=by
  have:=B.isSome (dD d);rw[hn]at this;cases q:eB gn (dD d)with
  |none=>rfl
  |some _=>rw[q]at this;cases this
 rw[uQ _ hv]at dd;show⟨⟨a8,Ę (ë B.its λ _ _ h=>(h.mono Km).mono Bv) ((hk.mono Km).mono Bv),dd.mono Bv λ o e=>b2 _ _ (Ne.symm B.ne) e,Ę (ë B.row λ p q ⟨h1,a,h2,h3,h4⟩=>⟨h1,a,h2,h3,b2 _ _ h3 (bt _ _ (B.rne h4) h4)⟩) ⟨O,(bA ra O ⟨vg,b2 _ _ vg (bt _ _ (B.rne hr) hr)⟩)⟩⟩,Dr⟩
end
theorem dH  (h:n<=10000000):n < sizeLine:=by rw[ĕ];lia
section
variable {ae:Type}{dD:ae->L2.D}{ir:ae->Int->ae}{fin:ae->Int->Bool}{ok:ae->Prop}{G:Hp->Prop}{S:L2.D}
def S2 (K:Ç) (dD:ae->L2.D) (ir:ae->Int->ae) (fin:ae->Int->Bool) (ok:ae->Prop) (G:Hp->Prop) (gm:Nat):Sp:=λ vs H Q _=>∃(x:V) (d:ae) (a:Nat),vs=[x,.int a]/\Is K H (dD d) x/\ok d/\a<=gm/\G H/\
 ∀ p y H',aE H H'->aP K H' p [y,.bl (fin d a)]->Is K H' (dD (ir d a)) y->Q (.ref p) H'
structure Goes (K:Ç) (dD:ae->L2.D) (ir:ae->Int->ae) (ok:ae->Prop) (G:Hp->Prop) (S:L2.D) (most:Nat):Prop where
 next:∀ d (a:Nat),ok d->a<=most->ok (ir d a)
 key:∀ d,ok d->∀ H v,Is K H (dD d) v->KeyD K H S (dD d) v
 stay:∀ H H',bD K H H'->G H->G H'
def xB (P:Ã) (w:World) (K:Ç) (mg:Str->Option À) (base:Heap) (cT:Á) (dD:ae->L2.D):RH:=λ s outer vs H Q E=>∃(ir:ae->Int->ae) (fin:ae->Int->Bool) (ok:ae->Prop) (G:Hp->Prop) (S:L2.D) (x:V) (f c:Á) (ob oc:Obj) (cl:List (Str×Á)) (gm ik:Nat) (first:ae),
 vs=[x,.ref f,.int gm,.int ik]/\1<=ik/\ik<=1000/\gm<=1000/\Is K H (dD first) x/\ok first/\Goes K dD ir ok G S gm/\G H/\FnH H f c ob oc/\(∃ cls od fd sl,ob=⟨cls,od,.func fd,sl⟩)/\HD P w K mg base 6 f c ob oc cl (S2 K dD ir fin ok G gm) s/\
 (∀ c∈cl.map (·.2),H c=W/\c∉kA outer/\c < s.heap.objs.size/\∃ o,s.heap.get? c=Y o)/\
 (∀ row fs,O1 dD ir fin gm ik first=.ends row fs->∀ p rl fl H',aE H H'->aP K H' p [.ref rl,.ref fl]->H' rl=Y (.lst (row.map V.int))->H rl=W->row.length<=2000->Q (.ref p) H')/\
 (O1 dD ir fin gm ik first=.many->∀ H',aE H H'->E (.ref cT) W H')/\
 (∀ fs,O1 dD ir fin gm ik first=.on fs->∀ p fl us H',aE H H'->aP K H' p [.non,.ref fl]->H' fl=Y (.lst us)->H fl=W->Paired (λ(p:ae×List Int) v=>KeyD K H' S (dD p.1) v) fs us->(∀ q∈fs,ok q.1)->fs.length<=ik->Q (.ref p) H')
theorem nH:FnScope ["first","step","most","limit","found","rows","place","here","amount","row","behind","is_end"] ["first","step","most","limit"] (aH (bG 48)):={}
theorem nK (F:Fun K "go_through" "go_through" (bG 48) f fd) (T:Txt mg) (jm:ExC K "TooMany" gq) :
  FnOkS P w K mg base (mL P w) 7 f fd ["first","step","most","limit"] (xB P w K mg base gq dD):=by
 show F.okS nH (λ s o vs H Q E h=>?_) (λ gz A outer s H vs Q E hr e0 h L=>?_)
 ·let⟨ir,fin,ok,G,S,x,f,c,ob,oc,cl,gm,ik,first,rfl,_⟩:=h;rfl
 ·let⟨ir,fin,ok,G,S,x,f',c,ob,oc,cl,gm,ik,first,rfl,uj,xw,hm,hx,hok,gs,hG,hF,RF,RS,hc,kE,kM,kO⟩:=h;have sc:=nH;have RC:∀ c∈cl.map (·.2),H c=W/\c∉kA outer/\c∉([]:List Á)/\c < s.heap.objs.size/\∃ o,s.heap.get? c=Y o:=λ c sr=>by
   let⟨h1,h2,h3⟩:=hc c sr;show⟨h1,h2,G0,h3⟩
  show⟨_,(aA (OZ (i:=4) (j:=5) (k:=6) O sc.nd O O O FZ FZ FZ O O O (a7 (bC (a7 (pv 0) a9)) (a7 (II (P:=P) (w:=w) (K:=K) O O O hr.units (pv 0) (bC a9)) (a7 aD a9))) O)
   (aA (BN PassesOwn.leaving (bN rX (pv 6) (rW K T.b_len (pv 4)) (bK _)) (aA (pL 7 sc.nd (px K (pv 4) (pv 6)))
   (aA (dB PassesOwn.leaving O (eF O T.b_range (a7 (aW cF (pv 2) aD) a9)) (gL 8 sc.nd) (aA (pL 9 sc.nd (aW M9 (BS (MW (P:=P) (w:=w) (K:=K) O O O hr.units) (pv 5) (pv 7) (λ _ _=>O)) (bC (a7 (pv 8) a9))))
   (aA (bP (LX RS RF (hr.mono FZ) RC (i:=1) O (.inl O) (a7 (pv 7) (a7 (pv 8) a9)) O O) (aM (K:=K) (n:=2) O O (aB (gL 10 sc.nd) (aB (gL 11 sc.nd) aL))))
   (aA (cE (cO (pv 11)) (aF (aK (aQ (a7 (pv 9) (a7 (pv 4) a9))))) bF)
   (aF (cE (bN (M0 (P:=P) (w:=w) (K:=K) O O O hr.units) (pv 10) (pv 5) (by rfl)) (aA (cE (bN M3 (rW K T.b_len (pv 4)) (pv 3) (bK _)) (aF (BO L O O jm.exc jm.ns af9 (a7 eY a9))) bF)
   (aA (IG (P:=P) (w:=w) (K:=K) O O O hr.units (pv 5) (pv 10) (pv 9) O)
   (aF (bH (dC (K:=K) O ì ô õ bL (pv 4) (a7 (pv 10) a9)))))) bF))))))
   (aF (E6 (i:=6) sc.nd O (Or.inl O) aD A2)))))
   (aF (aK (aQ (a7 cH (a7 (pv 4) a9))))))),?_⟩
  show(bA _ O ⟨(sz0 1),λ fl mm=>λ sd zk=>(bA _ O ⟨à _,λ r0 Ev=>?_⟩)⟩);have Ow:fl≠sd:=aI (show upd H fl (.lst [x]) fl=_ from a8) zk;have Ua:sd≠r0:=aI (show upd (upd H fl (.lst [x])) sd (.dK []) sd=_ from a8) Ev;have Ub:fl≠r0:=aI (show upd (upd H fl (.lst [x])) sd (.dK []) fl=_ by rw[aG Ow];show a8) Ev;have s1:aE H (upd (upd (upd H fl (.lst [x])) sd (.dK [])) r0 (.lst [])):=((È mm).trans (È zk)).trans (È Ev);have ff:H fl=none:=mm;have Hl:H sd=none:=(È mm).free zk;have g1:upd (upd (upd H fl (.lst [x])) sd (.dK [])) r0 (.lst []) fl=Y (.lst [x]):=by rw[aG Ub,aG Ow];show a8
  have g2:upd (upd (upd H fl (.lst [x])) sd (.dK [])) r0 (.lst []) sd=Y (.dK []):=by rw[aG Ua];show a8
  have g3:upd (upd (upd H fl (.lst [x])) sd (.dK [])) r0 (.lst []) r0=Y (.lst []):=a8;generalize upd (upd (upd H fl (.lst [x])) sd (.dK [])) r0 (.lst [])=H1 at s1 g1 g2 g3 ⊢;have CL:=gs.key first hok H1 x (Ì s1.ts _ _ hx)
  show⟨g2,S,dD first,CL,λ H3 b3 d3=>(NN _ _ _ O ?_)⟩;have Dr:iI (H1 sd):=by rw[g2];show trivial
  have Aw:=b3.ts (K:=K) Dr;have B3:BfsAt P w K dD S H3 fl sd [x] [(dD first,.ref r0)] [(first,[])]:=⟨b3 _ _ Ow g1,.cons (CL.mono Aw) .nil,d3,.cons ⟨rfl,r0,rfl,Ne.symm Ub,b3 _ _ (Ne.symm Ua) g3⟩ .nil⟩;have s3:aE H H3:=λ b o e=>b3 b o (aI e Hl) (s1 b o e);have F3:FnH H3 f' c ob oc:=hF.same s3;have G3:G H3:=gs.stay _ _ s3.ts hG;clear g1 g2 g3;show⟨λ m ac H'=>aE H H'/\∃(p:Nat) (fs:Fs ae) (us:List V) (gn:List (L2.D×V)) (v7 v8 v9 sg uo:Option V),m=ik+1 - p/\BfsAt P w K dD S H' fl sd us gn fs/\p<=fs.length/\fs.length<=ik/\(∀ q∈fs,ok q.1/\q.2.length < fs.length)/\mI dD ir fin gm ik (ik+1 - p) p fs=O1 dD ir fin gm ik first/\
    ac=[Y x,Y (.ref f'),Y (.int gm),Y (.int ik),Y (.ref fl),Y (.ref sd),Y (.int (p:Int)),v7,v8,v9,sg,uo],
   ⟨_,s3,0,_,_,_,_,_,_,_,_,O,B3,à _,by simpa using uj,λ q hq=>by rw[ù]at hq;subst hq;show⟨hok,(show 0 < 1 by decide)⟩,O,O⟩,?_⟩
  clear B3 F3 G3 d3 Aw b3 Dr;rintro m ac H4 xK;let⟨s4,p,fs,us,gn,v7,v8,v9,sg,uo,rfl,B4,hp,Gy,Ax,hb,rfl⟩:=xK;have Ah:=B4.lenU;have lm:ik<=10000000:=by lia
  show(bA _ O (bA _ O (bU fl us O ⟨.inl (É B4.lst),(bU _ _ O ⟨O,(bA _ O (i9 (λ hT=>?_) λ hN=>?_))⟩)⟩)))
  ·have hT:(p:Int) < us.length:=by simpa using hT
   have kz:p < fs.length:=by lia
   show⟨λ ac H'=>aE H H'/\∃(p':Nat) (fs:Fs ae) (us:List V) (gn:List (L2.D×V)) (v7 v8 v9 sg uo:Option V),p'=p+1/\BfsAt P w K dD S H' fl sd us gn fs/\p'<=fs.length/\fs.length<=ik/\(∀ q∈fs,ok q.1/\q.2.length < fs.length)/\mI dD ir fin gm ik (ik+1 - p') p' fs=O1 dD ir fin gm ik first/\
    ac=[Y x,Y (.ref f'),Y (.int gm),Y (.int ik),Y (.ref fl),Y (.ref sd),Y (.int (p':Int)),v7,v8,v9,sg,uo],λ ac H' ⟨h1,p',jz,X9,Ox,w7,w8,w9,Dd,Oy,h2,h⟩=>⟨ik+1 - p',Fn,h1,p',(eA8 jz X9 Ox w7 w8 w9 Dd Oy O h)⟩,?_⟩
   obtain⟨⟨d,r0'⟩,hq⟩:∃ q,fs[p]?=Y q:=⟨_,þ kz⟩;let⟨v,hv,kv⟩:=Paired.get' B4.its hq;have Ay:ok d:=(Ax _ (Û hq)).1;let⟨r,er⟩:=Option.isSome_iff_exists.mp (lH (dD:=dD) (Û hq));show(bA _ O (bA _ O (.inl (JJ fl us (p:Int) v O ⟨O,É B4.lst,hU hv,?_⟩))));show(bA _ O (bU _ _ O ⟨O,(bA _ O ⟨Fn,Fn,?_⟩)⟩));rw[show((gm:Int)+1).toNat=gm+1 by lia];show kR (lo:=0) (n:=gm+1) (λ i ac H'=>aE H H'/\∃(fs:Fs ae) (us:List V) (gn:List (L2.D×V)) (v8 v9 sg uo:Option V),BfsAt P w K dD S H' fl sd us gn fs/\p < fs.length/\fs.length<=ik/\(∀ q∈fs,ok q.1/\q.2.length < fs.length)/\fB dD fs (dD d)=Y r/\r.length < fs.length/\
    RE dD ir fin gm ik p (wH dD ir fin ik d r (gm+1 - i) (i:Nat) fs)=O1 dD ir fin gm ik first/\KeyD K H' S (dD d) v/\
    ac=[Y x,Y (.ref f'),Y (.int gm),Y (.int ik),Y (.ref fl),Y (.ref sd),Y (.int (p:Int)),Y v,v8,v9,sg,uo]) ?_ ?_ ?_
   ·show⟨s4,fs,us,gn,_,_,_,_,B4,kz,Gy,Ax,er,?_,?_,kv,O⟩
    ·obtain⟨q,sw,wa⟩:∃ q∈fs,q.2=r:=by
      unfold fB at er;let⟨q,e1,e2⟩:=é.mp er;show⟨q,List.mem_of_find?_eq_some e1,e2⟩
     rw[<- wa];show(Ax q sw).2
    ·rw[<- hb,show ik+1 - p=(ik - p)+1 by lia];show(JZ hq er O).symm
   ·rintro DD i Ya wt ac H5 hi xK;let⟨s5,fs,us,gn,w8,w9,Dd,Oy,B5,Ds,Dt,wx,Hm,jg,yf,Hn,rfl⟩:=xK;rw[Int.zero_add];have Yb:=B5.lenU;dsimp only[kB];rcases B5.val (dD d)with⟨z,_⟩|⟨r',Uc,z1,z2,z3,z4⟩
    ·rw[Hm]at z;cases z
    rw[Hm]at z1;cases z1;show⟨_,O,_,O,sd,S,gn,dD d,.ref Uc,O,B5.dic,Hn,z2,_,O,(sz0 1),λ la Kx=>⟨Uc,la,r.map V.int,[.int i],O,O,È Kx _ _ z4,a8,by rw[Ê,ĕ];change r.length+1<=_;lia,λ ra Oz=>?_⟩⟩;have s6:aE H5 (upd (upd H5 la (.lst [.int i])) ra (.lst (r.map V.int++[.int i]))):=(È Kx).trans (È Oz);have g6:upd (upd H5 la (.lst [.int i])) ra (.lst (r.map V.int++[.int i])) ra=Y (.lst ((r++[(i:Int)]).map V.int)):=by rw[a8,Ó];rfl
    have Yc:ra≠fl:=λ z=>by
     have:=(È Kx).free Oz;rw[z,B5.lst]at this;cases this
    have Yd:H ra=none:=(s5.trans (È Kx)).free Oz;generalize upd (upd H5 la (.lst [.int i])) ra (.lst (r.map V.int++[.int i]))=H6 at s6 g6 ⊢;have B6:=B5.same s6;have F6:FnH H6 f' c ob oc:=hF.same (s5.trans s6);show⟨O,F6,_,O,_,O,F6,v,d,i,O,(Hn.mono s6.ts).is,Ay,Fn,gs.stay _ _ (s5.trans s6).ts hG,λ pp y H7 s7 qp iy=>?_⟩;show⟨pp,_,O,qp,O,_,_,O,_,_,O,O,?_⟩;have B7:=B6.same s7;have Ud:ok (ir d i):=gs.next d i Ay Fn;have ky:=gs.key _ Ud H7 y iy;have Pb:gm+1 - i=(gm - i)+1:=by lia
    rw[Pb]at yf;show(bA _ O (bA _ O ?_));cases hf:fin d i with
    |true=>
     show eS ?_;rw[AD hf]at yf;have e5:O1 dD ir fin gm ik first=.ends (r++[(i:Int)]) fs:=yf.symm
     show(bA _ O (bA _ O ⟨(sz0 2),λ tp qg=>?_⟩));have s8:=È (o:=HO.tup [.ref ra,.ref fl]) qg;rw[Ya];show kE _ _ e5 tp ra fl _ (((s5.trans s6).trans s7).trans s8) (Í a8) (s8 _ _ (s7 _ _ g6)) Yd (by rw[Þ,ö];lia)
    |false=>
     show eG ?_;show⟨_,O,_,O,sd,S,gn,dD (ir d i),O,B7.dic,ky,_,O,?_⟩;rw[B7.isSome];cases Bp:(fB dD fs (dD (ir d i))).isSome with
     |true=>
      show eG ?_;rw[tH hf Bp]at yf;show wt _ _ ⟨(s5.trans s6).trans s7,fs,us,gn,_,_,_,_,B7,Ds,Dt,wx,Hm,jg,by rw[show gm+1 - (i+1)=gm - i by lia];show yf,Hn.mono (s6.trans s7).ts,O⟩
     |false=>
      show eS ?_;show(bA _ O (bU fl us O ⟨.inl (É B7.lst),(bA _ O (bU _ _ O ⟨O,(bA _ O (i9 (λ Ue=>?_) λ Uf=>?_))⟩))⟩))
      ·have Ue:(us.length:Int) ≥ ik:=by simpa using Ue
       rw[pZ hf Bp Fn]at yf;show⟨by change 1<=100;decide,kM yf.symm _ ((s5.trans s6).trans s7)⟩
      ·have Uf:¬ (us.length:Int) ≥ ik:=by simpa using Uf
       have jh:fs.length < ik:=by lia
       rw[tI hf Bp jh]at yf;show⟨_,O,_,O,_,O,sd,S,gn,dD (ir d i),O,B7.dic,ky,dH (by rw[B7.lenK];lia),λ H8 b8 d8=>?_⟩;let⟨B9,Ho⟩:=B7.put Bp ky (s7 _ _ g6) Yc b8 d8;have Hq:H8 fl=Y (.lst us):=b8 _ _ B7.ne B7.lst;show(bA _ O ⟨.inl ⟨O,_,É Hq⟩,(bA _ O (NN fl us _ O ⟨O,Hq,dH Fn,?_⟩))⟩);have s8:aE H H8:=λ b o e=>b8 b o (aI e Hl) (((s5.trans s6).trans s7) b o e);have Ye:bS fl H8 (upd H8 fl (.lst (us++[y]))):=Ú;show wt _ _ ⟨s8.put ff,_,_,_,_,_,_,_,B9,by rw[Þ];lia,by rw[Þ,ö];lia,λ q hq=>?_,HM _ Hm,by rw[Þ];lia,by rw[show gm+1 - (i+1)=gm - i by lia];show yf,((Hn.mono (s6.trans s7).ts).mono (b8.ts B7.dic.mut)).mono (Ye.ts Ho),O⟩;rw[Þ,ö];rcases ÿ.1 hq with hq|hq
       ·let⟨h1,h2⟩:=wx q hq;show⟨h1,Fn⟩
       ·rw[ù]at hq;subst hq;show⟨Ud,by change(r++[(i:Int)]).length < _;rw[Þ,ö];lia⟩
   ·
    rintro ac H5 xK;let⟨s5,fs,us,gn,w8,w9,Dd,Oy,B5,Ds,Dt,wx,Hm,jg,yf,Hn,rfl⟩:=xK;rw[Nat.sub_self]at yf;show(bA _ O (bU _ _ O ⟨O,s5,p+1,(eA8 fs us gn _ _ _ _ _ O ⟨B5,Ds,Dt,wx,?_,O⟩)⟩));rw[<- yf];change mI dD ir fin gm ik (ik+1 - (p+1)) (p+1) fs=mI dD ir fin gm ik (ik - p) (p+1) fs;rw[show ik+1 - (p+1)=ik - p by lia]
  ·
   have hN:¬ (p:Int) < us.length:=by simpa using hN
   rw[JY Fn]at hb;show(bA _ O ⟨(sz0 2),λ tp qg=>?_⟩);have s8:=È (o:=HO.tup [.non,.ref fl]) qg;have B8:=B4.same s8;show kO fs hb.symm tp fl us _ (s4.trans s8) (Í a8) B8.lst ff B8.its (λ q hq=>(Ax q hq).1) Gy
end
end Tw
namespace L2
open PySem PySem.Spec PyProof.Rows TwZ
inductive G where
 |non
 |bl (b:Bool)
 |int (i:Int)
 |str (z:Str)
 |tup (gs:List G)
 |lst (gs:List G)
mutual
def aJ (K:Ç) (H:Hp):G->V->Prop
 |.non,v=>v=.non
 |.bl b,v=>v=.bl b
 |.int i,v=>v=.int i
 |.str z,v=>v=.str z
 |.tup gs,v=>∃ a xs,v=.ref a/\aP K H a xs/\bZ K H gs xs
 |.lst gs,v=>∃ a xs,v=.ref a/\bE K H a xs/\bZ K H gs xs
def bZ (K:Ç) (H:Hp):List G->List V->Prop
 |[],vs=>vs=[]
 |g::gs,vs=>∃ v r,vs=v::r/\aJ K H g v/\bZ K H gs r
end
mutual
def aZ:G->G->Bool
 |.non,.non=>Eg
 |.bl a,.bl b=>a==b
 |.bl a,.int b=>(if a then 1 else 0)==b
 |.int a,.bl b=>a==(if b then 1 else 0)
 |.int a,.int b=>a==b
 |.str a,.str b=>a==b
 |.tup a,.tup b=>eT a b
 |.lst a,.lst b=>eT a b
 |_,_=>Eh
def eT:List G->List G->Bool
 |[],[]=>Eg
 |a::as,b::bs=>aZ a b && eT as bs
 |_,_=>Eh
end
mutual
def cB:G->Nat
 |.tup gs=>bJ gs+1
 |.lst gs=>bJ gs+1
 |_=>0
def bJ:List G->Nat
 |[]=>0
 |g::gs=>max (cB g) (bJ gs)
end
mutual
theorem gM:∀ g:G,aZ g g=Eg
 |.non=>by rw[aZ]
 |.bl b=>by rw[aZ];simp
 |.int i=>by rw[aZ];simp
 |.str z=>by rw[aZ];simp
 |.tup gs=>by rw[aZ];show rA gs
 |.lst gs=>by rw[aZ];show rA gs
theorem rA:∀ gs:List G,eT gs gs=Eg
 |[]=>by rw[eT]
 |g::gs=>by rw[eT,gM g,rA gs];rfl
end
theorem bZ.length :∀ {gs:List G}{xs:List V},bZ K H gs xs->xs.length=gs.length
 |[],_,h=>by rw[bZ]at h;subst h;rfl
 |g::gs,_,h=>by rw[bZ]at h;let⟨v,r,rfl,_,h⟩:=h;rw[Ý,Ý,bZ.length h]
theorem bZ.get :∀ {gs:List G}{xs:List V}{i:Nat}{g:G},bZ K H gs xs->gs[i]?=Y g->∃ x,xs[i]?=Y x/\aJ K H g x
 |[],_,_,_,_,e=>by simp at e
 |g::gs,_,0,g',h,e=>by rw[bZ]at h;let⟨v,r,rfl,h1,_⟩:=h;simp at e;subst e;show⟨v,G0,h1⟩
 |g::gs,_,i+1,g',h,e=>by
  rw[bZ]at h;let⟨v,r,rfl,_,h⟩:=h;let⟨x,h1,h2⟩:=bZ.get h (i:=i) (by simpa using e);show⟨x,by simpa using h1,h2⟩
theorem gW :∀ {gs:List G},g∈gs->cB g<=bJ gs
 |[],h=>by cases h
 |a::gs,h=>by
  rw[bJ];rcases Ò.1 h with rfl|h
  ·lia
  ·have:=gW h;lia
def VC (gs hs:List G) (j:Nat):Bool:=match gs[j]?,hs[j]? with
 |some g,Y h=>aZ g h
 |_,_=>Eg
theorem lX (n:Nat) (e:Nat->Bool):(List.range (n+1)).all e=(e 0 && (List.range n).all λ j=>e (j+1)):=by
 rw[afd,ago,List.all_map];rfl
theorem tK:∀(gs hs:List G),gs.length=hs.length->(List.range gs.length).all (VC gs hs)=eT gs hs
 |[],[],_=>by rw[eT];rfl
 |[],_::_,h=>by simp at h
 |_::_,[],h=>by simp at h
 |g::gs,h::hs,hl=>by
  rw[Ý,lX,eT,<- tK gs hs (by simpa using hl)];congr 1
theorem qB:∀(gs hs:List G),((List.range (min gs.length hs.length)).all (VC gs hs) && gs.length==hs.length)=eT gs hs
 |[],[]=>by rw[eT];rfl
 |[],_::_=>by simp[eT]
 |_::_,[]=>by simp[eT]
 |g::gs,h::hs=>by
  have e1:min (g::gs).length (h::hs).length=min gs.length hs.length+1:=by rw[Ý,Ý];lia
  have e2:((g::gs).length==(h::hs).length)=(gs.length==hs.length):=by simp
  rw[e1,e2,lX,eT,<- qB gs hs,Bool.and_assoc];congr 1
theorem pT:∀(gs hs:List G),gs.length≠hs.length->eT gs hs=Eh
 |[],[],h=>absurd rfl h
 |[],_::_,_=>by simp[eT]
 |_::_,[],_=>by simp[eT]
 |g::gs,h::hs,hl=>by rw[eT,pT gs hs (by simpa using hl),Bool.and_false]
theorem A1 {h:Heap}{a:Á}{xs ys:Array À} (h1:h.IsTuple a xs) (h2:h.IsTuple a ys):xs=ys:=by
 let⟨o,e,_,n,d⟩:=h1;let⟨o',e',_,n',d'⟩:=h2;rw[e]at e';cases e';rw[d]at d';injection d'
theorem CN {h:Heap}{a:Á}{xs ys:Array À} (h1:h.IsList a xs) (h2:h.IsList a ys):xs=ys:=by
 let⟨o,e,_,n,d⟩:=h1;let⟨o',e',_,n',d'⟩:=h2;rw[e]at e';cases e';rw[d]at d';injection d'
section
variable {X:Cx}{gj:List (Á×Obj)}{σ:St}{H:Hp}{s:Â}
mutual
theorem KH (I:Inv X gj σ H s):∀(g h:G) (x y:V) (u:À),aJ X.K H g x->aJ X.K H h y->aX x u->aX y u->g=h
 |.non,h,x,y,u,hx,hy,rx,ry=>by
  rw[aJ]at hx;subst hx;cases rx;cases h <;> rw[aJ]at hy
  ·subst hy;cases ry
  ·subst hy;let⟨_,e⟩:=ry;cases e
  ·subst hy;let⟨_,e⟩:=ry;cases e
  ·let⟨_,_,rfl,_⟩:=hy;cases ry
  ·let⟨_,_,rfl,_⟩:=hy;cases ry
 |.bl b,h,x,y,u,hx,hy,rx,ry=>by
  rw[aJ]at hx;subst hx;cases rx;cases h <;> rw[aJ]at hy
  ·subst hy;cases ry
  ·subst hy;injection ry with e;rw[e]
  ·subst hy;let⟨_,e⟩:=ry;cases e
  ·subst hy;let⟨_,e⟩:=ry;cases e
  ·let⟨_,_,rfl,_⟩:=hy;cases ry
  ·let⟨_,_,rfl,_⟩:=hy;cases ry
 |.int b,h,x,y,u,hx,hy,rx,ry=>by
  rw[aJ]at hx;subst hx;let⟨t,rfl⟩:=rx;cases h <;> rw[aJ]at hy
  ·subst hy;cases ry
  ·subst hy;cases ry
  ·subst hy;let⟨_,e⟩:=ry;injection e with e;rw[e]
  ·subst hy;let⟨_,e⟩:=ry;cases e
  ·let⟨_,_,rfl,_⟩:=hy;cases ry
  ·let⟨_,_,rfl,_⟩:=hy;cases ry
 |.str b,h,x,y,u,hx,hy,rx,ry=>by
  rw[aJ]at hx;subst hx;let⟨t,rfl⟩:=rx;cases h <;> rw[aJ]at hy
  ·subst hy;cases ry
  ·subst hy;cases ry
  ·subst hy;let⟨_,e⟩:=ry;cases e
  ·subst hy;let⟨_,e⟩:=ry;injection e with e;rw[e]
  ·let⟨_,_,rfl,_⟩:=hy;cases ry
  ·let⟨_,_,rfl,_⟩:=hy;cases ry
 |.tup gs,h,x,y,u,hx,hy,rx,ry=>by
  rw[aJ]at hx;let⟨a,xs,rfl,q1,l1⟩:=hx;cases rx;cases h <;> rw[aJ]at hy
  ·subst hy;cases ry
  ·subst hy;cases ry
  ·subst hy;let⟨_,e⟩:=ry;cases e
  ·subst hy;let⟨_,e⟩:=ry;cases e
  ·let⟨b,ys,rfl,q2,l2⟩:=hy;cases ry;let⟨us,r1,p1,_⟩:=I.tuple q1;let⟨vs,r2,p2,_⟩:=I.tuple q2;have e:=A1 p1 p2;have e':us=vs:=by simpa using e
   subst e';rw[DN I gs _ xs ys us l1 l2 r1 r2]
  ·let⟨b,ys,rfl,q2,l2⟩:=hy;cases ry;let⟨us,r1,p1,_⟩:=I.tuple q1;let⟨vs,r2,p2,_⟩:=I.list q2;show absurd O (SeqAt.ne_of_list_tuple p2.isList p1)
 |.lst gs,h,x,y,u,hx,hy,rx,ry=>by
  rw[aJ]at hx;let⟨a,xs,rfl,q1,l1⟩:=hx;cases rx;cases h <;> rw[aJ]at hy
  ·subst hy;cases ry
  ·subst hy;cases ry
  ·subst hy;let⟨_,e⟩:=ry;cases e
  ·subst hy;let⟨_,e⟩:=ry;cases e
  ·let⟨b,ys,rfl,q2,l2⟩:=hy;cases ry;let⟨us,r1,p1,_⟩:=I.list q1;let⟨vs,r2,p2,_⟩:=I.tuple q2;show absurd O (SeqAt.ne_of_list_tuple p1.isList p2)
  ·let⟨b,ys,rfl,q2,l2⟩:=hy;cases ry;let⟨us,r1,p1,_⟩:=I.list q1;let⟨vs,r2,p2,_⟩:=I.list q2;have e:=CN p1.isList p2.isList;have e':us=vs:=by simpa using e
   subst e';rw[DN I gs _ xs ys us l1 l2 r1 r2]
theorem DN (I:Inv X gj σ H s):∀(gs hs:List G) (xs ys:List V) (us:List À),bZ X.K H gs xs->bZ X.K H hs ys->bI xs us->bI ys us->gs=hs
 |[],hs,xs,ys,us,h1,h2,r1,r2=>by
  rw[bZ]at h1;subst h1;cases r1;cases r2;cases hs with
  |nil=>rfl
  |cons h hs=>rw[bZ]at h2;let⟨_,_,e,_⟩:=h2;cases e
 |g::gs,hs,xs,ys,us,h1,h2,r1,r2=>by
  rw[bZ]at h1;let⟨x,r,rfl,i1,l1⟩:=h1;cases r1 with
  |cons ra rb=>
   cases hs with
   |nil=>rw[bZ]at h2;subst h2;cases r2
   |cons h hs=>
    rw[bZ]at h2;let⟨y,r',rfl,i2,l2⟩:=h2;cases r2 with
    |cons Yf Yg=>rw[KH I g h _ _ _ i1 i2 ra Yf,DN I gs hs _ _ _ l1 l2 rb Yg]
end
theorem GO {us:List À}{w:À} (h1:j < us.toArray.size) (h:us[j]?=Y w):us.toArray[j]=w:=by
 have:us[j]?=Y us.toArray[j]:=by simp
 rw[this]at h;show ç h
theorem n4 {n:Nat}
  (ih:∀(g h:G) (x y:V) (u v:À),g∈gs->aJ X.K H g x->aJ X.K H h y->aX x u->aX y v->SeqAt.EqAt A s u v (aZ g h))
  (l1:bZ X.K H gs xs) (l2:bZ X.K H hs ys) (r1:bI xs us) (r2:bI ys vs) (j:Nat) (h1:j < us.toArray.size) (h2:j < vs.toArray.size):SeqAt.EqAt A s us.toArray[j] vs.toArray[j] (VC gs hs j):=by
 have e1:=r1.length;have e2:=r2.length;have e3:=l1.length;have e4:=l2.length;have j1:j < gs.length:=by rw[<- e3,e1];simpa using h1
 have j2:j < hs.length:=by rw[<- e4,e2];simpa using h2
 let⟨x,gx,ix⟩:=l1.get (i:=j) (g:=gs[j]) G0;let⟨y,gy,iy⟩:=l2.get (i:=j) (g:=hs[j]) G0;let⟨w1,g1,t1⟩:=r1.get gx;let⟨w2,g2,t2⟩:=r2.get gy;rw[GO h1 g1,GO h2 g2];have:VC gs hs j=aZ gs[j] hs[j]:=by unfold VC;simp[j1,j2]
 rw[this];show ih _ _ x y w1 w2 (Ĥ j1) ix iy t1 t2
theorem yC (I:Inv X gj σ H s):∀(n:Nat) (g h:G) (A:Around) (x y:V) (u v:À),cB g<=n->A.units+n < cLine->aJ X.K H g x->aJ X.K H h y->aX x u->aX y v->SeqAt.EqAt A s u v (aZ g h)
 |n,.non,.non,A,x,y,u,v,hd,hu,hx,hy,rx,ry=>by
  rw[aJ]at hx;subst hx;cases rx;rw[aJ]at hy;subst hy;cases ry;rw[aZ];show ň _
 |n,.non,.bl gy,A,x,y,u,v,hd,hu,hx,hy,rx,ry=>by
  rw[aJ]at hx;subst hx;cases rx;rw[aJ]at hy;subst hy;cases ry;rw[show aZ (.non) (.bl gy)=Eh from by simp[aZ]];show SeqAt.EqAt.none_bool gy
 |n,.non,.int gy,A,x,y,u,v,hd,hu,hx,hy,rx,ry=>by
  rw[aJ]at hx;subst hx;cases rx;rw[aJ]at hy;subst hy;let⟨ty,rfl⟩:=ry;rw[show aZ (.non) (.int gy)=Eh from by simp[aZ]];show af0 gy ty
 |n,.non,.str gy,A,x,y,u,v,hd,hu,hx,hy,rx,ry=>by
  rw[aJ]at hx;subst hx;cases rx;rw[aJ]at hy;subst hy;let⟨ty,rfl⟩:=ry;rw[show aZ (.non) (.str gy)=Eh from by simp[aZ]];show af1 gy ty
 |n,.non,.tup gy,A,x,y,u,v,hd,hu,hx,hy,rx,ry=>by
  rw[aJ]at hx;subst hx;cases rx;rw[aJ]at hy;let⟨ay,ki,rfl,qy,ly⟩:=hy;cases ry;let⟨jw,vy,py,_⟩:=I.tuple qy;rw[show aZ (.non) (.tup gy)=Eh from by simp[aZ]];show SeqAt.EqAt.none_tuple py Fn
 |n,.non,.lst gy,A,x,y,u,v,hd,hu,hx,hy,rx,ry=>by
  rw[aJ]at hx;subst hx;cases rx;rw[aJ]at hy;let⟨ay,ki,rfl,qy,ly⟩:=hy;cases ry;let⟨jw,vy,py,_⟩:=I.list qy;rw[show aZ (.non) (.lst gy)=Eh from by simp[aZ]];show SeqAt.EqAt.none_list py.isList Fn
 |n,.bl gx,.non,A,x,y,u,v,hd,hu,hx,hy,rx,ry=>by
  rw[aJ]at hx;subst hx;cases rx;rw[aJ]at hy;subst hy;cases ry;rw[show aZ (.bl gx) (.non)=Eh from by simp[aZ]];show SeqAt.EqAt.bool_none gx
 |n,.bl gx,.bl gy,A,x,y,u,v,hd,hu,hx,hy,rx,ry=>by
  rw[aJ]at hx;subst hx;cases rx;rw[aJ]at hy;subst hy;cases ry;rw[aZ];show afs gx gy
 |n,.bl gx,.int gy,A,x,y,u,v,hd,hu,hx,hy,rx,ry=>by
  rw[aJ]at hx;subst hx;cases rx;rw[aJ]at hy;subst hy;let⟨ty,rfl⟩:=ry;rw[aZ];show SeqAt.EqAt.bool_int gx gy ty
 |n,.bl gx,.str gy,A,x,y,u,v,hd,hu,hx,hy,rx,ry=>by
  rw[aJ]at hx;subst hx;cases rx;rw[aJ]at hy;subst hy;let⟨ty,rfl⟩:=ry;rw[show aZ (.bl gx) (.str gy)=Eh from by simp[aZ]];show SeqAt.EqAt.bool_str gx gy ty
 |n,.bl gx,.tup gy,A,x,y,u,v,hd,hu,hx,hy,rx,ry=>by
  rw[aJ]at hx;subst hx;cases rx;rw[aJ]at hy;let⟨ay,ki,rfl,qy,ly⟩:=hy;cases ry;let⟨jw,vy,py,_⟩:=I.tuple qy;rw[show aZ (.bl gx) (.tup gy)=Eh from by simp[aZ]];show SeqAt.EqAt.bool_tuple gx py Fn
 |n,.bl gx,.lst gy,A,x,y,u,v,hd,hu,hx,hy,rx,ry=>by
  rw[aJ]at hx;subst hx;cases rx;rw[aJ]at hy;let⟨ay,ki,rfl,qy,ly⟩:=hy;cases ry;let⟨jw,vy,py,_⟩:=I.list qy;rw[show aZ (.bl gx) (.lst gy)=Eh from by simp[aZ]];show SeqAt.EqAt.bool_list gx py.isList Fn
 |n,.int gx,.non,A,x,y,u,v,hd,hu,hx,hy,rx,ry=>by
  rw[aJ]at hx;subst hx;let⟨tx,rfl⟩:=rx;rw[aJ]at hy;subst hy;cases ry;rw[show aZ (.int gx) (.non)=Eh from by simp[aZ]];show afy gx tx
 |n,.int gx,.bl gy,A,x,y,u,v,hd,hu,hx,hy,rx,ry=>by
  rw[aJ]at hx;subst hx;let⟨tx,rfl⟩:=rx;rw[aJ]at hy;subst hy;cases ry;rw[aZ];show SeqAt.EqAt.int_bool gx tx gy
 |n,.int gx,.int gy,A,x,y,u,v,hd,hu,hx,hy,rx,ry=>by
  rw[aJ]at hx;subst hx;let⟨tx,rfl⟩:=rx;rw[aJ]at hy;subst hy;let⟨ty,rfl⟩:=ry;rw[aZ];show ű gx tx gy ty
 |n,.int gx,.str gy,A,x,y,u,v,hd,hu,hx,hy,rx,ry=>by
  rw[aJ]at hx;subst hx;let⟨tx,rfl⟩:=rx;rw[aJ]at hy;subst hy;let⟨ty,rfl⟩:=ry;rw[show aZ (.int gx) (.str gy)=Eh from by simp[aZ]];show aga gx tx gy ty
 |n,.int gx,.tup gy,A,x,y,u,v,hd,hu,hx,hy,rx,ry=>by
  rw[aJ]at hx;subst hx;let⟨tx,rfl⟩:=rx;rw[aJ]at hy;let⟨ay,ki,rfl,qy,ly⟩:=hy;cases ry;let⟨jw,vy,py,_⟩:=I.tuple qy;rw[show aZ (.int gx) (.tup gy)=Eh from by simp[aZ]];show SeqAt.EqAt.int_tuple gx tx py Fn
 |n,.int gx,.lst gy,A,x,y,u,v,hd,hu,hx,hy,rx,ry=>by
  rw[aJ]at hx;subst hx;let⟨tx,rfl⟩:=rx;rw[aJ]at hy;let⟨ay,ki,rfl,qy,ly⟩:=hy;cases ry;let⟨jw,vy,py,_⟩:=I.list qy;rw[show aZ (.int gx) (.lst gy)=Eh from by simp[aZ]];show SeqAt.EqAt.int_list gx tx py.isList Fn
 |n,.str gx,.non,A,x,y,u,v,hd,hu,hx,hy,rx,ry=>by
  rw[aJ]at hx;subst hx;let⟨tx,rfl⟩:=rx;rw[aJ]at hy;subst hy;cases ry;rw[show aZ (.str gx) (.non)=Eh from by simp[aZ]];show afz gx tx
 |n,.str gx,.bl gy,A,x,y,u,v,hd,hu,hx,hy,rx,ry=>by
  rw[aJ]at hx;subst hx;let⟨tx,rfl⟩:=rx;rw[aJ]at hy;subst hy;cases ry;rw[show aZ (.str gx) (.bl gy)=Eh from by simp[aZ]];show SeqAt.EqAt.str_bool gx tx gy
 |n,.str gx,.int gy,A,x,y,u,v,hd,hu,hx,hy,rx,ry=>by
  rw[aJ]at hx;subst hx;let⟨tx,rfl⟩:=rx;rw[aJ]at hy;subst hy;let⟨ty,rfl⟩:=ry;rw[show aZ (.str gx) (.int gy)=Eh from by simp[aZ]];show agb gx tx gy ty
 |n,.str gx,.str gy,A,x,y,u,v,hd,hu,hx,hy,rx,ry=>by
  rw[aJ]at hx;subst hx;let⟨tx,rfl⟩:=rx;rw[aJ]at hy;subst hy;let⟨ty,rfl⟩:=ry;rw[aZ];show SeqAt.EqAt.str_str gx tx gy ty
 |n,.str gx,.tup gy,A,x,y,u,v,hd,hu,hx,hy,rx,ry=>by
  rw[aJ]at hx;subst hx;let⟨tx,rfl⟩:=rx;rw[aJ]at hy;let⟨ay,ki,rfl,qy,ly⟩:=hy;cases ry;let⟨jw,vy,py,_⟩:=I.tuple qy;rw[show aZ (.str gx) (.tup gy)=Eh from by simp[aZ]];show SeqAt.EqAt.str_tuple gx tx py Fn
 |n,.str gx,.lst gy,A,x,y,u,v,hd,hu,hx,hy,rx,ry=>by
  rw[aJ]at hx;subst hx;let⟨tx,rfl⟩:=rx;rw[aJ]at hy;let⟨ay,ki,rfl,qy,ly⟩:=hy;cases ry;let⟨jw,vy,py,_⟩:=I.list qy;rw[show aZ (.str gx) (.lst gy)=Eh from by simp[aZ]];show SeqAt.EqAt.str_list gx tx py.isList Fn
 |n,.tup gx,.non,A,x,y,u,v,hd,hu,hx,hy,rx,ry=>by
  rw[aJ]at hx;let⟨ax,kj,rfl,qx,lx⟩:=hx;cases rx;let⟨jx,vx,px,_⟩:=I.tuple qx;rw[aJ]at hy;subst hy;cases ry;rw[show aZ (.tup gx) (.non)=Eh from by simp[aZ]];show SeqAt.EqAt.tuple_none px Fn
 |n,.tup gx,.bl gy,A,x,y,u,v,hd,hu,hx,hy,rx,ry=>by
  rw[aJ]at hx;let⟨ax,kj,rfl,qx,lx⟩:=hx;cases rx;let⟨jx,vx,px,_⟩:=I.tuple qx;rw[aJ]at hy;subst hy;cases ry;rw[show aZ (.tup gx) (.bl gy)=Eh from by simp[aZ]];show SeqAt.EqAt.tuple_bool gy px Fn
 |n,.tup gx,.int gy,A,x,y,u,v,hd,hu,hx,hy,rx,ry=>by
  rw[aJ]at hx;let⟨ax,kj,rfl,qx,lx⟩:=hx;cases rx;let⟨jx,vx,px,_⟩:=I.tuple qx;rw[aJ]at hy;subst hy;let⟨ty,rfl⟩:=ry;rw[show aZ (.tup gx) (.int gy)=Eh from by simp[aZ]];show SeqAt.EqAt.tuple_int gy ty px Fn
 |n,.tup gx,.str gy,A,x,y,u,v,hd,hu,hx,hy,rx,ry=>by
  rw[aJ]at hx;let⟨ax,kj,rfl,qx,lx⟩:=hx;cases rx;let⟨jx,vx,px,_⟩:=I.tuple qx;rw[aJ]at hy;subst hy;let⟨ty,rfl⟩:=ry;rw[show aZ (.tup gx) (.str gy)=Eh from by simp[aZ]];show SeqAt.EqAt.tuple_str gy ty px Fn
 |0,.tup gx,.tup gy,A,x,y,u,v,hd,_,_,_,_,_=>by rw[cB]at hd;lia
 |n+1,.tup gx,.tup gy,A,x,y,u,v,hd,hu,hx,hy,rx,ry=>by
  rw[aJ]at hx;let⟨ax,kj,rfl,qx,lx⟩:=hx;cases rx;let⟨jx,vx,px,_⟩:=I.tuple qx;rw[aJ]at hy;let⟨ay,ki,rfl,qy,ly⟩:=hy;cases ry;let⟨jw,vy,py,_⟩:=I.tuple qy
  by_cases xh:ax=ay
  ·subst xh;have e:=KH I (.tup gx) (.tup gy) (.ref ax) (.ref ax) _ (by rw[aJ];show⟨_,_,O,qx,lx⟩) (by rw[aJ];show⟨_,_,O,qy,ly⟩) rfl rfl;rw[e,gM];show ň _
  have e1:=vx.length;have e2:=vy.length;have e3:=lx.length;have e4:=ly.length;rw[show aZ (.tup gx) (.tup gy)=eT gx gy from by rw[aZ],<- qB gx gy];have ex:gx.length=jx.toArray.size:=by rw[<- e3,e1,Ü]
  have ey:gy.length=jw.toArray.size:=by rw[<- e4,e2,Ü]
  rw[ex,ey];show ų xh ?_;show agl px py Fn (λ j h1 h2=>n4 (n:=0) (λ g h x y u v hm ix iy tx ty=>yC I n g h A.in1 x y u v (by have:=gW hm;rw[cB]at hd;lia) (by change A.units+1+n < cLine;lia) ix iy tx ty) lx ly vx vy j h1 h2)
 |n,.tup gx,.lst gy,A,x,y,u,v,hd,hu,hx,hy,rx,ry=>by
  rw[aJ]at hx;let⟨ax,kj,rfl,qx,lx⟩:=hx;cases rx;let⟨jx,vx,px,_⟩:=I.tuple qx;rw[aJ]at hy;let⟨ay,ki,rfl,qy,ly⟩:=hy;cases ry;let⟨jw,vy,py,_⟩:=I.list qy;rw[show aZ (.tup gx) (.lst gy)=Eh from by simp[aZ]];show SeqAt.EqAt.tuple_list px py.isList Fn
 |n,.lst gx,.non,A,x,y,u,v,hd,hu,hx,hy,rx,ry=>by
  rw[aJ]at hx;let⟨ax,kj,rfl,qx,lx⟩:=hx;cases rx;let⟨jx,vx,px,_⟩:=I.list qx;rw[aJ]at hy;subst hy;cases ry;rw[show aZ (.lst gx) (.non)=Eh from by simp[aZ]];show SeqAt.EqAt.list_none px.isList Fn
 |n,.lst gx,.bl gy,A,x,y,u,v,hd,hu,hx,hy,rx,ry=>by
  rw[aJ]at hx;let⟨ax,kj,rfl,qx,lx⟩:=hx;cases rx;let⟨jx,vx,px,_⟩:=I.list qx;rw[aJ]at hy;subst hy;cases ry;rw[show aZ (.lst gx) (.bl gy)=Eh from by simp[aZ]];show SeqAt.EqAt.list_bool gy px.isList Fn
 |n,.lst gx,.int gy,A,x,y,u,v,hd,hu,hx,hy,rx,ry=>by
  rw[aJ]at hx;let⟨ax,kj,rfl,qx,lx⟩:=hx;cases rx;let⟨jx,vx,px,_⟩:=I.list qx;rw[aJ]at hy;subst hy;let⟨ty,rfl⟩:=ry;rw[show aZ (.lst gx) (.int gy)=Eh from by simp[aZ]];show SeqAt.EqAt.list_int gy ty px.isList Fn
 |n,.lst gx,.str gy,A,x,y,u,v,hd,hu,hx,hy,rx,ry=>by
  rw[aJ]at hx;let⟨ax,kj,rfl,qx,lx⟩:=hx;cases rx;let⟨jx,vx,px,_⟩:=I.list qx;rw[aJ]at hy;subst hy;let⟨ty,rfl⟩:=ry;rw[show aZ (.lst gx) (.str gy)=Eh from by simp[aZ]];show SeqAt.EqAt.list_str gy ty px.isList Fn
 |n,.lst gx,.tup gy,A,x,y,u,v,hd,hu,hx,hy,rx,ry=>by
  rw[aJ]at hx;let⟨ax,kj,rfl,qx,lx⟩:=hx;cases rx;let⟨jx,vx,px,_⟩:=I.list qx;rw[aJ]at hy;let⟨ay,ki,rfl,qy,ly⟩:=hy;cases ry;let⟨jw,vy,py,_⟩:=I.tuple qy;rw[show aZ (.lst gx) (.tup gy)=Eh from by simp[aZ]];show SeqAt.EqAt.list_tuple px.isList py Fn
 |0,.lst gx,.lst gy,A,x,y,u,v,hd,_,_,_,_,_=>by rw[cB]at hd;lia
 |n+1,.lst gx,.lst gy,A,x,y,u,v,hd,hu,hx,hy,rx,ry=>by
  rw[aJ]at hx;let⟨ax,kj,rfl,qx,lx⟩:=hx;cases rx;let⟨jx,vx,px,_⟩:=I.list qx;rw[aJ]at hy;let⟨ay,ki,rfl,qy,ly⟩:=hy;cases ry;let⟨jw,vy,py,_⟩:=I.list qy
  by_cases xh:ax=ay
  ·subst xh;have e:=KH I (.lst gx) (.lst gy) (.ref ax) (.ref ax) _ (by rw[aJ];show⟨_,_,O,qx,lx⟩) (by rw[aJ];show⟨_,_,O,qy,ly⟩) rfl rfl;rw[e,gM];show ň _
  have e1:=vx.length;have e2:=vy.length;have e3:=lx.length;have e4:=ly.length;rw[show aZ (.lst gx) (.lst gy)=eT gx gy from by rw[aZ]];have ex:gx.length=jx.toArray.size:=by rw[<- e3,e1,Ü]
  have ey:gy.length=jw.toArray.size:=by rw[<- e4,e2,Ü]
  by_cases hl:gx.length=gy.length
  ·rw[<- tK gx gy hl,ex];show ų xh ?_;show SeqAt.RcAt.lists px.isList py.isList Fn Fn (λ j h1 h2=>n4 (n:=0) (λ g h x y u v hm ix iy tx ty=>yC I n g h A.in1 x y u v (by have:=gW hm;rw[cB]at hd;lia) (by change A.units+1+n < cLine;lia) ix iy tx ty) lx ly vx vy j h1 h2)
  ·rw[pT gx gy hl];show ų xh ?_;show SeqAt.RcAt.lists_lengths px.isList py.isList (by rw[<- ex,<- ey];simpa using hl) Fn
theorem rcG (I:Inv X gj σ H s) (hu:A.units+40 < cLine):∀(g h:G) (x y:V) (u v:À),cB g<=30->aJ X.K H g x->aJ X.K H h y->aX x u->aX y v->SeqAt.RcAt A s u v (aZ g h)
 |.non,.non,x,y,u,v,hd,hx,hy,rx,ry=>by
  rw[aJ]at hx;subst hx;cases rx;rw[aJ]at hy;subst hy;cases ry;rw[aZ];show SeqAt.RcAt.none_none
 |.non,.bl gy,x,y,u,v,hd,hx,hy,rx,ry=>by
  rw[aJ]at hx;subst hx;cases rx;rw[aJ]at hy;subst hy;cases ry;rw[show aZ (.non) (.bl gy)=Eh from by simp[aZ]];show SeqAt.RcAt.none_bool gy
 |.non,.int gy,x,y,u,v,hd,hx,hy,rx,ry=>by
  rw[aJ]at hx;subst hx;cases rx;rw[aJ]at hy;subst hy;let⟨ty,rfl⟩:=ry;rw[show aZ (.non) (.int gy)=Eh from by simp[aZ]];show SeqAt.RcAt.none_int gy ty
 |.non,.str gy,x,y,u,v,hd,hx,hy,rx,ry=>by
  rw[aJ]at hx;subst hx;cases rx;rw[aJ]at hy;subst hy;let⟨ty,rfl⟩:=ry;rw[show aZ (.non) (.str gy)=Eh from by simp[aZ]];show SeqAt.RcAt.none_str gy ty
 |.non,.tup gy,x,y,u,v,hd,hx,hy,rx,ry=>by
  rw[aJ]at hx;subst hx;cases rx;rw[aJ]at hy;let⟨ay,ki,rfl,qy,ly⟩:=hy;cases ry;let⟨jw,vy,py,_⟩:=I.tuple qy;rw[show aZ (.non) (.tup gy)=Eh from by simp[aZ]];show SeqAt.RcAt.none_tuple py Fn
 |.non,.lst gy,x,y,u,v,hd,hx,hy,rx,ry=>by
  rw[aJ]at hx;subst hx;cases rx;rw[aJ]at hy;let⟨ay,ki,rfl,qy,ly⟩:=hy;cases ry;let⟨jw,vy,py,_⟩:=I.list qy;rw[show aZ (.non) (.lst gy)=Eh from by simp[aZ]];show SeqAt.RcAt.none_list py.isList Fn
 |.bl gx,.non,x,y,u,v,hd,hx,hy,rx,ry=>by
  rw[aJ]at hx;subst hx;cases rx;rw[aJ]at hy;subst hy;cases ry;rw[show aZ (.bl gx) (.non)=Eh from by simp[aZ]];show SeqAt.RcAt.bool_none gx
 |.bl gx,.bl gy,x,y,u,v,hd,hx,hy,rx,ry=>by
  rw[aJ]at hx;subst hx;cases rx;rw[aJ]at hy;subst hy;cases ry;rw[aZ];show SeqAt.RcAt.bool_bool gx gy
 |.bl gx,.int gy,x,y,u,v,hd,hx,hy,rx,ry=>by
  rw[aJ]at hx;subst hx;cases rx;rw[aJ]at hy;subst hy;let⟨ty,rfl⟩:=ry;rw[aZ];show SeqAt.RcAt.bool_int gx gy ty
 |.bl gx,.str gy,x,y,u,v,hd,hx,hy,rx,ry=>by
  rw[aJ]at hx;subst hx;cases rx;rw[aJ]at hy;subst hy;let⟨ty,rfl⟩:=ry;rw[show aZ (.bl gx) (.str gy)=Eh from by simp[aZ]];show SeqAt.RcAt.bool_str gx gy ty
 |.bl gx,.tup gy,x,y,u,v,hd,hx,hy,rx,ry=>by
  rw[aJ]at hx;subst hx;cases rx;rw[aJ]at hy;let⟨ay,ki,rfl,qy,ly⟩:=hy;cases ry;let⟨jw,vy,py,_⟩:=I.tuple qy;rw[show aZ (.bl gx) (.tup gy)=Eh from by simp[aZ]];show SeqAt.RcAt.bool_tuple gx py Fn
 |.bl gx,.lst gy,x,y,u,v,hd,hx,hy,rx,ry=>by
  rw[aJ]at hx;subst hx;cases rx;rw[aJ]at hy;let⟨ay,ki,rfl,qy,ly⟩:=hy;cases ry;let⟨jw,vy,py,_⟩:=I.list qy;rw[show aZ (.bl gx) (.lst gy)=Eh from by simp[aZ]];show SeqAt.RcAt.bool_list gx py.isList Fn
 |.int gx,.non,x,y,u,v,hd,hx,hy,rx,ry=>by
  rw[aJ]at hx;subst hx;let⟨tx,rfl⟩:=rx;rw[aJ]at hy;subst hy;cases ry;rw[show aZ (.int gx) (.non)=Eh from by simp[aZ]];show SeqAt.RcAt.int_none gx tx
 |.int gx,.bl gy,x,y,u,v,hd,hx,hy,rx,ry=>by
  rw[aJ]at hx;subst hx;let⟨tx,rfl⟩:=rx;rw[aJ]at hy;subst hy;cases ry;rw[aZ];show SeqAt.RcAt.int_bool gx tx gy
 |.int gx,.int gy,x,y,u,v,hd,hx,hy,rx,ry=>by
  rw[aJ]at hx;subst hx;let⟨tx,rfl⟩:=rx;rw[aJ]at hy;subst hy;let⟨ty,rfl⟩:=ry;rw[aZ];show SeqAt.RcAt.int_int gx tx gy ty
 |.int gx,.str gy,x,y,u,v,hd,hx,hy,rx,ry=>by
  rw[aJ]at hx;subst hx;let⟨tx,rfl⟩:=rx;rw[aJ]at hy;subst hy;let⟨ty,rfl⟩:=ry;rw[show aZ (.int gx) (.str gy)=Eh from by simp[aZ]];show SeqAt.RcAt.int_str gx tx gy ty
 |.int gx,.tup gy,x,y,u,v,hd,hx,hy,rx,ry=>by
  rw[aJ]at hx;subst hx;let⟨tx,rfl⟩:=rx;rw[aJ]at hy;let⟨ay,ki,rfl,qy,ly⟩:=hy;cases ry;let⟨jw,vy,py,_⟩:=I.tuple qy;rw[show aZ (.int gx) (.tup gy)=Eh from by simp[aZ]];show SeqAt.RcAt.int_tuple gx tx py Fn
 |.int gx,.lst gy,x,y,u,v,hd,hx,hy,rx,ry=>by
  rw[aJ]at hx;subst hx;let⟨tx,rfl⟩:=rx;rw[aJ]at hy;let⟨ay,ki,rfl,qy,ly⟩:=hy;cases ry;let⟨jw,vy,py,_⟩:=I.list qy;rw[show aZ (.int gx) (.lst gy)=Eh from by simp[aZ]];show SeqAt.RcAt.int_list gx tx py.isList Fn
 |.str gx,.non,x,y,u,v,hd,hx,hy,rx,ry=>by
  rw[aJ]at hx;subst hx;let⟨tx,rfl⟩:=rx;rw[aJ]at hy;subst hy;cases ry;rw[show aZ (.str gx) (.non)=Eh from by simp[aZ]];show SeqAt.RcAt.str_none gx tx
 |.str gx,.bl gy,x,y,u,v,hd,hx,hy,rx,ry=>by
  rw[aJ]at hx;subst hx;let⟨tx,rfl⟩:=rx;rw[aJ]at hy;subst hy;cases ry;rw[show aZ (.str gx) (.bl gy)=Eh from by simp[aZ]];show SeqAt.RcAt.str_bool gx tx gy
 |.str gx,.int gy,x,y,u,v,hd,hx,hy,rx,ry=>by
  rw[aJ]at hx;subst hx;let⟨tx,rfl⟩:=rx;rw[aJ]at hy;subst hy;let⟨ty,rfl⟩:=ry;rw[show aZ (.str gx) (.int gy)=Eh from by simp[aZ]];show SeqAt.RcAt.str_int gx tx gy ty
 |.str gx,.str gy,x,y,u,v,hd,hx,hy,rx,ry=>by
  rw[aJ]at hx;subst hx;let⟨tx,rfl⟩:=rx;rw[aJ]at hy;subst hy;let⟨ty,rfl⟩:=ry;rw[aZ];show SeqAt.RcAt.str_str gx tx gy ty
 |.str gx,.tup gy,x,y,u,v,hd,hx,hy,rx,ry=>by
  rw[aJ]at hx;subst hx;let⟨tx,rfl⟩:=rx;rw[aJ]at hy;let⟨ay,ki,rfl,qy,ly⟩:=hy;cases ry;let⟨jw,vy,py,_⟩:=I.tuple qy;rw[show aZ (.str gx) (.tup gy)=Eh from by simp[aZ]];show SeqAt.RcAt.str_tuple gx tx py Fn
 |.str gx,.lst gy,x,y,u,v,hd,hx,hy,rx,ry=>by
  rw[aJ]at hx;subst hx;let⟨tx,rfl⟩:=rx;rw[aJ]at hy;let⟨ay,ki,rfl,qy,ly⟩:=hy;cases ry;let⟨jw,vy,py,_⟩:=I.list qy;rw[show aZ (.str gx) (.lst gy)=Eh from by simp[aZ]];show SeqAt.RcAt.str_list gx tx py.isList Fn
 |.tup gx,.non,x,y,u,v,hd,hx,hy,rx,ry=>by
  rw[aJ]at hx;let⟨ax,kj,rfl,qx,lx⟩:=hx;cases rx;let⟨jx,vx,px,_⟩:=I.tuple qx;rw[aJ]at hy;subst hy;cases ry;rw[show aZ (.tup gx) (.non)=Eh from by simp[aZ]];show SeqAt.RcAt.tuple_none px Fn
 |.tup gx,.bl gy,x,y,u,v,hd,hx,hy,rx,ry=>by
  rw[aJ]at hx;let⟨ax,kj,rfl,qx,lx⟩:=hx;cases rx;let⟨jx,vx,px,_⟩:=I.tuple qx;rw[aJ]at hy;subst hy;cases ry;rw[show aZ (.tup gx) (.bl gy)=Eh from by simp[aZ]];show SeqAt.RcAt.tuple_bool gy px Fn
 |.tup gx,.int gy,x,y,u,v,hd,hx,hy,rx,ry=>by
  rw[aJ]at hx;let⟨ax,kj,rfl,qx,lx⟩:=hx;cases rx;let⟨jx,vx,px,_⟩:=I.tuple qx;rw[aJ]at hy;subst hy;let⟨ty,rfl⟩:=ry;rw[show aZ (.tup gx) (.int gy)=Eh from by simp[aZ]];show SeqAt.RcAt.tuple_int gy ty px Fn
 |.tup gx,.str gy,x,y,u,v,hd,hx,hy,rx,ry=>by
  rw[aJ]at hx;let⟨ax,kj,rfl,qx,lx⟩:=hx;cases rx;let⟨jx,vx,px,_⟩:=I.tuple qx;rw[aJ]at hy;subst hy;let⟨ty,rfl⟩:=ry;rw[show aZ (.tup gx) (.str gy)=Eh from by simp[aZ]];show SeqAt.RcAt.tuple_str gy ty px Fn
 |.tup gx,.tup gy,x,y,u,v,hd,hx,hy,rx,ry=>by
  rw[aJ]at hx;let⟨ax,kj,rfl,qx,lx⟩:=hx;cases rx;let⟨jx,vx,px,_⟩:=I.tuple qx;rw[aJ]at hy;let⟨ay,ki,rfl,qy,ly⟩:=hy;cases ry;let⟨jw,vy,py,_⟩:=I.tuple qy;have e1:=vx.length;have e2:=vy.length;have e3:=lx.length;have e4:=ly.length;rw[show aZ (.tup gx) (.tup gy)=eT gx gy from by rw[aZ],<- qB gx gy];have ex:gx.length=jx.toArray.size:=by rw[<- e3,e1,Ü]
  have ey:gy.length=jw.toArray.size:=by rw[<- e4,e2,Ü]
  rw[ex,ey];show agl px py Fn (λ j h1 h2=>n4 (n:=0) (λ g h x y u v hm ix iy tx ty=>yC I 30 g h A.in1 x y u v (by have:=gW hm;rw[cB]at hd;lia) (by change A.units+1+30 < cLine;lia) ix iy tx ty) lx ly vx vy j h1 h2)
 |.tup gx,.lst gy,x,y,u,v,hd,hx,hy,rx,ry=>by
  rw[aJ]at hx;let⟨ax,kj,rfl,qx,lx⟩:=hx;cases rx;let⟨jx,vx,px,_⟩:=I.tuple qx;rw[aJ]at hy;let⟨ay,ki,rfl,qy,ly⟩:=hy;cases ry;let⟨jw,vy,py,_⟩:=I.list qy;rw[show aZ (.tup gx) (.lst gy)=Eh from by simp[aZ]];show SeqAt.RcAt.tuple_list px py.isList Fn
 |.lst gx,.non,x,y,u,v,hd,hx,hy,rx,ry=>by
  rw[aJ]at hx;let⟨ax,kj,rfl,qx,lx⟩:=hx;cases rx;let⟨jx,vx,px,_⟩:=I.list qx;rw[aJ]at hy;subst hy;cases ry;rw[show aZ (.lst gx) (.non)=Eh from by simp[aZ]];show SeqAt.RcAt.list_none px.isList Fn
 |.lst gx,.bl gy,x,y,u,v,hd,hx,hy,rx,ry=>by
  rw[aJ]at hx;let⟨ax,kj,rfl,qx,lx⟩:=hx;cases rx;let⟨jx,vx,px,_⟩:=I.list qx;rw[aJ]at hy;subst hy;cases ry;rw[show aZ (.lst gx) (.bl gy)=Eh from by simp[aZ]];show SeqAt.RcAt.list_bool gy px.isList Fn
 |.lst gx,.int gy,x,y,u,v,hd,hx,hy,rx,ry=>by
  rw[aJ]at hx;let⟨ax,kj,rfl,qx,lx⟩:=hx;cases rx;let⟨jx,vx,px,_⟩:=I.list qx;rw[aJ]at hy;subst hy;let⟨ty,rfl⟩:=ry;rw[show aZ (.lst gx) (.int gy)=Eh from by simp[aZ]];show SeqAt.RcAt.list_int gy ty px.isList Fn
 |.lst gx,.str gy,x,y,u,v,hd,hx,hy,rx,ry=>by
  rw[aJ]at hx;let⟨ax,kj,rfl,qx,lx⟩:=hx;cases rx;let⟨jx,vx,px,_⟩:=I.list qx;rw[aJ]at hy;subst hy;let⟨ty,rfl⟩:=ry;rw[show aZ (.lst gx) (.str gy)=Eh from by simp[aZ]];show SeqAt.RcAt.list_str gy ty px.isList Fn
 |.lst gx,.tup gy,x,y,u,v,hd,hx,hy,rx,ry=>by
  rw[aJ]at hx;let⟨ax,kj,rfl,qx,lx⟩:=hx;cases rx;let⟨jx,vx,px,_⟩:=I.list qx;rw[aJ]at hy;let⟨ay,ki,rfl,qy,ly⟩:=hy;cases ry;let⟨jw,vy,py,_⟩:=I.tuple qy;rw[show aZ (.lst gx) (.tup gy)=Eh from by simp[aZ]];show SeqAt.RcAt.list_tuple px.isList py Fn
 |.lst gx,.lst gy,x,y,u,v,hd,hx,hy,rx,ry=>by
  rw[aJ]at hx;let⟨ax,kj,rfl,qx,lx⟩:=hx;cases rx;let⟨jx,vx,px,_⟩:=I.list qx;rw[aJ]at hy;let⟨ay,ki,rfl,qy,ly⟩:=hy;cases ry;let⟨jw,vy,py,_⟩:=I.list qy;have e1:=vx.length;have e2:=vy.length;have e3:=lx.length;have e4:=ly.length;rw[show aZ (.lst gx) (.lst gy)=eT gx gy from by rw[aZ]];have ex:gx.length=jx.toArray.size:=by rw[<- e3,e1,Ü]
  have ey:gy.length=jw.toArray.size:=by rw[<- e4,e2,Ü]
  by_cases hl:gx.length=gy.length
  ·rw[<- tK gx gy hl,ex];show SeqAt.RcAt.lists px.isList py.isList Fn Fn (λ j h1 h2=>n4 (n:=0) (λ g h x y u v hm ix iy tx ty=>yC I 30 g h A.in1 x y u v (by have:=gW hm;rw[cB]at hd;lia) (by change A.units+1+30 < cLine;lia) ix iy tx ty) lx ly vx vy j h1 h2)
  ·rw[pT gx gy hl];show SeqAt.RcAt.lists_lengths px.isList py.isList (by rw[<- ex,<- ey];simpa using hl) Fn
theorem rneG (I:Inv X gj σ H s) (hu:A.units+40 < cLine):∀(g h:G) (x y:V) (u v:À),cB g<=30->aJ X.K H g x->aJ X.K H h y->aX x u->aX y v->SeqAt.RcNeAt A s u v (!aZ g h)
 |.non,.non,x,y,u,v,hd,hx,hy,rx,ry=>by
  rw[aJ]at hx;subst hx;cases rx;rw[aJ]at hy;subst hy;cases ry;rw[aZ];show SeqAt.RcNeAt.none_none
 |.non,.bl gy,x,y,u,v,hd,hx,hy,rx,ry=>by
  rw[aJ]at hx;subst hx;cases rx;rw[aJ]at hy;subst hy;cases ry;rw[show aZ (.non) (.bl gy)=Eh from by simp[aZ]];show SeqAt.RcNeAt.none_bool gy
 |.non,.int gy,x,y,u,v,hd,hx,hy,rx,ry=>by
  rw[aJ]at hx;subst hx;cases rx;rw[aJ]at hy;subst hy;let⟨ty,rfl⟩:=ry;rw[show aZ (.non) (.int gy)=Eh from by simp[aZ]];show SeqAt.RcNeAt.none_int gy ty
 |.non,.str gy,x,y,u,v,hd,hx,hy,rx,ry=>by
  rw[aJ]at hx;subst hx;cases rx;rw[aJ]at hy;subst hy;let⟨ty,rfl⟩:=ry;rw[show aZ (.non) (.str gy)=Eh from by simp[aZ]];show SeqAt.RcNeAt.none_str gy ty
 |.non,.tup gy,x,y,u,v,hd,hx,hy,rx,ry=>by
  rw[aJ]at hx;subst hx;cases rx;rw[aJ]at hy;let⟨ay,ki,rfl,qy,ly⟩:=hy;cases ry;let⟨jw,vy,py,_⟩:=I.tuple qy;rw[show aZ (.non) (.tup gy)=Eh from by simp[aZ]];show SeqAt.RcNeAt.none_tuple py Fn
 |.non,.lst gy,x,y,u,v,hd,hx,hy,rx,ry=>by
  rw[aJ]at hx;subst hx;cases rx;rw[aJ]at hy;let⟨ay,ki,rfl,qy,ly⟩:=hy;cases ry;let⟨jw,vy,py,_⟩:=I.list qy;rw[show aZ (.non) (.lst gy)=Eh from by simp[aZ]];show SeqAt.RcNeAt.none_list py.isList Fn
 |.bl gx,.non,x,y,u,v,hd,hx,hy,rx,ry=>by
  rw[aJ]at hx;subst hx;cases rx;rw[aJ]at hy;subst hy;cases ry;rw[show aZ (.bl gx) (.non)=Eh from by simp[aZ]];show SeqAt.RcNeAt.bool_none gx
 |.bl gx,.bl gy,x,y,u,v,hd,hx,hy,rx,ry=>by
  rw[aJ]at hx;subst hx;cases rx;rw[aJ]at hy;subst hy;cases ry;rw[aZ];show SeqAt.RcNeAt.bool_bool gx gy
 |.bl gx,.int gy,x,y,u,v,hd,hx,hy,rx,ry=>by
  rw[aJ]at hx;subst hx;cases rx;rw[aJ]at hy;subst hy;let⟨ty,rfl⟩:=ry;rw[aZ];show SeqAt.RcNeAt.bool_int gx gy ty
 |.bl gx,.str gy,x,y,u,v,hd,hx,hy,rx,ry=>by
  rw[aJ]at hx;subst hx;cases rx;rw[aJ]at hy;subst hy;let⟨ty,rfl⟩:=ry;rw[show aZ (.bl gx) (.str gy)=Eh from by simp[aZ]];show SeqAt.RcNeAt.bool_str gx gy ty
 |.bl gx,.tup gy,x,y,u,v,hd,hx,hy,rx,ry=>by
  rw[aJ]at hx;subst hx;cases rx;rw[aJ]at hy;let⟨ay,ki,rfl,qy,ly⟩:=hy;cases ry;let⟨jw,vy,py,_⟩:=I.tuple qy;rw[show aZ (.bl gx) (.tup gy)=Eh from by simp[aZ]];show SeqAt.RcNeAt.bool_tuple gx py Fn
 |.bl gx,.lst gy,x,y,u,v,hd,hx,hy,rx,ry=>by
  rw[aJ]at hx;subst hx;cases rx;rw[aJ]at hy;let⟨ay,ki,rfl,qy,ly⟩:=hy;cases ry;let⟨jw,vy,py,_⟩:=I.list qy;rw[show aZ (.bl gx) (.lst gy)=Eh from by simp[aZ]];show SeqAt.RcNeAt.bool_list gx py.isList Fn
 |.int gx,.non,x,y,u,v,hd,hx,hy,rx,ry=>by
  rw[aJ]at hx;subst hx;let⟨tx,rfl⟩:=rx;rw[aJ]at hy;subst hy;cases ry;rw[show aZ (.int gx) (.non)=Eh from by simp[aZ]];show SeqAt.RcNeAt.int_none gx tx
 |.int gx,.bl gy,x,y,u,v,hd,hx,hy,rx,ry=>by
  rw[aJ]at hx;subst hx;let⟨tx,rfl⟩:=rx;rw[aJ]at hy;subst hy;cases ry;rw[aZ];show SeqAt.RcNeAt.int_bool gx tx gy
 |.int gx,.int gy,x,y,u,v,hd,hx,hy,rx,ry=>by
  rw[aJ]at hx;subst hx;let⟨tx,rfl⟩:=rx;rw[aJ]at hy;subst hy;let⟨ty,rfl⟩:=ry;rw[aZ];show SeqAt.RcNeAt.int_int gx tx gy ty
 |.int gx,.str gy,x,y,u,v,hd,hx,hy,rx,ry=>by
  rw[aJ]at hx;subst hx;let⟨tx,rfl⟩:=rx;rw[aJ]at hy;subst hy;let⟨ty,rfl⟩:=ry;rw[show aZ (.int gx) (.str gy)=Eh from by simp[aZ]];show SeqAt.RcNeAt.int_str gx tx gy ty
 |.int gx,.tup gy,x,y,u,v,hd,hx,hy,rx,ry=>by
  rw[aJ]at hx;subst hx;let⟨tx,rfl⟩:=rx;rw[aJ]at hy;let⟨ay,ki,rfl,qy,ly⟩:=hy;cases ry;let⟨jw,vy,py,_⟩:=I.tuple qy;rw[show aZ (.int gx) (.tup gy)=Eh from by simp[aZ]];show SeqAt.RcNeAt.int_tuple gx tx py Fn
 |.int gx,.lst gy,x,y,u,v,hd,hx,hy,rx,ry=>by
  rw[aJ]at hx;subst hx;let⟨tx,rfl⟩:=rx;rw[aJ]at hy;let⟨ay,ki,rfl,qy,ly⟩:=hy;cases ry;let⟨jw,vy,py,_⟩:=I.list qy;rw[show aZ (.int gx) (.lst gy)=Eh from by simp[aZ]];show SeqAt.RcNeAt.int_list gx tx py.isList Fn
 |.str gx,.non,x,y,u,v,hd,hx,hy,rx,ry=>by
  rw[aJ]at hx;subst hx;let⟨tx,rfl⟩:=rx;rw[aJ]at hy;subst hy;cases ry;rw[show aZ (.str gx) (.non)=Eh from by simp[aZ]];show SeqAt.RcNeAt.str_none gx tx
 |.str gx,.bl gy,x,y,u,v,hd,hx,hy,rx,ry=>by
  rw[aJ]at hx;subst hx;let⟨tx,rfl⟩:=rx;rw[aJ]at hy;subst hy;cases ry;rw[show aZ (.str gx) (.bl gy)=Eh from by simp[aZ]];show SeqAt.RcNeAt.str_bool gx tx gy
 |.str gx,.int gy,x,y,u,v,hd,hx,hy,rx,ry=>by
  rw[aJ]at hx;subst hx;let⟨tx,rfl⟩:=rx;rw[aJ]at hy;subst hy;let⟨ty,rfl⟩:=ry;rw[show aZ (.str gx) (.int gy)=Eh from by simp[aZ]];show SeqAt.RcNeAt.str_int gx tx gy ty
 |.str gx,.str gy,x,y,u,v,hd,hx,hy,rx,ry=>by
  rw[aJ]at hx;subst hx;let⟨tx,rfl⟩:=rx;rw[aJ]at hy;subst hy;let⟨ty,rfl⟩:=ry;rw[aZ];show SeqAt.RcNeAt.str_str gx tx gy ty
 |.str gx,.tup gy,x,y,u,v,hd,hx,hy,rx,ry=>by
  rw[aJ]at hx;subst hx;let⟨tx,rfl⟩:=rx;rw[aJ]at hy;let⟨ay,ki,rfl,qy,ly⟩:=hy;cases ry;let⟨jw,vy,py,_⟩:=I.tuple qy;rw[show aZ (.str gx) (.tup gy)=Eh from by simp[aZ]];show SeqAt.RcNeAt.str_tuple gx tx py Fn
 |.str gx,.lst gy,x,y,u,v,hd,hx,hy,rx,ry=>by
  rw[aJ]at hx;subst hx;let⟨tx,rfl⟩:=rx;rw[aJ]at hy;let⟨ay,ki,rfl,qy,ly⟩:=hy;cases ry;let⟨jw,vy,py,_⟩:=I.list qy;rw[show aZ (.str gx) (.lst gy)=Eh from by simp[aZ]];show SeqAt.RcNeAt.str_list gx tx py.isList Fn
 |.tup gx,.non,x,y,u,v,hd,hx,hy,rx,ry=>by
  rw[aJ]at hx;let⟨ax,kj,rfl,qx,lx⟩:=hx;cases rx;let⟨jx,vx,px,_⟩:=I.tuple qx;rw[aJ]at hy;subst hy;cases ry;rw[show aZ (.tup gx) (.non)=Eh from by simp[aZ]];show SeqAt.RcNeAt.tuple_none px Fn
 |.tup gx,.bl gy,x,y,u,v,hd,hx,hy,rx,ry=>by
  rw[aJ]at hx;let⟨ax,kj,rfl,qx,lx⟩:=hx;cases rx;let⟨jx,vx,px,_⟩:=I.tuple qx;rw[aJ]at hy;subst hy;cases ry;rw[show aZ (.tup gx) (.bl gy)=Eh from by simp[aZ]];show SeqAt.RcNeAt.tuple_bool gy px Fn
 |.tup gx,.int gy,x,y,u,v,hd,hx,hy,rx,ry=>by
  rw[aJ]at hx;let⟨ax,kj,rfl,qx,lx⟩:=hx;cases rx;let⟨jx,vx,px,_⟩:=I.tuple qx;rw[aJ]at hy;subst hy;let⟨ty,rfl⟩:=ry;rw[show aZ (.tup gx) (.int gy)=Eh from by simp[aZ]];show SeqAt.RcNeAt.tuple_int gy ty px Fn
 |.tup gx,.str gy,x,y,u,v,hd,hx,hy,rx,ry=>by
  rw[aJ]at hx;let⟨ax,kj,rfl,qx,lx⟩:=hx;cases rx;let⟨jx,vx,px,_⟩:=I.tuple qx;rw[aJ]at hy;subst hy;let⟨ty,rfl⟩:=ry;rw[show aZ (.tup gx) (.str gy)=Eh from by simp[aZ]];show SeqAt.RcNeAt.tuple_str gy ty px Fn
 |.tup gx,.tup gy,x,y,u,v,hd,hx,hy,rx,ry=>by
  rw[aJ]at hx;let⟨ax,kj,rfl,qx,lx⟩:=hx;cases rx;let⟨jx,vx,px,_⟩:=I.tuple qx;rw[aJ]at hy;let⟨ay,ki,rfl,qy,ly⟩:=hy;cases ry;let⟨jw,vy,py,_⟩:=I.tuple qy;have e1:=vx.length;have e2:=vy.length;have e3:=lx.length;have e4:=ly.length;rw[show aZ (.tup gx) (.tup gy)=eT gx gy from by rw[aZ],<- qB gx gy];have ex:gx.length=jx.toArray.size:=by rw[<- e3,e1,Ü]
  have ey:gy.length=jw.toArray.size:=by rw[<- e4,e2,Ü]
  rw[ex,ey];show SeqAt.RcNeAt.tuples px py Fn (λ j h1 h2=>n4 (n:=0) (λ g h x y u v hm ix iy tx ty=>yC I 30 g h A.in1 x y u v (by have:=gW hm;rw[cB]at hd;lia) (by change A.units+1+30 < cLine;lia) ix iy tx ty) lx ly vx vy j h1 h2)
 |.tup gx,.lst gy,x,y,u,v,hd,hx,hy,rx,ry=>by
  rw[aJ]at hx;let⟨ax,kj,rfl,qx,lx⟩:=hx;cases rx;let⟨jx,vx,px,_⟩:=I.tuple qx;rw[aJ]at hy;let⟨ay,ki,rfl,qy,ly⟩:=hy;cases ry;let⟨jw,vy,py,_⟩:=I.list qy;rw[show aZ (.tup gx) (.lst gy)=Eh from by simp[aZ]];show SeqAt.RcNeAt.tuple_list px py.isList Fn
 |.lst gx,.non,x,y,u,v,hd,hx,hy,rx,ry=>by
  rw[aJ]at hx;let⟨ax,kj,rfl,qx,lx⟩:=hx;cases rx;let⟨jx,vx,px,_⟩:=I.list qx;rw[aJ]at hy;subst hy;cases ry;rw[show aZ (.lst gx) (.non)=Eh from by simp[aZ]];show SeqAt.RcNeAt.list_none px.isList Fn
 |.lst gx,.bl gy,x,y,u,v,hd,hx,hy,rx,ry=>by
  rw[aJ]at hx;let⟨ax,kj,rfl,qx,lx⟩:=hx;cases rx;let⟨jx,vx,px,_⟩:=I.list qx;rw[aJ]at hy;subst hy;cases ry;rw[show aZ (.lst gx) (.bl gy)=Eh from by simp[aZ]];show SeqAt.RcNeAt.list_bool gy px.isList Fn
 |.lst gx,.int gy,x,y,u,v,hd,hx,hy,rx,ry=>by
  rw[aJ]at hx;let⟨ax,kj,rfl,qx,lx⟩:=hx;cases rx;let⟨jx,vx,px,_⟩:=I.list qx;rw[aJ]at hy;subst hy;let⟨ty,rfl⟩:=ry;rw[show aZ (.lst gx) (.int gy)=Eh from by simp[aZ]];show SeqAt.RcNeAt.list_int gy ty px.isList Fn
 |.lst gx,.str gy,x,y,u,v,hd,hx,hy,rx,ry=>by
  rw[aJ]at hx;let⟨ax,kj,rfl,qx,lx⟩:=hx;cases rx;let⟨jx,vx,px,_⟩:=I.list qx;rw[aJ]at hy;subst hy;let⟨ty,rfl⟩:=ry;rw[show aZ (.lst gx) (.str gy)=Eh from by simp[aZ]];show SeqAt.RcNeAt.list_str gy ty px.isList Fn
 |.lst gx,.tup gy,x,y,u,v,hd,hx,hy,rx,ry=>by
  rw[aJ]at hx;let⟨ax,kj,rfl,qx,lx⟩:=hx;cases rx;let⟨jx,vx,px,_⟩:=I.list qx;rw[aJ]at hy;let⟨ay,ki,rfl,qy,ly⟩:=hy;cases ry;let⟨jw,vy,py,_⟩:=I.tuple qy;rw[show aZ (.lst gx) (.tup gy)=Eh from by simp[aZ]];show SeqAt.RcNeAt.list_tuple px.isList py Fn
 |.lst gx,.lst gy,x,y,u,v,hd,hx,hy,rx,ry=>by
  rw[aJ]at hx;let⟨ax,kj,rfl,qx,lx⟩:=hx;cases rx;let⟨jx,vx,px,_⟩:=I.list qx;rw[aJ]at hy;let⟨ay,ki,rfl,qy,ly⟩:=hy;cases ry;let⟨jw,vy,py,_⟩:=I.list qy;have e1:=vx.length;have e2:=vy.length;have e3:=lx.length;have e4:=ly.length;rw[show aZ (.lst gx) (.lst gy)=eT gx gy from by rw[aZ]];have ex:gx.length=jx.toArray.size:=by rw[<- e3,e1,Ü]
  have ey:gy.length=jw.toArray.size:=by rw[<- e4,e2,Ü]
  by_cases hl:gx.length=gy.length
  ·rw[<- tK gx gy hl,ex];show SeqAt.RcNeAt.lists px.isList py.isList Fn Fn (λ j h1 h2=>n4 (n:=0) (λ g h x y u v hm ix iy tx ty=>yC I 30 g h A.in1 x y u v (by have:=gW hm;rw[cB]at hd;lia) (by change A.units+1+30 < cLine;lia) ix iy tx ty) lx ly vx vy j h1 h2)
  ·rw[pT gx gy hl];show SeqAt.RcNeAt.lists_lengths px.isList py.isList (by rw[<- ex,<- ey];simpa using hl) Fn
def UY (K:Ç):R2:=λ x y H Q=>∃ g h,cB g<=30/\aJ K H g x/\aJ K H h y/\Q (.bl (aZ g h)) H
def US (K:Ç):R2:=λ x y H Q=>∃ g h,cB g<=30/\aJ K H g x/\aJ K H h y/\Q (.bl (!aZ g h)) H
theorem SO (hu:X.A.units+64 < cLine):jG X (compareOp .Eq) (UY X.K):=by
 intro gj s σ H x y v u Q I rx ry h;let⟨g,h,hd,ix,iy,q⟩:=h;show rcG I Fn g h x y v u hd ix iy rx ry X.prog X.w X.xe _ ⟨.bl _,H,I,O,q⟩
theorem SN (hu:X.A.units+64 < cLine):jG X (compareOp .NotEq) (US X.K):=by
 intro gj s σ H x y v u Q I rx ry h;let⟨g,h,hd,ix,iy,q⟩:=h;show rneG I Fn g h x y v u hd ix iy rx ry X.prog X.w X.xe _ ⟨.bl _,H,I,O,q⟩
theorem zK  (hK:X.K=K) (hu:X.A.units+64 < cLine):jG X (compareOp .Eq) (UY K):=by subst hK;show SO hu
theorem zJ  (hK:X.K=K) (hu:X.A.units+64 < cLine):jG X (compareOp .NotEq) (US K):=by subst hK;show SN hu
end
section
variable {H:Hp}
mutual
def fN:D->G
 |.non=>.non
 |.bl b=>.bl b
 |.int i=>.int i
 |.str z=>.str z
 |.tup ds=>.tup (c8 ds)
def c8:List D->List G
 |[]=>[]
 |d::ds=>fN d::c8 ds
end
mutual
theorem Is.g:∀ {d:D}{x:V},Is K H d x->aJ K H (fN d) x
 |.non,x,h=>by rw[Is]at h;rw[fN,aJ];show h
 |.bl b,x,h=>by rw[Is]at h;rw[fN,aJ];show h
 |.int i,x,h=>by rw[Is]at h;rw[fN,aJ];show h
 |.str z,x,h=>by rw[Is]at h;rw[fN,aJ];show h
 |.tup ds,x,h=>by
  rw[Is]at h;rw[fN,aJ];let⟨a,xs,e,q,l⟩:=h;show⟨a,xs,e,q,IsL.g l⟩
theorem IsL.g:∀ {ds:List D}{xs:List V},IsL K H ds xs->bZ K H (c8 ds) xs
 |[],xs,h=>by rw[IsL]at h;rw[c8,bZ];show h
 |d::ds,xs,h=>by
  rw[IsL]at h;rw[c8,bZ];let⟨x,r,e,h1,h2⟩:=h;show⟨x,r,e,Is.g h1,IsL.g h2⟩
end
def ĭ:=@IsL.g
theorem bZ.nil:bZ K H [] []:=by rw[bZ]
def ġ:=@bZ.nil
theorem bZ.cons  (h1:aJ K H g x) (h2:bZ K H gs xs):bZ K H (g::gs) (x::xs):=by rw[bZ];show⟨x,xs,O,h1,h2⟩
theorem aJ.i (i:Int):aJ K H (.int i) (.int i):=by rw[aJ]
theorem aJ.n:aJ K H .non .non:=by rw[aJ]
theorem aJ.l  (q:bE K H a xs) (l:bZ K H gs xs):aJ K H (.lst gs) (.ref a):=by rw[aJ];show⟨a,xs,O,q,l⟩
theorem bZ.ints:∀ ns:List Int,bZ K H (ns.map G.int) (ns.map V.int)
 |[]=>.nil
 |n::ns=>.cons (.i n) (bZ.ints ns)
theorem o9:∀ ns:List Int,bJ (ns.map G.int)=0
 |[]=>by rw[í,bJ]
 |n::ns=>by rw[Ù,bJ,o9 ns];simp[cB]
theorem yB:∀ ns ms:List Int,eT (ns.map G.int) (ms.map G.int)=decide (ns=ms)
 |[],[]=>by simp[eT]
 |[],_::_=>by simp[eT]
 |_::_,[]=>by simp[eT]
 |n::ns,m::ms=>by
  rw[Ù,Ù,eT,aZ,yB ns ms,ę];simp
end
section
variable {X:Cx}
theorem tO:∀ {xs:List V}{us:List À},xs.length=us.length->(∀(i:Nat) x u,xs[i]?=Y x->us[i]?=Y u->aX x u)->bI xs us
 |[],[],_,_=>.nil
 |[],_::_,h,_=>by simp at h
 |_::_,[],h,_=>by simp at h
 |x::xs,u::us,hl,h=>.cons (h 0 x u rfl rfl) (tO (by simpa using hl) λ i y v h1 h2=>h (i+1) y v (by simpa using h1) (by simpa using h2))
theorem DM {md:Array À} (h:ItemsOf (λ i v=>∃ t,v=.int (a+i * c) t) md n):bI ((List.range n).map λ(i:Nat)=>V.int (a+i * c)) md.toList:=by
 let⟨h1,h2⟩:=h;show tO (by simp [h1]) λ i x u e1 e2=>?_;rw[Ø] at e1;let⟨k,hk,rfl⟩:=é.mp e1;have hi:=(Ö.mp hk).1;have:k=i:=by
  have:=(Ö.mp hk).2;simpa using this.symm
 subst this;show h2 k u (by simpa using e2)
def UA (ta:TE):TE:=λ σ H Q=>ta σ H λ x H1=>∃ n:Nat,x=.int (n:Int)/\n<=1000000/\∀ l,H1 l=W->Q (.ref l) (upd H1 l (.lst ((List.range n).map λ(i:Nat)=>V.int (i:Int))))
theorem P9 {p p2 pos zm:Pos} (hc:X.calm=Eg) (hg:Gl X "list") (hm:X.mg "list" =W) (Yh:Gl X "range") (Tm:X.mg "range" =W) (ha:PE X a ta) (hs:autoParam (starEach [a] X.env=[(Eh,eval a X.env)]) _0)
  (vq:autoParam (starEach [Expr.Call (.Name "range" p2) [a] [] zm] X.env=[(Eh,eval (Expr.Call (.Name "range" p2) [a] [] zm) X.env)]) _0):PE X (.Call (.Name "list" p) [.Call (.Name "range" p2) [a] [] zm] [] pos) (UA ta):=by
 intro gj s σ H Q I h;show Ĩ (kP I hg hm gN ?_ FZ FZ);show ĳ ?_ vq O;rw[vq];change wpAny _ _ (spliced ((Eh,eval (Expr.Call (.Name "range" p2) [a] [] zm) X.env)::backTo pos [])) _ _ s;have h':aR ta cU σ H (λ xs H1=>∃ n:Nat,xs=[.int (n:Int)]/\n<=1000000/\∀ l,H1 l=W->Q (.ref l) (upd H1 l (.lst ((List.range n).map λ(i:Nat)=>V.int (i:Int))))):=by
  change ta σ H λ x H1=>∃ n:Nat,[x]=[V.int (n:Int)]/\_;have e:(λ(x:V) (H1:Hp)=>∃ n:Nat,[x]=[V.int (n:Int)]/\n<=1000000/\∀ l,H1 l=W->Q (.ref l) (upd H1 l (.lst ((List.range n).map λ(i:Nat)=>V.int (i:Int))))) =
    (λ(x:V) (H1:Hp)=>∃ n:Nat,x=V.int (n:Int)/\n<=1000000/\∀ l,H1 l=W->Q (.ref l) (upd H1 l (.lst ((List.range n).map λ(i:Nat)=>V.int (i:Int))))):=by
   funext x H1;simp
  rw[e];show h
 show ń (Ĩ (kP I Yh Tm boot_range (ĳ (cK (a7 ha a9 hs zm gj s σ H _ I h') λ us s1 ⟨vs,H1,I1,r1,q1⟩=>?_) hs O)));let⟨n,rfl,hn,q⟩:=q1;let⟨u,rfl,t,rfl⟩:=oJ r1;show call_range_1 (Ŵ ?_);have hsz:Builtin.Range.rangeSize 0 (n:Int) 1=n:=by rw[rangeSize_one];split <;> lia
 show call_list_range (n:=n) (I1.ok.hd hc) (IsRange.new ..) (small_one Fn Fn Fn Fn) hsz Fn λ h2 tk md c' hk hS Pc=>?_;have hv:=DM Pc;simp only[Int.zero_add,Int.mul_one]at hv;have e1:(s1.heap.push { cls:=.type "range",data:=.fields #[.int 0 s1.toks,.int (n:Int) t,.int 1 (s1.toks+1)] }).objs.size=s1.heap.objs.size+1:=ą ..;show⟨.ref (s1.heap.objs.size+1),_,I1.laid (t':=tk) (a:=s1.heap.objs.size+1) (λ b o e=>hk b o (Ï _ e)) (Nat.le_succ _) (show bY X.prog X.w _ h2 _ (.lst ((List.range n).map λ(i:Nat)=>V.int (i:Int)))from⟨?_,md.toList,c',hv,?_⟩),?_,q _ (I1.hok.fresh (Nat.le_succ _))⟩
 ·rw[Ê,ė,ĕ];lia
 ·rw[e1]at hS;simpa using hS
 ·change Value.ref _=_;rw[e1]
def Pl (H:Hp) (a:Á) (xs:List V):Prop:=∃ o:Obj,H a=Y (.frz o (.tup xs))/\o.dict=W
theorem Pl.sq  (h:Pl H a xs):aP K H a xs:=by let⟨o,h,_⟩:=h;show .inl (.inr ⟨o,h⟩)
def QP (K:Ç):List V->Hp->VK->Prop:=λ xs H Q=>∃ p ys,xs=[.ref p]/\bE K H p ys/\∀(l:Á) (o:Obj),H l=W->o.dict=W->Q (.ref l) (upd H l (.frz o (.tup ys)))
theorem JP:eV X (.type "tuple") (QP X.K):=by
 intro gj s σ H xs us Q I r h;let⟨p,ys,rfl,hq,q⟩:=h;let⟨u,rfl,rx⟩:=oJ r;cases rx;let⟨its,r',pl,hz⟩:=I.list hq;have gr:=r'.length;show call_tuple_list pl.isList (λ h' kp=>?_) (by simp only [Ü] <;> lia);have I1:Inv X gj σ H { s with heap:=h' }:=I.kept (t':=s.toks) kp;have I2:Inv X gj σ (upd H h'.objs.size (.frz { cls:=.type "tuple",data:=.seq its.toArray } (.tup ys))) { s with heap:=h'.push { cls:=.type "tuple",data:=.seq its.toArray } }:=
  I1.laid (t':=s.toks) (λ b o e=>Ï _ e) (Ñ _) (show bY X.prog X.w _ _ _ (.frz _ (.tup ys))from⟨á _ rfl,hz,its,r',IsTup.new _ _⟩)
 show⟨.ref h'.objs.size,_,I2,O,q _ _ (I1.hok.fresh (Ñ _)) O⟩
theorem FA (hK:X.K=K):eV X (.type "tuple") (QP K):=by subst hK;show JP
end
end L2
namespace Tw
open PySem L2
def O6 (K:Ç) (H:Hp) (t:Tick) (v:V):Prop:=∃(f:Á) (st:V) (tp:Á),v=.ref f/\aP K H f [st,.ref tp,.int t.ground]/\Is K H (DT t.held t.coming t.doors) st/\Pl H tp (t.tip.map λ(j:Nat)=>V.int (j:Int))
theorem O6.is  (h:O6 K H t v):Is K H (QI t) v:=by
 let⟨f,st,tp,rfl,q,i,p⟩:=h;show Ð q (.cons i (.cons (Ð p.sq ?_) (.cons (Õ _) .nil)));have e1:(t.tip.map λ(i:Nat)=>L2.D.int (i:Int))=(t.tip.map λ(i:Nat)=>(i:Int)).map L2.D.int:=by rw[ĉ];rfl
 have e2:(t.tip.map λ(i:Nat)=>V.int (i:Int))=(t.tip.map λ(i:Nat)=>(i:Int)).map V.int:=by rw[ĉ];rfl
 rw[e1,e2];show aa8 _
def sS (K:Ç):Sp:=λ args H Q _=>∃(x y:V) (z:Á) (net:Net) (held coming poured:List Int) (doors:List Bool),args=[x,y,.ref z]/\Is K H (cJ net) x/\Is K H (DT held coming doors) y/\aP K H z (poured.map V.int)/\
 NetOk net/\StOk net held coming doors/\poured.length=net.vs.length/\∀(v:V) H',aE H H'->O6 K H' (tV net held coming poured doors) v->Q v H'
theorem KN:∀ vs H Q E,DU K vs H Q E->sS K vs H Q E:=by
 rintro vs H Q E xK;let⟨x,y,z,net,held,coming,poured,doors,rfl,h1,h2,h3,h4,h5,h6,k⟩:=xK;show⟨x,y,z,net,held,coming,poured,doors,O,h1,h2,h3,h4,h5,h6,λ v H' s t=>?_⟩;have i:=t.is;let⟨f,st,tp,rfl,q,_⟩:=t;show k f _ H' s q i
theorem l7 (F:Fun K "tick_behind" "tick_behind" (bG 9) f fd) (T:Txt mg) (pd:Callee P w K mg base "filled" ["spouts","state","poured"] 1 (uC K) fF Pd)
  (pe:Callee P w K mg base "settle" ["vessel","has","sent"] 3 (u7 K) fS Dl) (jn:Callee P w K mg base "doors_behind" ["vessels","doors","tipped"] 1 (yT K) fD At):FnOk P w K mg base fX 4 f fd ["net","state","poured"] (sS K):=by
 show F.ok ["net","state","poured","vessels","spouts","held","tipped","sent","number","has","left","tips","coming","doors"] λ sc gz A outer s H vs Q E hr h=>?_
 ·let⟨x,y,z,net,held,coming,poured,doors,rfl,hx,hy,qz,nok,sj,lp,k⟩:=h;have hu:=RA hr;show⟨_,(aA (bP (pv 0) (aM (K:=K) (n:=2) O O (aB (gL 3 sc.nd) (aB (gL 4 sc.nd) aL))))
   (aA (bP (aQ (a7 (bC a9) (a7 (bC a9) (a7 BT a9)))) (aM (K:=K) (n:=3) O O (aB (gL 5 sc.nd) (aB (gL 6 sc.nd) (aB (pD (i:=7) sc.nd O (Or.inr O)) aL)))))
   (aA (dB ò O (iO (K:=K) O O T.b_enumerate (a7 (cA pd hr (a7 (pv 4) (a7 (pv 1) (a7 (pv 2) a9)))) a9)) (aM (K:=K) (n:=2) O O (aB (gL 8 sc.nd) (aB (gL 9 sc.nd) aL))) (aA (bP (cA pe hr (a7 (px K (pv 3) (pv 8)) (a7 (pv 9) (a7 (pv 7) a9)))) (aM (K:=K) (n:=2) O O (aB (gL 10 sc.nd) (aB (gL 11 sc.nd) aL))))
   (aA (bH (dC (K:=K) O ì ô õ bL (pv 5) (a7 (pv 10) a9)))
   (aF (cE (cO (pv 11)) (aF (bH (dC (K:=K) O ì ô õ bL (pv 6) (a7 (pv 8) a9)))) bF)))))
   (aA (gS (i:=12) sc.nd O O (λ _ _ h=>h) O (LcOk.mk (N':=["number","sent"]) (fr:=[W,Y 7]) O ⟨O,trivial⟩ O O O O O ⟨⟨_,O,O,O,O⟩,trivial⟩) (eF O T.b_range (a7 (rW K T.b_len (pv 3)) a9)) (λ _ _ _=>(gC 0 ["number","sent"])) (λ _ _ _=>c9) (λ _ _ _=>(uV hu (pv 1) (pv 0) aD ⟨O,O,O,O⟩)))
   (aA (pL 13 sc.nd (cA jn hr (a7 (pv 3) (a7 (px K (pv 1) aD) (a7 (pv 6) a9)))))
   (aF (aK (aQ (a7 (aQ (a7 (aU (bR (K:=K) O) O T.b_tuple bT (a7 (pv 5) a9)) (a7 (aU (bR (K:=K) O) O T.b_tuple bT (a7 (pv 12) a9)) (a7 (pv 13) a9)))) (a7 (aU (FA (K:=K) O) O T.b_tuple bT (a7 (pv 6) a9)) (a7 (uV hu (pv 7) cH aD ⟨O,O,O,O⟩) a9))))))))))),?_⟩
  let⟨ax,av,as,xs,ys,rfl,qx,qv,lv,qs,ls⟩:=gI hx;let⟨ay,b1,b2,b3,rfl,qy,q1,q2,q3⟩:=KQ hy;have mx:xs.length=net.vs.length:=by rw[lv.length,Ê]
  show⟨_,O,ax,_,O,qx,O,_,_,O,_,_,O,O,?_⟩;show⟨à _,λ hl Du=>⟨à _,λ tl yg=>λ sd zk=>⟨(sz0 3),λ tp qg=>(bU tp _ O ⟨Í a8,O,(bU _ _ O (bU _ _ O (bU _ _ O ⟨O,?_⟩)))⟩)⟩⟩⟩;have n1:hl≠tl:=aI (show upd H hl (.lst []) hl=_ from a8) yg;have fh:H hl=none:=Du;have ft:H tl=none:=aE.free (È Du) yg;have fs:H sd=none:=aE.free ((È Du).trans (È yg)) zk;have n2:hl≠sd:=aI (by rw[aG n1];show a8) zk;have n3:tl≠sd:=aI (show upd (upd H hl (.lst [])) tl (.lst []) tl=_ from a8) zk;have Dv:aE H (upd (upd (upd (upd H hl (.lst [])) tl (.lst [])) sd (.dK [])) tp (.tup [.ref hl,.ref tl,.ref sd])):=(((È Du).trans (È yg)).trans (È zk)).trans (È qg);have g1:upd (upd (upd (upd H hl (.lst [])) tl (.lst [])) sd (.dK [])) tp (.tup [.ref hl,.ref tl,.ref sd]) hl=Y (.lst []):=È qg _ _ (by rw[aG n2,aG n1];show a8);have g2:upd (upd (upd (upd H hl (.lst [])) tl (.lst [])) sd (.dK [])) tp (.tup [.ref hl,.ref tl,.ref sd]) tl=Y (.lst []):=È qg _ _ (by rw[aG n3];show a8);have g3:upd (upd (upd (upd H hl (.lst [])) tl (.lst [])) sd (.dK [])) tp (.tup [.ref hl,.ref tl,.ref sd]) sd=Y (.dK []):=È qg _ _ a8;generalize upd (upd (upd (upd H hl (.lst [])) tl (.lst [])) sd (.dK [])) tp (.tup [.ref hl,.ref tl,.ref sd])=H0 at Dv g1 g2 g3 ⊢;show(bA _ O (bA _ O (bA _ O ⟨.ref as,.ref ay,z,net.sps,held,coming,poured,doors,net.vs.length,O,Ð (Dv.tup qs) (Î Dv.ts _ _ ls),Ì Dv.ts _ _ hy,Dv.tup qz,sj.h,sj.c,lp,sj.d,nok.hi,nok.sps,λ ha H1 pc Ky Ug=>?_⟩)));have tz:(cR net held coming poured doors).length=net.vs.length:=by
   unfold cR;rw[jX,mK sj.h sj.c lp]
  have Yi:=pc _ _ g1;have Kl:=pc _ _ g2;have Yj:=pc _ _ g3;have Uh:hl≠ha:=aI g1 Ky;have Yk:tl≠ha:=aI g2 Ky;have Yl:sd≠ha:=aI g3 Ky;have fa:H ha=none:=Dv.free Ky;show⟨Eh,ha,O,⟨_,É Ug⟩,mD (K:=K) (t:=Eh) (a:=ha) (xs:=(cR net held coming poured doors).map V.int)
   (λ i ac H'=>aE H H'/\H' ha=Y (.lst ((cR net held coming poured doors).map V.int))/\H' hl=Y (.lst ((gG (net.vs.take i) ((cR net held coming poured doors).take i)).map V.int))/\
    H' tl=Y (.lst ((dF 0 (net.vs.take i) ((cR net held coming poured doors).take i)).map λ(j:Nat)=>V.int (j:Int)))/\lA H' sd (gK (net.vs.take i) ((cR net held coming poured doors).take i))/\
    ∃ v8 v9 sg uo,ac=[Y (.ref ax),Y (.ref ay),Y (.ref z),Y (.ref av),Y (.ref as),Y (.ref hl),Y (.ref tl),Y (.ref sd),v8,v9,sg,uo,W,W])
   (λ i ac H' p=>É p.2.1) ⟨Dv.trans pc,Ug,by simpa [gG]using Yi,by simpa [dF]using Kl,⟨[],Yj,G0,λ k=>O⟩,W,W,W,W,O⟩ ?_ ?_⟩
  rotate_left
  ·rintro i x0 ac H2 Tt nz ⟨il,p1,p2,p3,p4,v8,v9,sg,uo,rfl⟩ hT;rw[Ø]at nz;let⟨hi,Do,rfl⟩:=é.mp nz;have mw:i < net.vs.length:=by rw[<- tz];show(Ö.mp Do).1
   have hv:net.vs[i]?=Y net.vs[i]:=by simp[mw]
   have ww:=nok.vs _ (Ĥ mw);let⟨xv,Gu,Gv⟩:=lv.get (i:=i) (d:=lB net.vs[i]) (by rw[Ø,hv];rfl);have ng:=È (o:=HO.tup [.int (i:Int),.int hi]) hT;show(bU Tt _ O ⟨Í a8,O,(bU _ _ O (bU _ _ O ⟨O,?_⟩))⟩);have ko:aE H (upd H2 Tt (.tup [.int (i:Int),.int hi])):=il.trans ng;let⟨gn,d1,d2,d3⟩:=p4;have hgl:=xY (net.vs.take i) ((cR net held coming poured doors).take i) λ v Bp=>nok.vs v (Ő Bp);have Ft:(net.vs.take i).length<=12:=by rw[ß];have:=nok.hi;lia
   show(bA _ O (bA _ O (.inr (.inl (JJ av xs i _ O ⟨O,ko.tup qv,hU Gu,(bA _ O (bA _ O (eA7 xv sd hi net.vs[i] _ _ _ O ⟨Ì ko.ts _ _ Gv,⟨gn,ng _ _ d1,d2,d3⟩,Fn,ww,λ p H3 bt dg qp=>?_⟩)))⟩)))));show⟨p,_,O,qp,O,_,_,O,_,_,O,O,?_⟩;have e1:=bt hl _ n2 (ng _ _ p2);have e2:=bt tl _ n3 (ng _ _ p3);have e3:=bt ha _ (Ne.symm Yl) (ng _ _ p1);have xk:aE H H3:=λ b o e=>bt b o (aI e fs) (ko b o e);have stl:(gG (net.vs.take i) ((cR net held coming poured doors).take i)).length<=12:=by
    rw[kC _ _ (by rw[ß,ß,tz])];show Ft
   have tpl:=qF (net.vs.take i) ((cR net held coming poured doors).take i) 0;show⟨_,O,.inl ⟨O,_,É e1⟩,_,O,hl,_,_,O,O,e1,aS (by simp;lia),?_⟩;have f1:upd H3 hl (.lst ((gG (net.vs.take i) ((cR net held coming poured doors).take i)).map V.int++[.int (nC net.vs[i] hi)])) tl=Y (.lst ((dF 0 (net.vs.take i) ((cR net held coming poured doors).take i)).map λ(j:Nat)=>V.int (j:Int))):=by rw[aG (Ne.symm n1)];show e2
   have s1:=rM net.vs (cR net held coming poured doors) i _ _ hv Do;have s2:=tS net.vs (cR net held coming poured doors) i 0 _ _ hv Do;have s3:=vT net.vs (cR net held coming poured doors) i _ _ hv Do;have Ui:∀ {Hx:Hp},Hx sd=H3 sd->lA Hx sd (gK (net.vs.take (i+1)) ((cR net held coming poured doors).take (i+1))):=λ {Hx} e=>by
    let⟨kv,a1,a2,a3⟩:=dg;rw[s3];show⟨kv,e.trans a1,a2,a3⟩
   show(bA _ O (bA _ O ?_));cases ht:rL net.vs[i] hi with
   |false=>
    show eG ?_;rw[ht]at s2;show⟨xk.put fh,by rw[aG (Ne.symm Uh)];show e3,by rw[a8,s1,Ó];rfl,by rw[s2];simpa using f1,Ui (by rw[aG (Ne.symm n2)]),_,_,_,_,O⟩
   |true=>
    show eS ?_;rw[ht]at s2;show⟨_,O,.inl ⟨O,_,É f1⟩,_,O,tl,_,_,O,O,f1,aS (by simp;lia),?_⟩;show⟨(xk.put fh).put ft,by rw[aG (Ne.symm Yk),aG (Ne.symm Uh)];show e3,by rw[aG n1,a8,s1,Ó];rfl,?_,Ui (by rw[aG (Ne.symm n3),aG (Ne.symm n2)]),_,_,_,_,O⟩;rw[a8,s2];simp
  ·rintro ac H2 xK;let⟨il,p1,p2,p3,p4,v8,v9,sg,uo,rfl⟩:=xK;rw[Ê,tz]at p2 p3 p4;have ek:net.vs.take net.vs.length=net.vs:=æ;have Ym:(cR net held coming poured doors).take net.vs.length=cR net held coming poured doors:=by rw[<- tz,æ]
   rw[ek,Ym]at p2 p3 p4;let⟨gn,d1,d2,d3⟩:=p4;show⟨_,O,av,xs,O,.inr (il.tup qv),_,O,Fn,by have:=nok.hi;lia,?_⟩;have hn:((xs.length:Nat):Int).toNat=net.vs.length:=by rw[mx];simp
   rw[hn];show pP (n:=net.vs.length) (λ D i r ac H'=>H2 D=W/\aE H2 H'/\H' D=Y (.lst r)/\r=((i5 net.vs.length (gK net.vs (cR net held coming poured doors))).take i).map V.int/\∃ v,ac=[v,Y (.ref sd)])
    (λ D hD=>⟨hD,È hD,a8,G0,W,rfl⟩) ?_ ?_
   rotate_left
   ·rintro D i r ac H' hi xK;let⟨hD,sm,ie,rfl,v,rfl⟩:=xK;show cZ ?_;have hg:=FL.k (k:=pQ (Y (i:Int))) (sm _ _ d1);show⟨_,O,sd,O,.inl ⟨gn,.inl (sm _ _ d1)⟩,_,O,_,hg,ie,aS (by simp [i5];have:=nok.hi;lia),hD,sm.put hD,a8,?_,_,O⟩;have e:(i5 net.vs.length (gK net.vs (cR net held coming poured doors)))[i]? = Y (fC (Y (i:Int)) (gK net.vs (cR net held coming poured doors))):=by
     unfold i5;simp[hi]
    rw[aY e,Ó];change _++[(eB gn (pQ (Y (i:Int)))).getD (.int 0)]=_;rw[d3];rfl
   ·rintro D r ac H3 xK;let⟨hD,sm,ie,rfl,_⟩:=xK;have ll:(i5 net.vs.length (gK net.vs (cR net held coming poured doors))).length=net.vs.length:=by unfold i5;simp
    rw[đ (Ō ll)]at ie;have ko:aE H H3:=il.trans sm;show⟨_,O,_,O,.inr (.inl ⟨ay,_,2,_,O,O,ko.tup qy,O,_,O,.ref av,.ref b3,tl,net.vs,doors,dF 0 net.vs (cR net held coming poured doors),net.vs.length,O,Ð (ko.tup qv) (Î ko.ts _ _ lv),Ð (ko.tup q3) (IsL.of_bools _),É (sm _ _ p3),λ j hj=>by have:=tT _ _ _ _ hj;lia,λ v hv=>by rw[sj.d];show nok.vs v hv,by rw[sj.d];show nok.sp,λ dp H4 xk Yn=>?_⟩)⟩;let⟨da,dxs,rfl,qd,ld⟩:=Yn.un;have c1:=xk _ _ (sm _ _ p2);have c2:=xk _ _ ie;have c3:=xk _ _ (sm _ _ p3);have c4:=xk _ _ (sm _ _ d1);show(bA _ O (bU hl _ O (.inl ⟨É c1,λ t1 Hr=>?_⟩)));have m1:=È (o:=HO.tup ((gG net.vs (cR net held coming poured doors)).map V.int)) Hr;show(bA _ O (bU D _ O (.inl ⟨É (m1 _ _ c2),λ t2 wy=>?_⟩)));have m2:=È (o:=HO.tup ((i5 net.vs.length (gK net.vs (cR net held coming poured doors))).map V.int)) wy;show(bA _ O ⟨(sz0 3),λ t3 Kz=>?_⟩);have m3:=È (o:=HO.tup [.ref t1,.ref t2,.ref da]) Kz;show(bA _ O (bU tl _ O ⟨É (m3 _ _ (m2 _ _ (m1 _ _ c3))),λ t4 ob Yo Eu=>?_⟩));have m4:=È (o:=HO.frz ob (.tup ((dF 0 net.vs (cR net held coming poured doors)).map λ(j:Nat)=>V.int (j:Int)))) Yo;have Uj:=m4 _ _ (m3 _ _ (m2 _ _ (m1 _ _ c4)));have hg:=FL.k (k:=pQ W) Uj;show(bA _ O (bA sd O ⟨.inl ⟨gn,.inl Uj⟩,_,hg,(sz0 3),λ t5 Yp=>?_⟩));have m5:aE _ _:=È (o:=HO.tup [.ref t3,.ref t4,(eB gn (pQ W)).getD (.int 0)]) Yp;have eg:(eB gn (pQ W)).getD (.int 0)=.int (fC W (gK net.vs (cR net held coming poured doors))):=d3 W;rw[eg]at m5 ⊢;have e1:((dF 0 net.vs (cR net held coming poured doors)).map λ(i:Nat)=>L2.D.int (i:Int))=((dF 0 net.vs (cR net held coming poured doors)).map λ(i:Nat)=>(i:Int)).map L2.D.int:=by rw[ĉ];rfl
    show k _ _ ((((((ko.trans xk).trans m1).trans m2).trans m3).trans m4).trans m5) ⟨t5,.ref t3,t4,O,Í a8,?_,ob,m5 _ _ a8,Eu⟩;show Ì m5.ts _ _ (Ì m4.ts _ _ (QL (Í a8) (m3.tup (m2.tup (Í a8))) (m3.tup (Í a8)) (by
      have:=ld.bools;rw[this]at qd;show m3.tup (m2.tup (m1.tup qd)))))
theorem sK (F:Fun K "tick_behind" "tick_behind" (bG 9) f fd) (T:Txt mg) (pd:Callee P w K mg base "filled" ["spouts","state","poured"] 1 (uC K) fF Pd)
  (pe:Callee P w K mg base "settle" ["vessel","has","sent"] 3 (u7 K) fS Dl) (jn:Callee P w K mg base "doors_behind" ["vessels","doors","tipped"] 1 (yT K) fD At):FnOk P w K mg base fX 4 f fd ["net","state","poured"] (DU K):=(l7 F T pd pe jn).imp KN
end Tw
namespace L2
open PySem PySem.Spec PyProof.Rows
section
variable {M:Model}{A:Around}{E:À->Â->Prop}{s:Â}
end
section
variable {X:Cx}
end
end L2
namespace Tw
open PySem L2
theorem IsL.append :∀ {ds es:List L2.D}{xs ys:List V},L2.IsL K H ds xs->L2.IsL K H es ys->L2.IsL K H (ds++es) (xs++ys)
 |[],es,xs,ys,h1,h2=>by rw[h1.un0];show h2
 |d::ds,es,xs,ys,h1,h2=>by
  let⟨x,r,rfl,hx,hr⟩:=h1.un;show .cons hx (IsL.append hr h2)
def nS (fo:Option Nat) (i:Nat) (v:Vs):Vs:=if fo=Y i then { v with size:=v.brim+1 } else v
def eX (vs:List Vs) (fo:Option Nat):List Vs:=vs.mapIdx λ i v=>nS fo i v
def hZ (net:Net) (fo:Option Nat):Net:=⟨eX net.vs fo,net.sps⟩
def iV:Option Nat->V
 |none=>.non
 |some j=>.int (j:Int)
theorem iL (vs:List Vs) (fo:Option Nat):(eX vs fo).length=vs.length:=by unfold eX;rw[List.length_mapIdx]
theorem AU  (fo:Option Nat) (h:vs[i]?=Y v):(eX vs fo)[i]?=Y (nS fo i v):=by unfold eX;rw[aft,h];rfl
theorem AV (net:Net):hZ net W=net:=by
 have:eX net.vs W=net.vs:=by
  apply List.ext_getElem?;intro i;unfold eX;rw[aft];cases net.vs[i]? <;> rfl
 unfold hZ;rw[this]
end Tw
namespace L2
open PySem PySem.Spec PyProof.Rows TwZ
section
variable {X:Cx}
end
end L2
namespace Tw
open PySem L2
theorem HY (vs:List Vs) (j:Nat) (v:Vs) (h:vs[j]?=Y v):eX vs (Y j)=vs.take j++[{ v with size:=v.brim+1 }]++vs.drop (j+1):=by
 have hj:=(Ö.mp h).1;have e:eX vs (Y j)=vs.set j { v with size:=v.brim+1 }:=by
  apply List.ext_getElem?;intro i
  by_cases e:i=j
  ·subst e;rw[AU (Y i) h,ŝ hj];unfold nS;rw[Å rfl]
  ·rw[ş (λ z=>e z.symm)];unfold eX;rw[aft];cases vs[i]? with
   |none=>rfl
   |some w=>
    change Y (nS (Y j) i w)=Y w;unfold nS;rw[Ä (λ z=>e (by injection z with z;show z.symm))]
 rw[e,List.set_eq_take_append_cons_drop,Å hj,ě];rfl
theorem AT {net:Net} (nok:NetOk net) (uc:NetFull net) (fo:Option Nat):NetOk (hZ net fo) where
 lo:=by change 1<=(eX net.vs fo).length;rw[iL];show nok.lo
 hi:=by change(eX net.vs fo).length<=12;rw[iL];show nok.hi
 sp:=nok.sp
 vs:=λ v hv=>by
  change VOk (eX net.vs fo).length net.sps.length v;rw[iL];let⟨i,hi,rfl⟩:=List.mem_iff_getElem.1 (show v∈eX net.vs fo from hv);have mw:i < net.vs.length:=by rw[iL]at hi;show hi
  have h1:net.vs[i]?=Y net.vs[i]:=by simp[mw]
  have h2:=AU fo h1;have h3:(eX net.vs fo)[i]=nS fo i net.vs[i]:=by
   have:(eX net.vs fo)[i]?=Y (eX net.vs fo)[i]:=by simp[hi]
   rw[this]at h2;show ç h2
  rw[h3];have ww:=nok.vs _ (Ĥ mw);have Nx:=uc.vs i _ h1;unfold nS
  split
  ·show { size:=by change 1<=net.vs[i].brim+1;have:=ww.size;have:=Nx.br;lia,ne:=ww.ne,o3:=ww.o3,outs:=ww.outs,spill:=ww.spill,a3:=ww.a3,acts:=ww.acts }
  ·show ww
 sps:=λ s hs=>by
  change 0<=s.1/\s.1 < ((eX net.vs fo).length:Nat);rw[iL];show nok.sps s hs
theorem NL (l:List Nat):(l.map λ(i:Nat)=>V.int (i:Int)).all jW=true:=by
 rw[Ē];intro z hz;let⟨i,_,rfl⟩:=å.1 hz;rfl
def Sta.tkA (net:Net) (s:Sta) (a:Int):Tick:=tV net s.held s.coming (a::eD (net.vs.length - 1)) s.doors
def Sta.nxA (net:Net) (s:Sta) (a:Int):Sta:=⟨(s.tkA net a).held,(s.tkA net a).coming,(s.tkA net a).doors⟩
def sG (net:Net) (v:Int) (s:Sta) (a:Int):Bool:=U1 (.int v) ((s.tkA net a).tip.map λ(j:Nat)=>V.int (j:Int))
def qC (net:Net) (s:Sta):Prop:=StOk net s.held s.coming s.doors
theorem BP  (nok:NetOk net) (a:Int):(a::eD (net.vs.length - 1)).length=net.vs.length:=by
 rw[Ý,yP];have:=nok.lo;lia
theorem sQ (net:Net):qC net (oM net):=⟨yP _,yP _,by change(net.sps.map _).length=_;rw[Ê]⟩
theorem vH  (nok:NetOk net) (ih:qC net s) (a:Int):qC net (s.nxA net a):=by
 have hs:(cR net s.held s.coming (a::eD (net.vs.length - 1)) s.doors).length=net.vs.length:=by
  unfold cR;rw[jX,mK ih.h ih.c (BP nok a)]
 show⟨kC _ _ hs.symm,by change(i5 _ _).length=_;unfold i5;simp,by change(dY _ _ _).length=_;rw[kS];show ih.d⟩
def sR (K:Ç):Sp:=λ vs H Q _=>∃(x y:V) (net:Net) (s:Sta) (v a:Int),vs=[x,y,.int v,.int a]/\Is K H (cJ net) x/\Is K H (dA s) y/\NetOk net/\qC net s/\
 ∀ p b H',aE H H'->aP K H' p [b,.bl (sG net v s a)]->Is K H' (dA (s.nxA net a)) b->Q (.ref p) H'
theorem MA (F:Fun K "watch" "watch" (bG 47) f fd) (T:Txt mg)
  (jv:Callee P w K mg base "pouring" ["net","amount"] 1 (mQ K) f2 js) (jt:Callee P w K mg base "tick_behind" ["net","state","poured"] 4 (sS K) f3 nj) :
  FnOk P w K mg base fX 5 f fd ["net","state","vessel","amount"] (sR K):=by
 show F.ok ["net","state","vessel","amount","behind","tipped","grounded"] λ sc gz A outer s H vs Q E hr h=>?_
 ·let⟨x,y,net,st,v,a,rfl,hx,hy,nok,sj,k⟩:=h;show⟨_,(aA (bP (cA jt hr (a7 (pv 0) (a7 (pv 1) (a7 (cA jv hr (a7 (pv 0) (a7 (pv 3) a9))) a9)))) (aM (K:=K) (n:=3) O O (aB (gL 4 sc.nd) (aB (gL 5 sc.nd) (aB (gL 6 sc.nd) aL)))))
   (aF (aK (aQ (a7 (pv 4) (a7 (fI (M1 (K:=K) O) (pv 2) (pv 5) (by rfl)) a9)))))),?_⟩
  show(bA _ O (bA _ O (bA _ O (bA _ O (NN x net a O ⟨hx,nok,λ z H1 s1 qz=>?_⟩)))));show⟨x,y,z,net,st.held,st.coming,a::eD (net.vs.length - 1),st.doors,O,Ì s1.ts _ _ hx,Ì s1.ts _ _ hy,qz,nok,sj,BP nok a,λ r H2 s2 tp=>?_⟩;let⟨f,y1,Yq,rfl,qf,j1,Yr⟩:=tp;show⟨f,_,O,qf,O,_,_,O,_,_,O,_,_,O,O,?_⟩;show⟨_,O,_,O,_,O,Yq,_,O,.inr Yr.sq,O,NL _,(sz0 2),λ p hp=>?_⟩;have s3:=È (o:=HO.tup [y1,.bl (sG net v st a)]) hp;show k p y1 _ ((s1.trans s2).trans s3) (Í a8) (Ì s3.ts _ _ j1)
def R1 (i:Nat) (st:Stmt):Pos:=match (cL st)[i]? with
 |some (.Assign _ (.Call _ [_,.Lambda _ _ _ p,_,_] _ _) _)=>p
 |_=>⟨0,0,0,0⟩
structure SmT (Pt:Á) (pos:Pos) (q:Str) (H H':Hp):Prop where
 but:TZ Pt H H'
 t1:dU H Pt pos q
 t2:dU H' Pt pos q
theorem dU.of  (h:dU H Pt pos q) (s:aE H H'):SmT Pt pos q H H':=⟨λ b o _ e=>s b o e,h,h.same s⟩
theorem SmT.trans  (a:SmT Pt pos q H H') (b:SmT Pt pos q H' lg):SmT Pt pos q H lg:=⟨λ c o n e=>b.but c o n (a.but c o n e),a.t1,b.t2⟩
theorem SmT.step  (a:SmT Pt pos q H H') (b:aE H' lg):SmT Pt pos q H lg:=a.trans (dU.of a.t2 b)
theorem SmT.get  (a:SmT Pt pos q H H') (e:H b=Y o) (hn:∀ ps,o≠.tbl ps):H' b=Y o:=a.but b o (λ z=>by
 let⟨ps,h⟩:=a.t1.some;rw[z,h]at e;show hn ps (ç e).symm) e
theorem SmT.free  (a:SmT Pt pos q H H') (h:H' b=W):H b=none:=by
 cases e:H b with
 |none=>rfl
 |some o=>
  by_cases hb:b=Pt
  ·let⟨ps,h2⟩:=a.t2.some;rw[hb,h2]at h;cases h
  ·rw[a.but b o hb e]at h;cases h
theorem SmT.ts  (a:SmT Pt pos q H H'):bD K H H':=λ b xs h=>by
 rcases h with(h|⟨o,h⟩)|h
 ·show .inl (.inl (a.get h λ ps z=>by cases z))
 ·show .inl (.inr ⟨o,a.get h λ ps z=>by cases z⟩)
 ·show .inr h
theorem Fun.okRC {x qual:Str}{st:Stmt}{N ps:List Str}{k:Nat}{sp:Sp} (F:Fun K x qual st f fd) (hc:fd.code=.ref c) (S:FnScope N ps (aH st)) (len:∀ vs H Q E,sp vs H Q E->vs.length=ps.length)
  (jl:∀(A:Around) (outer:List Env) (s:Â) (H:Hp) (vs:List V) (Q:VK) (E:XK),Room k (A.deeper (PyProof.Rows.envOfC qual (aH st) s.heap.objs.size f (.ref c)))->sp vs H Q E->
   Leaves (jZ (mL P w) P w K mg base N qual (aH st) f (.ref c) A outer s H E) E->
   ∃ t,yO (jZ (mL P w) P w K mg base N qual (aH st) f (.ref c) A outer s H E) (cL st) t/\t { nx:=λ _ H'=>Q .non H',rt:=Q } (start N vs) H):FnOk P w K mg base (mL P w) (k+1) f fd ps sp:=by
 let⟨oc,od,kV,doc,pm,an,gz,ct,ue,rfl,lk,qj⟩:=F.ex;obtain rfl:gz=.ref c:=hc;show NK lk qj S len λ A outer s H vs Q E hr kf=>jl A outer s H vs Q E hr kf ⟨O,O,O,λ _ _ h=>h⟩
end Tw
namespace L2
open PySem PySem.Spec PyProof.Rows TwZ
open PySem.W (envX CodeHd tabObj)
section
variable {k nl:Nat}{f c:Á}{name qual:Str}{params:Arguments}{body:List Stmt}{scope:Scope}{cl:List (Str×Á)}{pm mf doc:À}{oc:Obj}{sp:Sp}{s:Â}{N ps:List Str}{fv:List V}
theorem NU (S:LamScope N ps scope cl) (len:∀ vs H Q,sp vs H Q E0->vs.length=ps.length) (hl:N.length=ps.length+nl+fv.length)
  (pq:∃ vs t,oc.data=.fields vs/\vs[1]?=Y (.str qual t)) (uv:∀ us:List À,us.length=ps.length->bindArgs (PySem.W.fnX name qual params body scope cl .none .none doc pm W (.ref c) mf) ⟨us,[]⟩=pure (ps.zip us))
  (wc:∀ y c,cl.lookup y=Y c->∃ v,s.heap.IsCell c v) (Oe:∀(i:Nat) (y:Str) (v:V),N[ps.length+nl+i]?=Y y->fv[i]?=Y v->scope.names.lookup y=Y .free/\∃ c u,cl.lookup y=Y c/\s.heap.IsCell c (Y u)/\aX v u)
  (jl:∀(A:Around) (outer:List Env) (s':Â) (H':Hp) (vs:List V) (Q:VK),Room k (A.deeper (envX qual scope s'.heap.objs.size f (.ref c) cl))->sp vs H' Q E0->
   ∃ t,yO (yH P w K mg base N qual scope f (.ref c) cl A outer s' H') body t/\t { nx:=λ _ lg=>Q .non lg,rt:=Q } (vs.map Y++(List.replicate nl W++fv.map Y)) H') :
  HD P w K mg base (k+1) f c (PySem.W.fnMade name qual params body scope cl doc pm c mf) oc cl sp s:=by
 intro A outer s' H' us vs Q hr e0 hf ck r kf;have gr:=len _ _ _ kf;have Of:us.length=ps.length:=by rw[<- r.length];show gr
 let⟨ef,_⟩:=(show bY P w H' s'.heap f (.frz _ (.own f)) from e0.hok f _ hf.fn);let⟨ec,_⟩:=(show bY P w H' s'.heap c (.frz _ (.own c)) from e0.hok c _ hf.cd);have ik:s'.heap.NoLimit:=e0.mod.nolimit.keeps λ b o e=>(e0.bs b o e).1;have cellK:∀ {y:Str}{a:Á}{v:Option À},cl.lookup y=Y a->s.heap.IsCell a v->s'.heap.IsCell a v:=λ {y a v} h1 h2=>by
  have hm:a∈cl.map (·.2):=å.2 ⟨(y,a),ó h1,rfl⟩;let⟨o,e1,e2⟩:=h2;show⟨o,ck.keep a hm o e1,e2⟩
 let⟨Og,t0,Oh,Oi⟩:=pq;show afm hr.depth ef O S.co S.gen O ⟨c,oc,Og,t0,O,ec,Oh,Oi⟩ ?_;rw[uv us Of];have Ek:ps.Nodup:=by rw[<- S.pre];show S.nd.sublist (agi _ _)
 show Ë (Ŭ S.nocell (λ y hy=>S.par _ (Ŋ hy).1) (λ h₁ ua qr=>⟨ik.fresh _ qr,?_⟩) S.kind);change codeAny _ _ (.func body (envX qual scope s'.heap.objs.size f (.ref c) cl)) _ _;show codeAny_func ?_;have ce:∀ b o,s'.heap.get? b=Y o->h₁.get? b=Y o:=λ b o e=>qr.extBut b o (â (Ô e)) (Ï _ e);let⟨te,Oj,hq⟩:=jl A outer s' H' vs Q (hr.deeper _) kf;have I:Inv (yH P w K mg base N qual scope f (.ref c) cl A outer s' H') [] (vs.map Y++(List.replicate nl W++fv.map Y)) H' { s' with heap:=h₁,toks:=s'.toks+(ps.zip us).length }:=by
  have yq:∀ b:Á,b∉(yH P w K mg base N qual scope f (.ref c) cl A outer s' H').ex:=λ b z=>absurd (show b∈([]:List Á) from z) G0;show⟨⟨e0.mod,S.kind,O,O,Ñ _,λ y z a h1 h2=>?_,λ y hy=>?_,λ y a h _=>absurd (show (Eh:Bool)=Eg from h) ã,λ _=>hr.hd,afr e0.frames,.inr ⟨O,O⟩,λ b z=>absurd z (yq b),e0.bs,e0.bsz,λ b _ _=>yq b,λ b z=>absurd z (yq b),e0.funs,e0.frf⟩,
   rfl,e0.bare,Un.kept ce,⟨_,ua,λ i y v h1 h2 h3=>?_⟩,λ y a h=>?_,e0.hok.fresh (Ñ _),λ y a h=>?_,λ p hp=>absurd (show p∈([]:List (Á×Obj))from hp) G0,e0.hok.kept ce,?_⟩
  ·show name_of_addr S.apart (ó h1) (ó h2)
  ·have hy:scope.names.lookup y=Y .cell\/scope.names.lookup y=Y .free:=hy;rcases hy with hy|hy
   ·show absurd O (S.nocell _ (ó hy))
   ·show S.frees y hy
  ·by_cases hi:i < vs.length
   ·rw[Į (by simpa using hi),Ø] at h2;let⟨a,ha,e⟩:=é.mp h2;cases e;let⟨u,hu,rv⟩:=r.get ha;have hp:ps[i]? = Y y:=by
     rw[<- S.pre,Ŧ Fn];show h1
    show⟨u,rv,.inl ⟨S.par y (Û hp),m6 Ek hp hu⟩⟩
   ·rw[Ŏ (by simpa using hi),Ê] at h2;have xj:nl<=i - vs.length:=by
     rcases Nat.lt_or_ge (i - vs.length) nl with c|c
     ·rw[Į (by rw[ŏ];show c),aex,Å c]at h2;cases h2
     ·show c
    rw[Ŏ (by rw[ŏ];show xj),ŏ,Ø]at h2;let⟨a,ha,e⟩:=é.mp h2;cases e;let⟨hk,a,u,h4,h5,rv⟩:=Oe (i - vs.length - nl) y v (by rw[show ps.length+nl+(i - vs.length - nl)=i by lia];show h1) ha;let⟨o,e1,e2⟩:=cellK h4 h5;show⟨u,rv,.inr ⟨.inr hk,a,h4,o,ce _ _ e1,e2⟩⟩
  ·let⟨v,hv⟩:=wc y a h;let⟨o,e1,e2⟩:=cellK h hv;show⟨v,o,ce _ _ e1,e2⟩
  ·show ck.free a (å.2 ⟨(y,a),ó h,O⟩)
  ·change _=N.length;rw[Þ,Þ,ŏ,Ê,Ê];lia
 show ä (Oj [] _ _ H' _ I hq) (λ fl ve hs=>?_) λ e ve z=>z.elim;cases fl with
 |ret u=>
  let⟨v,ac,lg,J,rv,q⟩:=hs;show⟨v,lg,J.os,J.bare,J.base,J.hok,rv,q⟩
 |next=>
  let⟨ac,lg,J,q⟩:=hs;show⟨V.non,lg,J.os,J.bare,J.base,J.hok,O,q⟩
 |brk=>
  let⟨_,_,_,q⟩:=hs;show False.elim q
 |cont=>
  let⟨_,_,_,q⟩:=hs;show False.elim q
end
def tDef (i:Nat) (Pt:Á) (pos:Pos) (q:Str) (mk:Á->À->À->Obj):TS:=λ D σ H=>dU H Pt pos q/\∀(f c:Á) (oc:Obj) (mf doc:À) (H':Hp),H f=W->TZ Pt H H'->dU H' Pt pos q->FnH H' f c (mk c mf doc) oc->(∃ vs t,oc.data=.fields vs/\vs[1]?=Y (.str q t))->D.nx (σ.set i (Y (.ref f))) H'
section
variable {X:Cx}
theorem SG {c Pt:Á}{clos:List (Str×Á)}{i:Nat} (hN:X.N.Nodup) (hi:X.N[i]?=Y name) (mq:X.env.scope.names.lookup name=Y .local) (Gr:params.defaults=[]) (hd2:params.kw_defaults=[]) (Ys:annTrees params W X.env=[]) (vf:closureFor scope X.env=pure clos) (kh:X.env.code=.ref c) (NB:NestB X.mg X.base c Pt) :
  PS X (.FunctionDef name params body [] W [] scope W name pos) (tDef i Pt pos (qualnameIn X.env name name) λ c' mf doc=>PySem.W.fnMade name (qualnameIn X.env name name) params body scope clos doc ((X.mg "__name__").getD .none) c' mf):=by
 intro gj s σ H D I h;let⟨tab,h⟩:=h;show PySem.W.nestDef_K Gr hd2 Ys ?_;have tf:∃ ps,H Pt=Y (.tbl ps):=tab.some;have Hf:∀ b o,X.base.get? b=Y o->b≠Pt:=λ b o e z=>by
  let⟨ps,hp⟩:=tf;have:=(I.bs b o e).2;rw[z,hp]at this;cases this
 have Hg:=I.mod.glob.keeps I.bk;have Om:mainGlobals≠Pt:=by
  let⟨o,es,ep,e,_⟩:=I.mod.glob;show Hf _ _ e
 let⟨bm,ob,b1,b2,b3,b4,b5,b6,b7⟩:=NB.bm;have hb:s.heap.BuiltinsAt X.mg Pt:=⟨bm,ob,b1,b2,b3,Hf _ _ b4,I.bk _ _ b4,b5,b6,b7⟩;rcases tab with e|⟨c',oc,vs,t,e,ec,d1,d2⟩
 ·have hP:s.heap.get? Pt=Y (tabObj #[]):=(show bY X.prog X.w H s.heap Pt (.tbl #[]) from I.hok Pt _ e);show PySem.W.makeFunction_K (mg:=X.mg) vf I.ok.glob Hg kh (NB.hd.keeps I.bk) hP trivial O Om hb λ c' mf doc h' tk hx xj jh Dq On=>?_;let⟨c2,oc,vs,t,e2,pq,d1,d2⟩:=Dq;cases e2;have Av:H c'=none:=I.hok.fresh xj;have Hh:Pt≠c':=λ z=>by rw[<- z,e] at Av;cases Av
  have we:h'.get? Pt=Y (tabObj #[rawInt pos.line,rawInt pos.col,.ref c']):=by simpa using On
  have J:Inv X gj σ (upd (upd H Pt (.tbl #[rawInt pos.line,rawInt pos.col,.ref c'])) c' (.frz oc (.own c'))) { s with heap:=h',toks:=tk }:=by
   have zj:∀ {b:Á}{o:HO},H b=Y o->b≠Pt->upd (upd H Pt (.tbl #[rawInt pos.line,rawInt pos.col,.ref c'])) c' (.frz oc (.own c')) b=Y o:=λ {b o} q hb=>by
    rw[aG (aI q Av),aG hb];show q
   show I.call (h':=h') (g':=s.gens) (d':=s.drawn) (t':=tk) (ch:=[]) ?_ ?_ I.bare (λ b z=>absurd z G0)
   ·show⟨λ b o q n _ _=>hx b o (λ z=>by rw[z,e]at n;cases n) q,λ b o q n _ _=>⟨o.slots,hx b o (λ z=>by rw[z,e]at n;cases n) q⟩,λ b o q n _=>?_,λ b o q _=>?_,λ b xs q=>zj q (λ z=>by rw[z,e]at q;cases q),λ b o u q=>zj q (λ z=>by rw[z,e]at q;cases q),λ b ps q=>?_⟩
    ·rw[aG (â (ï (Ô q) xj)),aG (λ z=>by rw[z,e]at n;cases n)];show n
    ·by_cases jj:b=Pt
     ·subst jj;show⟨_,we⟩
     ·show⟨o,hx b o jj q⟩
    ·by_cases jj:b=Pt
     ·subst jj;rw[e]at q;cases q;show⟨#[rawInt pos.line,rawInt pos.col,.ref c'],by rw[aG Hh,a8];simp⟩
     ·show⟨#[],by rw[zj q jj];simp⟩
   ·intro b u q
    by_cases Hi:b=c'
    ·subst Hi;rw[a8]at q;cases q;show⟨pq,oc,pq⟩
    ·rw[aG Hi]at q
     by_cases jj:b=Pt
     ·subst jj;rw[a8]at q;cases q;show we
     ·rw[aG jj]at q;show(I.hok b u q).stay (λ d o hd r=>hx d o (λ z=>?_) r) (λ d r=>zj r (λ z=>by rw[z,e]at r;cases r)) λ d xs r=>zj r (λ z=>by rw[z,e]at r;cases r);rcases hd with rfl|hd
      ·show jj z
      ·rw[z,e]at hd;cases hd
  have J2:=Inv.frzNew (tk:=tk) (ob:=PySem.W.fnMade name (qualnameIn X.env name name) params body scope clos doc ((X.mg "__name__").getD .none) c' mf) J (h':=h') (λ b o q=>q) (Ñ _);have Hj:c'≠h'.objs.size:=â jh;have Oo:Pt≠h'.objs.size:=â (Ô we);have qi:H h'.objs.size=none:=I.hok.fresh (ý xj (ĝ jh));show fP J2 hN hi (.inl mq) (v:=.ref h'.objs.size) O (λ s3 J3=>⟨_,_,J3,h h'.objs.size c' oc mf doc _ qi (λ b o jj q=>?_) (.inr ⟨c',oc,vs,t,?_,?_,d1,d2⟩) ⟨a8,?_⟩ ⟨vs,t,d1,d2⟩⟩) (.inr mq)
  ·rw[aG (aI q qi),aG (aI q Av),aG jj];show q
  ·rw[aG Oo,aG Hh,a8]
  ·rw[aG Hj,a8]
  ·rw[aG Hj,a8]
 ·have hP:s.heap.get? Pt=Y (tabObj #[rawInt pos.line,rawInt pos.col,.ref c']):=(show bY X.prog X.w H s.heap Pt (.tbl #[rawInt pos.line,rawInt pos.col,.ref c'])from I.hok Pt _ e);show PySem.W.makeFunction_hit (mg:=X.mg) vf I.ok.glob Hg kh (NB.hd.keeps I.bk) hP (show TriplesOk [rawInt pos.line,rawInt pos.col,.ref c']from trivial) (show codeAmong pos [rawInt pos.line,rawInt pos.col,.ref c']=Y (.ref c') by simp[codeAmong,rawInt]) hb λ mf doc h' tk hk hsz=>?_;have J2:=Inv.frzNew (tk:=tk) (ob:=PySem.W.fnMade name (qualnameIn X.env name name) params body scope clos doc ((X.mg "__name__").getD .none) c' mf) I (h':=h') hk hsz;have qi:H h'.objs.size=none:=I.hok.fresh hsz;have s1:=È (o:=HO.frz (PySem.W.fnMade name (qualnameIn X.env name name) params body scope clos doc ((X.mg "__name__").getD .none) c' mf) (.own h'.objs.size)) qi;show fP J2 hN hi (.inl mq) (v:=.ref h'.objs.size) O (λ s3 J3=>⟨_,_,J3,h h'.objs.size c' oc mf doc _ qi (λ b o _ q=>s1 _ _ q) (.inr ⟨c',oc,vs,t,s1 _ _ e,s1 _ _ ec,d1,d2⟩) ⟨a8,s1 _ _ ec⟩ ⟨vs,t,d1,d2⟩⟩) (.inr mq)
end
end L2
namespace Tw
open PySem L2
abbrev wS:=Sta×Sta
def tX (q:wS):L2.D:=.tup [dA q.1,dA q.2]
def nx2 (A B:Net) (q:wS) (a:Int):wS:=(q.1.nxA A a,q.2.nxA B a)
def TH (A B:Net) (i j:Int) (q:wS) (a:Int):Bool:=!decide (V.bl (sG A i q.1 a)=V.bl (sG B j q.2 a))
def Ok2 (A B:Net) (q:wS):Prop:=qC A q.1/\qC B q.2
def sh2 (A B:Net):L2.D:=.tup [L7 A,L7 B]
theorem PY  (ok:Ok2 A B q) (h:Is K H (tX q) v):KeyD K H (sh2 A B) (tX q) v:=by
 show⟨?_,?_,?_,h,?_⟩
 ·change sh (.tup [dA q.1,dA q.2])=_;rw[sh,lF,lF,lF,DY ok.1,DY ok.2];rfl
 ·change(L2.D.tup [.tup [.tup (q.1.held.map L2.D.int),.tup (q.1.coming.map L2.D.int),.tup (q.1.doors.map L2.D.bl)],.tup [.tup (q.2.held.map L2.D.int),.tup (q.2.coming.map L2.D.int),.tup (q.2.doors.map L2.D.bl)]]).depth<=7;rw[L2.D.depth,dN,dN,dN,L2.D.depth,L2.D.depth,vY,vY];decide
 ·change dO (.tup [dA q.1,dA q.2]);rw[dO,cS,cS,cS];show⟨qN _,qN _,trivial⟩
 ·let⟨a,xs,rfl,_⟩:=(show Is K H (.tup [dA q.1,dA q.2]) v from h).un;show⟨a,O⟩
theorem S0  (h:Is K H (tX q) v):∃(a:Á) (x y:V),v=.ref a/\aP K H a [x,y]/\Is K H (dA q.1) x/\Is K H (dA q.2) y:=by
 let⟨a,xs,rfl,hq,l⟩:=(show Is K H (.tup [dA q.1,dA q.2]) v from h).un;rw[L2.IsL]at l;let⟨x,r,rfl,h1,l⟩:=l;rw[L2.IsL]at l;let⟨y,r,rfl,h2,l⟩:=l;rw[L2.IsL]at l;subst l;show⟨a,x,y,O,hq,h1,h2⟩
abbrev rG (A B:Net) (i j:Int) (gm:Nat):BRes wS:=O1 tX (nx2 A B) (TH A B i j) gm 300 (oM A,oM B)
structure NdP (N:List Str):Prop where
 nd:N.Nodup
structure TxtP (mg:Str->Option À):Prop where
 g_MOST_PAIRS:∃ u,mg "MOST_PAIRS" =Y u/\aX (.int 300) u
def VE (i:Nat) (st:Stmt):Pos:=match (cL st)[i]? with
 |some (.FunctionDef _ _ _ _ _ _ _ _ _ p)=>p
 |_=>⟨0,0,0,0⟩
def E8:Pos:=VE 0 (bG 51)
def SE:Str:=(("alike":Str)++(".<locals>.":Str))++("step":Str)
def FW (K:Ç) (Pt:Á) (cM:Á):Sp:=λ vs H Q E=>∃(x y:V) (A B:Net) (i j:Int) (gm:Nat),vs=[x,y,.int i,.int j,.int gm]/\Is K H (cJ A) x/\Is K H (cJ B) y/\NetOk A/\NetOk B/\gm<=1000/\dU H Pt E8 SE/\
  (∀ row fs,rG A B i j gm=.ends row fs->∀ p rl H',SmT Pt E8 SE H H'->aP K H' p [.str "parted",.ref rl]->H' rl=Y (.lst (row.map V.int))->H rl=W->row.length<=2000->Q (.ref p) H')/\
  (rG A B i j gm=.many->∀ H',SmT Pt E8 SE H H'->E (.ref cM) W H')/\
  (∀ fs,rG A B i j gm=.on fs->∀ p fl us H',SmT Pt E8 SE H H'->aP K H' p [.str "alike",.ref fl]->H' fl=Y (.lst us)->H fl=W->Paired (λ(p:wS×List Int) v=>KeyD K H' (sh2 A B) (tX p.1) v) fs us->(∀ q∈fs,Ok2 A B q.1)->fs.length<=300->Q (.ref p) H')
theorem BI:FnScope ["net","other","one","two","most","step","row","pairs"] ["net","other","one","two","most"] (aH (bG 51)):={}
theorem MD (F:Fun K "alike" "alike" (bG 51) f fd) (T:Txt mg) (kh:fd.code=.ref c) (pf:NestB mg base c Pt) (U:TxtP mg)
  (ii:Callee P w K mg base "first_state" ["net"] 1 (oP K) f2 js)
  (ka:Callee P w K mg base "watch" ["net","state","vessel","amount"] 5 (sR K) f3 nj) (gw:CalleeS P w K mg base "go_through" ["first","step","most","limit"] 7 (xB P w K mg base gq tX) f4 ze) :
  FnOk P w K mg base (mL P w) 8 f fd ["net","other","one","two","most"] (FW K Pt gq):=by
 show Fun.okRC F kh BI (λ vs H Q E h=>?_) (λ A outer s H vs Q E hr h L=>?_)
 ·let⟨x,y,N1,N2,i,j,gm,rfl,_⟩:=h;rfl
 ·let⟨x,y,N1,N2,i,j,gm,rfl,hx,hy,nok,kr,hm,tab,kE,kM,kO⟩:=h;have sc:=BI;show⟨_,(aA (SG (i:=5) sc.nd O O O O O O O pf)
   (aA (bP (uW gw.ok (hr.mono FZ) O gw.mg gw.kp gw.bd (jA L) O O (λ _=>O) (a7 (aQ (a7 (cA ii hr (a7 (pv 0) a9)) (a7 (cA ii hr (a7 (pv 1) a9)) a9))) (a7 (pv 5) (a7 (pv 4) (a7 (dS O U.g_MOST_PAIRS) a9))))) (aM (K:=K) (n:=2) O O (aB (gL 6 sc.nd) (aB (gL 7 sc.nd) aL))))
   (aA (cE (bN qP (pv 6) cH (bK _)) (aF (aK (aQ (a7 eY (a7 (pv 7) a9))))) bF)
   (aF (aK (aQ (a7 eY (a7 (pv 6) a9)))))))),?_⟩
  show⟨tab,λ fa ca oc mf doc H2 La bt re Hs pq=>?_⟩;have sT:SmT Pt E8 SE H H2:=⟨bt,tab,re⟩;have Ht:=Ì sT.ts _ _ hx;have Hu:=Ì sT.ts _ _ hy;show⟨_,O,x,N1,O,Ht,nok,λ s1 H3 m3 h3=>⟨_,O,y,N2,O,Ì m3.ts _ _ Hu,kr,λ s2 H4 m4 h4=>⟨(sz0 2),λ pp Hb=>⟨_,O,_,O,λ Hv cf=>?_⟩⟩⟩⟩;have vi:=m3.trans (m4.trans (È (o:=HO.tup [s1,s2]) Hb));have Ew:=sT.step vi;have Uk:Is K (upd H4 pp (.tup [s1,s2])) (tX (oM N1,oM N2)) (.ref pp):=Ð (ds:=[dA (oM N1),dA (oM N2)]) (Í a8) (.cons (Ì (m4.trans (È Hb)).ts _ _ h3) (.cons (Ì (È Hb).ts _ _ h4) .nil));generalize upd H4 pp (.tup [s1,s2])=H5 at vi Ew Uk cf ⊢;have Pe:=Hs.same vi;obtain⟨X,hX⟩:∃ X,X=jZ (mL P w) P w K mg base ["net","other","one","two","most","step","row","pairs"] "alike" (aH (bG 51)) f (.ref c) A outer s H E:=⟨_,rfl⟩;rw[<- hX]at cf;have c1:X.env.cells.lookup ("net":Str)=Y (s.heap.objs.size+1):=by rw[hX];rfl
  have c2:X.env.cells.lookup ("other":Str)=Y (s.heap.objs.size+1+1):=by rw[hX];rfl
  have c3:X.env.cells.lookup ("one":Str)=Y (s.heap.objs.size+1+1+1):=by rw[hX];rfl
  have c4:X.env.cells.lookup ("two":Str)=Y (s.heap.objs.size+1+1+1+1):=by rw[hX];rfl
  have val:∀(n:Nat) (z:Str) (u:V) (a:Á),X.N[n]?=Y z->(L2.start ["net","other","one","two","most","step","row","pairs"] [x,y,.int i,.int j,.int gm] |>.set 5 (Y (.ref fa)))[n]?=Y (Y u)->X.env.scope.names.lookup z=Y .cell->X.env.cells.lookup z=Y a->∃ w',Hv.heap.IsCell a (Y w')/\aX u w':=λ n z u a h1 h2 h3 h4=>by
   let⟨c',w',h5,h6,h7⟩:=cf.val n z u h1 h2 h3;rw[h4]at h5;cases h5;show⟨w',h6,h7⟩
  show⟨nx2 N1 N2,TH N1 N2 i j,Ok2 N1 N2,λ H=>Is K H (cJ N1) x/\Is K H (cJ N2) y,sh2 N1 N2,.ref pp,fa,ca,_,oc,[("two",s.heap.objs.size+1+1+1+1),("other",s.heap.objs.size+1+1),("one",s.heap.objs.size+1+1+1),("net",s.heap.objs.size+1)],gm,300,(oM N1,oM N2),O,FZ,FZ,hm,Uk,⟨sQ N1,sQ N2⟩,⟨λ d a h _=>⟨vH nok h.1 a,vH kr h.2 a⟩,λ d h H v e=>PY h e,λ H H' t h=>⟨Ì t _ _ h.1,Ì t _ _ h.2⟩⟩,⟨Ì vi.ts _ _ Ht,Ì vi.ts _ _ Hu⟩,Pe,⟨_,_,_,_,O⟩,?_,?_,?_,?_,?_⟩
  ·have four:∀(z:Str) (c':Á),List.lookup z [(("two":Str),s.heap.objs.size+1+1+1+1),(("other":Str),s.heap.objs.size+1+1),(("one":Str),s.heap.objs.size+1+1+1),(("net":Str),s.heap.objs.size+1)]=Y c'->X.env.cells.lookup z=Y c':=λ z c' h=>by
    have:=ó h;rcases Ò.1 this with q|this
    ·injection q with q1 q2;subst q1 q2;show c4
    rcases Ò.1 this with q|this
    ·injection q with q1 q2;subst q1 q2;show c2
    rcases Ò.1 this with q|this
    ·injection q with q1 q2;subst q1 q2;show c3
    ·rw[ù]at this;injection this with q1 q2;subst q1 q2;show c1
   show NU (nl:=4) (N:=["pair","amount","state","tips","other_state","other_tips","net","one","other","two"]) (ps:=["pair","amount"]) (fv:=[x,.int i,y,.int j]) ⟨O,O,O,FY,O,FY,FY,?_,?_⟩ ?_ O pq ?_ ?_ ?_ ?_
   ·intro z hz;have:=ó hz;simp only[Ò,ag7,reduceCtorEq,and_false,and_true,false_or,or_false,Ĝ]at this;rcases this with rfl|rfl|rfl|rfl <;> show⟨_,O⟩
   ·show List.Pairwise.cons (λ z hz=>?_) (List.Pairwise.cons (λ z hz=>?_) (List.Pairwise.cons (λ z hz=>?_) (ae4 _ _)))
    ·change s.heap.objs.size+1+1+1+1≠z.2;simp only[Ò,Ĝ,or_false]at hz;rcases hz with rfl|rfl|rfl <;> (dsimp only;lia)
    ·change s.heap.objs.size+1+1≠z.2;simp only[Ò,Ĝ,or_false]at hz;rcases hz with rfl|rfl <;> (dsimp only;lia)
    ·change s.heap.objs.size+1+1+1≠z.2;simp only[Ò,Ĝ,or_false]at hz;subst hz;dsimp only;lia
   ·rintro vs H' Q' xK;let⟨x',d,a,rfl,_⟩:=xK;rfl
   ·intro us yt;obtain⟨u1,u2,rfl⟩:∃ u1 u2,us=[u1,u2]:=by
     match us,yt with
     |[u1,u2],_=>show⟨u1,u2,O⟩
    rfl
   ·intro z c' h;show cf.cell _ _ (four z c' h)
   ·intro n z u h1 h2
    match n,h1,h2 with
    |0,h1,h2=>
     cases h1;cases h2;let⟨w',h4,h5⟩:=val 0 "net" x _ (by rw[hX];rfl) rfl (by rw[hX];rfl) c1;show⟨O,_,w',O,h4,h5⟩
    |1,h1,h2=>
     cases h1;cases h2;let⟨w',h4,h5⟩:=val 2 "one" (.int i) _ (by rw[hX];rfl) rfl (by rw[hX];rfl) c3;show⟨O,_,w',O,h4,h5⟩
    |2,h1,h2=>
     cases h1;cases h2;let⟨w',h4,h5⟩:=val 1 "other" y _ (by rw[hX];rfl) rfl (by rw[hX];rfl) c2;show⟨O,_,w',O,h4,h5⟩
    |3,h1,h2=>
     cases h1;cases h2;let⟨w',h4,h5⟩:=val 3 "two" (.int j) _ (by rw[hX];rfl) rfl (by rw[hX];rfl) c4;show⟨O,_,w',O,h4,h5⟩
    |n+4,h1,h2=>simp at h2
   ·rintro A' zn s' H' vs Q' hr xK;let⟨v,d,a,rfl,hv,Ay,ha,⟨g1,g2⟩,kk⟩:=xK;have sc:NdP ["pair","amount","state","tips","other_state","other_tips","net","one","other","two"]:=⟨FY⟩;show⟨_,(aA (bP (cA ka hr (a7 (pv 6) (a7 (px K (pv 0) aD) (a7 (pv 7) (a7 (pv 1) a9))))) (aM (K:=K) (n:=2) O O (aB (gL 2 sc.nd) (aB (gL 3 sc.nd) aL))))
   (aA (bP (cA ka hr (a7 (pv 8) (a7 (px K (pv 0) aD) (a7 (pv 9) (a7 (pv 1) a9))))) (aM (K:=K) (n:=2) O O (aB (gL 4 sc.nd) (aB (gL 5 sc.nd) aL))))
   (aF (aK (aQ (a7 (aQ (a7 (pv 2) (a7 (pv 4) a9))) (a7 (fI V1 (pv 3) (pv 5) (bK _)) a9))))))),?_⟩
    let⟨pa,x1,x2,rfl,Ul,i1,i2⟩:=S0 hv;show⟨_,O,_,O,.inr (.inl ⟨pa,_,0,_,O,O,Ul,O,_,O,_,O,x,x1,N1,d.1,i,a,O,g1,i1,nok,Ay.1,λ p b H7 s7 q7 j7=>?_⟩)⟩;show⟨p,_,O,q7,O,_,_,O,_,_,O,O,?_⟩;show⟨_,O,_,O,.inr (.inl ⟨pa,_,1,_,O,O,s7.tup Ul,O,_,O,_,O,y,x2,N2,d.2,j,a,O,Ì s7.ts _ _ g2,Ì s7.ts _ _ i2,kr,Ay.2,λ p' b' H8 s8 q8 j8=>?_⟩)⟩;show⟨p',_,O,q8,O,_,_,O,_,_,O,O,?_⟩;show⟨_,O,_,O,(sz0 2),λ p3 Az=>⟨_,O,_,O,O,(sz0 2),λ p4 Pf=>?_⟩⟩;have s9:=È (o:=HO.tup [b,b']) Az;have lh:=È (o:=HO.tup [.ref p3,.bl (TH N1 N2 i j d a)]) Pf;show kk p4 (.ref p3) _ (((s7.trans s8).trans s9).trans lh) (Í a8) ?_;show Ð (ds:=[dA (d.1.nxA N1 a),dA (d.2.nxA N2 a)]) (lh.tup (Í a8)) (.cons (Ì ((s8.trans s9).trans lh).ts _ _ j7) (.cons (Ì (s9.trans lh).ts _ _ j8) .nil))
  ·intro c' sr;have wn:X.env.cells.lookup ("two":Str)=Y c'\/X.env.cells.lookup ("other":Str)=Y c'\/X.env.cells.lookup ("one":Str)=Y c'\/X.env.cells.lookup ("net":Str)=Y c':=by
    have:c'=s.heap.objs.size+1+1+1+1\/c'=s.heap.objs.size+1+1\/c'=s.heap.objs.size+1+1+1\/c'=s.heap.objs.size+1:=by simpa using sr
    rcases this with rfl|rfl|rfl|rfl
    ·show .inl c4
    ·show .inr (.inl c2)
    ·show .inr (.inr (.inl c3))
    ·show .inr (.inr (.inr c1))
   have fin:∀ z:Str,X.env.cells.lookup z=Y c'->H5 c'=W/\c'∉kA X.stack/\c' < Hv.heap.objs.size/\∃ o,Hv.heap.get? c'=Y o:=λ z hz=>by
    let⟨h1,h2,h3⟩:=cf.out _ _ hz;let⟨u,o,h4,_⟩:=cf.cell _ _ hz;show⟨h1,h2,h3,o,h4⟩
   rw[hX]at fin;rw[hX]at wn;rcases wn with h|h|h|h <;> show fin _ h
  ·intro row fs e p rl fl H6 s6 qp jg tj gr;show⟨p,_,O,qp,O,_,_,O,_,_,O,O,?_⟩;show⟨_,O,O,_,O,eG ?_⟩;show⟨_,O,(sz0 2),λ tp qg=>?_⟩;have s7:=È (o:=HO.tup [.str "parted",.ref rl]) qg;show kE row fs e tp rl _ (Ew.step (s6.trans s7)) (Í a8) (s7 _ _ jg) (Ew.free tj) gr
  ·intro e H6 s6;show kM e H6 (Ew.step s6)
  ·intro fs e p fl us H6 s6 qp mm zo pr Hw gr;show⟨p,_,O,qp,O,_,_,O,_,_,O,O,?_⟩;show⟨_,O,O,_,O,eS ?_⟩;show⟨_,O,(sz0 2),λ tp qg=>?_⟩;have s7:=È (o:=HO.tup [.str "alike",.ref fl]) qg;show kO fs e tp fl us _ (Ew.step (s6.trans s7)) (Í a8) (s7 _ _ mm) (Ew.free zo) (ë pr λ _ _ h=>h.mono s7.ts) Hw gr
structure TxtM (mg:Str->Option À):Prop where
 g_MOST_STATES:∃ u,mg "MOST_STATES_soonest" =Y u/\aX (.int 300) u
theorem uI:FnScope ["net","vessel","most","row","states"] ["net","vessel","most"] (aH (bG 75)):={}
def E7:Pos:=R1 1 (bG 75)
def SD:Str:=(("soonest":Str)++(".<locals>.":Str))++("<lambda>":Str)
abbrev xD (net:Net) (v:Int) (gm:Nat):BRes Sta:=O1 dA (λ s a=>s.nxA net a) (sG net v) gm 300 (oM net)
def KU (K:Ç) (Pt:Á) (cV cM:Á):Sp:=λ vs H Q E=>∃(x:V) (net:Net) (v:Int) (gm:Nat),vs=[x,.int v,.int gm]/\Is K H (cJ net) x/\NetOk net/\gm<=1000/\dU H Pt E7 SD/\
 ((0<=v/\v < net.vs.length/\
  (∀ row fs,xD net v gm=.ends row fs->∀ p rl H',SmT Pt E7 SD H H'->aP K H' p [.str "tips",.ref rl]->H' rl=Y (.lst (row.map V.int))->H rl=W->row.length<=2000->Q (.ref p) H')/\
  (xD net v gm=.many->∀ H',SmT Pt E7 SD H H'->E (.ref cM) W H')/\
  (∀ fs,xD net v gm=.on fs->∀ p fl us H',SmT Pt E7 SD H H'->aP K H' p [.str "never",.ref fl]->H' fl=Y (.lst us)->H fl=W->Paired (λ(p:Sta×List Int) v=>KeyD K H' (L7 net) (dA p.1) v) fs us->(∀ q∈fs,qC net q.1)->fs.length<=300->Q (.ref p) H'))\/
  (¬ (0<=v/\v < net.vs.length)/\E (.ref cV) W H))
theorem EC (F:Fun K "soonest" "soonest" (bG 75) f fd) (T:Txt mg) (kh:fd.code=.ref c) (lq:NestB mg base c Pt) (U:TxtM mg)
  (gp:CalleeR P w K mg base "need_vessel" ["net","number"] 2 (oN K gu) f1 je) (ii:Callee P w K mg base "first_state" ["net"] 1 (oP K) f2 js)
  (ka:Callee P w K mg base "watch" ["net","state","vessel","amount"] 5 (sR K) f3 nj) (gw:CalleeS P w K mg base "go_through" ["first","step","most","limit"] 7 (xB P w K mg base gq dA) f4 ze) :
  FnOk P w K mg base (mL P w) 8 f fd ["net","vessel","most"] (KU K Pt gu gq):=by
 show Fun.okRC F kh uI (λ vs H Q E h=>?_) (λ A outer s H vs Q E hr h L=>?_)
 ·let⟨x,net,v,gm,rfl,_⟩:=h;rfl
 ·let⟨x,net,v,gm,rfl,hx,nok,hm,tab,k⟩:=h;have sc:=uI;show⟨_,(aA (bH (gH gp.ok (hr.mono FZ) O gp.mg gp.kp gp.bd .nil (jA L) (a7 (pv 0) (a7 (pv 1) a9))))
   (aA (bP (uW gw.ok (hr.mono FZ) O gw.mg gw.kp gw.bd (jA L) O O (λ _=>O) (a7 (cA ii hr (a7 (pv 0) a9)) (a7 (LU O O O lq) (a7 (pv 2) (a7 (dS O U.g_MOST_STATES) a9))))) (aM (K:=K) (n:=2) O O (aB (gL 3 sc.nd) (aB (gL 4 sc.nd) aL))))
   (aA (cE (bN qP (pv 3) cH (bK _)) (aF (aK (aQ (a7 eY (a7 (pv 4) a9))))) bF)
   (aF (aK (aQ (a7 eY (a7 (pv 3) a9)))))))),?_⟩
  show⟨_,O,_,O,x,net,v,O,hx,?_⟩;rcases k with⟨v0,v1,kE,kM,kO⟩|⟨hn,kV⟩
  ·show .inl ⟨v0,v1,?_⟩;show⟨_,O,x,net,O,hx,nok,λ st H1 s1 vn=>⟨tab.same s1,λ fa ca oc mf H2 La bt re Hs pq=>⟨_,O,λ Hv cf=>?_⟩⟩⟩;have sT:SmT Pt E7 SD H H2:=(dU.of tab s1).trans ⟨bt,tab.same s1,re⟩;have cN:(jZ (mL P w) P w K mg base ["net","vessel","most","row","states"] "soonest" (aH (bG 75)) f (.ref c) A outer s H E).env.cells.lookup ("net":Str)=Y (s.heap.objs.size+1):=rfl;have cW:(jZ (mL P w) P w K mg base ["net","vessel","most","row","states"] "soonest" (aH (bG 75)) f (.ref c) A outer s H E).env.cells.lookup ("vessel":Str)=Y (s.heap.objs.size+1+1):=rfl;show⟨λ s a=>s.nxA net a,sG net v,qC net,λ H=>Is K H (cJ net) x,L7 net,st,fa,ca,_,oc,[("vessel",s.heap.objs.size+1+1),("net",s.heap.objs.size+1)],gm,300,oM net,O,FZ,FZ,hm,?_,sQ net,⟨λ d a h _=>vH nok h a,λ d h H v e=>zY h e,λ H H' t h=>Ì t _ _ h⟩,Ì sT.ts _ _ hx,Hs,⟨_,_,_,_,O⟩,?_,?_,?_,?_,?_⟩
   ·show Ì (SmT.ts ⟨bt,tab.same s1,re⟩) _ _ vn
   ·have two:∀(y:Str) (c:Á),List.lookup y [(("vessel":Str),s.heap.objs.size+1+1),(("net":Str),s.heap.objs.size+1)]=Y c->(y="vessel" /\ c=s.heap.objs.size+1+1)\/(y="net" /\ c=s.heap.objs.size+1):=λ y c h=>by
     have:=ó h;rcases Ò.1 this with z|z
     ·injection z with z1 z2;show .inl ⟨z1,z2⟩
     ·rw[ù]at z;injection z with z1 z2;show .inr ⟨z1,z2⟩
    show CK (N:=["state","amount","net","vessel"]) (ps:=["state","amount"]) (fv:=[x,.int v]) ⟨O,O,O,FY,O,FY,FY,?_,?_⟩ ?_ O pq ?_ ?_ ?_ ?_
    ·intro y hy;have:=ó hy;simp only[Ò,ag7,reduceCtorEq,and_false,and_true,false_or,or_false,Ĝ]at this;rcases this with rfl|rfl
     ·show⟨_,O⟩
     ·show⟨_,O⟩
    ·show List.Pairwise.cons (λ y hy=>?_) (ae4 _ _);rw[ù]at hy;subst hy;change s.heap.objs.size+1+1≠s.heap.objs.size+1;lia
    ·rintro vs H' Q' xK;let⟨x',d,a,rfl,_⟩:=xK;rfl
    ·intro us yt;obtain⟨u1,u2,rfl⟩:∃ u1 u2,us=[u1,u2]:=by
      match us,yt with
      |[u1,u2],_=>show⟨u1,u2,O⟩
     rfl
    ·intro y c' h;rcases two y c' h with⟨rfl,rfl⟩|⟨rfl,rfl⟩
     ·show cf.cell _ _ cW
     ·show cf.cell _ _ cN
    ·intro i y u h1 h2
     match i,h1,h2 with
     |0,h1,h2=>
      cases h1;cases h2;let⟨c',u,h3,h4,h5⟩:=cf.val 0 "net" x rfl rfl rfl;rw[cN]at h3;cases h3;show⟨O,_,u,O,h4,h5⟩
     |1,h1,h2=>
      cases h1;cases h2;let⟨c',u,h3,h4,h5⟩:=cf.val 1 "vessel" (.int v) rfl rfl rfl;rw[cW]at h3;cases h3;show⟨O,_,u,O,h4,h5⟩
     |i+2,h1,h2=>simp at h2
    ·rintro A' zn s' H' vs Q' Ae xK;let⟨y,d,a,rfl,hy,Ay,ha,hG,kk⟩:=xK;show⟨_,cA ka Ae (a7 (pv 2) (a7 (pv 0) (a7 (pv 3) (a7 (pv 1) a9)))),?_⟩;show⟨_,O,_,O,_,O,_,O,x,y,net,d,v,a,O,hG,hy,nok,Ay,λ p b lg ve q1 q2=>kk p b lg ve q1 q2⟩
   ·intro c' sr;have wn:c'=s.heap.objs.size+1+1\/c'=s.heap.objs.size+1:=by simpa using sr
    rcases wn with rfl|rfl
    ·let⟨h1,h2,h3⟩:=cf.out _ _ cW;let⟨u,o,h4,_⟩:=cf.cell _ _ cW;show⟨h1,h2,h3,o,h4⟩
    ·let⟨h1,h2,h3⟩:=cf.out _ _ cN;let⟨u,o,h4,_⟩:=cf.cell _ _ cN;show⟨h1,h2,h3,o,h4⟩
   ·intro row fs e p rl fl H3 s3 qp jg tj gr;show⟨p,_,O,qp,O,_,_,O,_,_,O,O,?_⟩;show⟨_,O,O,_,O,eG ?_⟩;show⟨_,O,(sz0 2),λ tp qg=>?_⟩;have s4:=È (o:=HO.tup [.str "tips",.ref rl]) qg;show kE row fs e tp rl _ (sT.step (s3.trans s4)) (Í a8) (s4 _ _ jg) (sT.free tj) gr
   ·intro e H3 s3;show kM e H3 (sT.step s3)
   ·intro fs e p fl us H3 s3 qp mm zo pr Hw gr;show⟨p,_,O,qp,O,_,_,O,_,_,O,O,?_⟩;show⟨_,O,O,_,O,eS ?_⟩;show⟨_,O,(sz0 2),λ tp qg=>?_⟩;have s4:=È (o:=HO.tup [.str "never",.ref fl]) qg;show kO fs e tp fl us _ (sT.step (s3.trans s4)) (Í a8) (s4 _ _ mm) (sT.free zo) (ë pr λ _ _ h=>h.mono s4.ts) Hw gr
  ·show .inr ⟨hn,kV⟩
section
variable {ae cj:Type}
open Classical in
def dX:List ae->ae->Nat
 |[],_=>0
 |x::xs,d=>if x=d then 0 else dX xs d+1
open Classical in
def AG (seen:List ae) (d:ae):List ae:=if d∈seen then seen else seen++[d]
def bB (ds:List ae):List ae:=ds.foldl AG []
def fJ (ds:List ae):List Nat:=ds.map (dX (bB ds))
theorem k8 {d:ae} (h:d∈s):AG s d=s:=Å h
theorem k9 {d:ae} (h:d∉s):AG s d=s++[d]:=Ä h
theorem O4 {d x:ae}:x∈AG s d↔x∈s\/x=d:=by
 by_cases h:d∈s
 ·rw[k8 h];show⟨.inl,λ z=>z.elim id λ e=>e ▸ h⟩
 ·rw[k9 h];simp
theorem kG (ds:List ae) (d:ae):bB (ds++[d])=AG (bB ds) d:=by unfold bB;rw[ŕ];rfl
theorem y8 :∀(ds s:List ae),x∈ds.foldl AG s↔x∈s\/x∈ds
 |[],s=>by simp
 |d::ds,s=>by rw[š,y8 ds,O4,Ò,or_assoc]
theorem dQ {x:ae}:x∈bB ds↔x∈ds:=by unfold bB;rw[y8];simp
theorem FG  (h:s.Nodup) (d:ae):(AG s d).Nodup:=by
 by_cases c:d∈s
 ·rw[k8 c];show h
 ·rw[k9 c,Ň];show⟨h,G0,λ a ha b hb e=>?_⟩;rw[ù]at hb;show c (by rw[<- hb,<- e];show ha)
theorem sF:∀(ds s:List ae),s.Nodup->(ds.foldl AG s).Nodup
 |[],s,h=>h
 |d::ds,s,h=>sF ds _ (FG h d)
theorem iZ (ds:List ae):(bB ds).Nodup:=sF ds [] ag4
theorem p8 :∀ {xs:List ae},d∈xs->dX xs d < xs.length
 |x::xs,h=>by
  by_cases e:x=d
  ·rw[dX,Å e];simp
  ·rw[dX,Ä e,Ý];have:=p8 ((Ò.mp h).resolve_left λ z=>e z.symm);lia
theorem p9 :∀ {xs:List ae},d∈xs->xs[dX xs d]?=Y d
 |x::xs,h=>by
  by_cases e:x=d
  ·rw[dX,Å e,e];rfl
  ·rw[dX,Ä e,ŧ];show p9 ((Ò.mp h).resolve_left λ z=>e z.symm)
theorem LM {xs:List ae} (ha:a∈xs) (hb:b∈xs) (h:dX xs a=dX xs b):a=b:=by
 have e1:=p9 ha;rw[h,p9 hb]at e1;show(ç e1).symm
theorem pA :∀ {xs:List ae}{i:Nat},xs.Nodup->xs[i]?=Y d->dX xs d=i
 |x::xs,0,_,h=>by
  have e:x=d:=by simpa using h
  rw[dX,Å e]
 |x::xs,i+1,hn,h=>by
  rw[ñ]at hn;rw[ŧ]at h;have e:¬ x=d:=λ z=>hn.1 (by rw[z];show Û h);rw[dX,Ä e,pA hn.2 h]
theorem iP (ds:List ae):(fJ ds).length=ds.length:=by unfold fJ;rw[Ê]
theorem vJ {i:Nat}{d:ae} (h:ds[i]?=Y d):(fJ ds)[i]?=Y (dX (bB ds) d):=by
 unfold fJ;rw[Ø,h];rfl
theorem uG {f:ae->cj} (zs:List ae) (hf:∀ a∈zs,∀ b∈zs,f a=f b->a=b):∀(n:Nat),bB ((zs.take n).map f)=(bB (zs.take n)).map f
 |0=>rfl
 |n+1=>by
  have ih:=uG zs hf n;rw[Ŷ];cases hz:zs[n]? with
  |none=>simpa using ih
  |some z=>
   change bB ((zs.take n++[z]).map f)=(bB (zs.take n++[z])).map f;rw[Ó,kG];change bB ((zs.take n).map f++[f z])=_;rw[kG,ih];have Hy:=Û hz
   by_cases c:z∈bB (zs.take n)
   ·rw[k8 c,k8 (İ c)]
   ·rw[k9 c,k9,Ó];· rfl
    intro q;let⟨y,hy,e⟩:=å.mp q;have:y=z:=hf y (Ő (dQ.mp hy)) z Hy e;show c (this ▸ hy)
theorem uR {f:ae->cj}:∀ {xs:List ae},(∀ x∈xs,f x=f d->x=d)->dX (xs.map f) (f d)=dX xs d
 |[],_=>rfl
 |x::xs,h=>by
  rw[Ù,dX,dX]
  by_cases e:x=d
  ·rw[Å e,Å (by rw[e])]
  ·rw[Ä e,Ä (λ z=>e (h x ă z)),uR λ y hy=>h y (ø _ hy)]
theorem pJ {f:ae->cj} (hf:∀ a∈zs,∀ b∈zs,f a=f b->a=b):fJ (zs.map f)=fJ zs:=by
 have e:=uG zs hf zs.length;rw[æ]at e;unfold fJ;rw[e,ĉ];show List.map_congr_left λ d hd=>?_;show uR λ x hx h=>hf x (dQ.mp hx) d hd h
theorem xP {xs:List ae}{ys:List cj} (hl:xs.length=ys.length) (h:∀(i j:Nat) a b c d,xs[i]?=Y a->xs[j]?=Y b->ys[i]?=Y c->ys[j]?=Y d->(a=b↔c=d)):fJ xs=fJ ys:=by
 have key:∀ p∈xs.zip ys,∃ i:Nat,xs[i]?=Y p.1/\ys[i]?=Y p.2:=λ p hp=>by
  let⟨i,hi⟩:=į.1 hp;rw[Ħ]at hi;show⟨i,hi⟩
 have e1:(xs.zip ys).map Prod.fst=xs:=List.map_fst_zip Fn;have e2:(xs.zip ys).map Prod.snd=ys:=List.map_snd_zip Fn;rw[<- e1,pJ,<- pJ (f:=Prod.snd),e2]
 ·intro a ha b hb e;let⟨i,i1,i2⟩:=key a ha;let⟨j,j1,j2⟩:=key b hb;show Prod.ext ((h i j _ _ _ _ i1 j1 i2 j2).mpr e) e
 ·intro a ha b hb e;let⟨i,i1,i2⟩:=key a ha;let⟨j,j1,j2⟩:=key b hb;show Prod.ext e ((h i j _ _ _ _ i1 j1 i2 j2).mp e)
theorem vI {i j:Nat}{a b:ae} (hi:ds[i]?=Y a) (hj:ds[j]?=Y b):(fJ ds)[i]?=(fJ ds)[j]?↔a=b:=by
 rw[vJ hi,vJ hj];show⟨λ h=>LM (dQ.mpr (Û hi)) (dQ.mpr (Û hj)) (ç h),λ h=>by rw[h]⟩
theorem xQ (ds:List ae):fJ (fJ ds)=fJ ds:=by
 show xP (iP ds) λ i j a b c d ha hb hc hd=>?_;have q:=vI hc hd;rw[ha,hb]at q;show⟨λ z=>q.mp (by rw[z]),λ z=>ç (q.mpr z)⟩
theorem iG (ds:List ae):(bB ds).length<=ds.length:=by
 have:∀(n:Nat),(bB (ds.take n)).length<=(ds.take n).length:=by
  intro n
  induction n with
  |zero=>show Ñ _
  |succ n ih=>
   rw[Ŷ];cases hz:ds[n]? with
   |none=>simpa using ih
   |some z=>
    change(bB (ds.take n++[z])).length<=(ds.take n++[z]).length;rw[kG,Þ,ö]
    by_cases c:z∈bB (ds.take n)
    ·rw[k8 c];lia
    ·rw[k9 c,Þ,ö];lia
 have h:=this ds.length
 rwa [æ]at h
theorem zU {ae:Type}:∀ {xs ys:List ae},xs.Nodup->(∀ x∈xs,x∈ys)->xs.length<=ys.length
 |[],_,_,_=>à _
 |x::xs,ys,hn,h=>by
  rw[ñ]at hn;let⟨a,b,rfl⟩:=List.append_of_mem (h x ă);have:=zU (xs:=xs) (ys:=a++b) hn.2 λ y hy=>by
   have h2:=h y (ø _ hy);rw[ÿ,Ò]at h2;rw[ÿ];rcases h2 with h2|h2|h2
   ·show .inl h2
   ·show absurd (h2 ▸ hy) hn.1
   ·show .inr h2
  rw[Þ]at this;rw[Þ,Ý,Ý];lia
theorem nZ {ae:Type}:∀ {ys xs:List ae},xs.Nodup->(∀ x∈xs,x∈ys)->ys.length<=xs.length->ys.Nodup
 |[],_,_,_,_=>ag4
 |y::ys,xs,hn,h,hl=>by
  by_cases c:y∈ys
  ·
   have:=zU hn λ x hx=>by
    rcases Ò.mp (h x hx)with e|e
    ·rw[e];show c
    ·show e
   rw[Ý]at hl;lia
  ·rw[ñ];show⟨c,?_⟩
   by_cases cy:y∈xs
   ·let⟨a,b,rfl⟩:=List.append_of_mem cy;have Mi:(a++b).Nodup:=by
     rw[Ň]at hn ⊢;show⟨hn.1,(ñ.mp hn.2.1).2,λ p hp q hq=>hn.2.2 p hp q (ø _ hq)⟩
    show nZ Mi (λ x hx=>?_) (by rw[Þ,Ý,Ý] at hl;rw[Þ];lia);have rq:x∈a++y::b:=by
     rw[ÿ]at hx ⊢;show hx.imp id λ z=>ø _ z
    rcases Ò.mp (h x rq)with e|e
    ·subst e;rw[Ň]at hn;rcases ÿ.mp hx with z|z
     ·show absurd O (hn.2.2 x z x ă)
     ·show absurd z (ñ.mp hn.2.1).1
    ·show e
   ·show nZ hn (λ x hx=>?_) (by rw[Ý] at hl;lia);rcases Ò.mp (h x hx) with e | e
    ·show absurd (e ▸ hx) cy
    ·show e
theorem jV {ae cj:Type}{f:ae->cj}:∀ {xs:List ae},(xs.map f).Nodup->∀ {a b:ae},a∈xs->b∈xs->f a=f b->a=b
 |[],_,_,_,ha,_,_=>by cases ha
 |x::xs,hn,a,b,ha,hb,e=>by
  rw[Ù,ñ]at hn;rcases Ò.mp ha with rfl|vh
  ·rcases Ò.mp hb with rfl|jj
   ·rfl
   ·show absurd (by rw[e];show İ jj) hn.1
  ·rcases Ò.mp hb with rfl|jj
   ·show absurd (by rw[<- e];show İ vh) hn.1
   ·show jV hn.2 vh jj e
theorem o4 {xs:List ae}{ys:List cj} (hl:xs.length=ys.length) (hr:∀(i j:Nat) a b c d,xs[i]?=Y a->xs[j]?=Y b->ys[i]?=Y c->ys[j]?=Y d->c=d->a=b) :
  (bB xs).length<=(bB ys).length/\((bB xs).length=(bB ys).length->fJ xs=fJ ys):=by
 have key:∀ p∈xs.zip ys,∃ i:Nat,xs[i]?=Y p.1/\ys[i]?=Y p.2:=λ p hp=>by
  let⟨i,hi⟩:=į.1 hp;rw[Ħ]at hi;show⟨i,hi⟩
 have e1:(xs.zip ys).map Prod.fst=xs:=List.map_fst_zip Fn;have e2:(xs.zip ys).map Prod.snd=ys:=List.map_snd_zip Fn;have inj:∀ a∈xs.zip ys,∀ b∈xs.zip ys,a.2=b.2->a=b:=by
  intro a ha b hb e;let⟨i,i1,i2⟩:=key a ha;let⟨j,j1,j2⟩:=key b hb;show Prod.ext (hr i j _ _ _ _ i1 j1 i2 j2 e) e
 have s2:bB ys=(bB (xs.zip ys)).map Prod.snd:=by
  have:=uG (f:=Prod.snd) (xs.zip ys) inj (xs.zip ys).length;rw[æ,e2]at this;show this
 have l2:(bB ys).length=(bB (xs.zip ys)).length:=by rw[s2,Ê]
 have sub:∀ x∈bB xs,x∈(bB (xs.zip ys)).map Prod.fst:=λ x hx=>by
  have:x∈(xs.zip ys).map Prod.fst:=by rw[e1];show dQ.mp hx
  let⟨p,hp,rfl⟩:=å.mp this;show İ (dQ.mpr hp)
 have le:(bB xs).length<=((bB (xs.zip ys)).map Prod.fst).length:=zU (iZ xs) sub;rw[Ê,<- l2]at le;show⟨le,λ e=>?_⟩;have nd:((bB (xs.zip ys)).map Prod.fst).Nodup:=nZ (iZ xs) sub (by rw[Ê,<- l2,e];show Ñ _);show xP hl λ i j a b c d ha hb hc hd=>⟨λ z=>?_,hr i j a b c d ha hb hc hd⟩;have pa:(a,c)∈bB (xs.zip ys):=dQ.mpr (Û (i:=i) (by rw[Ħ];show⟨ha,hc⟩));have pb:(b,d)∈bB (xs.zip ys):=dQ.mpr (Û (i:=j) (by rw[Ħ];show⟨hb,hd⟩));have:=jV nd pa pb z;injection this
theorem Q8 (ds:List ae):(bB (fJ ds)).length=(bB ds).length:=by
 show Nat.le_antisymm (o4 (iP ds) λ i j a b c d ha hb hc hd e=>?_).1 (o4 (iP ds).symm λ i j a b c d ha hb hc hd e=>?_).1
 ·have q:=vI hc hd;rw[ha,hb]at q;show ç (q.mpr e)
 ·have q:=vI ha hb;rw[hc,hd]at q;show q.mp (by rw[e])
end
abbrev iX:=List (List (Nat×Bool))
def S5 (m:iX):List Nat:=fJ (m.map λ r=>r.map (·.2))
def fU (m:iX) (rs:List Nat):List (Nat×List Nat):=(rs.zip m).map λ p=>(p.1,p.2.map λ q=>rs.getD q.1 0)
def jC (m:iX) (rs:List Nat):List Nat:=fJ (fU m rs)
def aO (m:iX):Nat->List Nat
 |0=>S5 m
 |n+1=>jC m (aO m n)
theorem jL  (h:rs.length=m.length):(fU m rs).length=m.length:=by unfold fU;rw[Ê,List.length_zip];lia
theorem cX (m:iX):∀ n,(aO m n).length=m.length
 |0=>by change(fJ _).length=_;rw[iP,Ê]
 |n+1=>by change(fJ _).length=_;rw[iP,jL (cX m n)]
theorem uO (m:iX):∀ n,fJ (aO m n)=aO m n
 |0=>xQ _
 |n+1=>xQ _
theorem IB {i:Nat} (h1:rs[i]?=Y r) (h2:m[i]?=Y row):(fU m rs)[i]?=Y (r,row.map λ q=>rs.getD q.1 0):=by
 unfold fU;rw[Ø,(Ħ (z:=(r,row))).mpr ⟨h1,h2⟩];rfl
theorem BE {i:Nat} (h:(fU m rs)[i]?=Y z):∃ r row,rs[i]?=Y r/\m[i]?=Y row/\z=(r,row.map λ q=>rs.getD q.1 0):=by
 unfold fU at h;rw[Ø]at h;let⟨p,hp,rfl⟩:=é.mp h;rw[Ħ]at hp;show⟨_,_,hp.1,hp.2,O⟩
theorem EW  (h:jC m (aO m n)≠aO m n):(bB (aO m n)).length < (bB (jC m (aO m n))).length:=by
 have q:=o4 (xs:=aO m n) (ys:=fU m (aO m n)) (by rw[jL (cX m n),cX]) λ i j a b c d ha hb hc hd e=>by
  let⟨r,row,h1,h2,rfl⟩:=BE hc;let⟨r',Hz,h3,h4,rfl⟩:=BE hd;rw[ha]at h1;rw[hb]at h3;cases h1;cases h3;show(Prod.mk.inj e).1
 change _ < (bB (fJ _)).length;rw[Q8];rcases Nat.lt_or_ge (bB (aO m n)).length (bB (fU m (aO m n))).length with z|z
 ·show z
 ·show absurd ((q.2 (Nat.le_antisymm q.1 z)).symm.trans (uO m n)) h
theorem IF (m:iX) (n:Nat):(bB (aO m n)).length<=m.length:=by
 have:=iG (aO m n);rw[cX]at this;show this
def hV:Nat->List L2.D->List (L2.D×V)
 |_,[]=>[]
 |o,d::r=>(d,.int (o:Nat))::hV (o+1) r
theorem mV:∀(o:Nat) (ds:List L2.D),(hV o ds).length=ds.length
 |_,[]=>rfl
 |o,d::r=>by rw[hV,Ý,Ý,mV]
theorem nX (d:L2.D):∀(o:Nat) (ds:List L2.D),hV o (ds++[d])=hV o ds++[(d,.int ((o+ds.length:Nat):Int))]
 |o,[]=>rfl
 |o,x::r=>by
  rw[ĩ,hV,hV,nX d (o+1) r,ĩ,Ý,show o+1+r.length=o+(r.length+1) by lia]
theorem mU :∀(o:Nat) (ds:List L2.D),k∈ds->eB (hV o ds) k=Y (.int ((o+dX ds k:Nat):Int))
 |o,x::r,h=>by
  by_cases e:x=k
  ·rw[hV,eE (p:=(x,V.int (o:Nat))) e,dX,Å e];rfl
  ·rw[hV,dR (p:=(x,V.int (o:Nat))) e,dX,Ä e,mU (o+1) r ((Ò.mp h).resolve_left λ z=>e z.symm),show o+1+dX r k=o+(dX r k+1) by lia]
theorem nY :∀(o:Nat) (ds:List L2.D),k∉ds->eB (hV o ds) k=W
 |_,[],_=>rfl
 |o,x::r,h=>by
  rw[Ò,not_or]at h;rw[hV,dR (p:=(x,V.int (o:Nat))) (λ z=>h.1 z.symm),nY (o+1) r h.2]
end Tw
namespace L2
open PySem PySem.Spec PyProof.Rows TwZ
section
variable {X:Cx}{tg:Expr}
end
abbrev FI:=Á->V->V->Hp->(Hp->Prop)->Prop
def tF (S:FI) (J:It) (g:TG) (tc:TT) (tk tv:TE) (fr:List (Option Nat)) (σ:St) (H1:Hp) (Q:Á->Hp->Prop):Prop:=
 ∀ D,H1 D=W->∃ BH:Nat->Nat->St->Hp->Prop,(∃ m,BH 0 m (CS fr σ) (upd H1 D (.dK [])))/\
  ∀ i m ac H',BH i m ac H'->(J.stop i H'/\Q D H')\/
   (J.go i H'/\∃ N:St->Hp->Prop,(∀ cx lg,N cx lg->∃ m',m' < m/\BH (i+1) m' cx lg)/\
    ∀ x H2,J.yld i H' x H2->g x ac H2 λ aj H3=>tc aj H3 λ b H4=>
    if b=Eg then tk aj H4 λ y H5=>tv aj H5 λ z H6=>S D y z H6 (N aj)
    else N aj H4)
theorem TM  (Pv:Á->Nat->St->Hp->Prop)
  (h0:∀ D,H1 D=W->Pv D 0 (CS fr σ) (upd H1 D (.dK [])))
  (iu:∀ D ac H',Pv D n ac H'->J.stop n H'/\Q D H')
  (ox:∀ D i ac H',i < n->Pv D i ac H'->J.go i H'/\∀ x H2,J.yld i H' x H2->g x ac H2 λ aj H3=>tc aj H3 λ b H4=>
    if b=Eg then tk aj H4 λ y H5=>tv aj H5 λ z H6=>S D y z H6 (Pv D (i+1) aj)
    else Pv D (i+1) aj H4):tF S J g tc tk tv fr σ H1 Q:=by
 intro D hD;show⟨λ i m σ H=>m=n - i/\i<=n/\Pv D i σ H,⟨n,G0,à _,h0 D hD⟩,?_⟩;rintro i m ac H' xK;let⟨rfl,hi,p⟩:=xK
 by_cases jh:i < n
 ·let⟨go,step⟩:=ox D i ac H' jh p;show .inr ⟨go,Pv D (i+1),λ cx lg p'=>⟨n - (i+1),Fn,O,jh,p'⟩,step⟩
 ·have e:i=n:=by lia
  subst e;show .inl (iu D ac H' p)
def UE (S:FI) (wi:TI) (fr:List (Option Nat)) (g:TG) (tc:TT) (tk tv:TE):TE:=λ σ H Q=>wi σ H λ J H1=>tF S J g tc tk tv fr σ H1 λ D H'=>Q (.ref D) H'
def O9 (X:Cx) (S:FI):Prop:=∀(BG:Cx),BG.prog=X.prog->BG.w=X.w->BG.K=X.K->BG.A=X.A->∀(gj:List (Á×Obj)) (σ:St) (H:Hp) (s:Â) (D:Á) (y z:V) (u r:À) (N:Hp->Prop) (E:À->Â->Prop),
 Inv BG gj σ H s->aX y u->aX z r->S D y z H N->wpAny (model BG.prog BG.w) BG.A (dictSet D u r) (λ _ s'=>∃ H',Inv BG gj σ H' s'/\N H') E s
section
variable {prog:Ã}{A:Around}{R:Result->Â->Prop}{s:Â}
theorem wQ {kx vx target iter:Expr}{ifs:List Expr}{scope:Scope}{pos:Pos}{it:À}{D:Á}{env:Env} (I:Nat->Â->Prop)
  (turn:∀ n s,I n s->wpAny (model prog w) A (pyNext it) (λ r ah=>match r with
   |none=>R (.ok .next) ah
   | some v=>wpAny (model prog w) A (letOwnedTupleGo target it v) (λ _ db=>wpAny (model prog w) A (assign target env v) (λ _ cn=>
     wpAny (model prog w) A (forIn ifs Eg λ c r=>if r=Eg then do let ok <- isTrue c env (eval c env);pure (ForInStep.yield ok)else pure (ForInStep.yield r)) (λ ok bu=>
      if ok=Eg then wpAny (model prog w) A (eval kx env) (λ kv cq=>wpAny (model prog w) A (eval vx env) (λ vv dj=>
       wpAny (model prog w) A (dictSet D kv vv) (λ _ gf=>∃ m,m < n/\I m gf) (notedBy (model prog w) A env λ e s'=>R (.error e) s') dj) (notedBy (model prog w) A env λ e s'=>R (.error e) s') cq) (notedBy (model prog w) A env λ e s'=>R (.error e) s') bu
      else ∃ m,m < n/\I m bu) (notedBy (model prog w) A env λ e s'=>R (.error e) s') cn) (notedBy (model prog w) A env λ e s'=>R (.error e) s') db) (notedBy (model prog w) A env λ e s'=>R (.error e) s') ah)
    (notedBy (model prog w) A env λ e s'=>R (.error e) s') s)
  (n:Nat) (h:I n s) :
  codeAny (model prog w) A (.compLoop (.DictComp kx vx [⟨target,iter,ifs,0⟩] scope pos) 0 it (.ref D) env) R s:=by
 show codeAny_loop O I (λ n s hI=>?_) n h;change wpAny _ A ((compTurn (.DictComp kx vx [⟨target,iter,ifs,0⟩] scope pos) 0 it (.ref D) env).onRaise (λ x=>do noteFrame x env;theTreesLotGoes x)) _ _ s;show wpAny_noted ?_;rw[compTurn_dict];show Æ (Ļ (Æ (ä (turn n s hI) (λ r ah h₁=>?_) λ _ _ h'=>h')));cases r with
 |none=>show Ë h₁
 |some v=>
  show Æ (ä h₁ (λ _ db dq=>?_) λ _ _ h'=>h');show Æ (ä dq (λ _ cn ap=>Æ (ä ap (λ ok bu ak=>?_) λ _ _ h'=>h')) λ _ _ h'=>h');cases ok with
  |false=>show Ë ⟨O,ak⟩
  |true=>
   show Æ (Æ (ä ak (λ kv cq aq=>Æ (ü (ä aq (λ vv dj bc=>Æ (Ļ (ü (ä bc (λ _ gf cp=>Ë ⟨O,cp⟩) λ _ _ h'=>h')))) λ _ _ h'=>h'))) λ _ _ h'=>h'))
end
section
variable {X:Cx}{gj:List (Á×Obj)}{σ:St}{H:Hp}{s:Â}{a:Á}{v:V}{u r:À}{A:Around}{E:À->Â->Prop}{gn:List (gX×V)}{k:gX}
end
section
variable {X:Cx}
theorem NY {N':List Str}{fr:List (Option Nat)}{cl:List (Str×Á)}{g:TG}{tc:TT}{tk tv:TE}
  {gj:List (Á×Obj)}{σ:St}{H:Hp}{s:Â}{J:It}{fp:List Á}{it:Á}{tn:Nat->Heap->Prop}{Q:Á->Hp->Prop}{RR:À->Á->Result->Â->Prop}{E:À->Â->Prop}
  (hS:O9 X Sr) (hx:∀ e s,¬ X.xe e s) (hc:X.calm=Eg) (S:LcOk X scope cl N' fr)
  (hg:∀ fp s H,PG (lD X N' scope cl fp s H) tg g) (ht:∀ fp s H,RI (lD X N' scope cl fp s H) ifs tc) (hk:∀ fp s H,PE (lD X N' scope cl fp s H) kx tk) (hv:∀ fp s H,PE (lD X N' scope cl fp s H) vx tv)
  (I:Inv X gj σ H s) (T:Turn X.prog X.w X.K tg J fp it tn) (st:tn 0 s.heap) (hf:∀ b∈fp,kX X gj H b) (h:tF Sr J g tc tk tv fr σ H Q)
  (Mu:∀ D C H' s' m',Inv X gj σ H' s'->Q D H'->s'.heap.Ns C m'->kX X gj H' C->RR (.ref D) C (.ok .next) s') :
  wpAny (model X.prog X.w) X.A newDict (λ md bu=>wpAny (model X.prog X.w) X.A (newFunctionEnv scope X.env.globals cl [] X.env.qual W .none (Y X.env)) (λ yw cq=>
   codeAny (model X.prog X.w) X.A (.compStart (.DictComp kx vx [⟨tg,iter,ifs,0⟩] scope pos) 0 (.ref it) md { yw with scope:=relabel scope X.env }) (RR md yw.locals) cq) E bu) E s:=by
 have jk:=S.nocell;rw[Ē] at jk;show Ğ (Ŭ (λ x rq=>by simpa using jk x rq) (by intro y hy;simp at hy) (λ h₁ cg ci=>?_) S.kind);dsimp only at cg ci ⊢;have fresh:H s.heap.objs.size=none:=I.hok.fresh (Ñ _);have I3:Inv X gj σ (upd H s.heap.objs.size (.dK [])) { s with heap:=s.heap.push { cls:=.type "dict",data:=.dict #[] },toks:=s.toks }:=
  I.laid (a:=s.heap.objs.size) (o:=.dK []) (t':=s.toks) (λ _ _ q=>Ï _ q) (Ñ _) (vX s.heap I.big)
 have Cz:∀ b∈fp,kX X gj (upd H s.heap.objs.size (.dK [])) b:=λ b hb=>by
  let⟨o,ho,_⟩:=T.obj _ _ st b hb;show⟨by rw[aG (â (Ô ho))];show(hf b hb).1,(hf b hb).2⟩
 generalize Ga:({ s with heap:=s.heap.push { cls:=.type "dict",data:=.dict #[] },toks:=s.toks }:Â)=s3 at I3;have e3:s3.heap=s.heap.push { cls:=.type "dict",dict:=W,data:=.dict #[] }:=by rw[<- Ga]
 have Gb:({ s with heap:=s.heap.push { cls:=.type "dict",dict:=W,data:=.dict #[] } }:Â)=s3:=Ga;have Db:s3.heap.objs.size=s.heap.objs.size+1:=by rw[e3,ą]
 have xy:∀ b∈fp,b < s3.heap.objs.size:=λ b hb=>by
  let⟨o,ho,_⟩:=T.obj _ _ st b hb;rw[Db];show agj (Ô ho)
 rw[<- e3]at cg ci ⊢;have vt:∀ b o,s3.heap.get? b=Y o->h₁.get? b=Y o:=λ b o e=>ci.extBut b o (â (Ô e)) (Ï _ e);have ju:∀ b o,s.heap.get? b=Y o->s3.heap.get? b=Y o:=λ b o e=>by rw[e3];show Ï _ e
 have I4:=S.invC (tk:=s3.toks) I3 Cz xy vt cg;let⟨BH,⟨m0,w0⟩,turn⟩:=h s.heap.objs.size fresh;have oo:∀ {H':Hp},(∀ b∈fp,H' b=W)->∀ b∈fp,kX (lD X N' scope cl fp s3 (upd H s.heap.objs.size (.dK []))) [] H' b:=λ hn b hb=>by
  show⟨hn b hb,â (xy b hb),?_,.inl hb,λ x c e=>(hf b hb).2.2.2.2.1 x c (S.cls.get x c e),λ p hp=>absurd (show p∈([]:List (Á×Obj))from hp) G0⟩;intro hz;let⟨_,f1,f2,_⟩:=hf b hb;rcases Ò.mp (I.stkSub b hz)with e|e
  ·show f1 e
  ·show f2 e
 have loop:∀ s4:Â,s4={ s3 with heap:=h₁,toks:=s3.toks }->
   codeAny (model X.prog X.w) X.A (.compLoop (.DictComp kx vx [⟨tg,iter,ifs,0⟩] scope pos) 0 (.ref it) (.ref s.heap.objs.size) (compEnvC scope cl s3.heap.objs.size X.env)) (RR (.ref s.heap.objs.size) s3.heap.objs.size) s4:=by
  intro s4 Ad;show wQ (λ n s'=>∃ i ac H',Inv (lD X N' scope cl fp s3 (upd H s.heap.objs.size (.dK []))) [] ac H' s'/\tn i s'.heap/\(∀ b∈fp,H' b=W)/\BH i n ac H') ?_ m0
   ⟨0,CS fr σ,_,by rw[Ad];show I4,by rw[Ad];show T.keep _ _ _ st λ b _ o e=>vt b o (ju b o e),λ b hb=>(Cz b hb).1,w0⟩
  rintro n s5 xK;let⟨i,cw,H5,I5,An,Cn,w5⟩:=xK;rcases turn i n cw H5 w5 with⟨stop,qn⟩|⟨go,N,hN,step⟩
  ·show cK (T.done (lD X N' scope cl fp s3 (upd H s.heap.objs.size (.dK []))) O O O hc i [] s5 cw H5 _ I5 (oo Cn) An stop) λ r s6 ⟨hr,I6⟩=>?_;subst hr;let⟨m',Bs,_⟩:=I6.loc;show Mu _ _ H5 s6 m' (I3.outC I6 Cz) qn Bs (I3.fpOk (Ñ _) I6.free)
  ·show cK (T.item (lD X N' scope cl fp s3 (upd H s.heap.objs.size (.dK []))) O O O hc i [] s5 cw H5 _ I5 (oo Cn) An go) λ r s6 ⟨u,hr,h6⟩=>?_;subst hr;show cK h6 λ _ s7 ⟨x,H7,I7,r7,y7,Dc,Mv⟩=>?_;have Mw:=I7.pinned (oo Mv) (T.obj _ _ Dc);show ä (hg fp s3 _ _ s7 cw H7 x u _ Mw r7 (step x H7 y7)) (λ _ s8 ⟨bw,H8,I8,q8⟩=>?_) λ e s' z=>(hx e s' z).elim;show ä (ht fp s3 _ _ s8 bw H8 _ I8 q8) (λ ok s9 ⟨H9,I9,q9⟩=>?_) λ e s' z=>(hx e s' z).elim;have again:∀ {lh:Â}{oy:Hp},Inv (lD X N' scope cl fp s3 (upd H s.heap.objs.size (.dK []))) ([]++qO fp s7.heap) bw oy lh->N bw oy->
     ∃ m,m < n/\∃ i ac H',Inv (lD X N' scope cl fp s3 (upd H s.heap.objs.size (.dK []))) [] ac H' lh/\tn i lh.heap/\(∀ b∈fp,H' b=W)/\BH i m ac H':=λ {lh oy} uf Mx=>by
    let⟨m',hm,Dd⟩:=hN bw oy Mx;show⟨m',hm,i+1,bw,oy,uf.unpinned,T.keep _ _ _ Dc λ b hb o e=>(uf.pin (b,o) (Ċ _ (Ċ _ (gU hb e)))).1,λ b hb=>?_,Dd⟩;let⟨o,e,d⟩:=T.obj _ _ Dc b hb;show(uf.pin (b,o) (Ċ _ (Ċ _ (gU hb e)))).2.1
   cases ok with
   |false=>
    rw[Ä ã]at q9 ⊢;show again I9 q9
   |true=>
    rw[Å rfl]at q9 ⊢;show ä (hk fp s3 _ _ s9 bw H9 _ I9 q9) (λ y lh ⟨yv,oy,uf,My,Gc⟩=>?_) λ e s' z=>(hx e s' z).elim;show ä (hv fp s3 _ _ lh bw oy _ uf Gc) (λ z Xl ⟨zv,xz,En,Yt,Yu⟩=>?_) λ e s' z=>(hx e s' z).elim;show cK (hS (lD X N' scope cl fp s3 (upd H s.heap.objs.size (.dK []))) O O O O _ _ _ _ _ _ _ _ _ _ _ En My Yt Yu) λ _ s12 ⟨qh,Ex,Yv⟩=>again Ex Yv
 show codeAny_compStart_dict (loop _ (by rw[<- Gb];rfl)) (T.self X.A 0 _ _ _ (T.keep _ _ _ st λ b _ o e=>vt b o (ju b o e)) (loop _ (by rw[<- Gb];rfl)))
theorem SK 
  (hS:O9 X Sr) (hx:∀ e s,¬ X.xe e s) (hc:X.calm=Eg) (S:LcOk X scope cl N' fr) (hi:PI X tg iter wi)
  (hg:∀ fp s H,PG (lD X N' scope cl fp s H) tg g) (ht:∀ fp s H,RI (lD X N' scope cl fp s H) ifs tc) (hk:∀ fp s H,PE (lD X N' scope cl fp s H) kx tk) (hv:∀ fp s H,PE (lD X N' scope cl fp s H) vx tv)
  (hs:autoParam (∀ x,foldedSetIterable iter X.env x=pure x) _6):PE X (.DictComp kx vx [⟨tg,iter,ifs,0⟩] scope pos) (UE Sr wi fr g tc tk tv):=by
 intro gj s σ H Q I h;have mq:=S.locs;rw[Ē]at mq;change wpAny _ X.A (comprehension (.DictComp kx vx [⟨tg,iter,ifs,0⟩] scope pos) scope X.env _ newDict Eh (eval iter X.env)) _ _ s;show aet (use:=W) O hs S.clos S.kind (λ x rq hl=>by have:=mq x rq;rw[hl]at this;simpa using this) (cK (hi gj s σ H _ I h) λ v s1 h1=>cK h1 λ Fr s2 h2=>?_);let⟨it,fp,tn,J,H2,e,I2,T,Cm,f2,ja⟩:=h2;subst e;show NY (RR:=λ md C=>compPost (model X.prog X.w) X.A X.xe W (EP X gj σ Q) md C) hS hx hc S hg ht hk hv I2 T Cm f2 ja ?_;intro D C H' s' m' I' q hn f;show⟨m',hn,λ h' qr=>⟨.ref D,H',I'.letgo f qr,O,q⟩⟩
end
section
variable {prog:Ã}{KK:Type}[DecidableEq KK]{knd:HeapKind prog w KK}{A:Around}{E:À->Â->Prop}{s:Â}
theorem sJ {d a:Á}{xs:List (KK×Á×À)}{Q:À->Â->Prop} (hu:knd.room A) (vp:knd.is s.heap k a) (hm:s.heap.DictOfH knd d xs)
  (wf:∀ p,atKey xs k=Y p->Q p.2 { s with toks:=s.toks+knd.draws k })
  (hQ:atKey xs k=W->∀ h',h'.DictOfH knd d (storedH xs k a v)->Heap.SameBut d s.heap h'->Q v { s with heap:=h',toks:=s.toks+knd.draws k })
  (hsz:xs.length<=sizeLine):wpAny (model prog w) A (dictSetDefault d (.ref a) v) Q E s:=by
 let⟨o,es,ep,ho,hc,hd,he,Pg,hn⟩:=hm;unfold dictSetDefault
 try with_reducible show ü ?_
 show Æ (knd.pyHash hu vp ?_);show Æ (wpAny_dictFind_heap (s:={ s with toks:=s.toks+knd.draws k }) hu vp ho hd he Pg hn ?_ ?_)
 ·intro Cr;have Ph:k∉xs.map (·.1):=not_mem_keys_of_get Cr;show Æ (Č (Æ (wpAny_updateDictKeys (hz:=by have e:=size_of_entries he;lia) (s:={ s with toks:=s.toks+knd.draws k }) ho hd (Ë (hQ (ŷ Cr) _ ⟨_,_,ep+1,Ş _ ho (Obj.isFreed_of_dict (Obj.data_mapDictKeys hd _)),
   hc.mapDictKeys _,Obj.data_mapDictKeys hd _,?_,?_,?_⟩ (Ł ..))))))
  ·rw[storedH_new (ŷ Cr)];simp[he,entryOfKey]
  ·rw[storedH_new (ŷ Cr)];intro x hx;rcases ÿ.mp hx with hx|hx
   ·show knd.keeps (Pg x hx) ho hd (Ł ..)
   ·simp only[ù]at hx;subst hx;show knd.keeps vp ho hd (Ł ..)
  ·rw[storedH_new (ŷ Cr)];rw[Ó,Ň];show⟨hn,G0,?_⟩;intro x hx y hy;simp only[Ù,í,ù]at hy;subst hy;show λ e=>Ph (e ▸ hx)
 ·intro j p hj;show Æ (wpAny_dictEntries (s:={ s with toks:=s.toks+knd.draws k }) ho hd ?_);rw[entry_at he j,hj];show Æ (Č (Ë (wf p (atKey_of_get hn hj))))
theorem mH {d a:Á}{xs:List (KK×Á×À)}{Q:À->Â->Prop} (hu:knd.room A.in1) (vp:knd.is s.heap k a) (hd:(d==sysModules)=Eh) (hm:s.heap.DictOfH knd d xs)
  (wf:∀ p,atKey xs k=Y p->Q p.2 { s with toks:=s.toks+knd.draws k })
  (hQ:atKey xs k=W->∀ h',h'.DictOfH knd d (storedH xs k a v)->Heap.SameBut d s.heap h'->Q v { s with heap:=h',toks:=s.toks+knd.draws k })
  (hsz:xs.length<=sizeLine):wpAny (model prog w) A (call (.builtin "dict.setdefault") [.ref d,.ref a,v]) Q E s:=by
 show ē afw hm.typeIs PySem.F.entry_dict_setdefault ?_ (PySem.F.args_dict_setdefault_3 _ _ _);unfold Builtin.«dict.setdefault»;show Æ ?_;unfold Builtin.Dict.keyAndDefault;show Æ (wpAny_notOrdered_dict hm.typeIs ?_);change wpAny _ _ (pure (d,Value.ref a,Y v)) _ _ s;show Ë ?_;change wpAny _ _ (if (d==sysModules)=Eg then _ else(dictSetDefault d (.ref a) v >>= _)) _ _ s;rw[Ä (by rw[hd];show ã)];show Æ (sJ hu vp hm (λ p hp=>Ë ⟨_,O,wf p hp⟩) (λ hn h' Bs De=>Ë ⟨_,O,hQ hn h' Bs De⟩) hsz)
theorem J1 {d:Á}{xs:List (KK×Á×À)}{Q:À->Â->Prop} (hd:(d==sysModules)=Eh) (hm:s.heap.DictOfH knd d xs) (Yw:(xs.length:Int) < 2 ^ 63)
  (h:Q (.int xs.length (s.toks+1)) { s with toks:=s.toks+1+1 }):wpAny (model prog w) A (call (.builtin "len") [.ref d]) Q E s:=by
 show Calls.call_function_entry kind_len plain_len entry_len (args_len1 _) ?_;unfold Builtin.«len»;show Æ (m:=oneArg "len" _) (Ë ?_);show Æ (m:=callSpecial? (.ref d) (Str.ofString "__len__")) (Ĵ (name:=Str.ofString "__len__") hm.typeIs PySem.F.slot_dict_len
  (ē PySem.F.slot_dict_len hm.typeIs PySem.F.entry_dict_len ?_ (PySem.F.args_dict_len_1 _)))
 let⟨o,es,ep,ho,hc,Pi,he,Pg,hn⟩:=hm;change wpAny _ _ (dictSize d >>= _) _ _ s;unfold dictSize;show Æ (Æ (wpAny_dictEntries ho Pi (Ë ?_)));change wpAny _ _ (Builtin.Dict.pendingCount d >>= _) _ _ s;show Æ (wpAny_pendingCount_other hd ?_);have:es.size=xs.length:=size_of_entries he;have e0:((es.size:Int)+((0:Nat):Int))=(xs.length:Int):=by rw[this];lia
 rw[show retInt ((es.size:Int)+((0:Nat):Int))=retInt (xs.length:Int) by rw[e0]];show Æ (wpAny_mkInt (Ë ⟨_,O,?_⟩));change wpAny _ _ _ _ _ { s with toks:=s.toks+1 };show Æ (ü (Ë ?_));show Æ (Ġ ?_);change wpAny _ _ (if ((xs.length:Nat):Int) < 0 then _ else _) _ _ _;rw[Ä Fn];change wpAny _ _ (if ((xs.length:Nat):Int) ≥ 2 ^ 63 then _ else _) _ _ _;rw[Ä Fn];show Æ (wpAny_mkInt (Ë ⟨_,O,h⟩))
end
section
variable {X:Cx}{gj:List (Á×Obj)}{σ:St}{H:Hp}{s:Â}{a:Á}{S:D}{gn:List (D×V)}
theorem cC.exact (I:Inv X gj σ H s) (g:cC X.prog X.w X.K H a S gn):s.TypeIs (.ref a) "dict" /\ (∀ b,Value.ref a=.ref b->∃ ob,s.heap.get? b=Option.some ob/\ob.dict=W):=by
 let⟨_,_,xs,_,dd⟩:=g.at I;show⟨dd.typeIs,λ b q=>?_⟩;cases q;let⟨ob,_,_,h1,h2,_⟩:=dd;show⟨ob,h1,h2.2.1⟩
def QV (P:Ã) (w:World) (K:Ç):List V->Hp->VK->Prop:=λ xs H Q=>∃ a S gn,xs=[.ref a]/\cC P w K H a S gn/\Q (.int gn.length) H
theorem JT:eV X (.builtin "len") (QV X.prog X.w X.K):=by
 intro gj s σ H xs us Q I r h;let⟨a,S,gn,rfl,g,q⟩:=h;let⟨u,rfl,rx⟩:=oJ r;cases rx;let⟨hd,hz,ys,p,dd⟩:=g.at I;have hl:=î p;have hs:sizeLine=16777216:=ĕ;show J1 hd dd Fn ⟨.int gn.length,H,I.tok _,⟨_,by rw[hl]⟩,q⟩
theorem FD {P:Ã} (hP:X.prog=P) (hw:X.w=w) (hK:X.K=K):eV X (.builtin "len") (QV P w K):=by subst hP hw hK;show JT
def QK (P:Ã) (w:World) (K:Ç) (td ty tx:TE):TE:=λ σ H Q=>td σ H λ x H1=>∃ a S1 Ia,x=.ref a/\cC P w K H1 a S1 Ia/\ty σ H1 λ y H2=>tx σ H2 λ z H3=>∃ S gn k,cC P w K H3 a S gn/\KeyD K H3 S k y/\gn.length < sizeLine/\
 (∀ v,eB gn k=Y v->Q v H3)/\(eB gn k=W->∀ H4,bS a H3 H4->cC P w K H4 a S (gR gn k z)->Q z H4)
theorem PC  (hu:X.A.units+64 < cLine) (ho:PE X o td) (he:PE X e ty) (hf:PE X f tx) (m:M2 X o "setdefault" apos e f iq):PE X (.Call (.Attribute o "setdefault" apos) [e,f] [] iq) (QK X.prog X.w X.K td ty tx):=by
 intro gj s σ H Q I h;show wpAny_Call_method m.base m.few m.line agq afw PySem.F.type_dict_setdefault (cK (ho gj s σ H _ I h) λ u s1 ⟨x,H1,I1,rx,a,S1,Ia,ex,g1,q1⟩=>?_);subst ex;obtain rfl:u=Value.ref a:=rx;let⟨t1,t2⟩:=g1.exact I1;show⟨t1,t2,?_⟩;rw[m.trees];show Ũ O (ū (ń (cK (he gj s1 σ H1 _ I1 q1) λ iv s2 ⟨y,H2,I2,ry,q2⟩=>
  ń (cK (hf gj s2 σ H2 _ I2 q2) λ fv s3 ⟨z,H3,I3,rz,S,gn,k,g,hk,gr,qa,qb⟩=>Ŵ ?_))))
 let⟨b,rfl⟩:=hk.tup;cases ry;let⟨hd,hz,xs,p,dd⟩:=g.at I3;have hl:=î p;have uw:=KD.val k p;show mH (knd:=eW X.prog X.w S) (show X.A.in1.units+8 < cLine by change X.A.units+1+8 < cLine;lia) (hk.at I3) hd dd (λ pp hp=>?_) (λ hn h' xx qr=>?_) Fn
 ·rw[hp]at uw;cases hv:eB gn k with
  |none=>rw[hv]at uw;show uw.elim
  |some v=>
   rw[hv]at uw;show⟨v,H3,I3.tok _,uw,qa v hv⟩
 ·rw[hn]at uw;have hv:eB gn k=none:=by
   cases hv:eB gn k with
   |none=>rfl
   |some v=>rw[hv]at uw;show uw.elim
  let⟨qo,es,ep,hq,h2,h3,h4,_,h5⟩:=xx;have mu:=g.mut;have bt:bS a H3 (upd H3 a (.ext (nO X.prog X.w S a (storedH xs k b fv)))):=Ú;have ts:=bt.ts (K:=X.K) mu;have Hd:(gR gn k z).length<=sizeLine:=by have:=gA gn k z;lia
  show⟨z,_,n5 I3 mu qr ⟨qo,hq⟩ (ob:=.ext (nO X.prog X.w S a (storedH xs k b fv))) ⟨⟨qo,es,ep,hq,h2,h3,h4,h5⟩,⟨qo,hq⟩,λ h1 Br ⟨o',yn,yo,z1,z⟩ kk=>⟨o',yn,yo,kk _ z1,z⟩⟩,rz,qb hv _ bt (.inr ⟨_,a8,hd,Hd,KD.mono (KD.put p hk rz) ts⟩)⟩
theorem LV {P:Ã}{apos iq:Pos} (hP:X.prog=P) (hw:X.w=w) (hK:X.K=K) (hu:X.A.units+64 < cLine) (ho:PE X o td) (he:PE X e ty) (hf:PE X f tx) (m:M2 X o "setdefault" apos e f iq):PE X (.Call (.Attribute o "setdefault" apos) [e,f] [] iq) (QK P w K td ty tx):=by
 subst hP hw hK;show PC hu ho he hf m
end
abbrev OT (P:Ã) (w:World) (K:Ç):FI:=λ D y z H N=>∃ S gn k,cC P w K H D S gn/\KeyD K H S k y/\gn.length < sizeLine/\∀ H',bS D H H'->cC P w K H' D S (gR gn k z)->N H'
section
variable {X:Cx}{gj:List (Á×Obj)}{σ:St}{H:Hp}{s:Â}{a:Á}{v:V}{u r:À}{A:Around}{E:À->Â->Prop}{gn:List (D×V)}{k S:D}
theorem EY {Q:Unit->Â->Prop} (hu:A.units+8 < cLine) (I:Inv X gj σ H s) (g:cC X.prog X.w X.K H a S gn) (hk:KeyD X.K H S k y) (l:gn.length < sizeLine) (ry:aX y u) (rv:aX v r)
  (h:∀ H' s',Inv X gj σ H' s'->bS a H H'->cC X.prog X.w X.K H' a S (gR gn k v)->Q () s') :
  wpAny (model X.prog X.w) A (dictSet a u r) Q E s:=by
 let⟨b,rfl⟩:=hk.tup;cases ry;let⟨hd,hz,xs,p,dd⟩:=g.at I;have uh:xs.length<=sizeLine:=by rw[<- î p];show hz
 have Hd:(gR gn k v).length<=sizeLine:=by have:=gA gn k v;lia
 show wpAny_dictSet_heap (knd:=eW X.prog X.w S) (hsz:=uh) hu (hk.at I) dd λ h' xx qr=>?_;let⟨qo,es,ep,hq,h2,h3,h4,_,h5⟩:=xx;have mu:=g.mut;have bt:bS a H (upd H a (.ext (nO X.prog X.w S a (storedH xs k b r)))):=Ú;have ts:=bt.ts (K:=X.K) mu;show h _ _ (n5 I mu qr ⟨qo,hq⟩ (ob:=.ext (nO X.prog X.w S a (storedH xs k b r))) ⟨⟨qo,es,ep,hq,h2,h3,h4,h5⟩,⟨qo,hq⟩,λ h1 Br ⟨o',yn,yo,z1,z⟩ kk=>⟨o',yn,yo,kk _ z1,z⟩⟩) bt (.inr ⟨_,a8,hd,Hd,KD.mono (KD.put p hk rv) ts⟩)
end
section
variable {X:Cx}
theorem OS (hu:X.A.units+64 < cLine):O9 X (OT X.prog X.w X.K):=by
 intro BG h1 h2 h3 h4 gj σ H s D y z u r N E I ry rz ⟨S,gn,k,g,hk,hl,n⟩;rw[<- h1,<- h2,<- h3]at g n;rw[<- h3]at hk;show EY (by rw[h4];lia) I g hk hl ry rz λ H' s' I' b' d'=>⟨H',I',n H' b' d'⟩
theorem PD {P:Ã}{scope:Scope}{pos:Pos}{N':List Str}{fr:List (Option Nat)}{cl:List (Str×Á)}{wi:TI}{g:TG}{tc:TT}{tk tv:TE}
  (hP:X.prog=P) (hw:X.w=w) (hK:X.K=K) (hu:X.A.units+64 < cLine) (hx:∀ e s,¬ X.xe e s) (hc:X.calm=Eg) (S:LcOk X scope cl N' fr) (hi:PI X tg iter wi)
  (hg:∀ fp s H,PG (lD X N' scope cl fp s H) tg g) (ht:∀ fp s H,RI (lD X N' scope cl fp s H) ifs tc) (hk:∀ fp s H,PE (lD X N' scope cl fp s H) kx tk) (hv:∀ fp s H,PE (lD X N' scope cl fp s H) vx tv)
  (hs:autoParam (∀ x,foldedSetIterable iter X.env x=pure x) _6):PE X (.DictComp kx vx [⟨tg,iter,ifs,0⟩] scope pos) (UE (OT P w K) wi fr g tc tk tv):=by subst hP hw hK;show SK (OS hu) hx hc S hi hg ht hk hv hs
def QU (K:Ç):List V->Hp->VK->Prop:=λ xs H Q=>∃(p:Á) (ns:List Int),xs=[.ref p]/\bE K H p (ns.map V.int)/\0 < ns.length/\∀ M,M∈ns->(∀ a∈ns,a<=M)->Q (.int M) H
theorem JR (hc:X.calm=Eg):eV X (.builtin "max") (QU X.K):=by
 intro gj s σ H xs us Q I r h;let⟨p,ns,rfl,hq,h0,q⟩:=h;let⟨u,rfl,ru⟩:=r.one;cases ru;let⟨its,rv,pl,hz⟩:=I.list hq;have hi:=vR rv;have hl:=pl.isList;let⟨ys,e⟩:=hi.allInts.items;have ua:ns=ys.toList.map (·.1):=by rw[<- hi.numsOf,<- nums_intItems,<- e]
 have hsz:0 < ys.size:=by
  have h3:=h0;rw[ua,Ê,Ŀ]at h3;show h3
 rw[e]at hl;show max_intList (I.ok.hd hc) hl hsz λ v h' tk hv hk=>?_;let⟨t,rfl⟩:=intItems_at hv;let⟨h1,h2⟩:=argBest_gt (numAt ys) (ys.size - 1);show⟨.int _,H,I.kept hk,⟨t,O⟩,q _ ?_ λ a ha=>?_⟩
 ·rw[ua,numAt_eq];show getD_mem (by rw[Ê,Ŀ];lia)
 ·rw[ua]at ha;let⟨j,hj,rfl⟩:=mem_getD ha;rw[Ê,Ŀ]at hj;rw[<- numAt_eq];show h2 j Fn
theorem FC  (hK:X.K=K) (hc:X.calm=Eg):eV X (.builtin "max") (QU K):=by subst hK;show JR hc
end
section
variable {g:TG}{tc:TT}{te:TE}{fr:List (Option Nat)}{σ:St}{H1:Hp}{Q:Á->Hp->Prop}
theorem MJ  (Pv:Á->Nat->List V->St->Hp->Prop)
  (hq:∀ D i r σ H,Pv D i r σ H->kW K H t a xs)
  (h0:∀ D,H1 D=W->Pv D 0 [] (CS fr σ) (upd H1 D (.lst []))) (iu:∀ D r ac H',Pv D xs.length r ac H'->Q D H')
  (ox:∀ D i x r ac H' T,xs[i]?=Y x->Pv D i r ac H'->H' T=W->g (.ref T) ac (upd H' T (.tup [.int (i:Int),x])) λ aj H3=>tc aj H3 λ b H4=>
    if b=Eg then te aj H4 λ y H5=>H5 D=Y (.lst r)/\r.length < PySem.sizeLine/\Pv D (i+1) (r++[y]) aj (upd H5 D (.lst (r++[y])))
    else Pv D (i+1) r aj H4):kQ (VM K t a) g tc te fr σ H1 Q:=by
 show qW (n:=xs.length) Pv h0 (λ D r ac H' p=>⟨⟨xs,hq D _ r ac H' p,Ñ _⟩,iu D r ac H' p⟩) λ D i r ac H' hi p=>⟨⟨xs,xs[i],hq D _ r ac H' p,by simp[hi]⟩,?_⟩;rintro v H2 xK;let⟨T,x,hT,rfl,e1,rfl⟩:=xK;show ox D i x r ac H' T (e1 xs (hq D _ r ac H' p)) p hT
theorem NX {P:Ã}{xs:List V} (Pv:Á->Nat->St->Hp->Prop)
  (hq:∀ D i σ H,Pv D i σ H->kW K H t a xs)
  (h0:∀ D,H1 D=W->Pv D 0 (CS fr σ) (upd H1 D (.dK []))) (iu:∀ D ac H',Pv D xs.length ac H'->Q D H')
  (ox:∀ D i x ac H' T,xs[i]?=Y x->Pv D i ac H'->H' T=W->g (.ref T) ac (upd H' T (.tup [.int (i:Int),x])) λ aj H3=>tc aj H3 λ b H4=>
    if b=Eg then tk aj H4 λ y H5=>tv aj H5 λ z H6=>∃ S gn k,cC P w K H6 D S gn/\KeyD K H6 S k y/\gn.length < sizeLine/\∀ H7,bS D H6 H7->cC P w K H7 D S (gR gn k z)->Pv D (i+1) aj H7
    else Pv D (i+1) aj H4):tF (OT P w K) (VM K t a) g tc tk tv fr σ H1 Q:=by
 show TM (S:=OT P w K) (n:=xs.length) Pv h0 (λ D ac H' p=>⟨⟨xs,hq D _ ac H' p,Ñ _⟩,iu D ac H' p⟩) λ D i ac H' hi p=>⟨⟨xs,xs[i],hq D _ ac H' p,by simp[hi]⟩,?_⟩;rintro v H2 xK;let⟨T,x,hT,rfl,e1,rfl⟩:=xK;show ox D i x ac H' T (e1 xs (hq D _ ac H' p)) p hT
end
end L2
namespace Tw
open PySem L2
def lG (n:Nat):V:=.int (n:Int)
def KZ (K:Ç):Sp:=λ vs H Q _=>∃(l:Á) (us:List V) (ds:List L2.D) (S:L2.D),vs=[.ref l]/\H l=Y (.lst us)/\Paired (λ d v=>KeyD K H S d v) ds us/\ds.length<=1000/\
 ∀ r H',aE H H'->H' r=Y (.lst ((fJ ds).map lG))->H r=W->Q (.ref r) H'
theorem BX (F:Fun K "numbered" "numbered" (bG 72) f fd) (T:Txt mg):FnOk P w K mg base fX 1 f fd ["signs"] (KZ K):=by
 show F.ok ["signs","numbers","sign"] λ sc gz A outer s H vs Q E hr h=>?_
 ·let⟨l,us,ds,S,rfl,hl,pr,gr,k⟩:=h;have Ah:us.length=ds.length:=(î pr).symm;show⟨_,(aA (iN (i:=1) sc.nd O (Or.inr O) BT)
   (aA (dB ò O (cP (K:=K) O (pv 0)) (gL 2 sc.nd) (aF (bH (LV (P:=P) (w:=w) (K:=K) O O O hr.units (pv 1) (pv 2) (bO (FD (P:=P) (w:=w) (K:=K) O O O) O T.b_len PySem.boot_len (a7 (pv 1) a9)) ⟨O,O,O,O⟩))))
   (aF (aK (fQ (λ _ _ h=>h) O (LcOk.mk (N':=["sign","numbers"]) (fr:=[W,Y 1]) O ⟨O,trivial⟩ O O O O O ⟨⟨_,O,O,O,O⟩,trivial⟩) (cP (K:=K) O (pv 0)) (λ _ _ _=>(gC 0 ["sign","numbers"])) (λ _ _ _=>c9) (λ _ _ _=>(BS (MW (P:=P) (w:=w) (K:=K) O O O hr.units) (pv 1) (pv 0) (λ _ _=>O)))))))),?_⟩
  show λ sd zk=>?_;have Hl:H sd=none:=zk;have s1:aE H (upd H sd (.dK [])):=È zk;have g1:upd H sd (.dK []) sd=Y (.dK []):=a8;generalize upd H sd (.dK [])=H1 at s1 g1 ⊢;show(bA _ O (bA l O ⟨⟨_,É (s1 _ _ hl)⟩,iT (K:=K) (a:=l) (xs:=us) (λ j ac H'=>aE H H'/\cC P w K H' sd S (hV 0 (bB (ds.take j)))/\∃ v2,ac=[Y (.ref l),Y (.ref sd),v2]) ?_ ?_ ?_ ?_⟩))
  ·show⟨s1,cC.new g1,_,O⟩
  ·rintro i ac H' _ ⟨s2,_⟩;show É (s2 _ _ hl)
  ·rintro j u ac H2 hu xK;let⟨s2,dd,v2,rfl⟩:=xK;let⟨d,hd,kd⟩:=Đ pr hu;have hj:=(Ö.mp hu).1;have tz:(bB (ds.take j)).length<=ds.length:=ý (iG _) (by rw[ß];lia);have ht:bB (ds.take (j+1))=AG (bB (ds.take j)) d:=by rw[Ŷ,hd];show kG _ _
   show⟨_,O,sd,S,_,O,dd,_,O,_,O,sd,S,_,O,dd,S,_,d,dd,kd.mono s2.ts,dH (by rw[mV];lia),λ v hv=>?_,λ hn H4 b4 d4=>?_⟩
   ·show⟨s2,?_,_,O⟩;have hm:d∈bB (ds.take j):=Classical.byContradiction λ z=>by rw[nY 0 _ z]at hv;cases hv
    rw[ht,k8 hm];show dd
   ·show⟨λ b o e=>b4 b o (aI e Hl) (s2 b o e),?_,_,O⟩;have hm:d∉bB (ds.take j):=λ z=>by rw[mU 0 _ z]at hn;cases hn
    rw[uQ _ hn,mV]at d4;rw[ht,k9 hm,nX,Ě];show d4
  ·rintro ac H2 xK;let⟨s2,dd,v2,rfl⟩:=xK;rw[Ah,æ]at dd;show⟨_,O,l,O,⟨_,É (s2 _ _ hl)⟩,hJ (K:=K) (a:=l) (xs:=us) (λ D i r ac H'=>H2 D=W/\aE H2 H'/\H' D=Y (.lst r)/\r=((fJ ds).take i).map lG/\∃ u,ac=[u,Y (.ref sd)])
    (λ D i r ac H' p=>É (p.2.1 _ _ (s2 _ _ hl))) (λ D hD=>⟨hD,È hD,a8,O,W,O⟩) ?_ ?_⟩
   ·rintro D r ac H3 xK;let⟨mh,sm,ie,rfl,_⟩:=xK;rw[Ah,<- iP ds,æ]at ie;show k D H3 (s2.trans sm) ie (s2.free mh)
   ·rintro D i u r ac H3 hu xK;let⟨mh,sm,ie,rfl,v,rfl⟩:=xK;let⟨d,hd,kd⟩:=Đ pr hu;have hi:=(Ö.mp hu).1;have hm:d∈bB ds:=dQ.mpr (Û hd);show cZ ?_;show⟨_,O,_,O,sd,S,_,d,_,O,dd.same sm,kd.mono (s2.trans sm).ts,mU 0 _ hm,ie,dH (by rw[Ê,ß,iP];lia),mh,sm.put mh,a8,?_,_,O⟩;rw[Ŷ,vJ hd,Ó,Ě];rfl
end Tw
namespace L2
open PySem PySem.Spec PyProof.Rows TwZ
section
variable {X:Cx}{gj:List (Á×Obj)}{σ:St}{H:Hp}{s:Â}
theorem O3 {us:List À}{w:À} (h1:j < us.toArray.size) (h:us[j]?=Y w):us.toArray[j]=w:=by
 have:us[j]?=Y us.toArray[j]:=by simp
 rw[this]at h;show ç h
theorem DI:∀(ns ms:List Int),ns.length=ms.length->(List.range ns.length).all (λ j=>decide (ns[j]?=ms[j]?))=decide (ns=ms)
 |[],[],_=>rfl
 |[],_::_,h=>by simp at h
 |_::_,[],h=>by simp at h
 |n::ns,m::ms,h=>by
  have ih:=DI ns ms (by simpa using h);rw[Ý,afd,ago,List.all_map];have e:((λ j=>decide ((n::ns)[j]?=(m::ms)[j]?)) ∘ Nat.succ)=λ j=>decide (ns[j]?=ms[j]?):=by funext j;simp
  rw[e,ih]
  by_cases h1:n=m <;> by_cases h2:ns=ms <;> simp[h1,h2]
def G5 (K:Ç):R2:=λ x y H Q=>∃(a b:Á) (ns ms:List Int),x=.ref a/\y=.ref b/\bE K H a (ns.map V.int)/\bE K H b (ms.map V.int)/\ns.length=ms.length/\Q (.bl (decide (ns=ms))) H
theorem IK (hu:X.A.units+64 < cLine):jG X (compareOp .Eq) (G5 X.K):=by
 intro gj s σ H x y v u Q I rx ry h;let⟨a,b,ns,ms,rfl,rfl,q1,q2,hl,q⟩:=h;cases rx;cases ry;let⟨us,r1,p1,_⟩:=I.list q1;let⟨vs,r2,p2,_⟩:=I.list q2;have e1:=r1.length;have e2:=r2.length;rw[Ê]at e1 e2;show SeqAt.eq_listAt (e:=λ j=>decide (ns[j]?=ms[j]?)) p1.isList p2.isList (by simp;lia) Fn (λ j h1 h2=>?_) ?_
 ·have j1:j < ns.length:=by rw[e1];simpa using h1
  have j2:j < ms.length:=by rw[e2];simpa using h2
  let⟨w1,g1,t,rfl⟩:=r1.get (i:=j) (x:=.int ns[j]) G0;let⟨w2,g2,t',rfl⟩:=r2.get (i:=j) (x:=.int ms[j]) G0;rw[O3 h1 g1,O3 h2 g2];have:decide (ns[j]?=ms[j]?)=(ns[j]==ms[j]):=by rw[þ j1,þ j2];by_cases h:ns[j]=ms[j] <;> simp[h]
  rw[this];show ű _ _ _ _
 ·rw[Ü,<- e1,DI ns ms hl];show⟨.bl _,H,I,O,q⟩
theorem EA  (hK:X.K=K) (hu:X.A.units+64 < cLine):jG X (compareOp .Eq) (G5 K):=by subst hK;show IK hu
end
end L2
namespace Tw
open PySem L2
def wG (K:Ç) (H:Hp) (row:List (Nat×Bool)) (u:V):Prop:=∃ a vs,u=.ref a/\H a=Y (.lst vs)/\Paired (λ(p:Nat×Bool) v=>∃ q,v=.ref q/\aP K H q [lG p.1,.bl p.2]) row vs
def rJ (K:Ç) (H:Hp) (ml:Á) (m:iX):Prop:=∃ us,H ml=Y (.lst us)/\Paired (wG K H) m us
theorem wG.same  (h:wG K H row u) (s:aE H H'):wG K H' row u:=by
 let⟨a,vs,e,h1,h2⟩:=h;show⟨a,vs,e,s _ _ h1,ë h2 λ _ _ ⟨q,e,z⟩=>⟨q,e,s.tup z⟩⟩
theorem rJ.same  (h:rJ K H ml m) (s:aE H H'):rJ K H' ml m:=by
 let⟨us,h1,h2⟩:=h;show⟨us,s _ _ h1,ë h2 λ _ _ z=>z.same s⟩
structure MachOk (m:iX) (wd:Nat):Prop where
 len:m.length<=1000
 wid:∀ row∈m,row.length=wd
 wd:wd<=1001
 lt:∀ row∈m,∀ p∈row,p.1 < m.length
theorem wP (xs:List Int):(L2.D.tup (xs.map L2.D.int)).depth=1:=by
 rw[L2.D.depth,jY _ rC]
theorem A9 (xs:List Bool):(L2.D.tup (xs.map L2.D.bl)).depth=1:=by
 rw[L2.D.depth,jY _ D3]
theorem CO :∀ xs:List Int,IsL K H (xs.map L2.D.int) (xs.map V.int)
 |[]=>by rw[í,L2.IsL];rfl
 |x::xs=>by rw[Ù,Ù,L2.IsL];show(bU _ _ O ⟨by rw[L2.Is],CO xs⟩)
theorem GK :∀ xs:List Bool,IsL K H (xs.map L2.D.bl) (xs.map V.bl)
 |[]=>by rw[í,L2.IsL];rfl
 |x::xs=>by rw[Ù,Ù,L2.IsL];show(bU _ _ O ⟨by rw[L2.Is],GK xs⟩)
def ET (row:List Bool):L2.D:=.tup (row.map L2.D.bl)
def CL (z:Nat×List Nat):L2.D:=.tup [.int (z.1:Int),.tup ((z.2.map λ(n:Nat)=>(n:Int)).map L2.D.int)]
theorem Q0  (h:aP K H a (row.map V.bl)) (hw:row.length=wd):KeyD K H (.tup (List.replicate wd (.bl Eh))) (ET row) (.ref a):=by
 show⟨?_,?_,?_,?_,a,O⟩
 ·change sh (.tup (row.map L2.D.bl))=_;rw[sh,yX,hw]
 ·change(L2.D.tup (row.map L2.D.bl)).depth<=7;rw[A9];decide
 ·change dO (.tup (row.map L2.D.bl));rw[dO];show nU _
 ·change Is K H (.tup (row.map L2.D.bl)) _;rw[L2.Is];show(bU a _ O ⟨h,GK row⟩)
theorem PZ  (h:aP K H a [lG z.1,.ref b]) (hb:aP K H b (z.2.map lG)) (hw:z.2.length=wd):KeyD K H (.tup [.int 0,.tup (List.replicate wd (.int 0))]) (CL z) (.ref a):=by
 show⟨?_,?_,?_,?_,a,O⟩
 ·change sh (.tup [.int (z.1:Int),.tup ((z.2.map λ(n:Nat)=>(n:Int)).map L2.D.int)])=_;rw[sh,lF,lF,lF,sh,sh,oQ,Ê,hw]
 ·change(L2.D.tup [.int (z.1:Int),.tup ((z.2.map λ(n:Nat)=>(n:Int)).map L2.D.int)]).depth<=7;rw[L2.D.depth,dN,dN,dN,rC,wP];decide
 ·change dO (.tup [.int (z.1:Int),.tup ((z.2.map λ(n:Nat)=>(n:Int)).map L2.D.int)]);rw[dO,cS,cS,cS,dO,dO];show⟨trivial,j9 _,trivial⟩
 ·change Is K H (.tup [.int (z.1:Int),.tup ((z.2.map λ (n:Nat)=>(n:Int)).map L2.D.int)]) _;show Ð (ds:=[.int (z.1:Int),.tup ((z.2.map λ (n:Nat)=>(n:Int)).map L2.D.int)]) h (.cons (by rw[L2.Is];rfl) (.cons (by
   rw[L2.Is];show⟨b,_,O,hb,by have:=CO (K:=K) (H:=H) (z.2.map λ(n:Nat)=>(n:Int));rw[ĉ (g:=V.int)]at this;show this⟩) .nil))
theorem MU  (h:ET a=ET b):a=b:=by
 injection h with h;show(ņ λ x y e=>by injection e).mp h
theorem MT  (h:CL a=CL b):a=b:=by
 injection h with h;injection h with h1 h;injection h with h2 _;injection h1 with h1;injection h2 with h2;have h2:=(ņ λ x y (e:L2.D.int x=L2.D.int y)=>by injection e).mp h2;have h2:=(ņ λ(x y:Nat) (e:(x:Int)=(y:Int))=>by lia).mp h2;show Prod.ext Fn h2
def FR (K:Ç):Sp:=λ vs H Q _=>∃(ml:Á) (m:iX) (wd:Nat),vs=[.ref ml]/\rJ K H ml m/\MachOk m wd/\
 ∀ n r H',aE H H'->H' r=Y (.lst ((aO m n).map lG))->jC m (aO m n)=aO m n->H r=W->Q (.ref r) H'
theorem BW (F:Fun K "rooms_of" "rooms_of" (bG 71) f fd) (T:Txt mg) (ph:Callee P w K mg base "numbered" ["signs"] 1 (KZ K) f1 je):FnOk P w K mg base fX 2 f fd ["machine"] (FR K):=by
 show F.ok ["machine","rooms","finer"] λ sc gz A outer s H vs Q E hr h=>?_
 ·let⟨ml,m,wd,rfl,⟨us,yh,pr⟩,kr,k⟩:=h;have Ah:us.length=m.length:=(î pr).symm;have hm:=kr.len;have Nu:=kr.wd;show⟨_,(aA (iN (i:=1) sc.nd O (Or.inr O) (cA ph hr (a7 (fQ (λ _ _ h=>h) O (LcOk.mk (N':=["pairs"]) (fr:=[W]) O trivial O O O O O trivial) (cP (K:=K) O (pv 0)) (λ _ _ _=>(gC 0 ["pairs"])) (λ _ _ _=>c9) (λ _ _ _=>(aU (bR (K:=K) O) O T.b_tuple bT (a7 (fQ (λ _ _ h=>h) O (LcOk.mk (N':=["behind","tips"]) (fr:=[W,W]) O trivial O O O O O trivial) (cP (K:=K) O (pv 0)) (λ _ _ _=>(aM (K:=K) (n:=2) O O (aB (gC 0 ["behind","tips"]) (aB (gC 1 ["behind","tips"]) aL)))) (λ _ _ _=>c9) (λ _ _ _=>(pv 1))) a9)))) a9)))
   (aF (BN ò (cO eI) (aA (pL 2 sc.nd (cA ph hr (a7 (fQ (λ _ _ h=>h) O (LcOk.mk (N':=["state","pairs","rooms"]) (fr:=[W,W,Y 1]) O ⟨O,trivial⟩ O O O O O ⟨⟨_,O,O,O,O⟩,trivial⟩) (iO (K:=K) O O T.b_enumerate (a7 (pv 0) a9)) (λ _ _ _=>(aM (K:=K) (n:=2) O O (aB (gC 0 ["state","pairs","rooms"]) (aB (gC 1 ["state","pairs","rooms"]) aL)))) (λ _ _ _=>c9) (λ _ _ _=>(aQ (a7 (px K (pv 2) (pv 0)) (a7 (aU (bR (K:=K) O) O T.b_tuple bT (a7 (fQ (λ _ _ h=>h) O (LcOk.mk (N':=["behind","tips","rooms"]) (fr:=[W,W,Y 2]) O ⟨O,trivial⟩ O O O O O ⟨⟨_,O,O,O,O⟩,trivial⟩) (cP (K:=K) O (pv 1)) (λ _ _ _=>(aM (K:=K) (n:=2) O O (aB (gC 0 ["behind","tips","rooms"]) (aB (gC 1 ["behind","tips","rooms"]) aL)))) (λ _ _ _=>c9) (λ _ _ _=>(px K (pv 2) (pv 0)))) a9)) a9))))) a9)))
   (aA (cE (bN (EA (K:=K) O hr.units) (pv 2) (pv 1) (bK _)) (aF (aK (pv 1))) bF)
   (aF (iN (i:=1) sc.nd O (Or.inr O) (pv 2)))))))),?_⟩
  show⟨_,O,ml,O,⟨_,É yh⟩,hJ (K:=K) (a:=ml) (xs:=us) (λ D i r ac H'=>H D=W/\aE H H'/\H' D=Y (.lst r)/\Paired (λ d v=>KeyD K H' (.tup (List.replicate wd (.bl Eh))) d v) ((m.take i).map λ row=>ET (row.map (·.2))) r/\∃ u,ac=[u])
   (λ D i r ac H' p=>É (p.2.1 _ _ yh)) (λ D hD=>⟨hD,È hD,a8,.nil,W,O⟩) ?_ ?_⟩
  rotate_left
  ·rintro D i u r ac H1 hu xK;let⟨mh,sm,ie,nk,v,rfl⟩:=xK;let⟨row,rg,ra⟩:=Đ pr hu;have hi:=(Ö.mp hu).1;let⟨a,vs,rfl,ha,Ba⟩:=ra.same sm;have Ib:vs.length=row.length:=(î Ba).symm;have Pj:=kr.wid row (Û rg);have jg:r.length=(m.take i).length:=by rw[<- î nk,Ê]
   show cZ ?_;show⟨_,O,a,O,⟨_,É ha⟩,hJ (K:=K) (a:=a) (xs:=vs) (λ D2 j r2 ac H'=>H1 D2=W/\aE H1 H'/\H' D2=Y (.lst r2)/\r2=((row.take j).map (·.2)).map V.bl/\∃ x y,ac=[x,y])
    (λ D2 j r2 ac H' p=>É (p.2.1 _ _ ha)) (λ D2 tm=>⟨tm,È tm,a8,O,W,W,O⟩) ?_ ?_⟩
   rotate_left
   ·rintro D2 j y r2 ac H2 hy xK;let⟨tm,il,nt,rfl,v1,v2,rfl⟩:=xK;let⟨p,hp,q,rfl,qq⟩:=Đ Ba hy;have hj:=(Ö.mp hy).1;show(bU q _ O ⟨il.tup qq,O,(bU _ _ O (bU _ _ O ⟨O,?_⟩))⟩);show iJ ⟨_,O,nt,dH (by rw[Ê,Ê,ß];lia),tm,il.put tm,a8,?_,_,_,O⟩;rw[aY hp];simp
   ·rintro D2 r2 ac H2 xK;let⟨tm,il,nt,rfl,_⟩:=xK;rw[Ib,æ]at nt;show(bU D2 _ O (.inl ⟨É nt,λ tp qg=>?_⟩));have s3:=È (o:=HO.tup ((row.map (·.2)).map V.bl)) qg;show⟨s3 _ _ (il _ _ ie),dH (by rw[jg,ß];lia),mh,((sm.trans il).trans s3).put mh,a8,?_,_,O⟩;have ts:bD K H1 (upd (upd H2 tp (.tup ((row.map (·.2)).map V.bl))) D (.lst (r++[.ref tp]))):=(il.trans s3).ts.trans (è (K:=K) (H:=upd H2 tp (.tup ((row.map (·.2)).map V.bl))) (t:=D) Ú (by rw[s3 _ _ (il _ _ ie)];show trivial));rw[aY rg,Ó];show Ę (ë nk λ _ _ h=>h.mono ts) (Q0 ?_ (by rw[Ê];show Pj));show(è (K:=K) (H:=upd H2 tp (.tup ((row.map (·.2)).map V.bl))) (t:=D) Ú (by rw[s3 _ _ (il _ _ ie)];show trivial)) _ _ (Í a8)
  ·rintro D r ac H1 xK;let⟨mh,sm,ie,nk,_⟩:=xK;rw[Ah,æ]at nk;show⟨D,r,_,_,O,ie,nk,by rw[Ê];show hm,λ rl H2 s2 jg tj=>?_⟩;have e0:fJ (m.map λ row=>ET (row.map (·.2)))=aO m 0:=by
    change _=fJ (m.map λ r=>r.map (·.2));rw[show(m.map λ row=>ET (row.map (·.2)))=(m.map λ r=>r.map (·.2)).map ET by rw[ĉ];rfl];show pJ λ a _ b _ e=>MU e
   rw[e0]at jg;show⟨λ q ac H'=>aE H H'/\∃(n:Nat) (rl:Á) (v2:Option V),q=m.length - (bB (aO m n)).length/\H' rl=Y (.lst ((aO m n).map lG))/\H rl=W/\ac=[Y (.ref ml),Y (.ref rl),v2],⟨_,sm.trans s2,(NN 0 rl _ O ⟨jg,sm.free tj,O⟩)⟩,?_⟩;clear jg tj ie nk mh e0 sm s2;rintro q ac H3 xK;let⟨s3,n,rl,v2,rfl,jg,tj,rfl⟩:=xK;show(bA _ O (eS ?_));show⟨λ ac H'=>aE H H'/\∃(rl:Á) (v2:Option V),H' rl=Y (.lst ((aO m (n+1)).map lG))/\aO m (n+1)≠aO m n/\H rl=W/\ac=[Y (.ref ml),Y (.ref rl),v2],?_,?_⟩
   ·rintro ac H' xK;let⟨h1,Yx,Yy,h2,h3,h4,h5⟩:=xK;have h6:=EW (m:=m) (n:=n) h3;have h7:=IF m (n+1);have h6:(bB (aO m n)).length < (bB (aO m (n+1))).length:=h6;show⟨m.length - (bB (aO m (n+1))).length,Fn,h1,n+1,(bU Yx Yy O ⟨h2,h4,h5⟩)⟩
   have Ic:=s3 _ _ yh;show⟨_,O,Eh,ml,O,⟨_,É Ic⟩,MJ (K:=K) (t:=Eh) (a:=ml) (xs:=us) (λ D i r ac H'=>H3 D=W/\aE H3 H'/\H' D=Y (.lst r)/\Paired (λ d v=>KeyD K H' (.tup [.int 0,.tup (List.replicate wd (.int 0))]) d v) (((fU m (aO m n)).take i).map CL) r/\∃ u1 u2,ac=[u1,u2,Y (.ref rl)])
    (λ D i r ac H' p=>É (p.2.1 _ _ Ic)) (λ D hD=>⟨hD,È hD,a8,.nil,W,W,O⟩) ?_ ?_⟩
   rotate_left
   ·rintro D i u r ac H4 tt hu ⟨mh,sm,ie,nk,w1,w2,rfl⟩ Ai;let⟨row,rg,ra⟩:=Đ pr hu;have hi:=(Ö.mp hu).1;have s5:=È (o:=HO.tup [.int (i:Int),u]) Ai;let⟨a,vs,rfl,ha,Ba⟩:=ra.same ((s3.trans sm).trans s5);have Ib:vs.length=row.length:=(î Ba).symm;have Pj:=kr.wid row (Û rg);have Id:=Û rg;have xm:=(sm.trans s5) _ _ jg;have Lb:=cX m n;obtain⟨ri,Um⟩:∃ ri,(aO m n)[i]?=Y ri:=⟨_,þ Fn⟩;have Yz:=IB Um rg;have Bw:r.length=((fU m (aO m n)).take i).length:=by rw[<- î nk,Ê]
    show(bU tt _ O ⟨Í a8,O,(bU _ _ O (bU _ _ O ⟨O,?_⟩))⟩);show iJ ?_;generalize upd H4 tt (.tup [.int (i:Int),.ref a])=H5 at s5 ha Ba xm ⊢;show⟨_,O,_,O,.inl ⟨rl,_,(i:Int),lG ri,O,O,É xm,hU (by rw[Ø,Um];rfl),?_⟩⟩;show⟨_,O,a,O,⟨_,É ha⟩,hJ (K:=K) (a:=a) (xs:=vs) (λ D2 j r2 ac H'=>H5 D2=W/\aE H5 H'/\H' D2=Y (.lst r2)/\r2=((row.take j).map λ q=>(aO m n).getD q.1 0).map lG/\∃ x y,ac=[x,y,Y (.ref rl)])
     (λ D2 j r2 ac H' p=>É (p.2.1 _ _ ha)) (λ D2 tm=>⟨tm,È tm,a8,O,W,W,O⟩) ?_ ?_⟩
    rotate_left
    ·rintro D2 j y r2 ac H6 hy xK;let⟨tm,il,nt,rfl,v1,v3,rfl⟩:=xK;let⟨p,hp,q,rfl,qq⟩:=Đ Ba hy;have hj:=(Ö.mp hy).1;have kz:=kr.lt row Id p (Û hp);obtain⟨rp,Ie⟩:∃ rp,(aO m n)[p.1]?=Y rp:=⟨_,þ Fn⟩;show(bU q _ O ⟨il.tup qq,O,(bU _ _ O (bU _ _ O ⟨O,?_⟩))⟩);show iJ ⟨_,O,_,O,.inl ⟨rl,_,(p.1:Int),lG rp,O,O,É (il _ _ xm),hU (by rw[Ø,Ie];rfl),nt,dH (by rw[Ê,Ê,ß];lia),tm,il.put tm,a8,?_,_,_,O⟩⟩;rw[aY hp,Ó,Ó,List.map_singleton,List.map_singleton,Ė,Ie];rfl
    ·rintro D2 r2 ac H6 xK;let⟨tm,il,nt,rfl,_⟩:=xK;rw[Ib,æ]at nt;show(bU D2 _ O (.inl ⟨É nt,λ tp qg=>⟨(sz0 2),λ t2 wy=>?_⟩⟩));have s7:=È (o:=HO.tup ((row.map λ q=>(aO m n).getD q.1 0).map lG)) qg;have s8:=È (o:=HO.tup [lG ri,.ref tp]) wy;have g8:upd (upd H6 tp (.tup ((row.map λ q=>(aO m n).getD q.1 0).map lG))) t2 (.tup [lG ri,.ref tp]) D=Y (.lst r):=s8 _ _ (s7 _ _ (il _ _ (s5 _ _ ie)));have k1:aP K (upd (upd H6 tp (.tup ((row.map λ q=>(aO m n).getD q.1 0).map lG))) t2 (.tup [lG ri,.ref tp])) t2 [lG ri,.ref tp]:=Í a8;have k2:aP K (upd (upd H6 tp (.tup ((row.map λ q=>(aO m n).getD q.1 0).map lG))) t2 (.tup [lG ri,.ref tp])) tp ((row.map λ q=>(aO m n).getD q.1 0).map lG):=s8.tup (Í a8);have zp:=s7.trans s8;generalize upd (upd H6 tp (.tup ((row.map λ q=>(aO m n).getD q.1 0).map lG))) t2 (.tup [lG ri,.ref tp])=H8 at zp g8 k1 k2 ⊢;have b9:bD K H8 (upd H8 D (.lst (r++[.ref t2]))):=è (t:=D) Ú (by rw[g8];show trivial);show⟨g8,dH (by rw[Bw,ß,jL (cX m n)];lia),mh,(((sm.trans s5).trans il).trans zp).put mh,a8,?_,_,_,O⟩;rw[aY Yz,Ó];show Ę (ë nk λ _ _ h=>h.mono (((s5.trans il).trans zp).ts.trans b9)) (PZ (z:=(ri,row.map λ q=>(aO m n).getD q.1 0)) (b9 _ _ k1) (b9 _ _ k2) (by rw[Ê];show Pj))
   ·rintro D r ac H4 xK;let⟨mh,sm,ie,nk,_⟩:=xK;rw[Ah,<- jL (cX m n),æ] at nk;show⟨D,r,_,_,O,ie,nk,by rw[Ê,jL (cX m n)];show hm,λ fl H5 s5 mm zo=>?_⟩;have e1:fJ ((fU m (aO m n)).map CL)=aO m (n+1):=pJ λ a _ b _ e=>MT e;rw[e1] at mm;have xm:=(sm.trans s5) _ _ jg;show⟨_,O,_,O,fl,rl,(aO m (n+1)).map λ (n:Nat)=>(n:Int),(aO m n).map λ (n:Nat)=>(n:Int),O,O,É (by rw[ĉ];show mm),É (by rw[ĉ];show xm),by rw[Ê,Ê,cX,cX],_,O,?_⟩;show i9 (λ hT=>?_) λ hN=>?_
    ·have hT:aO m (n+1)=aO m n:=(ņ λ(x y:Nat) (e:(x:Int)=(y:Int))=>by lia).mp (ć hT);show(bA _ O ?_);show k n rl H5 ((s3.trans sm).trans s5) xm hT tj
    ·have hN:aO m (n+1)≠aO m n:=λ z=>hN (ð (by rw[z]));show(bA _ O ?_);show⟨(s3.trans sm).trans s5,fl,_,mm,hN,(s3.trans sm).free zo,O⟩
section
variable {ae:Type}{dD:ae->L2.D}{ir:ae->Int->ae}{fin:ae->Int->Bool}{gm ik:Nat}
theorem rE (hf:∀ d a,fin d a=Eh):∀(l:Nat) (a:Int) (fs:Fs ae) (row:List Int) (f:Fs ae),wH dD ir fin ik d r l a fs≠.ends row f
 |0,a,fs,row,f=>by intro h;cases h
 |l+1,a,fs,row,f=>by
  cases hv:(fB dD fs (dD (ir d a))).isSome with
  |true=>rw[tH (hf d a) hv];show rE hf l _ _ _ _
  |false=>
   by_cases hl:ik<=fs.length
   ·rw[pZ (hf d a) hv hl];intro h;cases h
   ·rw[tI (hf d a) hv Fn];show rE hf l _ _ _ _
theorem wE (hf:∀ d a,fin d a=Eh):∀(n p:Nat) (fs:Fs ae) (row:List Int) (f:Fs ae),mI dD ir fin gm ik n p fs≠.ends row f
 |0,p,fs,row,f=>by intro h;cases h
 |n+1,p,fs,row,f=>by
  rw[mI];cases hd:fs[p]? with
  |none=>intro h;cases h
  |some d=>
   dsimp only;cases hb:wH dD ir fin ik d.1 ((fB dD fs (dD d.1)).getD []) (gm+1) 0 fs with
   |many=>intro h;cases h
   |ends row f=>show absurd hb (rE hf _ _ _ _ _)
   |on fs1=>show wE hf n _ _ _ _
theorem rF :∀(l:Nat) (a:Int) (fs jz:Fs ae),(fs.map λ q=>dD q.1).Nodup->wH dD ir fin ik d r l a fs=.on jz->(jz.map λ q=>dD q.1).Nodup
 |0,a,fs,jz,hn,h=>by cases h;show hn
 |l+1,a,fs,jz,hn,h=>by
  cases hf:fin d a with
  |true=>rw[AD hf]at h;cases h
  |false=>
   cases hv:(fB dD fs (dD (ir d a))).isSome with
   |true=>rw[tH hf hv]at h;show rF l _ _ _ hn h
   |false=>
    by_cases hl:ik<=fs.length
    ·rw[pZ hf hv hl]at h;cases h
    ·rw[tI hf hv Fn]at h;show rF l _ _ _ ?_ h;rw[Ó,Ň];show⟨hn,G0,λ x hx y hy e=>?_⟩;let⟨q,hq,rfl⟩:=å.mp hx;have hy:y=dD (ir d a):=by simpa using hy
     have:=lH (dD:=dD) (d:=q.1) (r:=q.2) hq;rw[e,hy,hv]at this;cases this
theorem wF:∀(n p:Nat) (fs jz:Fs ae),(fs.map λ q=>dD q.1).Nodup->mI dD ir fin gm ik n p fs=.on jz->(jz.map λ q=>dD q.1).Nodup
 |0,p,fs,jz,hn,h=>by cases h;show hn
 |n+1,p,fs,jz,hn,h=>by
  rw[mI]at h;cases hd:fs[p]? with
  |none=>rw[hd]at h;cases h;show hn
  |some d=>
   rw[hd]at h;dsimp only at h;cases hb:wH dD ir fin ik d.1 ((fB dD fs (dD d.1)).getD []) (gm+1) 0 fs with
   |many=>rw[hb]at h;cases h
   |ends row f=>rw[hb]at h;cases h
   |on fs1=>rw[hb]at h;show wF n _ _ _ (rF _ _ _ _ hn hb) h
end
abbrev lL (net:Net) (gm:Nat):BRes Sta:=O1 dA (λ s a=>s.nxA net a) (λ _ _=>Eh) gm 200 (oM net)
theorem AW :lL net gm≠.ends row f:=wE (λ _ _=>rfl) _ _ _ _ _
theorem AX  (h:lL net gm=.on fs):(fs.map λ q=>dA q.1).Nodup:=wF _ _ _ _ G0 h
theorem tW  (h:lL net gm=.on fs):∀ q∈fs,∀ a:Nat,a<=gm->∃ q'∈fs,q'.1=q.1.nxA net a:=λ q hq a ha=>by
 have:=((DC FZ h).2 q hq a ha).2;let⟨q',h1,h2⟩:=qE this;show⟨q',h1,AY _ _ h2⟩
def kL (net:Net) (v:Int) (fs:Fs Sta) (s:Sta) (n:Nat):List (Nat×Bool):=(List.range n).map λ(a:Nat)=>(dX (fs.map (·.1)) (s.nxA net a),sG net v s a)
def cG (net:Net) (v:Int) (gm:Nat) (fs:Fs Sta):iX:=fs.map λ q=>kL net v fs q.1 (gm+1)
theorem LL (fs:Fs Sta) (s:Sta):dX (fs.map λ q=>dA q.1) (dA s)=dX (fs.map (·.1)) s:=by
 rw[show(fs.map λ q=>dA q.1)=(fs.map (·.1)).map dA by rw[ĉ];rfl];show uR λ x _ h=>AY _ _ h
theorem IX {ds:List L2.D} (hn:ds.Nodup) (h:ds[n]?=Y d):gR (hV 0 (ds.take n)) d (.int (n:Int))=hV 0 (ds.take (n+1)):=by
 have hl:=(Ö.mp h).1;rw[aY h,nX,uQ]
 ·rw[ß,Ě,Ř Fn]
 ·show nY 0 _ λ z=>?_;let⟨i,hi⟩:=į.1 z;have YA:=(Ö.mp hi).1;rw[ß]at YA;rw[Ŧ Fn]at hi;have e1:=pA hn hi;have e2:=pA hn h;lia
structure TxtL (mg:Str->Option À):Prop where
 g_MOST_STATES:∃ u,mg "MOST_STATES_least" =Y u/\aX (.int 200) u
def zE:Pos:=R1 0 (bG 70)
def OX:Str:=(("whole_machine":Str)++(".<locals>.":Str))++("<lambda>":Str)
def L0 (K:Ç) (Pt:Á) (cM:Á):Sp:=λ vs H Q E=>∃(x:V) (net:Net) (v:Int) (gm:Nat),vs=[x,.int v,.int gm]/\Is K H (cJ net) x/\NetOk net/\gm<=1000/\dU H Pt zE OX/\
 (lL net gm=.many->∀ H',SmT Pt zE OX H H'->E (.ref cM) W H')/\
 (∀ fs,lL net gm=.on fs->∀ ml H',SmT Pt zE OX H H'->rJ K H' ml (cG net v gm fs)->H ml=W->fs.length<=200->Q (.ref ml) H')
theorem jN:FnScope ["net","watched","most","row","states","places","machine","state","told"] ["net","watched","most"] (aH (bG 70)):={}
theorem qQ (F:Fun K "whole_machine" "whole_machine" (bG 70) f fd) (T:Txt mg) (kh:fd.code=.ref c) (jf:NestB mg base c Pt) (U:TxtL mg)
  (ii:Callee P w K mg base "first_state" ["net"] 1 (oP K) f2 js)
  (ka:Callee P w K mg base "watch" ["net","state","vessel","amount"] 5 (sR K) f3 nj) (gw:CalleeS P w K mg base "go_through" ["first","step","most","limit"] 7 (xB P w K mg base gq dA) f4 ze) :
  FnOk P w K mg base (mL P w) 8 f fd ["net","watched","most"] (L0 K Pt gq):=by
 show Fun.okRC F kh jN (λ vs H Q E h=>?_) (λ A outer s H vs Q E hr h L=>?_)
 ·let⟨x,net,v,gm,rfl,_⟩:=h;rfl
 ·let⟨x,net,v,gm,rfl,hx,nok,hm,tab,kM,kO⟩:=h;have sc:=jN;show⟨_,(aA (bP (uW gw.ok (hr.mono FZ) O gw.mg gw.kp gw.bd (jA L) O O (λ _=>O) (a7 (cA ii hr (a7 (pv 0) a9)) (a7 (LU O O O jf) (a7 (pv 2) (a7 (dS O U.g_MOST_STATES) a9))))) (aM (K:=K) (n:=2) O O (aB (gL 3 sc.nd) (aB (gL 4 sc.nd) aL))))
   (aA (p7 λ pn=>(iN (i:=5) sc.nd O (Or.inr O) (PD (P:=P) (w:=w) (K:=K) O O O hr.units (λ _ _ h=>h) O (LcOk.mk (N':=["place","state"]) (fr:=[W,W]) O trivial O O O O O trivial) (iO (K:=K) O O T.b_enumerate (a7 (pv 4) a9)) (λ _ _ _=>(aM (K:=K) (n:=2) O O (aB (gC 0 ["place","state"]) (aB (gC 1 ["place","state"]) aL)))) (λ _ _ _=>c9) (λ _ _ _=>(pv 1)) (λ _ _ _=>(pv 0)))))
   (aA (pL 6 sc.nd (bC a9))
   (aA (p7 λ pn=>(dB ò O (cP (K:=K) O (pv 4)) (pD (i:=7) sc.nd O (Or.inr O)) (aA (gS (i:=8) sc.nd O O (λ _ _ h=>h) O (LcOk.mk (N':=["amount","net","state","watched"]) (fr:=[W,Y 0,Y 7,Y 1]) O ⟨O,O,O,trivial⟩ O O O O O ⟨⟨_,O,O,O,O⟩,⟨_,O,O,O,O⟩,⟨_,O,O,O,O⟩,trivial⟩) (eF O T.b_range (a7 (aW cF (pv 2) aD) a9)) (λ _ _ _=>(gC 0 ["amount","net","state","watched"])) (λ _ _ _=>c9) (λ _ _ _=>(cA ka hr (a7 (pv 1) (a7 (pv 2) (a7 (pv 3) (a7 (pv 0) a9)))))))
   (aF (bH (dC (K:=K) O ì ô õ bL (pv 6) (a7 (fQ (λ _ _ h=>h) O (LcOk.mk (N':=["behind","tips","places"]) (fr:=[W,W,Y 5]) O ⟨O,trivial⟩ O O O O O ⟨⟨_,O,O,O,O⟩,trivial⟩) (cP (K:=K) O (pv 8)) (λ _ _ _=>(aM (K:=K) (n:=2) O O (aB (gC 0 ["behind","tips","places"]) (aB (gC 1 ["behind","tips","places"]) aL)))) (λ _ _ _=>c9) (λ _ _ _=>(aQ (a7 (BS (MW (P:=P) (w:=w) (K:=K) O O O hr.units) (pv 2) (pv 0) (λ _ _=>O)) (a7 (pv 1) a9))))) a9)))))))
   (aF (aK (pv 6))))))),?_⟩
  show(bA _ O (bU x net O ⟨hx,nok,λ st H1 s1 vn=>⟨tab.same s1,λ fa ca oc mf H2 La bt re Hs pq=>(bA _ O (λ Hv cf=>?_))⟩⟩));have sT:SmT Pt zE OX H H2:=(dU.of tab s1).trans ⟨bt,tab.same s1,re⟩;have cN:(jZ (mL P w) P w K mg base ["net","watched","most","row","states","places","machine","state","told"] "whole_machine" (aH (bG 70)) f (.ref c) A outer s H E).env.cells.lookup ("net":Str)=Y (s.heap.objs.size+1):=rfl;have cW:(jZ (mL P w) P w K mg base ["net","watched","most","row","states","places","machine","state","told"] "whole_machine" (aH (bG 70)) f (.ref c) A outer s H E).env.cells.lookup ("watched":Str)=Y (s.heap.objs.size+1+1):=rfl;show⟨λ s a=>s.nxA net a,λ _ _=>Eh,qC net,λ H=>Is K H (cJ net) x,L7 net,st,fa,ca,_,oc,[("watched",s.heap.objs.size+1+1),("net",s.heap.objs.size+1)],gm,200,oM net,O,FZ,FZ,hm,?_,sQ net,⟨λ d a h _=>vH nok h a,λ d h H v e=>zY h e,λ H H' t h=>Ì t _ _ h⟩,Ì sT.ts _ _ hx,Hs,⟨_,_,_,_,O⟩,?_,?_,?_,?_,?_⟩
  ·show Ì (SmT.ts ⟨bt,tab.same s1,re⟩) _ _ vn
  ·have two:∀(y:Str) (c:Á),List.lookup y [(("watched":Str),s.heap.objs.size+1+1),(("net":Str),s.heap.objs.size+1)]=Y c->(y="watched" /\ c=s.heap.objs.size+1+1)\/(y="net" /\ c=s.heap.objs.size+1):=λ y c h=>by
    have:=ó h;rcases Ò.1 this with z|z
    ·injection z with z1 z2;show .inl ⟨z1,z2⟩
    ·rw[ù]at z;injection z with z1 z2;show .inr ⟨z1,z2⟩
   show CK (N:=["state","amount","net","watched"]) (ps:=["state","amount"]) (fv:=[x,.int v]) ⟨O,O,O,FY,O,FY,FY,?_,?_⟩ ?_ O pq ?_ ?_ ?_ ?_
   ·intro y hy;have:=ó hy;simp only[Ò,ag7,reduceCtorEq,and_false,and_true,false_or,or_false,Ĝ]at this;rcases this with rfl|rfl
    ·show⟨_,O⟩
    ·show⟨_,O⟩
   ·show List.Pairwise.cons (λ y hy=>?_) (ae4 _ _);rw[ù]at hy;subst hy;change s.heap.objs.size+1+1≠s.heap.objs.size+1;lia
   ·rintro vs H' Q' xK;let⟨x',d,a,rfl,_⟩:=xK;rfl
   ·intro us yt;obtain⟨u1,u2,rfl⟩:∃ u1 u2,us=[u1,u2]:=by
     match us,yt with
     |[u1,u2],_=>show⟨u1,u2,O⟩
    rfl
   ·intro y c' h;rcases two y c' h with⟨rfl,rfl⟩|⟨rfl,rfl⟩
    ·show cf.cell _ _ cW
    ·show cf.cell _ _ cN
   ·intro i y u h1 h2
    match i,h1,h2 with
    |0,h1,h2=>
     cases h1;cases h2;let⟨c',u,h3,h4,h5⟩:=cf.val 0 "net" x rfl rfl rfl;rw[cN]at h3;cases h3;show⟨O,(bU _ u O ⟨h4,h5⟩)⟩
    |1,h1,h2=>
     cases h1;cases h2;let⟨c',u,h3,h4,h5⟩:=cf.val 1 "watched" (.int v) rfl rfl rfl;rw[cW]at h3;cases h3;show⟨O,(bU _ u O ⟨h4,h5⟩)⟩
    |i+2,h1,h2=>simp at h2
   ·rintro A' zn s' H' vs Q' Ae xK;let⟨y,d,a,rfl,hy,Ay,ha,hG,kk⟩:=xK;show⟨_,aQ (a7 (BS (GG (K:=K) O) (cA ka Ae (a7 (pv 2) (a7 (pv 0) (a7 (pv 3) (a7 (pv 1) a9))))) aD (λ _ _=>O)) (a7 eI a9)),?_⟩;show(bA _ O (bA _ O (bA _ O (bA _ O (eA6 x y net d v a O ⟨hG,hy,nok,Ay,λ p b lg ve q1 q2=>?_⟩)))));show .inr (.inl ⟨p,_,0,_,O,O,q1,O,(sz0 2),λ tp qg=>?_⟩);have s3:=È (o:=HO.tup [b,.bl Eh]) qg;show kk tp b _ (ve.trans s3) (Í a8) (Ì s3.ts _ _ q2)
  ·intro c' sr;have wn:c'=s.heap.objs.size+1+1\/c'=s.heap.objs.size+1:=by simpa using sr
   rcases wn with rfl|rfl
   ·let⟨h1,h2,h3⟩:=cf.out _ _ cW;let⟨u,o,h4,_⟩:=cf.cell _ _ cW;show⟨h1,h2,h3,o,h4⟩
   ·let⟨h1,h2,h3⟩:=cf.out _ _ cN;let⟨u,o,h4,_⟩:=cf.cell _ _ cN;show⟨h1,h2,h3,o,h4⟩
  ·intro row fs e;show absurd e AW
  ·intro e H3 s3;show kM e H3 (sT.step s3)
  ·intro fs e p fl us H3 s3 qp mm zo pr Hw gr;have e:lL net gm=.on fs:=e;have Bb:=AX e;have Mq:=tW e;have Ah:us.length=fs.length:=(î pr).symm;have Pk:=sT.step s3;have Ig:=Ì Pk.ts _ _ hx;show⟨p,_,O,qp,O,_,_,O,_,_,O,O,?_⟩;show⟨_,O,Eh,fl,O,⟨_,É mm⟩,NX (K:=K) (P:=P) (w:=w) (t:=Eh) (a:=fl) (xs:=us) (λ D i ac H'=>H3 D=W/\aE H3 H'/\cC P w K H' D (L7 net) (hV 0 ((fs.map λ q=>dA q.1).take i))/\∃ u1 u2,ac=[u1,u2])
    (λ D i ac H' p=>É (p.2.1 _ _ mm)) (λ D hD=>⟨hD,È hD,cC.new a8,W,W,O⟩) ?_ ?_⟩
   rotate_left
   ·rintro D i u ac H4 tt hu ⟨mh,sm,dd,w1,w2,rfl⟩ Ai;let⟨q,hq,kq⟩:=Đ pr hu;have hi:=(Ö.mp hu).1;have s5:=È (o:=HO.tup [.int (i:Int),u]) Ai;show(bU tt _ O ⟨Í a8,O,(bU _ _ O (bU _ _ O ⟨O,?_⟩))⟩);show iJ ⟨_,O,_,O,L7 net,_,dA q.1,dd.same s5,kq.mono (sm.trans s5).ts,dH (by rw[mV,ß,Ê];lia),λ H7 b7 d7=>?_⟩;show⟨mh,λ b o e=>b7 b o (aI e mh) ((sm.trans s5) b o e),?_,_,_,O⟩;rw[IX Bb (by rw[Ø,hq];rfl)]at d7;show d7
   rintro sd ac H4 xK;let⟨Hl,s4,dd,_⟩:=xK;rw[Ah,show fs.length=(fs.map λ q=>dA q.1).length by rw[Ê],æ]at dd;show⟨à _,λ ml yh=>?_⟩;have s5:=È (o:=HO.lst []) yh;have g5:upd H4 ml (.lst []) ml=Y (.lst []):=a8;have Ih:H3 ml=none:=s4.free yh;have YB:sd≠ml:=λ z=>by let⟨o,e⟩:=dd.some;rw[z,yh]at e;cases e
   have Uo:=dd.same s5;have zq:=s4.trans s5;generalize upd H4 ml (.lst [])=H5 at s5 g5 Uo zq ⊢;show⟨_,O,fl,O,⟨_,É (zq _ _ mm)⟩,JF (K:=K) (a:=fl) (xs:=us) (λ j ac H'=>aE H3 H'/\cC P w K H' sd (L7 net) (hV 0 (fs.map λ q=>dA q.1))/\(∃ ms,H' ml=Y (.lst ms)/\Paired (λ row u=>∃ a,u=.ref a/\a≠ml/\wG K H' row u) ((cG net v gm fs).take j) ms)/\
    ∃ v7 v8,ac=[Y x,Y (.int v),Y (.int gm),Y .non,Y (.ref fl),Y (.ref sd),Y (.ref ml),v7,v8]) ?_ ?_ ?_ ?_⟩
   ·show⟨zq,Uo,⟨[],g5,.nil⟩,_,_,O⟩
   ·rintro i ac H' _ ⟨s6,_⟩;show É (s6 _ _ mm)
   ·rintro DD j - wt u ac H6 hu ⟨s6,Pn,⟨ms,Lc,Ii⟩,v7,v8,rfl⟩;let⟨q,hq,kq⟩:=Đ pr hu;have Up:=Û hq;have Uq:=Hw q Up;have hj:=(Ö.mp hu).1;have YC:ms.length<=fs.length:=by rw[<- î Ii,ß];unfold cG;rw[Ê];lia
    dsimp only[eJ,nE];show(bA _ O (bU _ _ O ⟨O,(bA _ O ⟨Fn,Fn,?_⟩)⟩));rw[show((gm:Int)+1).toNat=gm+1 by lia];show pP (n:=gm+1) (λ D i r ac H'=>H6 D=W/\aE H6 H'/\H' D=Y (.lst r)/\Paired (λ(a:Nat) y=>∃ p b,y=.ref p/\aP K H' p [b,.bl (sG net v q.1 a)]/\Is K H' (dA (q.1.nxA net a)) b) (List.range i) r/\∃ u1,ac=[u1,Y x,Y u,Y (.int v)]) (λ D hD=>⟨hD,È hD,a8,.nil,W,O⟩) ?_ ?_;rotate_left
    ·rintro D i r ac H7 hi xK;let⟨mh,sm,ie,nk,w1,rfl⟩:=xK;have jg:r.length=i:=by rw[<- î nk,ė]
     show cZ ?_;show(bA _ O (bA _ O (bA _ O (bA _ O ⟨x,u,net,q.1,(bU v i O ⟨Ì (s6.trans sm).ts _ _ Ig,(kq.mono (s6.trans sm).ts).is,nok,Uq,λ pp b H8 s8 q8 i8=>?_⟩)⟩))));have Ur:=s8 _ _ ie;have t9:bD K H8 (upd H8 D (.lst (r++[.ref pp]))):=è (t:=D) Ú (by rw[Ur];show trivial);show⟨Ur,dH Fn,mh,(sm.trans s8).put mh,a8,?_,_,O⟩;rw[Ţ];show Ę (ë nk λ a y ⟨p,b,h1,h2,h3⟩=>⟨p,b,h1,(s8.ts.trans t9) _ _ h2,Ì (s8.ts.trans t9) _ _ h3⟩) (bU pp b O ⟨t9 _ _ q8,Ì t9 _ _ i8⟩)
    rintro D r ac H7 xK;let⟨mh,sm,ie,nk,_⟩:=xK;have jg:r.length=gm+1:=by rw[<- î nk,ė]
    have Dw:=sm _ _ Lc;have nDm:D≠ml:=λ z=>by rw[z,Lc]at mh;cases mh
    show⟨_,O,.inl ⟨O,_,É Dw⟩,_,O,D,O,⟨_,É ie⟩,hJ (K:=K) (a:=D) (xs:=r) (λ D2 i r2 ac H'=>H7 D2=W/\aE H7 H'/\H' D2=Y (.lst r2)/\Paired (λ(p:Nat×Bool) y=>∃ q,y=.ref q/\aP K H' q [lG p.1,.bl p.2]) (kL net v fs q.1 i) r2/\∃ u1 u2,ac=[u1,u2,Y (.ref sd)])
     (λ D2 i r2 ac H' p=>É (p.2.1 _ _ ie)) (λ D2 tm=>⟨tm,È tm,a8,.nil,W,W,O⟩) ?_ ?_⟩
    rotate_left
    ·rintro D2 i y r2 ac H8 hy xK;let⟨nv,il,wg,pi,w1,w2,rfl⟩:=xK;let⟨a,ha,pp,b,rfl,qp,ib⟩:=Đ nk hy;have hi:=(Ö.mp hy).1;have ea:a=i:=by rw[af7 Fn]at ha;show(ç ha).symm
     subst ea;have rh:r2.length=a:=by rw[<- î pi];unfold kL;rw[Ê,ė]
     let⟨q',Po,su⟩:=Mq q Up a Fn;have YD:dA (q.1.nxA net a)∈fs.map λ q=>dA q.1:=å.mpr ⟨q',Po,by rw[su]⟩;show(bU pp _ O ⟨il.tup qp,O,(bU _ _ O (bU _ _ O ⟨O,?_⟩))⟩);show iJ (bA _ O (bA _ O ⟨sd,L7 net,_,dA (q.1.nxA net a),(bA _ O ⟨Pn.same (sm.trans il),zY (vH nok Uq a) (Ì il.ts _ _ ib),mU 0 _ YD,(bA _ O ⟨(sz0 2),λ t2 wy=>?_⟩)⟩)⟩));rw[LL,Ě];have s9:=È (o:=HO.tup [lG (dX (fs.map (·.1)) (q.1.nxA net a)),.bl (sG net v q.1 a)]) wy;have Ij:=s9 _ _ wg;have t9:bD K (upd H8 t2 (.tup [lG (dX (fs.map (·.1)) (q.1.nxA net a)),.bl (sG net v q.1 a)])) (upd (upd H8 t2 (.tup [lG (dX (fs.map (·.1)) (q.1.nxA net a)),.bl (sG net v q.1 a)])) D2 (.lst (r2++[.ref t2]))):=è (t:=D2) Ú (by rw[Ij];show trivial);show⟨Ij,dH Fn,nv,(il.trans s9).put nv,a8,?_,_,_,O⟩;have em:kL net v fs q.1 (a+1)=kL net v fs q.1 a++[(dX (fs.map (·.1)) (q.1.nxA net a),sG net v q.1 a)]:=by unfold kL;rw[Ţ,Ó];rfl
     rw[em];show Ę (ë pi λ _ _ ⟨z,h1,h2⟩=>⟨z,h1,(s9.ts.trans t9) _ _ h2⟩) (bA t2 O (t9 _ _ (Í a8)))
    ·rintro D2 r2 ac H8 xK;let⟨nv,il,wg,pi,_⟩:=xK;rw[jg]at pi;have Ik:=il _ _ Dw;show(NN ml ms _ O ⟨O,Ik,dH Fn,?_⟩);have b9:bS ml H8 (upd H8 ml (.lst (ms++[.ref D2]))):=Ú;have Ho:iI (H8 ml):=by rw[Ik];show trivial
     have t9:=b9.ts (K:=K) Ho;have Il:D2≠ml:=λ z=>by rw[z,Dw]at nv;cases nv
     have zp:=(s6.trans sm).trans il;show wt _ _ ⟨λ b o e=>b9 b o (aI e Ih) (zp b o e),(Pn.same (sm.trans il)).mono t9 (λ o e=>b9 _ _ YB e),⟨_,a8,?_⟩,_,_,O⟩;rw[aY (xs:=cG net v gm fs) (by unfold cG;rw[Ø,hq];rfl)];show Ę (ë Ii λ row u ⟨a,h1,h2,h3⟩=>⟨a,h1,h2,?_⟩) ⟨D2,O,Il,D2,r2,O,b9 _ _ Il wg,ë pi λ _ _ ⟨z,h4,h5⟩=>⟨z,h4,t9 _ _ h5⟩⟩;let⟨a',vs,h4,h5,h6⟩:=h3.same (sm.trans il);rw[h1]at h4;cases h4;show⟨a,vs,h1,b9 _ _ h2 h5,ë h6 λ _ _ ⟨z,h7,h8⟩=>⟨z,h7,t9 _ _ h8⟩⟩
   ·
    rintro ac H6 xK;let⟨s6,Pn,⟨ms,Lc,Ii⟩,v7,v8,rfl⟩:=xK;show(bA _ O ?_);rw[Ah,show fs.length=(cG net v gm fs).length by unfold cG;rw[Ê],æ]at Ii;show kO fs e ml H6 (Pk.step s6) ⟨ms,Lc,ë Ii λ _ _ ⟨_,_,_,h⟩=>h⟩ (Pk.free Ih) gr
structure Tabs3 (H:Hp) (Pa Pm Ps:Á):Prop where
 a:dU H Pa E8 SE
 l:dU H Pm zE OX
 s:dU H Ps E7 SD
structure Ne3 (Pa Pm Ps:Á):Prop where
 al:Pa≠Pm
 as:Pa≠Ps
 ls:Pm≠Ps
structure SmA (Pa Pm Ps:Á) (H H':Hp):Prop where
 but:∀ b o,b≠Pa->b≠Pm->b≠Ps->H b=Y o->H' b=Y o
 t1:Tabs3 H Pa Pm Ps
 t2:Tabs3 H' Pa Pm Ps
theorem SmT.tab  (h:SmT Pt pos q H H') (n:Pp≠Pt) (t:dU H Pp pos' q'):dU H' Pp pos' q':=by
 rcases t with t|⟨c,oc,vs,tk,h1,h2,h3⟩
 ·show .inl (h.but _ _ n t)
 ·show .inr ⟨c,oc,vs,tk,h.but _ _ n h1,h.get h2 (λ ps z=>by cases z),h3⟩
section
variable {Pa Pm Ps:Á}{H H' lg:Hp}
theorem Tabs3.same (t:Tabs3 H Pa Pm Ps) (s:aE H H'):Tabs3 H' Pa Pm Ps:=⟨t.a.same s,t.l.same s,t.s.same s⟩
theorem Tabs3.of (t:Tabs3 H Pa Pm Ps) (s:aE H H'):SmA Pa Pm Ps H H':=⟨λ b o _ _ _ e=>s b o e,t,t.same s⟩
theorem SmA.trans (a:SmA Pa Pm Ps H H') (b:SmA Pa Pm Ps H' lg):SmA Pa Pm Ps H lg:=⟨λ c o n1 n2 n3 e=>b.but c o n1 n2 n3 (a.but c o n1 n2 n3 e),a.t1,b.t2⟩
theorem SmA.step (a:SmA Pa Pm Ps H H') (s:aE H' lg):SmA Pa Pm Ps H lg:=a.trans (a.t2.of s)
theorem SmA.get (a:SmA Pa Pm Ps H H') (e:H b=Y o) (hn:∀ ps,o≠.tbl ps):H' b=Y o:=by
 have key:∀ {Pt:Á}{pos:Pos}{q:Str},dU H Pt pos q->b≠Pt:=λ t z=>by
  let⟨ps,h⟩:=t.some;rw[z,h]at e;show hn ps (ç e).symm
 show a.but b o (key a.t1.a) (key a.t1.l) (key a.t1.s) e
theorem SmA.ts  (a:SmA Pa Pm Ps H H'):bD K H H':=λ b xs h=>by
 rcases h with(h|⟨o,h⟩)|h
 ·show .inl (.inl (a.get h λ ps z=>by cases z))
 ·show .inl (.inr ⟨o,a.get h λ ps z=>by cases z⟩)
 ·show .inr h
theorem SmA.ofA (h:SmT Pa E8 SE H H') (t:Tabs3 H Pa Pm Ps) (n:Ne3 Pa Pm Ps):SmA Pa Pm Ps H H':=⟨λ b o n1 _ _ e=>h.but b o n1 e,t,h.t2,h.tab (Ne.symm n.al) t.l,h.tab (Ne.symm n.as) t.s⟩
theorem SmA.ofL (h:SmT Pm zE OX H H') (t:Tabs3 H Pa Pm Ps) (n:Ne3 Pa Pm Ps):SmA Pa Pm Ps H H':=⟨λ b o _ n1 _ e=>h.but b o n1 e,t,h.tab n.al t.a,h.t2,h.tab (Ne.symm n.ls) t.s⟩
theorem SmA.ofS (h:SmT Ps E7 SD H H') (t:Tabs3 H Pa Pm Ps) (n:Ne3 Pa Pm Ps):SmA Pa Pm Ps H H':=⟨λ b o _ _ n1 e=>h.but b o n1 e,t,h.tab n.as t.a,h.tab n.ls t.l,h.t2⟩
end
def vN (m:iX) (rs:List Nat) (i:Nat):List (Nat×Bool):=(m.getD i []).map λ p=>(rs.getD p.1 0,p.2)
def gJ (m:iX) (rs:List Nat):iX:=(List.range (bB rs).length).map λ r=>vN m rs (dX rs r)
theorem PU  (hd:fJ ds=ds) (h1:M∈ds.map λ(n:Nat)=>(n:Int)) (h2:∀ a∈ds.map λ(n:Nat)=>(n:Int),a<=M):M+1=((bB ds).length:Int):=by
 let⟨x,hx,rfl⟩:=å.mp h1;have rq:x∈fJ ds:=by rw[hd];show hx
 unfold fJ at rq;let⟨d,YE,e⟩:=å.mp rq;have jh:=p8 (dQ.mpr YE);have Dn:0 < (bB ds).length:=by lia
 obtain⟨z,hz⟩:∃ z,(bB ds)[(bB ds).length - 1]?=Y z:=⟨_,þ Fn⟩;have Pq:=pA (iZ ds) hz;have Hy:z∈ds:=dQ.mp (Û hz);have si:dX (bB ds) z∈fJ ds:=İ Hy;rw[hd]at si;have:=h2 _ (İ (f:=λ(n:Nat)=>(n:Int)) si);rw[Pq]at this;lia
theorem GC  (hd:fJ ds=ds) (h:r < (bB ds).length):r∈ds:=by
 obtain⟨z,hz⟩:∃ z,(bB ds)[r]?=Y z:=⟨_,þ h⟩;have Pq:=pA (iZ ds) hz;have Hy:z∈ds:=dQ.mp (Û hz);have si:dX (bB ds) z∈fJ ds:=İ Hy;rw[hd,Pq]at si;show si
theorem uS {ae:Type}{d:ae}:∀ {xs:List ae}{i:Nat}{z:ae},i < dX xs d->xs[i]?=Y z->z≠d
 |[],i,z,h,_=>absurd h (ag1 _)
 |x::xs,i,z,h,e=>by
  by_cases c:x=d
  ·rw[dX,Å c]at h;show absurd h (ag1 _)
  ·rw[dX,Ä c]at h;cases i with
   |zero=>cases e;show c
   |succ i=>show uS (xs:=xs) (i:=i) Fn (by simpa using e)
theorem JG (ns:List Nat):(ns.map lG).all jW=true:=by
 rw[Ē];intro z hz;let⟨n,_,rfl⟩:=å.mp hz;rfl
def QD (H H':Hp) (rl:Á):Prop:=∀ us,H' rl=Y (.lst us)->∀ a,V.ref a∈us->a≠rl/\H a=W
def BC (K:Ç) (Pt:Á) (cM:Á):Sp:=λ vs H Q E=>∃(x:V) (net:Net) (v:Int) (gm:Nat),vs=[x,.int v,.int gm]/\Is K H (cJ net) x/\NetOk net/\gm<=1000/\dU H Pt zE OX/\
 (lL net gm=.many->∀ H',SmT Pt zE OX H H'->E (.ref cM) W H')/\
 (∀ fs,lL net gm=.on fs->∀ n rl H',SmT Pt zE OX H H'->jC (cG net v gm fs) (aO (cG net v gm fs) n)=aO (cG net v gm fs) n->rJ K H' rl (gJ (cG net v gm fs) (aO (cG net v gm fs) n))->QD H H' rl->H rl=W->fs.length<=200->Q (.ref rl) H')
theorem IZ  (h:lL net gm=.on fs) (hl:fs.length<=200) (hm:gm<=1000):MachOk (cG net v gm fs) (gm+1):=by
 show⟨by unfold cG;rw[Ê];lia,λ row hr=>?_,Fn,λ row hr p hp=>?_⟩
 ·let⟨q,_,rfl⟩:=å.mp hr;unfold kL;rw[Ê,ė]
 ·let⟨q,hq,rfl⟩:=å.mp hr;let⟨a,ha,rfl⟩:=å.mp hp;rw[ĥ]at ha;let⟨q',h1,h2⟩:=tW h q hq a Fn;have:=p8 (xs:=fs.map (·.1)) (d:=q.1.nxA net a) (å.mpr ⟨q',h1,h2⟩);rw[Ê]at this;change dX (fs.map (·.1)) (q.1.nxA net a) < _;unfold cG;rw[Ê];show this
theorem IO (F:Fun K "least" "least" (bG 69) f fd) (T:Txt mg)
  (jd:CalleeR P w K mg base "whole_machine" ["net","watched","most"] 8 (L0 K Pt gq) f2 js) (wj:Callee P w K mg base "rooms_of" ["machine"] 2 (FR K) f3 nj) :
  FnOk P w K mg base (mL P w) 9 f fd ["net","watched","most"] (BC K Pt gq):=by
 show F.okR ["net","watched","most","machine","rooms","firsts"] λ sc gz A outer s H vs Q E hr h L=>?_
 ·let⟨x,net,v,gm,rfl,hx,nok,hm,tab,kM,kO⟩:=h;show⟨_,(aA (iN (i:=3) sc.nd O (Or.inr O) (gH jd.ok (hr.mono FZ) O jd.mg jd.kp jd.bd .nil (jA L) (a7 (pv 0) (a7 (pv 1) (a7 (pv 2) a9)))))
   (aA (iN (i:=4) sc.nd O (Or.inr O) (cA wj hr (a7 (pv 3) a9)))
   (aA (p7 λ pn=>(gS (i:=5) sc.nd O O (λ _ _ h=>h) O (LcOk.mk (N':=["room","rooms"]) (fr:=[W,Y 4]) O ⟨O,trivial⟩ O O O O O ⟨⟨_,O,O,O,O⟩,trivial⟩) (eF O T.b_range (a7 (aW cF (bO (FC (K:=K) O O) O T.b_max afo (a7 (pv 4) a9)) aD) a9)) (λ _ _ _=>(gC 0 ["room","rooms"])) (λ _ _ _=>c9) (λ _ _ _=>(dC (K:=K) O ì PySem.F.slot_list_index PySem.F.type_list_index MG (pv 1) (a7 (pv 0) a9)))))
   (aF (p7 λ pn=>(aK (fQ (λ _ _ h=>h) O (LcOk.mk (N':=["state","rooms","machine"]) (fr:=[W,Y 4,Y 3]) O ⟨O,O,trivial⟩ O O O O O ⟨⟨_,O,O,O,O⟩,⟨_,O,O,O,O⟩,trivial⟩) (cP (K:=K) O (pv 5)) (λ _ _ _=>(gC 0 ["state","rooms","machine"])) (λ _ _ _=>c9) (λ _ _ _=>(fQ (λ _ _ h=>h) O (LcOk.mk (N':=["behind","tips","rooms"]) (fr:=[W,W,Y 1]) O ⟨O,trivial⟩ O O O O O ⟨⟨_,O,O,O,O⟩,trivial⟩) (cP (K:=K) O (px K (pv 2) (pv 0))) (λ _ _ _=>(aM (K:=K) (n:=2) O O (aB (gC 0 ["behind","tips","rooms"]) (aB (gC 1 ["behind","tips","rooms"]) aL)))) (λ _ _ _=>c9) (λ _ _ _=>(aQ (a7 (px K (pv 2) (pv 0)) (a7 (pv 1) a9))))))))))))),?_⟩
  show(bA _ O (bA _ O (bA _ O (JJ x net v gm O ⟨hx,nok,hm,tab,kM,λ fs e ml H1 sT Us fml gr=>?_⟩))));have kr:=IZ (v:=v) e gr hm;show(bA _ O ⟨ml,cG net v gm fs,gm+1,O,Us,kr,λ n rl H2 s2 jg vn tj=>?_⟩);have ln:=cX (cG net v gm fs) n;have nn:=uO (cG net v gm fs) n;have Pr:=λ rl H'=>kO fs e n rl H';let⟨us,yh,pr⟩:=Us.same s2;have lm:=kr.len;have Im:=kr.lt;have Ut:=kr.wid;have Pu:0 < (cG net v gm fs).length:=by
   let⟨q,hq,_⟩:=(DC FZ e).1;unfold cG;rw[Ê];show List.length_pos_of_mem hq
  generalize cG net v gm fs=m at ln nn Pr pr Im Ut vn jg Pu lm;generalize aO m n=rs at ln nn Pr vn jg;have Pw:=sT.step s2;have Ah:us.length=m.length:=(î pr).symm;have vf:(bB rs).length<=rs.length:=iG rs;show⟨_,O,rl,rs.map λ(n:Nat)=>(n:Int),O,É (by rw[ĉ];show jg),by rw[Ê];lia,λ M YF Ld=>?_⟩;have eM:=PU nn YF Ld;show(bU _ _ O ⟨O,(bA _ O ⟨Fn,Fn,?_⟩)⟩);rw[show(M+1).toNat=(bB rs).length by lia];show pP (n:=(bB rs).length) (λ D i r ac H'=>H2 D=W/\aE H2 H'/\H' D=Y (.lst r)/\r=((List.range i).map λ z=>dX rs z).map lG/\∃ u1,ac=[u1,Y (.ref rl)]) (λ D hD=>⟨hD,È hD,a8,O,W,O⟩) ?_ ?_;rotate_left
  ·rintro D i r ac H3 hi xK;let⟨mh,sm,ie,rfl,u1,rfl⟩:=xK;have Le:=GC nn hi;have kz:=p8 Le;show cZ ?_;show⟨_,O,.inl ⟨O,_,É (sm _ _ jg)⟩,_,O,rl,_,.int (i:Int),dX rs i,O,O,sm _ _ jg,O,JG _,by rw[Ê];show kz,λ z hz=>?_,λ j z hj hz=>?_,ie,dH (by rw[Ê,Ê,ė];lia),mh,sm.put mh,a8,?_,_,O⟩
   ·rw[Ø,p9 Le]at hz;cases hz;change GS (.int (i:Int)) (.int (i:Int))=Eg;simp[GS]
   ·rw[Ø]at hz;let⟨y,hy,rfl⟩:=é.mp hz;have:=uS hj hy;change GS (.int (y:Int)) (.int (i:Int))=Eh;simp[GS];lia
   ·rw[Ţ,Ó,Ó];rfl
  rintro fl r ac H3 xK;let⟨zo,s3,mm,rfl,_⟩:=xK;show⟨_,O,fl,O,⟨_,É mm⟩,hJ (K:=K) (a:=fl) (xs:=((List.range (bB rs).length).map λ z=>dX rs z).map lG) (λ D i r ac H'=>H3 D=W/\aE H3 H'/\H' D=Y (.lst r)/\Paired (λ row u=>∃ a,u=.ref a/\(a≠D/\H3 a=W)/\wG K H' row u) ((gJ m rs).take i) r/\∃ u1,ac=[u1,Y (.ref rl),Y (.ref ml)])
   (λ D i r ac H' p=>É (p.2.1 _ _ mm)) (λ D hD=>⟨hD,È hD,a8,.nil,W,O⟩) ?_ ?_⟩
  ·rintro D r ac H4 xK;let⟨mh,sm,ie,nk,_⟩:=xK;rw[Ê,Ê,ė,show(bB rs).length=(gJ m rs).length by unfold gJ;rw[Ê,ė],æ]at nk;show Pr D H4 (Pw.step (s3.trans sm)) vn ⟨r,ie,ë nk λ _ _ ⟨_,_,_,h⟩=>h⟩ (λ us yt a ha=>?_) (Pw.free (s3.free mh)) gr;rw[ie]at yt;cases yt;let⟨j,hj⟩:=į.1 ha;let⟨_,_,b,e,⟨h1,h2⟩,_⟩:=Đ nk hj;cases e;show⟨h1,Pw.free (s3.free h2)⟩
  ·rintro D i y r ac H4 hy xK;let⟨mh,sm,ie,nk,u1,rfl⟩:=xK;rw[Ø,Ø]at hy;let⟨z,hz,rfl⟩:=é.mp hy;let⟨i',wq,rfl⟩:=é.mp hz;have mw:=(Ö.mp wq).1;rw[ė]at mw;have ei:i'=i:=by rw[af7 mw]at wq;show(ç wq).symm
   subst ei;have Le:=GC nn mw;have kz:=p8 Le;have Px:=(s3.trans sm) _ _ jg;obtain⟨row,rg⟩:∃ row,m[dX rs i']?=Y row:=⟨_,þ Fn⟩;have Bx:=Û rg;let⟨u,hu,ra⟩:=Paired.get' pr rg;let⟨a,vs,rfl,ha,Ba⟩:=ra.same (s3.trans sm);have Ib:vs.length=row.length:=(î Ba).symm;have Nu:=Ut row Bx;have Bw:r.length<=(gJ m rs).length:=by rw[<- î nk,ß];lia
   have Lf:(gJ m rs).length=(bB rs).length:=by unfold gJ;rw[Ê,ė]
   show cZ ?_;show⟨_,O,_,O,.inl ⟨ml,us,(dX rs i':Int),.ref a,O,O,É ((s3.trans sm) _ _ yh),hU hu,?_⟩⟩;show⟨a,O,⟨_,É ha⟩,hJ (K:=K) (a:=a) (xs:=vs) (λ D2 j r2 ac H'=>H4 D2=W/\aE H4 H'/\H' D2=Y (.lst r2)/\Paired (λ(p:Nat×Bool) y=>∃ q,y=.ref q/\aP K H' q [lG p.1,.bl p.2]) ((row.take j).map λ p=>(rs.getD p.1 0,p.2)) r2/\∃ u1 u2,ac=[u1,u2,Y (.ref rl)])
    (λ D2 j r2 ac H' p=>É (p.2.1 _ _ ha)) (λ D2 tm=>⟨tm,È tm,a8,.nil,W,W,O⟩) ?_ ?_⟩
   rotate_left
   ·rintro D2 j y r2 ac H5 Hu xK;let⟨nv,il,wg,pi,w1,w2,rfl⟩:=xK;let⟨p,hp,q,rfl,qq⟩:=Đ Ba Hu;have hj:=(Ö.mp Hu).1;have YG:=Im row Bx p (Û hp);obtain⟨rp,Ie⟩:∃ rp,rs[p.1]?=Y rp:=⟨_,þ Fn⟩;have rh:r2.length<=row.length:=by rw[<- î pi,Ê,ß];lia
    show(bU q _ O ⟨il.tup qq,O,(bU _ _ O (bU _ _ O ⟨O,?_⟩))⟩);show iJ ⟨_,O,_,O,.inl ⟨rl,_,(p.1:Int),lG rp,O,O,É (il _ _ Px),hU (by rw[Ø,Ie];rfl),_,O,(sz0 2),λ t2 wy=>?_⟩⟩;have s9:=È (o:=HO.tup [lG rp,.bl p.2]) wy;have Ij:=s9 _ _ wg;have t9:bD K (upd H5 t2 (.tup [lG rp,.bl p.2])) (upd (upd H5 t2 (.tup [lG rp,.bl p.2])) D2 (.lst (r2++[.ref t2]))):=è (t:=D2) Ú (by rw[Ij];show trivial);show⟨Ij,dH (by have:=kr.wd;lia),nv,(il.trans s9).put nv,a8,?_,_,_,O⟩;rw[aY hp,Ó];show Ę (ë pi λ _ _ ⟨z,h1,h2⟩=>⟨z,h1,(s9.ts.trans t9) _ _ h2⟩) (bA t2 O ?_);dsimp only;rw[show(rs.getD p.1 0)=rp by rw[Ė,Ie];rfl];show t9 _ _ (Í a8)
   ·rintro D2 r2 ac H5 xK;let⟨nv,il,wg,pi,_⟩:=xK;rw[Ib,æ]at pi;have Uu:=il _ _ ie;have b9:bS D H5 (upd H5 D (.lst (r++[.ref D2]))):=Ú;have mu:iI (H5 D):=by rw[Uu];show trivial
    have t9:=b9.ts (K:=K) mu;have nD:D2≠D:=λ z=>by rw[z,ie]at nv;cases nv
    show⟨Uu,dH Fn,mh,(sm.trans il).put mh,a8,?_,_,O⟩;rw[aY (xs:=gJ m rs) (x:=vN m rs (dX rs i')) (by unfold gJ;rw[Ø,af7 mw];rfl)];show Ę (ë nk λ row u ⟨a,h1,h2,h3⟩=>⟨a,h1,h2,?_⟩) ⟨D2,O,⟨nD,sm.free nv⟩,D2,r2,O,b9 _ _ nD wg,?_⟩
    ·let⟨a',Ot,h4,h5,h6⟩:=h3.same il;rw[h1]at h4;cases h4;show⟨a,Ot,h1,b9 _ _ h2.1 h5,ë h6 λ _ _ ⟨z,h7,h8⟩=>⟨z,h7,t9 _ _ h8⟩⟩
    ·unfold vN;rw[Ė,rg];show ë pi λ _ _ ⟨z,h4,h5⟩=>⟨z,h4,t9 _ _ h5⟩
end Tw
namespace L2
open PySem PySem.Spec PyProof.Rows TwZ
section
variable {X:Cx}
def U6 (K:Ç) (E:XK) (CT:Á) (k:Nat) (tb ts:TS):TS:=λ D σ H=>tb D σ H/\
 ∀(cls:À) (H':Hp) (ea:Á) (ac:St),E cls W H'->ac.length=k->H' ea=W->PySem.W.exmOne K cls (.ref CT)=Y Eg/\
  ts { nx:=D.nx,rt:=D.rt } ac (upd H' ea (TJ ea cls))
theorem OY {CT:Á}{np Dn pos:Pos}{tb ts:TS} (rc:X.stack=X.env::X.outer) (Ag:X.env.frame=Y X.env.locals)
  (hb:∀(pn:List (Á×Obj)) (xe:À->Â->Prop),iD (mL X.prog X.w) (X.within pn xe) EX->yO (X.within pn xe) body tb)
  (hg:Gl X x) (hm:X.mg x=Y (.ref CT))
  (hs:∀ ea:Á,yO (X.caughtIn ea) (gg::By) ts) (hd:autoParam ((x==("__debug__":Str))=false) _2) :
  PS X (.Try body [.ExceptHandler (Y (.Name x np)) W (gg::By) Dn] [] [] pos) (U6 X.K EX CT X.N.length tb ts):=by
 intro gj s σ H D I h;let⟨h1,h2⟩:=h;show wpAny_Try_except ?_;let XE:À->Â->Prop:=λ e s'=>∃(σ:St) (H:Hp) (s:Â) (ea:Á) (cls a0:À) (H':Hp) (B:Heap),e=.ref ea/\Inv X gj σ H s/\s'.os=s.os/\AllBare s'.gens/\Fly X.prog X.w X.stack H s.heap ea cls a0 H' s'.heap B/\EX cls W H';have Io:iD (mL X.prog X.w) (X.within (X.pn++gj) XE) EX:=by
  intro p2 σ H s e s' J hx;let⟨ea,cls,a0,H',B,rfl,os,bare,F,hE⟩:=hx;show⟨σ,H,s,ea,cls,a0,H',B,O,J.unwithin,os,bare,F,hE⟩
 show ä (hb (X.pn++gj) XE Io [] s σ H D I.within h1) (λ f ah hf=>?_) λ e ah hx=>?_
 ·cases f with
  |next=>
   let⟨ac,H',J,q⟩:=hf;show bF gj ah ac H' D J.unwithin q
  |brk=>let⟨ac,H',J,q⟩:=hf;show⟨ac,H',J.unwithin,q⟩
  |cont=>let⟨ac,H',J,q⟩:=hf;show⟨ac,H',J.unwithin,q⟩
  |ret u=>let⟨v,ac,H',J,r,q⟩:=hf;show⟨v,ac,H',J.unwithin,r,q⟩
 ·let⟨ac,H0,s0,ea,cls,a0,H',B,rfl,J,os,bare,F,hE⟩:=hx;have fr:X.A.frames=Y (X.env::X.outer):=by rw[<- rc];show I.ok.frames
  have again:∀ h',Heap.FlyingW B X.stack ea cls a0 h'->ah.heap.UpToSlots h'->Fly X.prog X.w X.stack H0 s0.heap ea cls a0 H' h' B:=λ h' fl sm=>
   ⟨fl,F.keep,λ b o e n hb=>by
    let⟨sl,e1⟩:=F.slot b o e n hb;let⟨_,o',om,hd⟩:=J.stack.mem hb;rw[e]at om;cases om;let⟨Ej,e2⟩:=sm b _ e1 hd;show⟨Ej,e2⟩,F.free,F.there,F.tups,F.frzs,F.tbls,F.hok⟩
  show wpAny_looks_onW fr Ag (by rw[<- rc];show F.fl) λ aq gc fz=>?_;show wpAny_landsW gc λ bc fg ga=>?_;have F5:=again bc (by rw[rc];show fg) (fz.trans ga);let⟨Af,J5⟩:=J.caught (s':={ ah with heap:=bc }) os bare F5;have gr:ac.length=X.N.length:=J.len;let⟨Py,wz⟩:=h2 cls H' ea ac hE gr Af;show wpAny_handleBy_cons (codeAny_handlers_test (mX (X:=X.caughtIn ea) J5.mark hg hm ?_ hd)) (by intro q;cases q);let⟨ob,Eu,Pz⟩:=fg.there;have YH:PySem.W.Looks (model X.prog X.w) bc (typeOf (.ref ea)) ob.cls:=(PySem.W.Looks.ld Eu).andThen .now;have LT:PySem.W.Looks (model X.prog X.w) bc (typeOf (.ref ea)) cls:=by rw[<- Pz];show YH
  show(PySem.W.exm_one (M:=model X.prog X.w) J5.kIn LT Py).here ?_;show codeAny_handlers_suite (lands_againW fg λ cp YI YJ=>?_);have F6:=again cp (by rw[rc];show YI) ((fz.trans ga).trans YJ);let⟨_,J6⟩:=J.caught (s':={ ah with heap:=cp }) os bare F6;show ä (hs ea gj _ _ _ _ J6.mark wz) (λ f s8 hf=>?_) λ _ _ z=>False.elim z;cases f with
  |next=>
   let⟨bw,H8,J8,q⟩:=hf;show⟨_,_,J8.unmark I.ok,q⟩
  |brk=>let⟨_,_,_,q⟩:=hf;show False.elim q
  |cont=>let⟨_,_,_,q⟩:=hf;show False.elim q
  |ret u=>let⟨v,bw,H8,J8,r,q⟩:=hf;show⟨v,_,_,J8.unmark I.ok,r,q⟩
end
end L2
namespace Tw
open PySem L2
theorem IsL.app :∀ {ds es:List L2.D}{xs ys:List V},L2.IsL K H ds xs->L2.IsL K H es ys->L2.IsL K H (ds++es) (xs++ys)
 |[],_,_,_,h1,h2=>by have:=h1.un0;subst this;show h2
 |d::ds,_,_,_,h1,h2=>by
  let⟨x,r,rfl,h,h1⟩:=h1.un;show .cons h (IsL.app h1 h2)
theorem kF  (h:n<=10000000):n < sizeLine:=by rw[ĕ];lia
def iM (K:Ç):Sp:=λ vs H Q _=>∃(x:V) (net:Net),vs=[x]/\Is K H (cJ net) x/\NetOk net/\∀ p H',aE H H'->Is K H' (jB (fZ net)) (.ref p)->Q (.ref p) H'
theorem sN (F:Fun K "first_moment" "first_moment" (bG 19) f fd) (T:Txt mg)
  (ii:Callee P w K mg base "first_state" ["net"] 1 (oP K) f1 je) (jv:Callee P w K mg base "pouring" ["net","amount"] 1 (mQ K) f2 js):FnOk P w K mg base fX 2 f fd ["net"] (iM K):=by
 show F.ok ["net"] λ sc gz A outer s H vs Q E hr h=>?_
 ·let⟨x,net,rfl,hx,nok,k⟩:=h;show⟨_,(aF (aK (aQ (a7 aD (a7 (cA ii hr (a7 (pv 0) a9)) (a7 (cA jv hr (a7 (pv 0) (a7 aD a9))) (a7 aD (a7 aD a9)))))))),?_⟩;show⟨_,O,x,net,O,hx,nok,λ st H4 xk vn=>⟨_,O,x,net,0,O,Ì xk.ts _ _ hx,nok,λ z H5 Uv qz=>⟨(sz0 5),λ p hp=>?_⟩⟩⟩;rw[tN nok.lo]at qz;have sp:aE H5 (upd H5 p (.tup [.int 0,st,.ref z,.int 0,.int 0])):=È hp;show k p _ ((xk.trans Uv).trans sp) (EI (m:=fZ net) (Í a8) (Ì sp.ts _ _ (Ì Uv.ts _ _ vn)) (sp.tup qz))
def qI (K:Ç):Sp:=λ vs H Q _=>∃(x:V) (n:Nat) (m:Mom) (v a:Int),vs=[x,.int v,.int a]/\Is K H (jB m) x/\m.poured.length=n/\n<=12/\0<=v/\v < n/\
 ∀ p H',aE H H'->Is K H' (jB (m.pour v a)) (.ref p)->Q (.ref p) H'
theorem qR (F:Fun K "moment_poured" "moment_poured" (bG 20) f fd) (T:Txt mg):FnOk P w K mg base fX 1 f fd ["moment","vessel","amount"] (qI K):=by
 show F.ok ["moment","vessel","amount","tick","state","poured","came","grounded","more"] λ sc gz A outer s H vs Q E hr h=>?_
 ·let⟨x,n,m,v,a,rfl,hx,pl,Uw,v0,v1,k⟩:=h;show⟨_,(aA (bP (pv 0) (aM (K:=K) (n:=5) O O (aB (gL 3 sc.nd) (aB (gL 4 sc.nd) (aB (gL 5 sc.nd) (aB (gL 6 sc.nd) (aB (gL 7 sc.nd) aL)))))))
   (aA (pL 8 sc.nd (aU (gD (K:=K) O) O T.b_list gN (a7 (pv 5) a9)))
   (aA (G7 (pv 8) (pv 1) (xZ (K:=K) O) (pv 2) A2 jM)
   (aF (aK (aQ (a7 (pv 3) (a7 (pv 4) (a7 (aU (bR (K:=K) O) O T.b_tuple bT (a7 (pv 8) a9)) (a7 (pv 6) (a7 (pv 7) a9))))))))))),?_⟩
  let⟨ma,po,st,rfl,q,hs,hp⟩:=o0 hx;show⟨_,O,ma,_,O,q,O,_,_,O,_,_,O,_,_,O,_,_,O,_,_,O,O,?_⟩;show⟨_,O,po,_,O,.inr hp,λ l hl=>?_⟩;have jh:v.toNat < m.poured.length:=by lia
  have hg:m.poured[v.toNat]?=Y (m.poured.getD v.toNat 0):=by rw[Ė,þ jh];rfl
  show⟨_,O,_,O,l,_,v,_,O,O,É a8,v0,Fn,(by rw[Ø,hg];rfl),_,O,_,_,O,O,l,_,v,v.toNat,O,O,a8,zZ v0 (by rw[Ê];lia),?_⟩;have e2:upd (upd H l (.lst (m.poured.map V.int))) l (.lst ((m.poured.map V.int).set v.toNat (.int (m.poured.getD v.toNat 0+a))))=upd H l (.lst ((m.pour v a).poured.map V.int)):=by
   rw[OK];change _=upd H l (.lst ((m.poured.set v.toNat (m.poured.getD v.toNat 0+a)).map V.int));rw[List.map_set]
  rw[e2];have s1:aE H (upd H l (.lst ((m.pour v a).poured.map V.int))):=È hl;have uj:upd H l (.lst ((m.pour v a).poured.map V.int)) l=Y (.lst ((m.pour v a).poured.map V.int)):=a8;generalize upd H l (.lst ((m.pour v a).poured.map V.int))=H1 at s1 uj;show⟨_,O,_,O,_,O,l,_,O,.inl ⟨É uj,λ p Ip=>⟨_,O,_,O,(sz0 5),λ p2 pw=>?_⟩⟩⟩;have m2:aE H1 (upd H1 p (.tup ((m.pour v a).poured.map V.int))):=È Ip;have m3:aE (upd H1 p (.tup ((m.pour v a).poured.map V.int))) (upd (upd H1 p (.tup ((m.pour v a).poured.map V.int))) p2 (.tup [.int m.tick,st,.ref p,.int m.came,.int m.ground])):=È pw;show k p2 _ ((s1.trans m2).trans m3) (EI (m:=m.pour v a) (Í a8) (Ì m3.ts _ _ (Ì m2.ts _ _ (Ì s1.ts _ _ hs))) (m3.tup (Í a8)))
def oO (K:Ç):Sp:=λ vs H Q _=>∃(x y:V) (net:Net) (m:Mom) (n:Nat),vs=[x,y,.int (n:Int)]/\Is K H (cJ net) x/\Is K H (jB m) y/\NetOk net/\MomOk net m/\n<=100000/\
 ∀ p p1 p2 kg H',aE H H'->aP K H' p [p1,.ref p2]->Is K H' (jB (dJ net m n)) p1->aP K H' p2 kg->IsL K H' ((dM net m n).map gQ) kg->Q (.ref p) H'
theorem vB (F:Fun K "moment_gone" "moment_gone" (bG 21) f fd) (T:Txt mg) (ny:Callee P w K mg base "moment_behind" ["net","moment"] 5 (BB K) f1 je) :
  FnOk P w K mg base fX 6 f fd ["net","moment","many"] (oO K):=by
 show F.ok ["net","moment","many","tipped","step","tick","numbers"] λ sc gz A outer s H vs Q E hr h=>?_
 ·let⟨x,y,net,m,n,rfl,hx,hy,nok,kr,hn,k⟩:=h;show⟨_,(aA (pL 3 sc.nd (bC a9))
   (aA (dB ò O (eF O T.b_range (a7 (pv 2) a9)) (gL 4 sc.nd) (aA (iN (i:=5) sc.nd O (Or.inr O) (px K (pv 1) aD))
   (aA (bP (cA ny hr (a7 (pv 0) (a7 (pv 1) a9))) (aM (K:=K) (n:=2) O O (aB (gL 1 sc.nd) (aB (gL 6 sc.nd) aL))))
   (aF (bH (dC (K:=K) O ì PySem.F.slot_list_extend PySem.F.type_list_extend IY (pv 3) (a7 (fQ (λ _ _ h=>h) O (LcOk.mk (N':=["number","tick"]) (fr:=[W,Y 5]) O ⟨O,trivial⟩ O O O O O ⟨⟨_,O,O,O,O⟩,trivial⟩) (eZ (K:=K) O (pv 6)) (λ _ _ _=>(gC 0 ["number","tick"])) (λ _ _ _=>c9) (λ _ _ _=>(aQ (a7 (pv 1) (a7 (pv 0) a9))))) a9)))))))
   (aF (aK (aQ (a7 (pv 1) (a7 (aU (bR (K:=K) O) O T.b_tuple bT (a7 (pv 3) a9)) a9))))))),?_⟩
  show⟨à _,λ tl yg=>?_⟩;have s0:aE H (upd H tl (.lst [])):=È yg;have g0:upd H tl (.lst []) tl=Y (.lst []):=a8;generalize upd H tl (.lst [])=H0 at s0 g0;dsimp only[kB];show TD (λ ac H'=>aE H H'/\(∃ kg,H' tl=Y (.lst kg)/\IsL K H' ((dM net m n).map gQ) kg)/\∃ mi,Is K H' (jB (dJ net m n)) mi/\
   ∃ v4 v5 v6,ac=[Y x,Y mi,Y (.int (n:Int)),Y (.ref tl),v4,v5,v6]) (λ D' hD=>?_) ?_
  rotate_left
  ·rintro ac H1 xK;let⟨s1,⟨kg,Hr,Bz⟩,mi,Ey,v4,v5,v6,rfl⟩:=xK;show⟨_,O,_,O,tl,_,O,.inl ⟨É Hr,λ p2 pw=>⟨(sz0 2),λ p hp=>?_⟩⟩⟩;have m2:aE H1 (upd H1 p2 (.tup kg)):=È pw;have m3:aE (upd H1 p2 (.tup kg)) (upd (upd H1 p2 (.tup kg)) p (.tup [mi,.ref p2])):=È hp;show k p mi p2 kg _ ((s1.trans m2).trans m3) (Í a8) (Ì (m2.trans m3).ts _ _ Ey) (m3.tup (Í a8)) (Î (m2.trans m3).ts _ _ Bz)
  show⟨_,O,_,O,Fn,Fn,?_⟩;show mZ (lo:=0) (n:=n) (λ i ac H'=>aE H H'/\(∃ kg,H' tl=Y (.lst kg)/\IsL K H' ((dM net m i).map gQ) kg)/\∃ mi,Is K H' (jB (dJ net m i)) mi/\
   ∃ v4 v5 v6,ac=[Y x,Y mi,Y (.int (n:Int)),Y (.ref tl),v4,v5,v6]) ?_ ?_ ?_
  ·show⟨s0,⟨[],g0,.nil⟩,y,Ì s0.ts _ _ hy,_,_,_,O⟩
  ·rintro i ac H1 hi xK;let⟨s1,⟨kg,Hr,Bz⟩,mi,Ey,v4,v5,v6,rfl⟩:=xK;let⟨ma,po,st,rfl,q,hs,hp⟩:=o0 Ey;show⟨_,O,.inr (.inl ⟨ma,_,0,_,O,O,q,O,?_⟩)⟩;show⟨_,O,_,O,x,.ref ma,net,dJ net m i,O,Ì s1.ts _ _ hx,Ey,nok,pM kr i,λ p p1 p2 H2 il qp i1 q2=>?_⟩;show⟨p,_,O,qp,O,_,_,O,_,_,O,O,?_⟩;have wy:=il _ _ Hr;have ltk:=KL net (dJ net m i);have YK:=nok.hi;show⟨_,O,.inl ⟨O,_,É wy⟩,?_⟩;show⟨_,O,p2,O,⟨_,q2⟩,iR (K:=K) (a:=p2) (xs:=((dJ net m i).tk net).tip.map λ(k:Nat)=>V.int (k:Int))
    (λ D j rr ac H'=>H2 D=W/\aE H2 H'/\H' D=Y (.lst rr)/\IsL K H' (((((dJ net m i).tk net).tip.take j).map λ k=>((dJ net m i).tick,k)).map gQ) rr/\∃ u,ac=[u,Y (.int (dJ net m i).tick)])
    (λ D j rr ac H' p=>p.2.1.tup q2) (λ D hD=>⟨hD,È hD,a8,.nil,W,O⟩) ?_ ?_⟩
   rotate_left
   ·rintro D j x' rr ac H3 hx xK;let⟨hD,ko,ie,lr,u,rfl⟩:=xK;rw[Ø]at hx;let⟨kk,hk,rfl⟩:=é.mp hx;have Et:=(Ö.mp hk).1;have jg:rr.length<=12:=by rw[lr.length];simp;lia
    show cZ ?_;show⟨_,O,_,O,(sz0 2),λ e he=>?_⟩;have me:=È (o:=HO.tup [.int (dJ net m i).tick,.int (kk:Int)]) he;have nDe:D≠e:=aI ie he;have Ca:iI (upd H3 e (.tup [.int (dJ net m i).tick,.int (kk:Int)]) D):=by rw[me _ _ ie];show trivial
    show⟨me _ _ ie,aS Fn,hD,(ko.trans me).put hD,a8,?_,_,O⟩;rw[aY hk,Ó,Ó];show Ă (Ð (ds:=[.int (dJ net m i).tick,.int (kk:Int)]) (è (K:=K) Ú Ca _ _ (Í a8)) (.cons (Õ _) (.cons (Õ _) .nil))) (Î (me.ts.trans (è Ú Ca)) _ _ lr)
   ·rintro D rr ac H3 xK;let⟨hD,ko,ie,lr,_⟩:=xK;rw[Ê,æ]at lr;have Kz:=ko _ _ wy;have l1:kg.length<=12 * i:=by rw[Bz.length,Ê];show iK nok i
    have l2:rr.length<=12:=by rw[lr.length];simp;lia
    show⟨tl,D,_,_,O,O,Kz,ie,ĝ (kF Fn),?_⟩;have YL:iI (H3 tl):=by rw[Kz];show trivial
    have Aw:bD K H3 (upd H3 tl (.lst (kg++rr))):=è Ú YL;have yi:=il.trans ko;show⟨(s1.trans yi).put yg,⟨_,a8,?_⟩,p1,Ì Aw _ _ (Ì ko.ts _ _ i1),_,_,_,O⟩;change IsL K _ ((dM net m i++qG net (dJ net m i)).map gQ) _;rw[Ó];show IsL.app (Î (yi.ts.trans Aw) _ _ Bz) (Î Aw _ _ lr)
  ·show λ ac H' p=>hD _ _ p
theorem oF :∀(l:List (Int×Nat)) (ts:List (List Int)),(∀ x∈ts,x.length<=B)->∀ x∈l.foldl addTip ts,x.length<=B+l.length
 |[],ts,h,x,hx=>by have:=h x hx;simp;lia
 |t::l,ts,h,x,hx=>by
  have h2:∀ y∈addTip ts t,y.length<=B+1:=λ y hy=>by
   unfold addTip at hy;rcases List.mem_or_eq_of_mem_set hy with hy|rfl
   ·have:=h y hy;lia
   ·rw[Þ,ö];have:(ts.getD t.2 []).length<=B:=by
     rw[Ė];cases e:ts[t.2]? with
     |none=>simp
     |some z=>show h z (Û e)
    lia
  have:=oF (B:=B+1) l (addTip ts t) h2 x hx;rw[Ý];lia
theorem RunSz.pour  (h:RunSz S B) (v a:Int):RunSz (S.pour v a) (B+1):=
 ⟨by have:=h.rows;change(S.rows++_).length<=_;rw[Þ,ö];lia,by have:=h.pre;change(S.pre++_).length<=_;rw[Þ,ö];lia,λ l hl=>by have:=h.tips l hl;lia⟩
theorem RunSz.go  (h:RunSz S B) (nok:NetOk S.net) (k:Nat):RunSz (S.go k) (B+12 * k+1):=
 ⟨by have:=h.rows;change(S.rows++_).length<=_;rw[Þ,ö];lia,by have:=h.pre;change(S.pre++_).length<=_;rw[Þ,ö];lia,λ l hl=>by
  have h1:=oF (B:=B) _ _ h.tips l hl;have h2:=iK (m:=S.cur) nok k;lia⟩
theorem OU (net:Net):RunSz (ID net) 0:=⟨Ñ _,Ñ _,λ l hl=>by
 have:=aeu (show l∈List.replicate net.vs.length []from hl);subst this;show Ñ _⟩
def DW (K:Ç) (C:Á):Sp:=λ vs H Q _=>∃(r dx:Á) (x:V) (net:Net),vs=[.ref r,x]/\H r=Y (.ins C dx [])/\Is K H (cJ net) x/\NetOk net/\NetFull net/\
 ∀ fp H',(∀ b∈fp,H b=W)->bS r H H'->dW K C H' r (ID net) fp->Q .non H'
theorem PM (F:Fun K "__init__" "Run.__init__" (eP (bG 45) 0) f fd) (T:Txt mg) (tx:RunTx K C)
  (zr:Callee P w K mg base "is_net" ["thing"] 4 (FU K) f1 je) (iw:Callee P w K mg base "first_moment" ["net"] 2 (iM K) f2 js) :
  FnOk P w K mg base fX 5 f fd ["self","net"] (DW K C):=by
 show F.ok ["self","net"] λ sc gz A outer s H vs Q E hr h=>?_
 ·let⟨r,dx,x,net,rfl,hi,hx,nok,uc,k⟩:=h;show⟨_,(aA (cE (fY (cO (cA zr hr (a7 (pv 1) a9)))) (aF P1) bF)
   (aA (sW (K:=K) O (pv 0) (pv 1) O)
   (aA (sW (K:=K) O (pv 0) (bC a9) O)
   (aA (sW (K:=K) O (pv 0) (bC (a7 (cA iw hr (a7 (pv 1) a9)) a9)) O)
   (aF (sW (K:=K) O (pv 0) (fQ (λ _ _ h=>h) O (LcOk.mk (N':=["vessel"]) (fr:=[W]) O trivial O O O O O trivial) (eZ (K:=K) O (px K (pv 1) aD)) (λ _ _ _=>(gC 0 ["vessel"])) (λ _ _ _=>c9) (λ _ _ _=>(bC a9))) O)))))),?_⟩
  show⟨_,O,x,net,O,hx,nok,uc,λ H1 pc=>⟨_,O,eG ?_⟩⟩;show⟨_,O,_,O,r,C,dx,[],O,pc _ _ hi,tx.cls,tx.net,FZ,?_⟩;have YM:iI (H1 r):=by rw[pc _ _ hi];show trivial
  have i2:upd H1 r (.ins C dx (cD "net" x [])) r=Y (.ins C dx (cD "net" x [])):=a8;have b2:bS r H (upd H1 r (.ins C dx (cD "net" x []))):=pc.but.trans Ú;have Ht:Is K (upd H1 r (.ins C dx (cD "net" x []))) (cJ net) x:=Ì (è Ú YM) _ _ (Ì pc.ts _ _ hx);generalize upd H1 r (.ins C dx (cD "net" x []))=H2 at i2 b2 Ht;show⟨à _,λ R hR=>⟨_,O,r,C,dx,_,O,È hR _ _ i2,tx.cls,tx.rows,(show 1 < 1000 by decide),?_⟩⟩;have Lg:R≠r:=λ z=>by rw[z,i2]at hR;cases hR
  have fR:H R=none:=b2.free Lg hR;have Dr:iI (upd H2 R (.lst []) r):=by rw[È hR _ _ i2];show trivial
  have i3:upd (upd H2 R (.lst [])) r (.ins C dx (cD "rows" (.ref R) (cD "net" x []))) r=Y (.ins C dx (cD "rows" (.ref R) (cD "net" x []))):=a8;have b3:bS r H (upd (upd H2 R (.lst [])) r (.ins C dx (cD "rows" (.ref R) (cD "net" x [])))):=(b2.trans (È hR).but).trans Ú;have Ig:Is K (upd (upd H2 R (.lst [])) r (.ins C dx (cD "rows" (.ref R) (cD "net" x [])))) (cJ net) x:=Ì (è Ú Dr) _ _ (Ì (È hR).ts _ _ Ht);have Qa:upd (upd H2 R (.lst [])) r (.ins C dx (cD "rows" (.ref R) (cD "net" x []))) R=Y (.lst []):=by rw[aG Lg];show a8
  generalize upd (upd H2 R (.lst [])) r (.ins C dx (cD "rows" (.ref R) (cD "net" x [])))=H3 at i3 b3 Ig Qa;show⟨_,O,x,net,O,Ig,nok,λ p H6 vj cm=>⟨(sz0 1),λ M hM=>⟨_,O,r,C,dx,cD "rows" (.ref R) (cD "net" x []),O,È hM _ _ (vj _ _ i3),tx.cls,tx.moments,(show 2 < 1000 by decide),?_⟩⟩⟩;have i6:=vj _ _ i3;have Qb:M≠r:=λ z=>by rw[z,i6]at hM;cases hM
  have YN:M≠R:=λ z=>by rw[z,vj _ _ Qa]at hM;cases hM
  have fM:H M=none:=(b3.trans vj.but).free Qb hM;have Lh:iI (upd H6 M (.lst [.ref p]) r):=by rw[È hM _ _ i6];show trivial
  have Ux:bD K H6 (upd (upd H6 M (.lst [.ref p])) r (.ins C dx (cD "moments" (.ref M) (cD "rows" (.ref R) (cD "net" x []))))):=(È hM).ts.trans (è Ú Lh);have i7:upd (upd H6 M (.lst [.ref p])) r (.ins C dx (cD "moments" (.ref M) (cD "rows" (.ref R) (cD "net" x [])))) r=Y (.ins C dx (cD "moments" (.ref M) (cD "rows" (.ref R) (cD "net" x [])))):=a8;have b7:bS r H (upd (upd H6 M (.lst [.ref p])) r (.ins C dx (cD "moments" (.ref M) (cD "rows" (.ref R) (cD "net" x []))))):=((b3.trans vj.but).trans (È hM).but).trans Ú;have Li:upd (upd H6 M (.lst [.ref p])) r (.ins C dx (cD "moments" (.ref M) (cD "rows" (.ref R) (cD "net" x [])))) M=Y (.lst [.ref p]):=by rw[aG Qb];show a8
  have Lj:upd (upd H6 M (.lst [.ref p])) r (.ins C dx (cD "moments" (.ref M) (cD "rows" (.ref R) (cD "net" x [])))) R=Y (.lst []):=by rw[aG Lg];show È hM _ _ (vj _ _ Qa)
  have Qc:=Ì Ux _ _ (Ì vj.ts _ _ Ig);have Uy:=Ì Ux _ _ cm;generalize upd (upd H6 M (.lst [.ref p])) r (.ins C dx (cD "moments" (.ref M) (cD "rows" (.ref R) (cD "net" x []))))=H7 at i7 b7 Li Lj Qc Uy;let⟨a,b,c,xs,ys,rfl,q,q1,l1,q2,l2⟩:=gI Qc;have mx:xs.length=net.vs.length:=by rw[l1.length,Ê]
  have n2:=nok.hi;show⟨_,O,.inr (.inl ⟨a,_,0,_,O,O,q,O,b,O,⟨_,q1⟩,iR (K:=K) (a:=b) (xs:=xs) (λ D i rr ac H'=>H7 D=W/\aE H7 H'/\H' D=Y (.lst rr)/\(∃ ts:List Á,rr=ts.map V.ref/\ts.length=i/\(D::ts).Nodup/\∀ t∈ts,H7 t=W/\H' t=Y (.lst []))/\∃ u,ac=[u])
   (λ D i rr ac H' p=>p.2.1.tup q1) (λ D hD=>⟨hD,È hD,a8,⟨[],O,O,G0,λ t ht=>(nomatch ht)⟩,W,O⟩) ?_ ?_⟩)⟩
  rotate_left
  ·rintro D i v rr ac H8 hv xK;let⟨hD,sm,ie,⟨ts,rfl,wz,Bb,qm⟩,u,rfl⟩:=xK;have mw:=(Ö.mp hv).1;show cZ ?_;show⟨à _,λ t ht=>⟨È ht _ _ ie,aS (by simp;lia),hD,(sm.trans (È ht)).put hD,a8,⟨ts++[t],by rw[Ó];rfl,by simp [wz],?_,?_⟩,_,O⟩⟩
   ·have Qd:D≠t:=λ z=>by rw[<- z,ie]at ht;cases ht
    have YO:t∉ts:=λ z=>by rw[(qm t z).2]at ht;cases ht
    rw[ñ]at Bb ⊢;show⟨λ z=>?_,?_⟩
    ·rcases ÿ.1 z with z|z
     ·show Bb.1 z
     ·show Qd (by simpa using z)
    ·rw[Ň];show⟨Bb.2,G0,λ a ha b hb=>by rw[ù]at hb;subst hb;show λ z=>YO (z ▸ ha)⟩
   ·intro t' Ez;have Qd:t≠D:=λ z=>by rw[z,ie]at ht;cases ht
    rcases ÿ.1 Ez with z|z
    ·have h1:=qm t' z;have ne1:t'≠D:=λ z2=>by rw[ñ]at Bb;show Bb.1 (z2 ▸ z)
     show⟨h1.1,by rw[aG ne1];show È ht _ _ h1.2⟩
    ·have:t'=t:=by simpa using z
     subst this;show⟨sm.free ht,by rw[aG Qd];show a8⟩
  ·rintro D rr ac H8 xK;let⟨hD,sm,ie,⟨ts,rfl,wz,Bb,qm⟩,_⟩:=xK;show⟨_,O,r,C,dx,_,O,sm _ _ i7,tx.cls,tx.tips,(show 3 < 1000 by decide),?_⟩;have Uz:D≠r:=λ z=>by rw[z,i7] at hD;cases hD
   have YQ:D≠R:=λ z=>by rw[z,Lj]at hD;cases hD
   have YR:D≠M:=λ z=>by rw[z,Li]at hD;cases hD
   have Va:∀ t∈ts,t≠r:=λ t ht z=>by have:=(qm t ht).1;rw[z,i7]at this;cases this
   have YS:∀ t∈ts,t≠R:=λ t ht z=>by have:=(qm t ht).1;rw[z,Lj]at this;cases this
   have YT:∀ t∈ts,t≠M:=λ t ht z=>by have:=(qm t ht).1;rw[z,Li]at this;cases this
   have Ho:iI (H8 r):=by rw[sm _ _ i7];show trivial
   have Vb:bD K H7 (upd H8 r (.ins C dx (cD "tip_ticks" (.ref D) (cD "moments" (.ref M) (cD "rows" (.ref R) (cD "net" (.ref a) [])))))):=sm.ts.trans (è Ú Ho);show k (R::M::D::ts) _ (λ y hy=>?_) ((b7.trans sm.but).trans Ú) ⟨dx,.ref a,R,M,D,ts,[],[],.ref p,?_,O⟩
   ·rcases Ò.1 hy with rfl|hy
    ·show fR
    rcases Ò.1 hy with rfl|hy
    ·show fM
    rcases Ò.1 hy with rfl|hy
    ·show b7.free Uz hD
    show b7.free (Va y hy) (qm y hy).1
   ·show {
     ins:=a8
     net:=Ì Vb _ _ Qc
     hR:=by rw[aG Lg];show sm _ _ Lj
     lR:=.nil
     hM:=by rw[aG Qb];show sm _ _ Li
     lM:=.nil
     cM:=Ì Vb _ _ Uy
     hT:=by rw[aG Uz];show ie
     tl:=by rw[wz,mx];simp[ID]
     ti:=λ i t l h1 h2=>by
      have hm:=Û h1;have hl:=Û h2;have:=aeu (show l∈List.replicate net.vs.length []from hl);subst this;rw[aG (Va t hm)];show(qm t hm).2
     nd:=by
      rw[ñ];show⟨λ z=>?_,?_⟩
      ·rcases Ò.1 z with z|z
       ·show YN z.symm
       rcases Ò.1 z with z|z
       ·show YQ z.symm
       show YS R z O
      rw[ñ];show⟨λ z=>?_,Bb⟩;rcases Ò.1 z with z|z
      ·show YR z.symm
      show YT M z O
     ok:=G4 nok }
section
variable {r dx R M T:Á}{H H':Hp}{S:RunS}{fp:List Á}{np mv:V}{ts:List Á}{rs ms:List V}
theorem MF {ae:Type}{xs:List ae} (h:xs.Nodup) {i j:Nat}{x:ae} (h1:xs[i]?=Y x) (h2:xs[j]?=Y x):i=j:=by
 let⟨a1,b1⟩:=Ö.mp h1;let⟨a2,b2⟩:=Ö.mp h2;show(agv h (h₀:=a1) (h₁:=a2)).1 (b1.trans b2.symm)
theorem RunC.addTip (c:RunC K C H r S dx np R M T ts rs ms mv) (h1:ts[p.2]?=Y t) (h2:S.tips[p.2]?=Y l) :
  RunC K C (upd H t (.lst ((l++[p.1]).map V.int))) r { S with tips:=addTip S.tips p } dx np R M T ts rs ms mv:=by
 have hm:=Û h1;have ht:=c.ti _ _ _ h1 h2;have mu:iI (H t):=by rw[ht];show trivial
 have Ll:bD K H (upd H t (.lst ((l++[p.1]).map V.int))):=è Ú mu;have nd:=c.nd;rw[ñ]at nd;have zt:=nd.2;rw[ñ]at zt;have Qe:=zt.2;rw[ñ]at Qe;have nR:R≠t:=λ z=>nd.1 (by rw[z];simp[hm]);have nM:M≠t:=λ z=>zt.1 (by rw[z];simp[hm]);have nT:T≠t:=λ z=>Qe.1 (by rw[z];show hm);have nr:r≠t:=λ z=>c.r_notin (by rw[z];simp[hm]);have jh:p.2 < S.tips.length:=(Ö.mp h2).1;have YU:S.tips.getD p.2 []=l:=by rw[Ė,h2];rfl
 show {
  ins:=by rw[aG nr];show c.ins
  net:=Ì Ll _ _ c.net
  hR:=by rw[aG nR];show c.hR
  lR:=Î Ll _ _ c.lR
  hM:=by rw[aG nM];show c.hM
  lM:=Î Ll _ _ c.lM
  cM:=Ì Ll _ _ c.cM
  hT:=by rw[aG nT];show c.hT
  tl:=by change _=(List.set S.tips p.2 _).length;rw[Š];show c.tl
  ti:=λ i t' l' e1 e2=>by
   by_cases hi:i=p.2
   ·subst hi;rw[h1]at e1;cases e1;have e3:(S.tips.set p.2 (S.tips.getD p.2 []++[p.1]))[p.2]?=Y l':=e2;rw[YU,ŝ jh]at e3;cases e3;show a8
   ·have e3:(S.tips.set p.2 (S.tips.getD p.2 []++[p.1]))[i]?=Y l':=e2;rw[ş (Ne.symm hi)]at e3;have ne:t'≠t:=λ z=>hi (MF Qe.2 (by rw[<- z];show e1) h1);rw[aG ne];show c.ti i t' l' e1 e3
  nd:=c.nd
  ok:=⟨c.ok.nok,c.ok.cur,by change(List.set S.tips p.2 _).length=_;rw[Š];show c.ok.tl⟩ }
end
def UI (K:Ç) (C:Á):Sp:=λ vs H Q _=>∃(r:Á) (S:RunS) (fp:List Á) (k B:Nat),vs=[.ref r,.int (k:Int)]/\dW K C H r S fp/\RunSz S B/\B<=1000000/\k<=100000/\
 ∀ H',gY fp H H'->dW K C H' r (S.go k) fp->Q .non H'
theorem V4 (F:Fun K "go" "Run.go" (eP (bG 45) 2) f fd) (T:Txt mg) (tx:RunTx K C) (jc:Callee P w K mg base "moment_gone" ["net","moment","many"] 6 (oO K) f1 je) :
  FnOk P w K mg base fX 7 f fd ["self","many"] (UI K C):=by
 show F.ok ["self","many","moment","tipped","tick","number"] λ sc gz A outer s H vs Q E hr h=>?_
 ·let⟨r,S,fp,n,B,rfl,⟨dx,np,R,M,T',ts,rs,ms,mv,c,rfl⟩,sz,hB,hn,k⟩:=h;show⟨_,(aA (bP (cA jc hr (a7 (fW (K:=K) O (pv 0) O) (a7 (px K (fW (K:=K) O (pv 0) O) (QZ KI aD)) (a7 (pv 1) a9)))) (aM (K:=K) (n:=2) O O (aB (gL 2 sc.nd) (aB (gL 3 sc.nd) aL))))
   (aA (bH (dC (K:=K) O ì ô õ bL (fW (K:=K) O (pv 0) O) (a7 (pv 2) a9)))
   (aA (bH (dC (K:=K) O ì ô õ bL (fW (K:=K) O (pv 0) O) (a7 (aQ (a7 eY (a7 (pv 1) (a7 (pv 3) a9)))) a9)))
   (aF (dB ò O (eZ (K:=K) O (pv 3)) (aM (K:=K) (n:=2) O O (aB (gL 4 sc.nd) (aB (gL 5 sc.nd) aL))) (aF (bH (dC (K:=K) O ì ô õ bL (px K (fW (K:=K) O (pv 0) O) (pv 5)) (a7 (pv 4) a9))))))))),?_⟩
  have nok:=c.ok.nok;have kr:=c.ok.cur;have nd:=c.nd;have YV:rs.length<=B:=by rw[c.lR.length,Ê];show sz.rows
  have YW:ms.length<=B:=by rw[c.lM.length,Ê];show sz.pre
  show⟨_,O,r,C,dx,_,_,O,c.ins,tx.cls,tx.net,EQ,_,O,r,C,dx,_,_,O,c.ins,tx.cls,tx.moments,kN,1,O,.inl ⟨M,_,-1,_,O,O,É c.hM,DH _ _,_,O,np,mv,S.net,S.cur,n,O,c.net,c.cM,nok,kr,hn,λ pp mi tl kg H1 s1 YX Ey YY Bz=>?_⟩⟩;show⟨pp,_,O,YX,O,_,_,O,_,_,O,O,?_⟩;have ltv:kg.length<=12 * n:=by rw[Bz.length,Ê];show iK nok n
  have Dx:R≠M:=λ z=>by rw[ñ]at nd;show nd.1 (by rw[z];simp)
  have ux:r≠M:=λ z=>c.r_notin (by rw[z];simp);have zu:r≠R:=λ z=>c.r_notin (by rw[z];simp);show⟨_,O,r,C,dx,_,_,O,s1 _ _ c.ins,tx.cls,tx.moments,kN,.inl ⟨O,_,É (s1 _ _ c.hM)⟩,_,O,M,_,_,O,O,s1 _ _ c.hM,kF (by simp;lia),?_⟩;have muM:iI (H1 M):=by rw[s1 _ _ c.hM];show trivial
  have Bv:bD K H1 (upd H1 M (.lst (ms++[mv]++[mi]))):=è Ú muM;have Qf:=Bv _ _ YY;have k2:∀(b:Á) (o:HO),b≠M->H b=Y o->upd H1 M (.lst (ms++[mv]++[mi])) b=Y o:=λ b o h e=>by rw[aG h];show s1 _ _ e
  have Ld:upd H1 M (.lst (ms++[mv]++[mi])) M=Y (.lst (ms++[mv]++[mi])):=a8;have Iq:bD K H (upd H1 M (.lst (ms++[mv]++[mi]))):=s1.ts.trans Bv;have Lm:=Ì Bv _ _ Ey;have Qg:=Î Bv _ _ Bz;generalize upd H1 M (.lst (ms++[mv]++[mi]))=H2 at Qf k2 Ld Iq Lm Qg;show⟨_,O,r,C,dx,_,_,O,k2 _ _ ux c.ins,tx.cls,tx.rows,zX,.inl ⟨O,_,É (k2 _ _ Dx c.hR)⟩,?_⟩;show⟨_,O,_,O,(sz0 3),λ p3 Az=>?_⟩;have vi:aE H2 (upd H2 p3 (.tup [.str "go",.int (n:Int),.ref tl])):=È Az;have Ir:Is K (upd H2 p3 (.tup [.str "go",.int (n:Int),.ref tl])) (jQ (.go (n:Int) (dM S.net S.cur n))) (.ref p3):=
   Ð (ds:=[.str "go",.int (n:Int),.tup ((dM S.net S.cur n).map gQ)]) (Í a8) (.cons (Is.s _) (.cons (Õ _) (.cons (Ð (vi.tup Qf) (Î vi.ts _ _ Qg)) .nil)))
  generalize upd H2 p3 (.tup [.str "go",.int (n:Int),.ref tl])=H4 at Ir vi;have Iu:=vi _ _ (k2 _ _ Dx c.hR);show⟨R,_,_,O,O,Iu,kF Fn,?_⟩;have Qh:iI (H4 R):=by rw[Iu];show trivial
  have Bc:bD K H4 (upd H4 R (.lst (rs++[.ref p3]))):=è Ú Qh;have Bd:bD K H (upd H4 R (.lst (rs++[.ref p3]))):=(Iq.trans vi.ts).trans Bc;have keep:∀(b:Á) (o:HO),b≠M->b≠R->H b=Y o->upd H4 R (.lst (rs++[.ref p3])) b=Y o:=λ b o h1 h2 e=>by
   rw[aG h2];show vi _ _ (k2 _ _ h1 e)
  have Qi:=Bc _ _ (vi.tup Qf);have Vc:=Î (vi.ts.trans Bc) _ _ Qg;rw[ñ]at nd;have zt:=nd.2;rw[ñ]at zt;have c5:RunC K C (upd H4 R (.lst (rs++[.ref p3]))) r { S with
   rows:=S.rows++[.go (n:Int) (dM S.net S.cur n)],pre:=S.pre++[S.cur],cur:=dJ S.net S.cur n } dx np R M T' ts (rs++[.ref p3]) (ms++[mv]) mi:={
   ins:=keep _ _ ux zu c.ins
   net:=Ì Bd _ _ c.net
   hR:=a8
   lR:=by
    change IsL K _ ((S.rows++[Row.go (n:Int) (dM S.net S.cur n)]).map jQ) _;rw[Ó];show Ă (Ì Bc _ _ Ir) (Î Bd _ _ c.lR)
   hM:=by rw[aG (Ne.symm Dx)];show vi _ _ Ld
   lM:=by
    change IsL K _ ((S.pre++[S.cur]).map jB) _;rw[Ó];show Ă (Ì Bd _ _ c.cM) (Î Bd _ _ c.lM)
   cM:=Ì (vi.ts.trans Bc) _ _ Lm
   hT:=keep _ _ (λ z=>zt.1 (by rw[<- z];simp)) (λ z=>nd.1 (by rw[<- z];simp)) c.hT
   tl:=c.tl
   ti:=λ i t l h1 h2=>by
    have hm:=Û h1;show keep _ _ (λ z=>zt.1 (by rw[<- z];simp[hm])) (λ z=>nd.1 (by rw[<- z];simp[hm])) (c.ti i t l h1 h2)
   nd:=c.nd
   ok:=⟨c.ok.nok,pM kr n,c.ok.tl⟩ }
  have b5:gY (R::M::T'::ts) H (upd H4 R (.lst (rs++[.ref p3]))):=λ b o hb e=>keep b o (λ z=>hb (by rw[z];simp)) (λ z=>hb (by rw[z];simp)) e;generalize upd H4 R (.lst (rs++[.ref p3]))=H5 at Qi Vc c5 b5;show⟨_,O,tl,O,⟨_,Qi⟩,A6 (K:=K) (a:=tl) (xs:=kg)
   (λ i ac H'=>aP K H' tl kg/\IsL K H' ((dM S.net S.cur n).map gQ) kg/\gY (R::M::T'::ts) H H'/\
    RunC K C H' r { S with rows:=S.rows++[.go (n:Int) (dM S.net S.cur n)],pre:=S.pre++[S.cur],cur:=dJ S.net S.cur n,tips:=((dM S.net S.cur n).take i).foldl addTip S.tips } dx np R M T' ts (rs++[V.ref p3]) (ms++[mv]) mi/\
    ∃ v4 v5,ac=[Y (.ref r),Y (.int (n:Int)),Y mi,Y (.ref tl),v4,v5])
   ⟨Qi,Vc,b5,by rw[ž];show c5,_,_,O⟩ (λ i ac H' _ p=>p.1) ?_ ?_⟩
  ·rintro i x ac H6 hx xK;let⟨Vd,Qj,b6,c6,v4,v5,rfl⟩:=xK;let⟨d,hd,ix⟩:=L2.IsL.get' Qj hx;rw[Ø] at hd;let⟨⟨tk,nu⟩,Ip,rfl⟩:=é.mp hd;have mw:=(Ö.mp Ip).1;have Ve:nu < S.net.vs.length:=FN n _ (Û Ip);let⟨e,zs,rfl,qe,le⟩:=(show Is K H6 (.tup [.int tk,.int (nu:Int)]) x from ix).un;let⟨x1,rr,rfl,h1,le⟩:=le.un;let⟨x2,rr,rfl,h2,le⟩:=le.un;have:=le.un0;subst this;have:=h1.ui;subst this;have:=h2.ui;subst this;show⟨e,_,O,qe,O,_,_,O,_,_,O,O,?_⟩;have YZ:=c6.ok.tl;have wz:nu < ts.length:=by rw[c.tl,c.ok.tl];show Ve
   have Ai:ts[nu]?=Y ts[nu]:=by simp[wz]
   have Vf:nu < (((dM S.net S.cur n).take i).foldl addTip S.tips).length:=by rw[mJ,c.ok.tl];show Ve
   have Lf:(((dM S.net S.cur n).take i).foldl addTip S.tips)[nu]?=Y (((dM S.net S.cur n).take i).foldl addTip S.tips)[nu]:=by simp[Vf]
   have hsz:=oF (B:=B) ((dM S.net S.cur n).take i) S.tips sz.tips _ (Ĥ Vf);generalize(((dM S.net S.cur n).take i).foldl addTip S.tips)[nu]=l at Lf hsz;have Ft:=iK (m:=S.cur) nok n;rw[ß]at hsz;have Iv:=c6.ti nu _ l Ai Lf;show⟨_,O,r,C,dx,_,_,O,c6.ins,tx.cls,tx.tips,GD,_,O,.inl ⟨T',_,(nu:Int),.ref ts[nu],O,O,É c6.hT,hU (by rw[Ø,Ai];rfl),.inl ⟨O,_,É Iv⟩,_,O,ts[nu],_,_,O,O,Iv,kF (by rw[Ê];lia),?_⟩⟩;have c7:=c6.addTip (p:=(tk,nu)) Ai Lf;have Cv:ts[nu]∈R::M::T'::ts:=by simp
   have Lh:iI (H6 ts[nu]):=by rw[Iv];show trivial
   rw[Ó]at c7;show⟨è (K:=K) Ú Lh _ _ Vd,Î (è Ú Lh) _ _ Qj,b6.trans (gY.upd Cv),?_,_,_,O⟩;rw[aY Ip,ŕ];show c7
  ·rintro ac H6 xK;let⟨Vd,Qj,b6,c6,_⟩:=xK;have el:kg.length=(dM S.net S.cur n).length:=by rw[Bz.length,Ê]
   rw[el,æ]at c6;show k _ b6 ⟨dx,np,R,M,T',ts,_,_,_,c6,O⟩
def FS (K:Ç) (C cV:Á):Sp:=λ vs H Q E=>∃(r:Á) (S:RunS) (fp:List Á) (v a:Int) (B:Nat),vs=[.ref r,.int v,.int a]/\dW K C H r S fp/\RunSz S B/\B<=1000000/\
 ((0<=v/\v < S.net.vs.length/\∀ H',gY fp H H'->dW K C H' r (S.pour v a) fp->Q .non H')\/(¬ (0<=v/\v < S.net.vs.length)/\E (.ref cV) W H))
theorem MC (F:Fun K "pour" "Run.pour" (eP (bG 45) 1) f fd) (T:Txt mg) (tx:RunTx K C) (gp:CalleeR P w K mg base "need_vessel" ["net","number"] 2 (oN K gu) f1 je)
  (ji:Callee P w K mg base "moment_poured" ["moment","vessel","amount"] 1 (qI K) f2 js):FnOk P w K mg base (mL P w) 3 f fd ["self","vessel","amount"] (FS K C gu):=by
 show F.okR ["self","vessel","amount"] λ sc gz A outer s H vs Q E hr h L=>?_
 ·let⟨r,S,fp,v,a,B,rfl,⟨dx,np,R,M,T',ts,rs,ms,mv,c,rfl⟩,sz,hB,k⟩:=h;show⟨_,(aA (bH (gH gp.ok (hr.mono FZ) O gp.mg gp.kp gp.bd .nil (jA L) (a7 (fW (K:=K) O (pv 0) O) (a7 (pv 1) a9))))
   (aA (bH (dC (K:=K) O ì ô õ bL (fW (K:=K) O (pv 0) O) (a7 (cA ji hr (a7 (px K (fW (K:=K) O (pv 0) O) (QZ KI aD)) (a7 (pv 1) (a7 (pv 2) a9)))) a9)))
   (aF (bH (dC (K:=K) O ì ô õ bL (fW (K:=K) O (pv 0) O) (a7 (aQ (a7 eY (a7 (pv 1) (a7 (pv 2) a9)))) a9)))))),?_⟩
  let⟨ma,po,st,rfl,q,hs,hp⟩:=o0 c.cM;have pl:=c.ok.cur.pl;have nd:=c.nd;have Dx:R≠M:=λ z=>by rw[ñ]at nd;show nd.1 (by rw[z];simp)
  have Uw:=c.ok.nok.hi;have YV:rs.length<=B:=by rw[c.lR.length,Ê];show sz.rows
  have YW:ms.length<=B:=by rw[c.lM.length,Ê];show sz.pre
  show⟨_,O,r,C,dx,_,_,O,c.ins,tx.cls,tx.net,EQ,_,O,np,S.net,v,O,c.net,?_⟩;rcases k with⟨v0,v1,k⟩|⟨hn,k⟩;rotate_left
  ·show .inr ⟨hn,k⟩
  show .inl ⟨v0,v1,?_⟩;show⟨_,O,r,C,dx,_,_,O,c.ins,tx.cls,tx.moments,kN,.inl ⟨O,_,É c.hM⟩,?_⟩;show⟨_,O,r,C,dx,_,_,O,c.ins,tx.cls,tx.moments,kN,1,O,.inl ⟨M,_,-1,_,O,O,É c.hM,DH _ _,_,O,_,O,.ref ma,S.net.vs.length,S.cur,v,a,O,c.cM,pl,Uw,v0,v1,λ p2 H2 s2 Lm=>?_⟩⟩;show⟨M,_,_,O,O,s2 _ _ c.hM,kF (by simp;lia),?_⟩;have muM:iI (H2 M):=by rw[s2 _ _ c.hM];show trivial
  have Aw:bD K H2 (upd H2 M (.lst (ms++[V.ref ma]++[.ref p2]))):=è Ú muM;have ux:r≠M:=λ z=>c.r_notin (by rw[z];simp);have zu:r≠R:=λ z=>c.r_notin (by rw[z];simp);show⟨_,O,r,C,dx,_,_,O,by rw[aG ux];show s2 _ _ c.ins,tx.cls,tx.rows,zX,.inl ⟨O,_,É (by rw[aG Dx];show s2 _ _ c.hR)⟩,?_⟩;show⟨_,O,_,O,(sz0 3),λ p3 Az=>?_⟩;have m4:aE (upd H2 M (.lst (ms++[V.ref ma]++[.ref p2]))) (upd (upd H2 M (.lst (ms++[V.ref ma]++[.ref p2]))) p3 (.tup [.str "pour",.int v,.int a])):=È Az;have Iu:upd (upd H2 M (.lst (ms++[V.ref ma]++[.ref p2]))) p3 (.tup [.str "pour",.int v,.int a]) R=Y (.lst rs):=m4 _ _ (by rw[aG Dx];show s2 _ _ c.hR);show⟨R,_,_,O,O,Iu,kF Fn,?_⟩;have Qh:iI (upd (upd H2 M (.lst (ms++[V.ref ma]++[.ref p2]))) p3 (.tup [.str "pour",.int v,.int a]) R):=by rw[Iu];show trivial
  have Bc:bD K (upd (upd H2 M (.lst (ms++[V.ref ma]++[.ref p2]))) p3 (.tup [.str "pour",.int v,.int a])) (upd (upd (upd H2 M (.lst (ms++[V.ref ma]++[.ref p2]))) p3 (.tup [.str "pour",.int v,.int a])) R (.lst (rs++[.ref p3]))):=è Ú Qh;have Gs:bD K H (upd (upd (upd H2 M (.lst (ms++[V.ref ma]++[.ref p2]))) p3 (.tup [.str "pour",.int v,.int a])) R (.lst (rs++[.ref p3]))):=((s2.ts.trans Aw).trans m4.ts).trans Bc;have keep:∀(b:Á) (o:HO),b≠M->b≠R->H b=Y o->upd (upd (upd H2 M (.lst (ms++[V.ref ma]++[.ref p2]))) p3 (.tup [.str "pour",.int v,.int a])) R (.lst (rs++[.ref p3])) b=Y o:=λ b o h1 h2 e=>by
   rw[aG h2];show m4 _ _ (by rw[aG h1];show s2 _ _ e)
  show k _ (λ b o hb e=>keep b o (λ z=>hb (by rw[z];simp)) (λ z=>hb (by rw[z];simp)) e) ⟨dx,np,R,M,T',ts,rs++[.ref p3],ms++[.ref ma],.ref p2,?_,O⟩;rw[ñ] at nd;have zt:=nd.2;rw[ñ] at zt;show {
   ins:=keep _ _ ux zu c.ins
   net:=Ì Gs _ _ c.net
   hR:=a8
   lR:=by
    change IsL K _ ((S.rows++[Row.pour v a]).map jQ) _;rw[Ó];show Ă (Ð (ds:=[.str "pour",.int v,.int a]) (Bc _ _ (Í a8)) (.cons (Is.s _) (.cons (Õ _) (.cons (Õ _) .nil)))) (Î Gs _ _ c.lR)
   hM:=by rw[aG (Ne.symm Dx)];show m4 _ _ a8
   lM:=by
    change IsL K _ ((S.pre++[S.cur]).map jB) _;rw[Ó];show Ă (Ì Gs _ _ c.cM) (Î Gs _ _ c.lM)
   cM:=Ì ((Aw.trans m4.ts).trans Bc) _ _ Lm
   hT:=keep _ _ (λ z=>zt.1 (by rw[<- z];simp)) (λ z=>nd.1 (by rw[<- z];simp)) c.hT
   tl:=c.tl
   ti:=λ i t l h1 h2=>by
    have hm:=Û h1;show keep _ _ (λ z=>zt.1 (by rw[<- z];simp[hm])) (λ z=>nd.1 (by rw[<- z];simp[hm])) (c.ti i t l h1 h2)
   nd:=c.nd
   ok:=c.ok.pour v a }
section
variable {t sl:Á}{σ:St}{H0:Hp}
end
theorem MI  (m:Str) (h:(CV np R M T).lookup m=W):(CV np R M T).lookup m=none:=h
section
variable {H:Hp}{r:Á}{S:RunS}{fp:List Á}
theorem dW.ins (c:dW K C H r S fp):∃ dx np R M T,H r=Y (.ins C dx (CV np R M T)):=by
 let⟨dx,np,R,M,T,ts,rs,ms,mv,c,_⟩:=c;show⟨dx,np,R,M,T,c.ins⟩
theorem dW.butL  (c:dW K C H r S fp) (s:gY fq H H') (hm:∀ b∈fq,iI (H b)) (h1:r∉fq) (h2:∀ b∈fp,b∉fq):dW K C H' r S fp:=by
 let⟨dx,np,R,M,T,ts,rs,ms,mv,c,rfl⟩:=c;show⟨dx,np,R,M,T,ts,rs,ms,mv,c.keep (s.ts hm) λ b hb=>?_,O⟩;rcases Ò.1 hb with rfl|hb
 ·rw[s _ _ h1 c.ins,c.ins]
 ·let⟨xs,e⟩:=c.lists b hb;rw[s _ _ (h2 b hb) e,e]
theorem fH.butL  (h:fH H t sl) (s:gY fp H H') (h1:t∉fp) (h2:sl∉fp):fH H' t sl:=by
 let⟨ns,pos,cell,e,f,g⟩:=h;show⟨ns,pos,cell,s _ _ h1 e,s _ _ h2 f,g⟩
end
section
variable {H H':Hp}{A A':Á->Prop}{S:RunS}{v:V}{a ha tl bl:Á}{st:V}{ts:List Á}{bs:List V}
end
inductive Deed where
 |pour (v a:Int)
 |go (k:Nat)
def RunS.deed (S:RunS):Deed->RunS
 |.pour v a=>S.pour v a
 |.go k=>S.go k
section
variable {H:Hp}
end
theorem qU (net:Net) (m:Mom):∀ k,(dJ net m k).tick=m.tick+k
 |0=>by simp[dJ]
 |k+1=>by
  change(dJ net m k).tick+1=_;rw[qU net m k];lia
def yR (K:Ç) (C cV:Á):Sp:=λ vs H Q E=>∃(r:Á) (S:RunS) (fp:List Á) (v:Int),vs=[.ref r,.int v]/\dW K C H r S fp/\
 ((0<=v/\v < S.net.vs.length/\∀ l p,S.tips[v.toNat]?=Y l->H p=W->Q (.ref p) (upd H p (.lst (l.map V.int))))\/(¬ (0<=v/\v < S.net.vs.length)/\E (.ref cV) W H))
theorem MB (F:Fun K "tips" "Run.tips" (eP (bG 45) 6) f fd) (T:Txt mg) (tx:RunTx K C) (gp:CalleeR P w K mg base "need_vessel" ["net","number"] 2 (oN K gu) f1 je) :
  FnOk P w K mg base (mL P w) 3 f fd ["self","vessel"] (yR K C gu):=by
 show F.okR ["self","vessel"] λ sc gz A outer s H vs Q E hr h L=>?_
 ·let⟨r,S,fp,v,rfl,⟨dx,np,R,M,T',ts,rs,ms,mv,c,rfl⟩,k⟩:=h;show⟨_,(aA (bH (gH gp.ok (hr.mono FZ) O gp.mg gp.kp gp.bd .nil (jA L) (a7 (fW (K:=K) O (pv 0) O) (a7 (pv 1) a9))))
   (aF (aK (aU (gD (K:=K) O) O T.b_list gN (a7 (px K (fW (K:=K) O (pv 0) O) (pv 1)) a9))))),?_⟩
  show⟨_,O,r,C,dx,_,_,O,c.ins,tx.cls,tx.net,EQ,_,O,np,S.net,v,O,c.net,?_⟩;rcases k with⟨v0,v1,k⟩|⟨hn,k⟩;rotate_left
  ·show .inr ⟨hn,k⟩
  show .inl ⟨v0,v1,?_⟩;have As:v.toNat < S.tips.length:=by rw[c.ok.tl];lia
  have hl:S.tips[v.toNat]?=Y S.tips[v.toNat]:=by simp[As]
  have jh:v.toNat < ts.length:=by rw[c.tl];show As
  have Ai:ts[v.toNat]?=Y ts[v.toNat]:=by simp[jh]
  have Iv:=c.ti _ _ _ Ai hl;show⟨_,O,r,C,dx,_,_,O,c.ins,tx.cls,tx.tips,GD,_,O,.inl ⟨T',_,v,.ref ts[v.toNat],O,O,É c.hT,tJ v0 (by rw[Ø,Ai];rfl),ts[v.toNat],_,O,.inl (É Iv),λ p hp=>k _ p hl hp⟩⟩
def DX (K:Ç) (C:Á):Sp:=λ vs H Q _=>∃(r:Á) (S:RunS) (fp:List Á),vs=[.ref r]/\dW K C H r S fp/\∀ p xs,H p=W->IsL K H (S.rows.map jQ) xs->Q (.ref p) (upd H p (.lst xs))
theorem PN (F:Fun K "book" "Run.book" (eP (bG 45) 9) f fd) (T:Txt mg) (tx:RunTx K C):FnOk P w K mg base fX 1 f fd ["self"] (DX K C):=by
 show F.ok ["self"] λ sc gz A outer s H vs Q E hr h=>?_
 ·let⟨r,S,fp,rfl,⟨dx,np,R,M,T',ts,rs,ms,mv,c,rfl⟩,k⟩:=h;show⟨_,(aF (aK (aU (gD (K:=K) O) O T.b_list gN (a7 (fW (K:=K) O (pv 0) O) a9)))),?_⟩;show⟨_,O,r,C,dx,_,_,O,c.ins,tx.cls,tx.rows,zX,R,_,O,.inl (É c.hR),λ p hp=>k p rs hp c.lR⟩
section
variable {σ:St}{H:Hp}{Q:VK}{t sl r rl na nb:Á}{S:RunS}{fp:List Á}{i j l:Nat}{n m v x:Int}{xs ys:List V}{u:V}
end
end Tw
namespace L2
open PySem PySem.Spec PyProof.Rows TwZ
section
variable {X:Cx}
theorem zH {apos iq:Pos}{T id:String}{r:V->List V->Hp->VK->Prop} (hK:X.K=K) (pa:PlainAttrs T) (slot:Slot T name id) (Cs:typeOf (.builtin id)=pure (.type "method_descriptor")) (hm:VJ X id r) (ho:PE X o to)
  (oq:autoParam (attributeBase o name X.env (eval o X.env)=eval o X.env) _0) (ou:autoParam ((apos.endLine==iq.line)=true) _0):PE X (.Call (.Attribute o name apos) [] [] iq) (UF K T r to):=by subst hK;show SL pa slot Cs hm ho oq ou
end
end L2
namespace Tw
open PySem L2
structure TxtB (mg:Str->Option À):Prop where
 g_MOST_POURED:∃ u,mg "MOST_POURED" =Y u/\aX (.int 1000) u
 g_MOST_TICKS:∃ u,mg "MOST_TICKS" =Y u/\aX (.int 3000) u
def l6 (net:Net) (m:Mom):Row->Option Mom
 |.pour v a=>Y (m.pour v a)
 |.go n ts=>if ts=dM net m n.toNat then Y (dJ net m n.toNat)else W
def iQ (net:Net):Mom->List Row->Option Nat
 |_,[]=>W
 |m,r::rs=>match l6 net m r with
  |none=>Y 0
  |some m'=>(iQ net m' rs).map (· + 1)
theorem CI  (e:l6 net m r=W):iQ net m (r::rs)=Y 0:=by rw[iQ,e]
theorem qV {net:Net}{m m':Mom}{r:Row}{rs:List Row} (e:l6 net m r=Y m'):iQ net m (r::rs)=(iQ net m' rs).map (· + 1):=by rw[iQ,e]
def OA (net:Net) (m:Mom):Row->Prop
 |.pour v a=>0<=v/\v < net.vs.length/\0<=a/\m.poured.getD v.toNat 0+a<=1000
 |.go n ts=>0<=n/\m.tick+n<=3000/\0<=m.tick
def AI (net:Net):Mom->List Row->Prop
 |_,[]=>True
 |m,r::rs=>OA net m r/\∀ m',l6 net m r=Y m'->AI net m' rs
def lieV:Option Nat->V
 |none=>.non
 |some i=>.int (i:Int)
theorem mR  (h:ts=dM net m n.toNat):l6 net m (.go n ts)=Y (dJ net m n.toNat):=Å h
theorem oX  (h:¬ ts=dM net m n.toNat):l6 net m (.go n ts)=none:=Ä h
theorem MomOk.row  (h:MomOk net m) (e:l6 net m r=Y m'):MomOk net m':=by
 cases r with
 |pour v a=>cases(show Y (m.pour v a)=Y m' from e);show h.pour v a
 |go n ts=>
  by_cases q:ts=dM net m n.toNat
  ·rw[mR q]at e;cases e;show pM h _
  ·rw[oX q]at e;cases e
theorem S4  (h:Is K H (jQ r) x):∃(a:Á) (w:Str) (n:Int) (y:V),x=.ref a/\aP K H a [.str w,.int n,y]/\
  ((∃ m,r=.pour n m/\w="pour" /\ y=.int m)\/∃(ts:List (Int×Nat)) (b:Á) (ys:List V),r=.go n ts/\w="go" /\ y=.ref b/\aP K H b ys/\IsL K H (ts.map gQ) ys):=by
 cases r with
 |pour v a=>
  let⟨d,xs,rfl,q,l⟩:=(show Is K H (.tup [.str "pour",.int v,.int a]) x from h).un;let⟨x1,r,rfl,h1,l⟩:=l.un;let⟨x2,r,rfl,h2,l⟩:=l.un;let⟨x3,r,rfl,h3,l⟩:=l.un;have:=l.un0;subst this;rw[h1.us,h2.ui,h3.ui]at q;show⟨d,_,_,_,O,q,.inl ⟨a,O,O,O⟩⟩
 |go n ts=>
  let⟨d,xs,rfl,q,l⟩:=(show Is K H (.tup [.str "go",.int n,.tup (ts.map gQ)]) x from h).un;let⟨x1,r,rfl,h1,l⟩:=l.un;let⟨x2,r,rfl,h2,l⟩:=l.un;let⟨x3,r,rfl,h3,l⟩:=l.un;have:=l.un0;subst this;rw[h1.us,h2.ui]at q;let⟨b,ys,rfl,q3,l3⟩:=h3.un;show⟨d,_,_,_,O,q,.inr ⟨ts,b,ys,O,O,O,q3,l3⟩⟩
theorem AO  (h:Is K H (gQ t) x):∃ a,x=.ref a/\aP K H a [.int t.1,.int (t.2:Int)]:=by
 let⟨d,xs,rfl,q,l⟩:=(show Is K H (.tup [.int t.1,.int (t.2:Int)]) x from h).un;let⟨x1,r,rfl,h1,l⟩:=l.un;let⟨x2,r,rfl,h2,l⟩:=l.un;have:=l.un0;subst this;rw[h1.ui,h2.ui]at q;show⟨d,O,q⟩
def yQ (K:Ç):Sp:=λ vs H Q _=>∃(a:Á) (xs:List V) (lo hi:Int),vs=[.ref a,.int lo,.int hi]/\aP K H a xs/\Q (.bl (decide (lo<=(xs.length:Int)) && decide ((xs.length:Int)<=hi))) H
theorem zP (F:Fun K "is_tuple" "is_tuple" (bG 42) f fd) (T:Txt mg):FnOk P w K mg base fX 1 f fd ["thing","least","most"] (yQ K):=by
 show F.ok ["thing","least","most"] λ sc gz A outer s H vs Q E hr h=>?_
 ·let⟨a,xs,lo,hi,rfl,q,k⟩:=h;show⟨_,(aF (aK (eK (bO (gE (K:=K) O) O T.b_isinstance fT (a7 (pv 0) (a7 (gZ (v:=.ty "tuple") O T.b_tuple bT O) a9))) (fL (pF rY rY (pv 1) (rW K T.b_len (pv 0)) (pv 2)))))),?_⟩;show⟨_,O,_,"tuple",_,Eg,O,.inr ⟨a,xs,O,q,O⟩,MK K,_,O,eS ?_⟩;show⟨_,O,_,O,a,xs,O,.inr q,_,_,O,O,_,O,i9 (λ h1=>?_) λ h1=>?_⟩
  ·rw[h1,Bool.true_and]at k;show⟨_,O,_,_,O,O,k⟩
  ·rw[Bool.not_eq_true]at h1;rw[h1,ag3]at k;show k
def uA (K:Ç):Sp:=λ vs H Q _=>∃(x:V) (m:Mom) (v:Int),vs=[x,.int v]/\Is K H (jB m) x/\0<=v/\v < m.poured.length/\Q (.int (1000 - m.poured.getD v.toNat 0)) H
theorem sM (F:Fun K "most_to_pour" "most_to_pour" (bG 23) f fd) (T:Txt mg) (U:TxtB mg):FnOk P w K mg base fX 1 f fd ["moment","vessel"] (uA K):=by
 show F.ok ["moment","vessel"] λ sc gz A outer s H vs Q E hr h=>?_
 ·let⟨x,m,v,rfl,hx,v0,v1,k⟩:=h;show⟨_,(aF (aK (aW eN (dS O U.g_MOST_POURED) (px K (px K (pv 0) aD) (pv 1))))),?_⟩;let⟨ma,po,st,rfl,q,hs,hp⟩:=o0 hx;have jh:v.toNat < m.poured.length:=by lia
  have hg:m.poured[v.toNat]?=Y (m.poured.getD v.toNat 0):=by rw[Ė,þ jh];rfl
  show⟨_,O,.inr (.inl ⟨ma,_,2,_,O,O,q,O,_,O,.inr (.inl ⟨po,_,v,_,O,O,hp,tJ v0 (by rw[Ø,hg];rfl),_,_,O,O,k⟩)⟩)⟩
def BA (K:Ç):Sp:=λ vs H Q _=>∃(x:V) (m:Mom),vs=[x]/\Is K H (jB m) x/\Q (.int (3000 - m.tick)) H
theorem wJ (F:Fun K "most_to_go" "most_to_go" (bG 24) f fd) (T:Txt mg) (U:TxtB mg):FnOk P w K mg base fX 1 f fd ["moment"] (BA K):=by
 show F.ok ["moment"] λ sc gz A outer s H vs Q E hr h=>?_
 ·let⟨x,m,rfl,hx,k⟩:=h;show⟨_,(aF (aK (aW eN (dS O U.g_MOST_TICKS) (px K (pv 0) aD)))),?_⟩;let⟨ma,po,st,rfl,q,hs,hp⟩:=o0 hx;show⟨_,O,.inr (.inl ⟨ma,_,0,_,O,O,q,O,_,_,O,O,k⟩)⟩
def x9 (K:Ç):Sp:=λ vs H Q _=>∃(x y:V) (net:Net) (m:Mom) (v a:Int),vs=[x,y,.int v,.int a]/\Is K H (cJ net) x/\Is K H (jB m) y/\MomOk net m/\OA net m (.pour v a)/\Q (.bl Eg) H
theorem BY (F:Fun K "may_pour" "may_pour" (bG 55) f fd) (T:Txt mg) (gt:Callee P w K mg base "is_whole" ["thing","least","most"] 1 mP f1 je)
  (pj:Callee P w K mg base "most_to_pour" ["moment","vessel"] 1 (uA K) f2 js):FnOk P w K mg base fX 2 f fd ["net","moment","vessel","amount"] (x9 K):=by
 show F.ok ["net","moment","vessel","amount"] λ sc gz A outer s H vs Q E hr h=>?_
 ·let⟨x,y,net,m,v,a,rfl,hx,hy,kr,⟨v0,v1,a0,a1⟩,k⟩:=h;show⟨_,(aF (aK (eK (cA gt hr (a7 (pv 2) (a7 aD (a7 (aW eN (rW K T.b_len (px K (pv 0) aD)) aD) a9)))) (fL (cA gt hr (a7 (pv 3) (a7 aD (a7 (cA pj hr (a7 (pv 1) (a7 (pv 2) a9))) a9)))))))),?_⟩;let⟨na,nb,nc,xs,ys,rfl,q,q1,l1,q2,l2⟩:=gI hx;have mx:xs.length=net.vs.length:=by rw[l1.length,Ê]
  have pl:=kr.pl;show⟨_,O,_,O,.inr (.inl ⟨na,_,0,_,O,O,q,O,nb,xs,O,.inr q1,_,_,O,O,v,0,_,O,v0,Fn,_,O,eS ?_⟩)⟩;show⟨_,O,_,O,_,O,y,m,v,O,hy,v0,Fn,a,0,_,O,a0,Fn,k⟩
def L3 (K:Ç):Sp:=λ vs H Q _=>∃(a b:Á) (xs ys:List V) (ts us:List (Int×Nat)),vs=[.ref a,.ref b]/\aP K H a xs/\IsL K H (ts.map gQ) xs/\aP K H b ys/\IsL K H (us.map gQ) ys/\us.length<=1000000/\∀ H',aE H H'->Q (.bl (decide (ts=us))) H'
def wO:List (Int×Nat)->List (Int×Nat)->List Bool
 |a::as,b::bs=>decide (a=b)::wO as bs
 |_,_=>[]
theorem CZ:∀(as bs:List (Int×Nat)) (a b:Int×Nat),as.length=bs.length->wO (as++[a]) (bs++[b])=wO as bs++[decide (a=b)]
 |[],[],a,b,_=>rfl
 |c::as,d::bs,a,b,h=>by
  change decide (c=d)::wO (as++[a]) (bs++[b])=decide (c=d)::(wO as bs++[decide (a=b)]);rw[CZ as bs a b (by simpa using h)]
 |[],_::_,_,_,h=>by simp at h
 |_::_,[],_,_,h=>by simp at h
theorem GQ:∀(as bs:List (Int×Nat)),(wO as bs).length<=bs.length
 |[],_=>by simp[wO]
 |_::_,[]=>by simp[wO]
 |a::as,b::bs=>by simp only[wO,Ý];have:=GQ as bs;lia
theorem GR:∀(as bs:List (Int×Nat)),as.length=bs.length->(wO as bs).all id=decide (as=bs)
 |[],[],_=>by simp[wO]
 |c::as,d::bs,h=>by
  change(decide (c=d) && (wO as bs).all id)=_;rw[GR as bs (by simpa using h),ę];simp
 |[],_::_,h=>by simp at h
 |_::_,[],h=>by simp at h
theorem EE (F:Fun K "is_just" "is_just" (bG 56) f fd) (T:Txt mg) (gv:Callee P w K mg base "is_tuple" ["thing","least","most"] 1 (yQ K) f1 je)
  (gt:Callee P w K mg base "is_whole" ["thing","least","most"] 1 lN f2 js):FnOk P w K mg base fX 2 f fd ["thing","tipped"] (L3 K):=by
 show F.ok ["thing","tipped"] λ sc gz A outer s H vs Q E hr h=>?_
 ·let⟨a,b,xs,ys,ts,us,rfl,qa,la,qb,lb,yt,k⟩:=h;show⟨_,(aF (aK (eK (cA gv hr (a7 (pv 0) (a7 (rW K T.b_len (pv 1)) (a7 (rW K T.b_len (pv 1)) a9)))) (fL (bO (n8 (K:=K) O O) O T.b_all Ū (a7 (fQ (λ _ _ h=>h) O (LcOk.mk (N':=["pair","tick","number"]) (fr:=[W,W,W]) O trivial O O O O O trivial) (uT (K:=K) O O T.b_zip (a7 (pv 0) (a7 (pv 1) a9))) (λ _ _ _=>(aM (K:=K) (n:=2) O O (aB (gC 0 ["pair","tick","number"]) (aB (aM (K:=K) (n:=2) O O (aB (gC 1 ["pair","tick","number"]) (aB (gC 2 ["pair","tick","number"]) aL))) aL)))) (λ _ _ _=>c9) (λ _ _ _=>(eK (cA gv hr (a7 (pv 0) (a7 aD (a7 aD a9)))) (eK (cA gt hr (a7 (px K (pv 0) aD) (a7 (pv 1) (a7 (pv 1) a9)))) (fL (cA gt hr (a7 (px K (pv 0) aD) (a7 (pv 2) (a7 (pv 2) a9))))))))) a9)))))),?_⟩;have mx:xs.length=ts.length:=by rw[la.length,Ê]
  have zd:ys.length=us.length:=by rw[lb.length,Ê]
  show⟨_,O,_,O,b,ys,O,.inr qb,_,O,b,ys,O,.inr qb,a,xs,_,_,O,qa,_,O,i9 (λ hT=>?_) λ hF=>?_⟩;rotate_left
  ·have vg:¬ ts=us:=λ e=>hF (by rw[mx,zd,e];simp);have:=k H (Ľ H);rw[Ĉ vg]at this;show this
  ·have hl:ts.length=us.length:=by
    rw[mx,zd,Ĕ,č,č]at hT;lia
   show⟨_,O,_,O,Eg,Eg,a,b,O,⟨_,qa⟩,⟨_,qb⟩,GF (K:=K) (t1:=Eg) (t2:=Eg) (xs:=xs) (ys:=ys) (n:=us.length) Fn zd
    (λ D i r ac H'=>H D=W/\aE H H'/\H' D=Y (.lst r)/\r=(wO (ts.take i) (us.take i)).map V.bl/\∃ u1 u2 u3,ac=[u1,u2,u3])
    (λ D i r ac H' p=>⟨p.2.1.tup qa,p.2.1.tup qb⟩) (λ D hD=>⟨hD,È hD,a8,O,W,W,W,O⟩) ?_ ?_⟩
   rotate_left
   ·rintro D i x y r ac H2 Tt hx hy ⟨hD,sm,ie,rfl,u1,u2,u3,rfl⟩ hT;let⟨d,hd,ix⟩:=la.get' hx;rw[Ø]at hd;let⟨t,ht,rfl⟩:=é.mp hd;let⟨d,hd,iy⟩:=lb.get' hy;rw[Ø]at hd;let⟨u,hu,rfl⟩:=é.mp hd;let⟨xa,rfl,qx⟩:=AO ix;let⟨ya,rfl,qy⟩:=AO iy;have mw:=(Ö.mp hu).1;have mT:=È (o:=HO.tup [.ref xa,.ref ya]) hT;have ng:=sm.trans mT;have Qk:=ng.tup qx;have Y0:=ng.tup qy;show⟨Tt,_,O,Í a8,O,_,_,O,_,_,O,ya,_,O,Y0,O,_,_,O,_,_,O,O,O,?_⟩;show iJ ?_;have hs:wO (ts.take (i+1)) (us.take (i+1))=wO (ts.take i) (us.take i)++[decide (t=u)]:=by
     rw[Ĳ,Ĳ,ht,hu];show CZ _ _ t u (by rw[ß,ß];lia)
    have gr:((wO (ts.take i) (us.take i)).map V.bl).length < sizeLine:=by
     rw[Ê];have:=GQ (ts.take i) (us.take i);rw[ß]at this;show kF Fn
    have fin:∀ c:Bool,c=decide (t=u)->H D=W/\aE H (upd (upd H2 Tt (.tup [.ref xa,.ref ya])) D (.lst ((wO (ts.take i) (us.take i)).map V.bl++[.bl c])))/\upd (upd H2 Tt (.tup [.ref xa,.ref ya])) D (.lst ((wO (ts.take i) (us.take i)).map V.bl++[.bl c])) D=Y (.lst ((wO (ts.take i) (us.take i)).map V.bl++[.bl c]))/\(wO (ts.take i) (us.take i)).map V.bl++[.bl c]=(wO (ts.take (i+1)) (us.take (i+1))).map V.bl:=λ c hc=>by
     subst hc;show⟨hD,ng.put hD,a8,by rw[hs,Ó];rfl⟩
    show⟨_,O,xa,_,2,2,O,Qk,_,O,eS ?_⟩;show⟨_,O,.inr (.inl ⟨xa,_,0,_,O,O,Qk,O,_,O,_,O,_,_,_,O,_,O,i9 (λ h1=>?_) λ h1=>?_⟩)⟩
    ·show⟨_,O,.inr (.inl ⟨xa,_,1,_,O,O,Qk,O,_,O,_,O,_,_,_,O,mT _ _ ie,gr,?_⟩)⟩;have e1:t.1=u.1:=by rw[Ĕ,č,č]at h1;lia
     let⟨g1,g2,g3,g4⟩:=fin (decide ((u.2:Int)<=(t.2:Int)) && decide ((t.2:Int)<=(u.2:Int))) (by
      rw[ę,Ĕ,č,č,č];constructor
      ·intro h;show Prod.ext e1 Fn
      ·intro h;rw[h];show⟨Ć _,Ć _⟩)
     show⟨g1,g2,g3,g4,_,_,_,O⟩
    ·let⟨g1,g2,g3,g4⟩:=fin Eh (by
      symm;rw[decide_eq_false_iff_not];intro h;show h1 (by rw[h];simp))
     show⟨mT _ _ ie,gr,g1,g2,g3,g4,_,_,_,O⟩
   ·rintro D r ac H2 xK;let⟨hD,sm,ie,rfl,_⟩:=xK;rw[đ (Ō hl),đ (Ñ _)]at ie;show⟨Eh,D,_,O,É ie,?_⟩;rw[GR _ _ hl];show k _ sm
def x8 (K:Ç):Sp:=λ vs H Q _=>∃(x y z:V) (net:Net) (m:Mom) (r:Row),vs=[x,y,z]/\Is K H (cJ net) x/\Is K H (jB m) y/\Is K H (jQ r) z/\NetOk net/\MomOk net m/\OA net m r/\
 (l6 net m r=W->∀ H',aE H H'->Q .non H')/\∀ m',l6 net m r=Y m'->∀ p H',aE H H'->Is K H' (jB m') (.ref p)->Q (.ref p) H'
theorem vA (F:Fun K "moment_told" "moment_told" (bG 54) f fd) (T:Txt mg) (gv:Callee P w K mg base "is_tuple" ["thing","least","most"] 1 (yQ K) f1 je)
  (wk:Callee P w K mg base "may_pour" ["net","moment","vessel","amount"] 2 (x9 K) f2 js) (ji:Callee P w K mg base "moment_poured" ["moment","vessel","amount"] 1 (qI K) f3 nj) (gt:Callee P w K mg base "is_whole" ["thing","least","most"] 1 lN f4 ze)
  (tq:Callee P w K mg base "most_to_go" ["moment"] 1 (BA K) f5 Ql) (jc:Callee P w K mg base "moment_gone" ["net","moment","many"] 6 (oO K) f6 Qm) (xn:Callee P w K mg base "is_just" ["thing","tipped"] 2 (L3 K) f7 Qn) :
  FnOk P w K mg base fX 7 f fd ["net","moment","row"] (x8 K):=by
 show F.ok ["net","moment","row","word","what","last","behind","tipped"] λ sc gz A outer s H vs Q E hr h=>?_
 ·let⟨x,y,z,net,m,r,rfl,hx,hy,hz,nok,kr,Iw,k0,k1⟩:=h;show⟨_,(aA (cE (fY (cO (cA gv hr (a7 (pv 2) (a7 aD (a7 aD a9)))))) (aF (aK cH)) bF)
   (aA (bP (pv 2) (aM (K:=K) (n:=3) O O (aB (gL 3 sc.nd) (aB (gL 4 sc.nd) (aB (gL 5 sc.nd) aL)))))
   (aA (cE (PW.pt (E5 (bN lZ (pv 3) eY (bK _)) (zC (cO (cA wk hr (a7 (pv 0) (a7 (pv 1) (a7 (pv 4) (a7 (pv 5) a9))))))))) (aF (aK (cA ji hr (a7 (pv 1) (a7 (pv 4) (a7 (pv 5) a9)))))) bF)
   (aA (cE (PW.pt (E5 (bN lZ (pv 3) eY (bK _)) (zC (cO (cA gt hr (a7 (pv 4) (a7 aD (a7 (cA tq hr (a7 (pv 1) a9)) a9)))))))) (aA (bP (cA jc hr (a7 (pv 0) (a7 (pv 1) (a7 (pv 4) a9)))) (aM (K:=K) (n:=2) O O (aB (gL 6 sc.nd) (aB (gL 7 sc.nd) aL))))
   (aF (aK (pE (cO (cA xn hr (a7 (pv 5) (a7 (pv 7) a9)))) (pv 6) cH)))) bF)
   (aF (aK cH)))))),?_⟩
  let⟨a,wd,n,u,rfl,q,Ae⟩:=S4 hz;show⟨_,O,a,_,3,3,O,q,_,O,eG ?_⟩;show⟨_,O,a,_,O,q,O,_,_,O,_,_,O,_,_,O,O,?_⟩;rcases Ae with⟨am,rfl,rfl,rfl⟩|⟨ts,b,ys,rfl,rfl,rfl,qb,lb⟩
  ·show⟨_,O,O,_,O,JA O ?_⟩;show⟨_,O,_,O,_,O,_,O,x,y,net,m,n,am,O,hx,hy,kr,Iw,_,O,eS ?_⟩;let⟨v0,v1,a0,a1⟩:=Iw;show⟨_,O,_,O,_,O,y,_,m,n,am,O,hy,kr.pl,nok.hi,v0,v1,λ p H' s ip=>k1 _ O p H' s ip⟩
  ·show⟨_,O,O,_,O,i9 (λ z=>absurd (ć z) FZ) λ _=>eG ?_⟩;let⟨n0,n1,t0⟩:=Iw;let⟨nn,rfl⟩:=ŀ n0;show⟨_,O,O,_,O,JA O ?_⟩;show⟨_,O,_,O,y,m,O,hy,_,_,_,O,_,O,?_⟩;show i9 (λ _=>?_) λ z=>absurd (by rw[Ĕ,č,č];constructor <;> lia) z;show⟨_,O,_,O,_,O,x,y,net,m,nn,O,hx,hy,nok,kr,Fn,λ p p1 p2 kg H1 s1 qp ip qt lt=>?_⟩;show⟨p,_,O,qp,O,_,_,O,_,_,O,O,?_⟩;have yg:=iK (m:=m) nok nn;show⟨_,O,_,O,b,p2,ys,kg,ts,_,O,s1.tup qb,Î s1.ts _ _ lb,qt,lt,Fn,λ H2 s2=>⟨_,O,i9 (λ hT=>?_) λ hF=>?_⟩⟩
   ·let⟨pa,_,_,rfl,_⟩:=o0 ip;show⟨_,O,k1 _ (mR (by simpa using hT)) pa _ (s1.trans s2) (Ì s2.ts _ _ ip)⟩
   ·show k0 (oX (by simpa using hF)) _ (s1.trans s2)
def QM (K:Ç):Sp:=λ vs H Q _=>∃(x:V) (l:Á) (net:Net) (rows:List Row) (xs:List V),vs=[x,.ref l]/\Is K H (cJ net) x/\NetOk net/\H l=Y (.lst xs)/\IsL K H (rows.map jQ) xs/\AI net (fZ net) rows/\
 ∀ H',aE H H'->Q (lieV (iQ net (fZ net) rows)) H'
theorem zQ (F:Fun K "first_lie" "first_lie" (bG 53) f fd) (T:Txt mg) (iw:Callee P w K mg base "first_moment" ["net"] 2 (iM K) f1 je)
  (rj:Callee P w K mg base "moment_told" ["net","moment","row"] 7 (x8 K) f2 js):FnOk P w K mg base fX 8 f fd ["net","book"] (QM K):=by
 show F.ok ["net","book","moment","place","row"] λ sc gz A outer s H vs Q E hr h=>?_
 ·let⟨x,l,net,rows,xs,rfl,hx,nok,hl,lx,Iw,k⟩:=h;show⟨_,(aA (pL 2 sc.nd (cA iw hr (a7 (pv 0) a9)))
   (aA (dB ò O (iO (K:=K) O O T.b_enumerate (a7 (pv 1) a9)) (aM (K:=K) (n:=2) O O (aB (gL 3 sc.nd) (aB (gL 4 sc.nd) aL))) (aA (pL 2 sc.nd (cA rj hr (a7 (pv 0) (a7 (pv 2) (a7 (pv 4) a9)))))
   (aF (cE (bN qP (pv 2) cH (bK _)) (aF (aK (pv 3))) bF))))
   (aF (aK cH)))),?_⟩
  have mx:xs.length=rows.length:=by rw[lx.length,Ê]
  show⟨_,O,x,net,O,hx,nok,λ p H1 s1 ip=>?_⟩;show⟨_,O,Eh,l,O,⟨_,É (s1 _ _ hl)⟩,mD (K:=K) (t:=Eh) (a:=l) (xs:=xs)
   (λ i ac H'=>aE H H'/\∃(m:Mom) (p:Á),MomOk net m/\AI net m (rows.drop i)/\iQ net (fZ net) rows=(iQ net m (rows.drop i)).map (· + i)/\Is K H' (jB m) (.ref p)/\∃ v3 v4,ac=[Y x,Y (.ref l),Y (.ref p),v3,v4])
   (λ i ac H' p=>É (p.1 _ _ hl)) ⟨s1,fZ net,p,zW net,Iw,by rw[ag5];cases iQ net (fZ net) rows <;> rfl,ip,W,W,rfl⟩ ?_ ?_⟩
  rotate_left
  ·rintro i y ac H2 Tt hy ⟨sm,m,p,kr,rk,el,ip,v3,v4,rfl⟩ hT;let⟨d,hd,iy⟩:=lx.get' hy;rw[Ø]at hd;let⟨r,Qo,rfl⟩:=é.mp hd;have mw:=(Ö.mp Qo).1;have Y1:rows.drop i=r::rows.drop (i+1):=by
    rw[List.drop_eq_getElem_cons mw];congr 1;rw[þ mw]at Qo;cases Qo;rfl
   rw[Y1]at rk el;let⟨Y2,Y3⟩:=rk;have mT:=È (o:=HO.tup [.int (i:Int),y]) hT;have il:=sm.trans mT;show⟨Tt,_,O,Í a8,O,_,_,O,_,_,O,O,?_⟩;show⟨_,O,_,O,_,O,x,_,y,net,m,r,O,Ì il.ts _ _ hx,Ì mT.ts _ _ ip,Ì il.ts _ _ iy,nok,kr,Y2,λ e0 H3 s3=>?_,λ m' e1 p' H3 s3 Y4=>?_⟩
   ·show⟨_,O,O,_,O,eS ?_⟩;have:iQ net (fZ net) rows=Y i:=by
     rw[el,CI e0];simp
    have kk:=k H3 (il.trans s3);rw[this]at kk;show⟨_,O,kk⟩
   ·show⟨_,O,O,_,O,eG ?_⟩;show⟨il.trans s3,m',p',kr.row e1,Y3 m' e1,?_,Y4,_,_,O⟩;rw[el,qV e1,Option.map_map];cases iQ net m' (rows.drop (i+1))with
    |none=>rfl
    |some j=>show Y (j+1+i)=Y (j+(i+1));congr 1;lia
  ·rintro ac H2 xK;let⟨sm,m,p,kr,rk,el,ip,v3,v4,rfl⟩:=xK;rw[mx,List.drop_length]at el;have kk:=k H2 sm;rw[el]at kk;show kk
def Deed.few:Deed->Prop
 |.pour _ _=>True
 |.go k=>k<=41
theorem RunSz.up  (h:RunSz S B) (hb:B<=B'):RunSz S B':=⟨ý h.rows hb,ý h.pre hb,λ l hl=>ý (h.tips l hl) hb⟩
theorem Q5  (h:RunSz S B) (nok:NetOk S.net) (fw:d.few):RunSz (S.deed d) (B+600):=by
 cases d with
 |pour v a=>show(h.pour v a).up Fn
 |go k=>
  have:k<=41:=fw;show(h.go nok k).up Fn
theorem Q6  (h:RunOk S) (d:Deed):RunOk (S.deed d):=by
 cases d with
 |pour v a=>show h.pour v a
 |go k=>show h.go k
theorem NV (S:RunS) (d:Deed):(S.deed d).net=S.net:=by cases d <;> rfl
section
variable {H:Hp}{r:Á}{S:RunS}{fp:List Á}
variable {t sl kl:Á}{p:V}{net:Net}{l:List RunS}
theorem pY  (s:gY fq H H') (hm:∀ b∈fq,iI (H b)):bD K H H':=by
 intro b xs h;have ne:∀ {o:HO},H b=Y o->¬ iI (Y o)->b∉fq:=λ e n z=>by have:=hm b z;rw[e]at this;show n this
 rcases h with(h|⟨o,h⟩)|h
 ·show .inl (.inl (s _ _ (ne h (λ z=>z)) h))
 ·show .inl (.inr ⟨o,s _ _ (ne h (λ z=>z)) h⟩)
 ·show .inr h
end
section
variable {t sl:Á}{σ:St}{H0:Hp}{a:TE}
end
def gP (net:Net) (ds:List Deed):RunS:=ds.foldl RunS.deed (ID net)
theorem qK (net:Net) (ds:List Deed) (d:Deed):gP net (ds++[d])=(gP net ds).deed d:=by unfold gP;rw[ŕ];rfl
def bQ (net:Net):Mom->List Deed->List Row
 |_,[]=>[]
 |m,.pour v a::ds=>.pour v a::bQ net (m.pour v a) ds
 |m,.go k::ds=>.go (k:Int) (dM net m k)::bQ net (dJ net m k) ds
theorem r9:∀(ds:List Deed) (S:RunS),(ds.foldl RunS.deed S).rows=S.rows++bQ S.net S.cur ds
 |[],S=>by simp[bQ]
 |.pour v a::ds,S=>by
  rw[š,r9 ds];change(S.rows++[Row.pour v a])++bQ S.net (S.cur.pour v a) ds=S.rows++(Row.pour v a::bQ S.net (S.cur.pour v a) ds);rw[ě];rfl
 |.go k::ds,S=>by
  rw[š,r9 ds];change(S.rows++[Row.go (k:Int) (dM S.net S.cur k)])++bQ S.net (dJ S.net S.cur k) ds=S.rows++(Row.go (k:Int) (dM S.net S.cur k)::bQ S.net (dJ S.net S.cur k) ds);rw[ě];rfl
theorem xL (net:Net) (ds:List Deed):(gP net ds).rows=bQ net (fZ net) ds:=by unfold gP;rw[r9];rfl
theorem kH (net:Net):∀(ds:List Deed) (m:Mom),(bQ net m ds).length=ds.length
 |[],m=>rfl
 |.pour v a::ds,m=>by change(bQ net (m.pour v a) ds).length+1=_;rw[kH net ds];rfl
 |.go k::ds,m=>by change(bQ net (dJ net m k) ds).length+1=_;rw[kH net ds];rfl
theorem yA:∀ ts us:List (Int×Nat),eT (c8 (ts.map gQ)) (c8 (us.map gQ))=Eg↔ts=us
 |[],[]=>by simp[c8,eT]
 |[],_::_=>by simp[c8,eT]
 |_::_,[]=>by simp[c8,eT]
 |t::ts,u::us=>by
  rw[Ù,Ù,c8,c8,eT,Ĕ,yA ts us];have e:aZ (fN (gQ t)) (fN (gQ u))=Eg↔t=u:=by
   unfold gQ;rw[fN,fN,aZ,c8,c8,c8,c8,c8,c8,fN,fN,fN,fN,eT,eT,eT,aZ,aZ,Bool.and_true,Ĕ,ļ,ļ];constructor
   ·rintro⟨h1,h2⟩;show Prod.ext h1 Fn
   ·intro h;rw[h];show⟨O,O⟩
  rw[e];constructor
  ·rintro⟨rfl,rfl⟩;rfl
  ·intro h;cases h;show⟨O,O⟩
def oY (a b:Row):Bool:=aZ (fN (jQ a)) (fN (jQ b))
theorem uN (a:Row):oY a a=true:=gM _
theorem BJ :oY (.go n ts) (.go n us)=Eg↔ts=us:=by
 unfold oY;change aZ (fN (.tup [.str "go",.int n,.tup (ts.map gQ)])) (fN (.tup [.str "go",.int n,.tup (us.map gQ)]))=Eg↔_;rw[<- yA ts us];simp[fN,c8,aZ,eT]
theorem w4:∀ ts:List (Int×Nat),bJ (c8 (ts.map gQ))<=1
 |[]=>by rw[í,c8,bJ];show à _
 |t::ts=>by
  rw[Ù,c8,bJ];have h:=w4 ts;have e:cB (fN (gQ t))=1:=by unfold gQ;simp[fN,c8,cB,bJ]
  rw[e];lia
theorem NT (r:Row):cB (fN (jQ r))<=3:=by
 cases r with
 |pour v a=>
  change cB (fN (.tup [.str "pour",.int v,.int a]))<=3;simp[fN,c8,cB,bJ]
 |go n ts=>
  change cB (fN (.tup [.str "go",.int n,.tup (ts.map gQ)]))<=3;have:=w4 ts;simp only[fN,c8,cB,bJ];lia
theorem kT:∀ rs:List Row,bJ (c8 (rs.map jQ))<=3
 |[]=>by rw[í,c8,bJ];show à _
 |r::rs=>by
  rw[Ù,c8,bJ];have h:=kT rs;have e:=NT r;lia
def vG (A B:List Row) (i:Nat):Bool:=match A[i]?,B[i]? with
 |some a,Y b=>!oY a b
 |_,_=>Eh
def CD (A B:List Row):List Nat:=(List.range A.length).filter (vG A B)
theorem xO (a b:Row) (A B:List Row):CD (a::A) (b::B)=(if oY a b=Eg then[]else[0])++(CD A B).map (· + 1):=by
 unfold CD;rw[Ý,afd,List.filter_cons,List.filter_map];have e0:vG (a::A) (b::B) 0= !oY a b:=rfl;have e1:(vG (a::A) (b::B) ∘ Nat.succ)=vG A B:=by
  funext i;unfold vG;change(match (a::A)[i+1]?,(b::B)[i+1]? with|some a,Y b=>!oY a b|_,_=>Eh)=_;rw[ŧ,ŧ]
 rw[e0,e1];cases oY a b <;> rfl
theorem vM (net jy:Net):∀(ds:List Deed) (m m':Mom),iQ jy m' (bQ net m ds)=(CD (bQ net m ds) (bQ jy m' ds)).head?
 |[],m,m'=>rfl
 |.pour v a::ds,m,m'=>by
  have e:l6 jy m' (.pour v a)=Y (m'.pour v a):=rfl;change iQ jy m' (.pour v a::bQ net (m.pour v a) ds)=(CD (.pour v a::bQ net (m.pour v a) ds) (.pour v a::bQ jy (m'.pour v a) ds)).head?;rw[qV e,xO,Å (uN _),ŗ,List.head?_map,vM net jy ds]
 |.go k::ds,m,m'=>by
  change iQ jy m' (.go (k:Int) (dM net m k)::bQ net (dJ net m k) ds)=(CD (.go (k:Int) (dM net m k)::bQ net (dJ net m k) ds) (.go (k:Int) (dM jy m' k)::bQ jy (dJ jy m' k) ds)).head?;rw[xO]
  by_cases h:dM net m k=dM jy m' k
  ·have e:l6 jy m' (.go (k:Int) (dM net m k))=Y (dJ jy m' k):=mR (by rw[ı];show h);rw[qV e,Å (BJ.2 h),ŗ,List.head?_map,vM net jy ds]
  ·have e:l6 jy m' (.go (k:Int) (dM net m k))=none:=oX (by rw[ı];show h);rw[CI e,Ä (λ z=>h (BJ.1 z))];rfl
theorem EH (A:List Row) (i:Nat):vG A A i=false:=by
 unfold vG;cases A[i]? with
 |none=>rfl
 |some a=>show(!oY a a)=Eh;rw[uN];rfl
theorem IV (A:List Row):CD A A=[]:=by
 unfold CD;rw[List.filter_eq_nil_iff];intro i _ h;rw[EH]at h;cases h
def Deed.in_ (n:Nat):Deed->Prop
 |.pour v a=>0<=v/\v < n/\0<=a/\a < 20
 |.go k=>k<=40
structure MomB (m:Mom) (j:Nat):Prop where
 po:∀ i,m.poured.getD i 0<=20 * j
 t0:0<=m.tick
 t1:m.tick<=40 * j
theorem NF (l:List Int) (i j:Nat) (x:Int):(l.set i x).getD j 0=if i=j/\i < l.length then x else l.getD j 0:=by
 rw[Ė,Ė,List.getElem?_set]
 by_cases h:i=j
 ·subst h
  by_cases h2:i < l.length
  ·rw[Å rfl,Å h2,Å ⟨rfl,h2⟩];rfl
  ·rw[Å rfl,Ä h2,Ä (λ z=>h2 z.2),acz Fn]
 ·rw[Ä h,Ä (λ z=>h z.1)]
theorem tM (n i:Nat):(eD n).getD i 0=0:=by
 unfold eD;rw[Ė,aex]
 split <;> rfl
theorem yY  (hn:jy.vs.length=n):∀(ds:List Deed) (m m':Mom) (j:Nat),(∀ d∈ds,d.in_ n)->MomB m' j->j+ds.length<=41->AI jy m' (bQ net m ds)
 |[],m,m',j,_,_,_=>trivial
 |.pour v a::ds,m,m',j,hd,hb,hl=>by
  let⟨v0,v1,a0,a1⟩:=hd _ ă;rw[Ý]at hl;show⟨⟨v0,Fn,a0,?_⟩,λ m2 e=>?_⟩
  ·have:=hb.po v.toNat;lia
  ·cases (show Y (m'.pour v a)=Y m2 from e);show yY hn ds _ _ (j+1) (λ d h=>hd d (ø _ h)) ⟨λ i=>?_,hb.t0,?_⟩ Fn
   ·change(List.set _ _ _).getD i 0<=_;rw[NF]
    split
    ·have:=hb.po v.toNat;lia
    ·have:=hb.po i;lia
   ·have:=hb.t1;change m'.tick<=_;lia
 |.go k::ds,m,m',j,hd,hb,hl=>by
  have hk:k<=40:=hd _ ă;rw[Ý]at hl;have t0:=hb.t0;have t1:=hb.t1;show⟨⟨Fn,Fn,t0⟩,λ m2 e=>?_⟩
  by_cases h:dM net m k=dM jy m' ((k:Int).toNat)
  ·rw[mR h]at e;cases e;rw[ı];show yY hn ds _ _ (j+1) (λ d h=>hd d (ø _ h)) ⟨λ i=>?_,?_,?_⟩ Fn
   ·cases k with
    |zero=>have:=hb.po i;change m'.poured.getD i 0<=_;lia
    |succ k=>show(eD jy.vs.length).getD i 0<=_;rw[tM];lia
   ·rw[qU];lia
   ·rw[qU];lia
  ·rw[oX h]at e;cases e
theorem SR (net:Net):MomB (fZ net) 0:=⟨λ i=>by change(eD _).getD i 0<=_;rw[tM];show Ć _,Ć _,Ć _⟩
theorem E3  (nok:NetOk net):∀(n:Nat) {ds:List Deed},ds.length=n->(∀ d∈ds,d.in_ net.vs.length)->RunOk (gP net ds)/\(gP net ds).net=net/\RunSz (gP net ds) (600 * n):=by
 intro n
 induction n with
 |zero=>
  intro ds hl _;have:=Ť hl;subst this;show⟨G4 nok,O,OU net⟩
 |succ n ih=>
  intro ds hl hd;obtain⟨l,d,rfl⟩:∃ l d,ds=l++[d]:=by
   have vg:ds≠[]:=λ z=>by rw[z]at hl;simp at hl
   show⟨ds.dropLast,ds.getLast vg,(List.dropLast_concat_getLast vg).symm⟩
  rw[Þ,ö]at hl;let⟨h1,h2,h3⟩:=ih (ds:=l) Fn λ d h=>hd d (ľ _ h);rw[qK];show⟨Q6 h1 d,by rw[NV];show h2,?_⟩;have fw:d.few:=by
   have:=hd d G0;cases d with
   |pour v a=>show trivial
   |go k=>have:k<=40:=this;change k<=41;lia
  show(Q5 h3 h1.nok fw).up Fn
theorem vP :∀ {ds:List L2.D}{xs:List V} (i:Nat),L2.IsL K H ds xs->L2.IsL K H (ds.take i) (xs.take i)
 |_,_,0,_=>by rw[ž,ž];show .nil
 |[],_,i+1,h=>by have:=h.un0;subst this;show .nil
 |d::ds,_,i+1,h=>by
  let⟨x,r,rfl,h1,h⟩:=h.un;show .cons h1 (vP i h)
theorem vQ :∀ {ds:List L2.D}{xs:List V} (i:Nat),L2.IsL K H ds xs->L2.IsL K H (ds.drop i) (xs.drop i)
 |_,_,0,h=>h
 |[],_,i+1,h=>by have:=h.un0;subst this;show .nil
 |d::ds,_,i+1,h=>by
  let⟨x,r,rfl,h1,h⟩:=h.un;show vQ i h
def KR (K:Ç):Sp:=λ vs H Q _=>∃(x y:V) (net:Net) (v:Vs) (j:Nat),vs=[x,.int (j:Int),y]/\Is K H (cJ net) x/\net.vs.length<=100/\j < net.vs.length/\Is K H (lB v) y/\
 ∀ p H',aE H H'->Is K H' (cJ ⟨net.vs.take j++[v]++net.vs.drop (j+1),net.sps⟩) p->Q p H'
theorem uZ (F:Fun K "with_vessel" "with_vessel" (bG 41) f fd) (T:Txt mg):FnOk P w K mg base fX 1 f fd ["net","number","vessel"] (KR K):=by
 show F.ok ["net","number","vessel","vessels","spouts"] λ sc gz A outer s H vs Q E hr h=>?_
 ·let⟨x,y,net,v,j,rfl,hx,n2,hj,iv,k⟩:=h;show⟨_,(aA (bP (pv 0) (aM (K:=K) (n:=2) O O (aB (gL 3 sc.nd) (aB (gL 4 sc.nd) aL))))
   (aF (aK (aQ (a7 (aW (xN (K:=K) O) (aW (xN (K:=K) O) (lY (FX (K:=K) O) (pv 3) pC (pB (pv 1))) (aQ (a7 (pv 2) a9))) (lY (FX (K:=K) O) (pv 3) (pB (aW cF (pv 1) aD)) pC)) (a7 (pv 4) a9)))))),?_⟩
  let⟨a,b,c,xs,ys,rfl,q,q1,l1,q2,l2⟩:=gI hx;have mx:xs.length=net.vs.length:=by rw[l1.length,Ê]
  show⟨_,O,a,_,O,q,O,_,_,O,_,_,O,O,?_⟩;have Et:j < xs.length:=by lia
  have Ln:wA xs W (Y (j:Int))=xs.take j:=by
   unfold wA;rw[HT.sIx_none,HT.sIx_nat,ag5,Nat.sub_zero,Ř Fn]
  have wn:wA xs (Y ((j:Int)+1)) W=xs.drop (j+1):=by
   unfold wA;rw[HT.sIx_none,show((j:Int)+1)=((j+1:Nat):Int) by lia,HT.sIx_nat,Ř Fn];show đ (by rw[Ÿ];lia)
  show⟨_,O,_,O,_,O,b,xs,O,q1,?_,λ p1 Ha=>?_⟩
  ·rintro⟨_,z⟩;rw[HT.sIx_nat,Ř Fn]at z;lia
  rw[Ln];have s2:=È (o:=HO.tup (xs.take j)) Ha;have t2:aP K (upd H p1 (.tup (xs.take j))) p1 (xs.take j):=Í a8;generalize upd H p1 (.tup (xs.take j))=H2 at s2 t2;show⟨_,O,(sz0 1),λ p2 pw=>?_⟩;have s3:=È (o:=HO.tup [y]) pw;have t3:aP K (upd H2 p2 (.tup [y])) p2 [y]:=Í a8;generalize upd H2 p2 (.tup [y])=H3 at s3 t3;show⟨p1,p2,_,_,O,O,s3.tup t2,t3,ĝ (aS (by rw[ß,ö];lia)),λ p3 H4 s4 t4=>?_⟩;have Aj:=(s2.trans s3).trans s4;show⟨_,O,_,O,_,_,O,O,_,O,b,xs,O,Aj.tup q1,?_,λ p4 Pf=>?_⟩
  ·rintro⟨z,_⟩;rw[show((j:Int)+1)=((j+1:Nat):Int) by lia,HT.sIx_nat]at z;lia
  rw[wn];have s5:=È (o:=HO.tup (xs.drop (j+1))) Pf;have t5:aP K (upd H4 p4 (.tup (xs.drop (j+1)))) p4 (xs.drop (j+1)):=Í a8;generalize upd H4 p4 (.tup (xs.drop (j+1)))=H5 at s5 t5;show⟨p3,p4,_,_,O,O,s5.tup t4,t5,ĝ (aS (by rw[Þ,ß,Ÿ,ö];lia)),λ p5 H6 s6 t6=>?_⟩;show⟨_,O,(sz0 2),λ p hp=>?_⟩;have s7:=È (o:=HO.tup [.ref p5,.ref c]) hp;have vk:=((Aj.trans s5).trans s6).trans s7;show k _ _ vk (Ð (ds:=[.tup ((net.vs.take j++[v]++net.vs.drop (j+1)).map lB),.tup (net.sps.map sI)]) (Í a8) (.cons (Ð (s7.tup t6) ?_) (.cons (Ð (vk.tup q2) (Î vk.ts _ _ l2)) .nil)));rw[Ó,Ó,ags,List.map_drop];show IsL.append (IsL.append (Î vk.ts _ _ (vP j l1)) (.cons (Ì vk.ts _ _ iv) .nil)) (Î vk.ts _ _ (vQ (j+1) l1))
theorem w6:∀ l:List Int,bJ (c8 (l.map L2.D.int))=0
 |[]=>by rw[í,c8,bJ]
 |i::l=>by rw[Ù,c8,bJ,w6 l];simp[fN,cB]
theorem yG:∀ l:List Bool,bJ (c8 (l.map L2.D.bl))=0
 |[]=>by rw[í,c8,bJ]
 |i::l=>by rw[Ù,c8,bJ,yG l];simp[fN,cB]
section
variable {H:Hp}
structure L31 (K:Ç) (C:Á) (H:Hp) (t sl r:Á) (fp:List Á) (p:V) (net:Net) (ds:List Deed):Prop where
 tp:fH H t sl
 hp:Is K H (cJ net) p
 ra:dW K C H r (gP net ds) fp
 nok:NetOk net
 tf:t∉fp
 sf:sl∉fp
 dok:∀ d∈ds,d.in_ net.vs.length
variable {t sl r bk:Á}{fp:List Á}{p:V}{net:Net}{ds:List Deed}{mo:List V}
theorem L31.tr (h:L31 K C H t sl r fp p net ds):t≠r:=by
 let⟨dx,np,R,M,T,e⟩:=h.ra.ins;let⟨ns,pos,cell,e2,_⟩:=h.tp;show λ z=>by rw[z,e]at e2;cases e2
theorem L31.same  (h:L31 K C H t sl r fp p net ds) (s:aE H H'):L31 K C H' t sl r fp p net ds:=
 { h with tp:=h.tp.same s,hp:=Ì s.ts _ _ h.hp,ra:=h.ra.same s }
theorem L31.draw  (h:L31 K C H t sl r fp p net ds) (b:bS t H H') (Y5:fH H' t sl):L31 K C H' t sl r fp p net ds:=
 { h with tp:=Y5,hp:=Ì (b.ts h.tp.mut) _ _ h.hp,ra:=h.ra.but b h.tp.mut h.tr h.tf }
theorem L31.on  (h:L31 K C H t sl r fp p net ds) (b:gY fp H H') (ra:dW K C H' r (gP net ds') fp) (dok:∀ d∈ds',d.in_ net.vs.length):L31 K C H' t sl r fp p net ds':=
 { h with tp:=h.tp.butL b h.tf h.sf,hp:=Ì (pY b h.ra.mut) _ _ h.hp,ra:=ra,dok:=dok }
theorem L31.off  (h0:L31 K C H0 t sl r fp p net ds) (s:aE H0 H) (hf:∀ b∈fq,H0 b=W) (hm:∀ b∈fq,iI (H b)) (b:gY fq H H'):L31 K C H' t sl r fp p net ds:=by
 have h:=h0.same s;have out:∀ {c:Á}{o:HO},H0 c=Y o->c∉fq:=λ e z=>by rw[hf _ z]at e;cases e
 have ot:t∉fq:=by let⟨o,e⟩:=h0.tp.some;show out e
 have os:sl∉fq:=by let⟨ns,pos,cell,_,e,_⟩:=h0.tp;show out e
 have orr:r∉fq:=by let⟨dx,np,R,M,T,e⟩:=h0.ra.ins;show out e
 have of:∀ c∈fp,c∉fq:=λ c hc=>by let⟨xs,e⟩:=h0.ra.lists c hc;show out e
 show { h with tp:=h.tp.butL b ot os,hp:=Ì (pY b hm) _ _ h.hp,ra:=h.ra.butL b hm orr of }
theorem L31.facts (h:L31 K C H t sl r fp p net ds):RunOk (gP net ds)/\(gP net ds).net=net/\RunSz (gP net ds) (600 * ds.length):=E3 h.nok _ rfl h.dok
end
abbrev O7:=L2.D ⊕ List L2.D
def gT:O7->G
 |.inl d=>fN d
 |.inr ds=>.lst (c8 ds)
def OC:O7->Prop
 |.inl d=>cB (fN d)<=7
 |.inr ds=>bJ (c8 ds)<=7
def AJ (K:Ç) (F H:Hp) (rl:Á):O7->V->Prop
 |.inl d,v=>Is K H d v
 |.inr ds,v=>∃ a xs,v=.ref a/\a≠rl/\F a=W/\H a=Y (.lst xs)/\IsL K H ds xs
theorem AJ.keep  (h:AJ K F H rl g v) (t:bD K H H') (k:∀ b xs,b≠rl->F b=W->H b=Y (.lst xs)->H' b=Y (.lst xs)):AJ K F H' rl g v:=by
 cases g with
 |inl d=>show Ì t _ _ h
 |inr ds=>
  let⟨a,xs,e,n,f,hl,l⟩:=h;show⟨a,xs,e,n,f,k a xs n f hl,Î t _ _ l⟩
theorem AJ.g {g:O7} (h:AJ K F H rl g v):aJ K H (gT g) v:=by
 cases g with
 |inl d=>show Is.g h
 |inr ds=>
  let⟨a,xs,rfl,n,f,hl,l⟩:=h;show aJ.l (É hl) (ĭ l)
theorem AJ.gl  (h:Paired (AJ K F H rl) gs vs):bZ K H (gs.map gT) vs:=by
 induction h with
 |nil=>show ġ
 |cons h t ih=>show .cons h.g ih
theorem D4:∀ {gs:List O7},(∀ g∈gs,OC g)->bJ (gs.map gT)<=8
 |[],_=>by rw[í,bJ];decide
 |g::gs,h=>by
  rw[Ù,bJ];have h1:=D4 (gs:=gs) λ x hx=>h x (ø _ hx);have h2:=h g ă;have:cB (gT g)<=8:=by
   cases g with
   |inl d=>have h2:cB (fN d)<=7:=h2;change cB (fN d)<=8;lia
   |inr ds=>have h2:bJ (c8 ds)<=7:=h2;change cB (.lst (c8 ds))<=8;rw[cB];lia
  lia
def uY (p:Nat×Bool):L2.D:=.tup [.int (p.1:Int),.bl p.2]
def VH (way:Int) (net:Net) (gs:List O7):Prop:=
 (way=0/\((∃ row fs,rG net net 0 0 1=.ends row fs/\gs=row.map λ i=>.inl (.int i))\/(rG net net 0 0 1=.many/\gs=[.inl .non])\/∃ fs,rG net net 0 0 1=.on fs/\gs=fs.map λ q=>.inl (tX q.1)))\/
 (way=1/\((lL net 1=.many/\gs=[.inl .non])\/∃ fs n,lL net 1=.on fs/\jC (cG net 0 1 fs) (aO (cG net 0 1 fs) n)=aO (cG net 0 1 fs) n/\gs=(gJ (cG net 0 1 fs) (aO (cG net 0 1 fs) n)).map λ row=>.inr (row.map uY)))\/
 (way=2/\((∃ row fs,xD net 0 1=.ends row fs/\gs=row.map λ i=>.inl (.int i))\/(xD net 0 1=.many/\gs=[.inl .non])\/∃ fs,xD net 0 1=.on fs/\gs=fs.map λ q=>.inl (dA q.1)))
theorem qL  (h:jC m (aO m n)=aO m n):∀ d,aO m (n+d)=aO m n
 |0=>rfl
 |d+1=>by
  change jC m (aO m (n+d))=_;rw[qL h d,h]
theorem IE  (h:jC m (aO m n)=aO m n) (h':jC m (aO m k)=aO m k):aO m n=aO m k:=by
 rcases Nat.le_total n k with l|l
 ·let⟨d,rfl⟩:=agt l;show(qL h d).symm
 ·let⟨d,rfl⟩:=agt l;show qL h' d
theorem OL  (h:VH way net gs) (h':VH way net Fa):gs=Fa:=by
 rcases h with⟨e,h⟩|⟨e,h⟩|⟨e,h⟩ <;> rcases h' with⟨e',h'⟩|⟨e',h'⟩|⟨e',h'⟩ <;> subst e <;> first|show absurd e' FZ|skip
 ·rcases h with⟨row,fs,a,b⟩|⟨a,b⟩|⟨fs,a,b⟩ <;> rcases h' with⟨Hz,jz,a',b'⟩|⟨a',b'⟩|⟨jz,a',b'⟩ <;> rw[a]at a' <;> cases a' <;> rw[b,b']
 ·rcases h with⟨a,b⟩|⟨fs,n,a,c,b⟩ <;> rcases h' with⟨a',b'⟩|⟨jz,n',a',c',b'⟩ <;> rw[a]at a' <;> cases a' <;> rw[b,b'];rw[IE c c']
 ·rcases h with⟨row,fs,a,b⟩|⟨a,b⟩|⟨fs,a,b⟩ <;> rcases h' with⟨Hz,jz,a',b'⟩|⟨a',b'⟩|⟨jz,a',b'⟩ <;> rw[a]at a' <;> cases a' <;> rw[b,b']
theorem vZ (q:Sta):cB (fN (dA q))<=2:=by
 change cB (fN (.tup [.tup (q.held.map L2.D.int),.tup (q.coming.map L2.D.int),.tup (q.doors.map L2.D.bl)]))<=2;simp only[fN,c8,cB,bJ,w6,yG];decide
theorem NS (q:wS):cB (fN (tX q))<=3:=by
 have h1:=vZ q.1;have h2:=vZ q.2;change cB (fN (.tup [dA q.1,dA q.2]))<=3;simp only[fN,c8,cB,bJ];lia
theorem yF:∀ row:List (Nat×Bool),bJ (c8 (row.map uY))<=1
 |[]=>by rw[í,c8,bJ];decide
 |p::row=>by
  rw[Ù,c8,bJ];have:=yF row;have e:cB (fN (uY p))=1:=by unfold uY;simp[fN,c8,cB,bJ]
  lia
section
variable {F H:Hp}{rl:Á}
theorem Q4:AJ K F H rl (.inl .non) .non:=Is.n (K:=K) (H:=H)
theorem zD:∀ row:List Int,Paired (AJ K F H rl) (row.map λ i=>.inl (.int i)) (row.map V.int)
 |[]=>.nil
 |i::row=>.cons (show Is K H (.int i) (.int i)from Õ i) (zD row)
theorem xV:∀ {row:List (Nat×Bool)}{vs:List V},Paired (λ(p:Nat×Bool) v=>∃ q,v=.ref q/\aP K H q [lG p.1,.bl p.2]) row vs->L2.IsL K H (row.map uY) vs
 |[],_,.nil=>.nil
 |p::row,_,.cons ⟨q,e,h⟩ t=>.cons (by rw[e];show Ð (ds:=[.int (p.1:Int),.bl p.2]) h (.cons (Õ _) (.cons (Is.b _) .nil))) (xV t)
theorem G8 {us:List V}:∀ {m:iX}{vs:List V},Paired (wG K H) m vs->(∀ a,V.ref a∈vs->a≠rl/\F a=W)->Paired (AJ K F H rl) (m.map λ row=>.inr (row.map uY)) vs
 |[],_,.nil,_=>.nil
 |row::m,v::vs,.cons ⟨a,xs,e,h1,h2⟩ t,k=>.cons (by
   subst e;let⟨k1,k2⟩:=k a ă;show⟨a,xs,O,k1,k2,h1,xV h2⟩) (G8 (us:=us) t λ b hb=>k b (ø _ hb))
theorem qM {ae:Type}{dD:ae->L2.D}:∀ {fs:Fs ae}{us:List V},Paired (λ(p:ae×List Int) v=>KeyD K H S (dD p.1) v) fs us->Paired (AJ K F H rl) (fs.map λ q=>.inl (dD q.1)) us
 |[],_,.nil=>.nil
 |_::_,_,.cons h t=>.cons h.is (qM t)
end
theorem SmA.free  (a:SmA Pa Pm Ps H H') (h:H' b=W):H b=none:=by
 have key:∀ {Pt:Á}{pos:Pos}{q:Str},dU H' Pt pos q->b≠Pt:=λ t z=>by
  let⟨ps,e⟩:=t.some;rw[z,e]at h;cases h
 cases e:H b with
 |none=>rfl
 |some o=>rw[a.but b o (key a.t2.a) (key a.t2.l) (key a.t2.s) e]at h;cases h
def B0 (K:Ç) (Pa Pm Ps:Á):Sp:=λ vs H Q _=>∃(way:Int) (x:V) (net:Net),vs=[.int way,x]/\(way=0\/way=1\/way=2)/\Is K H (cJ net) x/\NetOk net/\Tabs3 H Pa Pm Ps/\
 ∀ gs rl us H',SmA Pa Pm Ps H H'->VH way net gs->(∀ g∈gs,OC g)->gs.length<=2000->H rl=W->H' rl=Y (.lst us)->Paired (AJ K H H' rl) gs us->Q (.ref rl) H'
theorem vE (F:Fun K "_law_told" "_law_told" (bG 84) f fd) (T:Txt mg) (lu:mg "TooMany" =Y (.ref gq)) (Qp:PySem.W.exmOne K (.ref gq) (.ref gq)=Y Eg) (N3:Ne3 Pa Pm Ps)
  (oi:CalleeR P w K mg base "least" ["net","watched","most"] 9 (BC K Pm gq) f1 je)
  (ku:CalleeR P w K mg base "soonest" ["net","vessel","most"] 8 (KU K Ps gu gq) f2 js)
  (oj:CalleeR P w K mg base "alike" ["net","other","one","two","most"] 8 (FW K Pa gq) f3 nj):FnOk P w K mg base fX 10 f fd ["way","net"] (B0 K Pa Pm Ps):=by
 show F.ok ["way","net","found"] λ sc gz A outer s H vs Q E hr h=>?_
 ·let⟨way,x,net,rfl,hw,hx,nok,tab,k⟩:=h;let EX:XK:=λ cls _ H'=>SmA Pa Pm Ps H H'/\cls=.ref gq/\VH way net [.inl .non];show⟨_,(aA (pL 2 sc.nd (bC (a7 cH a9)))
   (aA (OY (EX:=EX) O O (λ pn xe hx=>(aF (cE (bN lZ (pv 0) aD (bK _)) (aF (pL 2 sc.nd (px K (gH oj.ok (hr.mono FZ) O oj.mg oj.kp oj.bd .nil hx (a7 (pv 1) (a7 (pv 1) (a7 aD (a7 aD (a7 aD a9)))))) aD))) (aF (cE (bN lZ (pv 0) aD (bK _)) (aF (pL 2 sc.nd (gH oi.ok (hr.mono FZ) O oi.mg oi.kp oi.bd .nil hx (a7 (pv 1) (a7 aD (a7 aD a9)))))) (aF (pL 2 sc.nd (px K (gH ku.ok (hr.mono FZ) O ku.mg ku.kp ku.bd .nil hx (a7 (pv 1) (a7 aD (a7 aD a9)))) aD)))))))) O lu (λ ea=>(aF (pL 2 sc.nd (bC (a7 cH a9))))))
   (aF (aK (pv 2))))),?_⟩
  have n1:=nok.lo;show⟨(sz0 1),λ l0 Qq=>?_⟩;have s0:=È (o:=HO.lst [.non]) Qq;generalize upd H l0 (.lst [.non])=H0 at s0 ⊢;have nz:=Ì s0.ts _ _ hx;have lw:=tab.same s0;have A0:SmA Pa Pm Ps H H0:=tab.of s0;dsimp only[kB,nA,eJ,tC];have Ix:∀ g∈[(.inl .non:O7)],OC g:=λ g hg=>by
   rw[ù]at hg;subst hg;change cB (fN .non)<=7;simp[fN,cB]
  have Iy:∀ row:List Int,∀ g∈(row.map λ i=>(.inl (.int i):O7)),OC g:=λ row g hg=>by
   let⟨i,_,rfl⟩:=å.1 hg;change cB (fN (.int i))<=7;simp[fN,cB]
  show⟨?_,?_⟩
  ·rcases hw with rfl|rfl|rfl
   ·show⟨_,O,O,_,O,eS ?_⟩;show⟨_,O,_,O,x,x,net,net,0,0,1,O,nz,nz,nok,nok,FZ,lw.a,λ row fs e p rl H3 s3 qp jg tj gr=>?_,λ e H3 s3=>⟨A0.trans (SmA.ofA s3 lw N3),O,.inl ⟨O,.inr (.inl ⟨e,O⟩)⟩⟩,λ fs e p fl us H3 s3 qp mm zo pr _ gr=>?_⟩
    ·show .inr (.inl ⟨p,_,1,_,O,O,qp,O,?_⟩);show⟨_,O,k _ rl _ H3 (A0.trans (SmA.ofA s3 lw N3)) (.inl ⟨O,.inl ⟨row,fs,e,O⟩⟩) (Iy row) (by rw[Ê];show gr) (s0.free tj) jg (zD row)⟩
    ·show .inr (.inl ⟨p,_,1,_,O,O,qp,O,?_⟩);show⟨_,O,k _ fl us H3 (A0.trans (SmA.ofA s3 lw N3)) (.inl ⟨O,.inr (.inr ⟨fs,e,O⟩)⟩) (λ g hg=>?_) (by rw[Ê];lia) (s0.free zo) mm (qM pr)⟩;let⟨q,_,rfl⟩:=å.1 hg;have:=NS q.1;change cB (fN (tX q.1))<=7;lia
   ·show⟨_,O,O,_,O,eG ?_⟩;show⟨_,O,O,_,O,eS ?_⟩;show⟨_,O,x,net,0,1,O,nz,nok,FZ,lw.l,λ e H3 s3=>⟨A0.trans (SmA.ofL s3 lw N3),O,.inr (.inl ⟨O,.inl ⟨e,O⟩⟩)⟩,λ fs e n rl H3 s3 hf hM Qr tj hl=>?_⟩;let⟨us,jg,pr⟩:=hM;show⟨_,O,k _ rl us H3 (A0.trans (SmA.ofL s3 lw N3)) (.inr (.inl ⟨O,.inr ⟨fs,n,e,hf,O⟩⟩)) (λ g hg=>?_) ?_ (s0.free tj) jg (G8 (us:=us) pr λ a ha=>?_)⟩
    ·let⟨row,_,rfl⟩:=å.1 hg;have:=yF row;change bJ (c8 (row.map uY))<=7;lia
    ·rw[Ê];unfold gJ;rw[Ê,ė];have h1:=iG (aO (cG net 0 1 fs) n);rw[cX]at h1;have h2:(cG net 0 1 fs).length=fs.length:=by unfold cG;rw[Ê]
     lia
    ·let⟨h1,h2⟩:=Qr us jg a ha;show⟨h1,s0.free h2⟩
   ·show⟨_,O,O,_,O,eG ?_⟩;show⟨_,O,O,_,O,eG ?_⟩;show⟨_,O,x,net,0,1,O,nz,nok,FZ,lw.s,.inl ⟨FZ,Fn,λ row fs e p rl H3 s3 qp jg tj gr=>?_,λ e H3 s3=>⟨A0.trans (SmA.ofS s3 lw N3),O,.inr (.inr ⟨O,.inr (.inl ⟨e,O⟩)⟩)⟩,λ fs e p fl us H3 s3 qp mm zo pr _ gr=>?_⟩⟩
    ·show .inr (.inl ⟨p,_,1,_,O,O,qp,O,?_⟩);show⟨_,O,k _ rl _ H3 (A0.trans (SmA.ofS s3 lw N3)) (.inr (.inr ⟨O,.inl ⟨row,fs,e,O⟩⟩)) (Iy row) (by rw[Ê];show gr) (s0.free tj) jg (zD row)⟩
    ·show .inr (.inl ⟨p,_,1,_,O,O,qp,O,?_⟩);show⟨_,O,k _ fl us H3 (A0.trans (SmA.ofS s3 lw N3)) (.inr (.inr ⟨O,.inr (.inr ⟨fs,e,O⟩)⟩)) (λ g hg=>?_) (by rw[Ê];lia) (s0.free zo) mm (qM pr)⟩;let⟨q,_,rfl⟩:=å.1 hg;have:=vZ q.1;change cB (fN (dA q.1))<=7;lia
  ·rintro cls H' ea ac ⟨sH,rfl,ht⟩ gr Af;obtain⟨u0,u1,u2,rfl⟩:∃ u0 u1 u2,ac=[u0,u1,u2]:=by
    match ac,gr with
    |[u0,u1,u2],_=>show⟨_,_,_,O⟩
   have s1:=È (o:=TJ ea (.ref gq)) Af;show⟨Qp,?_⟩;show⟨(sz0 1),λ l1 uj=>?_⟩;have s2:=È (o:=HO.lst [.non]) uj;show⟨_,O,k _ l1 [.non] _ (sH.step (s1.trans s2)) ht Ix FZ ?_ a8 (.cons Q4 .nil)⟩;show sH.free (s1.free uj)
end Tw
namespace L2
open PySem PySem.Spec PyProof.Rows TwZ Tw
section
variable {H H':Hp}{t:Á}
theorem aE.lst  (s:aE H H') (h:bE K H a xs):bE K H' a xs:=by
 rcases h with(h|⟨o,h⟩)|h
 ·show .inl (.inl (s _ _ h))
 ·show .inl (.inr ⟨o,s _ _ h⟩)
 ·show .inr h
mutual
theorem aJ.same (s:aE H H'):∀ {g:G}{v:V},aJ K H g v->aJ K H' g v
 |.non,v,h=>by rw[aJ]at h ⊢;show h
 |.bl b,v,h=>by rw[aJ]at h ⊢;show h
 |.int i,v,h=>by rw[aJ]at h ⊢;show h
 |.str z,v,h=>by rw[aJ]at h ⊢;show h
 |.tup gs,v,h=>by
  rw[aJ]at h ⊢;let⟨a,xs,e,q,l⟩:=h;show⟨a,xs,e,s.tup q,bZ.same s l⟩
 |.lst gs,v,h=>by
  rw[aJ]at h ⊢;let⟨a,xs,e,q,l⟩:=h;show⟨a,xs,e,s.lst q,bZ.same s l⟩
theorem bZ.same (s:aE H H'):∀ {gs:List G}{vs:List V},bZ K H gs vs->bZ K H' gs vs
 |[],vs,h=>by rw[bZ]at h ⊢;show h
 |g::gs,vs,h=>by
  rw[bZ]at h ⊢;let⟨x,r,e,h1,h2⟩:=h;show⟨x,r,e,aJ.same s h1,bZ.same s h2⟩
end
theorem aJ.ut  (h:aJ K H (.tup gs) v):∃ a xs,v=.ref a/\aP K H a xs/\bZ K H gs xs:=by rw[aJ]at h;show h
theorem aJ.ul  (h:aJ K H (.lst gs) v):∃ a xs,v=.ref a/\bE K H a xs/\bZ K H gs xs:=by rw[aJ]at h;show h
end
def xS:G->String
 |.non => "NoneType"
 |.bl _ => "bool"
 |.int _ => "int"
 |.str _ => "str"
 |.tup _ => "tuple"
 |.lst _ => "list"
def JB (g:G) (T:String):Bool:=xS g==T || (xS g== "bool" && T== "int")
def qX:List String:=["tuple","int","bool","str","list"]
theorem MN (K:Ç) (h:A=T/\b=Eg\/¬ ((Value.type A==Value.type T)=Eg)/\PySem.W.kitMeta T=Eg/\PySem.W.subIn K (.type A) (.type T)=Y b):PySem.W.kitOne K (.type A) (.type T)=Y b:=by
 unfold PySem.W.kitOne;rcases h with⟨rfl,rfl⟩|⟨h1,h2,h3⟩
 ·rw[Å G0]
 ·rw[Ä h1];change(if PySem.W.kitMeta T=Eg then PySem.W.subIn K (.type A) (.type T)else W)=Y b;rw[Å h2,h3]
theorem PX (K:Ç):∀ A∈["NoneType","bool","int","str","tuple","list"],∀ T∈qX,PySem.W.kitOne K (.type A) (.type T)=Y (A == T || (A == "bool" && T == "int")):=by
 intro A hA T hT;simp only[qX,Ò,ù,Ĝ,or_false]at hA hT;rcases hA with rfl|rfl|rfl|rfl|rfl|rfl <;> rcases hT with rfl|rfl|rfl|rfl|rfl <;>
  first
   |show MN K (.inl ⟨O,FY⟩)
   |show MN K (.inr ⟨FY,FY,O⟩)
theorem V5 (K:Ç) (g:G) (h:T∈qX):PySem.W.kitOne K (.type (xS g)) (.type T)=Y (JB g T):=PX K _ (by cases g <;> simp[xS]) T h
def QW (K:Ç):List V->Hp->VK->Prop:=λ xs H Q=>∃ x T g,xs=[x,.ty T]/\T∈qX/\aJ K H g x/\Q (.bl (JB g T)) H
section
variable {X:Cx}
theorem JU:eV X (.builtin "isinstance") (QW X.K):=by
 intro gj s σ H xs us Q I r h;let⟨x,T,g,rfl,hT,hg,q⟩:=h;let⟨u,v,rfl,ru,rv⟩:=r.two;cases rv;have e:=V5 X.K g hT;cases g with
 |non=>rw[aJ]at hg;subst hg;show jU I ru .non e λ tk=>⟨.bl _,H,I.tok tk,O,q⟩
 |bl b=>rw[aJ]at hg;subst hg;show jU I ru (.bl b) e λ tk=>⟨.bl _,H,I.tok tk,O,q⟩
 |int b=>rw[aJ]at hg;subst hg;show jU I ru (.int b) e λ tk=>⟨.bl _,H,I.tok tk,O,q⟩
 |str b=>rw[aJ]at hg;subst hg;show jU I ru (.str b) e λ tk=>⟨.bl _,H,I.tok tk,O,q⟩
 |tup gs=>
  let⟨a,ys,rfl,hq,_⟩:=hg.ut;cases(show u=Value.ref a from ru);let⟨its,Tf,⟨o,h1,h2,_⟩,_⟩:=I.tuple hq;show Ď agc I.kIn ⟨o,h1,h2⟩ e (λ z=>nomatch z) λ tk=>⟨.bl _,H,I.tok tk,O,q⟩
 |lst gs=>
  let⟨a,ys,rfl,hq,_⟩:=hg.ul;cases(show u=Value.ref a from ru);let⟨its,Tf,⟨o,n,h1,h2,_⟩,_⟩:=I.list hq;show Ď agh I.kIn ⟨o,h1,h2⟩ e (λ z=>nomatch z) λ tk=>⟨.bl _,H,I.tok tk,O,q⟩
theorem wD  (hK:X.K=K):eV X (.builtin "isinstance") (QW K):=by subst hK;show JU
end
end L2
namespace Tw
open PySem L2
def FJ (H H':Hp):Prop:=∀ b o,H b=Y o->(∀ ps,o≠.tbl ps)->H' b=Y o
def FK (H H':Hp):Prop:=∀ b o,H b=Y o->(∀ xs,o≠.lst xs)->H' b=Y o
section
variable {H H' lg:Hp}{Pa Pm Ps:Á}
theorem FJ.trans (a:FJ H H') (b:FJ H' lg):FJ H lg:=λ c o e n=>b c o (a c o e n) n
theorem aE.old (s:aE H H'):FJ H H':=λ b o e _=>s b o e
theorem SmA.old (a:SmA Pa Pm Ps H H'):FJ H H':=λ _ _ e n=>a.get e n
theorem FJ.lst (a:FJ H H') (e:H b=Y (.lst xs)):H' b=Y (.lst xs):=a _ _ e λ ps z=>by cases z
theorem FJ.ts (a:FJ H H'):bD K H H':=λ b xs h=>by
 rcases h with(h|⟨o,h⟩)|h
 ·show .inl (.inl (a _ _ h λ ps z=>by cases z))
 ·show .inl (.inr ⟨o,a _ _ h λ ps z=>by cases z⟩)
 ·show .inr h
theorem FK.put  (h:H c=Y (.lst xs)):FK H (upd H c (.lst ys)):=λ b u e n=>by rw[aG (λ z=>by rw[z,h]at e;show n xs (ç e).symm)];show e
theorem FK.ts (a:FK H H'):bD K H H':=λ b xs h=>by
 rcases h with(h|⟨o,h⟩)|h
 ·show .inl (.inl (a _ _ h λ ps z=>by cases z))
 ·show .inl (.inr ⟨o,a _ _ h λ ps z=>by cases z⟩)
 ·show .inr h
theorem FK.tab  (a:FK H H') (t:dU H Pt pos q):dU H' Pt pos q:=by
 rcases t with h|⟨c,oc,vs,tk,h1,h2,h3⟩
 ·show .inl (a _ _ h λ ps z=>by cases z)
 ·show .inr ⟨c,oc,vs,tk,a _ _ h1 (λ ps z=>by cases z),a _ _ h2 (λ ps z=>by cases z),h3⟩
theorem Tabs3.noL (t:Tabs3 H Pa Pm Ps) (a:FK H H'):Tabs3 H' Pa Pm Ps:=⟨a.tab t.a,a.tab t.l,a.tab t.s⟩
theorem dW.noL  (c:dW K C H r S fp) (b:gY fp H H'):FK H H':=λ x o e n=>b x o (λ z=>by
 let⟨xs,h⟩:=c.lists x z;rw[h]at e;show n xs (ç e).symm) e
theorem fH.noL  (h:fH H t sl) (b:bS t H H'):FK H H':=λ x o e n=>b x o (λ z=>by
 let⟨ns,pos,cell,h,_⟩:=h;rw[z,h]at e;show n _ (ç e).symm) e
theorem dW.old  (c:dW K C H r S fp) (a:FJ H H'):dW K C H' r S fp:=by
 let⟨dx,np,R,M,T,ts,rs,ms,mv,c,rfl⟩:=c;show⟨dx,np,R,M,T,ts,rs,ms,mv,c.keep a.ts λ b hb=>?_,O⟩;rcases Ò.1 hb with rfl|hb
 ·rw[a _ _ c.ins (λ ps z=>by cases z),c.ins]
 ·let⟨xs,e⟩:=c.lists b hb;rw[a.lst e,e]
theorem L31.old  (h:L31 K C H t sl r fp p net ds) (a:FJ H H'):L31 K C H' t sl r fp p net ds:=by
 show { h with tp:=?_,hp:=Ì a.ts _ _ h.hp,ra:=h.ra.old a };let⟨ns,pos,cell,e,f,g⟩:=h.tp;show⟨ns,pos,cell,a.lst e,a.lst f,g⟩
end
def OI (H H':Hp) (D:Á) (Ls:List (List V)) (r:List V):Prop:=Paired (λ(ys:List V) v=>∃ c,v=.ref c/\c≠D/\H c=W/\H' c=Y (.lst ys)) Ls r
theorem OI.snoc {D c:Á} (h:OI H H' D Ls r) (s:aE H H') (hD:H D=W) (hl:H' D=Y (.lst r)) (hc:H' c=W):OI H (upd (upd H' c (.lst ys)) D (.lst (r++[.ref c]))) D (Ls++[ys]) (r++[.ref c]):=by
 have n:c≠D:=λ z=>by rw[z,hl]at hc;cases hc
 show Ę (ë h λ ys v ⟨d,e,h1,h2,h3⟩=>⟨d,e,h1,h2,?_⟩) ⟨c,O,n,s.free hc,?_⟩
 ·rw[aG h1,aG (aI h3 hc)];show h3
 ·rw[aG n];show a8
theorem aJ.sameL  (h:H a=Y (.lst xs)) (l:bZ K H gs xs):aJ K H (.lst gs) (.ref a):=aJ.l (É h) l
def û:=@aJ.sameL
end Tw
namespace HT
open PySem PySem.Spec PyProof.Rows L2
section
variable {prog:Ã}{A:Around}{E:À->Â->Prop}{s:Â}
theorem getItem_tuple_whole {t sl:Á}{items:Array À}{vl vu:À}{lo hi:Option Int}{Q:À->Â->Prop} (ht:IsTup s.heap t items) (hs:s.heap.IsSliceOf sl vl vu .none) (pl:IsPart vl lo) (pu:IsPart vu hi)
  (hw:sIx items.size 0 lo=0/\sIx items.size items.size hi=items.size) (h:Q (.ref t) s):wpAny (model prog w) A (getItem (.ref t) (.ref sl)) Q E s:=by
 let⟨os,Cp,El,Cq⟩:=id hs;have Mo:s.TypeIs (.ref sl) "slice" :=⟨os,Cp,El⟩;unfold getItem
 try with_reducible show ü ?_
 first|show Æ (Ë ?_)|skip
 show Æ (wpAny_sequenceKey ht.typeIs FZ ?_);show Æ (Ĵ (name:=Str.ofString "__getitem__") ht.typeIs ţ
  (ē ţ ht.typeIs entry_tuple_getitem ?_ (args_tuple_getitem _ _)))
 change wpAny _ _ (Builtin.Tuple.tupleItemsOf (.ref t) >>= _) _ _ s;show Æ (tupleItemsOf_ ht ?_);show Æ (wpAny_typeOf Mo ?_);rw[Å FZ];show Æ (jK hs pl pu ?_);have Qs:(((sIx items.size 0 lo:Nat):Int)== 0 && (1:Int)== 1 && (sIx items.size items.size hi - sIx items.size 0 lo)==items.size)=true:=by
  rw[hw.1,hw.2];simp
 change wpAny _ _ (if (((sIx items.size 0 lo:Nat):Int)== 0 && (1:Int)== 1 && (sIx items.size items.size hi - sIx items.size 0 lo)==items.size)=Eg then _ else _) _ _ s;rw[Å Qs];show Æ ?_;show Æ (m:=Builtin.Tuple.tupleIsExact (.ref t)) ?_;unfold Builtin.Tuple.tupleIsExact;show Æ (wpAny_typeOf ht.typeIs (Ë ?_));show Ë ?_;rw[Å FZ];show Æ (Č ?_);show Ë ?_;show⟨_,O,Ë ?_⟩;show h
end
end HT
namespace L2
open PySem
section
variable {X:Cx}
def QQ (K:Ç):V->Option Int->Option Int->Hp->VK->Prop:=λ x lo hi H Q=>∃ a xs,x=.ref a/\aP K H a xs/\
 ((HT.sIx xs.length 0 lo=0/\HT.sIx xs.length xs.length hi=xs.length)->Q (.ref a) H)/\
 (¬ (HT.sIx xs.length 0 lo=0/\HT.sIx xs.length xs.length hi=xs.length)->∀ p,H p=W->Q (.ref p) (upd H p (.tup (wA xs lo hi))))
theorem yU (hK:X.K=K):SlR X (QQ K):=by
 subst hK;intro gj s σ H x v vl vu lo hi sl Q I rx hs pl pu h;let⟨a,xs,rfl,hx,q1,q2⟩:=h
 by_cases hw:HT.sIx xs.length 0 lo=0/\HT.sIx xs.length xs.length hi=xs.length
 ·have q1:=q1 hw;cases rx;let⟨its,r,ht,hz⟩:=I.tuple hx;have gr:its.toArray.size=xs.length:=by rw[Ü];show r.length.symm
  show⟨"tuple",_,PyProof.Rows.slot_tuple_getitem.lookup,ht.typeIs,?_⟩;show HT.getItem_tuple_whole ht hs pl pu (by rw[gr];show hw) ⟨.ref a,H,I,O,q1⟩
 ·show L6 gj s σ H _ v vl vu lo hi sl Q I rx hs pl pu ⟨a,xs,O,hx,hw,q2 hw⟩
end
end L2
namespace Tw
open PySem L2
theorem Ext.sm  (e:Ext t sl H H1) (s:aE H1 H2):Ext t sl H H2:=⟨e.bt.trans s.but,e.tp.same s⟩
theorem pR :∀(n:Nat) {ds:List L2.D}{xs:List V},L2.IsL K H ds xs->L2.IsL K H (ds.take n) (xs.take n)
 |0,_,_,_=>.nil
 |n+1,[],xs,h=>by
  have:=h.length;cases xs with
  |nil=>show .nil
  |cons _ _=>simp at this
 |n+1,d::ds,xs,h=>by
  cases xs with
  |nil=>have:=h.length;simp at this
  |cons x xs=>
   rw[L2.IsL]at h;let⟨x1,r,e,h1,h2⟩:=h;cases e;show .cons h1 (pR n h2)
theorem uF  (q:aP K H a xs) (k:∀ b H',aE H H'->aP K H' b (xs.take n)->Q (.ref b) H'):QQ K (.ref a) W (Y (n:Int)) H Q:=by
 show(bU a xs O ⟨q,λ h=>?_,λ h p hp=>?_⟩)
 ·have h2:=h.2;rw[HT.sIx_nat]at h2;have e:xs.take n=xs:=đ Fn;show k a H (Ľ H) (by rw[e];show q)
 ·have e:wA xs W (Y (n:Int))=xs.take n:=by
   unfold wA;rw[HT.sIx_none,HT.sIx_nat,ag5,Nat.sub_zero];rcases Nat.le_total n xs.length with h|h
   ·rw[Ř h]
   ·rw[Nat.min_eq_right h,æ,đ h]
  rw[e];show k p _ (È hp) (Í a8)
def nB (s:AH):AH:=(s.1,s.2.1 % 2,s.2.2)
def qJ (m:Nat) (as:List (Str×Int)):List (Str×Int):=as.filter λ a=>decide (a.2 < m)
theorem IA {as:List (Str×Int)}{t':Str×Int} (Ez:as[j]?=Y t'):qJ m (as.take (j+1))=qJ m (as.take j)++(if t'.2 < m then[t']else[]):=by
 unfold qJ;rw[Ĳ,Ez,Œ];change _++List.filter _ [t']=_
 by_cases c:t'.2 < m
 ·rw[Å c,List.filter_cons_of_pos (by show ð c)];rfl
 ·rw[Ä c,List.filter_cons_of_neg (by simpa using c)];rfl
def UJ (m:Nat) (v:Vs):Vs:=⟨if 3 < v.size then 3 else v.size,(if 3 < v.size then 3 else v.size)+v.brim % 2,v.outs.take 2,v.holds,v.spill,(qJ m v.acts).take 1⟩
def L5 (net:Net):Net:=⟨net.vs.map (UJ ((net.sps.take 2).map nB).length),(net.sps.take 2).map nB⟩
theorem OQ  (nok:NetOk net):NetOk (L5 net):=by
 show⟨by change 1<=(net.vs.map _).length;rw[Ê];show nok.lo,by change(net.vs.map _).length<=12;rw[Ê];show nok.hi,?_,λ v hv=>?_,λ s hs=>?_⟩
 ·change((net.sps.take 2).map nB).length<=12;rw[Ê,ß];lia
 ·let⟨u,hu,rfl⟩:=å.1 hv;have ok:=nok.vs u hu;have el:(L5 net).vs.length=net.vs.length:=by change(net.vs.map _).length=_;rw[Ê]
  rw[el];have ho3:=ok.o3;have Fb:=ok.a3;show⟨?_,?_,?_,λ o ho=>ok.outs o (Ő ho),ok.spill,?_,λ a ha=>?_⟩
  ·change 1<=if 3 < u.size then 3 else u.size
   have:=ok.size
   split <;> lia
  ·change u.outs.take 2≠[];have:=ok.ne;cases hq:u.outs with
   |nil=>show absurd hq this
   |cons x r=>simp
  ·change(u.outs.take 2).length<=3;rw[ß];lia
  ·change((qJ _ u.acts).take 1).length<=3;rw[ß];lia
  ·have vh:a∈qJ ((net.sps.take 2).map nB).length u.acts:=Ő ha;unfold qJ at vh;rw[List.mem_filter]at vh;have Dm:=ok.acts a vh.1;show⟨Dm.word,Dm.lo,ć vh.2⟩
 ·let⟨u,hu,rfl⟩:=å.1 hs;have:=nok.sps u (Ő hu);change 0<=u.1/\u.1 < ((net.vs.map _).length:Int);rw[Ê];show this
def FP (K:Ç):Sp:=λ args H Q _=>∃(t sl:Á),args=[.ref t]/\fH H t sl/\∀(net:Net) p H',Ext t sl H H'->NetOk net->net.vs.length<=2->Is K H' (cJ net) p->Q p H'
def KW (K:Ç):Sp:=λ args H Q _=>∃(t sl:Á),args=[.ref t]/\fH H t sl/\∀(net:Net) p H',Ext t sl H H'->NetOk net->net.vs.length<=2->net.sps.length<=2->Is K H' (cJ net) p->Q p H'
theorem vF (F:Fun K "_law_small" "_law_small" (bG 83) f fd) (T:Txt mg) (jo:Callee P w K mg base "_law_net" ["tape","most","small"] 4 (yS K) f1 je) :
  FnOk P w K mg base fX 5 f fd ["tape"] (KW K):=by
 show F.ok ["tape","net","spouts","vessels","size","brim","outs","holds","spill","acts"] λ sc gz A outer s H vs Q E hr h=>?_
 ·let⟨t,sl,rfl,tp,k⟩:=h;show⟨_,(aA (pL 1 sc.nd (cA jo hr (a7 (pv 0) (a7 aD (a7 eI a9)))))
   (aA (iN (i:=2) sc.nd O (Or.inr O) (aU (bR (K:=K) O) O T.b_tuple bT (a7 (fQ (λ _ _ h=>h) O (LcOk.mk (N':=["target","flow","is_open"]) (fr:=[W,W,W]) O trivial O O O O O trivial) (eZ (K:=K) O (lY (yU (K:=K) O) (px K (pv 1) aD) pC (pB aD))) (λ _ _ _=>(aM (K:=K) (n:=3) O O (aB (gC 0 ["target","flow","is_open"]) (aB (gC 1 ["target","flow","is_open"]) (aB (gC 2 ["target","flow","is_open"]) aL))))) (λ _ _ _=>c9) (λ _ _ _=>(aQ (a7 (pv 0) (a7 (aW nW (pv 1) aD) (a7 (pv 2) a9)))))) a9)))
   (aA (pL 3 sc.nd (bC a9))
   (aA (dB ò O (eZ (K:=K) O (px K (pv 1) aD)) (aM (K:=K) (n:=6) O O (aB (gL 4 sc.nd) (aB (gL 5 sc.nd) (aB (gL 6 sc.nd) (aB (gL 7 sc.nd) (aB (gL 8 sc.nd) (aB (gL 9 sc.nd) aL))))))) (aA (pL 9 sc.nd (aU (bR (K:=K) O) O T.b_tuple bT (a7 (fQ (λ _ _ h=>h) O (LcOk.mk (N':=["act","spouts"]) (fr:=[W,Y 2]) O ⟨O,trivial⟩ O O O O O ⟨⟨_,O,O,O,O⟩,trivial⟩) (eZ (K:=K) O (pv 9)) (λ _ _ _=>(gC 0 ["act","spouts"])) (λ _ _ _=>sX (bN rX (px K (pv 0) aD) (rW K T.b_len (pv 1)) (bK _))) (λ _ _ _=>(pv 0))) a9)))
   (aF (bH (dC (K:=K) O ì ô õ bL (pv 3) (a7 (aQ (a7 (bO (yI O) O T.b_min PyProof.Rows.boot_min (a7 (pv 4) (a7 aD a9))) (a7 (aW cF (bO (yI O) O T.b_min PyProof.Rows.boot_min (a7 (pv 4) (a7 aD a9))) (aW nW (pv 5) aD)) (a7 (lY (yU (K:=K) O) (pv 6) pC (pB aD)) (a7 (pv 7) (a7 (pv 8) (a7 (lY (yU (K:=K) O) (pv 9) pC (pB aD)) a9))))))) a9))))))
   (aF (aK (aQ (a7 (aU (bR (K:=K) O) O T.b_tuple bT (a7 (pv 3) a9)) (a7 (pv 2) a9))))))))),?_⟩
  show(bA _ O (JJ t sl 2 Eg O ⟨FZ,FZ,tp,λ net x H1 e1 nok uc yh hx=>?_⟩));let⟨ax,av,as,xs,ys,rfl,qx,qv,lv,qs,ls⟩:=gI hx;have mx:xs.length=net.vs.length:=by rw[lv.length,Ê]
  have zd:ys.length=net.sps.length:=by rw[ls.length,Ê]
  have n2:net.vs.length<=2:=by lia
  show⟨_,O,.inr (.inl ⟨ax,_,1,_,O,O,qx,O,_,O,uF (n:=2) qs λ b H2 s2 q2=>?_⟩)⟩;have l2:L2.IsL K H2 ((net.sps.take 2).map sI) (ys.take 2):=by
   rw[ags];show pR 2 (Î s2.ts _ _ ls)
  show⟨b,O,⟨_,q2⟩,iR (K:=K) (a:=b) (xs:=ys.take 2) (λ D i r ac H'=>H2 D=W/\aE H2 H'/\H' D=Y (.lst r)/\L2.IsL K H' ((((net.sps.take 2).take i).map nB).map sI) r/\∃ u1 u2 u3,ac=[u1,u2,u3])
   (λ D i r ac H' p=>p.2.1.tup q2) (λ D hD=>⟨hD,È hD,a8,.nil,W,W,W,O⟩) ?_ ?_⟩
  rotate_left
  ·rintro D i y r ac H3 hy xK;let⟨hD,sm,ie,lr,u1,u2,u3,rfl⟩:=xK;let⟨sp,kf,sa,rfl,Y6⟩:=tY l2 hy;have mw:=(Ö.mp kf).1;show(bU sa _ O ⟨sm.tup Y6,O,(bU _ _ O (bU _ _ O (bU _ _ O ⟨O,?_⟩)))⟩);show iJ ?_;show(bA _ O (bA _ O (bU _ _ O ⟨O,(show (0:Int) < 2 by decide),(bA _ O ⟨(sz0 3),λ e he=>?_⟩)⟩)));have m1:=È (o:=HO.tup [.int sp.1,.int (sp.2.1 % 2),.bl sp.2.2]) he;have i1:Is K (upd H3 e (.tup [.int sp.1,.int (sp.2.1 % 2),.bl sp.2.2])) (sI (nB sp)) (.ref e):=Ð (ds:=[.int sp.1,.int (sp.2.1 % 2),.bl sp.2.2]) (Í a8) (.cons (Õ _) (.cons (Õ _) (.cons (Is.b _) .nil)));generalize upd H3 e (.tup [.int sp.1,.int (sp.2.1 % 2),.bl sp.2.2])=H4 at m1 i1 ⊢;have nt:=m1 _ _ ie;have Ca:iI (H4 D):=by rw[nt];show trivial
   have jg:r.length<=12:=by rw[lr.length,Ê,Ê,ß,ß];lia
   show⟨nt,aS Fn,hD,(sm.trans m1).put hD,a8,?_,_,_,_,O⟩;rw[Ĳ,kf,Ó,Ó];show Ă (Ì (è Ú Ca) _ _ i1) (Î (m1.ts.trans (è Ú Ca)) _ _ lr)
  rintro D1 r1 ac H3 xK;let⟨ud,pc,Qt,Qu,_⟩:=xK;rw[show(ys.take 2).length=(net.sps.take 2).length by rw[ß,ß,zd],æ]at Qu;show(bU D1 _ O (.inl ⟨É Qt,λ p1 Ha=>?_⟩));have m3:=È (o:=HO.tup r1) Ha;have t3:aP K (upd H3 p1 (.tup r1)) p1 r1:=Í a8;generalize upd H3 p1 (.tup r1)=H4 at m3 t3 ⊢;have lz:=(s2.trans pc).trans m3;have Y7:=Î m3.ts _ _ Qu;have Vg:r1.length=((net.sps.take 2).map nB).length:=by rw[Qu.length,Ê]
  show⟨à _,λ D hD=>?_⟩;have s5:=È (o:=HO.lst []) hD;have g5:upd H4 D (.lst []) D=Y (.lst []):=a8;have fD:H4 D=none:=hD;generalize upd H4 D (.lst [])=H5 at s5 g5 ⊢;have fD1:H1 D=none:=lz.free fD;show⟨_,O,.inr (.inl ⟨ax,_,0,_,O,O,(lz.trans s5).tup qx,O,av,O,⟨_,(lz.trans s5).tup qv⟩,CU (K:=K) (a:=av) (xs:=xs) (λ i ac H'=>aE H4 H'/\(∃ rr,H' D=Y (.lst rr)/\L2.IsL K H' (((net.vs.take i).map (UJ ((net.sps.take 2).map nB).length)).map lB) rr)/\
   ∃ v4 v5 v6 v7 v8 v9,ac=[Y (.ref t),Y (.ref ax),Y (.ref p1),Y (.ref D),v4,v5,v6,v7,v8,v9]) ?_ ?_ ?_ ?_⟩)⟩
  ·show⟨s5,⟨[],g5,.nil⟩,_,_,_,_,_,_,O⟩
  ·rintro i ac H' _ ⟨s6,_⟩;show(lz.trans s6).tup qv
  ·rintro DD i - wt y ac H6 hy ⟨s6,⟨rr,ie,Iz⟩,v4,v5,v6,v7,v8,v9,rfl⟩;let⟨dv,Vh,Y8⟩:=lv.get' hy;rw[Ø]at Vh;let⟨v,hv,rfl⟩:=é.mp Vh;have ww:=nok.vs v (Û hv);have mw:=(Ö.mp hv).1;have Be:=lz.trans s6;let⟨a,o,c,rfl,q,io,ic⟩:=AL (Ì Be.ts _ _ Y8);let⟨oa,os,rfl,qo,lo⟩:=io.un;let⟨ca,cs,rfl,qc,lc⟩:=ic.un;have Ts:cs.length=v.acts.length:=by rw[lc.length,Ê]
   have Fb:=ww.a3;show⟨a,_,O,q,O,_,_,O,_,_,O,_,_,O,_,_,O,_,_,O,_,_,O,O,?_⟩;dsimp only[kB];show⟨_,O,ca,O,⟨_,qc⟩,iR (K:=K) (a:=ca) (xs:=cs) (λ E i r ac H'=>H6 E=W/\aE H6 H'/\H' E=Y (.lst r)/\L2.IsL K H' ((qJ ((net.sps.take 2).map nB).length (v.acts.take i)).map kU) r/\∃ u1,ac=[u1,Y (.ref p1)])
    (λ E i r ac H' p=>p.2.1.tup qc) (λ E hE=>⟨hE,È hE,a8,.nil,W,O⟩) ?_ ?_⟩
   rotate_left
   ·rintro E j z r ac H7 hz xK;let⟨hE,sm,Qv,lr,u1,rfl⟩:=xK;let⟨t',Ez,ta,rfl,qt⟩:=tL lc hz;have Et:=(Ö.mp Ez).1;have xb:qJ ((net.sps.take 2).map nB).length (v.acts.take (j+1))=qJ ((net.sps.take 2).map nB).length (v.acts.take j)++(if t'.2 < ((net.sps.take 2).map nB).length then[t']else[]):=IA Ez;have jg:r.length<=12:=by
     rw[lr.length,Ê];have:=ada (λ a:Str×Int=>decide (a.2 < ((net.sps.take 2).map nB).length)) (v.acts.take j);unfold qJ;rw[ß]at this;lia
    show(bA _ O (.inr (.inl (JJ ta _ 1 _ O ⟨O,sm.tup qt,O,(bA _ O (bU p1 r1 O ⟨.inr ((s6.trans sm).tup t3),(bU _ _ O ⟨O,(bA _ O (i9 (λ hT=>?_) λ hN=>?_))⟩)⟩))⟩))))
    ·have hT:t'.2 < (r1.length:Int):=by simpa using hT
     rw[Vg]at hT;show(bA _ O ⟨Qv,aS Fn,hE,sm.put hE,a8,?_,_,O⟩);have Vi:iI (H7 E):=by rw[Qv];show trivial
     rw[xb,Å hT,Ó];show Ă (Ì (è Ú Vi) _ _ ?_) (Î (è Ú Vi) _ _ lr);show Ð (ds:=[.str t'.1,.int t'.2]) (sm.tup qt) (.cons (Is.s _) (.cons (Õ _) .nil))
    ·have hN:¬ t'.2 < (r1.length:Int):=by simpa using hN
     rw[Vg]at hN;show⟨hE,sm,Qv,?_,_,O⟩;rw[xb,Ä hN,Ģ];show lr
   rintro E1 r2 ac H7 xK;let⟨hE1,Y9,Qw,Vj,_⟩:=xK;rw[Ts,æ] at Vj;show(bU E1 _ O (.inl ⟨É Qw,λ p2 pw=>?_⟩));have m8:=È (o:=HO.tup r2) pw;have t8:aP K (upd H7 p2 (.tup r2)) p2 r2:=Í a8;generalize upd H7 p2 (.tup r2)=H8 at m8 t8 ⊢;have zp:=Y9.trans m8;have Ja:=zp _ _ ie;show(bA _ O ⟨.inl ⟨O,_,É Ja⟩,?_⟩);show(bA _ O (bU _ _ O (bA _ O (bU _ _ O (bA _ O (bU _ _ O ⟨O,(show (0:Int) < 2 by decide),(bU _ _ O ⟨O,(bA _ O (bA _ O (uF (n:=2) (zp.tup qo) λ b9 H9 s9 q9=>?_)))⟩)⟩))))));show(bA _ O (bA _ O (bA _ O (bA _ O (uF (n:=1) (s9.tup t8) λ Fc oy lh Gc=>⟨(sz0 6),λ p hp=>?_⟩)))));have Lo:=È (o:=HO.tup [.int (if 3 < v.size then 3 else v.size),.int ((if 3 < v.size then 3 else v.size)+v.brim % 2),.ref b9,.bl v.holds,qD v.spill,.ref Fc]) hp;have Vk:aP K (upd oy p (.tup [.int (if 3 < v.size then 3 else v.size),.int ((if 3 < v.size then 3 else v.size)+v.brim % 2),.ref b9,.bl v.holds,qD v.spill,.ref Fc])) p _:=Í a8;generalize upd oy p (.tup [.int (if 3 < v.size then 3 else v.size),.int ((if 3 < v.size then 3 else v.size)+v.brim % 2),.ref b9,.bl v.holds,qD v.spill,.ref Fc])=xz at Lo Vk ⊢;have zw:=(s9.trans lh).trans Lo;have Cb:=zw _ _ Ja;have jg:rr.length<=12:=by
    rw[Iz.length,Ê,Ê,ß];have:=nok.hi;lia
   show(NN D rr _ O ⟨O,Cb,aS Fn,?_⟩);have Ca:iI (xz D):=by rw[Cb];show trivial
   show wt _ _ ⟨((s6.trans zp).trans zw).put fD,⟨_,a8,?_⟩,_,_,_,_,_,_,O⟩;rw[show net.vs.take (i+1)=net.vs.take i++[v] by rw[Ĳ,hv];rfl,Ó,Ó];show Ă (Ì (è Ú Ca) _ _ ?_) (Î ((zp.trans zw).ts.trans (è Ú Ca)) _ _ Iz);have Za:L2.IsL K xz ((v.outs.take 2).map jR) (os.take 2):=by
    rw[ags];show pR 2 (Î (zp.trans zw).ts _ _ lo)
   have Zb:L2.IsL K xz (((qJ ((net.sps.take 2).map nB).length v.acts).take 1).map kU) (r2.take 1):=by
    rw[ags];show pR 1 (Î (m8.trans zw).ts _ _ Vj)
   show Ð (ds:=[.int (if 3 < v.size then 3 else v.size),.int ((if 3 < v.size then 3 else v.size)+v.brim % 2),.tup ((v.outs.take 2).map jR),.bl v.holds,HW v.spill,.tup (((qJ ((net.sps.take 2).map nB).length v.acts).take 1).map kU)]) Vk
    (.cons (Õ _) (.cons (Õ _) (.cons (Ð ((lh.trans Lo).tup q9) Za) (.cons (Is.b _) (.cons (Is.tgOf _) (.cons (Ð (Lo.tup Gc) Zb) .nil))))))
  ·rintro ac H6 xK;let⟨s6,⟨rr,ie,Iz⟩,v4,v5,v6,v7,v8,v9,rfl⟩:=xK;rw[mx,æ]at Iz;show(bA _ O (bU D _ O (.inl ⟨É ie,λ p2 pw=>(bA _ O ⟨(sz0 2),λ p hp=>?_⟩)⟩)));have m7:=È (o:=HO.tup rr) pw;have t7:aP K (upd H6 p2 (.tup rr)) p2 rr:=Í a8;generalize upd H6 p2 (.tup rr)=H7 at m7 t7 hp ⊢;have m8:=È (o:=HO.tup [.ref p2,.ref p1]) hp;show k (L5 net) _ _ (e1.sm (((lz.trans s6).trans m7).trans m8)) (OQ nok) (by change(net.vs.map _).length<=2;rw[Ê];show n2) (by change((net.sps.take 2).map nB).length<=2;rw[Ê,ß];lia) ?_;show Ð (ds:=[.tup ((L5 net).vs.map lB),.tup ((L5 net).sps.map sI)]) (Í a8) (.cons (Ð (m8.tup t7) (Î (m7.trans m8).ts _ _ Iz)) (.cons (Ð (((s6.trans m7).trans m8).tup t3) (Î ((s6.trans m7).trans m8).ts _ _ Y7)) .nil))
theorem wK (F:Fun K "_law_small" "_law_small" (bG 83) f fd) (T:Txt mg) (jo:Callee P w K mg base "_law_net" ["tape","most","small"] 4 (yS K) f1 je) :
  FnOk P w K mg base fX 5 f fd ["tape"] (FP K):=
 (vF F T jo).imp λ vs H Q E ⟨t,sl,e,tp,k⟩=>⟨t,sl,e,tp,λ net p H' e n1 n2 _ i=>k net p H' e n1 n2 i⟩
def wX (net:Net) (t:Nat):List Nat:=((HZ net t).tk net).tip
def lJ (net:Net) (n k:Nat):List Nat:=(List.range n).filter λ t=>decide (k∈wX net t)
theorem AN (net:Net) (n k:Nat):lJ net (n+1) k=lJ net n k++(if k∈wX net n then[n]else[]):=by
 unfold lJ;rw[Ţ,Œ]
 by_cases h:k∈wX net n
 ·simp[h]
 ·simp[h]
def cY (l:List Nat):List V:=l.map λ(i:Nat)=>V.int (i:Int)
theorem sV  (h:n<=10000000):n < sizeLine:=by rw[ĕ];lia
def tZ (K:Ç):Sp:=λ vs H Q _=>∃(x:V) (net:Net) (j:Nat),vs=[x,.int (j:Int)]/\Is K H (cJ net) x/\NetOk net/\j < net.vs.length/\∀ p H',aE H H'->Is K H' (cJ (hZ net (Y j))) p->Q p H'
theorem zL (F:Fun K "stuck_net" "stuck_net" (bG 58) f fd) (T:Txt mg) (rm:Callee P w K mg base "with_vessel" ["net","number","vessel"] 1 (KR K) f1 je) :
  FnOk P w K mg base fX 2 f fd ["net","vessel"] (tZ K):=by
 show F.ok ["net","vessel","size","brim","outs","holds","spill","acts"] λ sc gz A outer s H vs Q E hr h=>?_
 ·let⟨x,net,j,rfl,hx,nok,hj,k⟩:=h;show⟨_,(aA (bP (px K (px K (pv 0) aD) (pv 1)) (aM (K:=K) (n:=6) O O (aB (gL 2 sc.nd) (aB (gL 3 sc.nd) (aB (gL 4 sc.nd) (aB (gL 5 sc.nd) (aB (gL 6 sc.nd) (aB (gL 7 sc.nd) aL))))))))
   (aF (aK (cA rm hr (a7 (pv 0) (a7 (pv 1) (a7 (aQ (a7 (aW cF (pv 3) aD) (a7 (pv 3) (a7 (pv 4) (a7 (pv 5) (a7 (pv 6) (a7 (pv 7) a9))))))) a9))))))),?_⟩
  have n2:=nok.hi;let⟨a,b,c,xs,ys,rfl,q,q1,l1,q2,l2⟩:=gI hx;have hv:net.vs[j]?=Y net.vs[j]:=by simp[hj]
  generalize net.vs[j]=v at hv;let⟨xv,Gu,Gv⟩:=l1.get (i:=j) (d:=lB v) (by rw[Ø,hv];rfl);let⟨va,o,cc,rfl,qv,ho,hc⟩:=AL Gv;show⟨_,O,.inr (.inl ⟨a,_,0,_,O,O,q,O,_,O,.inr (.inl ⟨b,xs,(j:Int),_,O,O,q1,hU Gu,va,_,O,qv,O,_,_,O,_,_,O,_,_,O,_,_,O,_,_,O,_,_,O,O,?_⟩)⟩)⟩;show⟨_,O,_,O,_,O,_,_,O,O,_,O,_,O,_,O,_,O,_,O,(sz0 6),λ e he=>?_⟩;have s1:=È (o:=HO.tup [.int (v.brim+1),.int v.brim,o,.bl v.holds,qD v.spill,cc]) he;have iv:Is K (upd H e (.tup [.int (v.brim+1),.int v.brim,o,.bl v.holds,qD v.spill,cc])) (lB { v with size:=v.brim+1 }) (.ref e):=
   Ð (ds:=[.int (v.brim+1),.int v.brim,.tup (v.outs.map jR),.bl v.holds,HW v.spill,.tup (v.acts.map kU)]) (Í a8)
    (.cons (Õ _) (.cons (Õ _) (.cons (Ì s1.ts _ _ ho) (.cons (Is.b _) (.cons (Is.tgOf _) (.cons (Ì s1.ts _ _ hc) .nil))))))
  show⟨.ref a,.ref e,net,{ v with size:=v.brim+1 },j,O,Ì s1.ts _ _ hx,Fn,hj,iv,λ p H' sm ip=>k p H' (s1.trans sm) ?_⟩;rw[<- HY net.vs j v hv]at ip;show ip
def nQ (l:List (Int×Nat)) (i:Nat):List Int:=(l.filter λ p=>decide (p.2=i)).map (·.1)
theorem HU (l:List (Int×Nat)) (p:Int×Nat) (i:Nat):nQ (l++[p]) i=nQ l i++(if p.2=i then[p.1]else[]):=by
 unfold nQ;rw[Œ,Ó]
 by_cases h:p.2=i
 ·simp[h]
 ·simp[h]
theorem KM (l:List (Int×Nat)) (i:Nat):(nQ l i).length<=l.length:=by
 unfold nQ;rw[Ê];show ada _ _
theorem tU:∀(i:Nat) (vs:List Vs) (hs:List Int) (k:Nat),k∈dF i vs hs->i<=k
 |i,[],_,k,h=>by simp[dF]at h
 |i,_::_,[],k,h=>by simp[dF]at h
 |i,v::vs,b::hs,k,h=>by
  unfold dF at h
  split at h
  ·rcases Ò.1 h with rfl|h
   ·show Ñ _
   ·have:=tU (i+1) vs hs k h;lia
  ·have:=tU (i+1) vs hs k h;lia
theorem lK:∀(i:Nat) (vs:List Vs) (hs:List Int),(dF i vs hs).Nodup
 |i,[],_=>by simp[dF]
 |i,_::_,[]=>by simp[dF]
 |i,v::vs,b::hs=>by
  unfold dF
  split
  ·rw[ñ];show⟨λ h=>by have:=tU (i+1) vs hs i h;lia,lK (i+1) vs hs⟩
  ·show lK (i+1) vs hs
theorem A7 {l:List Nat} (k:Nat) (h:l.Nodup):l.filter (λ x=>decide (x=k))=if k∈l then[k]else[]:=by
 induction l with
 |nil=>simp
 |cons a l ih=>
  rw[ñ]at h;rw[List.filter_cons]
  by_cases e:a=k
  ·subst e;rw[Å G0,ih h.2,Ä h.1,Å G0]
  ·rw[Ä (by simpa using e),ih h.2];have:(k∈a::l)↔k∈l:=by simp [Ne.symm e]
   by_cases q:k∈l
   ·rw[Å q,Å (this.2 q)]
   ·rw[Ä q,Ä (λ z=>q (this.1 z))]
theorem OM (l:List Nat) (t:Int) (k:Nat) (h:l.Nodup):nQ (l.map λ i=>(t,i)) k=if k∈l then[t]else[]:=by
 unfold nQ;rw[List.filter_map,ĉ];have e:((λ(p:Int×Nat)=>decide (p.2=k)) ∘ λ i=>(t,i))=λ x=>decide (x=k):=rfl;rw[e,A7 k h]
 split <;> rfl
theorem AQ (a b:List (Int×Nat)) (k:Nat):nQ (a++b) k=nQ a k++nQ b k:=by unfold nQ;rw[Œ,Ó]
theorem zV (net:Net):∀ t,(dJ net (fZ net) t).tick=(t:Int)/\(dJ net (fZ net) t).held=(HZ net t).held/\(dJ net (fZ net) t).coming=(HZ net t).coming/\(dJ net (fZ net) t).doors=(HZ net t).doors/\(dJ net (fZ net) t).poured=eD net.vs.length
 |0=>⟨rfl,rfl,rfl,rfl,rfl⟩
 |t+1=>by
  let⟨h1,h2,h3,h4,h5⟩:=zV net t;have e:(dJ net (fZ net) t).tk net=(HZ net t).tk net:=by unfold Mom.tk Sta.tk;rw[h2,h3,h4,h5]
  show⟨?_,?_,?_,?_,O⟩
  ·change(dJ net (fZ net) t).tick+1=_;rw[h1];lia
  ·change((dJ net (fZ net) t).tk net).held=_;rw[e];rfl
  ·change((dJ net (fZ net) t).tk net).coming=_;rw[e];rfl
  ·change((dJ net (fZ net) t).tk net).doors=_;rw[e];rfl
theorem PQ (net:Net) (t:Nat):((dJ net (fZ net) t).tk net).tip=wX net t:=by
 let⟨h1,h2,h3,h4,h5⟩:=zV net t;unfold Mom.tk wX Sta.tk;rw[h2,h3,h4,h5]
theorem AR (net:Net) (t:Nat):(wX net t).Nodup:=lK _ _ _
def xX (l:List Nat):List Int:=l.map λ(i:Nat)=>(i:Int)
theorem wW (net:Net) (k:Nat):∀ n,nQ (dM net (fZ net) n) k=xX (lJ net n k)
 |0=>rfl
 |n+1=>by
  change nQ (dM net (fZ net) n++qG net (dJ net (fZ net) n)) k=_;rw[AQ,wW net k n,AN];unfold qG;rw[PQ,(zV net n).1,OM _ _ _ (AR net n)];unfold xX;rw[Ó]
  split <;> rfl
def jD (net:Net) (n j:Nat) (seen:List Int) (cs:List (Option Nat)):List (Option Nat):=cs.filter λ fo=>decide (xX (lJ (hZ net fo) n j)=seen)
def cI (net:Net):List (Option Nat):=W::(List.range net.vs.length).map Y
theorem DA (net:Net) (n j:Nat) (seen:List Int) (cs:List (Option Nat)) (c:Option Nat):jD net n j seen (cs++[c])=jD net n j seen cs++(if xX (lJ (hZ net c) n j)=seen then[c]else[]):=by
 unfold jD;rw[Œ]
 by_cases h:xX (lJ (hZ net c) n j)=seen
 ·simp[h]
 ·simp[h]
theorem wC (net:Net) (n j:Nat) (seen:List Int) (cs:List (Option Nat)):(jD net n j seen cs).length<=cs.length:=ada _ _
def B1 (K:Ç):Sp:=λ vs H Q _=>∃(j:Nat) (ts:List (Int×Nat)) (z:Á) (kg:List V),vs=[.int (j:Int),.ref z]/\aP K H z kg/\IsL K H (ts.map gQ) kg/\ts.length<=2000000/\
 ∀ l H',aE H H'->H l=W->H' l=Y (.lst ((nQ ts j).map V.int))->Q (.ref l) H'
theorem ON  (h:Is K H (gQ t) v):∃ a,v=.ref a/\aP K H a [.int t.1,.int (t.2:Int)]:=by
 let⟨e,zs,rfl,qe,le⟩:=(show Is K H (.tup [.int t.1,.int (t.2:Int)]) v from h).un;let⟨x1,r1,rfl,h1,le⟩:=le.un;let⟨x2,r2,rfl,h2,le⟩:=le.un;have:=le.un0;subst this;have:=h1.ui;subst this;have:=h2.ui;subst this;show⟨e,O,qe⟩
theorem EB (F:Fun K "tips_of" "tips_of" (bG 62) f fd) (T:Txt mg):FnOk P w K mg base fX 1 f fd ["vessel","tipped"] (B1 K):=by
 show F.ok ["vessel","tipped"] λ sc gz A outer s H vs Q E hr h=>?_
 ·let⟨j,ts,z,kg,rfl,qz,lt,wz,k⟩:=h;show⟨_,(aF (aK (fQ (λ _ _ h=>h) O (LcOk.mk (N':=["tick","number","vessel"]) (fr:=[W,W,Y 0]) O ⟨O,trivial⟩ O O O O O ⟨⟨_,O,O,O,O⟩,trivial⟩) (eZ (K:=K) O (pv 1)) (λ _ _ _=>(aM (K:=K) (n:=2) O O (aB (gC 0 ["tick","number","vessel"]) (aB (gC 1 ["tick","number","vessel"]) aL)))) (λ _ _ _=>sX (bN lZ (pv 1) (pv 2) (bK _))) (λ _ _ _=>(pv 0))))),?_⟩;have el:kg.length=ts.length:=by rw[lt.length,Ê]
  show⟨_,O,z,O,⟨_,qz⟩,iR (K:=K) (a:=z) (xs:=kg) (λ D i r ac H'=>H D=W/\aE H H'/\H' D=Y (.lst r)/\r=(nQ (ts.take i) j).map V.int/\∃ u1 u2,ac=[u1,u2,Y (.int (j:Int))])
   (λ D i r ac H' p=>p.2.1.tup qz) (λ D hD=>⟨hD,È hD,a8,O,W,W,O⟩) ?_ ?_⟩
  rotate_left
  ·rintro D i x r ac H1 hx xK;let⟨hD,sm,ie,rfl,u1,u2,rfl⟩:=xK;let⟨d,hd,ix⟩:=L2.IsL.get' lt hx;rw[Ø]at hd;let⟨t,ht,rfl⟩:=é.mp hd;let⟨a,rfl,qa⟩:=ON ix;show⟨a,_,O,sm.tup qa,O,_,_,O,_,_,O,O,?_⟩;have xb:=HU (ts.take i) t j;rw[<- aY ht]at xb;have mw:=(Ö.mp ht).1;have Lb:=KM (ts.take i) j;rw[ß]at Lb;show⟨_,O,_,O,O,_,O,?_⟩;show i9 (λ hT=>?_) (λ hF=>?_)
   ·have e:t.2=j:=by have:=ć hT;injection this with this;lia
    rw[Å e]at xb;show⟨_,O,ie,sV (by rw[Ê];lia),hD,sm.put hD,a8,?_,_,_,O⟩;rw[xb,Ó];rfl
   ·have e:¬ t.2=j:=λ e=>hF (ð (by rw[e]));rw[Ä e,Ģ]at xb;show⟨hD,sm,ie,by rw[xb],_,_,O⟩
  ·rintro D r ac H1 xK;let⟨hD,sm,ie,rfl,_⟩:=xK;rw[el,æ]at ie;show k D _ sm hD ie
def wZ (K:Ç):Sp:=λ vs H Q _=>∃(x:V) (net:Net) (fo:Option Nat) (n:Nat),vs=[x,iV fo,.int (n:Int)]/\Is K H (cJ net) x/\NetOk net/\NetFull net/\(∀ j,fo=Y j->j < net.vs.length)/\n<=100000/\
 ∀ p2 kg H',aE H H'->aP K H' p2 kg->IsL K H' ((dM (hZ net fo) (fZ (hZ net fo)) n).map gQ) kg->Q (.ref p2) H'
theorem pI (F:Fun K "tipped_in_case" "tipped_in_case" (bG 61) f fd) (T:Txt mg) (uy:Callee P w K mg base "stuck_net" ["net","vessel"] 2 (tZ K) f1 je)
  (jc:Callee P w K mg base "moment_gone" ["net","moment","many"] 6 (oO K) f2 js) (iw:Callee P w K mg base "first_moment" ["net"] 2 (iM K) f3 nj) :
  FnOk P w K mg base fX 7 f fd ["net","case","ticks"] (wZ K):=by
 show F.ok ["net","case","ticks","going","moment","tipped"] λ sc gz A outer s H vs Q E hr h=>?_
 ·let⟨x,net,fo,n,rfl,hx,nok,uc,xy,hn,k⟩:=h;show⟨_,(aA (pL 3 sc.nd (pE (bN qP (pv 1) cH (bK _)) (pv 0) (cA uy hr (a7 (pv 0) (a7 (pv 1) a9)))))
   (aA (bP (cA jc hr (a7 (pv 3) (a7 (cA iw hr (a7 (pv 3) a9)) (a7 (pv 2) a9)))) (aM (K:=K) (n:=2) O O (aB (gL 4 sc.nd) (aB (gL 5 sc.nd) aL))))
   (aF (aK (pv 5))))),?_⟩
  have Jb:=AT nok uc fo;have ja:∀ g H1,aE H H1->Is K H1 (cJ (hZ net fo)) g->kB (nA (oK (oO K) [] E0 (aR (dG 3) (aR (oK (iM K) [] E0 (aR (dG 3) cU)) (aR (dG 2) cU)))) (TC K 2 (NI (eJ 4) (NI (eJ 5) VA)))) (RP (dG 5)) { nx:=λ _ H'=>Q .non H',rt:=Q } [Y x,Y (iV fo),Y (.int (n:Int)),Y g,W,W] H1:=by
   intro g H1 s1 hg;show⟨_,O,_,O,g,_,O,hg,Jb,λ m H2 s2 im=>⟨_,O,g,.ref m,_,_,n,O,Ì s2.ts _ _ hg,im,Jb,zW _,hn,λ p p1 p2 kg H3 s3 qp _ qt lt=>?_⟩⟩;show⟨p,_,O,qp,O,_,_,O,_,_,O,O,?_⟩;show⟨_,O,k p2 kg _ ((s1.trans s2).trans s3) qt lt⟩
  show⟨_,O,O,_,O,?_⟩;cases fo with
  |none=>
   show eS ?_;show⟨_,O,ja x H (Ľ H) (by rw[AV];show hx)⟩
  |some j=>
   show eG ?_;show⟨_,O,_,O,x,net,j,O,hx,nok,xy j O,λ p H1 s1 ip=>ja p H1 s1 ip⟩
def uD (K:Ç) (cV:Á):Sp:=λ vs H Q E=>∃(x:V) (net:Net) (v:Int) (n:Nat) (sl:Á) (seen:List Int),vs=[x,.int v,.int (n:Int),.ref sl]/\Is K H (cJ net) x/\NetOk net/\NetFull net/\n<=100000/\H sl=Y (.lst (seen.map V.int))/\
 ((∃ j:Nat,v=(j:Int)/\j < net.vs.length/\∀ l H',aE H H'->H l=W->H' l=Y (.lst ((jD net n j seen (cI net)).map iV))->Q (.ref l) H')\/(¬ (0<=v/\v < net.vs.length)/\E (.ref cV) W H))
theorem IU (F:Fun K "cases" "cases" (bG 60) f fd) (T:Txt mg) (gp:CalleeR P w K mg base "need_vessel" ["net","number"] 2 (oN K gu) f1 je)
  (xo:Callee P w K mg base "tips_of" ["vessel","tipped"] 1 (B1 K) f2 js) (my:Callee P w K mg base "tipped_in_case" ["net","case","ticks"] 7 (wZ K) f3 nj) :
  FnOk P w K mg base (mL P w) 8 f fd ["net","watched","ticks","seen"] (uD K gu):=by
 show F.okR ["net","watched","ticks","seen","told"] λ sc gz A outer s H vs Q E hr h L=>?_
 ·let⟨x,net,v,n,sl,seen,rfl,hx,nok,uc,hn,tz,k⟩:=h;show⟨_,(aA (bH (gH gp.ok (hr.mono FZ) O gp.mg gp.kp gp.bd .nil (jA L) (a7 (pv 0) (a7 (pv 1) a9))))
   (aA (pL 4 sc.nd (aW M9 (bC (a7 cH a9)) (P9 O O T.b_list O T.b_range (rW K T.b_len (px K (pv 0) aD)))))
   (aF (p7 λ pn=>(aK (fQ (λ _ _ h=>h) O (LcOk.mk (N':=["case","seen","watched","net","ticks"]) (fr:=[W,Y 3,Y 1,Y 0,Y 2]) O ⟨O,O,O,O,trivial⟩ O O O O O ⟨⟨_,O,O,O,O⟩,⟨_,O,O,O,O⟩,⟨_,O,O,O,O⟩,⟨_,O,O,O,O⟩,trivial⟩) (cP (K:=K) O (pv 4)) (λ _ _ _=>(gC 0 ["case","seen","watched","net","ticks"])) (λ _ _ _=>sX (bN (zK (K:=K) O hr.units) (cA xo hr (a7 (pv 2) (a7 (cA my hr (a7 (pv 3) (a7 (pv 0) (a7 (pv 4) a9)))) a9))) (pv 1) (bK _))) (λ _ _ _=>(pv 0)))))))),?_⟩
  have n2:=nok.hi;show⟨_,O,_,O,x,net,v,O,hx,?_⟩;rcases k with⟨j,rfl,hj,k⟩|⟨hv,k⟩;rotate_left
  ·show .inr ⟨hv,k⟩
  show .inl ⟨Fn,Fn,?_⟩;let⟨a,b,c,xs,ys,ex,q,q1,l1,q2,l2⟩:=gI hx;have mx:xs.length=net.vs.length:=by rw[l1.length,Ê]
  show⟨(sz0 1),λ e he=>?_⟩;have s1:=È (o:=HO.lst [.non]) he;show⟨_,O,.inr (.inl ⟨a,_,0,_,ex,O,s1.tup q,O,b,xs,O,.inr (s1.tup q1),net.vs.length,by rw[mx],Fn,λ l hl=>?_⟩)⟩;have s2:=È (o:=HO.lst ((List.range net.vs.length).map λ (i:Nat)=>V.int (i:Int))) hl;have e1:upd (upd H e (.lst [.non])) l (.lst ((List.range net.vs.length).map λ (i:Nat)=>V.int (i:Int))) e=Y (.lst [.non]):=s2 _ _ a8;show⟨e,l,_,_,O,O,e1,a8,ĝ (aS (by simp;lia)),λ t ht=>?_⟩;have s3:=È (o:=HO.lst ([V.non]++(List.range net.vs.length).map λ (i:Nat)=>V.int (i:Int))) ht;have et:([V.non]++(List.range net.vs.length).map λ (i:Nat)=>V.int (i:Int))=(cI net).map iV:=by
   unfold cI;rw[Ù,ĉ];rfl
  rw[et]at s3 ⊢;have wy:upd (upd (upd H e (.lst [.non])) l (.lst ((List.range net.vs.length).map λ(i:Nat)=>V.int (i:Int)))) t (.lst ((cI net).map iV)) t=Y (.lst ((cI net).map iV)):=a8;have Lp:=(s1.trans s2).trans s3;generalize upd (upd (upd H e (.lst [.non])) l (.lst ((List.range net.vs.length).map λ(i:Nat)=>V.int (i:Int)))) t (.lst ((cI net).map iV))=H3 at Lp wy;have gr:(cI net).length<=13:=by unfold cI;simp;lia
  show⟨_,O,t,O,⟨_,É wy⟩,hJ (K:=K) (a:=t) (xs:=(cI net).map iV) (λ D i r ac H'=>H3 D=W/\aE H3 H'/\H' D=Y (.lst r)/\r=(jD net n j seen ((cI net).take i)).map iV/\∃ u,ac=[u,Y (.ref sl),Y (.int (j:Int)),Y x,Y (.int (n:Int))])
   (λ D i r ac H' p=>É (p.2.1 _ _ wy)) (λ D hD=>⟨hD,È hD,a8,O,W,O⟩) ?_ ?_⟩
  rotate_left
  ·rintro D i y r ac H4 hy xK;let⟨hD,sm,ie,rfl,u,rfl⟩:=xK;rw[Ø]at hy;let⟨fo,xy,rfl⟩:=é.mp hy;have Qx:∀ j,fo=Y j->j < net.vs.length:=by
    intro j' e';subst e';have:=Û xy;unfold cI at this;rcases Ò.1 this with h|h
    ·cases h
    ·let⟨z,hz,ez⟩:=å.1 h;injection ez with ez;subst ez;show ĥ.1 hz
   have s4:aE H H4:=Lp.trans sm;dsimp only[eJ];show⟨_,O,_,O,_,O,_,O,x,net,fo,n,O,Ì s4.ts _ _ hx,nok,uc,Qx,hn,λ p2 kg H5 s5 qt lt=>?_⟩;have htn:=iK (m:=fZ (hZ net fo)) (AT nok uc fo) n;show⟨j,_,p2,kg,O,qt,lt,Fn,λ l2 H6 s6 fl Vl=>?_⟩;rw[wW]at Vl;have Lq:=s5.trans s6;have Qy:H6 sl=Y (.lst (seen.map V.int)):=Lq _ _ (s4 _ _ tz);show⟨_,O,.lst ((xX (lJ (hZ net fo) n j)).map G.int),.lst (seen.map G.int),by rw[cB,o9];decide,aJ.l (É Vl) (bZ.ints _),aJ.l (É Qy) (bZ.ints _),_,O,?_⟩;rw[aZ,yB];have xb:=DA net n j seen ((cI net).take i) fo;rw[<- aY xy]at xb;have vf:=wC net n j seen ((cI net).take i);rw[ß]at vf;have Jc:=Lq _ _ ie;show i9 (λ hT=>?_) (λ hF=>?_)
   ·rw[Å (ć hT)]at xb;show⟨_,O,Jc,aS (by rw[Ê];lia),hD,(sm.trans Lq).put hD,a8,?_,_,O⟩;rw[xb,Ó];rfl
   ·rw[Ä (λ e=>hF (ð e)),Ģ]at xb;show⟨hD,sm.trans Lq,Jc,by rw[xb],_,O⟩
  ·rintro D r ac H4 xK;let⟨hD,sm,ie,rfl,_⟩:=xK;rw[Ê,æ]at ie;show k D _ (Lp.trans sm) (Lp.free hD) ie
end Tw
namespace L2
open PySem PySem.Spec PyProof.Rows TwZ
end L2
namespace Tw
open PySem L2
def nJ (t:Option Int) (s:Nat):List (Option Int×Int):=if 1 < s then[(t,1),(W,(s:Int) - 1)]else[(t,1)]
def HV (n k:Nat):Option Int:=if k+1 < n then Y ((k+1:Nat):Int)else W
def VF (n k s:Nat):Vs:=⟨(s:Int),(s:Int),nJ (HV n k) s,Eh,W,[]⟩
def EZ (n:Nat):Nat->List Nat->List Vs
 |_,[]=>[]
 |k,s::r=>VF n k s::EZ n (k+1) r
def NZ (S:List Nat):Net:=⟨EZ S.length 0 S,[(0,1,Eg)]⟩
theorem D6 (n:Nat):∀(r:List Nat) (k:Nat),(EZ n k r).length=r.length
 |[],_=>rfl
 |s::r,k=>by change(EZ n (k+1) r).length+1=r.length+1;rw[D6 n r]
def pH (t:Option Int) (s:Nat) (acts:List (Str×Int)):Vs:=⟨(s:Int),(s:Int),nJ t s,Eh,W,acts⟩
def TR (k s:Nat):Vs:=pH (Y 0) s [("shut",(k:Int))]
def DG:Nat->List Nat->List Vs
 |_,[]=>[]
 |k,s::r=>TR k s::DG (k+1) r
def FE:Nat->List Nat->List AH
 |_,[]=>[]
 |k,_::r=>(((k+1:Nat):Int),1,Eg)::FE (k+1) r
def O2 (S:List Nat):Net:=⟨pH W 1 []::DG 0 S,FE 0 S⟩
theorem DF:∀(r:List Nat) (k:Nat),(DG k r).length=r.length
 |[],_=>rfl
 |s::r,k=>by change(DG (k+1) r).length+1=r.length+1;rw[DF r]
theorem DE:∀(r:List Nat) (k:Nat),(FE k r).length=r.length
 |[],_=>rfl
 |s::r,k=>by change(FE (k+1) r).length+1=r.length+1;rw[DE r]
theorem GZ:∀(r:List Nat) (k j s:Nat),r[j]?=Y s->(DG k r)[j]?=Y (TR (k+j) s)
 |[],_,_,_,h=>by cases h
 |x::r,k,0,s,h=>by cases h;rfl
 |x::r,k,j+1,s,h=>by
  have:=GZ r (k+1) j s h;rw[show k+1+j=k+(j+1) by lia]at this;show this
theorem GY:∀(r:List Nat) (k j s:Nat),r[j]?=Y s->(FE k r)[j]?=Y (((k+j+1:Nat):Int),1,Eg)
 |[],_,_,_,h=>by cases h
 |x::r,k,0,s,h=>rfl
 |x::r,k,j+1,s,h=>by
  have:=GY r (k+1) j s h;rw[show k+1+j+1=k+(j+1)+1 by lia]at this;show this
inductive Cell
 |main (l:Nat)
 |dly (l:Nat)
deriving DecidableEq
def dlyV (l i:Nat):Vs:=⟨(l:Int),(l:Int),[(W,1)],Eh,W,[("open",((i - 1:Nat):Int)),("shut",(i:Int))]⟩
def JM (L i:Nat):Cell->Vs
 |.main _=>pH (Y 0) L []
 |.dly l=>dlyV l i
def Q9:Cell->Bool
 |.main l=>decide (l < 1)
 |.dly _=>Eg
def oB (L:Nat):Nat->List Cell->List Vs
 |_,[]=>[]
 |k,c::r=>JM L k c::oB L (k+1) r
def oA:Nat->List Cell->List AH
 |_,[]=>[]
 |k,c::r=>(((k+1:Nat):Int),1,Q9 c)::oA (k+1) r
def celN (L:Nat) (C:List Cell):Net:=⟨pH W 1 []::oB L 0 C,oA 0 C⟩
theorem wB (L:Nat):∀(r:List Cell) (k:Nat),(oB L k r).length=r.length
 |[],_=>rfl
 |s::r,k=>by change(oB L (k+1) r).length+1=r.length+1;rw[wB L r]
theorem mG:∀(r:List Cell) (k:Nat),(oA k r).length=r.length
 |[],_=>rfl
 |s::r,k=>by change(oA (k+1) r).length+1=r.length+1;rw[mG r]
theorem D9 (L:Nat):∀(r q:List Cell) (k:Nat),oB L k (r++q)=oB L k r++oB L (k+r.length) q
 |[],q,k=>rfl
 |c::r,q,k=>by
  change JM L k c::oB L (k+1) (r++q)=JM L k c::(oB L (k+1) r++oB L (k+(r.length+1)) q);rw[D9 L r q,show k+1+r.length=k+(r.length+1) by lia]
theorem D8:∀(r q:List Cell) (k:Nat),oA k (r++q)=oA k r++oA (k+r.length) q
 |[],q,k=>rfl
 |c::r,q,k=>by
  change _::oA (k+1) (r++q)=_::(oA (k+1) r++oA (k+(r.length+1)) q);rw[D8 r q,show k+1+r.length=k+(r.length+1) by lia]
def OF (L:Nat) (cz:Nat):List Cell:=if 1<=cz - L then[.main (cz - L),.dly (cz - L)]else[.main (cz - L)]
def mE (L:Nat):List Nat->List Cell
 |[]=>[]
 |cz::r=>OF L cz++mE L r
theorem CY (L:Nat):∀ a b:List Nat,mE L (a++b)=mE L a++mE L b
 |[],b=>rfl
 |x::a,b=>by change OF L x++mE L (a++b)=OF L x++mE L a++mE L b;rw[CY L a b,ě]
theorem CW (L:Nat):∀ a:List Nat,(mE L a).length<=2 * a.length
 |[]=>Ñ _
 |x::a=>by
  have ih:=CW L a;change(OF L x++mE L a).length<=2 * (a.length+1);rw[Þ];have:(OF L x).length<=2:=by unfold OF;split <;> simp
  lia
def LB (L:Nat) (T:List Nat):Net:=celN L (mE L T)
end Tw
namespace L2
open PySem PySem.Spec PyProof.Rows
end L2
namespace Tw
open PySem L2
def sU (K:Ç):Sp:=λ vs H Q _=>∃(t:Option Int) (s:Nat),vs=[qD t,.int (s:Int)]/\∀ p H',aE H H'->Is K H' (.tup ((nJ t s).map jR)) p->Q p H'
theorem IN (F:Fun K "one_on" "one_on" (bG 66) f fd) (T:Txt mg):FnOk P w K mg base fX 1 f fd ["target","size"] (sU K):=by
 show F.ok ["target","size"] λ sc gz A outer s H vs Q E hr h=>?_
 ·let⟨t,n,rfl,k⟩:=h;show⟨_,(aA (cE (bN GA (pv 1) aD (bK _)) (aF (aK (aQ (a7 (aQ (a7 (pv 0) (a7 aD a9))) (a7 (aQ (a7 cH (a7 (aW eN (pv 1) aD) a9))) a9))))) bF)
   (aF (aK (aQ (a7 (aQ (a7 (pv 0) (a7 aD a9))) a9))))),?_⟩
  show⟨_,O,_,_,O,O,_,O,i9 (λ hT=>?_) λ hF=>?_⟩
  ·have hT:(1:Int) < (n:Int):=ć hT;have e:nJ t n=[(t,1),(W,(n:Int) - 1)]:=by unfold nJ;rw[Å Fn]
   rw[e]at k;show⟨_,O,(sz0 2),λ e1 uz=>⟨_,O,_,_,O,O,(sz0 2),λ e2 se=>⟨(sz0 2),λ e3 xc=>?_⟩⟩⟩;have s1:=È (o:=HO.tup [qD t,.int 1]) uz;have s2:=È (o:=HO.tup [.non,.int ((n:Int) - 1)]) se;have s3:=È (o:=HO.tup [.ref e1,.ref e2]) xc;show k _ _ ((s1.trans s2).trans s3) ?_;show Ð (ds:=[jR (t,1),jR (W,(n:Int) - 1)]) (Í a8) (.cons (Ð (ds:=[HW t,.int 1]) ((s2.trans s3).tup (Í a8)) (.cons (Is.tgOf t) (.cons (Õ _) .nil))) (.cons (Ð (ds:=[.non,.int ((n:Int) - 1)]) (s3.tup (Í a8)) (.cons Is.n (.cons (Õ _) .nil))) .nil))
  ·have hF:¬ 1 < n:=λ z=>hF (ð (show (1:Int) < (n:Int) by lia));have e:nJ t n=[(t,1)]:=by unfold nJ;rw[Ä hF]
   rw[e]at k;show⟨_,O,(sz0 2),λ e1 uz=>⟨(sz0 1),λ e3 xc=>?_⟩⟩;have s1:=È (o:=HO.tup [qD t,.int 1]) uz;have s3:=È (o:=HO.tup [.ref e1]) xc;show k _ _ (s1.trans s3) ?_;show Ð (ds:=[jR (t,1)]) (Í a8) (.cons (Ð (ds:=[HW t,.int 1]) (s3.tup (Í a8)) (.cons (Is.tgOf t) (.cons (Õ _) .nil))) .nil)
def xC (K:Ç):Sp:=λ vs H Q _=>∃(a:Á) (S:List Nat),vs=[.ref a]/\H a=Y (.lst (cY S))/\S.length<=12/\∀ p H',aE H H'->Is K H' (cJ (NZ S)) p->Q p H'
theorem mO {ae:Type}{xs:List ae}{x:ae} (h:xs[i]?=Y x):xs.take (i+1)=xs.take i++[x]:=by
 rw[Ĳ,h];rfl
theorem GW (n:Nat):∀(r:List Nat) (k j s:Nat),r[j]?=Y s->(EZ n k r)[j]?=Y (VF n (k+j) s)
 |[],_,_,_,h=>by cases h
 |x::r,k,0,s,h=>by cases h;rfl
 |x::r,k,j+1,s,h=>by
  have:=GW n r (k+1) j s h;rw[show k+1+j=k+(j+1) by lia]at this;show this
theorem EF (F:Fun K "counter" "counter" (bG 64) f fd) (T:Txt mg) (km:Callee P w K mg base "one_on" ["target","size"] 1 (sU K) f1 je):FnOk P w K mg base fX 2 f fd ["sizes"] (xC K):=by
 show F.ok ["sizes","vessels","number","size","target"] λ sc gz A outer s H vs Q E hr h=>?_
 ·let⟨a,S,rfl,ha,h12,k⟩:=h
  (with_reducible show⟨_,(aA (pL 1 sc.nd (bC a9))
   (aA (dB ò rf (iO (K:=K) rf rf (by with_unfolding_all show T.b_enumerate) (a7 (pv 0) a9)) (aM (K:=K) (n:=2) rf rf (aB (gL 2 sc.nd) (aB (gL 3 sc.nd) aL))) (aA (pL 4 sc.nd (pE (bN rX (aW cF (pv 2) aD) (rW K (by with_unfolding_all show T.b_len) (pv 0)) (bK _)) (aW cF (pv 2) aD) cH))
   (aF (bH (dC (K:=K) rf ì ô õ (um bL) (pv 1) (a7 (aQ (a7 (pv 3) (a7 (pv 3) (a7 (cA (by with_unfolding_all show km) hr (a7 (pv 4) (a7 (pv 3) a9))) (a7 eI (a7 cH (a7 (aQ a9) a9))))))) a9))))))
   (aF (aK (aQ (a7 (aU (bR (K:=K) rf) rf (by with_unfolding_all show T.b_tuple) bT (a7 (pv 1) a9)) (a7 (aQ (a7 (aQ (a7 aD (a7 aD (a7 eI a9)))) a9)) a9))))))),?_⟩)
  have nl:(cY S).length=S.length:=by unfold cY;rw[Ê]
  show⟨à _,λ vl wu=>?_⟩;show⟨_,O,Eh,a,O,⟨_,É (È wu _ _ ha)⟩,mD (K:=K) (t:=Eh) (a:=a) (xs:=cY S)
   (λ i ac H'=>aE H H'/\(∃ r,H' vl=Y (.lst r)/\IsL K H' (((EZ S.length 0 S).take i).map lB) r)/\∃ v2 v3 v4,ac=[Y (.ref a),Y (.ref vl),v2,v3,v4])
   (λ i ac H' p=>É (p.1 _ _ ha)) ⟨È wu,⟨[],a8,.nil⟩,W,W,W,O⟩ ?_ ?_⟩
  rotate_left
  ·rintro i x0 ac H2 Tt nz ⟨il,⟨r,rh,lr⟩,v2,v3,v4,rfl⟩ hT;unfold cY at nz;rw[Ø]at nz;let⟨sz,hsz,rfl⟩:=é.mp nz;have mw:=(Ö.mp hsz).1;have ng:=È (o:=HO.tup [.int (i:Int),.int (sz:Int)]) hT;show⟨Tt,_,O,Í a8,O,_,_,O,_,_,O,O,?_⟩;have Bf:=ng _ _ rh;have Dy:=Î ng.ts _ _ lr;have s3:=il.trans ng;generalize upd H2 Tt (.tup [.int (i:Int),.int (sz:Int)])=H3 at Bf Dy s3 ⊢;clear ng rh lr il hT;dsimp only[eJ,nE];show fK (λ ac H'=>H'=H3/\ac=[Y (.ref a),Y (.ref vl),Y (.int (i:Int)),Y (.int (sz:Int)),Y (qD (HV S.length i))]) (λ D' hD=>?_) ?_
   ·show⟨_,O,_,_,O,O,_,O,a,_,O,.inl (É (s3 _ _ ha)),_,_,O,O,_,O,i9 (λ hT=>?_) λ hF=>?_⟩
    ·have hT:(i:Int)+1 < ((cY S).length:Int):=ć hT;rw[nl]at hT;show⟨_,O,_,_,O,O,hD _ _ ⟨O,?_⟩⟩;unfold HV;rw[Å Fn];rfl
    ·have hF:¬ i+1 < S.length:=λ z=>hF (ð (show(i:Int)+1 < ((cY S).length:Int) by rw[nl];lia));show hD _ _ ⟨O,?_⟩;unfold HV;rw[Ä hF];rfl
   rintro ac H' ⟨rfl,rfl⟩;show⟨_,O,.inl ⟨O,_,É Bf⟩,_,O,_,O,_,O,_,O,HV S.length i,sz,O,λ p H4 s4 ip=>⟨à _,λ e1 uz=>⟨(sz0 6),λ e2 se=>?_⟩⟩⟩;have s5:=È (o:=HO.tup []) uz;have q5:aP K (upd H4 e1 (.tup [])) e1 []:=Í a8;generalize upd H4 e1 (.tup [])=H5 at s5 q5 se ⊢;have s6:=È (o:=HO.tup [.int (sz:Int),.int (sz:Int),p,.bl Eh,.non,.ref e1]) se;have q6:aP K (upd H5 e2 (.tup [.int (sz:Int),.int (sz:Int),p,.bl Eh,.non,.ref e1])) e2 _:=Í a8;generalize upd H5 e2 (.tup [.int (sz:Int),.int (sz:Int),p,.bl Eh,.non,.ref e1])=H6 at s6 q6 ⊢;have Vm:=s6 _ _ (s5 _ _ (s4 _ _ Bf));have jg:r.length<=12:=by rw[Dy.length,Ê,ß];lia
   show⟨vl,_,_,O,O,Vm,aS Fn,?_⟩;have mu:iI (H6 vl):=by rw[Vm];show trivial
   have ts:bD K H6 (upd H6 vl (.lst (r++[.ref e2]))):=è Ú mu;have vj:=(s4.trans s5).trans s6;show⟨(s3.trans vj).put wu,⟨_,a8,?_⟩,_,_,_,O⟩;have uq:=GW S.length S 0 i sz hsz;rw[Ě]at uq;rw[mO uq,Ó];show Ă ?_ (Î (vj.ts.trans ts) _ _ Dy);show Ì ts _ _ (Ð (ds:=[.int (sz:Int),.int (sz:Int),.tup ((nJ (HV S.length i) sz).map jR),.bl Eh,.non,.tup []]) q6 (.cons (Õ _) (.cons (Õ _) (.cons (Ì (s5.trans s6).ts _ _ ip) (.cons (Is.b _) (.cons Is.n (.cons (Ð (ds:=[]) (s6.tup q5) .nil) .nil)))))))
  rintro ac H2 xK;let⟨il,⟨r,rh,lr⟩,v2,v3,v4,rfl⟩:=xK;rw[nl,đ (by rw[D6];show Ñ _)]at lr;show⟨_,O,vl,_,O,.inl ⟨É rh,λ q1 sw=>⟨(sz0 3),λ q2 wa=>⟨(sz0 1),λ q3 yd=>⟨(sz0 2),λ q4 Lr=>?_⟩⟩⟩⟩⟩;have m1:=È (o:=HO.tup r) sw;have i1:aP K (upd H2 q1 (.tup r)) q1 r:=Í a8;generalize upd H2 q1 (.tup r)=H3 at m1 i1 wa yd Lr ⊢;have m2:=È (o:=HO.tup [.int 0,.int 1,.bl Eg]) wa;have i2:aP K (upd H3 q2 (.tup [.int 0,.int 1,.bl Eg])) q2 _:=Í a8;generalize upd H3 q2 (.tup [.int 0,.int 1,.bl Eg])=H4 at m2 i2 yd Lr ⊢;have m3:=È (o:=HO.tup [.ref q2]) yd;have i3:aP K (upd H4 q3 (.tup [.ref q2])) q3 _:=Í a8;generalize upd H4 q3 (.tup [.ref q2])=H5 at m3 i3 Lr ⊢;have m4:=È (o:=HO.tup [.ref q1,.ref q3]) Lr;show k _ _ ((((il.trans m1).trans m2).trans m3).trans m4) ?_;show Ð (ds:=[.tup ((EZ S.length 0 S).map lB),.tup [sI (0,1,Eg)]]) (Í a8) (.cons (Ð (((m2.trans m3).trans m4).tup i1) (Î (((m1.trans m2).trans m3).trans m4).ts _ _ lr)) (.cons (Ð (m4.tup i3) (.cons (Ð (ds:=[.int 0,.int 1,.bl Eg]) ((m3.trans m4).tup i2) (.cons (Õ _) (.cons (Õ _) (.cons (Is.b _) .nil)))) .nil)) .nil))
end Tw
namespace TwS
open PySem
end TwS
namespace TwS
open PySem PyProof.Rows
section
variable {prog:Ã}{b:Bool}{A:Around}{E:À->Â->Prop}{s:Â}{a:Á}{L:List Int}
end
end TwS
namespace TwS
open PySem PySem.Spec PyProof.Rows
section
variable {prog:Ã}{b:Bool}{A:Around}{R:Result->Â->Prop}{I:Á}{fp wr:List Á}{G:Array GenState->Array GenState->Prop}{n:Nat}{P:Nat->À->Prop}{St:Nat->Â->Prop}
end
section
variable {prog:Ã}{A:Around}{E:À->Â->Prop}{s:Â}
end
section
variable {prog:Ã}{A:Around}{E:À->Â->Prop}{s:Â}{I S:Á}{o:Obj}{es:Array (Int×À)}{ep i:Nat}{t:SetTable}
end
section
variable {prog:Ã}{A:Around}{E:À->Â->Prop}
end
section
variable {prog:Ã}{S I T:Á}{o:Obj}{es:Array (Int×À)}{ep:Nat}{t:SetTable}{L:List Int}
end
section
variable {prog:Ã}{A:Around}{E:À->Â->Prop}{s:Â}{S:Á}{L:List Int}
end
end TwS
namespace L2
open PySem PySem.Spec PyProof.Rows TwZ TwS
section
variable {X:Cx}{gj:List (Á×Obj)}{σ:St}{H:Hp}{s:Â}
end
end L2
namespace Tw
open PySem L2
section
variable {aw:Á}
end
end Tw
namespace L2
open PySem PySem.Spec PyProof.Rows
theorem BQ {x1}{pos:Pos} (g1:PE X e1 t1) (g2:PE X e2 t2)
  (s1:autoParam (starEach [e1,e2] X.env=(Eh,eval e1 X.env)::starEach [e2] X.env) _0) (s2:autoParam (starEach [e2] X.env=(Eh,eval e2 X.env)::starEach [] X.env) _0):PE X (.Tuple [e1,e2] x1 pos) (jI (aR t1 (aR t2 cU))):=
 have a2:=a7 g2 a9 s2;have a1:=a7 g1 a2 s1
 aQ a1
theorem LR {x1}{pos:Pos} (g1:PE X e1 t1) (g2:PE X e2 t2) (g3:PE X e3 t3)
  (s1:autoParam (starEach [e1,e2,e3] X.env=(Eh,eval e1 X.env)::starEach [e2,e3] X.env) _0) (s2:autoParam (starEach [e2,e3] X.env=(Eh,eval e2 X.env)::starEach [e3] X.env) _0) (s3:autoParam (starEach [e3] X.env=(Eh,eval e3 X.env)::starEach [] X.env) _0):PE X (.Tuple [e1,e2,e3] x1 pos) (jI (aR t1 (aR t2 (aR t3 cU)))):=
 have a3:=a7 g3 a9 s3;have a2:=a7 g2 a3 s2;have a1:=a7 g1 a2 s1
 aQ a1
theorem LQ {x1}{pos:Pos} (g1:PE X e1 t1) (g2:PE X e2 t2) (g3:PE X e3 t3) (g4:PE X e4 t4) (g5:PE X e5 t5) (g6:PE X e6 t6)
  (s1:autoParam (starEach [e1,e2,e3,e4,e5,e6] X.env=(Eh,eval e1 X.env)::starEach [e2,e3,e4,e5,e6] X.env) _0) (s2:autoParam (starEach [e2,e3,e4,e5,e6] X.env=(Eh,eval e2 X.env)::starEach [e3,e4,e5,e6] X.env) _0) (s3:autoParam (starEach [e3,e4,e5,e6] X.env=(Eh,eval e3 X.env)::starEach [e4,e5,e6] X.env) _0) (s4:autoParam (starEach [e4,e5,e6] X.env=(Eh,eval e4 X.env)::starEach [e5,e6] X.env) _0) (s5:autoParam (starEach [e5,e6] X.env=(Eh,eval e5 X.env)::starEach [e6] X.env) _0) (s6:autoParam (starEach [e6] X.env=(Eh,eval e6 X.env)::starEach [] X.env) _0):PE X (.Tuple [e1,e2,e3,e4,e5,e6] x1 pos) (jI (aR t1 (aR t2 (aR t3 (aR t4 (aR t5 (aR t6 cU))))))):=
 have a6:=a7 g6 a9 s6;have a5:=a7 g5 a6 s5;have a4:=a7 g4 a5 s4;have a3:=a7 g3 a4 s3;have a2:=a7 g2 a3 s2;have a1:=a7 g1 a2 s1
 aQ a1
theorem BR :PE X (.Tuple [.Tuple [.Constant .none k1 p1,.Constant (.int i) k2 p2] x1 q1] x2 q2) (jI (aR (jI (aR (tC .non) (aR (tC (.int i)) cU))) cU)):=
 have a2:PA X [.Constant (.int i) k2 p2] (aR (tC (.int i)) cU):=a7 aD a9;have a1:PA X [.Constant .none k1 p1,.Constant (.int i) k2 p2] (aR (tC .non) (aR (tC (.int i)) cU)):=a7 cH a2;have b1:PE X (.Tuple [.Constant .none k1 p1,.Constant (.int i) k2 p2] x1 q1) (jI (aR (tC .non) (aR (tC (.int i)) cU))):=aQ a1;have c1:PA X [.Tuple [.Constant .none k1 p1,.Constant (.int i) k2 p2] x1 q1] (aR (jI (aR (tC .non) (aR (tC (.int i)) cU))) cU):=a7 b1 a9
 aQ c1
theorem BU  :
  PE X (.List [.Tuple [.Constant (.int i1) k1 p1,.Constant (.int i2) k2 p2,.Tuple [.Tuple [.Constant .none k3 p3,.Constant (.int i3) k4 p4] x1 q1] x2 q2,.Constant (.bool bb) k5 p5,.Constant .none k6 p6,.Tuple [] x3 q3] x4 q4] q5)
   (DQ (aR (jI (aR (tC (.int i1)) (aR (tC (.int i2)) (aR (jI (aR (jI (aR (tC .non) (aR (tC (.int i3)) cU))) cU)) (aR (tC (.bl bb)) (aR (tC .non) (aR (jI cU) cU))))))) cU)):=
 have e0:PE X (.Tuple [] x3 q3) (jI cU):=aQ a9;have a6:PA X [.Tuple [] x3 q3] (aR (jI cU) cU):=a7 e0 a9;have a5:PA X [.Constant .none k6 p6,.Tuple [] x3 q3] (aR (tC .non) (aR (jI cU) cU)):=a7 cH a6;have a4:PA X [.Constant (.bool bb) k5 p5,.Constant .none k6 p6,.Tuple [] x3 q3] (aR (tC (.bl bb)) (aR (tC .non) (aR (jI cU) cU))):=a7 eI a5;have n1:PE X (.Tuple [.Tuple [.Constant .none k3 p3,.Constant (.int i3) k4 p4] x1 q1] x2 q2) _:=BR;have a3:=a7 n1 a4;have a2:=a7 (aD (X:=X) (i:=i2) (j:=k2) (pos:=p2)) a3;have a1:=a7 (aD (X:=X) (i:=i1) (j:=k1) (pos:=p1)) a2;have b1:=aQ (x1:=x4) (pos:=q4) a1;have c1:=a7 b1 a9
 bC c1
theorem P7  (h:PE X e te) (hs:autoParam (starEach [e] X.env=(Eh,eval e X.env)::starEach [] X.env) _0):PE X (.Tuple [.Tuple [.Constant (.str z) k1 p1,e] x1 q1] x2 q2) (jI (aR (jI (aR (tC (.str z)) (aR te cU))) cU)):=
 have a2:PA X [e] (aR te cU):=a7 h a9 hs;have a1:PA X [.Constant (.str z) k1 p1,e] (aR (tC (.str z)) (aR te cU)):=a7 eY a2;have b1:PE X (.Tuple [.Constant (.str z) k1 p1,e] x1 q1) (jI (aR (tC (.str z)) (aR te cU))):=aQ a1;have c1:PA X [.Tuple [.Constant (.str z) k1 p1,e] x1 q1] (aR (jI (aR (tC (.str z)) (aR te cU))) cU):=a7 b1 a9
 aQ c1
end L2
namespace Tw
open PySem L2
theorem CQ :∀ l:List Nat,bZ K H (l.map λ(i:Nat)=>G.int (i:Int)) (cY l)
 |[]=>ġ
 |i::l=>.cons (aJ.i _) (CQ l)
theorem rD:∀ l:List Nat,bJ (l.map λ(i:Nat)=>G.int (i:Int))=0
 |[]=>by rw[í,bJ]
 |i::l=>by rw[Ù,bJ,rD l];simp[cB]
def L4 (K:Ç):Sp:=λ vs H Q _=>∃(a:Á) (S:List Nat),vs=[.ref a]/\H a=Y (.lst (cY S))/\S.length<=11/\∀ p H',aE H H'->Is K H' (cJ (O2 S)) p->Q p H'
theorem CC (F:Fun K "bell_for" "bell_for" (bG 65) f fd) (T:Txt mg) (km:Callee P w K mg base "one_on" ["target","size"] 1 (sU K) f1 je):FnOk P w K mg base fX 2 f fd ["ticks"] (L4 K):=by
 show F.ok ["ticks","vessels","spouts","number","tick"] λ sc gz A outer s H vs Q E hr h=>?_
 ·let⟨a,S,rfl,ha,h11,k⟩:=h
  (with_reducible show⟨_,(aA (LI (i:=1) (j:=2) rf sc.nd rf rf FZ rf rf (a7 BU (a7 (bC a9) a9)) rf)
   (aA (dB ò rf (iO (K:=K) rf rf (by with_unfolding_all show T.b_enumerate) (a7 (pv 0) a9)) (aM (K:=K) (n:=2) rf rf (aB (gL 3 sc.nd) (aB (gL 4 sc.nd) aL))) (aA (bH (dC (K:=K) rf ì ô õ (um bL) (pv 1) (a7 (LQ (pv 4) (pv 4) (cA (by with_unfolding_all show km) hr (a7 aD (a7 (pv 4) a9))) eI cH (P7 (pv 3))) a9)))
   (aF (bH (dC (K:=K) rf ì ô õ (um bL) (pv 2) (a7 (LR (aW cF (pv 3) aD) aD eI) a9))))))
   (aF (aK (BQ (aU (bR (K:=K) rf) rf (by with_unfolding_all show T.b_tuple) bT (a7 (pv 1) a9)) (aU (bR (K:=K) rf) rf (by with_unfolding_all show T.b_tuple) bT (a7 (pv 2) a9))))))),?_⟩)
  have nl:(cY S).length=S.length:=by unfold cY;rw[Ê]
  show⟨(sz0 2),λ e1 uz=>⟨(sz0 1),λ e2 se=>⟨à _,λ e3 xc=>⟨(sz0 6),λ e4 Jd=>⟨(sz0 1),λ vl wu=>⟨à _,λ pl kz=>⟨_,_,O,?_⟩⟩⟩⟩⟩⟩⟩;have s1:=È (o:=HO.tup [.non,.int 1]) uz;have q1:aP K (upd H e1 (.tup [.non,.int 1])) e1 _:=Í a8;generalize upd H e1 (.tup [.non,.int 1])=H1 at *;have s2:=È (o:=HO.tup [.ref e1]) se;have q2:aP K (upd H1 e2 (.tup [.ref e1])) e2 _:=Í a8;generalize upd H1 e2 (.tup [.ref e1])=H2 at *;have s3:=È (o:=HO.tup []) xc;have q3:aP K (upd H2 e3 (.tup [])) e3 _:=Í a8;generalize upd H2 e3 (.tup [])=H3 at *;have s4:=È (o:=HO.tup [.int 1,.int 1,.ref e2,.bl Eh,.non,.ref e3]) Jd;have q4:aP K (upd H3 e4 (.tup [.int 1,.int 1,.ref e2,.bl Eh,.non,.ref e3])) e4 _:=Í a8;generalize upd H3 e4 (.tup [.int 1,.int 1,.ref e2,.bl Eh,.non,.ref e3])=H4 at *;have i4:Is K H4 (lB (pH W 1 [])) (.ref e4):=Ð (ds:=[.int 1,.int 1,.tup [.tup [.non,.int 1]],.bl Eh,.non,.tup []]) q4 (.cons (Õ _) (.cons (Õ _) (.cons (Ð (ds:=[.tup [.non,.int 1]]) ((s3.trans s4).tup q2) (.cons (Ð (ds:=[.non,.int 1]) (((s2.trans s3).trans s4).tup q1) (.cons Is.n (.cons (Õ _) .nil))) .nil)) (.cons (Is.b _) (.cons Is.n (.cons (Ð (ds:=[]) (s4.tup q3) .nil) .nil))))));have Aj:=((s1.trans s2).trans s3).trans s4;clear s1 s2 s3 s4 q1 q2 q3 q4 uz se xc Jd;have fv:H vl=none:=Aj.free wu;have s5:=È (o:=HO.lst [.ref e4]) wu;have g5:upd H4 vl (.lst [.ref e4]) vl=Y (.lst [.ref e4]):=a8;generalize upd H4 vl (.lst [.ref e4])=H5 at *;have fp:H pl=none:=(Aj.trans s5).free kz;have Je:vl≠pl:=aI g5 kz;have s6:=È (o:=HO.lst []) kz;have g6:upd H5 pl (.lst []) pl=Y (.lst []):=a8;generalize upd H5 pl (.lst [])=H6 at *;have Jf:=(Aj.trans s5).trans s6;show⟨_,O,Eh,a,O,⟨_,É (Jf _ _ ha)⟩,mD (K:=K) (t:=Eh) (a:=a) (xs:=cY S)
   (λ i ac H'=>aE H H'/\(∃ r,H' vl=Y (.lst r)/\IsL K H' ((pH W 1 []::(DG 0 S).take i).map lB) r)/\(∃ r,H' pl=Y (.lst r)/\IsL K H' (((FE 0 S).take i).map sI) r)/\∃ v3 v4,ac=[Y (.ref a),Y (.ref vl),Y (.ref pl),v3,v4])
   (λ i ac H' p=>É (p.1 _ _ ha)) ⟨Jf,⟨_,s6 _ _ g5,.cons (Ì (s5.trans s6).ts _ _ i4) .nil⟩,⟨[],g6,.nil⟩,W,W,O⟩ ?_ ?_⟩
  rotate_left
  ·rintro i x0 ac H2 Tt nz ⟨il,⟨r,rh,lr⟩,⟨rp,pw,lp⟩,v3,v4,rfl⟩ hT;unfold cY at nz;rw[Ø]at nz;let⟨sz,hsz,rfl⟩:=é.mp nz;have mw:=(Ö.mp hsz).1;have ng:=È (o:=HO.tup [.int (i:Int),.int (sz:Int)]) hT;show⟨Tt,_,O,Í a8,O,_,_,O,_,_,O,O,?_⟩;have Bf:=ng _ _ rh;have Az:=ng _ _ pw;have Dy:=Î ng.ts _ _ lr;have Qz:=Î ng.ts _ _ lp;have s3:=il.trans ng;generalize upd H2 Tt (.tup [.int (i:Int),.int (sz:Int)])=H3 at Bf Dy Az Qz s3 ⊢;clear ng rh lr pw lp il hT;show⟨_,O,.inl ⟨O,_,É Bf⟩,_,O,_,O,_,O,Y 0,sz,O,λ p H4 s4 ip=>⟨_,O,(sz0 2),λ e1 uz=>⟨(sz0 1),λ e2 se=>⟨(sz0 6),λ e3 xc=>?_⟩⟩⟩⟩;have s5:=È (o:=HO.tup [.str "shut",.int (i:Int)]) uz;have q5:aP K (upd H4 e1 (.tup [.str "shut",.int (i:Int)])) e1 _:=Í a8;generalize upd H4 e1 (.tup [.str "shut",.int (i:Int)])=H5 at s5 q5 se xc ⊢;have s6:=È (o:=HO.tup [.ref e1]) se;have q6:aP K (upd H5 e2 (.tup [.ref e1])) e2 _:=Í a8;generalize upd H5 e2 (.tup [.ref e1])=H6 at s6 q6 xc ⊢;have s7:=È (o:=HO.tup [.int (sz:Int),.int (sz:Int),p,.bl Eh,.non,.ref e2]) xc;have q7:aP K (upd H6 e3 (.tup [.int (sz:Int),.int (sz:Int),p,.bl Eh,.non,.ref e2])) e3 _:=Í a8;generalize upd H6 e3 (.tup [.int (sz:Int),.int (sz:Int),p,.bl Eh,.non,.ref e2])=H7 at s7 q7 ⊢;have Fd:=((s4.trans s5).trans s6).trans s7;have Ra:=Fd _ _ Bf;have xp:=Fd _ _ Az;have iv:Is K H7 (lB (TR i sz)) (.ref e3):=Ð (ds:=[.int (sz:Int),.int (sz:Int),.tup ((nJ (Y 0) sz).map jR),.bl Eh,.non,.tup [kU ("shut",(i:Int))]]) q7
    (.cons (Õ _) (.cons (Õ _) (.cons (Ì ((s5.trans s6).trans s7).ts _ _ ip) (.cons (Is.b _) (.cons Is.n (.cons (Ð (ds:=[kU ("shut",(i:Int))]) (s7.tup q6) (.cons (Ð (ds:=[.str "shut",.int (i:Int)]) ((s6.trans s7).tup q5) (.cons (Is.s _) (.cons (Õ _) .nil))) .nil)) .nil))))))
   have Rb:=Î Fd.ts _ _ Dy;have yj:=Î Fd.ts _ _ Qz;have vk:=s3.trans Fd;clear s4 s5 s6 s7 q5 q6 q7 ip Fd Dy Qz Bf Az uz se xc s3;have jg:r.length<=12:=by rw[Rb.length,Ê,Ý,ß];lia
   have Zc:rp.length<=11:=by rw[yj.length,Ê,ß];lia
   show⟨vl,_,_,O,O,Ra,aS Fn,?_⟩;have mu:iI (H7 vl):=by rw[Ra];show trivial
   have ts:bD K H7 (upd H7 vl (.lst (r++[.ref e3]))):=è Ú mu;have Vn:upd H7 vl (.lst (r++[.ref e3])) vl=Y (.lst (r++[.ref e3])):=a8;have Rc:upd H7 vl (.lst (r++[.ref e3])) pl=Y (.lst rp):=by rw[aG (Ne.symm Je)];show xp
   have Vo:aE H (upd H7 vl (.lst (r++[.ref e3]))):=vk.put fv;have Vp:IsL K (upd H7 vl (.lst (r++[.ref e3]))) ((pH W 1 []::(DG 0 S).take (i+1)).map lB) (r++[.ref e3]):=by
    have uq:=GZ S 0 i sz hsz;rw[Ě]at uq;rw[mO uq,<- ĩ,Ó];show Ă (Ì ts _ _ iv) (Î ts _ _ Rb)
   have Vq:=Î ts _ _ yj;generalize upd H7 vl (.lst (r++[.ref e3]))=H8 at Vn Rc Vo Vp Vq ⊢;clear ts mu Rb yj Ra xp iv vk;show⟨_,O,.inl ⟨O,_,É Rc⟩,_,O,_,_,O,O,(sz0 3),λ e he=>?_⟩;have s9:=È (o:=HO.tup [.int ((i:Int)+1),.int 1,.bl Eg]) he;have q9:aP K (upd H8 e (.tup [.int ((i:Int)+1),.int 1,.bl Eg])) e _:=Í a8;generalize upd H8 e (.tup [.int ((i:Int)+1),.int 1,.bl Eg])=H9 at s9 q9 ⊢;have Fe:=s9 _ _ Rc;have mu:iI (H9 pl):=by rw[Fe];show trivial
   have ts:bD K H9 (upd H9 pl (.lst (rp++[.ref e]))):=è Ú mu;show⟨pl,_,_,O,O,Fe,aS Fn,(Vo.trans s9).put fp,⟨_,by rw[aG Je];show s9 _ _ Vn,Î (s9.ts.trans ts) _ _ Vp⟩,⟨_,a8,?_⟩,_,_,O⟩;have uq:=GY S 0 i sz hsz;rw[Ě]at uq;rw[mO uq,Ó];show Ă (Ì ts _ _ ?_) (Î (s9.ts.trans ts) _ _ Vq);show Ð (ds:=[.int ((i:Int)+1),.int 1,.bl Eg]) q9 (.cons (Õ _) (.cons (Õ _) (.cons (Is.b _) .nil)))
  rintro ac H2 xK;let⟨il,⟨r,rh,lr⟩,⟨rp,pw,lp⟩,v3,v4,rfl⟩:=xK;rw[nl,đ (by rw[DF];show Ñ _)]at lr;rw[nl,đ (by rw[DE];show Ñ _)]at lp;show⟨_,O,vl,_,O,.inl ⟨É rh,λ q1 sw=>⟨_,O,pl,_,O,.inl ⟨É (È sw _ _ pw),λ q2 wa=>⟨(sz0 2),λ q3 yd=>?_⟩⟩⟩⟩⟩;have m1:=È (o:=HO.tup r) sw;have m2:=È (o:=HO.tup rp) wa;have m3:=È (o:=HO.tup [.ref q1,.ref q2]) yd;show k _ _ (((il.trans m1).trans m2).trans m3) ?_;show Ð (ds:=[.tup ((pH W 1 []::DG 0 S).map lB),.tup ((FE 0 S).map sI)]) (Í a8) (.cons (Ð ((m2.trans m3).tup (Í a8)) (Î ((m1.trans m2).trans m3).ts _ _ lr)) (.cons (Ð (m3.tup (Í a8)) (Î ((m1.trans m2).trans m3).ts _ _ lp)) .nil))
structure RhS (K:Ç) (H0 H:Hp) (vl pl:Á) (L:Nat) (C:List Cell):Prop where
 sm:aE H0 H
 vs:∃ r,H vl=Y (.lst r)/\IsL K H ((pH W 1 []::oB L 0 C).map lB) r
 sp:∃ r,H pl=Y (.lst r)/\IsL K H ((oA 0 C).map sI) r
def B2 (K:Ç):Sp:=λ vs H Q _=>∃(a:Á) (L:Nat) (S:List Nat),vs=[.ref a,.int (L:Int)]/\H a=Y (.lst (cY S))/\S.length<=5/\(∀ cz∈S,L<=cz)/\∀ p H',aE H H'->Is K H' (cJ (LB L S)) p->Q p H'
theorem IM (F:Fun K "rhythm" "rhythm" (bG 77) f fd) (T:Txt mg) (km:Callee P w K mg base "one_on" ["target","size"] 1 (sU K) f1 je):FnOk P w K mg base fX 2 f fd ["ticks","length"] (B2 K):=by
 show F.ok ["ticks","length","vessels","spouts","tick","late","acts"] λ sc gz A outer s H vs Q E hr h=>?_
 ·let⟨a,L,S,rfl,ha,h5,xj,k⟩:=h
  (with_reducible show⟨_,(aA (LI (i:=2) (j:=3) rf sc.nd rf rf FZ rf rf (a7 BU (a7 (bC a9) a9)) rf)
   (aA (dB ò rf (cP (K:=K) rf (pv 0)) (gL 4 sc.nd) (aA (pL 5 sc.nd (aW eN (pv 4) (pv 1)))
   (aA (bH (dC (K:=K) rf ì ô õ (um bL) (pv 2) (a7 (LQ (pv 1) (pv 1) (cA (by with_unfolding_all show km) hr (a7 aD (a7 (pv 1) a9))) eI cH (aQ a9)) a9)))
   (aA (bH (dC (K:=K) rf ì ô õ (um bL) (pv 3) (a7 (LR (aW eN (rW K (by with_unfolding_all show T.b_len) (pv 2)) aD) aD (fI rX (pv 5) aD (bK _))) a9)))
   (aF (cE (bN M3 (pv 5) aD (bK _)) (aA (pL 6 sc.nd (BQ (BQ eY (aW eN (rW K (by with_unfolding_all show T.b_len) (pv 3)) aD)) (BQ eY (rW K (by with_unfolding_all show T.b_len) (pv 3)))))
   (aA (bH (dC (K:=K) rf ì ô õ (um bL) (pv 2) (a7 (LQ (pv 5) (pv 5) BR eI cH (pv 6)) a9)))
   (aF (bH (dC (K:=K) rf ì ô õ (um bL) (pv 3) (a7 (LR (aW eN (rW K (by with_unfolding_all show T.b_len) (pv 2)) aD) aD eI) a9)))))) bF))))))
   (aF (aK (BQ (aU (bR (K:=K) rf) rf (by with_unfolding_all show T.b_tuple) bT (a7 (pv 2) a9)) (aU (bR (K:=K) rf) rf (by with_unfolding_all show T.b_tuple) bT (a7 (pv 3) a9))))))),?_⟩)
  have nl:(cY S).length=S.length:=by unfold cY;rw[Ê]
  show⟨(sz0 2),λ e1 uz=>⟨(sz0 1),λ e2 se=>⟨à _,λ e3 xc=>⟨(sz0 6),λ e4 Jd=>⟨(sz0 1),λ vl wu=>⟨à _,λ pl kz=>⟨_,_,O,?_⟩⟩⟩⟩⟩⟩⟩;have s1:=È (o:=HO.tup [.non,.int 1]) uz;have q1:aP K (upd H e1 (.tup [.non,.int 1])) e1 _:=Í a8;generalize upd H e1 (.tup [.non,.int 1])=H1 at *;have s2:=È (o:=HO.tup [.ref e1]) se;have q2:aP K (upd H1 e2 (.tup [.ref e1])) e2 _:=Í a8;generalize upd H1 e2 (.tup [.ref e1])=H2 at *;have s3:=È (o:=HO.tup []) xc;have q3:aP K (upd H2 e3 (.tup [])) e3 _:=Í a8;generalize upd H2 e3 (.tup [])=H3 at *;have s4:=È (o:=HO.tup [.int 1,.int 1,.ref e2,.bl Eh,.non,.ref e3]) Jd;have q4:aP K (upd H3 e4 (.tup [.int 1,.int 1,.ref e2,.bl Eh,.non,.ref e3])) e4 _:=Í a8;generalize upd H3 e4 (.tup [.int 1,.int 1,.ref e2,.bl Eh,.non,.ref e3])=H4 at *;have i4:Is K H4 (lB (pH W 1 [])) (.ref e4):=Ð (ds:=[.int 1,.int 1,.tup [.tup [.non,.int 1]],.bl Eh,.non,.tup []]) q4 (.cons (Õ _) (.cons (Õ _) (.cons (Ð (ds:=[.tup [.non,.int 1]]) ((s3.trans s4).tup q2) (.cons (Ð (ds:=[.non,.int 1]) (((s2.trans s3).trans s4).tup q1) (.cons Is.n (.cons (Õ _) .nil))) .nil)) (.cons (Is.b _) (.cons Is.n (.cons (Ð (ds:=[]) (s4.tup q3) .nil) .nil))))));have Aj:=((s1.trans s2).trans s3).trans s4;clear s1 s2 s3 s4 q1 q2 q3 q4 uz se xc Jd;have fv:H vl=none:=Aj.free wu;have s5:=È (o:=HO.lst [.ref e4]) wu;have g5:upd H4 vl (.lst [.ref e4]) vl=Y (.lst [.ref e4]):=a8;generalize upd H4 vl (.lst [.ref e4])=H5 at *;have fp:H pl=none:=(Aj.trans s5).free kz;have Je:vl≠pl:=aI g5 kz;have s6:=È (o:=HO.lst []) kz;have g6:upd H5 pl (.lst []) pl=Y (.lst []):=a8;generalize upd H5 pl (.lst [])=H6 at *;have Jf:=(Aj.trans s5).trans s6;have Jg:∀ {HH:Hp}{C:List Cell}{r:List V}{p:V}{c:Cell},aE H HH->HH vl=Y (.lst r)->IsL K HH ((pH W 1 []::oB L 0 C).map lB) r->Is K HH (lB (JM L C.length c)) p->(∃ r2,HH pl=Y (.lst r2)/\IsL K HH ((oA 0 C).map sI) r2)->
    aE H (upd HH vl (.lst (r++[p])))/\upd HH vl (.lst (r++[p])) vl=Y (.lst (r++[p]))/\IsL K (upd HH vl (.lst (r++[p]))) ((pH W 1 []::oB L 0 (C++[c])).map lB) (r++[p])/\(∃ r2,upd HH vl (.lst (r++[p])) pl=Y (.lst r2)/\IsL K (upd HH vl (.lst (r++[p]))) ((oA 0 C).map sI) r2):=
   λ {HH C r p c} sH hv lv ip hp=>by
    have mu:iI (HH vl):=by rw[hv];show trivial
    have ts:bD K HH (upd HH vl (.lst (r++[p]))):=è Ú mu;let⟨r2,h2,l2⟩:=hp;show⟨sH.put fv,a8,?_,r2,by rw[aG (Ne.symm Je)];show h2,Î ts _ _ l2⟩;rw[D9,Ě,<- ĩ,Ó];show Ă (Ì ts _ _ ip) (Î ts _ _ lv)
  have Jh:∀ {HH:Hp}{C:List Cell}{r:List V}{p:V}{c:Cell},aE H HH->HH pl=Y (.lst r)->IsL K HH ((oA 0 C).map sI) r->Is K HH (sI (((C.length+1:Nat):Int),1,Q9 c)) p->(∃ r2,HH vl=Y (.lst r2)/\IsL K HH ((pH W 1 []::oB L 0 (C++[c])).map lB) r2)->
    RhS K H (upd HH pl (.lst (r++[p]))) vl pl L (C++[c]):=
   λ {HH C r p c} sH hp lp ip hv=>by
    have mu:iI (HH pl):=by rw[hp];show trivial
    have ts:bD K HH (upd HH pl (.lst (r++[p]))):=è Ú mu;let⟨r2,h2,l2⟩:=hv;show⟨sH.put fp,⟨r2,by rw[aG Je];show h2,Î ts _ _ l2⟩,_,a8,?_⟩;rw[D8,Ě,Ó];show Ă (Ì ts _ _ ip) (Î ts _ _ lp)
  show⟨_,O,a,O,⟨_,É (Jf _ _ ha)⟩,iT (K:=K) (a:=a) (xs:=cY S) (λ i ac H'=>RhS K H H' vl pl L (mE L (S.take i))/\∃ v4 v5 v6,ac=[Y (.ref a),Y (.int (L:Int)),Y (.ref vl),Y (.ref pl),v4,v5,v6])
   ⟨⟨Jf,⟨_,s6 _ _ g5,.cons (Ì (s5.trans s6).ts _ _ i4) .nil⟩,⟨[],g6,.nil⟩⟩,W,W,W,O⟩ (λ i ac H' _ p=>É (p.1.sm _ _ ha)) ?_ ?_⟩
  ·rintro i x0 ac H2 nz xK;let⟨⟨il,⟨r,rh,lr⟩,⟨rp,pw,lp⟩⟩,v4,v5,v6,rfl⟩:=xK;unfold cY at nz;rw[Ø]at nz;let⟨cz,gh,rfl⟩:=é.mp nz;have mw:=(Ö.mp gh).1;have hg:=xj cz (Û gh);have fl:=CW L (S.take i);rw[ß]at fl;have ef:mE L (S.take (i+1))=mE L (S.take i)++OF L cz:=by
    rw[mO gh,CY];change _++(OF L cz++[])=_;rw[Ģ]
   generalize mE L (S.take i)=C at *;have jg:r.length=C.length+1:=by rw[lr.length,Ê,Ý,wB]
   have zx:rp.length=C.length:=by rw[lp.length,Ê,mG]
   obtain⟨l,el⟩:∃ l:Nat,cz - L=l:=⟨_,rfl⟩;have Zd:(cz:Int) - (L:Int)=(l:Int):=by lia
   show⟨_,O,_,O,_,_,O,O,?_⟩;dsimp only;rw[Zd];show⟨_,O,.inl ⟨O,_,É rh⟩,_,O,_,O,_,O,Y 0,L,O,λ p H4 s4 ip=>⟨à _,λ e1 uz=>⟨(sz0 6),λ e2 se=>?_⟩⟩⟩;have s5:=È (o:=HO.tup []) uz;have q5:aP K (upd H4 e1 (.tup [])) e1 []:=Í a8;generalize upd H4 e1 (.tup [])=H5 at s5 q5 se ⊢;have s6:=È (o:=HO.tup [.int (L:Int),.int (L:Int),p,.bl Eh,.non,.ref e1]) se;have q6:aP K (upd H5 e2 (.tup [.int (L:Int),.int (L:Int),p,.bl Eh,.non,.ref e1])) e2 _:=Í a8;generalize upd H5 e2 (.tup [.int (L:Int),.int (L:Int),p,.bl Eh,.non,.ref e1])=H6 at s6 q6 ⊢;have xq:=(s4.trans s5).trans s6;have iv:Is K H6 (lB (JM L C.length (.main l))) (.ref e2):=Ð (ds:=[.int (L:Int),.int (L:Int),.tup ((nJ (Y 0) L).map jR),.bl Eh,.non,.tup []]) q6
    (.cons (Õ _) (.cons (Õ _) (.cons (Ì (s5.trans s6).ts _ _ ip) (.cons (Is.b _) (.cons Is.n (.cons (Ð (ds:=[]) (s6.tup q5) .nil) .nil))))))
   show⟨vl,_,_,O,O,xq _ _ rh,aS Fn,?_⟩;let⟨vk,Cc,Ff,Lu,xp,yj⟩:=Jg (c:=.main l) (il.trans xq) (xq _ _ rh) (Î xq.ts _ _ lr) iv ⟨rp,xq _ _ pw,Î xq.ts _ _ lp⟩;generalize upd H6 vl (.lst (r++[.ref e2]))=H7 at vk Cc Ff xp yj ⊢;clear s4 s5 s6 q5 q6 ip iv xq lr lp rh pw uz se il zx;have zx:Lu.length=C.length:=by rw[yj.length,Ê,mG]
   show⟨_,O,.inl ⟨O,_,É xp⟩,_,O,vl,_,O,.inl (É Cc),_,_,O,O,_,O,_,_,O,O,(sz0 3),λ e he=>?_⟩;have Bg:((r++[V.ref e2]).length:Int) - 1=((C.length+1:Nat):Int):=by rw[Þ,ö];lia
   have s8:=È (o:=HO.tup [.int (((r++[V.ref e2]).length:Int) - 1),.int 1,.bl (decide ((l:Int) < 1))]) he;have q8:aP K (upd H7 e (.tup [.int (((r++[V.ref e2]).length:Int) - 1),.int 1,.bl (decide ((l:Int) < 1))])) e _:=Í a8;generalize upd H7 e (.tup [.int (((r++[V.ref e2]).length:Int) - 1),.int 1,.bl (decide ((l:Int) < 1))])=H8 at s8 q8 ⊢;have Lv:Is K H8 (sI (((C.length+1:Nat):Int),1,Q9 (.main l))) (.ref e):=by
    rw[Bg]at q8;show Ð (ds:=[.int ((C.length+1:Nat):Int),.int 1,.bl (decide (l < 1))]) q8 (.cons (Õ _) (.cons (Õ _) (.cons ?_ .nil)));rw[show decide ((l:Int) < 1)=decide (l < 1) by
     by_cases d:l < 1
     ·rw[ð d,ð Fn]
     ·rw[Ĉ d,Ĉ Fn]]
    show Is.b _
   show⟨pl,_,_,O,O,s8 _ _ xp,aS Fn,?_⟩;have R9:=Jh (c:=.main l) (vk.trans s8) (s8 _ _ xp) (Î s8.ts _ _ yj) Lv ⟨_,s8 _ _ Cc,Î s8.ts _ _ Ff⟩;generalize upd H8 pl (.lst (Lu++[.ref e]))=H9 at R9 ⊢;clear s8 q8 Lv Bg vk Cc Ff xp yj he jg zx;have bk:OF L cz=if 1<=l then[.main l,.dly l]else[.main l]:=by unfold OF;rw[el]
   show⟨_,O,_,_,O,O,_,O,i9 (λ hT=>?_) λ hF=>?_⟩;rotate_left
   ·have hF:¬ 1<=l:=λ z=>hF (ð (show(l:Int) ≥ 1 by lia));rw[Ä hF]at bk;show⟨by rw[ef,bk];show R9,_,_,_,O⟩
   have hT:(l:Int) ≥ 1:=ć hT;rw[Å Fn]at bk;have Vr:mE L (S.take (i+1))=(C++[.main l])++[.dly l]:=by rw[ef,bk,ě];rfl
   have lC:(C++[Cell.main l]).length=C.length+1:=by rw[Þ];rfl
   generalize C++[Cell.main l]=C1 at R9 Vr lC;let⟨Ze,⟨r,Re,lr⟩,⟨rp,Fe,lp⟩⟩:=R9;have jg:r.length=C1.length+1:=by rw[lr.length,Ê,Ý,wB]
   have zx:rp.length=C1.length:=by rw[lp.length,Ê,mG]
   show⟨_,O,pl,_,O,.inl (É Fe),_,_,O,O,(sz0 2),λ a1 Fg=>⟨_,O,pl,_,O,.inl (É (È Fg _ _ Fe)),(sz0 2),λ a2 Rf=>⟨(sz0 2),λ a3 Fb=>?_⟩⟩⟩;have t1:=È (o:=HO.tup [.str "open",.int ((rp.length:Int) - 1)]) Fg;have u1:aP K (upd H9 a1 (.tup [.str "open",.int ((rp.length:Int) - 1)])) a1 _:=Í a8;generalize upd H9 a1 (.tup [.str "open",.int ((rp.length:Int) - 1)])=K1 at t1 u1 Rf Fb ⊢;have t2:=È (o:=HO.tup [.str "shut",.int (rp.length:Int)]) Rf;have u2:aP K (upd K1 a2 (.tup [.str "shut",.int (rp.length:Int)])) a2 _:=Í a8;generalize upd K1 a2 (.tup [.str "shut",.int (rp.length:Int)])=K2 at t2 u2 Fb ⊢;have t3:=È (o:=HO.tup [.ref a1,.ref a2]) Fb;have u3:aP K (upd K2 a3 (.tup [.ref a1,.ref a2])) a3 _:=Í a8;generalize upd K2 a3 (.tup [.ref a1,.ref a2])=K3 at t3 u3 ⊢;have ia:Is K K3 (.tup ([(("open":Str),((C1.length - 1:Nat):Int)),(("shut":Str),(C1.length:Int))].map kU)) (.ref a3):=by
    rw[show(rp.length:Int) - 1=((C1.length - 1:Nat):Int) by lia]at u1;rw[zx]at u2;show Ð (ds:=[kU ("open",((C1.length - 1:Nat):Int)),kU ("shut",(C1.length:Int))]) u3 (.cons (Ð (ds:=[.str "open",.int ((C1.length - 1:Nat):Int)]) ((t2.trans t3).tup u1) (.cons (Is.s _) (.cons (Õ _) .nil))) (.cons (Ð (ds:=[.str "shut",.int (C1.length:Int)]) (t3.tup u2) (.cons (Is.s _) (.cons (Õ _) .nil))) .nil))
   have Vt:=(t1.trans t2).trans t3;clear t1 t2 t3 u1 u2 u3 Fg Rf Fb;show⟨_,O,.inl ⟨O,_,É (Vt _ _ Re)⟩,_,O,_,O,(sz0 2),λ b1 Ep=>⟨(sz0 1),λ b2 oz=>⟨_,O,(sz0 6),λ b3 Rg=>?_⟩⟩⟩;have t4:=È (o:=HO.tup [.non,.int 1]) Ep;have u4:aP K (upd K3 b1 (.tup [.non,.int 1])) b1 _:=Í a8;generalize upd K3 b1 (.tup [.non,.int 1])=K4 at t4 u4 oz Rg ⊢;have t5:=È (o:=HO.tup [.ref b1]) oz;have u5:aP K (upd K4 b2 (.tup [.ref b1])) b2 _:=Í a8;generalize upd K4 b2 (.tup [.ref b1])=K5 at t5 u5 Rg ⊢;have t6:=È (o:=HO.tup [.int (l:Int),.int (l:Int),.ref b2,.bl Eh,.non,.ref a3]) Rg;have u6:aP K (upd K5 b3 (.tup [.int (l:Int),.int (l:Int),.ref b2,.bl Eh,.non,.ref a3])) b3 _:=Í a8;generalize upd K5 b3 (.tup [.int (l:Int),.int (l:Int),.ref b2,.bl Eh,.non,.ref a3])=K6 at t6 u6 ⊢;have Vu:=(t4.trans t5).trans t6;have iv:Is K K6 (lB (JM L C1.length (.dly l))) (.ref b3):=Ð (ds:=[.int (l:Int),.int (l:Int),.tup [.tup [.non,.int 1]],.bl Eh,.non,.tup ([(("open":Str),((C1.length - 1:Nat):Int)),(("shut":Str),(C1.length:Int))].map kU)]) u6
    (.cons (Õ _) (.cons (Õ _) (.cons (Ð (ds:=[.tup [.non,.int 1]]) (t6.tup u5) (.cons (Ð (ds:=[.non,.int 1]) ((t5.trans t6).tup u4) (.cons Is.n (.cons (Õ _) .nil))) .nil)) (.cons (Is.b _) (.cons Is.n (.cons (Ì Vu.ts _ _ ia) .nil))))))
   have Fh:=Vt.trans Vu;show⟨vl,_,_,O,O,Fh _ _ Re,aS Fn,?_⟩;let⟨vk,Cc,Ff,Lu,xp,yj⟩:=Jg (c:=.dly l) (Ze.trans Fh) (Fh _ _ Re) (Î Fh.ts _ _ lr) iv ⟨rp,Fh _ _ Fe,Î Fh.ts _ _ lp⟩;generalize upd K6 vl (.lst (r++[.ref b3]))=K7 at vk Cc Ff xp yj ⊢;have Zf:Lu.length=C1.length:=by rw[yj.length,Ê,mG]
   show⟨_,O,.inl ⟨O,_,É xp⟩,_,O,vl,_,O,.inl (É Cc),_,_,O,O,(sz0 3),λ e he=>?_⟩;have Bg:((r++[V.ref b3]).length:Int) - 1=((C1.length+1:Nat):Int):=by rw[Þ,ö];lia
   have s8:=È (o:=HO.tup [.int (((r++[V.ref b3]).length:Int) - 1),.int 1,.bl Eg]) he;have q8:aP K (upd K7 e (.tup [.int (((r++[V.ref b3]).length:Int) - 1),.int 1,.bl Eg])) e _:=Í a8;generalize upd K7 e (.tup [.int (((r++[V.ref b3]).length:Int) - 1),.int 1,.bl Eg])=K8 at s8 q8 ⊢;have Lv:Is K K8 (sI (((C1.length+1:Nat):Int),1,Q9 (.dly l))) (.ref e):=by
    rw[Bg]at q8;show Ð (ds:=[.int ((C1.length+1:Nat):Int),.int 1,.bl Eg]) q8 (.cons (Õ _) (.cons (Õ _) (.cons (Is.b _) .nil)))
   show⟨pl,_,_,O,O,s8 _ _ xp,aS Fn,?_⟩;show⟨by rw[Vr];show Jh (c:=.dly l) (vk.trans s8) (s8 _ _ xp) (Î s8.ts _ _ yj) Lv ⟨_,s8 _ _ Cc,Î s8.ts _ _ Ff⟩,_,_,_,O⟩
  rintro ac H2 xK;let⟨⟨il,⟨r,rh,lr⟩,⟨rp,pw,lp⟩⟩,v4,v5,v6,rfl⟩:=xK;rw[nl,đ (Ñ _)]at lr lp;show⟨_,O,vl,_,O,.inl ⟨É rh,λ q1 sw=>⟨_,O,pl,_,O,.inl ⟨É (È sw _ _ pw),λ q2 wa=>⟨(sz0 2),λ q3 yd=>?_⟩⟩⟩⟩⟩;have m1:=È (o:=HO.tup r) sw;have m2:=È (o:=HO.tup rp) wa;have m3:=È (o:=HO.tup [.ref q1,.ref q2]) yd;show k _ _ (((il.trans m1).trans m2).trans m3) ?_;show Ð (ds:=[.tup ((pH W 1 []::oB L 0 (mE L S)).map lB),.tup ((oA 0 (mE L S)).map sI)]) (Í a8) (.cons (Ð ((m2.trans m3).tup (Í a8)) (Î ((m1.trans m2).trans m3).ts _ _ lr)) (.cons (Ð (m3.tup (Í a8)) (Î ((m1.trans m2).trans m3).ts _ _ lp)) .nil))
def NH:Option Nat->G
 |none=>.non
 |some j=>.int (j:Int)
theorem mY :∀ l:List (Option Nat),bZ K H (l.map NH) (l.map iV)
 |[]=>ġ
 |none::l=>.cons aJ.n (mY l)
 |some j::l=>.cons (aJ.i _) (mY l)
theorem o7:∀ l:List (Option Nat),bJ (l.map NH)=0
 |[]=>by rw[í,bJ]
 |none::l=>by rw[Ù,bJ,o7 l];simp[NH,cB]
 |some j::l=>by rw[Ù,bJ,o7 l];simp[NH,cB]
theorem yE (t:Option Int):cB (fN (HW t))=0:=by cases t <;> simp[HW,fN,cB]
theorem iW {ae:Type} (f:ae->L2.D) (n:Nat):∀(l:List ae),(∀ a∈l,cB (fN (f a))<=n)->bJ (c8 (l.map f))<=n
 |[],_=>by rw[í,c8,bJ];show à _
 |a::l,h=>by
  rw[Ù,c8,bJ];have h1:=h a ă;have h2:=iW f n l λ b hb=>h b (ø _ hb);lia
theorem o8 (net:Net):cB (fN (cJ net))<=5:=by
 have h1:bJ (c8 (net.vs.map lB))<=3:=iW lB 3 net.vs λ v _=>by
  have g1:bJ (c8 (v.outs.map jR))<=1:=iW jR 1 v.outs λ o _=>by
   unfold jR;simp only[fN,c8,cB,bJ,yE];lia
  have g2:bJ (c8 (v.acts.map kU))<=1:=iW kU 1 v.acts λ o _=>by
   unfold kU;simp only[fN,c8,cB,bJ];lia
  unfold lB;simp only[fN,c8,cB,bJ,yE];lia
 have h2:bJ (c8 (net.sps.map sI))<=1:=iW sI 1 net.sps λ s _=>by
  unfold sI;simp only[fN,c8,cB,bJ];lia
 unfold cJ;simp only[fN,c8,cB,bJ];lia
def y4 (ts:List Int) (rows:List Row) (cs:List (Option Nat)):G:=.lst [.lst (ts.map G.int),.lst (c8 (rows.map jQ)),.lst (cs.map NH)]
theorem NR (ts:List Int) (rows:List Row) (cs:List (Option Nat)):cB (y4 ts rows cs)<=30:=by
 have h1:=o9 ts;have h2:=kT rows;have h3:=o7 cs;unfold y4;simp only[cB,bJ];lia
theorem Q7 {D:Á} (h:OI H H' D [x,y,z] r):∃ c0 c1 c2,r=[.ref c0,.ref c1,.ref c2]/\(c0≠D/\c1≠D/\c2≠D)/\(H c0=W/\H c1=W/\H c2=W)/\H' c0=Y (.lst x)/\H' c1=Y (.lst y)/\H' c2=Y (.lst z):=by
 cases h with
 |cons h0 h=>cases h with
  |cons h1 h=>cases h with
   |cons h2 h=>
    cases h;let⟨c0,rfl,a0,a1,a2⟩:=h0;let⟨c1,rfl,b0,b1,b2⟩:=h1;let⟨c2,rfl,d0,d1,d2⟩:=h2;show⟨c0,c1,c2,O,⟨a0,b0,d0⟩,⟨a1,b1,d1⟩,a2,b2,d2⟩
theorem Q2 {D:Á}{cs:List (Option Nat)}{mo r:List V} (h:OI H H' D [ts.map V.int,mo,cs.map iV] r) (hr:H' D=Y (.lst r)) (l:L2.IsL K H' (rows.map jQ) mo):aJ K H' (y4 ts rows cs) (.ref D):=by
 let⟨c0,c1,c2,rfl,_,_,h0,h1,h2⟩:=Q7 h;show û hr (.cons (û h0 (bZ.ints ts)) (.cons (û h1 (ĭ l)) (.cons (û h2 (mY cs)) ġ)))
def RK (F G H H':Hp):Prop:=∀ b o,H b=Y o->(F b≠W\/G b=W\/∀ xs,o≠.lst xs)->H' b=Y o
theorem RK.ts {F G H H':Hp} (a:RK F G H H'):bD K H H':=λ b xs h=>by
 rcases h with(h|⟨o,h⟩)|h
 ·show .inl (.inl (a _ _ h (.inr (.inr λ ps z=>by cases z))))
 ·show .inl (.inr ⟨o,a _ _ h (.inr (.inr λ ps z=>by cases z))⟩)
 ·show .inr h
theorem RK.put {F G H H':Hp} (a:RK F G H H') (f:F b=W) (g:G b≠W) (h:H b=Y (.lst xs)):RK F G H (upd H' b o'):=λ c o e n=>by
 rw[aG]
 ·show a c o e n
 ·intro z;subst z;rw[h]at e;rcases n with n|n|n
  ·show n f
  ·show g n
  ·show n xs (ç e).symm
abbrev wT (a t:Á) (p:V) (r:Á) (v4 v5 v6 v7 v8 v9 sg uo Eo Zg Zh Zi:Option V):St:=[Y (.ref a),Y (.ref t),Y p,Y (.ref r),v4,v5,v6,v7,v8,v9,sg,uo,Eo,Zg,Zh,Zi]
theorem GI (d:L2.D):JB (fN d) "list" =false:=by cases d <;> simp[fN,JB,xS]
theorem GJ (gs:List G):JB (.lst gs) "list" =true:=by simp[JB,xS]
theorem mW : "list" ∈ qX:=by simp[qX]
def L1 (K:Ç) (Pa Pm Ps:Á):Sp:=λ vs H Q _=>∃(a:Á) (ns:List Int),vs=[.ref a]/\bE K H a (ns.map V.int)/\ns.length<=63/\Tabs3 H Pa Pm Ps/\∀ H',Q (.bl Eg) H'
def spT (K:Ç):List (Á×Á)->Sp
 |[q1,q2,q3]=>L1 K q1.2 q2.2 q3.2
 |_=>λ vs _ _ _=>vs.length=1
theorem KS (K:Ç):∀(ij:List (Á×Á)) (H:Hp) (a:Á) (ns:List Int),ns.length<=63->HG ij H->bE K H a (ns.map V.int)->(∀ q∈ij,H q.2=Y (.tbl #[]))->spT K ij [.ref a] H (λ v _=>v=.bl Eg) λ _ _ _=>False
 |[],_,_,_,_,_,_,_=>rfl
 |[_],_,_,_,_,_,_,_=>rfl
 |[_,_],_,_,_,_,_,_,_=>rfl
 |[q1,q2,q3],H,a,ns,hl,_,hS,hT=>⟨a,ns,rfl,hS,hl,⟨.inl (hT q1 G0),.inl (hT q2 G0),.inl (hT q3 G0)⟩,λ _=>rfl⟩
 |_::_::_::_::_,_,_,_,_,_,_,_=>rfl
theorem QH  (h2:σ[2]?=Y (Y p)) (h3:σ[3]?=Y (Y (.ref r))) (h5:σ[5]?=Y (Y (.int (j:Int)))) (I:L31 K C H t sl r fp p net ds) (uc:NetFull net) (hj:j < net.vs.length) (wz:(gP net ds).tips[j]?=Y ts)
  (k:∀ tl mo rr H',aE H H'->H' tl=Y (.lst rr)->OI H H' tl [ts.map V.int,mo,(jD net 30 j [] (cI net)).map iV] rr->L2.IsL K H' ((gP net ds).rows.map jQ) mo->H tl=W->Q (.ref tl) H') :
  DQ (aR (FO C "tips" (yR K C gu) [] E0 (dG 3) (aR (dG 5) cU)) (aR (FO C "book" (DX K C) [] E0 (dG 3) cU) (aR (oK (uD K gu) [] E0 (aR (dG 2) (aR (dG 5) (aR (tC (.int 30)) (aR (DQ cU) cU))))) cU))) σ H Q:=by
 let⟨sj,en,sz⟩:=I.facts;have nok:=I.nok;let⟨dx,np,R,M,T1,ei⟩:=I.ra.ins;show⟨_,h3,r,dx,_,O,ei,MI "tips" O,_,h5,r,_,fp,(j:Int),O,I.ra,.inl ⟨Fn,by rw[en];lia,λ ts' a0 Ji Vv=>?_⟩⟩;rw[ı,wz]at Ji;cases Ji;have s7:=È (o:=HO.lst (ts.map V.int)) Vv;have g7:upd H a0 (.lst (ts.map V.int)) a0=Y (.lst (ts.map V.int)):=a8;generalize upd H a0 (.lst (ts.map V.int))=H7 at s7 g7 ⊢;have I7:=I.same s7;let⟨Zj,np7,R7,M7,T7,Zk⟩:=I7.ra.ins;show⟨_,h3,r,Zj,_,O,Zk,MI "book" O,r,_,fp,O,I7.ra,λ a1 mo Fg lx=>?_⟩;have s8:=È (o:=HO.lst mo) Fg;have g8:upd H7 a1 (.lst mo) a1=Y (.lst mo):=a8;generalize upd H7 a1 (.lst mo)=H8 at s8 g8 ⊢;have Zl:=Î s8.ts _ _ lx;have I8:=I7.same s8;show⟨_,h2,_,h5,à _,λ e hE=>?_⟩;have s9:=È (o:=HO.lst []) hE;have g9:upd H8 e (.lst []) e=Y (.lst []):=a8;generalize upd H8 e (.lst [])=H9 at s9 g9 ⊢;show⟨p,net,(j:Int),30,e,[],O,(I8.same s9).hp,nok,uc,FZ,g9,.inl ⟨j,O,hj,λ a2 HA sA Zm hA=>⟨(sz0 3),λ tl yg=>?_⟩⟩⟩;have sB:=È (o:=HO.lst [.ref a0,.ref a1,.ref a2]) yg;have gB:upd HA tl (.lst [.ref a0,.ref a1,.ref a2]) tl=Y (.lst [.ref a0,.ref a1,.ref a2]):=a8;have Jj:=s9.trans sA;have ne:∀ {b:Á}{o:HO},HA b=Y o->b≠tl:=λ e z=>by rw[z,yg]at e;cases e
 have w0:=(s8.trans Jj) _ _ g7;have w1:=Jj _ _ g8;generalize upd HA tl (.lst [.ref a0,.ref a1,.ref a2])=HB at sB gB ⊢;show k tl mo _ HB ((s7.trans s8).trans (Jj.trans sB)) gB (.cons ⟨a0,O,ne w0,Vv,sB _ _ w0⟩ (.cons ⟨a1,O,ne w1,s7.free Fg,sB _ _ w1⟩ (.cons ⟨a2,O,ne hA,(s7.trans (s8.trans s9)).free Zm,sB _ _ hA⟩ .nil))) (Î (Jj.trans sB).ts _ _ Zl) ((s7.trans (s8.trans Jj)).free yg)
theorem SQ (F:Fun K "law" "law" (bG 85) f fd) (T:Txt mg)
  (gk:Callee P w K mg base "_law_draw" ["tape","many"] 1 kD f1 je)
  (jo:Callee P w K mg base "_law_net" ["tape","most","small"] 4 (yS K) f2 js)
  (xf:MkCal P w K mg base C "Run" ["self","net"] 5 (DW K C) f3 nj)
  (ke:MCalR P w K mg base C "pour" ["self","vessel","amount"] 3 (FS K C gu) f4 ze)
  (mn:MCal P w K mg base C "go" ["self","many"] 7 (UI K C) f5 Ql)
  (iz:MCalR P w K mg base C "tips" ["self","vessel"] 3 (yR K C gu) f6 Qm)
  (ig:MCal P w K mg base C "book" ["self"] 1 (DX K C) f7 Qn)
  (jq:CalleeR P w K mg base "cases" ["net","watched","ticks","seen"] 8 (uD K gu) f8 Zn)
  (tu:Callee P w K mg base "_law_small" ["tape"] 5 (FP K) f9 Zo)
  (nh:Callee P w K mg base "_law_told" ["way","net"] 10 (B0 K Pa Pm Ps) Vw Ri)
  (pk:Callee P w K mg base "bell_for" ["ticks"] 2 (L4 K) Vx Rj)
  (sk:Callee P w K mg base "counter" ["sizes"] 2 (xC K) Vy Rk)
  (vb:Callee P w K mg base "rhythm" ["ticks","length"] 2 (B2 K) Vz Rl)
  (vc:Callee P w K mg base "first_lie" ["net","book"] 8 (QM K) Rh Rm):FnOk P w K mg base fX 11 f fd ["script"] (L1 K Pa Pm Ps):=by
 show F.ok ["script","tape","net","run","turn","watched","told","due","one","small","way","first","kept","handed","nets","lie"] λ sc gz A outer s H vs Q E hr h=>?_
 ·let⟨a,ns,rfl,hS,gr,tab,k⟩:=h
  (with_reducible show⟨_,(aA (pL 1 sc.nd (bC (a7 (aU (gD (K:=K) rf) rf (by with_unfolding_all show T.b_list) gN (a7 (pv 0) a9)) (a7 aD (a7 aD a9)))))
   (aA (pL 2 sc.nd (cA (by with_unfolding_all show jo) hr (a7 (pv 1) (a7 aD (a7 (fI lZ (cA (by with_unfolding_all show gk) hr (a7 (pv 1) (a7 aD a9))) aD (bK _)) a9)))))
   (aA (pL 3 sc.nd (P8 (by with_unfolding_all show xf.make) (by with_unfolding_all show xf.ok) (hr.mono FZ) rf (by with_unfolding_all show xf.mg) (by with_unfolding_all show xf.bd) .nil xM (a7 (pv 2) a9)))
   (aA (dB ò rf (eF rf (by with_unfolding_all show T.b_range) (a7 (aW cF aD (cA (by with_unfolding_all show gk) hr (a7 (pv 1) (a7 aD a9)))) a9)) (gL 4 sc.nd) (aA (bH (sY (pv 3) (by with_unfolding_all show ke.cls) (by with_unfolding_all show ke.mt) (by with_unfolding_all show ke.ok) (hr.mono FZ) (by with_unfolding_all show ke.bd) .nil uX (a7 (cA (by with_unfolding_all show gk) hr (a7 (pv 1) (a7 (rW K (by with_unfolding_all show T.b_len) (px K (pv 2) aD)) a9))) (a7 (cA (by with_unfolding_all show gk) hr (a7 (pv 1) (a7 aD a9))) a9))))
   (aF (bH (sY (pv 3) (by with_unfolding_all show mn.cls) (by with_unfolding_all show mn.mt) (by with_unfolding_all show mn.ok) (hr.mono FZ) (by with_unfolding_all show mn.bd) .nil xM (a7 (cA (by with_unfolding_all show gk) hr (a7 (pv 1) (a7 aD a9))) a9))))))
   (aA (pL 5 sc.nd (cA (by with_unfolding_all show gk) hr (a7 (pv 1) (a7 (rW K (by with_unfolding_all show T.b_len) (px K (pv 2) aD)) a9))))
   (aA (pL 6 sc.nd (bC (a7 (sY (pv 3) (by with_unfolding_all show iz.cls) (by with_unfolding_all show iz.mt) (by with_unfolding_all show iz.ok) (hr.mono FZ) (by with_unfolding_all show iz.bd) .nil uX (a7 (pv 5) a9)) (a7 (uU (pv 3) (by with_unfolding_all show ig.cls) (by with_unfolding_all show ig.mt) (by with_unfolding_all show ig.ok) (hr.mono FZ) (by with_unfolding_all show ig.bd) .nil xM) (a7 (gH (by with_unfolding_all show jq.ok) (hr.mono FZ) rf (by with_unfolding_all show jq.mg) (by with_unfolding_all show jq.kp) (by with_unfolding_all show jq.bd) .nil uX (a7 (pv 2) (a7 (pv 5) (a7 aD (a7 (bC a9) a9))))) a9)))))
   (aA (gS (i:=7) sc.nd rf rf (λ _ _ h=>h) rf (LcOk.mk (N':=["one"]) (fr:=[W]) rf (by with_unfolding_all show trivial) rf rf rf rf rf (by with_unfolding_all show trivial)) (cP (K:=K) rf (pv 6)) (λ _ _ _=>(gC 0 ["one"])) (λ _ _ _=>c9) (λ _ _ _=>(aU (gD (K:=K) rf) rf (by with_unfolding_all show T.b_list) gN (a7 (pv 0) a9))))
   (aA (dB ò rf (cP (K:=K) rf (pv 6)) (gL 8 sc.nd) (aA (bH (dC (K:=K) rf ì ô õ (um bL) (pv 8) (a7 cH a9)))
   (aF (bH (dC (K:=K) rf ì ô õ (um bL) (pv 8) (a7 aD a9))))))
   (aA (cE (bN (zJ (K:=K) rf hr.units) (bC (a7 (sY (pv 3) (by with_unfolding_all show iz.cls) (by with_unfolding_all show iz.mt) (by with_unfolding_all show iz.ok) (hr.mono FZ) (by with_unfolding_all show iz.bd) .nil uX (a7 (pv 5) a9)) (a7 (uU (pv 3) (by with_unfolding_all show ig.cls) (by with_unfolding_all show ig.mt) (by with_unfolding_all show ig.ok) (hr.mono FZ) (by with_unfolding_all show ig.bd) .nil xM) (a7 (gH (by with_unfolding_all show jq.ok) (hr.mono FZ) rf (by with_unfolding_all show jq.mg) (by with_unfolding_all show jq.kp) (by with_unfolding_all show jq.bd) .nil uX (a7 (pv 2) (a7 (pv 5) (a7 aD (a7 (bC a9) a9))))) a9)))) (pv 7) (bK _)) (aF (aK eI)) bF)
   (aA (pL 9 sc.nd (cA (by with_unfolding_all show tu) hr (a7 (pv 1) a9)))
   (aA (dB ò rf (eF rf (by with_unfolding_all show T.b_range) (a7 aD a9)) (gL 10 sc.nd) (aA (pL 11 sc.nd (cA (by with_unfolding_all show nh) hr (a7 (pv 10) (a7 (pv 9) a9))))
   (aA (gS (i:=12) sc.nd rf rf (λ _ _ h=>h) rf (LcOk.mk (N':=["one"]) (fr:=[W]) rf (by with_unfolding_all show trivial) rf rf rf rf rf (by with_unfolding_all show trivial)) (cP (K:=K) rf (pv 11)) (λ _ _ _=>(gC 0 ["one"])) (λ _ _ _=>c9) (λ _ _ _=>(pE (cO (bO (wD (K:=K) rf) rf (by with_unfolding_all show T.b_isinstance) fT (a7 (pv 0) (a7 (gZ (v:=.ty "list") rf (by with_unfolding_all show T.b_list) gN rf) a9)))) (aU (gD (K:=K) rf) rf (by with_unfolding_all show T.b_list) gN (a7 (pv 0) a9)) (pv 0))))
   (aA (dB ò rf (cP (K:=K) rf (pv 11)) (gL 8 sc.nd) (aF (cE (cO (bO (wD (K:=K) rf) rf (by with_unfolding_all show T.b_isinstance) fT (a7 (pv 8) (a7 (gZ (v:=.ty "list") rf (by with_unfolding_all show T.b_list) gN rf) a9)))) (aF (bH (zH (K:=K) rf ì ae6 ae7 (um vK) (pv 8)))) bF)))
   (aA (bH (zH (K:=K) rf ì ae6 ae7 (um vK) (pv 11)))
   (aF (cE (bN (zJ (K:=K) rf hr.units) (cA (by with_unfolding_all show nh) hr (a7 (pv 10) (a7 (pv 9) a9))) (pv 12) (bK _)) (aF (aK eI)) bF)))))))
   (aA (pL 13 sc.nd (bC (a7 (bC (a7 aD (a7 aD (a7 aD a9)))) (a7 (bC (a7 aD (a7 aD a9))) (a7 (aU (gD (K:=K) rf) rf (by with_unfolding_all show T.b_list) gN (a7 (px K (pv 7) aD) a9)) a9)))))
   (aA (pL 14 sc.nd (bC (a7 (cA (by with_unfolding_all show pk) hr (a7 (px K (pv 13) aD) a9)) (a7 (cA (by with_unfolding_all show sk) hr (a7 (px K (pv 13) aD) a9)) (a7 (cA (by with_unfolding_all show vb) hr (a7 (px K (pv 13) aD) (a7 aD a9))) a9)))))
   (aA (pL 15 sc.nd (cA (by with_unfolding_all show vc) hr (a7 (pv 2) (a7 (px K (pv 13) aD) a9))))
   (aA (cE (PW.pt (BM (bN (zJ (K:=K) rf hr.units) (pv 13) (bC (a7 (bC (a7 aD (a7 aD (a7 aD a9)))) (a7 (bC (a7 aD (a7 aD a9))) (a7 (px K (pv 7) aD) a9)))) (bK _)) (uP (bN PH (pv 15) cH (bK _))))) (aF (aK eI)) bF)
   (aA (dB ò rf (cP (K:=K) rf (pv 13)) (gL 8 sc.nd) (aF (bH (zH (K:=K) rf ì ae6 ae7 (um vK) (pv 8)))))
   (aF (aK (eK (fI (zK (K:=K) rf hr.units) (pv 14) (bC (a7 (cA (by with_unfolding_all show pk) hr (a7 (bC (a7 aD (a7 aD (a7 aD a9)))) a9)) (a7 (cA (by with_unfolding_all show sk) hr (a7 (bC (a7 aD (a7 aD a9))) a9)) (a7 (cA (by with_unfolding_all show vb) hr (a7 (bC (a7 aD (a7 aD a9))) (a7 aD a9))) a9)))) (bK _)) (fL (fI (zK (K:=K) rf hr.units) (uU (pv 3) (by with_unfolding_all show ig.cls) (by with_unfolding_all show ig.mt) (by with_unfolding_all show ig.ok) (hr.mono FZ) (by with_unfolding_all show ig.bd) .nil xM) (px K (pv 7) aD) (bK _)))))))))))))))))))))),?_⟩)
  show⟨_,O,a,_,O,.inl hS,λ sl tz=>⟨(sz0 3),λ t ht=>?_⟩⟩;have Kq:sl≠t:=aI (show upd H sl (.lst (ns.map V.int)) sl=_ from a8) ht;have Lw:fH (upd (upd H sl (.lst (ns.map V.int))) t (.lst [.ref sl,.int 0,.int 0])) t sl:=⟨ns,0,0,a8,by rw[aG Kq];show a8,Fn⟩;have lw:=(tab.same (È tz)).same (È (o:=HO.lst [.ref sl,.int 0,.int 0]) ht);generalize upd (upd H sl (.lst (ns.map V.int))) t (.lst [.ref sl,.int 0,.int 0])=H0 at Lw lw ⊢;show⟨_,O,?_⟩;show A3 (t:=t) (sl:=sl) (H0:=H0) (bW O FZ FZ) _ _ ⟨ď _,Lw⟩ ?_;rintro v H1 e1 _ ⟨jb,rfl⟩;show⟨t,sl,12,jb,O,FZ,FZ,e1.tp,λ net p H2 e2 nok uc _ hp=>?_⟩;have Lx:=e2.tp;have n1:=nok.lo;have n2:=nok.hi;have re:=(lw.noL (Lw.noL e1.bt)).noL (e1.tp.noL e2.bt);show⟨_,O,λ r dx Ev Zp ndx=>?_⟩;have m1:aE H2 (upd (upd H2 dx (.own r)) r (.ins C dx [])):=λ b o e=>by
   rw[aG (aI e Ev),aG (aI e Zp)];show e
  show⟨r,dx,p,net,O,a8,Ì m1.ts _ _ hp,nok,uc,λ fp H3 VP bt ra=>⟨O,?_⟩⟩;have s3:aE H2 H3:=λ b o e=>bt b o (aI e Ev) (m1 b o e);have Rn:∀ b∈fp,H2 b=none:=λ b hb=>m1.free (VP b hb);have i3:L31 K C H3 t sl r fp p net []:={
   tp:=Lx.same s3
   hp:=Ì s3.ts _ _ hp
   ra:=ra
   nok:=nok
   tf:=λ z=>by let⟨o,e⟩:=Lx.some;rw[Rn t z]at e;cases e
   sf:=λ z=>by let⟨ns,pos,cell,_,e,_⟩:=Lx;rw[Rn sl z]at e;cases e
   dok:=λ d hd=>nomatch hd }
  have Dz:=re.same s3;clear Lw e1 e2 hp Lx bt ra s3 Rn VP m1 tab lw re;show⟨_,O,t,sl,_,O,i3.tp,FZ,FZ,λ c H4 b4 t4 c0 c1=>⟨_,_,O,O,?_⟩⟩;have i4:=i3.draw b4 t4;have Ea:=Dz.noL (i3.tp.noL b4);show⟨_,O,Fn,Fn,?_⟩;show mZ (lo:=0) (n:=(1+c).toNat) (λ i ac H'=>Tabs3 H' Pa Pm Ps/\∃ ds,L31 K C H' t sl r fp p net ds/\ds.length<=2 * i/\∃ v4,ac=[Y (.ref a),Y (.ref t),Y p,Y (.ref r),v4,W,W,W,W,W,W,W,W,W,W,W]) ?_ ?_ ?_
  ·show⟨Ea,[],i4,Ñ _,_,O⟩
  ·clear i3 i4 Dz Ea;rintro i ac H5 hi xK;let⟨zy,ds,I5,Cq,v4,rfl⟩:=xK;have Zq:i < 12:=by lia
   dsimp only[eJ,nE];let⟨Zr,np,R,M,T',ei⟩:=I5.ra.ins;let⟨na,nb,nc,xs,ys,rfl,q,q1,l1,q2,l2⟩:=gI I5.hp;have mx:xs.length=net.vs.length:=by rw[l1.length,Ê]
   show⟨_,O,r,Zr,_,O,ei,MI "pour" O,_,O,_,O,.inr (.inl ⟨na,_,0,_,O,O,q,O,nb,xs,O,.inr q1,t,sl,_,O,I5.tp,Fn,Fn,λ v H6 b6 t6 v0 v1=>?_⟩)⟩;have I6:=I5.draw b6 t6;show⟨_,O,t,sl,_,O,t6,FZ,FZ,λ am H7 b7 t7 a0 a1=>?_⟩;have I7:=I6.draw b7 t7;let⟨sj,en,sz⟩:=I7.facts;have hv:v < net.vs.length:=by lia
   show⟨r,_,fp,v,am,_,O,I7.ra,sz,Fn,.inl ⟨v0,by rw[en];show hv,λ H8 b8 VQ=>?_⟩⟩;have I8:=I7.on (ds':=ds++[.pour v am]) b8 (by rw[qK];show VQ) (λ d h=>by
    rcases ÿ.1 h with h|h
    ·show I7.dok d h
    ·have:=ù.1 h;subst this;show⟨v0,hv,a0,a1⟩)
   have Ro:=((zy.noL (I5.tp.noL b6)).noL (t6.noL b7)).noL (I7.ra.noL b8);have l8:(ds++[Deed.pour v am]).length<=2 * i+1:=by rw[Þ,ö];lia
   generalize ds++[Deed.pour v am]=Zs at I8 l8;clear I5 I6 I7 zy b6 b7 b8 VQ ei q q1 q2 l1 l2 sj en sz t6 t7;let⟨Zt,np8,R8,M8,T8,Zu⟩:=I8.ra.ins;show⟨_,O,r,Zt,_,O,Zu,MI "go" O,_,O,t,sl,_,O,I8.tp,FZ,FZ,λ am' H9 b9 t9 c2 c3=>?_⟩;have I9:=I8.draw b9 t9;let⟨kk,rfl⟩:=ŀ c2;let⟨sj,en,sz⟩:=I9.facts;show⟨r,_,fp,kk,_,O,I9.ra,sz,Fn,Fn,λ oy Fc Rp=>?_⟩;show⟨(Ro.noL (I8.tp.noL b9)).noL (I9.ra.noL Fc),Zs++[.go kk],I9.on Fc (by rw[qK];show Rp) (λ d h=>?_),by rw[Þ,ö];lia,_,O⟩;rcases ÿ.1 h with h|h
   ·show I9.dok d h
   ·have:=ù.1 h;subst this;show(show kk<=40 by lia)
  clear i3 i4 Dz Ea;rintro ac H5 xK;let⟨zy,ds,I5,Cq,v4,rfl⟩:=xK;have Rq:ds.length<=24:=by lia
  let⟨na,nb,nc,xs,ys,rfl,q,q1,l1,q2,l2⟩:=gI I5.hp;have mx:xs.length=net.vs.length:=by rw[l1.length,Ê]
  show⟨_,O,_,O,.inr (.inl ⟨na,_,0,_,O,O,q,O,nb,xs,O,.inr q1,t,sl,_,O,I5.tp,Fn,Fn,λ v H6 b6 t6 v0 v1=>?_⟩)⟩;let⟨j,rfl⟩:=ŀ v0;have hj:j < net.vs.length:=by lia
  have I6:=I5.draw b6 t6;have Jk:=zy.noL (I5.tp.noL b6);clear I5 zy b6 t6 q q1 q2 l1 l2;let⟨sj,en,sz⟩:=I6.facts;obtain⟨ts,wz⟩:∃ ts,(gP net ds).tips[j]?=Y ts:=⟨_,þ (by rw[sj.tl,en];show hj)⟩;have hsz:=sz.tips _ (Û wz);have Zv:(gP net ds).rows.length=ds.length:=by rw[xL,kH]
  dsimp only[eJ,nE];show fK (λ ac H'=>∃ tl mo rr,aE H6 H'/\H' tl=Y (.lst rr)/\OI H6 H' tl [ts.map V.int,mo,(jD net 30 j [] (cI net)).map iV] rr/\L2.IsL K H' ((gP net ds).rows.map jQ) mo/\H6 tl=W/\ac=wT a t (.ref na) r v4 (Y (.int (j:Int))) (Y (.ref tl)) W W W W W W W W W) (λ D' hD=>?_) ?_
  ·show QH (σ:=wT a t (.ref na) r v4 (Y (.int (j:Int))) W W W W W W W W W W) O O O I6 uc hj wz ?_;show λ tl mo rr H7 s7 g7 Fi Fj Rr=>hD _ _ ⟨tl,mo,rr,s7,g7,Fi,Fj,Rr,O⟩
  rintro ac H7 xK;let⟨tl,mo,rr,s7,g7,Fi,Fj,Rr,rfl⟩:=xK;have El:(jD net 30 j [] (cI net)).length<=13:=ý (wC _ _ _ _ _) (by unfold cI;rw[Ý,Ê,ė];lia);have hbx:mo.length<=24:=by rw[Fj.length,Ê,Zv];show Rq
  generalize hcq:jD net 30 j [] (cI net)=cs at Fi El;have VR:=Fi;let⟨a0,a1,a2,rfl,⟨n0,VS,VT⟩,⟨f0,vw,VU⟩,w0,w1,w2⟩:=Q7 Fi;show fK (λ ac H'=>∃ dl rl,aE H7 H'/\H' dl=Y (.lst rl)/\OI H7 H' dl [ts.map V.int,mo,cs.map iV] rl/\H7 dl=W/\ac=wT a t (.ref na) r v4 (Y (.int (j:Int))) (Y (.ref tl)) (Y (.ref dl)) W W W W W W W W) (λ D' hD=>?_) ?_
  ·show⟨_,O,tl,O,⟨_,É g7⟩,hJ (K:=K) (a:=tl) (xs:=[.ref a0,.ref a1,.ref a2]) (λ D i r ac H'=>H7 D=W/\aE H7 H'/\H' D=Y (.lst r)/\OI H7 H' D ([ts.map V.int,mo,cs.map iV].take i) r/\∃ u,ac=[u]) (λ D i r ac H' p=>É (p.2.1 _ _ g7)) (λ D hD=>⟨hD,È hD,a8,.nil,W,O⟩) ?_ ?_⟩
   ·rintro D rl ac H8 xK;let⟨fD,s8,g8,Eb,_⟩:=xK;show hD _ _ ⟨D,rl,s8,g8,Eb,fD,O⟩
   ·rintro D i x rl ac H8 hx xK;let⟨fD,s8,g8,Eb,u,rfl⟩:=xK;let⟨ys,hy,b,rfl,_,_,hb⟩:=Đ VR hx;have jg:=î Eb;rw[ß]at jg;have Bf:rl.length<=3:=by rw[<- jg];show Nat.min_le_right _ _
    show cZ ?_;show⟨_,O,b,_,O,.inl (É (s8 _ _ hb)),λ c1 Ln=>?_⟩;have s9:=È (o:=HO.lst ys) Ln;show⟨s9 _ _ g8,aS Fn,fD,(s8.trans s9).put fD,a8,?_,_,O⟩;rw[aY hy];show Eb.snoc s8 fD g8 Ln
  rintro ac H8 xK;let⟨dl,rr8,s8,g8,Eb,Rs,rfl⟩:=xK;let⟨c0,c1,c2,rfl,⟨m0,m1,m2⟩,⟨q0,q1,q2⟩,x0,x1,x2⟩:=Q7 Eb;have si:∀ {b:Á},b∈[a0,a1,a2]->b=a0\/b=a1\/b=a2:=λ h=>by simpa using h
  have olds:∀ {b:Á},H7 b=W->b∉[a0,a1,a2]:=λ {b} hb h=>by
   rcases si h with rfl|rfl|rfl
   ·rw[w0]at hb;cases hb
   ·rw[w1]at hb;cases hb
   ·rw[w2]at hb;cases hb
  have xr:∀ b∈[a0,a1,a2],H6 b=none:=λ b h=>by rcases si h with rfl|rfl|rfl <;> assumption
  have VW:tl∉[a0,a1,a2]:=λ h=>by rcases si h with z|z|z <;> first|show n0 z.symm|show VS z.symm|show VT z.symm
  have Bh:∀ b∈[a0,a1,a2],∃ ys,H8 b=Y (.lst ys)/\ys.length<=20000:=λ b h=>by
   rcases si h with rfl|rfl|rfl
   ·show⟨_,s8 _ _ w0,by rw[Ê];lia⟩
   ·show⟨_,s8 _ _ w1,Fn⟩
   ·show⟨_,s8 _ _ w2,by rw[Ê];lia⟩
  have VX:dl∉[a0,a1,a2]:=olds Rs;have VY:c1∉[a0,a1,a2]:=olds q1;show fK (λ ac H'=>gY [a0,a1,a2] H8 H'/\∃ u,ac=wT a t (.ref na) r v4 (Y (.int (j:Int))) (Y (.ref tl)) (Y (.ref dl)) u W W W W W W W) (λ D' hD=>?_) ?_
  ·show⟨_,O,tl,O,⟨_,É (s8 _ _ g7)⟩,iT (K:=K) (a:=tl) (xs:=[.ref a0,.ref a1,.ref a2]) (λ i ac H'=>gY [a0,a1,a2] H8 H'/\(∀ b∈[a0,a1,a2],∃ ys,H' b=Y (.lst ys)/\ys.length<=20000+2 * i)/\∃ u,ac=wT a t (.ref na) r v4 (Y (.int (j:Int))) (Y (.ref tl)) (Y (.ref dl)) u W W W W W W W)
    ⟨gY.refl _,Bh,W,O⟩ (λ i ac H' _ p=>É (p.1 _ _ VW (s8 _ _ g7))) ?_ ?_⟩
   ·rintro i x ac H9 hx xK;let⟨b9,l9,u,rfl⟩:=xK;obtain⟨b,rfl,hb⟩:∃ b,x=V.ref b/\b∈[a0,a1,a2]:=by
     have:=Û hx;simp only[Ò,Ĝ,or_false]at this;rcases this with rfl|rfl|rfl <;> show⟨_,O,G0⟩
    have VZ:=(Ö.mp hx).1;have VZ:i < 3:=VZ;let⟨ys,hy,yl⟩:=l9 b hb;dsimp only[eJ,nE];show⟨_,O,.inl ⟨O,_,É hy⟩,b,ys,_,O,O,hy,sV Fn,?_⟩;show⟨_,O,.inl ⟨O,_,É a8⟩,b,_,_,O,O,a8,sV (by rw[Þ,ö];lia),?_⟩;show⟨λ c o hc e=>?_,λ c hc=>?_,_,O⟩
    ·have n:c≠b:=λ z=>hc (z ▸ hb);rw[aG n,aG n];show b9 c o hc e
    ·by_cases z:c=b
     ·subst z;show⟨_,a8,by rw[Þ,Þ,ö,ö];lia⟩
     ·let⟨zs,hz,zl⟩:=l9 c hc;show⟨zs,by rw[aG z,aG z];show hz,Fn⟩
   ·rintro ac H9 xK;let⟨b9,_,u,rfl⟩:=xK;show hD _ _ ⟨b9,u,O⟩
  rintro ac H9 xK;let⟨b9,u,rfl⟩:=xK;have Bi:∀ b∈[a0,a1,a2],iI (H8 b):=λ b h=>by let⟨ys,e,_⟩:=Bh b h;rw[e];show trivial
  have I9:=I6.off (s7.trans s8) xr Bi b9;have Jl:Tabs3 H9 Pa Pm Ps:=(Jk.same (s7.trans s8)).noL λ x o e n=>b9 x o (λ z=>by
   let⟨ys,h,_⟩:=Bh x z;rw[h]at e;show n ys (ç e).symm) e
  have y1:=b9 _ _ VY x1;have gd:H9 dl=Y (.lst [.ref c0,.ref c1,.ref c2]):=b9 _ _ VX g8;have Jm:aJ K H9 (y4 ts (gP net ds).rows cs) (.ref dl):=by
   have y0:=b9 _ _ (olds q0) x0;have y2:=b9 _ _ (olds q2) x2;have Ly:=Î (s8.ts.trans (pY b9 Bi)) _ _ Fj;show û gd (.cons (û y0 (bZ.ints ts)) (.cons (û y1 (ĭ Ly)) (.cons (û y2 (mY cs)) ġ)))
  have Ly:=Î (s8.ts.trans (pY b9 Bi)) _ _ Fj;have Ec:=s7.free Rs;have Ed:=s7.free q1;let⟨o6,Rt⟩:=I6.tp.some;have Zw:dl≠t:=λ z=>by rw[z,Rt]at Ec;cases Ec
  have Zx:c1≠t:=λ z=>by rw[z,Rt]at Ed;cases Ed
  clear I6 Jk s7 g7 Fi Fj Rr VR n0 VS VT f0 vw VU w0 w1 w2 s8 g8 Eb Rs m0 m1 m2 q0 q1 q2 x0 x1 x2 si olds xr VW Bh VX VY b9 Bi Rt Ec Ed;show fK (λ ac H'=>aE H9 H'/\ac=wT a t (.ref na) r v4 (Y (.int (j:Int))) (Y (.ref tl)) (Y (.ref dl)) u W W W W W W W) (λ D' hD=>?_) ?_
  ·dsimp only[HX,AS,jJ];show QH (σ:=wT a t (.ref na) r v4 (Y (.int (j:Int))) (Y (.ref tl)) (Y (.ref dl)) u W W W W W W W) O O O I9 uc hj wz ?_;intro tl' Zy rr' oy lh ZA Jn Bj _;rw[hcq]at Jn;show⟨_,O,y4 ts (gP net ds).rows cs,y4 ts (gP net ds).rows cs,NR _ _ _,Q2 Jn ZA Bj,aJ.same lh Jm,_,O,?_⟩;rw[gM];show eG (hD _ _ ⟨lh,O⟩)
  rintro ac oy ⟨lh,rfl⟩;have uf:=I9.same lh;have Ce:=Jl.same lh;have Jo:=lh _ _ gd;have Wa:=lh _ _ y1;have Bj:=Î lh.ts _ _ Ly;clear I9 Jl y1 gd Jm Ly lh;show fK (λ ac H'=>∃ sn xs,Ext t sl oy H'/\NetOk sn/\Is K H' (cJ sn) xs/\ac=wT a t (.ref na) r v4 (Y (.int (j:Int))) (Y (.ref tl)) (Y (.ref dl)) u (Y xs) W W W W W W) (λ D' hD=>?_) ?_
  ·show⟨_,O,t,sl,O,uf.tp,λ sn xs xz yx sj Fu Jp=>hD _ _ ⟨sn,xs,yx,sj,Jp,O⟩⟩
  rintro ac xz xK;let⟨sn,xs,yx,Ru,Jp,rfl⟩:=xK;have En:=uf.draw yx.bt yx.tp;have Cf:=Ce.noL (uf.tp.noL yx.bt);have Jq:=yx.bt _ _ Zw Jo;have Wb:=yx.bt _ _ Zx Wa;have Jr:=Î (yx.bt.ts uf.tp.mut) _ _ Bj;clear uf Ce Jo Wa Bj yx;show fK (λ ac H'=>FJ xz H'/\∃ u8 yk tw sy,ac=wT a t (.ref na) r v4 (Y (.int (j:Int))) (Y (.ref tl)) (Y (.ref dl)) u8 (Y xs) yk tw sy W W W) (λ D' hD=>?_) ?_
  ·show⟨_,O,FZ,FZ,?_⟩;show mZ (lo:=0) (n:=3) (λ _ ac H'=>(FJ xz H'/\Tabs3 H' Pa Pm Ps)/\∃ u8 yk tw sy,ac=wT a t (.ref na) r v4 (Y (.int (j:Int))) (Y (.ref tl)) (Y (.ref dl)) u8 (Y xs) yk tw sy W W W) ⟨⟨aE.old (Ľ _),Cf⟩,_,_,_,_,O⟩ ?_ ?_;rotate_left
   ·rintro ac qh xK;let⟨⟨zz,_⟩,u8,yk,tw,sy,rfl⟩:=xK;show hD _ _ ⟨zz,_,_,_,_,O⟩
   rintro way ac qh ZB xK;let⟨⟨zz,Js⟩,u8,yk,tw,sy,rfl⟩:=xK;dsimp only[eJ,nE];have Wc:0+(way:Int)=0\/0+(way:Int)=1\/0+(way:Int)=2:=by lia
   have Jt:=Ì zz.ts _ _ Jp;show fK (λ ac H'=>∃ gs rl us,SmA Pa Pm Ps qh H'/\VH (0+(way:Int)) sn gs/\(∀ g∈gs,OC g)/\gs.length<=2000/\qh rl=W/\H' rl=Y (.lst us)/\Paired (AJ K qh H' rl) gs us/\ac=wT a t (.ref na) r v4 (Y (.int (j:Int))) (Y (.ref tl)) (Y (.ref dl)) u8 (Y xs) (Y (.int (0+(way:Int)))) (Y (.ref rl)) sy W W W) (λ D1 ud=>?_) ?_
   ·show⟨_,O,_,O,_,xs,sn,O,Wc,Jt,Ru,Js,λ gs rl us rn yi Rv Rw Ju tj jg pr=>ud _ _ ⟨gs,rl,us,yi,Rv,Rw,Ju,tj,jg,pr,O⟩⟩
   rintro ac rn xK;let⟨gs,rl,us,yi,Rv,Rw,Ju,tj,jg,pr,rfl⟩:=xK;show fK (λ ac H'=>∃ kl ks,aE rn H'/\rn kl=W/\H' kl=Y (.lst ks)/\Paired (AJ K rn H' kl) gs ks/\ac=wT a t (.ref na) r v4 (Y (.int (j:Int))) (Y (.ref tl)) (Y (.ref dl)) u8 (Y xs) (Y (.int (0+(way:Int)))) (Y (.ref rl)) (Y (.ref kl)) W W W) (λ D1 ud=>?_) ?_
   ·show⟨_,O,rl,O,⟨_,É jg⟩,hJ (K:=K) (a:=rl) (xs:=us) (λ D i rr ac H'=>rn D=W/\aE rn H'/\H' D=Y (.lst rr)/\Paired (AJ K rn H' D) (gs.take i) rr/\∃ u,ac=[u]) (λ D i rr ac H' p=>É (p.2.1 _ _ jg)) (λ D hD=>⟨hD,È hD,a8,.nil,W,O⟩) ?_ ?_⟩
    ·rintro D rr ac Bk xK;let⟨fD,lz,Bl,vd,_⟩:=xK;rw[<- î pr,æ]at vd;show ud _ _ ⟨D,rr,lz,fD,Bl,vd,O⟩
    ·rintro D i x rr ac Bk hx xK;let⟨fD,lz,Bl,vd,v0',rfl⟩:=xK;let⟨g,hg,eg⟩:=Đ pr hx;have ZC:=î vd;rw[ß]at ZC;have rh:rr.length < sizeLine:=sV Fn;show cZ ?_;cases g with
     |inl d=>
      have Wd:Is K Bk d x:=Ì lz.ts _ _ (show Is K rn d x from eg);show⟨_,O,x,"list",fN d,O,mW,Is.g Wd,_,O,?_⟩;rw[GI];show eG ⟨_,O,Bl,rh,fD,lz.put fD,a8,?_,_,O⟩;rw[aY hg];show Ę (ë vd λ _ _ h=>h.keep (FK.put Bl).ts λ b xs nb f e=>by rw[aG nb];show e) (Ì (FK.put Bl).ts _ _ Wd)
     |inr ds'=>
      let⟨b,ys,rfl,nb,fb,hb,lb⟩:=(show ∃ a xs,x=V.ref a/\a≠rl/\qh a=W/\rn a=Y (.lst xs)/\L2.IsL K rn ds' xs from eg);have Aa:=lz _ _ hb;have Jv:=Î lz.ts _ _ lb;show⟨_,O,.ref b,"list",.lst (c8 ds'),O,mW,aJ.l (É Aa) (ĭ Jv),_,O,?_⟩;rw[GJ];show eS ⟨_,O,b,_,O,.inl (É Aa),λ c hc=>?_⟩;have Jw:=È (o:=HO.lst ys) hc;have nc:c≠D:=λ z=>by rw[z,Bl]at hc;cases hc
      have Rx:=Jw _ _ Bl;show⟨Rx,rh,fD,(lz.trans Jw).put fD,a8,?_,_,O⟩;rw[aY hg];show Ę (ë vd λ _ _ h=>h.keep (Jw.ts.trans (FK.put Rx).ts) λ b xs nb f e=>by rw[aG nb];show Jw _ _ e) ⟨c,ys,O,nc,lz.free hc,by rw[aG nc];show a8,Î (Jw.ts.trans (FK.put Rx).ts) _ _ Jv⟩
   rintro ac Bk xK;let⟨kl,ks,lz,ZD,Bl,vd,rfl⟩:=xK;show fK (λ ac H'=>RK qh rn Bk H'/\H' rl=Y (.lst us)/\Tabs3 H' Pa Pm Ps/\∃ u,ac=wT a t (.ref na) r v4 (Y (.int (j:Int))) (Y (.ref tl)) (Y (.ref dl)) u (Y xs) (Y (.int (0+(way:Int)))) (Y (.ref rl)) (Y (.ref kl)) W W W) (λ D1 ud=>?_) ?_
   ·show⟨_,O,rl,O,⟨_,É (lz _ _ jg)⟩,iT (K:=K) (a:=rl) (xs:=us) (λ i ac H'=>RK qh rn Bk H'/\H' rl=Y (.lst us)/\Tabs3 H' Pa Pm Ps/\(∀ b xs,Bk b=Y (.lst xs)->H' b=Y (.lst xs)\/H' b=Y (.lst []))/\∃ u,ac=wT a t (.ref na) r v4 (Y (.int (j:Int))) (Y (.ref tl)) (Y (.ref dl)) u (Y xs) (Y (.int (0+(way:Int)))) (Y (.ref rl)) (Y (.ref kl)) W W W)
     ⟨λ _ _ e _=>e,lz _ _ jg,yi.t2.same lz,λ _ _ e=>.inl e,_,O⟩ (λ i ac H' _ p=>É p.2.1) ?_ ?_⟩
    rotate_left
    ·rintro ac ym xK;let⟨h1,h2,h3,_,u,rfl⟩:=xK;show ud _ _ ⟨h1,h2,h3,u,O⟩
    rintro i x ac ym hx xK;let⟨cl,xt,tb,ls,u,rfl⟩:=xK;let⟨g,hg,eg⟩:=Đ pr hx;dsimp only[eJ,nE];cases g with
    |inl d=>
     have ZE:Is K ym d x:=Ì (lz.ts.trans cl.ts) _ _ (show Is K rn d x from eg);show⟨_,O,x,"list",fN d,O,mW,Is.g ZE,_,O,?_⟩;rw[GI];show eG ⟨cl,xt,tb,ls,_,O⟩
    |inr ds'=>
     let⟨b,ys,rfl,nb,fb,hb,lb⟩:=(show ∃ a xs,x=V.ref a/\a≠rl/\qh a=W/\rn a=Y (.lst xs)/\L2.IsL K rn ds' xs from eg);have Aa:=lz _ _ hb;obtain⟨zs,Fa,hz,ZF⟩:∃ zs Fa,ym b=Y (.lst zs)/\aJ K ym (.lst Fa) (.ref b):=by
      rcases ls b ys Aa with h|h
      ·show⟨ys,c8 ds',h,aJ.l (É h) (ĭ (Î (lz.ts.trans cl.ts) _ _ lb))⟩
      ·show⟨[],[],h,aJ.l (É h) ġ⟩
     show⟨_,O,.ref b,"list",.lst Fa,O,mW,ZF,_,O,?_⟩;rw[GJ];show eS ⟨_,O,.inl ⟨O,_,É hz⟩,b,zs,O,O,hz,cl.put fb (by rw[hb];show λ z=>nomatch z) Aa,by rw[aG (Ne.symm nb)];show xt,tb.noL (FK.put hz),λ c ZG e=>?_,_,O⟩
     by_cases z:c=b
     ·subst z;show .inr a8
     ·rw[aG z];show ls c ZG e
   rintro ac ym xK;let⟨Ry,xt,Rz,u9,rfl⟩:=xK;show fK (λ ac H'=>RK qh rn Bk H'/\Tabs3 H' Pa Pm Ps/\ac=wT a t (.ref na) r v4 (Y (.int (j:Int))) (Y (.ref tl)) (Y (.ref dl)) u9 (Y xs) (Y (.int (0+(way:Int)))) (Y (.ref rl)) (Y (.ref kl)) W W W) (λ D1 ud=>?_) ?_
   ·show⟨_,O,.inl ⟨O,_,É xt⟩,rl,us,O,O,xt,ud _ _ ⟨Ry.put tj (by rw[jg];show λ z=>nomatch z) (lz _ _ jg),Rz.noL (FK.put xt),O⟩⟩
   rintro ac Jx xK;let⟨cl,Sa,rfl⟩:=xK;have We:FJ xz Jx:=λ b o e n=>cl b o (lz _ _ (yi.get (zz b o e n) n)) (.inl λ z=>by rw[zz b o e n]at z;cases z);have Jy:=Ì We.ts _ _ Jp;show⟨_,O,_,O,_,xs,sn,O,Wc,Jy,Ru,Sa,λ gs2 rl2 us2 Jz Ka Sb ZH Wf ZI Sc ZJ=>?_⟩;have ZK:=OL Rv Sb;subst ZK;have ZL:Jz kl=Y (.lst ks):=Ka.get (cl _ _ Bl (.inr (.inl ZD))) λ ps z=>by cases z
   have ek:Paired (AJ K rn Jz kl) gs ks:=ë vd λ _ _ h=>h.keep (cl.ts.trans Ka.ts) λ b xs _ f e=>Ka.get (cl b _ e (.inr (.inl f))) λ ps z=>by cases z
   show⟨_,O,.lst (gs.map gT),.lst (gs.map gT),by rw[cB];have:=D4 Rw;lia,aJ.l (É Sc) (AJ.gl ZJ),aJ.l (É ZL) (AJ.gl ek),_,O,?_⟩;rw[gM];show eG ⟨⟨We.trans Ka.old,Ka.t2⟩,_,_,_,_,O⟩
  rintro ac qh xK;let⟨zz,u8,yk,tw,sy,rfl⟩:=xK;have Ex:=En.old zz;have Ab:=zz.lst Jq;have Kb:=zz.lst Wb;have Bm:=Î zz.ts _ _ Jr;clear En Jq Wb Jr zz Jp Ru Cf;have Sd:=Ex;have Bn:(gP net ds).rows=bQ net (fZ net) ds:=xL net ds;show fK (λ ac H'=>∃ hl rr,aE qh H'/\H' hl=Y (.lst rr)/\OI qh H' hl [cY [3,5,9],cY [2,3],mo] rr/\ac=wT a t (.ref na) r v4 (Y (.int (j:Int))) (Y (.ref tl)) (Y (.ref dl)) u8 (Y xs) yk tw sy (Y (.ref hl)) W W) (λ D1 ud=>?_) ?_
  ·show⟨(sz0 3),λ h0 Wg=>?_⟩;have s1:=È (o:=HO.lst (cY [3,5,9])) Wg;have g1:upd qh h0 (.lst (cY [3,5,9])) h0=Y (.lst (cY [3,5,9])):=a8;show⟨(sz0 2),λ h1 Wh=>?_⟩;have s2:=È (H:=upd qh h0 (.lst (cY [3,5,9]))) (o:=HO.lst (cY [2,3])) Wh;have g2:upd (upd qh h0 (.lst (cY [3,5,9]))) h1 (.lst (cY [2,3])) h1=Y (.lst (cY [2,3])):=a8;show⟨_,O,.inl ⟨dl,_,1,.ref c1,O,O,É ((s1.trans s2) _ _ Ab),O,c1,mo,O,.inl (É ((s1.trans s2) _ _ Kb)),λ h2 Wi=>⟨(sz0 3),λ hl Du=>?_⟩⟩⟩;have s3:=È (H:=upd (upd qh h0 (.lst (cY [3,5,9]))) h1 (.lst (cY [2,3]))) (o:=HO.lst mo) Wi;have s4:=È (H:=upd (upd (upd qh h0 (.lst (cY [3,5,9]))) h1 (.lst (cY [2,3]))) h2 (.lst mo)) (o:=HO.lst [.ref h0,.ref h1,.ref h2]) Du;have ne:∀ {b:Á}{o:HO},upd (upd (upd qh h0 (.lst (cY [3,5,9]))) h1 (.lst (cY [2,3]))) h2 (.lst mo) b=Y o->b≠hl:=λ {b o} e z=>by
    have Se:upd (upd (upd qh h0 (.lst (cY [3,5,9]))) h1 (.lst (cY [2,3]))) h2 (.lst mo) hl=none:=Du;rw[z,Se]at e;cases e
   show ud _ _ ⟨hl,_,((s1.trans s2).trans s3).trans s4,a8,.cons ⟨h0,O,ne ((s2.trans s3) _ _ g1),Wg,((s2.trans s3).trans s4) _ _ g1⟩ (.cons ⟨h1,O,ne (s3 _ _ g2),s1.free Wh,(s3.trans s4) _ _ g2⟩ (.cons ⟨h2,O,ne a8,(s1.trans s2).free Wi,s4 _ _ a8⟩ .nil)),O⟩
  rintro ac rn xK;let⟨hl,rr,yi,Cg,Wj,rfl⟩:=xK;let⟨h0,h1,h2,rfl,⟨z0,z1,z2⟩,⟨f0,vw,VU⟩,g0,g1,g2⟩:=Q7 Wj;have Wk:=Ex.same yi;have Kc:=Î yi.ts _ _ Bm;show fK (λ ac H'=>∃ n0 n1 n2 nl,aE rn H'/\rn nl=W/\H' nl=Y (.lst [n0,n1,n2])/\Is K H' (cJ (O2 [3,5,9])) n0/\Is K H' (cJ (NZ [2,3])) n1/\Is K H' (cJ (LB 2 [2,3])) n2/\ac=wT a t (.ref na) r v4 (Y (.int (j:Int))) (Y (.ref tl)) (Y (.ref dl)) u8 (Y xs) yk tw sy (Y (.ref hl)) (Y (.ref nl)) W) (λ D1 ud=>?_) ?_
  ·show⟨_,O,.inl ⟨hl,_,0,.ref h0,O,O,É Cg,O,h0,[3,5,9],O,g0,FZ,λ n0 HA sA iA=>?_⟩⟩;show⟨_,O,.inl ⟨hl,_,1,.ref h1,O,O,É (sA _ _ Cg),O,h1,[2,3],O,sA _ _ g1,FZ,λ n1 HB sB iB=>?_⟩⟩;show⟨_,O,.inl ⟨hl,_,1,.ref h1,O,O,É ((sA.trans sB) _ _ Cg),O,h1,2,[2,3],O,(sA.trans sB) _ _ g1,FZ,FZ,λ n2 HC sC iC=>⟨(sz0 3),λ nl Kt=>?_⟩⟩⟩;have sD:=È (o:=HO.lst [n0,n1,n2]) Kt;show ud _ _ ⟨n0,n1,n2,nl,((sA.trans sB).trans sC).trans sD,((sA.trans sB).trans sC).free Kt,a8,Ì ((sB.trans sC).trans sD).ts _ _ iA,Ì (sC.trans sD).ts _ _ iB,Ì sD.ts _ _ iC,O⟩
  rintro ac Bk xK;let⟨n0,n1,n2,nl,lz,ZM,Wl,i0,i1,i2,rfl⟩:=xK;have Sf:=Wk.same lz;show fK (λ ac H'=>aE Bk H'/\ac=wT a t (.ref na) r v4 (Y (.int (j:Int))) (Y (.ref tl)) (Y (.ref dl)) u8 (Y xs) yk tw sy (Y (.ref hl)) (Y (.ref nl)) (Y .non)) (λ D1 ud=>?_) ?_
  ·show⟨_,O,_,O,.inl ⟨hl,_,2,.ref h2,O,O,É (lz _ _ Cg),O,.ref na,h2,net,bQ net (fZ net) ds,mo,O,Sf.hp,nok,lz _ _ g2,by rw[<- Bn];show Î lz.ts _ _ Kc,yY O ds _ _ 0 Sf.dok (SR net) Fn,λ ym Ch=>?_⟩⟩;rw[vM,IV];show ud _ _ ⟨Ch,O⟩
  rintro ac ym ⟨Ch,rfl⟩;have zq:=lz.trans Ch;have Kd:=yi.trans zq;have gi:∀ {Hx:Hp} (l:List Nat),bZ K Hx (l.map λ(i:Nat)=>G.int (i:Int)) (cY l):=λ l=>CQ l;show fK (λ ac H'=>aE ym H'/\ac=wT a t (.ref na) r v4 (Y (.int (j:Int))) (Y (.ref tl)) (Y (.ref dl)) u8 (Y xs) yk tw sy (Y (.ref hl)) (Y (.ref nl)) (Y .non)) (λ D1 ud=>?_) ?_
  ·show⟨_,O,(sz0 3),λ q0 ZN=>?_⟩;have t0:=È (o:=HO.lst (cY [3,5,9])) ZN;have e0:upd ym q0 (.lst (cY [3,5,9])) q0=Y (.lst (cY [3,5,9])):=a8;show⟨(sz0 2),λ q1 sw=>?_⟩;have t1:=È (H:=upd ym q0 (.lst (cY [3,5,9]))) (o:=HO.lst (cY [2,3])) sw;have e1:upd (upd ym q0 (.lst (cY [3,5,9]))) q1 (.lst (cY [2,3])) q1=Y (.lst (cY [2,3])):=a8;show⟨_,O,.inl ⟨dl,_,1,.ref c1,O,O,É ((Kd.trans (t0.trans t1)) _ _ Ab),O,(sz0 3),λ ql ZO=>?_⟩⟩;have t2:=È (H:=upd (upd ym q0 (.lst (cY [3,5,9]))) q1 (.lst (cY [2,3]))) (o:=HO.lst [.ref q0,.ref q1,.ref c1]) ZO;have Ee:=(t0.trans t1).trans t2;have Wm:=ĭ (Î (Kd.trans Ee).ts _ _ Bm);have y:=(Kd.trans Ee) _ _ Kb;show⟨.lst [.lst (([3,5,9]:List Nat).map λ(i:Nat)=>G.int (i:Int)),.lst (([2,3]:List Nat).map λ(i:Nat)=>G.int (i:Int)),.lst (c8 ((gP net ds).rows.map jQ))],.lst [.lst (([3,5,9]:List Nat).map λ(i:Nat)=>G.int (i:Int)),.lst (([2,3]:List Nat).map λ(i:Nat)=>G.int (i:Int)),.lst (c8 ((gP net ds).rows.map jQ))],?_,
    û ((zq.trans Ee) _ _ Cg) (.cons (û ((zq.trans Ee) _ _ g0) (gi _)) (.cons (û ((zq.trans Ee) _ _ g1) (gi _)) (.cons (û ((zq.trans Ee) _ _ g2) Wm) ġ))),
    û a8 (.cons (û ((t1.trans t2) _ _ e0) (gi _)) (.cons (û (t2 _ _ e1) (gi _)) (.cons (û y Wm) ġ))),_,O,?_⟩
   ·have:=kT (gP net ds).rows;have:=rD [3,5,9];have:=rD [2,3];simp only[cB,bJ];lia
   rw[gM];show eG ⟨_,O,O,_,O,V6 O (ud _ _ ⟨Ee,O⟩)⟩
  rintro ac Jx ⟨Be,rfl⟩;have xq:=Kd.trans Be;have vj:=zq.trans Be;have si:∀ {b:Á},b∈[h0,h1,h2]->b=h0\/b=h1\/b=h2:=λ h=>by simpa using h
  have xr:∀ b∈[h0,h1,h2],qh b=none:=λ b h=>by rcases si h with rfl|rfl|rfl <;> assumption
  have Bh:∀ b∈[h0,h1,h2],∃ ys,rn b=Y (.lst ys):=λ b h=>by
   rcases si h with rfl|rfl|rfl
   ·show⟨_,g0⟩
   ·show⟨_,g1⟩
   ·show⟨_,g2⟩
  have olds:∀ {b:Á}{o:HO},qh b=Y o->b∉[h0,h1,h2]:=λ e h=>by rw[xr _ h]at e;cases e
  have ZP:nl∉[h0,h1,h2]:=λ h=>by let⟨ys,e⟩:=Bh _ h;rw[ZM]at e;cases e
  have Lb:hl∉[h0,h1,h2]:=λ h=>by rcases si h with z|z|z <;> first|show z0 z.symm|show z1 z.symm|show z2 z.symm
  have Ac:∀ b∈[h0,h1,h2],iI (Jx b):=λ b h=>by let⟨ys,e⟩:=Bh b h;rw[vj _ _ e];show trivial
  show fK (λ ac H'=>gY [h0,h1,h2] Jx H'/\∃ u,ac=wT a t (.ref na) r v4 (Y (.int (j:Int))) (Y (.ref tl)) (Y (.ref dl)) u (Y xs) yk tw sy (Y (.ref hl)) (Y (.ref nl)) (Y .non)) (λ D1 ud=>?_) ?_
  ·show⟨_,O,hl,O,⟨_,É (vj _ _ Cg)⟩,iT (K:=K) (a:=hl) (xs:=[.ref h0,.ref h1,.ref h2]) (λ i ac H'=>gY [h0,h1,h2] Jx H'/\(∀ b∈[h0,h1,h2],∃ ys,H' b=Y (.lst ys))/\∃ u,ac=wT a t (.ref na) r v4 (Y (.int (j:Int))) (Y (.ref tl)) (Y (.ref dl)) u (Y xs) yk tw sy (Y (.ref hl)) (Y (.ref nl)) (Y .non))
    ⟨gY.refl _,λ b h=>by let⟨ys,e⟩:=Bh b h;show⟨ys,vj _ _ e⟩,_,O⟩ (λ i ac H' _ p=>É (p.1 _ _ Lb (vj _ _ Cg))) ?_ ?_⟩
   ·rintro i x ac Jz hx xK;let⟨b9,l9,u,rfl⟩:=xK;obtain⟨b,rfl,hb⟩:∃ b,x=V.ref b/\b∈[h0,h1,h2]:=by
     have:=Û hx;simp only[Ò,Ĝ,or_false]at this;rcases this with rfl|rfl|rfl <;> show⟨_,O,G0⟩
    let⟨ys,hy⟩:=l9 b hb;dsimp only[eJ,nE];show⟨_,O,.inl ⟨O,_,É hy⟩,b,ys,O,O,hy,λ c o hc e=>?_,λ c hc=>?_,_,O⟩
    ·rw[aG (show c≠b from λ z=>hc (by rw[z];show hb))];show b9 c o hc e
    ·by_cases z:c=b
     ·subst z;show⟨_,a8⟩
     ·let⟨zs,hz⟩:=l9 c hc;show⟨zs,by rw[aG z];show hz⟩
   ·rintro ac Jz xK;let⟨b9,_,u,rfl⟩:=xK;show ud _ _ ⟨b9,u,O⟩
  rintro ac Jz xK;let⟨Fk,u9,rfl⟩:=xK;have ZQ:=Ex.off xq xr Ac Fk;have Sg:=Fk _ _ (olds Ab) (xq _ _ Ab);have ZR:=Fk _ _ (olds Kb) (xq _ _ Kb);have Sh:=Fk _ _ ZP ((Ch.trans Be) _ _ Wl);have Ke:=pY (K:=K) Fk Ac;have Si:=Î (xq.ts.trans Ke) _ _ Bm;have ZS:=Ì ((Ch.trans Be).ts.trans Ke) _ _ i0;have Di:=Ì ((Ch.trans Be).ts.trans Ke) _ _ i1;have Gh:=Ì ((Ch.trans Be).ts.trans Ke) _ _ i2;clear Ex Wk Sf Sd yi lz Ch Be Kd zq xq vj Cg Wj g0 g1 g2 Bm Kc Ab Kb Wl i0 i1 i2 Fk Ke Ac si xr Bh olds;show⟨_,O,(sz0 3),λ l0 Qq=>⟨l0,[3,5,9],O,a8,FZ,λ m0 HA sA iA=>?_⟩⟩;have ZT:=(È (o:=HO.lst (cY [3,5,9])) Qq).trans sA;show⟨(sz0 2),λ l1 uj=>⟨l1,[2,3],O,a8,FZ,λ m1 HB sB iB=>?_⟩⟩;have Wn:=(È (o:=HO.lst (cY [2,3])) uj).trans sB;show⟨(sz0 2),λ l2 xw=>⟨l2,2,[2,3],O,a8,FZ,FZ,λ m2 HC sC iC=>⟨(sz0 3),λ ml yh=>?_⟩⟩⟩;have Sj:=(È (o:=HO.lst (cY [2,3])) xw).trans sC;have sD:=È (o:=HO.lst [m0,m1,m2]) yh;have Ci:=((ZT.trans Wn).trans Sj).trans sD;show⟨.lst [fN (cJ (O2 [3,5,9])),fN (cJ (NZ [2,3])),fN (cJ (LB 2 [2,3]))],.lst [fN (cJ (O2 [3,5,9])),fN (cJ (NZ [2,3])),fN (cJ (LB 2 [2,3]))],?_,
   û (Ci _ _ Sh) (.cons (Is.g (Ì Ci.ts _ _ ZS)) (.cons (Is.g (Ì Ci.ts _ _ Di)) (.cons (Is.g (Ì Ci.ts _ _ Gh)) ġ))),
   û a8 (.cons (Is.g (Ì ((Wn.trans Sj).trans sD).ts _ _ iA)) (.cons (Is.g (Ì (Sj.trans sD).ts _ _ iB)) (.cons (Is.g (Ì sD.ts _ _ iC)) ġ))),_,O,?_⟩
  ·have:=o8 (O2 [3,5,9]);have:=o8 (NZ [2,3]);have:=o8 (LB 2 [2,3]);simp only[cB,bJ];lia
  rw[gM];have Wo:=ZQ.same Ci;let⟨dx,np,R,M,T1,ei⟩:=Wo.ra.ins;show eS ⟨_,O,r,dx,_,O,ei,MI "book" O,r,_,fp,O,Wo.ra,λ bp bx ZU lx=>?_⟩;have Lz:=È (o:=HO.lst bx) ZU;show⟨_,O,.inl ⟨dl,_,1,.ref c1,O,O,É ((Ci.trans Lz) _ _ Sg),O,.lst (c8 ((gP net ds).rows.map jQ)),.lst (c8 ((gP net ds).rows.map jQ)),?_,û a8 (ĭ (Î Lz.ts _ _ lx)),û ((Ci.trans Lz) _ _ ZR) (ĭ (Î (Ci.trans Lz).ts _ _ Si)),?_⟩⟩
  ·have:=kT (gP net ds).rows;rw[cB];lia
  rw[gM];show k _
theorem pX {ae:Type}{p:List ae->Prop} (h:∀ a0,p [a0]):∀ us:List ae,us.length=1->p us
 |[a0],_=>h a0
theorem n9 {ae:Type}{p:List ae->Prop} (h:∀ a0 a1,p [a0,a1]):∀ us:List ae,us.length=2->p us
 |[a0,a1],_=>h a0 a1
theorem pW {ae:Type}{p:List ae->Prop} (h:∀ a0 a1 a2,p [a0,a1,a2]):∀ us:List ae,us.length=3->p us
 |[a0,a1,a2],_=>h a0 a1 a2
theorem pV {ae:Type}{p:List ae->Prop} (h:∀ a0 a1 a2 a3,p [a0,a1,a2,a3]):∀ us:List ae,us.length=4->p us
 |[a0,a1,a2,a3],_=>h a0 a1 a2 a3
theorem pU {ae:Type}{p:List ae->Prop} (h:∀ a0 a1 a2 a3 a4,p [a0,a1,a2,a3,a4]):∀ us:List ae,us.length=5->p us
 |[a0,a1,a2,a3,a4],_=>h a0 a1 a2 a3 a4
structure Fw (K:Ç) (x:Str) (st:Stmt) (f:Á) (fd:FuncData):Prop where
 a:PySem.W.nsIn K mainGlobals x=Y (Y (.ref f))
 F:Fun K x x st f fd
structure Fm (K:Ç) (C:Á) (x q:Str) (st:Stmt) (f:Á) (fd:FuncData):Prop where
 a:PySem.W.findIn K (.ref C) x=Y (Y (.ref f))
 i:PySem.W.isFn K (.ref f)=Eg
 F:Fun K x q st f fd
structure Zz (P:Ã) (w:World) (K:Ç) (mg:Str->Option À) (base h:Heap):Prop where
 X:K.In h
 G:h.Ns mainGlobals mg
section
variable {h:Heap}{x q:Str}{st:Stmt}{f:Á}{fd:FuncData}{k:Nat}{ps:List Str}{sp:Sp}
theorem fw_mk {oc:À}{od an:Option Á}{ue:Array (Option À)}{kV doc pm gz ct:À} (a:PySem.W.nsIn K mainGlobals x=Y (Y (.ref f))) (l:K.lookup f=Y ⟨oc,od,.func (PySem.W.fnOf x x (eQ st) (cL st) (aH st) .none kV doc pm an gz ct),ue⟩) (c:PySem.W.codeIn K gz x=Eg) (k:PySem.W.keepIn K (.ref f)=Eg):Fw K x st f (PySem.W.fnOf x x (eQ st) (cL st) (aH st) .none kV doc pm an gz ct):=⟨a,qZ l c k⟩
theorem fm_mk {oc:À}{od an:Option Á}{ue:Array (Option À)}{kV doc pm gz ct:À} (a:PySem.W.findIn K (.ref C) x=Y (Y (.ref f))) (i:PySem.W.isFn K (.ref f)=Eg) (l:K.lookup f=Y ⟨oc,od,.func (PySem.W.fnOf x q (eQ st) (cL st) (aH st) .none kV doc pm an gz ct),ue⟩) (c:PySem.W.codeIn K gz q=Eg) (k:PySem.W.keepIn K (.ref f)=Eg):Fm K C x q st f (PySem.W.fnOf x q (eQ st) (cL st) (aH st) .none kV doc pm an gz ct):=⟨a,i,qZ l c k⟩
theorem Zz.c (Z:Zz P w K mg base h) (F:Fw K x st f fd) (o:FnOk P w K mg base fX k f fd ps sp) (b:autoParam (∀(kV doc pm:À) (an:Option Á) (gz ct:À) (us:List À),us.length=ps.length->bindArgs (PySem.W.fnOf x x (eQ st) (cL st) (aH st) .none kV doc pm an gz ct) ⟨us,[]⟩=pure (ps.zip us)) _8):Callee P w K mg base x ps k sp f fd:=⟨o,ú Z.X Z.G F.a,F.F.kp,F.F.binds b⟩
theorem Zz.r (Z:Zz P w K mg base h) (F:Fw K x st f fd) (o:FnOk P w K mg base (mL P w) k f fd ps sp) (b:autoParam (∀(kV doc pm:À) (an:Option Á) (gz ct:À) (us:List À),us.length=ps.length->bindArgs (PySem.W.fnOf x x (eQ st) (cL st) (aH st) .none kV doc pm an gz ct) ⟨us,[]⟩=pure (ps.zip us)) _8):CalleeR P w K mg base x ps k sp f fd:=⟨o,ú Z.X Z.G F.a,F.F.kp,F.F.binds b⟩
theorem Zz.s {sp:RH} (Z:Zz P w K mg base h) (F:Fw K x st f fd) (o:FnOkS P w K mg base (mL P w) k f fd ps sp) (b:autoParam (∀(kV doc pm:À) (an:Option Á) (gz ct:À) (us:List À),us.length=ps.length->bindArgs (PySem.W.fnOf x x (eQ st) (cL st) (aH st) .none kV doc pm an gz ct) ⟨us,[]⟩=pure (ps.zip us)) _8):CalleeS P w K mg base x ps k sp f fd:=⟨o,ú Z.X Z.G F.a,F.F.kp,F.F.binds b⟩
theorem Zz.m (_:Zz P w K mg base h) (cl:Cls K C) (F:Fm K C x q st f fd) (o:FnOk P w K mg base fX k f fd ps sp) (b:autoParam (∀(kV doc pm:À) (an:Option Á) (gz ct:À) (us:List À),us.length=ps.length->bindArgs (PySem.W.fnOf x q (eQ st) (cL st) (aH st) .none kV doc pm an gz ct) ⟨us,[]⟩=pure (ps.zip us)) _8):MCal P w K mg base C x ps k sp f fd:=⟨cl,⟨F.a,F.i,F.F.kp⟩,o,F.F.binds b⟩
theorem Zz.mr (_:Zz P w K mg base h) (cl:Cls K C) (F:Fm K C x q st f fd) (o:FnOk P w K mg base (mL P w) k f fd ps sp) (b:autoParam (∀(kV doc pm:À) (an:Option Á) (gz ct:À) (us:List À),us.length=ps.length->bindArgs (PySem.W.fnOf x q (eQ st) (cL st) (aH st) .none kV doc pm an gz ct) ⟨us,[]⟩=pure (ps.zip us)) _8):MCalR P w K mg base C x ps k sp f fd:=⟨cl,⟨F.a,F.i,F.F.kp⟩,o,F.F.binds b⟩
end
abbrev Na (K:Ç) (x:Str) (f:Á):Prop:=PySem.W.nsIn K mainGlobals x=Y (Y (.ref f))
abbrev Nn (K:Ç) (x:Str):Prop:=PySem.W.nsIn K mainGlobals x=Y W
abbrev Kp (K:Ç) (f:Á):Prop:=PySem.W.keepIn K (.ref f)=Eg
abbrev Cd (K:Ç) (c:À) (q:Str):Prop:=PySem.W.codeIn K c q=Eg
abbrev Lk (K:Ç) (f:Á) (m q:Str) (s:Stmt) (oc:À) (od:Option Á) (kV dc pm:À) (an:Option Á) (cd ct:À) (sl:Array (Option À)):Prop:=K.lookup f=Y ⟨oc,od,.func (PySem.W.fnOf m q (eQ s) (cL s) (aH s) .none kV dc pm an cd ct),sl⟩
theorem all_mk {l:PySem.W.OpenLaw}{mg:Str->Option À} (X:K.In h) (G:h.Ns mainGlobals mg) (La:mg "law" =Y (.ref fa))
  (aC:Na K "Run" C)
  {ts:List Á}
  (F0:Fw K "_law_draw" (bG 79) f0 d0)
  (F1:Fw K "_law_outs" (bG 80) f1 d1)
  (F2:Fw K "_law_vessel" (bG 81) f2 d2)
  (F3:Fw K "_law_net" (bG 82) f3 d3)
  (F4:Fw K "is_tuple" (bG 42) f4 d4)
  (F5:Fw K "is_whole" (bG 43) f5 d5)
  (F6:Fw K "is_out" (bG 37) f6 d6)
  (F7:Fw K "is_act" (bG 38) f7 d7)
  (F8:Fw K "is_vessel" (bG 36) f8 d8)
  (F9:Fw K "is_spout" (bG 39) f9 d9)
  (Wp:Fw K "is_net" (bG 35) Vw d10)
  (Wq:Fw K "first_state" (bG 7) Vx d11)
  (Wr:Fw K "pouring" (bG 8) Vy d12)
  (Ws:Fw K "first_moment" (bG 19) Vz d13)
  (Ma:Fm K C "__init__" "Run.__init__" (eP (bG 45) 0) Rh d14)
  (Wt:Fw K "need_vessel" (bG 40) f15 d15)
  (Wu:Fw K "moment_poured" (bG 20) f16 d16)
  (Wv:Fm K C "pour" "Run.pour" (eP (bG 45) 1) f17 d17)
  (Ww:Fw K "filled" (bG 11) f18 d18)
  (Wx:Fw K "send" (bG 14) f19 d19)
  (Wy:Fw K "share_out" (bG 13) f20 d20)
  (Wz:Fw K "settle" (bG 12) f21 d21)
  (WA:Fw K "doors_behind" (bG 15) f22 d22)
  (Mb:Fw K "tick_behind" (bG 9) f23 d23)
  (WB:Fw K "came_in" (bG 10) f24 d24)
  (WC:Fw K "moment_behind" (bG 22) f25 d25)
  (WD:Fw K "moment_gone" (bG 21) f26 d26)
  (WE:Fm K C "go" "Run.go" (eP (bG 45) 2) f27 d27)
  (WF:Fm K C "tips" "Run.tips" (eP (bG 45) 6) f28 d28)
  (WG:Fm K C "book" "Run.book" (eP (bG 45) 9) f29 d29)
  (WH:Fw K "tips_of" (bG 62) f30 d30)
  (WI:Fw K "with_vessel" (bG 41) f31 d31)
  (WJ:Fw K "stuck_net" (bG 58) f32 d32)
  (WK:Fw K "tipped_in_case" (bG 61) f33 d33)
  (WL:Fw K "cases" (bG 60) f34 d34)
  (WM:Fw K "_law_small" (bG 83) f35 d35)
  (WN:Fw K "watch" (bG 47) f36 d36)
  (Mc:Fw K "go_through" (bG 48) f37 d37)
  (ZV:Na K "whole_machine" f38)
  (ZW:Lk K f38 "whole_machine" "whole_machine" (bG 70) oc38 od38 kV38 dc38 pm38 an38 (.ref q38) ct38 sl38)
  (ZX:Cd K (.ref q38) "whole_machine")
  (ZY:Kp K f38)
  (WO:Fw K "numbered" (bG 72) f39 d39)
  (WP:Fw K "rooms_of" (bG 71) f40 d40)
  (WQ:Fw K "least" (bG 69) f41 d41)
  (ZZ:Na K "soonest" f42)
  (Z0:Lk K f42 "soonest" "soonest" (bG 75) oc42 od42 kV42 dc42 pm42 an42 (.ref q42) ct42 sl42)
  (Z1:Cd K (.ref q42) "soonest")
  (Z2:Kp K f42)
  (Z3:Na K "alike" f43)
  (Z4:Lk K f43 "alike" "alike" (bG 51) oc43 od43 kV43 dc43 pm43 an43 (.ref q43) ct43 sl43)
  (Z5:Cd K (.ref q43) "alike")
  (Z6:Kp K f43)
  (WR:Fw K "_law_told" (bG 84) f44 d44)
  (WS:Fw K "one_on" (bG 66) f45 d45)
  (WT:Fw K "bell_for" (bG 65) f46 d46)
  (WU:Fw K "counter" (bG 64) f47 d47)
  (WV:Fw K "rhythm" (bG 77) f48 d48)
  (WW:Fw K "most_to_pour" (bG 23) f49 d49)
  (WX:Fw K "may_pour" (bG 55) f50 d50)
  (WY:Fw K "most_to_go" (bG 24) f51 d51)
  (WZ:Fw K "is_just" (bG 56) f52 d52)
  (W0:Fw K "moment_told" (bG 54) f53 d53)
  (W1:Fw K "first_lie" (bG 53) f54 d54)
  (Z7:Na K "law" f55)
  (Z8:Lk K f55 "law" "law" (bG 85) oc55 od55 kV55 dc55 pm55 an55 cd55 ct55 sl55)
  (Z9:Cd K cd55 "law")
  (a_:Kp K f55)
  (pg:PySem.W.plainGet K C Str.empty=Eg)
  (hd:PySem.W.hasDictIn K C=Eg)
  (po:PySem.W.plainOver K C=Eg)
  (sa:PySem.W.findIn K (.ref C) "__setattr__" =Y (Y (.builtin "object.__setattr__")))
  (mk:PySem.W.makesIn K C=Eg)
  (kc:Kp K C)
  (n0:PySem.W.findIn K (.ref C) "net" =Y W)
  (n1:PySem.W.findIn K (.ref C) "rows" =Y W)
  (n2:PySem.W.findIn K (.ref C) "moments" =Y W)
  (n3:PySem.W.findIn K (.ref C) "tip_ticks" =Y W)
  (b_:PySem.W.nsIn K mainGlobals "MOST_VESSELS" =Y (Y (.int 12 tk0)))
  (c_:PySem.W.nsIn K mainGlobals "MOST_SPOUTS" =Y (Y (.int 12 tk1)))
  (d_:PySem.W.nsIn K mainGlobals "MOST_SIZE" =Y (Y (.int 60 tk2)))
  (e_:PySem.W.nsIn K mainGlobals "MOST_BRIM" =Y (Y (.int 200 tk3)))
  (f_:PySem.W.nsIn K mainGlobals "MOST_OUTS" =Y (Y (.int 3 tk4)))
  (g_:PySem.W.nsIn K mainGlobals "MOST_PARTS" =Y (Y (.int 60 tk5)))
  (h_:PySem.W.nsIn K mainGlobals "MOST_ACTS" =Y (Y (.int 3 tk6)))
  (i_:PySem.W.nsIn K mainGlobals "MOST_FLOW" =Y (Y (.int 60 tk7)))
  (j_:Na K "ACT_WORDS" aw)
  (k_:K.lookup aw=Y ⟨.type "tuple",odw,.seq #[.str "open" tw1,.str "shut" tw2,.str "turn" tw3] nw,slw⟩)
  (Sk:PySem.W.nsIn K mainGlobals "MOST_POURED" =Y (Y (.int 1000 tkB1)))
  (Sl:PySem.W.nsIn K mainGlobals "MOST_TICKS" =Y (Y (.int 3000 tkB2)))
  (l_:PySem.W.nsIn K mainGlobals "MOST_STATES_soonest" =Y (Y (.int 300 tkM)))
  (m_:PySem.W.nsIn K mainGlobals "MOST_STATES_least" =Y (Y (.int 200 tkL)))
  (n_:PySem.W.nsIn K mainGlobals "MOST_PAIRS" =Y (Y (.int 300 tkP)))
  (o_:K.lookup q43=Y ⟨.type "code",yd43,.fields yv43,ys43⟩)
  (p_:K.lookup q38=Y ⟨.type "code",yd38,.fields yv38,ys38⟩)
  (q_:K.lookup q42=Y ⟨.type "code",yd42,.fields yv42,ys42⟩)
  (Ef:Na K "TipError" vm)
  (Md:Na K "NoNet" Ak)
  (wl:Na K "NoVessel" gu)
  (so:Na K "TooMany" gq)
  (Fl:Na K "Nothing" xg)
  (z0:Nn K "len")
  (z1:Nn K "sum")
  (z2:Nn K "all")
  (z3:Nn K "max")
  (z4:Nn K "min")
  (z5:Nn K "int")
  (z6:Nn K "tuple")
  (z7:Nn K "list")
  (z8:Nn K "bool")
  (z9:Nn K "range")
  (r_:Nn K "zip")
  (s_:Nn K "enumerate")
  (t_:Nn K "isinstance")
  (u_:Nn K "divmod")
  (v_:Nn K "set")
  (w_:Nn K "sorted")
  (yp43:yv43[11]?=Y (.ref p43))
  (yn43:K.lookup p43=W)
  (yt43:p43∈ts)
  (yh43:PySem.W.codeHdIn K q43 p43=Eg)
  (yp38:yv38[11]?=Y (.ref p38))
  (yn38:K.lookup p38=W)
  (yt38:p38∈ts)
  (yh38:PySem.W.codeHdIn K q38 p38=Eg)
  (yp42:yv42[11]?=Y (.ref p42))
  (yn42:K.lookup p42=W)
  (yt42:p42∈ts)
  (yh42:PySem.W.codeHdIn K q42 p42=Eg)
  (yq43_38:p43≠p38)
  (yq43_42:p43≠p42)
  (yq38_42:p38≠p42)
  (exV:PySem.W.excIn K gu [.type "ValueError",.type "Exception",.type "BaseException",.type "object"] "ValueError.__new__" =Eg)
  (exM:PySem.W.excIn K gq [.type "ValueError",.type "Exception",.type "BaseException",.type "object"] "ValueError.__new__" =Eg)
  (hmMxh:PySem.W.exmOne K (.ref gq) (.ref gq)=Y Eg) :
  ∃(fd:FuncData) (ij:List (Á×Á)),(∀ q∈ij,q.2∈ts/\K.lookup q.2=W/\PySem.W.codeHdIn K q.1 q.2=Eg)/\(∀(s:Â) (v:À),BindsTo s fd ⟨[v],[]⟩ [("script",v)])/\∀ base:Heap,K.In base->base.Ns mainGlobals mg->(∀ q∈ij,NestB mg base q.1 q.2)->FnOk l.prog w K mg base fX 11 fa fd ["script"] (spT K ij):=by
 have e:=La.symm.trans (ú X G Z7);cases e;have T:Txt mg:=⟨Ą X G z0,Ą X G z1,Ą X G z2,Ą X G z3,Ą X G z4,Ą X G z5,Ą X G z6,Ą X G z7,Ą X G z8,Ą X G z9,Ą X G r_,Ą X G s_,Ą X G t_,Ą X G u_,Ą X G v_,Ą X G w_⟩;have U:TxtN K mg aw:=⟨⟨_,ú X G b_,_,rfl⟩,⟨_,ú X G c_,_,rfl⟩,⟨_,ú X G d_,_,rfl⟩,⟨_,ú X G e_,_,rfl⟩,⟨_,ú X G f_,_,rfl⟩,⟨_,ú X G g_,_,rfl⟩,⟨_,ú X G h_,_,rfl⟩,⟨_,ú X G i_,_,rfl⟩,⟨_,ú X G j_,rfl⟩,λ H=>.inr ⟨_,_,_,k_,rfl,rfl,by change 3<=sizeLine;decide,.cons ⟨_,rfl⟩ (.cons ⟨_,rfl⟩ (.cons ⟨_,rfl⟩ .nil))⟩⟩;have UB:TxtB mg:=⟨⟨_,ú X G Sk,_,rfl⟩,⟨_,ú X G Sl,_,rfl⟩⟩;have UM:TxtM mg:=⟨⟨_,ú X G l_,_,rfl⟩⟩;have N3:Ne3 p43 p38 p42:=⟨yq43_38,yq43_42,yq38_42⟩;have UL:TxtL mg:=⟨⟨_,ú X G m_,_,rfl⟩⟩;have UP:TxtP mg:=⟨⟨_,ú X G n_,_,rfl⟩⟩;have jp:ExC K "NoVessel" gu:=⟨wl,exV⟩;have jm:ExC K "TooMany" gq:=⟨so,exM⟩;have Qp:=hmMxh;have lu:=ú X G so;have tx:RunTx K C:=⟨⟨pg,hd,po,sa⟩,n0,n1,n2,n3⟩;have W2:=qZ (st:=(bG 51)) Z4 Z5 Z6;have W3:=qZ (st:=(bG 70)) ZW ZX ZY;have W4:=qZ (st:=(bG 75)) Z0 Z1 Z2;have x_:=qZ (st:=(bG 85)) Z8 Z9 a_;show⟨PySem.W.fnOf "law" "law" (eQ (bG 85)) (cL (bG 85)) (aH (bG 85)) .none kV55 dc55 pm55 an55 cd55 ct55,[(q43,p43),(q38,p38),(q42,p42)],λ q hq=>?_,λ s v=>.of_eq O,λ base _ _ hN=>?_⟩
 ·simp only[Ò,Ĝ,or_false]at hq;rcases hq with rfl|rfl|rfl
  ·show⟨yt43,yn43,yh43⟩
  ·show⟨yt38,yn38,yh38⟩
  ·show⟨yt42,yn42,yh42⟩
 have pf:=hN (q43,p43) G0;have jf:=hN (q38,p38) G0;have lq:=hN (q42,p42) G0;have Z:Zz l.prog w K mg base h:=⟨X,G⟩;have C0:=Z.c F0 (zT F0.F T);have C1:=Z.c F1 (zR F1.F T C0);have C2:=Z.c F2 (vD F2.F T C0 C1);have C3:=Z.c F3 (zS F3.F T C0 C2);have W5:=Z.c (sp:=(yQ K)) F4 (zP F4.F T);have C4:=Z.c F4 (CA F4.F T);have Sm:=Z.c (sp:=lN) F5 (zN F5.F T);have C5:=Z.c F5 (BZ F5.F T);have C6:=Z.c F6 (IP F6.F T U C4 C5);have C7:=Z.c F7 (IR F7.F T U C4 C5);have C8:=Z.c F8 (zO F8.F T U C4 C5 C6 C7);have C9:=Z.c F9 (CB F9.F T U C4 C5);have y_:=Z.c Wp (IQ Wp.F T U C4 C8 C9);have Me:=Z.c Wq (vC Wq.F T);have Sn:=Z.c Wr (ED Wr.F T);have So:=Z.c Ws (sN Ws.F T Me Sn);have z_:MkCal l.prog w K mg base C "Run" ["self","net"] 5 (DW K C) Rh _:=⟨⟨mk,Ma.a,Ma.i,kc⟩,PM Ma.F T tx y_ So,ú X G aC,Ma.F.binds λ _ _ _ _ _ _=>n9 λ _ _=>rfl⟩;have Mf:=Z.r Wt (sL Wt.F T jp Sm);have W6:=Z.c Wu (qR Wu.F T);have A_:=Z.mr tx.cls Wv (MC Wv.F T tx Mf W6);have W7:=Z.c Ww (IS Ww.F T);have W8:=Z.c Wx (PL Wx.F T);have B_:=Z.c Wy (zM Wy.F T W8);have W9:=Z.c Wz (IL Wz.F T W8 B_);have Xa:=Z.c WA (sO WA.F T);have Sq:=Z.c (sp:=(sS K)) Mb (l7 Mb.F T W7 W9 Xa);have C_:=Z.c Mb (sK Mb.F T W7 W9 Xa);have D_:=Z.c WB (EG WB.F T);have E_:=Z.c WC (qS WC.F T C_ D_ Sn);have Ss:=Z.c WD (vB WD.F T E_);have F_:=Z.m tx.cls WE (V4 WE.F T tx Ss);have G_:=Z.mr tx.cls WF (MB WF.F T tx Mf);have H_:=Z.m tx.cls WG (PN WG.F T tx);have I_:=Z.c WH (EB WH.F T);have J_:=Z.c WI (uZ WI.F T);have K_:=Z.c WJ (zL WJ.F T J_);have L_:=Z.c WK (pI WK.F T K_ Ss So);have M_:=Z.r WL (IU WL.F T Mf I_ L_);have N_:=Z.c WM (wK WM.F T C3);have Su:=Z.c WN (MA WN.F T Sn Sq);have Sv:=Z.s (sp:=(xB l.prog w K mg base gq tX)) Mc (nK Mc.F T jm);have Xb:=Z.s (sp:=(xB l.prog w K mg base gq dA)) Mc (nK Mc.F T jm);have O_:=Z.r (.mk ZV W3) (qQ W3 T rfl jf UL Me Su Xb);have P_:=Z.c WO (BX WO.F T);have Q_:=Z.c WP (BW WP.F T P_);have R_:=Z.r WQ (IO WQ.F T O_ Q_);have S_:=Z.r (.mk ZZ W4) (EC W4 T rfl lq UM Mf Me Su Xb);have T_:=Z.r (.mk Z3 W2) (MD W2 T rfl pf UP Me Su Sv);have U_:=Z.c WR (vE WR.F T lu Qp N3 R_ S_ T_);have Sw:=Z.c WS (IN WS.F T);have V_:=Z.c WT (CC WT.F T Sw);have W_:=Z.c WU (EF WU.F T Sw);have X_:=Z.c WV (IM WV.F T Sw);have Y_:=Z.c WW (sM WW.F T UB);have Z_:=Z.c WX (BY WX.F T C5 Y_);have y':=Z.c WY (wJ WY.F T UB);have F':=Z.c WZ (EE WZ.F T W5 Sm);have G':=Z.c W0 (vA W0.F T W5 Z_ W6 Sm y' Ss F');have J':=Z.c W1 (zQ W1.F T So G');show SQ x_ T C0 C3 z_ A_ F_ G_ H_ M_ N_ U_ V_ W_ X_ J'
theorem walk {l:PySem.W.OpenLaw}{q:Ã}{XP:(Str->Option À)->Heap->Prop}{d:DefRec}{K:Params->Ç}{ts:List Á} (hn:l.most=Y 63) (Fx:d.params.defaults=[])
  (hY:∀(w:World) (h:Heap),YP w h->(K w.params).In h) (Ov:∀(w:World) (h:Heap),YP w h->∀ P∈ts,h.get? P=Y (PySem.W.tabObj #[]))
  (F:∀(w:World) (mg:Str->Option À) (fa:Á) (h:Heap),(K w.params).In h->h.Ns mainGlobals mg->mg d.name=Y (.ref fa)->
   ∃(fd:FuncData) (ij:List (Á×Á)),(∀ q∈ij,q.2∈ts/\(K w.params).lookup q.2=W/\PySem.W.codeHdIn (K w.params) q.1 q.2=Eg)/\(∀(s:Â) (u:À),BindsTo s fd ⟨[u],[]⟩ [("script",u)])/\∀ base:Heap,(K w.params).In base->base.Ns mainGlobals mg->(∀ q∈ij,NestB mg base q.1 q.2)->FnOk l.prog w (K w.params) mg base fX 11 fa fd ["script"] (spT (K w.params) ij)) :
  PySem.W.WalkO q loose XP YP l.row.toRowW d [] (λ f vs=>PySem.call f vs):=
 L2.walk_ofT (n:=63) (k:=11) (x :="script") (sp:=spT) hn FZ Fx ⟨rfl,FZ,FZ⟩ hY Ov F KS
end Tw
def PySem.W.Fast.tw3778488177166677524:Nat:=0
theorem PySem.W.Fast.te3778488177166677524:PySem.W.Fast.tw3778488177166677524=PySem.W.Fast.tw3778488177166677524:=rfl
def PySem.W.Fast.tw8684326900281164577:PySem.Program:=PySem.Challenge.pw_tipwell_k37_lists_of_ones_own
theorem PySem.W.Fast.te8684326900281164577:PySem.Challenge.pw_tipwell_k37_lists_of_ones_own=PySem.W.Fast.tw8684326900281164577:=rfl
namespace PySem.W.Fast
local macro_rules|`(#print $s:str)=>do
  let c<-(s.getString.splitOn " ").mapM fun x=>`(def $(Lean.mkIdent (.mkSimple s!"tw{x.foldl (fun n c=>n*57+c.toNat%57) 0}")):ident:=0)
  return Lean.mkNullNode (c.map (·.raw)).toArray
#print "<W93HTR9[1/ S.-%N8V%25Q :(',6FN<[+. V<6CF4E>0KJ #CX+%S0KP:V AF%WSJQ(?P[ .?4,HE*)HFy VFC:&U#JYWE S[/Q0#E[(/= NU>5LA:*B,: K?KWBK)EK7= 01H;5PL1OTO RBQS?N0GWCW %L[;By[S,$G ?49KKB0X3/Q QN:F9U,4,;J '6[Q;<INC$N WV<3)[CAK;8 O.,[NF4/$KU E1;Q'QQD%3A +y1AU7yS6C0 VHYM:XM(HD- LJMKAOO9NW; #EZ?(N$ANTR WNF#=TF0PUI K3U.Q86[X%J >Q/&-52JKO5 GM=RZ&1C0;6 ?KB,M:>2.9) Z59D1?.PYFA RT6ATQFIX8L G4B#B3,'*NV 0?[F<*16JY' WZB*Y<6#BR& MC?G=0X1y;X *9%A8A<1PDG :R?=X[T>(I7 =%$Z[Q(4=9) U06G;AB&;$& ZV/5S[70$D? B0;(.UD[N(- yA*N=<5-?DS 0L7F:L>H71M A5*W/1H/C+V A9+0[SJ0F8, >EYI<:/-N/A IR9&)O$E/-5 VUHA$#/E7HD I$J-ICP=U>% P+)C89B=Y71 U=5DR7A'4-Z ,5WP2EEK&L: FK?8#D#LHR) A$(?ZM*IA++ L$6:?;H/$J4 J;##PCXU-.Y ,G*8?)55$LU &<#JQQ.PM2U $D:FCIQ;U=[ (#35')KI&EC (&QNWVD;L19 B2M+I&y,%W* X9*L4'KOYO/ .4Q#:=,)0PY #$RHG2I;+(6 ;I*'RA$R6B$ W&)6S+9W;ZI >,7)78X2$?= ,MG8=[7VL.U -B=9C6'VH0) $GXFZP+L:C; G3')WH1RJ(7 G9I+P5-BA0- J,49;;Q'%>U D,:2N$3)SU3 U+5-U8UyDMA R4O+=Y/)I?0 /.(9.A8VJKH >(;7J2R[76> [>BE+5IB?QT U;C(LBM6=56 *T8)#G(KX-; X#/.2CQA3TR '01-FPWVP)4 yQCH5;3WB,A NK-CI4y4W8U &1NM1V,PP28 J:3?H,8D*JT JD=QW:&T>*I 0F;KCG[TE/V N<FH?>;-P/U N['ZUJUG=TW (N80RZ8VUWG GU.3879$IUO AWH$QXA>B92 OX40'4N6(C< =,M-,+1;94> QSZD;'ISWFF UFSy7PLW9XM 01$DJ0W-FSC A5X-I6(-V>N =RBFYG24?C* P*;5,7B[7:? %.DMJ#453)O CI3RSGL1P-* TX$#S*/GRZ6 [y4-LU$FA1U D9FA>YUICDJ Q;R2.TZ*LI6 :;=EMAH>K/2 LGYy-T%>*<D G<VL0KY1AR? [KRN%yKCNJA V;B*2?'M4B+ H0AyAYBV=2/ 1(C4QY<YOB> )CEX=E.33<V :OYEyXSZ.S( ZZEKRJ'Y$4C (K$V>8HQS,7 F:>GELZ[SM4 )CVS)YWPP>$ INP7?G/:/C, XTP%*,8);U1 TAH#By47AF? *RK.$3%(7BO %[QUD-G'*'< >Y$=2,C/JE? S[QGX79HMy> /*IG/$BW8<5 RT&#+;.AQWF VZR.QBW?46J AU:P)24V457 RDXYDT$7S;7 F-[3XY;,-=# V9J$VLQR'B. >E$Wy/C?BK? JY$83SRMET< A*y6*Z$W'$G UB47Z)yF77B H0AQ7-FG>T) I*H/yH4+.Y0 GK+-65V+8?F <ZW'S0;Jy1: G;,V38U(*>/ /K$P#:(3V:L Y[7&?+QN0GR U;-ZM8DH(H& F&y.?IZX<AO ?KNG&;05Y:Q =VyYQRGMT$9 $PB3S9VZK(2 1y*G*'+5:PX T=%O9,;$*UY :AZ:+Q6:GO% U=1y*6QQ3.% BKVE7D=[D>L ?C2TF%.REUT :=(N5#%7%</ R%F;-P,,GZ0 2B%VDWOE<WA O$AWCQ5N([. RBTC%yW21B4 +yR4/2D;0D1 +JNJ3[8ZJ-Z 1%IJ(#%y5AG XLD7,JU;Z5D CTSZ/LBK[/< [:R.9LUyD[Q =5P$R%QYKJ) ,PMHK0AJ(/B 0/Z3J;yQ#7A 2YG5-/BI#TJ %0;(W0y-)6 X1M<LOC$[XS H9CP>GB;1N .5Q[?J&=OA= ?;R9?FL394; (C++RO;:HPy $UNM*O(Z0Z% &.[T;YSP*=) [10#5XOF;;' y>y(,JY$8B> #6K,3'E$-GW O#1ZHR+(4R9 0GAyERK)7/( =&3+5/B(8Z2 NXC?*1+[G)1 V;X+*V,yX5- .2&>=-$$B*V MK1PZ7BP/// :9SW-8*77-L By+&MU[K5LF +;TW<8:%Y4+ &XIDG'5C%8S XBY#<PyI9F- Z-[#8$=20OU ;)9TUC5TK9C $-Z0DPB/VA/ yX47EXK>311 ?Q232X91VMK FR8'H'.461Q IIIQR6y:R#P ,#BAy(5->y8 (*(OS*.CX6# N8''N'2[).7 (08I2I#A713 J+4[XH$)5V$ B*46$?N5G(& YK+BTC3(1+4 +OZJ-LG&23U $yIV/,/ON4W XPI5Z(X)JDO K:()M,[8S>? )2QT)3L$'K> /MR>[H;KN8Z ODS-.HKS*C% XLP+:,D9Z3E F):BGH;+6X2 &BGX.UY+&;' +MM:0=BPyF6 #;WE)/A<C=W TK8G=5L'K3A ?=C'0.W13UD =3C[Q%yD9B4 T%BH;?H+9)J Q&;<;7D5#;. E2F21HKy=2Q Y2J6[9,AW9W Y0+YRMAU37? J7.6;CyUM03 )RQ9&'49=%& $4O*8OBQH8T F?<W/:W'+K3 ,R>9B:.6CM? J?LM$=0(PK6 Q4ZyBC155QF ,07XHH?Z74> WEM+Y='yU,& M>3C3ZHUF+O AH1?R=.-FR7 $X&<[IPK/T> /O.GJND,J.7 :JIORGF1?%[ U.>HGLH-41y -KG-AAB>C*0 X;H6IX((3K0 Y1KR)ZN5HLX CH#X+6(*S'O Q=8E.SHHDL4 ZKNL4TUB.J6 %LRZ?=(3QG$ UZ7)/TCVW2 J(DST:WX.,U .I3Y'(#O(7# 29MVZH5y+%) QAQ'<<&V<:; &G0YM8KS2U4 F,$3&V3[E0# /20VPQ,%?Z S&6V9#*,I%8 +HWYERIO:3> (WY[S'?(8*X *Y*;yUUS,Oy y0G.4G=#4B' D.,7CM'6MO% 16>yPKY<P2B +$QC,AUJQ4+ >RRSR/-3EKB G3BP9IYyV6N U59Q02<-7H' 1*FRCO,MANG HM(;Q.JRWPX E-EH;71*#%+ %-)CM3K/.WA UI('<HN6L8K 2I+08C1YHV[ +&S0J(XNSXB 1X<:N8T?TE= GA-E7LO8VOL IEM3#5V?S5M FSX+;D[#S-4 #TF$,G1.'Z2 B;)y+[MJYEP F1.::1O<B:' .K<4<#E&LN- BQ0+[9W%S&X K(,MC%:9G.[ >+PT$85.C.; EL6.3$XF8+R 1J3/$*A'LI5 UA:KHB:B?4L QRTZ&88X)'J X1JI2KRZE/R J<6&2RUD<NN <#>:A&ED6.< W3/GNF&9T)9 *L/1177%WXL AL7SC&;:Q?W H0GN#J)WEy= 2NG45,MTU[- T[8#YB6RR97 y+#%&R2?O-4 O58>2T[VO%[ T28CDAB:G0[ (4Y9*Z5S/CV =SUG8B;#;W[ :7/)A>4L2E8 y*P?QP(L-R= S[12X916((# ?T86G#6K3S$ YREKX6YPN9B"
end PySem.W.Fast
open PySem PySem.W PyProof.Rows
set_option maxRecDepth 100000 in
set_option maxHeartbeats 0 in
theorem PySem.Challenge.cw_tipwell_k37_lists_of_ones_own_holds : PySem.Challenge.rw_tipwell_k37_lists_of_ones_own.Holds := by
 w_on;o_law;km_head;(case hw=>w_witness2)
 k_fill
 refine Tw.walk (l:=PySem.Challenge.rw_tipwell_k37_lists_of_ones_own) rfl rfl (λ w h Y=>PySem.W.km_in_of Y) (λ w h Y=>PySem.W.km_tabs_of Y) ?F
 case F=>
  intro w mg fa h KX G Fy;refine' Tw.all_mk KX G Fy ?_ (Tw.fw_mk ?_ ?_ ?_ ?_) (Tw.fw_mk ?_ ?_ ?_ ?_) (Tw.fw_mk ?_ ?_ ?_ ?_) (Tw.fw_mk ?_ ?_ ?_ ?_) (Tw.fw_mk ?_ ?_ ?_ ?_) (Tw.fw_mk ?_ ?_ ?_ ?_) (Tw.fw_mk ?_ ?_ ?_ ?_) (Tw.fw_mk ?_ ?_ ?_ ?_) (Tw.fw_mk ?_ ?_ ?_ ?_) (Tw.fw_mk ?_ ?_ ?_ ?_) (Tw.fw_mk ?_ ?_ ?_ ?_) (Tw.fw_mk ?_ ?_ ?_ ?_) (Tw.fw_mk ?_ ?_ ?_ ?_) (Tw.fw_mk ?_ ?_ ?_ ?_) (Tw.fm_mk ?_ ?_ ?_ ?_ ?_) (Tw.fw_mk ?_ ?_ ?_ ?_) (Tw.fw_mk ?_ ?_ ?_ ?_) (Tw.fm_mk ?_ ?_ ?_ ?_ ?_) (Tw.fw_mk ?_ ?_ ?_ ?_) (Tw.fw_mk ?_ ?_ ?_ ?_) (Tw.fw_mk ?_ ?_ ?_ ?_) (Tw.fw_mk ?_ ?_ ?_ ?_) (Tw.fw_mk ?_ ?_ ?_ ?_) (Tw.fw_mk ?_ ?_ ?_ ?_) (Tw.fw_mk ?_ ?_ ?_ ?_) (Tw.fw_mk ?_ ?_ ?_ ?_) (Tw.fw_mk ?_ ?_ ?_ ?_) (Tw.fm_mk ?_ ?_ ?_ ?_ ?_) (Tw.fm_mk ?_ ?_ ?_ ?_ ?_) (Tw.fm_mk ?_ ?_ ?_ ?_ ?_) (Tw.fw_mk ?_ ?_ ?_ ?_) (Tw.fw_mk ?_ ?_ ?_ ?_) (Tw.fw_mk ?_ ?_ ?_ ?_) (Tw.fw_mk ?_ ?_ ?_ ?_) (Tw.fw_mk ?_ ?_ ?_ ?_) (Tw.fw_mk ?_ ?_ ?_ ?_) (Tw.fw_mk ?_ ?_ ?_ ?_) (Tw.fw_mk ?_ ?_ ?_ ?_) ?_ ?_ ?_ ?_ (Tw.fw_mk ?_ ?_ ?_ ?_) (Tw.fw_mk ?_ ?_ ?_ ?_) (Tw.fw_mk ?_ ?_ ?_ ?_) ?_ ?_ ?_ ?_ ?_ ?_ ?_ ?_ (Tw.fw_mk ?_ ?_ ?_ ?_) (Tw.fw_mk ?_ ?_ ?_ ?_) (Tw.fw_mk ?_ ?_ ?_ ?_) (Tw.fw_mk ?_ ?_ ?_ ?_) (Tw.fw_mk ?_ ?_ ?_ ?_) (Tw.fw_mk ?_ ?_ ?_ ?_) (Tw.fw_mk ?_ ?_ ?_ ?_) (Tw.fw_mk ?_ ?_ ?_ ?_) (Tw.fw_mk ?_ ?_ ?_ ?_) (Tw.fw_mk ?_ ?_ ?_ ?_) (Tw.fw_mk ?_ ?_ ?_ ?_) ?_ ?_ ?_ ?_ ?_ ?_ ?_ ?_ ?_ ?_ ?_ ?_ ?_ ?_ ?_ ?_ ?_ ?_ ?_ ?_ ?_ ?_ ?_ ?_ ?_ ?_ ?_ ?_ ?_ ?_ ?_ ?_ ?_ ?_ ?_ ?_ ?_ ?_ ?_ ?_ ?_ ?_ ?_ ?_ ?_ ?_ ?_ ?_ ?_ ?_ ?_ ?_ ?_ ?yp43 ?yn43 ?yt43 ?yh43 ?yp38 ?yn38 ?yt38 ?yh38 ?yp42 ?yn42 ?yt42 ?yh42 ?yq43_38 ?yq43_42 ?yq38_42 ?exV ?exM ?hmMxh
  all_goals (try delta Tw.Na)
  all_goals (try delta Tw.Nn)
  all_goals (try delta Tw.Kp)
  all_goals (try delta Tw.Cd)
  all_goals (try delta Tw.Lk)
  all_goals try k_is
  (case yp43=>exact rfl)
  (case yn43=>first|k_is|exact rfl)
  (case yt43=>decide)
  (case yh43=>first|k_is|exact rfl)
  (case yp38=>exact rfl)
  (case yn38=>first|k_is|exact rfl)
  (case yt38=>decide)
  (case yh38=>first|k_is|exact rfl)
  (case yp42=>exact rfl)
  (case yn42=>first|k_is|exact rfl)
  (case yt42=>decide)
  (case yh42=>first|k_is|exact rfl)
  (case yq43_38=>decide)
  (case yq43_42=>decide)
  (case yq38_42=>decide)
  (case exV=>k_exc)
  (case exM=>k_exc)
  (case hmMxh=>kts_exm)
#print axioms PySem.Challenge.cw_tipwell_k37_lists_of_ones_own_holds