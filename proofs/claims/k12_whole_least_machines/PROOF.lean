import PyProof.Rows.All
import Wide.All
import OpenK.AllK
import Wide.FinOn
import Lean
import PyProof.EqAt
import PyProof.EqKinds
import PyProof.TupleCall
import PyProof.FactsAll.NoneType
import PyProof.ZipIter
import PyProof.EnumMake
import KE.KUnpack
import KE.KTryMore
import PyProof.NsDelKeeps
import PyProof.TupleKey
import PyProof.FactsAll.bool_1
import PyProof.DictDisplay
import KE.KLam
import KE.KNestM
import PyProof.DictTruth
import PyProof.NeKinds
import PyProof.ListRange
import PyProof.FactsAll.tuple_0
import PyProof.FactsAll.tuple_2
import PyProof.Rows.SetFrom
import PyProof.CollectWalk
import PyProof.Rows.SortWalk
import PyProof.DictWalks
import KE.RegKIsAll
import KE.RegKTryMore
import PySem.Challenge.RW_tipwell_k12_whole_least_machines
set_option Elab.async false
set_option linter.all false
set_option tactic.hygienic false
set_option compiler.extract_closed false
set_option maxRecDepth 100000
noncomputable section
open PySem renaming wpAny_bind->Æ,wpAny_pure->É,wpAny_mono->á,mem_of_lookup->ÿ,wpAny_holding->ð,wpAny_field->î,wpAny_rule->õ,wpAny_setField_rec->Ă,wpAny_call_entry->ă,wpAny_newObj_type->Đ,wpAny_seqItems->Ą,wpAny_callSpecial?_slot->Ĭ,sizeLine_eq->Ď,wpAny_callSpecialIfBoundUnlessNone?_slot->ads,wpAny_onRaise->Ĝ,wpAny_typeNameOfWhole_keyiter->ź,wpAny_truthy_bool->Ń,wpAny_specialOf->ľ,wpAny_passesOwn->Ŋ,wpAny_comprehension_free->ž,wpAny_typeNameOf_keyiter->aem,wpAny_standAt->ŀ,wpAny_letGo->Ħ,wpAny_Call_Name_kw->Ū,call_meets->ħ,wpAny_attempt->Ō,wpAny_dictEntries->ů,wpAny_binaryOp_repeat_ref->afa,wpAny_newTuple->ŗ,wpAny_isInstance->ű,typeIs_int->İ,wpAny_pyIter_tuple->afk,atKey_none_of_get->af5,wpAny_typeOf->Ś,wpAny_newFunctionEnv->agd,wpAny_execs_nil->agk,pushCells_keeps->agp,codeAny_mono->ŵ,wpAny_setField->agx,wpAny_bindName->agy,wpAny_assign_Name->agz,wpAny_pyIter_list->ag0,wpAny_pyIter_slot->ag3,beq_builtin_none->ahg,wpAny_eqBool_int->ahh,noFill_tuple_add->ahi,wpAny_call->Ŷ
open List renaming length_map->Ê,getElem?_eq_some_iff->Ò,getElem?_map->Ð,getElem?_eq_getElem->ä,map_append->Ó,mem_of_getElem?->Ú,length_take->Ø,length_append->à,take_length->Ù,mem_singleton->é,mem_map->Õ,size_toArray->ê,mem_cons->Ý,length_cons->ë,map_cons->ã,mem_cons_of_mem->ô,mem_append_right->ü,getD_eq_getElem?_getD->Ē,mem_append->ñ,append_assoc->ý,getElem?_append_left->ě,mem_cons_self->ą,length_singleton->ē,length_range->Ć,all_eq_true->Č,mem_map_of_mem->ę,take_of_length_le->Ġ,mem_range->ć,map_map->ú,map_nil->û,mem_iff_getElem?->ĩ,mem_append_left->Ī,length_replicate->Ĳ,nodup_cons->ġ,append_nil->Ģ,getElem?_append_right->ŝ,getElem_mem->ĳ,foldl_cons->Ĵ,getElem?_eq_none->ş,take_succ->ĵ,getElem?_set_self->adb,not_mem_nil->ŷ,getElem?_set_ne->ade,range_succ->Ÿ,lookup_cons->č,getElem?_zip_eq_some->ķ,getElem?_range->ģ,replicate_succ->ĭ,mem_of_mem_take->Ĺ,forIn_cons->Ĥ,nodup_append->ļ,forIn_nil->ĥ,extract_eq_take_drop->Ţ,cons_append->Ľ,length_drop->Ņ,map_inj_right->Œ,of_mem_zip->ŋ,getElem?_take_of_lt->Ž,flatten_cons->œ,take_add_one->Ŕ,filterMap_cons->ŧ,take_succ_cons->Ũ,map_singleton->ū,find?_cons->Ŗ,take_append_drop->ae0,foldl_append->ŭ,take_zero->Ř,zipIdx_cons->Ű,find?_cons_of_pos->af0,find?_cons_of_neg->af1,range_succ_eq_map->af2,eq_nil_of_length_eq_zero->aga,any_cons->Ŵ,nil_append->agl,zipIdx_nil->agm,map_congr_left->ago,filter_append->agw,filterMap_cons_some->ag6,eq_of_mem_replicate->ag8,all_cons->ag9,getElem?_cons_succ->ahe,map_take->ahf,drop_eq_nil_of_le->ahn,map_set->aho,nodup_nil->ahs,drop_zero->aht,set_comm->ahu
open PySem.Heap renaming get?_push_of_some->Í,get?_push_size->ß,lt_size->Ñ,size_push->ø,get?_update_self->ł,get?_update_other->Ş
open Bool renaming false_ne_true->Û,false_eq_true->ĉ,eq_iff_iff->Ŀ,and_eq_true->ņ,false_or->ř,not_true->ahc
open Nat renaming le_refl->Î,lt_of_lt_of_le->í,ne_of_lt->Þ,zero_le->æ,lt_irrefl->ā,le_trans->Ĉ,not_lt_zero->ī,le_of_lt->Ķ,lt_succ_of_lt->Ļ,le_add_right->Ň,zero_add->Į,lt_or_ge->ō,min_eq_left->ų,le_of_eq->ś,min_eq_right->agc,lt_of_le_of_lt->agu,add_assoc->ahd,add_zero->ahp,sub_self->ahq
open Option.some renaming inj->â
open Option renaming map_eq_some_iff->ó,isSome_map->Ŭ,map_some->Ų,isSome_some->agt
open PySem.W renaming mg_of->Ü,mg_none_of->Ā,kia_one->Ė,hideAll_get->aff,cellsFrom_some->afw,looks_findIn->age
open PySem.F renaming plainAttrs_list->ù,slot_list_append->Ċ,type_list_append->ċ,slot_dict_keyiterator_next->Ż,slot_tuple_iterator_next->ż,slot_int_rmul->ŕ,args_tuple_add_2->afg,entry_tuple_add->afl,slot_list_index->afs,type_list_index->aft,slot_tuple_add->afx,slot_dict_get->af7,args_dict_keyiterator_next_1->af9,entry_dict_keyiterator_next->agb,args_tuple_iterator_next_1->agg,slot_dict_setdefault->agh,args_tuple_mul_2->agv,args_int_rmul_2->ag2,entry_tuple_mul->ag4,args_dict_get_3->aha,plainAttrs_dict->ahb,entry_int_rmul->ahj,slot_tuple_mul->ahk,entry_dict_get->ahm
open Array renaming length_toList->Ĕ,getElem?_eq_getElem->ı,getElem?_toList->adc,toList_append->Ě,size_setIfInBounds->ţ,forIn_toList->ő,toList_extract->Ŧ,getElem?_setIfInBounds->aew,toList_push->Ů,toList_reverse->ae9,size_extract->afv,getElem?_eq_none->af3,eraseIdxIfInBounds_eq->agq,toList_map->ahl
open Int renaming toNat_natCast->Š,le_refl->Ğ,zero_add->į,eq_ofNat_of_zero_le->afq,emod_lt_of_pos->afr,emod_nonneg->agn,fdiv_eq_ediv_of_nonneg->agr
open PySem.Paired renaming length->å
open PySem.PassesOwn renaming never->ï
open PySem.Heap.SameBut renaming update->ĺ,refl->af4
open PyProof.Rows renaming callWith_type1->š,slot_tuple_getitem->Ź,wpS_forRange->ĝ,boot_sum->Ť,boot_max->ť,boot_min->aez,assignInOrder_cons->afj,subscriptTail_builtinR->afy,wpS_modify->ŏ,boot_sorted->ag7
open PySem.SeqAt.EqAt renaming same->ň,bool_bool->ae7,int_int->afm
open PySem.Calls renaming spliced_cons->ũ,evalArgs_plain->ae8,callWith_builtin->afz,spliced_nil->ag1
open PySem.Obj renaming data_mapFields->afp
theorem ĸ {G:Prop}(k:∀ F:Prop,(G->F)->F):G:=k G id
abbrev À:=PySem.Value
abbrev Á:=PySem.Addr
abbrev Â:=PySem.Shared
abbrev Ã:=PySem.Program
def Ä:=@if_neg
def Å:=@if_pos
abbrev Ç:=PySem.W.Frag
def ò:=@decide_eq_true
def þ:=@decide_eq_false
def ĕ:=@of_decide_eq_true
variable {P:PySem.Program}{w:PySem.World}{K:Ç}{mg:PySem.Str->Option PySem.Value}{base:PySem.Heap}{C c_TipError c_NoNet c_NoVessel c_TooLong c_TooMany c_TooMuch c_Nothing c_NoText c_NoRow:PySem.Addr}
def ń:=@bne_self_eq_false
def Ŏ:=@beq_iff_eq
def ag5:=@decide_eq_true_eq
namespace L2
open PySem PySem.Spec PyProof.Rows
theorem aK {T0:Sort _}{B:Sort _}{l r:T0->B}{p:T0->Prop} (a:T0) (qq:l a=r a) (hh:p a):∃ x0,l x0=r x0/\p x0:=⟨a,qq,hh⟩
theorem aX {T0 T1:Sort _}{B:Sort _}{l r:T0->T1->B}{p:T0->T1->Prop} (a:T0) (b:T1) (qq:l a b=r a b) (hh:p a b):∃ x0 x1,l x0 x1=r x0 x1/\p x0 x1:=⟨a,b,qq,hh⟩
theorem uS {T0 T1 T2:Sort _}{B:Sort _}{l r:T0->T1->T2->B}{p:T0->T1->T2->Prop} (a:T0) (b:T1) (c:T2) (qq:l a b c=r a b c) (hh:p a b c):∃ x0 x1 x2,l x0 x1 x2=r x0 x1 x2/\p x0 x1 x2:=⟨a,b,c,qq,hh⟩
theorem iF {T0 T1 T2 T3:Sort _}{B:Sort _}{l r:T0->T1->T2->T3->B}{p:T0->T1->T2->T3->Prop} (a:T0) (b:T1) (c:T2) (d:T3) (qq:l a b c d=r a b c d) (hh:p a b c d):∃ x0 x1 x2 x3,l x0 x1 x2 x3=r x0 x1 x2 x3/\p x0 x1 x2 x3:=⟨a,b,c,d,qq,hh⟩
theorem J4 {T0 T1 T2 T3 T4:Sort _}{B:Sort _}{l r:T0->T1->T2->T3->T4->B}{p:T0->T1->T2->T3->T4->Prop} (a:T0) (b:T1) (c:T2) (d:T3) (e:T4) (qq:l a b c d e=r a b c d e) (hh:p a b c d e):∃ x0 x1 x2 x3 x4,l x0 x1 x2 x3 x4=r x0 x1 x2 x3 x4/\p x0 x1 x2 x3 x4:=⟨a,b,c,d,e,qq,hh⟩
theorem eA6 {T0 T1 T2 T3 T4 T5:Sort _}{B:Sort _}{l r:T0->T1->T2->T3->T4->T5->B}{p:T0->T1->T2->T3->T4->T5->Prop} (a:T0) (b:T1) (c:T2) (d:T3) (e:T4) (f:T5) (qq:l a b c d e f=r a b c d e f) (hh:p a b c d e f):∃ x0 x1 x2 x3 x4 x5,l x0 x1 x2 x3 x4 x5=r x0 x1 x2 x3 x4 x5/\p x0 x1 x2 x3 x4 x5:=⟨a,b,c,d,e,f,qq,hh⟩
theorem eA7 {T0 T1 T2 T3 T4 T5 T6:Sort _}{B:Sort _}{l r:T0->T1->T2->T3->T4->T5->T6->B}{p:T0->T1->T2->T3->T4->T5->T6->Prop} (a:T0) (b:T1) (c:T2) (d:T3) (e:T4) (f:T5) (g:T6) (qq:l a b c d e f g=r a b c d e f g) (hh:p a b c d e f g):∃ x0 x1 x2 x3 x4 x5 x6,l x0 x1 x2 x3 x4 x5 x6=r x0 x1 x2 x3 x4 x5 x6/\p x0 x1 x2 x3 x4 x5 x6:=⟨a,b,c,d,e,f,g,qq,hh⟩
theorem eA8 {T0 T1 T2 T3 T4 T5 T6 T7:Sort _}{B:Sort _}{l r:T0->T1->T2->T3->T4->T5->T6->T7->B}{p:T0->T1->T2->T3->T4->T5->T6->T7->Prop} (a:T0) (b:T1) (c:T2) (d:T3) (e:T4) (f:T5) (g:T6) (h:T7) (qq:l a b c d e f g h=r a b c d e f g h) (hh:p a b c d e f g h):∃ x0 x1 x2 x3 x4 x5 x6 x7,l x0 x1 x2 x3 x4 x5 x6 x7=r x0 x1 x2 x3 x4 x5 x6 x7/\p x0 x1 x2 x3 x4 x5 x6 x7:=⟨a,b,c,d,e,f,g,h,qq,hh⟩
abbrev gB:=Sum Int (Option Str)
def HJ:À->Bool
 | .none=>true
 | _=>false
theorem yP {v:À} (h:HJ v=true):v=Value.none:=by
 cases v <;> simp_all [HJ]
def uM:gB->À->Bool
 | .inl k,v=>Value.isInt k v
 | .inr (some x),v=>Value.isStrOf x v
 | .inr none,v=>HJ v
def oM:Int:=0xFCA86420
def keyH (w:World):gB->Int
 | .inl k=>hashInt k
 | .inr (some x)=>hashStr w x
 | .inr none=>oM
theorem cS:∀ {k:gB}{v:À},uM k v=true->(∃ i t,k=Sum.inl i/\v=Value.int i t)\/(∃ x t,k=Sum.inr (some x)/\v=Value.str x t)\/(k=Sum.inr none/\v=Value.none)
 | .inl i,v,h=>by
  obtain⟨t,e⟩:=Value.isInt_shape (k:=i) (v:=v) h;exact .inl ⟨i,t,rfl,e⟩
 | .inr (some x),v,h=>by
  obtain⟨t,e⟩:=Value.isStrOf_shape (x:=x) (v:=v) h;exact .inr (.inl ⟨x,t,rfl,e⟩)
 | .inr none,v,h=>.inr (.inr ⟨rfl,yP h⟩)
theorem DU (i:Int) (t:Tok):uM (.inl i) (.int i t)=true:=by simp [uM,Value.isInt]
theorem DT (x:Str) (t:Tok):uM (.inr (some x)) (.str x t)=true:=by simp [uM,Value.isStrOf]
theorem NL (a b:Int):decide ((Sum.inl a:gB)=Sum.inl b)=(a == b):=by
 by_cases e:a=b
 ·subst e;simp
 ·have h:¬ (Sum.inl a:gB)=Sum.inl b:=λ q=>e (Sum.inl.inj q);rw[þ h];exact (beq_eq_false_iff_ne.mpr e).symm
theorem NJ (a b:Str):decide ((Sum.inr (some a):gB)=Sum.inr (some b))=decide (a=b):=by
 by_cases e:a=b
 ·subst e;simp
 ·have h:¬ (Sum.inr (some a):gB)=Sum.inr (some b):=λ q=>e (â (Sum.inr.inj q));rw[þ h,þ e]
theorem GZ (i:Int) (o:Option Str):decide ((Sum.inl i:gB)=Sum.inr o)=false:=þ (λ q=>nomatch q)
theorem HA (i:Int) (o:Option Str):decide ((Sum.inr o:gB)=Sum.inl i)=false:=þ (λ q=>nomatch q)
theorem NI (x:Str):decide ((Sum.inr (some x):gB)=Sum.inr none)=false:=þ (λ q=>nomatch (Sum.inr.inj q))
theorem NK (x:Str):decide ((Sum.inr none:gB)=Sum.inr (some x))=false:=þ (λ q=>nomatch (Sum.inr.inj q))
theorem HP {prog:Ã}{w:World}{A:Around}{E:À->Â->Prop}{s:Â}{Q:Int->Â->Prop} (h:Q oM { s with toks:=s.toks+1 }) :
  wpAny (model prog w) A (pyHash .none) Q E s:=by
 have hT:s.TypeIs .none "NoneType" := rfl;unfold pyHash;have hv:[Value.none].any Value.onHeap=false:=rfl;refine Æ ?_;rw[cRoomFor,Ä (by rw[hv];exact Û)];refine É ?_;refine Æ (ľ hT F.slot_NoneType_hash.lookup ?_);show wpAny _ _ (if (some (Value.builtin "NoneType.__hash__") == some Value.none)=true then _ else _) Q E s;rw[Ä (by rw[ahg];exact Û)];refine Æ (ľ hT F.slot_NoneType_hash.lookup ?_);show wpAny _ _ (callSpecialIfBoundUnlessNone? .none "__hash__" _ >>= _) Q E s;refine Æ (ads hT F.slot_NoneType_hash
  (ă F.slot_NoneType_hash hT F.entry_NoneType_hash
   (show wpAny _ _ (do ret (<- mkInt oM)) _ _ s from wpAny_ret_mkInt ?_) (F.args_NoneType_hash_1 _)))
 show wpAny _ _ (if (decide (-(2:Int) ^ 63<=oM) && decide (oM < 2 ^ 63))=true then _ else _) Q E _;rw[Å (by decide)];exact É h
def eK (prog:Ã) (w:World):PySem.KeyKind prog w gB where
 is:=uM
 hash:=keyH w
 inj:=λ v a b ha hb=>by
  rcases cS ha with ⟨i,t,rfl,rfl⟩ | ⟨x,t,rfl,rfl⟩ | ⟨rfl,rfl⟩
  ·rcases cS hb with ⟨j,u,rfl,e⟩ | ⟨y,u,rfl,e⟩ | ⟨rfl,e⟩
   ·injection e with e1 _;rw[e1]
   ·exact nomatch e
   ·exact nomatch e
  ·rcases cS hb with ⟨j,u,rfl,e⟩ | ⟨y,u,rfl,e⟩ | ⟨rfl,e⟩
   ·exact nomatch e
   ·injection e with e1 _;rw[e1]
   ·exact nomatch e
  ·rcases cS hb with ⟨j,u,rfl,e⟩ | ⟨y,u,rfl,e⟩ | ⟨rfl,e⟩
   ·exact nomatch e
   ·exact nomatch e
   ·rfl
 byValue:=λ k v h=>by
  rcases cS h with ⟨i,t,rfl,rfl⟩ | ⟨x,t,rfl,rfl⟩ | ⟨rfl,rfl⟩ <;> rfl
 pyHash:=λ hv h=>by
  rcases cS hv with ⟨i,t,rfl,rfl⟩ | ⟨x,t,rfl,rfl⟩ | ⟨rfl,rfl⟩
  ·exact wpAny_pyHash_int h
  ·exact wpAny_pyHash_str h
  ·exact HP h
 eqBool:=λ hu hv h=>by
  rcases cS hu with ⟨i,t,rfl,rfl⟩ | ⟨x,t,rfl,rfl⟩ | ⟨rfl,rfl⟩
  ·rcases cS hv with ⟨j,u,rfl,rfl⟩ | ⟨y,u,rfl,rfl⟩ | ⟨rfl,rfl⟩
   ·rw[NL] at h;exact ahh h
   ·rw[GZ] at h;exact SeqAt.EqAt.int_str i t y u _ _ _ _ h
   ·rw[GZ] at h;exact SeqAt.EqAt.int_none i t _ _ _ _ h
  ·rcases cS hv with ⟨j,u,rfl,rfl⟩ | ⟨y,u,rfl,rfl⟩ | ⟨rfl,rfl⟩
   ·rw[HA] at h;exact SeqAt.EqAt.str_int x t j u _ _ _ _ h
   ·rw[NJ] at h;exact wpAny_eqBool_str h
   ·rw[NI] at h;exact SeqAt.EqAt.str_none x t _ _ _ _ h
  ·rcases cS hv with ⟨j,u,rfl,rfl⟩ | ⟨y,u,rfl,rfl⟩ | ⟨rfl,rfl⟩
   ·rw[HA] at h;exact SeqAt.EqAt.none_int j u _ _ _ _ h
   ·rw[NK] at h;exact SeqAt.EqAt.none_str y u _ _ _ _ h
   ·rw[ò rfl] at h;exact ň Value.none _ _ _ _ h
 «strs»:=λ k x t v h=>by
  rcases cS h with ⟨i,u,rfl,e⟩ | ⟨y,u,rfl,e⟩ | ⟨rfl,e⟩
  ·exact nomatch e
  ·injection e with e1 _;subst e1;cases v <;> rfl
  ·exact nomatch e
theorem yJ (prog:Ã) (w:World) (i:Int) (t:Tok):(eK prog w).is (.inl i) (.int i t)=true:=DU i t
theorem yI (prog:Ã) (w:World) (x:Str) (t:Tok):(eK prog w).is (.inr (some x)) (.str x t)=true:=DT x t
inductive V where
 | non | bl (b:Bool) | int (i:Int) | str (x:Str) | byt (b:Array UInt8) | flt (b:UInt64) | ref (a:Á) | ty (n:String)
 deriving DecidableEq
def bE:V->À->Prop
 | .non,u=>u=Value.none
 | .bl b,u=>u=Value.bool b
 | .int i,u=>∃ t,u=Value.int i t
 | .str x,u=>∃ t,u=Value.str x t
 | .byt b,u=>∃ t,u=Value.bytes b t
 | .flt b,u=>∃ t,u=Value.float b t
 | .ref a,u=>u=Value.ref a
 | .ty n,u=>u=Value.type n
abbrev bO:List V->List À->Prop:=Paired bE
theorem bO.length {xs:List V}{us:List À} (r:bO xs us):xs.length=us.length:=å r
theorem bO.get:∀ {xs:List V}{us:List À}{i:Nat}{x:V},bO xs us->xs[i]? = some x->∃ u,us[i]? = some u/\bE x u
 | _,_,_,_,.nil,e=>by simp at e
 | _,_,0,_,.cons r _,e=>by simp at e;subst e;exact⟨_,rfl,r⟩
 | _,_,i+1,x,.cons _ t,e=>by
  obtain⟨u,h1,h2⟩:=bO.get (i:=i) (x:=x) t (by simpa using e);exact⟨u,by simpa using h1,h2⟩
theorem bO.set {x:V}{u:À} (r:bE x u):∀ {xs:List V}{us:List À} (i:Nat),bO xs us->bO (xs.set i x) (us.set i u)
 | _,_,_,.nil=>.nil
 | _,_,0,.cons _ t=>.cons r t
 | _,_,i+1,.cons q t=>.cons q (bO.set r i t)
theorem bO.append:∀ {xs ys:List V}{us ws:List À},bO xs us->bO ys ws->bO (xs++ys) (us++ws)
 | _,_,_,_,.nil,s=>s
 | _,_,_,_,.cons r t,s=>.cons r (bO.append t s)
theorem bO.take:∀ {xs:List V}{us:List À} (n:Nat),bO xs us->bO (xs.take n) (us.take n)
 | _,_,0,_=>.nil
 | _,_,_+1,.nil=>.nil
 | _,_,n+1,.cons r t=>.cons r (bO.take n t)
theorem bO.drop:∀ {xs:List V}{us:List À} (n:Nat),bO xs us->bO (xs.drop n) (us.drop n)
 | _,_,0,r=>r
 | _,_,_+1,.nil=>.nil
 | _,_,n+1,.cons _ t=>bO.drop n t
def pS:Option V->Option À->Prop
 | some v,some u=>bE v u
 | none,none=>True
 | _,_=>False
def KV {ba:Type}:List (ba×V)->List (ba×À)->Prop:=Paired λ (p:ba×V) (q:ba×À)=>p.1=q.1/\bE p.2 q.2
def kV:gB->V
 | .inl i=>.int i
 | .inr (some x)=>.str x
 | .inr none=>.non
inductive HO where
 | lst (xs:List V)
 | tup (xs:List V)
 | dK (gu:List (gB×V)) | dT (gu:List (List gB×V))
 | set (S:Int->Bool) (n:Nat)
 | ins (C dx:Á) (fs:List (Str×V))
 | own (x:Á)
 | xd (fs:List (Str×V))
 | met (f x:Á)
 | rng (lo hi:Int)
 | frz (o:Obj) (u:HO)
 | tbl (ps:Array À)
 | ext (fo:Heap->Prop)
abbrev Hp:=Á->Option HO
def upd (H:Hp) (a:Á) (o:HO):Hp:=λ b=>if b=a then some o else H b
theorem aB {H:Hp}{a:Á}{o:HO}:upd H a o a=some o:=by unfold upd;rw[Å rfl]
theorem aJ {H:Hp}{a b:Á}{o:HO} (h:b≠a):upd H a o b=H b:=by unfold upd;rw[Ä h]
theorem M0 {H:Hp}{a b:Á}{o u:HO} (h:H a=some o) (h':H b=some u) (d:o≠u):a≠b:=by
 intro e;subst e;rw[h] at h';exact d (â h')
theorem aH {H:Hp}{a b:Á}{o:HO} (h:H a=some o) (h':H b=none):a≠b:=by
 intro e;subst e;rw[h] at h';cases h'
section
variable (P:Ã)(w:World)
def cG (H:Hp) (h:Heap) (a:Á):HO->Prop
 | .lst xs=>xs.length<=sizeLine/\∃ (its:List À) (n:Nat),bO xs its/\h.get? a=some { cls:=.type "list",data:=.seq its.toArray n }
 | .tup xs=>xs.length<=sizeLine/\∃ its:List À,bO xs its/\IsTup h a its.toArray
 | .dK gu=>gu.length<=sizeLine/\(a == sysModules)=false/\∃ vs,KV gu vs/\h.DictOf (eK P w) a vs
 | .dT gu=>gu.length<=sizeLine/\(a == sysModules)=false/\∃ xs:List (List gB×Á×À),
   Paired (λ (p:List gB×V) (q:List gB×Á×À)=>p.1=q.1/\H q.2.1=some (.tup (p.1.map kV))/\bE p.2 q.2.2) gu xs/\
   ∃ o es ep,h.get? a=some o/\o.ExactDict/\o.data=.dict es ep/\es.toList=xs.map (entryOfKey (tupleKind (eK P w)))/\(xs.map (·.1)).Nodup
 | .set S n=>h.SetOf (intKind P w) a S n
 | .ins C dx fs=>H dx=some (.own a)/\fs.length<=1000/\dx≠a/\h.get? a=some (PySem.W.instObj C dx)/\
   ∃ mA,h.Ns1 dx mA/\(∀ f,pS (fs.lookup f) (mA f))/\PySem.Within mA (fs.map (·.1))
 | .own _=>∃ o,h.get? a=some o
 | .xd fs=>∃ mA,h.Ns1 a mA/\∀ f,pS (fs.lookup f) (mA f)
 | .rng lo hi=>∃ t u v,h.get? a=some { cls:=.type "range",data:=.fields #[.int lo t,.int hi u,.int 1 v] }
 | .frz o u=>h.get? a=some o/\cG H h a u
 | .tbl ps=>h.get? a=some { cls:=.none,data:=.fields ps }
 | .met f x=>h.get? a=some (PySem.W.methodObj (.ref f) (.ref x))
 | .ext fo=>fo h/\(∃ o,h.get? a=some o)/\∀ h1 h2:Heap,fo h1->(∀ o,h1.get? a=some o->h2.get? a=some o)->fo h2
def mV (H:Hp) (h:Heap):Prop:=∀ a o,H a=some o->cG P w H h a o
end
section
variable {H H':Hp}{h h':Heap}{a:Á}{o:HO}
theorem cG.lt (x:cG P w H h a o):a < h.objs.size:=by
 cases o with
 | lst xs=>obtain⟨_,_,_,_,e⟩:=x;exact Ñ e
 | tup xs=>obtain⟨_,_,_,p⟩:=x;exact p.lt
 | dK gu=>obtain⟨_,_,_,_,o,_,_,e,_⟩:=x;exact Ñ e
 | dT gu=>obtain⟨_,_,_,_,o,_,_,e,_⟩:=x;exact Ñ e
 | set S n=>obtain⟨o,_,_,_,e,_⟩:=x;exact Ñ e
 | ins C dx fs=>obtain⟨_,_,_,e,_⟩:=x;exact Ñ e
 | own y=>obtain⟨_,e⟩:=x;exact Ñ e
 | xd fs=>obtain⟨_,⟨_,_,_,e,_⟩,_⟩:=x;exact Ñ e
 | rng lo hi=>obtain⟨_,_,_,e⟩:=x;exact Ñ e
 | frz ob u=>obtain⟨e,_⟩:=x;exact Ñ e
 | tbl ps=>exact Ñ (show h.get? a=some _ from x)
 | met f y=>exact Ñ (show h.get? a=some _ from x)
 | ext fo=>obtain⟨_,⟨_,e⟩,_⟩:=x;exact Ñ e
theorem Paired.mapP {α bj:Type}{F G:α->bj->Prop}:∀ {bv:List α}{bx:List bj},Paired F bv bx->(∀ a b,F a b->G a b)->Paired G bv bx
 | _,_,.nil,_=>.nil
 | _,_,.cons r t,f=>.cons (f _ _ r) (Paired.mapP t f)
def ì:=@Paired.mapP
theorem cG.stay (x:cG P w H h a o) (k:∀ b u,(b=a\/H b=some (.own a))->h.get? b=some u->h'.get? b=some u)
  (ho:∀ b,H b=some (.own a)->H' b=some (.own a)) (ht:∀ b xs,H b=some (.tup xs)->H' b=some (.tup xs)):cG P w H' h' a o:=by
 induction o with
 | lst xs=>obtain⟨z,its,n,r,e⟩:=x;exact⟨z,its,n,r,k _ _ (.inl rfl) e⟩
 | tup xs=>obtain⟨z,its,r,ob,e,c⟩:=x;exact⟨z,its,r,ob,k _ _ (.inl rfl) e,c⟩
 | dK gu=>obtain⟨z,y,vs,r,ob,es,ep,e,c⟩:=x;exact⟨z,y,vs,r,ob,es,ep,k _ _ (.inl rfl) e,c⟩
 | dT gu=>
  obtain⟨z,y,xs,r,ob,es,ep,e,c⟩:=x;exact⟨z,y,xs,ì r λ p q z=>⟨z.1,ht _ _ z.2.1,z.2.2⟩,ob,es,ep,k _ _ (.inl rfl) e,c⟩
 | set S n=>obtain⟨ob,es,ep,t,e,c⟩:=x;exact⟨ob,es,ep,t,k _ _ (.inl rfl) e,c⟩
 | ins C dx fs=>
  obtain⟨d,z,ne,e,mA,⟨od,es,ep,e2,c⟩,r⟩:=x;exact⟨ho _ d,z,ne,k _ _ (.inl rfl) e,mA,⟨od,es,ep,k _ _ (.inr d) e2,c⟩,r⟩
 | own y=>obtain⟨ob,e⟩:=x;exact⟨ob,k _ _ (.inl rfl) e⟩
 | xd fs=>obtain⟨mA,⟨od,es,ep,e,c⟩,r⟩:=x;exact⟨mA,⟨od,es,ep,k _ _ (.inl rfl) e,c⟩,r⟩
 | rng lo hi=>obtain⟨t,u,v,e⟩:=x;exact⟨t,u,v,k _ _ (.inl rfl) e⟩
 | frz ob u ih=>obtain⟨e,q⟩:=x;exact⟨k _ _ (.inl rfl) e,ih q⟩
 | tbl ps=>
  have e:h.get? a=some { cls:=.none,data:=.fields ps }:=x;show h'.get? a=some { cls:=.none,data:=.fields ps };exact k a _ (.inl rfl) e
 | met f y=>
  have e:h.get? a=some (PySem.W.methodObj (.ref f) (.ref y)):=x;show h'.get? a=some (PySem.W.methodObj (.ref f) (.ref y));exact k a _ (.inl rfl) e
 | ext fo=>obtain⟨p,⟨o,e⟩,st⟩:=x;exact⟨st _ _ p λ o q=>k _ _ (.inl rfl) q,⟨o,k _ _ (.inl rfl) e⟩,st⟩
theorem mV.lt (x:mV P w H h) (e:H a=some o):a < h.objs.size:=(x a o e).lt
theorem mV.fresh (x:mV P w H h) (e:h.objs.size<=a):H a=none:=by
 cases q:H a with
 | none=>rfl
 | some u=>exact absurd (í (x.lt q) e) (ā _)
theorem mV.kept (x:mV P w H h) (k:∀ b u,h.get? b=some u->h'.get? b=some u):mV P w H h':=λ a o e=>
 (x a o e).stay (λ b u _ q=>k b u q) (λ _ q=>q) λ _ _ q=>q
theorem mV.laid (x:mV P w H h) (k:∀ b u,h.get? b=some u->h'.get? b=some u) (hp:h.objs.size<=a) (new:cG P w (upd H a o) h' a o):mV P w (upd H a o) h':=λ b u e=>by
 have hn:=x.fresh hp
 by_cases hb:b=a
 ·subst hb;rw[aB] at e;cases e;exact new
 ·rw[aJ hb] at e;exact (x b u e).stay (λ c v _ q=>k c v q) (λ c q=>by rw[aJ (aH q hn)];exact q) λ c xs q=>by rw[aJ (aH q hn)];exact q
end
def Rd (H:Hp) (a:Á) (u:HO):Prop:=H a=some u\/∃ o,H a=some (.frz o u)
theorem Rd.ok {P:Ã}{w:World}{H:Hp}{h:Heap}{a:Á}{u:HO} (r:Rd H a u) (x:mV P w H h):cG P w H h a u:=by
 rcases r with r | ⟨o,r⟩
 ·exact x a u r
 ·obtain⟨_,q⟩:=x a _ r;exact q
def mH:Option HO->Prop
 | some (.lst _)=>True
 | some (.dK _)=>True
 | some (.dT _)=>True
 | some (.set _ _)=>True
 | some (.ins _ _ _)=>True
 | some (.ext _)=>True
 | _=>False
section
variable {H:Hp}{h h':Heap}{x e:Á}{o':HO}
theorem mV.write (ok:mV P w H h) (mu:mH (H x)) (he:e=x\/H e=some (.own x)) (k:∀ b u,b≠e->h.get? b=some u->h'.get? b=some u) (Fl:∃ u,h'.get? e=some u)
  (new:cG P w (upd H x o') h' x o'):mV P w (upd H x o') h':=λ b u q=>by
 have Go:∀ c y,H c=some (.own y)->c≠x:=λ c y r z=>by subst z;rw[r] at mu;exact mu
 have Of:∀ c xs,H c=some (.tup xs)->c≠x:=λ c xs r z=>by subst z;rw[r] at mu;exact mu
 by_cases hb:b=x
 ·subst hb;rw[aB] at q;cases q;exact new
 ·rw[aJ hb] at q
  by_cases De:b=e
  ·have q':H b=some (.own x):=by
    rcases he with z | z
    ·exact absurd (De.trans z) hb
    ·rw[De];exact z
   rw[q] at q';cases q';obtain⟨v,hv⟩:=Fl;exact⟨v,by rw[De];exact hv⟩
  ·refine (ok b u q).stay (λ c v hc r=>k c v ?_ r) (λ c r=>by rw[aJ (Go c b r)];exact r) λ c xs r=>by rw[aJ (Of c xs r)];exact r
   rcases hc with rfl | hc
   ·exact De
   ·rintro rfl;rcases he with z | z
    ·exact Go c b hc z
    ·rw[hc] at z;cases z;exact hb rfl
end
structure Un (fs ex:List Á) (H H':Hp) (h h':Heap):Prop where
 keep:∀ b o,h.get? b=some o->H b=none->b∉fs->b∉ex->h'.get? b=some o
 slot:∀ b o,h.get? b=some o->H b=none->b∈fs->b∉ex->∃ sl,h'.get? b=some { o with slots:=sl }
 free:∀ b o,h.get? b=some o->H b=none->b∉ex->H' b=none
 there:∀ b o,h.get? b=some o->b∉ex->∃ o',h'.get? b=some o'
 tups:∀ b xs,H b=some (.tup xs)->H' b=some (.tup xs)
 frzs:∀ b o u,H b=some (.frz o u)->H' b=some (.frz o u)
 tbls:∀ b ps,H b=some (.tbl ps)->∃ more,H' b=some (.tbl (ps++more))
section
variable {fs ji ex ex':List Á}{H H1 H2:Hp}{h h1 h2 h':Heap}{a x e:Á}{o:HO}
theorem Un.any (u:Un fs ex H H1 h h1) {b:Á}{ob:Obj} (q:h.get? b=some ob) (n:H b=none) (hx:b∉ex):∃ sl,h1.get? b=some { ob with slots:=sl }:=by
 by_cases hb:b∈fs
 ·exact u.slot b ob q n hb hx
 ·exact⟨ob.slots,u.keep b ob q n hb hx⟩
theorem Un.kept (k:∀ b u,h.get? b=some u->h'.get? b=some u):Un fs ex H H h h':=
 ⟨λ b ob q _ _ _=>k b ob q,λ b ob q _ _ _=>⟨ob.slots,k b ob q⟩,λ _ _ _ n _=>n,λ b ob q _=>⟨ob,k b ob q⟩,λ _ _ q=>q,λ _ _ _ q=>q,λ _ ps q=>⟨#[],by rw[q];simp⟩⟩
theorem Un.refl:Un fs ex H H h h:=Un.kept λ _ _ q=>q
theorem Un.laid (k:∀ b u,h.get? b=some u->h'.get? b=some u) (hp:h.objs.size<=a) (hn:H a=none):Un fs ex H (upd H a o) h h' where
 keep:=λ b u q _ _ _=>k b u q
 slot:=λ b u q _ _ _=>⟨u.slots,k b u q⟩
 free:=λ b u q n _=>by rw[aJ (Þ (í (Ñ q) hp))];exact n
 there:=λ b u q _=>⟨u,k b u q⟩
 tups:=λ b xs q=>by rw[aJ (aH q hn)];exact q
 frzs:=λ b u xs q=>by rw[aJ (aH q hn)];exact q
 tbls:=λ b ps q=>⟨#[],by rw[aJ (aH q hn),q];simp⟩
theorem Un.write (mu:mH (H x)) (he:e=x\/H e=some (.own x)) (k:∀ b u,b≠e->h.get? b=some u->h'.get? b=some u) (Fl:∃ u,h'.get? e=some u):Un fs ex H (upd H x o) h h':=by
 have hx:∀ b,H b=none->b≠x:=λ b n z=>by subst z;rw[n] at mu;exact mu
 have hb:∀ b,H b=none->b≠e:=λ b n z=>by
  subst z;rcases he with r | r
  ·exact hx b n r
  ·rw[n] at r;cases r
 have hm:∀ b u,H b=some u->¬ mH (some u)->b≠x:=λ b u q nm z=>by subst z;rw[q] at mu;exact nm mu
 refine⟨λ b u q n _ _=>k b u (hb b n) q,λ b u q n _ _=>⟨u.slots,k b u (hb b n) q⟩,λ b u q n _=>by rw[aJ (hx b n)];exact n,λ b u q _=>?_,
  λ b xs q=>by rw[aJ (hm b _ q λ z=>z)];exact q,λ b u xs q=>by rw[aJ (hm b _ q λ z=>z)];exact q,λ b ps q=>⟨#[],by rw[aJ (hm b _ q λ z=>z),q];simp⟩⟩
 by_cases De:b=e
 ·subst De;exact Fl
 ·exact⟨u,k b u De q⟩
end
def trk (h:Heap) (H:Hp):List Á:=(List.range h.objs.size).filter λ a=>(H a).isSome
def tW (h:Heap) (H:Hp):Heap:=PySem.W.hideAll h (trk h H)
theorem DX (h:Heap) (H:Hp):(tW h H).objs.size=h.objs.size:=PySem.W.hideAll_size _ _
theorem HN {h:Heap}{H:Hp}{b:Á}{o:Obj} (e:h.get? b=some o) (n:H b=none):(tW h H).get? b=some o:=
 aff _ e λ hm=>by
  have q:(H b).isSome=true:=(List.mem_filter.mp hm).2;rw[n] at q;simp at q
theorem KH {h:Heap}{H:Hp}{b:Á}{o:Obj} (e:(tW h H).get? b=some o):h.get? b=some o/\H b=none:=by
 have e':h.get? b=some o:=PySem.W.of_hideAll (trk h H) e;refine⟨e',?_⟩;cases q:H b with
 | none=>rfl
 | some x=>
  have hm:b∈trk h H:=List.mem_filter.mpr ⟨ć.mpr (Ñ e'),by simp [q]⟩;have z:(tW h H).get? b=none:=PySem.W.hideAll_none (trk h H) hm;rw[z] at e;cases e
structure Mod (K:Ç) (mg:Str->Option À) (base:Heap):Prop where
 kin:K.In base
 glob:base.Ns mainGlobals mg
 blt:∃ mb,base.Ns builtinsNs mb/\∀ x:Str,x ≠ "__name__" -> mb x=bootBuiltins x
 nolimit:base.NoLimit
structure Cx where
 prog:Ã
 w:World
 K:Ç
 mg:Str->Option À
 base:Heap
 A:Around
 N:List Str
 s₀:Â
 H₀:Hp
 env:Env
 outer:List Env
 stack:List Env
 ex:List Á
 fn:Str->Bool
 calm:Bool
 pn:List (Á×Obj)
 xe:À->Â->Prop
def jV (l:List Env):List Á:=l.filterMap (·.frame)
abbrev Cx.fs (X:Cx):List Á:=jV X.outer
def PU (sc:Scope) (x:Str):Prop:=sc.names.lookup x=some .local\/sc.names.lookup x=some .cell\/sc.names.lookup x=some .free
def MC (sc:Scope) (x:Str):Prop:=sc.names.lookup x=some .local\/sc.names.lookup x=some .cell
def Look (env:Env) (h:Heap) (m:Str->Option À) (x:Str) (u:À):Prop:=
 (env.kindOf x=some .local/\m x=some u)\/((env.kindOf x=some .cell\/env.kindOf x=some .free)/\∃ c,env.cells.lookup x=some c/\h.IsCell c (some u))
structure Cx.Ok (X:Cx):Prop where
 mod:Mod X.K X.mg X.base
 kind:X.env.scope.kind=.function
 glob:X.env.globals=mainGlobals
 blt:X.env.builtins=builtinsNs
 above:X.s₀.heap.objs.size<=X.env.locals
 inj:∀ x y c,X.env.cells.lookup x=some c->X.env.cells.lookup y=some c->x=y
 has:∀ x,(X.env.kindOf x=some .cell\/X.env.kindOf x=some .free)->∃ c,X.env.cells.lookup x=some c
 cab:∀ x c,X.fn x=true->X.env.cells.lookup x=some c->X.s₀.heap.objs.size<=c
 hd:X.calm=true->X.A.handled=none
 frames:X.A.frames=some X.stack
 stk:X.stack=X.outer\/(X.stack=X.env::X.outer/\X.env.frame=some X.env.locals)
 exf:∀ b∈X.ex,b≠X.env.locals/\∀ x c,X.env.cells.lookup x=some c->c≠b
 bs:∀ b o,X.base.get? b=some o->X.s₀.heap.get? b=some o/\X.H₀ b=none
 bsz:X.base.objs.size<=X.s₀.heap.objs.size
 noex:∀ b o,X.base.get? b=some o->b∉X.ex
 exfs:∀ b∈X.ex,b∉X.fs
 funs:X.s₀.heap.FunFrames X.base X.outer
 frf:∀ b∈X.fs,X.H₀ b=none
structure Inv (X:Cx) (gi:List (Á×Obj)) (σ:List (Option V)) (H:Hp) (s:Â):Prop where
 ok:X.Ok
 os:s.os=X.s₀.os
 bare:AllBare s.gens
 base:Un X.fs X.ex X.H₀ H X.s₀.heap s.heap
 loc:∃ m,s.heap.Ns X.env.locals m/\∀ (i:Nat) (x:Str) (v:V),X.N[i]? = some x->σ[i]? = some (some v)->PU X.env.scope x->∃ u,bE v u/\Look X.env s.heap m x u
 cell:∀ x c,X.env.cells.lookup x=some c->∃ v,s.heap.IsCell c v
 free:H X.env.locals=none
 freeC:∀ x c,X.env.cells.lookup x=some c->H c=none
 pin:∀ p∈X.pn++gi,s.heap.get? p.1=some p.2/\H p.1=none/\p.1≠X.env.locals/\p.1∉X.fs/\∀ v,p.2.data≠.cell v
 hok:mV X.prog X.w H s.heap
 len:σ.length=X.N.length
section
variable {X:Cx}{gi:List (Á×Obj)}{σ:List (Option V)}{H H':Hp}{s:Â}{h':Heap}
theorem Cx.Ok.nofr (ok:X.Ok) {b:Á}{o:Obj} (e:X.base.get? b=some o):b∉X.fs:=λ hb=>by
 have:=(ok.funs.mem hb).1;rw[e] at this;cases this
theorem Inv.bs (I:Inv X gi σ H s):∀ b o,X.base.get? b=some o->s.heap.get? b=some o/\H b=none:=λ b o e=>
 ⟨I.base.keep b o (I.ok.bs b o e).1 (I.ok.bs b o e).2 (I.ok.nofr e) (I.ok.noex b o e),I.base.free b o (I.ok.bs b o e).1 (I.ok.bs b o e).2 (I.ok.noex b o e)⟩
theorem Inv.bk (I:Inv X gi σ H s):∀ b o,X.base.get? b=some o->s.heap.get? b=some o:=λ b o e=>(I.bs b o e).1
theorem Inv.mod (I:Inv X gi σ H s):Mod X.K X.mg X.base:=I.ok.mod
theorem Inv.kIn (I:Inv X gi σ H s):X.K.In s.heap:=I.ok.mod.kin.keeps I.bk
theorem Inv.lt (I:Inv X gi σ H s):X.env.locals < s.heap.objs.size:=let ⟨_,hn,_⟩:=I.loc;hn.lt
theorem Inv.sz (I:Inv X gi σ H s):X.s₀.heap.objs.size<=s.heap.objs.size:=Ĉ I.ok.above (Ķ I.lt)
theorem Inv.nofs (I:Inv X gi σ H s) {a:Á} (h:s.heap.objs.size<=a):a∉X.fs:=λ hb=>by
 obtain⟨_,o,ho,_⟩:=I.ok.funs.mem hb;exact absurd (í (Ñ ho) (Ĉ I.sz h)) (ā _)
theorem Inv.cne (I:Inv X gi σ H s):∀ x c,X.env.cells.lookup x=some c->c≠X.env.locals:=λ x c e z=>by
 obtain⟨v,o,ho,hd⟩:=I.cell x c e;obtain⟨m,⟨o',es,ep,ni,Gp,_⟩,_⟩:=I.loc;rw[z,ni] at ho;cases ho;rw[Gp] at hd;cases hd
theorem Inv.funs (I:Inv X gi σ H s):s.heap.FunFrames X.base X.outer:=by
 have all:∀ (l:List Env),(∀ b∈jV l,b∈X.fs)->X.s₀.heap.FunFrames X.base l->s.heap.FunFrames X.base l:=by
  intro l
  induction l with
  | nil=>intro _ _;trivial
  | cons env r ih=>
   intro hs hl;obtain⟨hk,⟨L,o,hf,hn,ho,hd⟩,hr⟩:=hl;have hL:L∈X.fs:=hs L (by unfold jV;rw[ŧ,hf];exact ą);obtain⟨sl,e⟩:=I.base.slot L o ho (I.ok.frf L hL) hL λ z=>I.ok.exfs L z hL;exact⟨hk,⟨L,_,hf,hn,e,hd⟩,ih (λ b hb=>hs b (by unfold jV;rw[ŧ,hf];exact ô _ hb)) hr⟩
 exact all X.outer (λ _ hb=>hb) I.ok.funs
theorem Inv.stack (I:Inv X gi σ H s):s.heap.FunFrames X.base X.stack:=by
 rcases I.ok.stk with e | ⟨e,hf⟩
 ·rw[e];exact I.funs
 ·rw[e];obtain⟨m,hn,_⟩:=I.loc;refine .cons (by rw[I.ok.kind];decide) hf hn ?_ I.funs;exact Heap.get?_none_of_le (Ĉ I.ok.bsz I.ok.above)
theorem Inv.stkSub (I:Inv X gi σ H s):∀ b∈jV X.stack,b∈X.env.locals::X.fs:=λ b hb=>by
 rcases I.ok.stk with e | ⟨e,hf⟩
 ·rw[e] at hb;exact ô _ hb
 ·rw[e] at hb;unfold jV at hb;rw[ŧ,hf] at hb;exact hb
theorem Inv.stkFree (I:Inv X gi σ H s):∀ b∈jV X.stack,H b=none:=λ b hb=>by
 rcases Ý.mp (I.stkSub b hb) with e | hb
 ·rw[e];exact I.free
 ·obtain⟨_,o,ho,_⟩:=I.ok.funs.mem hb;exact I.base.free b o ho (I.ok.frf b hb) λ z=>I.ok.exfs b z hb
theorem Inv.step {g':Array GenState}{t':Nat}{d':Drawn}{ch:List Á} (I:Inv X gi σ H s)
  (vt:∀ b∈ch,(b∈X.ex\/X.s₀.heap.objs.size<=b)/\b≠X.env.locals/\(∀ x c,X.env.cells.lookup x=some c->c≠b)/\∀ p∈X.pn++gi,p.1≠b)
  (keep:∀ b o,b≠X.env.locals->b∉X.fs->b∉ch->s.heap.get? b=some o->H b=none->h'.get? b=some o)
  (slot:∀ b o,b≠X.env.locals->b∈X.fs->b∉ch->s.heap.get? b=some o->H b=none->∃ sl,h'.get? b=some { o with slots:=sl }) (free:∀ b o,b∉ch->s.heap.get? b=some o->H b=none->H' b=none)
  (there:∀ b o,b∉ch->s.heap.get? b=some o->∃ o',h'.get? b=some o')
  (tups:∀ b xs,H b=some (.tup xs)->H' b=some (.tup xs)) (frzs:∀ b o u,H b=some (.frz o u)->H' b=some (.frz o u)) (tbls:∀ b ps,H b=some (.tbl ps)->∃ jp,H' b=some (.tbl (ps++jp)))
  (ns:∀ m,s.heap.Ns X.env.locals m->h'.Ns X.env.locals m) (hok:mV X.prog X.w H' h') (hg:AllBare g') :
  Inv X gi σ H' { s with heap:=h',gens:=g',drawn:=d',toks:=t' }:=by
 have U5:∀ b o,X.s₀.heap.get? b=some o->b≠X.env.locals:=λ b o e=>Þ (í (Ñ e) I.ok.above);have Lq:∀ b o,X.s₀.heap.get? b=some o->b∉X.ex->b∉ch:=λ b o e hx hb=>by
  rcases (vt b hb).1 with z | z
  ·exact hx z
  ·exact absurd (í (Ñ e) z) (ā _)
 have cellK:∀ x c,X.env.cells.lookup x=some c->∀ v,s.heap.IsCell c v->h'.IsCell c v:=λ x c e v ⟨o,ho,hd⟩=>by
  have Gq:c∉ch:=λ z=>(vt c z).2.2.1 x c e rfl
  by_cases hc:c∈X.fs
  ·obtain⟨sl,q⟩:=slot c o (I.cne x c e) hc Gq ho (I.freeC x c e);exact⟨_,q,hd⟩
  ·exact⟨o,keep c o (I.cne x c e) hc Gq ho (I.freeC x c e),hd⟩
 refine⟨I.ok,I.os,hg,⟨λ b o e n hb hx=>?_,λ b o e n hb hx=>?_,λ b o e n hx=>?_,λ b o e hx=>?_,λ b xs e=>tups b xs (I.base.tups b xs e),λ b o xs e=>frzs b o xs (I.base.frzs b o xs e),λ b ps e=>?_⟩,?_,λ x c e=>?_,?_,λ x c e=>?_,λ p hp=>?_,hok,I.len⟩
 ·exact keep b o (U5 b o e) hb (Lq b o e hx) (I.base.keep b o e n hb hx) (I.base.free b o e n hx)
 ·obtain⟨sl,e1⟩:=I.base.slot b o e n hb hx;obtain⟨Cb,e2⟩:=slot b _ (U5 b o e) hb (Lq b o e hx) e1 (I.base.free b o e n hx);exact⟨Cb,e2⟩
 ·obtain⟨o',e1⟩:=I.base.there b o e hx;exact free b o' (Lq b o e hx) e1 (I.base.free b o e n hx)
 ·obtain⟨o',e1⟩:=I.base.there b o e hx;exact there b o' (Lq b o e hx) e1
 ·obtain⟨m1,e1⟩:=I.base.tbls b ps e;obtain⟨m2,e2⟩:=tbls b _ e1;exact⟨m1++m2,by rw[e2,Array.append_assoc]⟩
 ·obtain⟨m,hn,hl⟩:=I.loc;refine⟨m,ns m hn,λ i x v e1 e2 e3=>?_⟩;obtain⟨u,r,l⟩:=hl i x v e1 e2 e3;refine⟨u,r,?_⟩;rcases l with l | ⟨k,c,e,z⟩
  ·exact .inl l
  ·exact .inr ⟨k,c,e,cellK x c e _ z⟩
 ·obtain⟨v,z⟩:=I.cell x c e;exact⟨v,cellK x c e v z⟩
 ·obtain⟨m,⟨o,_,_,ho,_⟩,_⟩:=I.loc;exact free _ o (λ z=>(vt _ z).2.1 rfl) ho I.free
 ·obtain⟨v,o,ho,hd⟩:=I.cell x c e;exact free c o (λ z=>(vt c z).2.2.1 x c e rfl) ho (I.freeC x c e)
 ·obtain⟨e,n,ne,nf,d⟩:=I.pin p hp;have Gq:p.1∉ch:=λ z=>(vt p.1 z).2.2.2 p hp rfl;exact⟨keep p.1 p.2 ne nf Gq e n,free p.1 p.2 Gq e n,ne,nf,d⟩
theorem Inv.un {t':Nat} (I:Inv X gi σ H s) (u:Un X.fs [] H H' s.heap h') (hok:mV X.prog X.w H' h'):Inv X gi σ H' { s with heap:=h',toks:=t' }:=by
 obtain⟨m,⟨o,es,ep,ho,r⟩,_⟩:=id I.loc;obtain⟨sl,hL⟩:=u.any ho I.free (by simp);exact I.step (g':=s.gens) (d':=s.drawn) (ch:=[]) (λ _ z=>nomatch z) (λ b o _ hb _ e n=>u.keep b o e n hb (by simp)) (λ b o _ hb _ e n=>u.slot b o e n hb (by simp)) (λ b o _ e n=>u.free b o e n (by simp)) (λ b o _ e=>u.there b o e (by simp)) u.tups u.frzs u.tbls (λ m' hm=>by
  obtain⟨o',yk,yl,ni,r'⟩:=hm;rw[ho] at ni;cases ni;exact⟨_,yk,yl,hL,r'⟩) hok I.bare
theorem Inv.call {g':Array GenState}{t':Nat}{d':Drawn}{ch:List Á} (I:Inv X gi σ H s) (u:Un (jV X.stack) ch H H' s.heap h') (hok:mV X.prog X.w H' h') (hg:AllBare g')
  (vt:∀ b∈ch,(b∈X.ex\/X.s₀.heap.objs.size<=b)/\b≠X.env.locals/\(∀ x c,X.env.cells.lookup x=some c->c≠b)/\∀ p∈X.pn++gi,p.1≠b) :
  Inv X gi σ H' { s with heap:=h',gens:=g',drawn:=d',toks:=t' }:=by
 obtain⟨m,⟨o,es,ep,ho,r⟩,_⟩:=id I.loc;obtain⟨sl,hL⟩:=u.any ho I.free λ z=>(vt _ z).2.1 rfl;exact I.step (ch:=ch) vt (λ b o hL hb hc e n=>u.keep b o e n (λ z=>(Ý.mp (I.stkSub b z)).elim hL hb) hc) (λ b o _ _ hc e n=>u.any e n hc) (λ b o hc e n=>u.free b o e n hc) (λ b o hc e=>u.there b o e hc) u.tups u.frzs u.tbls (λ m' hm=>by
  obtain⟨o',yk,yl,ni,r'⟩:=hm;rw[ho] at ni;cases ni;exact⟨_,yk,yl,hL,r'⟩) hok hg
theorem Inv.turned {t':Nat}{it:Á} (I:Inv X gi σ H s) (k:∀ b o,b≠it->s.heap.get? b=some o->h'.get? b=some o) (hn:H it=none) (hL:it≠X.env.locals)
  (h1:it∈X.ex\/X.s₀.heap.objs.size<=it) (h2:∀ x c,X.env.cells.lookup x=some c->c≠it) (h3:∀ p∈X.pn++gi,p.1≠it):Inv X gi σ H { s with heap:=h',toks:=t' }:=by
 have U6:∀ b u,H b=some u->b≠it:=λ b u e z=>by rw[z,hn] at e;cases e
 refine I.step (g':=s.gens) (d':=s.drawn) (ch:=[it]) (λ b hb=>?_) (λ b o _ _ hc e _=>k b o (λ z=>hc (by simp [z])) e) (λ b o _ _ hc e _=>⟨o.slots,k b o (λ z=>hc (by simp [z])) e⟩) (λ _ _ _ _ n=>n)
  (λ b o hc e=>⟨o,k b o (λ z=>hc (by simp [z])) e⟩) (λ _ _ e=>e) (λ _ _ _ e=>e) (λ b ps e=>⟨#[],by rw[e];simp⟩) (λ m hm=>?_) (λ b u e=>?_) I.bare
 ·have e:b=it:=by simpa using hb
  subst e;exact⟨h1,hL,h2,h3⟩
 ·obtain⟨o,es,ep,ho,r⟩:=hm;exact⟨o,es,ep,k _ o (Ne.symm hL) ho,r⟩
 ·refine (I.hok b u e).stay (λ c v hc q=>k c v ?_ q) (λ _ q=>q) λ _ _ q=>q;rcases hc with z | z
  ·rw[z];exact U6 b u e
  ·exact U6 c _ z
theorem Inv.tok (I:Inv X gi σ H s) (t:Nat):Inv X gi σ H { s with toks:=t }:=I.un (h':=s.heap) (t':=t) Un.refl I.hok
theorem Inv.kept {t':Nat} (I:Inv X gi σ H s) (k:∀ b u,s.heap.get? b=some u->h'.get? b=some u):Inv X gi σ H { s with heap:=h',toks:=t' }:=I.un (Un.kept k) (I.hok.kept k)
theorem Inv.laid {a:Á}{o:HO}{t':Nat} (I:Inv X gi σ H s) (k:∀ b u,s.heap.get? b=some u->h'.get? b=some u) (hp:s.heap.objs.size<=a) (new:cG X.prog X.w (upd H a o) h' a o) :
  Inv X gi σ (upd H a o) { s with heap:=h',toks:=t' }:=I.un (Un.laid k hp (I.hok.fresh hp)) (I.hok.laid k hp new)
theorem Inv.write {x e:Á}{o:HO}{t':Nat} (I:Inv X gi σ H s) (mu:mH (H x)) (he:e=x\/H e=some (.own x)) (k:∀ b u,b≠e->s.heap.get? b=some u->h'.get? b=some u) (Fl:∃ u,h'.get? e=some u)
  (new:cG X.prog X.w (upd H x o) h' x o):Inv X gi σ (upd H x o) { s with heap:=h',toks:=t' }:=I.un (Un.write mu he k Fl) (I.hok.write mu he k Fl new)
theorem Inv.pins_of {qh:List (Á×Obj)} (I:Inv X gi σ H s) (h:∀ p∈qh,s.heap.get? p.1=some p.2/\H p.1=none/\p.1≠X.env.locals/\p.1∉X.fs/\∀ v,p.2.data≠.cell v):Inv X qh σ H s:=
 ⟨I.ok,I.os,I.bare,I.base,I.loc,I.cell,I.free,I.freeC,λ p hp=>(ñ.mp hp).elim (λ z=>I.pin p (Ī _ z)) (h p),I.hok,I.len⟩
theorem sF {N:List Str} (hN:N.Nodup) {i j:Nat}{x:Str} (a:N[i]? = some x) (b:N[j]? = some x):i=j:=by
 obtain⟨h1,e1⟩:=Ò.mp a;obtain⟨h2,e2⟩:=Ò.mp b;exact (List.getElem_inj hN).mp (e1.trans e2.symm)
theorem oX {M:Model}{A:Around}{E:À->Â->Prop}{i:Nat}{x:Str}{v:V}{u:À}{Q:Unit->Â->Prop} (I:Inv X gi σ H s) (hN:X.N.Nodup) (hi:X.N[i]? = some x) (hx:MC X.env.scope x) (r:bE v u)
  (h:∀ s',Inv X gi (σ.set i (some v)) H s'->(∃ a,Heap.SameBut a s.heap s'.heap/\(a=X.env.locals\/X.env.cells.lookup x=some a))->Q () s') (hf:X.fn x=true\/X.env.scope.names.lookup x=some .local:=by with_unfolding_all first | exact .inl rfl | exact .inr rfl | assumption):wpAny M A (storeName X.env x u) Q E s:=by
 obtain⟨m,hn,hl⟩:=id I.loc;have wm:(X.env.scope.kind == .class || (X.env.scope.kind == .module && X.env.locals != X.env.globals))=false:=by rw[I.ok.kind];rfl
 have du:i < σ.length:=by rw[I.len];exact (Ò.mp hi).1
 have Fm:=I.cne;have tracked:∀ {a:Á}{h':Heap},(∃ o,s.heap.get? a=some o/\H a=none)->Heap.SameBut a s.heap h'->mV X.prog X.w H h':=λ {a h'} ha hs b ob e=>by
  obtain⟨_,_,jz⟩:=ha;refine (I.hok b ob e).stay (λ c w' hc q=>(hs.2 c ?_).trans q) (λ _ q=>q) λ _ _ q=>q;rintro rfl;rcases hc with rfl | hc
  ·rw[jz] at e;cases e
  ·rw[jz] at hc;cases hc
 rcases hx with hk | hk
 ·refine wpAny_storeName_local hk hn (λ h' Og hs=>?_) wm;obtain⟨oL,_,_,Fn,_⟩:=id hn;refine h _ ⟨I.ok,I.os,I.bare,⟨λ b o e n hb hx=>?_,λ b o e n hb hx=>?_,I.base.free,λ b o e hx=>?_,I.base.tups,I.base.frzs,I.base.tbls⟩,⟨_,Og,λ j y v' e1 e2 e3=>?_⟩,λ y c e=>?_,I.free,I.freeC,λ p hp=>?_,tracked ⟨oL,Fn,I.free⟩ hs,by simpa using I.len⟩ ⟨_,hs,.inl rfl⟩
  ·exact (hs.2 b (Þ (í (Ñ e) I.ok.above))).trans (I.base.keep b o e n hb hx)
  ·obtain⟨sl,e1⟩:=I.base.slot b o e n hb hx;exact⟨sl,(hs.2 b (Þ (í (Ñ e) I.ok.above))).trans e1⟩
  ·obtain⟨o',e1⟩:=I.base.there b o e hx;exact⟨o',(hs.2 b (Þ (í (Ñ e) I.ok.above))).trans e1⟩
  ·by_cases hj:j=i
   ·subst hj;rw[hi] at e1;cases e1;rw[adb du] at e2;cases e2;exact⟨u,r,.inl ⟨hk,by simp⟩⟩
   ·rw[ade (Ne.symm hj)] at e2;obtain⟨u',r',q⟩:=hl j y v' e1 e2 e3;refine⟨u',r',?_⟩;rcases q with ⟨k,e⟩ | ⟨k,c,e,z⟩
    ·refine .inl ⟨k,?_⟩;have:y≠x:=λ e=>hj (sF hN e1 (e ▸ hi));simp [this,e]
    ·exact .inr ⟨k,c,e,z.sameBut hs (Fm y c e)⟩
  ·obtain⟨w',z⟩:=I.cell y c e;exact⟨w',z.sameBut hs (Fm y c e)⟩
  ·obtain⟨e,n,ne,nf,d⟩:=I.pin p hp;exact⟨(hs.2 p.1 ne).trans e,n,ne,nf,d⟩
 ·have uw:X.fn x=true:=by
   rcases hf with z | z
   ·exact z
   ·rw[z] at hk;cases hk
  obtain⟨c,hc⟩:=I.ok.has x (.inl hk);obtain⟨w',z⟩:=I.cell x c hc;refine wpAny_storeName_cell I.ok.kind hk hc z (λ h' lz hs=>?_);obtain⟨oc,rg,Oh⟩:=id z;refine h { s with heap:=h' } ⟨I.ok,I.os,I.bare,⟨λ b o e n hb hx=>?_,λ b o e n hb hx=>?_,I.base.free,λ b o e hx=>?_,I.base.tups,I.base.frzs,I.base.tbls⟩,⟨m,hn.sameBut hs (Ne.symm (Fm x c hc)),λ j y v' e1 e2 e3=>?_⟩,λ y c' e=>?_,I.free,I.freeC,λ p hp=>?_,tracked ⟨oc,rg,I.freeC x c hc⟩ hs,by simpa using I.len⟩ ⟨c,hs,.inr hc⟩
  ·exact (hs.2 b (Þ (í (Ñ e) (I.ok.cab x c uw hc)))).trans (I.base.keep b o e n hb hx)
  ·obtain⟨sl,e1⟩:=I.base.slot b o e n hb hx;exact⟨sl,(hs.2 b (Þ (í (Ñ e) (I.ok.cab x c uw hc)))).trans e1⟩
  ·obtain⟨o',e1⟩:=I.base.there b o e hx;exact⟨o',(hs.2 b (Þ (í (Ñ e) (I.ok.cab x c uw hc)))).trans e1⟩
  ·by_cases hj:j=i
   ·subst hj;rw[hi] at e1;cases e1;rw[adb du] at e2;cases e2;exact⟨u,r,.inr ⟨.inl hk,c,hc,lz⟩⟩
   ·rw[ade (Ne.symm hj)] at e2;obtain⟨u',r',q⟩:=hl j y v' e1 e2 e3;refine⟨u',r',?_⟩;rcases q with q | ⟨k,c',e,z'⟩
    ·exact .inl q
    ·refine .inr ⟨k,c',e,z'.sameBut hs ?_⟩;rintro rfl;exact hj (sF hN e1 (I.ok.inj _ _ _ e hc ▸ hi))
  ·by_cases U7:c'=c
   ·subst U7;exact⟨_,lz⟩
   ·obtain⟨w2,z2⟩:=I.cell y c' e;exact⟨w2,z2.sameBut hs U7⟩
  ·obtain⟨e,n,ne,nf,d⟩:=I.pin p hp;refine⟨(hs.2 p.1 ?_).trans e,n,ne,nf,d⟩;intro q;rw[q,rg] at e;have q':oc=p.2:=â e;exact d w' (by rw[<- q'];exact Oh)
theorem hZ {M:Model}{A:Around}{E:À->Â->Prop}{i:Nat}{x:Str}{v:V}{u:À}{Q:Unit->Â->Prop} (I:Inv X gi σ H s) (hN:X.N.Nodup) (hi:X.N[i]? = some x) (hx:MC X.env.scope x) (r:bE v u)
  (h:∀ s',Inv X gi (σ.set i (some v)) H s'->Q () s') (hf:X.fn x=true\/X.env.scope.names.lookup x=some .local:=by with_unfolding_all first | exact .inl rfl | exact .inr rfl | assumption):wpAny M A (storeName X.env x u) Q E s:=
 oX I hN hi hx r (λ s' I' _=>h s' I') hf
theorem Inv.call' {s':Â}{ch:List Á} (I:Inv X gi σ H s) (ho:s'.os=s.os) (u:Un (jV X.stack) ch H H' s.heap s'.heap) (hok:mV X.prog X.w H' s'.heap) (hg:AllBare s'.gens)
  (vt:∀ b∈ch,(b∈X.ex\/X.s₀.heap.objs.size<=b)/\b≠X.env.locals/\(∀ x c,X.env.cells.lookup x=some c->c≠b)/\∀ p∈X.pn++gi,p.1≠b):Inv X gi σ H' s':=by
 obtain⟨h',g',d',t',o'⟩:=s';have e:o'=s.os:=ho;subst e;exact I.call (g':=g') (t':=t') (d':=d') u hok hg vt
end
abbrev XK:=À->Option Á->Hp->Prop
abbrev St:=List (Option V)
abbrev VK:=V->Hp->Prop
abbrev TE:=St->Hp->VK->Prop
abbrev TT:=St->Hp->(Bool->Hp->Prop)->Prop
abbrev TA:=St->Hp->(List V->Hp->Prop)->Prop
structure Ends where
 nx:St->Hp->Prop
 rt:VK
 bk:St->Hp->Prop:=λ _ _=>False
 ct:St->Hp->Prop:=λ _ _=>False
abbrev TS:=Ends->St->Hp->Prop
def EP (X:Cx) (gi:List (Á×Obj)) (σ:St) (Q:VK) (u:À) (s':Â):Prop:=∃ v H',Inv X gi σ H' s'/\bE v u/\Q v H'
def TP (X:Cx) (gi:List (Á×Obj)) (σ:St) (Q:Bool->Hp->Prop) (b:Bool) (s':Â):Prop:=∃ H',Inv X gi σ H' s'/\Q b H'
def AP (X:Cx) (gi:List (Á×Obj)) (σ:St) (Q:List V->Hp->Prop) (us:List À) (s':Â):Prop:=∃ vs H',Inv X gi σ H' s'/\bO vs us/\Q vs H'
def SP (X:Cx) (gi:List (Á×Obj)) (D:Ends) (f:Flow) (s':Â):Prop:=
 match f with
 | .next=>∃ ad H',Inv X gi ad H' s'/\D.nx ad H'
 | .brk=>∃ ad H',Inv X gi ad H' s'/\D.bk ad H'
 | .cont=>∃ ad H',Inv X gi ad H' s'/\D.ct ad H'
 | .ret u=>∃ v ad H',Inv X gi ad H' s'/\bE v u/\D.rt v H'
def PE (X:Cx) (e:Expr) (t:TE):Prop:=
 ∀ (gi:List (Á×Obj)) (s:Â) (σ:St) (H:Hp) (Q:VK),Inv X gi σ H s->t σ H Q->wpAny (model X.prog X.w) X.A (eval e X.env) (EP X gi σ Q) X.xe s
def PT (X:Cx) (e:Expr) (t:TT):Prop:=
 ∀ (gi:List (Á×Obj)) (s:Â) (σ:St) (H:Hp) (Q:Bool->Hp->Prop),Inv X gi σ H s->t σ H Q->wpAny (model X.prog X.w) X.A (isTrue e X.env (eval e X.env)) (TP X gi σ Q) X.xe s
def PW (X:Cx) (e:Expr) (t:TT):Prop:=
 ∀ (whole:Sem À) (gi:List (Á×Obj)) (s:Â) (σ:St) (H:Hp) (Q:Bool->Hp->Prop),Inv X gi σ H s->t σ H Q->wpAny (model X.prog X.w) X.A (isTrue e X.env whole) (TP X gi σ Q) X.xe s
theorem PW.pt {X:Cx}{e:Expr}{t:TT} (h:PW X e t):PT X e t:=h _
def PA (X:Cx) (es:List Expr) (t:TA):Prop:=
 ∀ (pos:Pos) (gi:List (Á×Obj)) (s:Â) (σ:St) (H:Hp) (Q:List V->Hp->Prop),Inv X gi σ H s->t σ H Q->wpAny (model X.prog X.w) X.A (spliced (backTo pos (starEach es X.env))) (AP X gi σ Q) X.xe s
def PS (X:Cx) (st:Stmt) (t:TS):Prop:=
 ∀ (gi:List (Á×Obj)) (s:Â) (σ:St) (H:Hp) (D:Ends),Inv X gi σ H s->t D σ H->wpAny (model X.prog X.w) X.A (exec st X.env) (SP X gi D) X.xe s
def xK (X:Cx) (st:List Stmt) (t:TS):Prop:=
 ∀ (gi:List (Á×Obj)) (s:Â) (σ:St) (H:Hp) (D:Ends),Inv X gi σ H s->t D σ H->wpAny (model X.prog X.w) X.A (execs st X.env) (SP X gi D) X.xe s
theorem cY {α:Type}{t:Sem α}{Q Q':α->Â->Prop}{M:Model}{A:Around}{E:À->Â->Prop}{s:Â} (h:wpAny M A t Q E s) (hQ:∀ a s,Q a s->Q' a s):wpAny M A t Q' E s:=á h hQ λ _ _ x=>x
section
variable {X:Cx}
def eD (i:Nat):TE:=λ σ H Q=>∃ v,σ[i]? = some (some v)/\Q v H
def tC (v:V):TE:=λ _ H Q=>Q v H
theorem GE {i:Nat}{x:Str}{pos:Pos} (hN:X.N[i]? = some x) (hv:PU X.env.scope x) (hd:(x == ("__debug__" : Str))=false:=by decide) (nj:(x == ("__classdict__" : Str))=false:=by decide):PE X (.Name x pos) (eD i):=by
 intro gi s σ H Q I h;obtain⟨v,e,h⟩:=h;obtain⟨m,hn,hl⟩:=I.loc;obtain⟨u,r,l⟩:=hl i x v hN e hv;have fin:EP X gi σ Q u s:=⟨v,H,I,r,h⟩;rcases l with ⟨hk,hm⟩ | ⟨hk,c,hc,jo⟩
 ·exact wpAny_Name (wpAny_loadName_local I.ok.kind hk hn hm fin) hd
 ·rcases hk with hk | hk
  ·exact wpAny_Name (wpAny_loadName_cell I.ok.kind hk hc jo fin) hd
  ·exact wpAny_Name (wpAny_loadName_free I.ok.kind hk hc jo fin nj) hd
theorem aF {i j pos}:PE X (.Constant (.int i) j pos) (tC (.int i)):=λ _ _ _ H _ I h=>wpAny_Constant_int ⟨.int i,H,I.tok _,⟨_,rfl⟩,h⟩
theorem eA {b j pos}:PE X (.Constant (.bool b) j pos) (tC (.bl b)):=λ _ _ _ H _ I h=>Constant_bool ⟨.bl b,H,I,rfl,h⟩
theorem fU {j pos}:PE X (.Constant .none j pos) (tC .non):=λ _ _ _ H _ I h=>Constant_none ⟨.non,H,I,rfl,h⟩
theorem eI {x j pos}:PE X (.Constant (.str x) j pos) (tC (.str x)):=λ _ _ _ H _ I h=>Calls.Constant_str ⟨.str x,H,I.tok _,⟨_,rfl⟩,h⟩
def Gl (X:Cx) (x:Str):Prop:=X.env.kindOf x=some .globalImplicit
theorem oH {E:À->Â->Prop}{gi:List (Á×Obj)}{s:Â}{σ:St}{H:Hp}{x:Str}{u:À}{pos:Pos}{Q:À->Â->Prop} (I:Inv X gi σ H s) (hg:Gl X x) (hm:X.mg x=some u) (h:Q u s)
  (hd:(x == ("__debug__" : Str))=false:=by decide):wpAny (model X.prog X.w) X.A (eval (.Name x pos) X.env) Q E s:=
 Calls.Name_function_global I.ok.kind hg (Calls.loadGlobal_global (by rw[I.ok.glob];exact I.mod.glob.keeps I.bk) hm h) hd
theorem nB {E:À->Â->Prop}{gi:List (Á×Obj)}{s:Â}{σ:St}{H:Hp}{x:Str}{u:À}{pos:Pos}{Q:À->Â->Prop} (I:Inv X gi σ H s) (hg:Gl X x) (hm:X.mg x=none) (hv:bootBuiltins x=some u) (h:Q u s)
  (hn:x ≠ "__name__" := by decide) (hd:(x == ("__debug__" : Str))=false:=by decide):wpAny (model X.prog X.w) X.A (eval (.Name x pos) X.env) Q E s:=by
 obtain⟨mb,h1,h2⟩:=I.mod.blt;exact Calls.Name_function_global I.ok.kind hg (Calls.loadGlobal_builtin (by rw[I.ok.glob];exact I.mod.glob.keeps I.bk) hm (by rw[I.ok.blt];exact h1.keeps I.bk) ((h2 x hn).trans hv) h) hd
theorem K6 {x:Str}{v:V}{u:À}{pos:Pos} (hg:Gl X x) (hm:X.mg x=some u) (r:bE v u) (hd:(x == ("__debug__" : Str))=false:=by decide):PE X (.Name x pos) (tC v):=
 λ _ _ _ H _ I h=>oH I hg hm ⟨v,H,I,r,h⟩ hd
theorem lO {x:Str}{v:V}{u:À}{pos:Pos} (hg:Gl X x) (hm:X.mg x=none) (hv:bootBuiltins x=some u) (r:bE v u) (hn:x ≠ "__name__" := by decide) (hd:(x == ("__debug__" : Str))=false:=by decide):PE X (.Name x pos) (tC v):=
 λ _ _ _ H _ I h=>nB I hg hm hv ⟨v,H,I,r,h⟩ hn hd
variable {a b:Expr}{ta tb:TE}{pos:Pos}
def tB (t:TE):TT:=λ σ H Q=>t σ H λ x H1=>∃ c,x=.bl c/\Q c H1
theorem eU {e:Expr}{t:TE} (h:PE X e t) (he:∀ whole,isTrue e X.env whole=(do let v <- whole;standAt e.pos;holding [v] (truthy v)):=by intro _;with_unfolding_all rfl):PT X e (tB t):=by
 intro gi s σ H Q I hw;refine isTrue_plain (cY (h gi s σ H _ I hw) λ v s1 ⟨x,H1,I1,r1,q1⟩=>?_) (he _);obtain⟨d,rfl,q⟩:=q1;cases r1;exact Ń ⟨H1,I1,q⟩
variable {tA Lr:TT}{jc:List Expr}
def tAnd (t u:TT):TT:=λ σ H Q=>t σ H λ c H1=>if c=true then u σ H1 Q else Q false H1
def tOr (t u:TT):TT:=λ σ H Q=>t σ H λ c H1=>if c=true then Q true H1 else u σ H1 Q
def tNot (t:TT):TT:=λ σ H Q=>t σ H λ c H1=>Q (!c) H1
theorem qN (ha:PT X a tA):PW X (.BoolOp .And [a] pos) tA:=by
 intro wh gi s σ H Q I h;refine isTrue_and (cY (ha gi s σ H Q I h) λ c s1 e=>?_);cases c with
 | true=>exact isTrue_and_nil e
 | false=>exact e
theorem pB (ha:PT X a tA):PW X (.BoolOp .Or [a] pos) tA:=by
 intro wh gi s σ H Q I h;refine isTrue_or (cY (ha gi s σ H Q I h) λ c s1 e=>?_);cases c with
 | false=>exact isTrue_or_nil e
 | true=>exact e
theorem vV (ha:PT X a tA) (hb:PW X (.BoolOp .And (b::jc) pos) Lr):PW X (.BoolOp .And (a::b::jc) pos) (tAnd tA Lr):=by
 intro wh gi s σ H Q I h;refine isTrue_and (cY (ha gi s σ H _ I h) λ c s1 ⟨H1,I1,q1⟩=>?_);cases c with
 | true=>exact hb wh gi s1 σ H1 Q I1 q1
 | false=>exact⟨H1,I1,q1⟩
theorem q0 (ha:PT X a tA) (hb:PW X (.BoolOp .Or (b::jc) pos) Lr):PW X (.BoolOp .Or (a::b::jc) pos) (tOr tA Lr):=by
 intro wh gi s σ H Q I h;refine isTrue_or (cY (ha gi s σ H _ I h) λ c s1 ⟨H1,I1,q1⟩=>?_);cases c with
 | true=>exact⟨H1,I1,q1⟩
 | false=>exact hb wh gi s1 σ H1 Q I1 q1
theorem jP (ha:PT X a tA):PT X (.UnaryOp .Not a pos) (tNot tA):=by
 intro gi s σ H Q I h;exact isTrue_not (ha gi s σ H (λ c H1=>Q (!c) H1) I h)
def ON (ta tb:TE):TE:=λ σ H Q=>ta σ H λ x H1=>∃ c,x=.bl c/\if c=true then tb σ H1 Q else Q (.bl false) H1
def tOrV (ta tb:TE):TE:=λ σ H Q=>ta σ H λ x H1=>∃ c,x=.bl c/\if c=true then Q (.bl true) H1 else tb σ H1 Q
def LJ (ta:TE):TE:=λ σ H Q=>ta σ H λ x H1=>∃ c,x=.bl c/\Q (.bl (!c)) H1
theorem zY {op}{t:TE} (h:PE X a t):PE X (.BoolOp op [a] pos) t:=λ gi s σ H Q I hw=>BoolOp_one (h gi s σ H Q I hw)
theorem wA (ha:PE X a ta) (hb:PE X (.BoolOp .And (b::jc) pos) tb):PE X (.BoolOp .And (a::b::jc) pos) (ON ta tb):=by
 intro gi s σ H Q I h;refine BoolOp_and (cY (ha gi s σ H _ I h) λ v s1 ⟨x,H1,I1,r1,q1⟩=>?_);obtain⟨c,rfl,q1⟩:=q1;cases r1;refine Ń ?_;cases c with
 | true=>exact hb gi s1 σ H1 Q I1 q1
 | false=>exact⟨.bl false,H1,I1,rfl,q1⟩
theorem OY (ha:PE X a ta) (hb:PE X (.BoolOp .Or (b::jc) pos) tb):PE X (.BoolOp .Or (a::b::jc) pos) (tOrV ta tb):=by
 intro gi s σ H Q I h;refine BoolOp_or (cY (ha gi s σ H _ I h) λ v s1 ⟨x,H1,I1,r1,q1⟩=>?_);obtain⟨c,rfl,q1⟩:=q1;cases r1;refine Ń ?_;cases c with
 | false=>exact hb gi s1 σ H1 Q I1 q1
 | true=>exact⟨.bl true,H1,I1,rfl,q1⟩
theorem vY (ha:PE X a ta):PE X (.UnaryOp .Not a pos) (LJ ta):=by
 intro gi s σ H Q I h;refine UnaryOp_ (cY (ha gi s σ H _ I h) λ v s1 ⟨x,H1,I1,r1,q1⟩=>?_);obtain⟨c,rfl,q1⟩:=q1;cases r1;exact not_of (Ń ⟨.bl (!c),H1,I1,rfl,q1⟩)
end
def bD (K:Ç) (H:Hp) (a:Á) (xs:List V):Prop:=
 Rd H a (.lst xs)\/
  ∃ (o:Obj) (its:Array À) (n:Nat),K.lookup a=some o/\o.cls=.type "list" /\ o.dict=none/\o.data=.seq its n/\its.size<=sizeLine/\bO xs its.toList
def bC (K:Ç) (H:Hp) (a:Á) (xs:List V):Prop:=
 Rd H a (.tup xs)\/
  ∃ (o:Obj) (its:Array À) (n:Nat),K.lookup a=some o/\o.cls=.type "tuple" /\ o.data=.seq its n/\its.size<=sizeLine/\bO xs its.toList
def absV:À->Option V
 | .none=>some .non
 | .bool b=>some (.bl b)
 | .int i _=>some (.int i)
 | .str x _=>some (.str x)
 | .bytes b _=>some (.byt b)
 | .float b _=>some (.flt b)
 | .ref a=>some (.ref a)
 | .type n=>some (.ty n)
 | _=>none
theorem bE.abs {x:V}{u:À} (r:bE x u):absV u=some x:=by
 cases x with
 | non=>cases r;rfl
 | bl _=>cases r;rfl
 | int _=>obtain⟨t,rfl⟩:=r;rfl
 | str _=>obtain⟨t,rfl⟩:=r;rfl
 | byt _=>obtain⟨t,rfl⟩:=r;rfl
 | flt _=>obtain⟨t,rfl⟩:=r;rfl
 | ref _=>cases r;rfl
 | ty _=>cases r;rfl
theorem bE.inj {x y:V}{u:À} (r:bE x u) (q:bE y u):x=y:=â (r.abs.symm.trans q.abs)
theorem bO.inj:∀ {xs ys:List V}{us:List À},bO xs us->bO ys us->xs=ys
 | _,_,_,.nil,.nil=>rfl
 | _,_,_,.cons r t,.cons r' t'=>by rw[r.inj r',bO.inj t t']
section
variable {X:Cx}{gi:List (Á×Obj)}{σ:St}{H:Hp}{s:Â}{a:Á}{xs ys:List V}
theorem bD.of {K:Ç} (h:H a=some (.lst xs)):bD K H a xs:=.inl (.inl h)
def Ë:=@bD.of
theorem bC.of {K:Ç} (h:H a=some (.tup xs)):bC K H a xs:=.inl (.inl h)
def Ì:=@bC.of
theorem Inv.list (I:Inv X gi σ H s) (h:bD X.K H a xs):∃ its:List À,bO xs its/\PlainL s.heap a its.toArray/\xs.length<=sizeLine:=by
 rcases h with h | ⟨o,its,n,hk,hc,hd,hs,hz,r⟩
 ·obtain⟨z,its,n,r,e⟩:=h.ok I.hok;exact⟨its,r,⟨_,n,e,rfl,rfl,rfl⟩,z⟩
 ·refine⟨its.toList,r,⟨o,n,I.kIn a o hk,hc,hd,by simpa using hs⟩,?_⟩;have e:=r.length;simp only [Ĕ] at e;lia
theorem Inv.tuple (I:Inv X gi σ H s) (h:bC X.K H a xs):∃ its:List À,bO xs its/\IsTup s.heap a its.toArray/\xs.length<=sizeLine:=by
 rcases h with h | ⟨o,its,n,hk,hc,hs,hz,r⟩
 ·obtain⟨z,its,r,p⟩:=h.ok I.hok;exact⟨its,r,p,z⟩
 ·refine⟨its.toList,r,⟨o,I.kIn a o hk,hc,n,by simpa using hs⟩,?_⟩;have e:=r.length;simp only [Ĕ] at e;lia
theorem Inv.list_inj (I:Inv X gi σ H s) (h:bD X.K H a xs) (h':bD X.K H a ys):xs=ys:=by
 obtain⟨its,r,⟨o,n,e,_,_,d⟩,_⟩:=I.list h;obtain⟨its',r',⟨o',n',e',_,_,d'⟩,_⟩:=I.list h';rw[e] at e';cases e';rw[d] at d';injection d' with d1 _;have:its=its':=by simpa using congrArg Array.toList d1
 subst this;exact r.inj r'
theorem Inv.tuple_inj (I:Inv X gi σ H s) (h:bC X.K H a xs) (h':bC X.K H a ys):xs=ys:=by
 obtain⟨its,r,⟨o,e,_,n,d⟩,_⟩:=I.tuple h;obtain⟨its',r',⟨o',e',_,n',d'⟩,_⟩:=I.tuple h';rw[e] at e';cases e';rw[d] at d';injection d' with d1 _;have:its=its':=by simpa using congrArg Array.toList d1
 subst this;exact r.inj r'
end
abbrev Cx.wish (X:Cx) (E:À->Â->Prop):Cx:={ X with xe:=E }
abbrev Cx.nox (X:Cx):Cx:=X.wish λ _ _=>False
theorem Cx.Ok.wish {X:Cx} (ok:X.Ok) (E:À->Â->Prop):(X.wish E).Ok:=
 ⟨ok.mod,ok.kind,ok.glob,ok.blt,ok.above,ok.inj,ok.has,ok.cab,ok.hd,ok.frames,ok.stk,ok.exf,ok.bs,ok.bsz,ok.noex,ok.exfs,ok.funs,ok.frf⟩
theorem Cx.Ok.unwish {X:Cx}{E:À->Â->Prop} (ok:(X.wish E).Ok):X.Ok:=
 ⟨ok.mod,ok.kind,ok.glob,ok.blt,ok.above,ok.inj,ok.has,ok.cab,ok.hd,ok.frames,ok.stk,ok.exf,ok.bs,ok.bsz,ok.noex,ok.exfs,ok.funs,ok.frf⟩
section
variable {X:Cx}{gi:List (Á×Obj)}{σ:St}{H:Hp}{s:Â}{E:À->Â->Prop}
theorem Inv.wish (I:Inv X gi σ H s) (E:À->Â->Prop):Inv (X.wish E) gi σ H s:=⟨I.ok.wish E,I.os,I.bare,I.base,I.loc,I.cell,I.free,I.freeC,I.pin,I.hok,I.len⟩
theorem Inv.unwish (I:Inv (X.wish E) gi σ H s):Inv X gi σ H s:=⟨I.ok.unwish,I.os,I.bare,I.base,I.loc,I.cell,I.free,I.freeC,I.pin,I.hok,I.len⟩
theorem SP.unwish {D:Ends}{f:Flow}{s':Â} (h:SP (X.wish E) gi D f s'):SP X gi D f s':=by
 cases f with
 | next=>obtain⟨ad,H',I,q⟩:=h;exact⟨ad,H',I.unwish,q⟩
 | brk=>obtain⟨ad,H',I,q⟩:=h;exact⟨ad,H',I.unwish,q⟩
 | cont=>obtain⟨ad,H',I,q⟩:=h;exact⟨ad,H',I.unwish,q⟩
 | ret u=>obtain⟨v,ad,H',I,r,q⟩:=h;exact⟨v,ad,H',I.unwish,r,q⟩
theorem xK.nox {st:List Stmt}{t:TS} (h:xK X.nox st t):xK X st t:=λ gi s σ H D I hw=>
 á (h gi s σ H D (I.wish _) hw) (λ _ _ q=>q.unwish) λ _ _ z=>False.elim z
end
section
variable {X:Cx}{st:Stmt}{jc:List Stmt}{t u:TS}{e:Expr}{te:TE}{pos:Pos}
def AX:TS:=λ D σ H=>D.nx σ H
def iZ (t u:TS):TS:=λ D σ H=>t { D with nx:=u D } σ H
theorem bK:xK X [] AX:=λ _ _ σ H _ I h=>agk ⟨σ,H,I,h⟩
theorem aD (h1:PS X st t) (h2:xK X jc u):xK X (st::jc) (iZ t u):=by
 intro gi s σ H D I h;refine wpAny_execs_cons (cY (h1 gi s σ H { D with nx:=u D } I h) λ f s1 q=>?_);cases f with
 | next=>
  obtain⟨ad,H',I',q⟩:=q;exact h2 gi s1 ad H' D I' q
 | ret v=>exact q
 | brk=>exact q
 | cont=>exact q
theorem aI (h1:PS X st t):xK X [st] t:=by
 intro gi s σ H D I h;refine wpAny_execs_cons (cY (h1 gi s σ H D I h) λ f s1 q=>?_);cases f with
 | next=>exact agk q
 | ret v=>exact q
 | brk=>exact q
 | cont=>exact q
theorem Inv.quiet {gi:List (Á×Obj)}{σ:St}{H:Hp}{s:Â} (I:Inv X gi σ H s):interactive X.env=false:=by simp [interactive,I.ok.kind]
def OK (te:TE):TS:=λ D σ H=>te σ H λ _ H1=>D.nx σ H1
theorem cZ (he:PE X e te) (hs:swapsWith e none pos.line X.env=pure false:=by with_unfolding_all rfl):PS X (.Expr e pos) (OK te):=by
 intro gi s σ H D I h;exact wpAny_Expr_any (cY (he gi s σ H _ I h) λ v s1 ⟨x,H1,I1,r1,q1⟩=>⟨σ,H1,I1,q1⟩) I.quiet hs
def OH (te:TE):TS:=λ D σ H=>te σ H D.rt
theorem bG (he:PE X e te):PS X (.Return (some e) pos) (OH te):=by
 intro gi s σ H D I h;exact wpAny_Return_some (cY (he gi s σ H _ I h) λ v s1 ⟨x,H1,I1,r1,q1⟩=>⟨x,σ,H1,I1,r1,q1⟩)
def FE (c:TT) (t u:TS):TS:=λ D σ H=>c σ H λ b H1=>if b=true then t D σ H1 else u D σ H1
theorem dA {c:Expr}{a b:List Stmt}{tc:TT} (hc:PT X c tc) (ha:xK X a t) (hb:xK X b u):PS X (.If c a b pos) (FE tc t u):=by
 intro gi s σ H D I h;refine wpAny_If (cY (hc gi s σ H _ I h) λ d s1 ⟨H1,I1,q1⟩=>?_);cases d with
 | true=>exact ha gi s1 σ H1 D I1 q1
 | false=>exact hb gi s1 σ H1 D I1 q1
end
abbrev TG:=V->St->Hp->(St->Hp->Prop)->Prop
abbrev IW:=List V->St->Hp->(St->Hp->Prop)->Prop
def PG (X:Cx) (target:Expr) (t:TG):Prop:=
 ∀ (gi:List (Á×Obj)) (s:Â) (σ:St) (H:Hp) (v:V) (u:À) (Q:St->Hp->Prop),Inv X gi σ H s->bE v u->t v σ H Q->
  wpAny (model X.prog X.w) X.A (assign target X.env u) (λ _ s'=>∃ ad H',Inv X gi ad H' s'/\Q ad H') X.xe s
def O7 (X:Cx) (ts:List Expr) (t:IW):Prop:=
 ∀ (gi:List (Á×Obj)) (s:Â) (σ:St) (H:Hp) (vs:List V) (us:List À) (Q:St->Hp->Prop),Inv X gi σ H s->bO vs us->t vs σ H Q->
  wpAny (model X.prog X.w) X.A (assignInOrder ((assignEach ts X.env).map (·.2)) us) (λ _ s'=>∃ ad H',Inv X gi ad H' s'/\Q ad H') X.xe s
abbrev IV:=V->V->V->Hp->(Hp->Prop)->Prop
def O6 (X:Cx) (t:IV):Prop:=
 ∀ (gi:List (Á×Obj)) (s:Â) (σ:St) (H:Hp) (o i v:V) (ov iv u:À) (Q:Hp->Prop),Inv X gi σ H s->bE o ov->bE i iv->bE v u->t o i v H Q->
  wpAny (model X.prog X.w) X.A (setItem ov iv u) (λ _ s'=>∃ H',Inv X gi σ H' s'/\Q H') X.xe s
abbrev OD:=V->V->Hp->VK->Prop
def PIp (X:Cx) (op:Operator) (t:OD):Prop:=
 ∀ (gi:List (Á×Obj)) (s:Â) (σ:St) (H:Hp) (x y:V) (v u:À) (Q:VK),Inv X gi σ H s->bE x v->bE y u->t x y H Q->
  wpAny (model X.prog X.w) X.A (inplaceOp op v u) (EP X gi σ Q) X.xe s
section
variable {X:Cx}{pos:Pos}
def eB (i:Nat):TG:=λ v σ H Q=>Q (σ.set i (some v)) H
theorem oA {i:Nat}{x:Str} (hN:X.N.Nodup) (hi:X.N[i]? = some x) (hx:MC X.env.scope x) (hf:X.fn x=true\/X.env.scope.names.lookup x=some .local:=by with_unfolding_all first | exact .inl rfl | exact .inr rfl | assumption):PG X (.Name x pos) (eB i):=by
 intro gi s σ H v u Q I r h;exact agz (hZ I hN hi hx r (λ s' I'=>⟨_,H,I',h⟩) hf)
def PK:IW:=λ vs σ H Q=>vs=[]/\Q σ H
def HZ (t:TG) (u:IW):IW:=λ vs σ H Q=>∃ v r,vs=v::r/\t v σ H λ ad H'=>u r ad H' Q
theorem aZ:O7 X [] PK:=by
 intro gi s σ H vs us Q I r h;obtain⟨e,h⟩:=h;subst e;cases r;exact assignInOrder_nil ⟨σ,H,I,h⟩
theorem aG {e:Expr}{es:List Expr}{t:TG}{u:IW} (h1:PG X e t) (h2:O7 X es u)
  (hs:(assignEach (e::es) X.env).map (·.2)=assign e X.env::(assignEach es X.env).map (·.2):=by with_unfolding_all rfl):O7 X (e::es) (HZ t u):=by
 intro gi s σ H vs us Q I r h;obtain⟨v,vr,e1,h⟩:=h;subst e1;cases r with
 | cons r rr=>
  rw[hs];refine afj (cY (h1 gi s σ H _ _ _ I r h) λ _ s1 ⟨dt,H1,I1,q1⟩=>?_);exact h2 gi s1 dt H1 _ _ Q I1 rr q1
def NT (K:Ç) (n:Nat) (t:IW):TG:=λ v σ H Q=>∃ a xs,v=.ref a/\bC K H a xs/\xs.length=n/\t xs σ H Q
theorem N6 {es:List Expr}{k:Nat}{t:IW}{n:Nat} (hc:X.calm=true) (h:O7 X es t)
  (hn:(assignEach es X.env).length=n:=by with_unfolding_all rfl) (qi:(assignEach es X.env).findIdx? (·.1)=none:=by with_unfolding_all rfl):PG X (.Tuple es k pos) (NT X.K n t):=by
 intro gi s σ H v u Q I r hw;obtain⟨a,xs,e1,hq,hl,hw⟩:=hw;subst e1;cases r;obtain⟨its,rv,ht,hz⟩:=I.tuple hq;refine assign_Tuple_tuple (I.ok.hd hc) ht (by simp [hn,<- hl,rv.length]) qi λ h' hx=>?_;have I1:Inv X gi σ H { s with heap:=h' }:=I.kept (t':=s.toks) λ b o e=>hx b o (Þ (Ñ e)) e;exact h gi _ σ H xs _ Q I1 (by simpa using rv) hw
def HY (to ti:TE) (t:IV):TG:=λ v σ H Q=>to σ H λ o H1=>ti σ H1 λ i H2=>t o i v H2 λ H3=>Q σ H3
theorem pD {o i:Expr}{to ti:TE}{t:IV} (ho:PE X o to) (hi:PE X i ti) (hs:O6 X t)
  (ha:∀ v,assign (.Subscript o i pos) X.env v=(do
   let ov <- holding [v] (eval o X.env);let iv <- holding [v,ov] (eval i X.env)
   standAt pos
   holding [v,ov,iv] (setItem ov iv v)
   release [v,ov,iv] []):=by intro _;with_unfolding_all rfl):PG X (.Subscript o i pos) (HY to ti t):=by
 intro gi s σ H v u Q I r h;rw[ha];refine Æ (ð (cY (ho gi s σ H _ I h) λ ov s1 ⟨x,H1,I1,r1,q1⟩=>?_));refine Æ (ð (cY (hi gi s1 σ H1 _ I1 q1) λ iv s2 ⟨y,H2,I2,r2,q2⟩=>?_));refine Æ (ŀ (Æ (ð (cY (hs gi s2 σ H2 x y v ov iv u _ I2 r1 r2 r q2) λ _ s3 ⟨H3,I3,q3⟩=>?_))));exact wpAny_release ⟨σ,H3,I3,q3⟩
def kK (te:TE) (g:TG):TS:=λ D σ H=>te σ H λ x H1=>g x σ H1 D.nx
theorem dU {tg e:Expr}{te:TE}{g:TG} (he:PE X e te) (hg:PG X tg g) (hs:swapsWithSole [tg] e pos.line X.env=pure false:=by with_unfolding_all rfl) (hw:swappedStores [tg] e X.env=pure none:=by with_unfolding_all rfl)
  (h1:(assignEach [tg] X.env).map (·.2)=[assign tg X.env]:=by with_unfolding_all rfl):PS X (.Assign [tg] e pos) (kK te g):=by
 intro gi s σ H D I h;refine wpAny_Assign_stores (cY (he gi s σ H _ I h) λ v s1 ⟨x,H1,I1,r1,q1⟩=>?_) hs hw;rw[h1];exact cY (hg gi s1 σ H1 x v _ I1 r1 q1) λ _ s2 q=>q
theorem eF {i:Nat}{x:Str}{e:Expr}{te:TE}{pos':Pos} (hN:X.N.Nodup) (hi:X.N[i]? = some x) (hx:MC X.env.scope x) (he:PE X e te) (hs:swapsWith e (some (.Name x pos')) pos.line X.env=pure false:=by with_unfolding_all rfl) (hf:X.fn x=true\/X.env.scope.names.lookup x=some .local:=by with_unfolding_all first | exact .inl rfl | exact .inr rfl | assumption) :
  PS X (.Assign [.Name x pos'] e pos) (kK te (eB i)):=by
 intro gi s σ H D I h;refine wpAny_Assign_Name (cY (he gi s σ H _ I h) λ v s1 ⟨y,H1,I1,r1,q1⟩=>?_) hs;exact hZ I1 hN hi hx r1 (λ s2 I2=>⟨_,H1,I2,q1⟩) hf
def tAug (i:Nat) (te:TE) (ti:OD):TS:=λ D σ H=>∃ x,σ[i]? = some (some x)/\te σ H λ y H1=>ti x y H1 λ z H2=>D.nx (σ.set i (some z)) H2
theorem G8 {i:Nat}{x:Str}{e:Expr}{te:TE}{op:Operator}{ti:OD}{pos':Pos} (hN:X.N.Nodup) (hi:X.N[i]? = some x) (hx:MC X.env.scope x) (he:PE X e te) (ho:PIp X op ti) (hf:X.fn x=true\/X.env.scope.names.lookup x=some .local:=by with_unfolding_all first | exact .inl rfl | exact .inr rfl | assumption) :
  PS X (.AugAssign (.Name x pos') op e pos) (tAug i te ti):=by
 intro gi s σ H D I h;obtain⟨v,e1,h⟩:=h;obtain⟨m,hn,hl⟩:=I.loc;have XA:PU X.env.scope x:=by rcases hx with k | k;exact .inl k;exact .inr (.inl k)
 obtain⟨u,r,l⟩:=hl i x v hi e1 XA;refine wpAny_AugAssign_Name ?_;have go:wpAny (model X.prog X.w) X.A (eval e X.env) (λ w cp=>wpAny (model X.prog X.w) X.A (inplaceOp op u w) (λ r bo=>wpAny (model X.prog X.w) X.A (storeName X.env x r) (λ _=>SP X gi D .next) X.xe bo) X.xe cp) X.xe s:=by
  refine cY (he gi s σ H _ I h) λ w s1 ⟨y,H1,I1,r1,q1⟩=>?_;refine cY (ho gi s1 σ H1 v y u w _ I1 r r1 q1) λ z s2 ⟨zv,H2,I2,r2,q2⟩=>?_;exact hZ I2 hN hi hx r2 (λ s3 I3=>⟨_,H2,I3,q2⟩) hf
 rcases l with ⟨hk,hm⟩ | ⟨hk,c,hc,jo⟩
 ·exact wpAny_loadName_local I.ok.kind hk hn hm go
 ·rcases hk with hk | hk
  ·exact wpAny_loadName_cell I.ok.kind hk hc jo go
  ·rcases hx with k | k
   ·have:X.env.scope.names.lookup x=some .free:=hk;rw[k] at this;cases this
   ·have:X.env.scope.names.lookup x=some .free:=hk;rw[k] at this;cases this
def OM (to ti te:TE) (Aw:V->V->Hp->VK->Prop) (tip:OD) (Ax:IV):TS:=λ D σ H=>to σ H λ o H1=>ti σ H1 λ i H2=>Aw o i H2 λ x H3=>te σ H3 λ y H4=>tip x y H4 λ z H5=>Ax o i z H5 λ H6=>D.nx σ H6
def O8 (X:Cx) (t:V->V->Hp->VK->Prop):Prop:=
 ∀ (gi:List (Á×Obj)) (s:Â) (σ:St) (H:Hp) (o i:V) (ov iv:À) (Q:VK),Inv X gi σ H s->bE o ov->bE i iv->t o i H Q->
  wpAny (model X.prog X.w) X.A (getItem ov iv) (EP X gi σ Q) X.xe s
theorem JZ {o i e:Expr}{to ti te:TE}{Aw:V->V->Hp->VK->Prop}{tip:OD}{Ax:IV}{op:Operator}{Df:Pos} (ho:PE X o to) (hi:PE X i ti) (hg:O8 X Aw) (he:PE X e te) (hp:PIp X op tip) (hs:O6 X Ax)
  (ha:∀ ov iv new,augStore i ov iv new=(do holding [new,ov,iv] (setItem ov iv new);release [new,ov,iv] [];pure .next):=by intros;with_unfolding_all rfl):PS X (.AugAssign (.Subscript o i Df) op e pos) (OM to ti te Aw tip Ax):=by
 intro gi s σ H D I h;refine wpAny_AugAssign_SubscriptAny (cY (ho gi s σ H _ I h) λ ov s1 ⟨x1,H1,I1,r1,q1⟩=>?_) ha;refine cY (hi gi s1 σ H1 _ I1 q1) λ iv s2 ⟨x2,H2,I2,r2,q2⟩=>?_;refine cY (hg gi s2 σ H2 x1 x2 ov iv _ I2 r1 r2 q2) λ jn s3 ⟨x3,H3,I3,r3,q3⟩=>?_;refine cY (he gi s3 σ H3 _ I3 q3) λ v s4 ⟨x4,H4,I4,r4,q4⟩=>?_;refine cY (hp gi s4 σ H4 x3 x4 jn v _ I4 r3 r4 q4) λ new s5 ⟨x5,H5,I5,r5,q5⟩=>?_;exact cY (hs gi s5 σ H5 x1 x2 x5 ov iv new _ I5 r1 r2 r5 q5) λ _ s6 ⟨H6,I6,q6⟩=>⟨σ,H6,I6,q6⟩
def ipI (f:Int->Int->Int):OD:=λ x y H Q=>∃ i j,x=.int i/\y=.int j/\Q (.int (f i j)) H
theorem HL:PIp X .Add (ipI λ i j=>i+j):=by
 intro gi s σ H x y v u Q I r1 r2 h;obtain⟨i,j,e1,e2,q⟩:=h;subst e1;subst e2;obtain⟨t,rfl⟩:=r1;obtain⟨t',rfl⟩:=r2;exact iadd_int ⟨.int _,H,I.tok _,⟨_,rfl⟩,q⟩
theorem NQ:PIp X .Sub (ipI λ i j=>i - j):=by
 intro gi s σ H x y v u Q I r1 r2 h;obtain⟨i,j,e1,e2,q⟩:=h;subst e1;subst e2;obtain⟨t,rfl⟩:=r1;obtain⟨t',rfl⟩:=r2;exact isub_int ⟨.int _,H,I.tok _,⟨_,rfl⟩,q⟩
def MJ (c:TT) (tb:TS):TS:=λ D σ H=>∃ W:Nat->St->Hp->Prop,(∃ m,W m σ H)/\∀ m σ H,W m σ H->
 c σ H λ b H1=>if b=true then ∃ N:St->Hp->Prop,(∀ ad H',N ad H'->∃ m',m' < m/\W m' ad H')/\tb { D with nx:=N,ct:=N,bk:=D.nx } σ H1 else D.nx σ H1
theorem kW {c:Expr}{body:List Stmt}{tc:TT}{tb:TS} (hp:PassesOwn (model X.prog X.w) X.A X.env X.xe) (hc:PT X c tc) (hb:xK X body tb):PS X (.While c body [] pos) (MJ tc tb):=by
 intro gi s σ H D I h;obtain⟨W,⟨m0,w0⟩,turn⟩:=h;refine wpAny_While (codeAny_whileLoop (λ n s'=>∃ ad H',Inv X gi ad H' s'/\W n ad H') ?_ m0 ⟨σ,H,I,w0⟩);rintro n s1 ⟨dt,H1,I1,w1⟩;refine Ŋ hp (cY (hc gi s1 dt H1 _ I1 (turn n dt H1 w1)) λ b s2 ⟨H2,I2,q2⟩=>?_);cases b with
 | true=>
  obtain⟨N,hN,q2⟩:=q2;rw[Å rfl];refine Ŋ hp (cY (hb gi s2 dt H2 _ I2 q2) λ f s3 q3=>?_);cases f with
  | next=>
   obtain⟨ak,H3,I3,n3⟩:=q3;obtain⟨m',hm,w3⟩:=hN ak H3 n3;exact⟨m',hm,ak,H3,I3,w3⟩
  | cont=>
   obtain⟨ak,H3,I3,n3⟩:=q3;obtain⟨m',hm,w3⟩:=hN ak H3 n3;exact⟨m',hm,ak,H3,I3,w3⟩
  | brk=>exact q3
  | ret v=>exact q3
 | false=>
  rw[Ä Û];exact agk ⟨dt,H2,I2,q2⟩
end
structure It where
 go:Nat->Hp->Prop
 yld:Nat->Hp->V->Hp->Prop
 stop:Nat->Hp->Prop
def gQ (X:Cx) (gi:List (Á×Obj)) (H:Hp) (b:Á):Prop:=
 H b=none/\b≠X.env.locals/\b∉X.fs/\(b∈X.ex\/X.s₀.heap.objs.size<=b)/\(∀ x c,X.env.cells.lookup x=some c->c≠b)/\∀ p∈X.pn++gi,p.1≠b
theorem Inv.fpOk {X:Cx}{gi:List (Á×Obj)}{σ:St}{H H':Hp}{s:Â}{b:Á} (I:Inv X gi σ H s) (hb:s.heap.objs.size<=b) (hn:H' b=none):gQ X gi H' b:=by
 refine⟨hn,Nat.ne_of_gt (í I.lt hb),I.nofs hb,.inr (Ĉ I.sz hb),λ x c e z=>?_,λ p hp z=>?_⟩
 ·obtain⟨v,q⟩:=I.cell x c e;exact absurd (í q.lt (by rw[z];exact hb)) (ā _)
 ·exact absurd (í (Ñ (I.pin p hp).1) (by rw[z];exact hb)) (ā _)
structure Turn (P:Ã) (w:World) (K:Ç) (tg:Expr) (J:It) (fp:List Á) (it:Á) (tn:Nat->Heap->Prop):Prop where
 mem:it∈fp
 obj:∀ i h,tn i h->∀ b∈fp,∃ o,h.get? b=some o/\∀ v,o.data≠.cell v
 keep:∀ i h h',tn i h->(∀ b∈fp,∀ o,h.get? b=some o->h'.get? b=some o)->tn i h'
 item:∀ (X:Cx),X.prog=P->X.w=w->X.K=K->X.calm=true->∀ (i:Nat) (gi:List (Á×Obj)) (s:Â) (σ:St) (H:Hp) (E:À->Â->Prop),Inv X gi σ H s->(∀ b∈fp,gQ X gi H b)->tn i s.heap->J.go i H->
  wpAny (model P w) X.A (pyNext (.ref it)) (λ r s1=>∃ u,r=some u/\
   wpAny (model P w) X.A (letOwnedTupleGo tg (.ref it) u) (λ _ s2=>∃ x H',Inv X gi σ H' s2/\bE x u/\J.yld i H x H'/\tn (i+1) s2.heap/\∀ b∈fp,H' b=none) E s1) E s
 done:∀ (X:Cx),X.prog=P->X.w=w->X.K=K->X.calm=true->∀ (i:Nat) (gi:List (Á×Obj)) (s:Â) (σ:St) (H:Hp) (E:À->Â->Prop),Inv X gi σ H s->(∀ b∈fp,gQ X gi H b)->tn i s.heap->J.stop i H->
  wpAny (model P w) X.A (pyNext (.ref it)) (λ r s1=>r=none/\Inv X gi σ H s1) E s
 self:∀ (A:Around) (i:Nat) (s:Â) (Q:À->Â->Prop) (E:À->Â->Prop),tn i s.heap->Q (.ref it) s->wpAny (model P w) A (pyIter (.ref it)) Q E s
abbrev TI:=St->Hp->(It->Hp->Prop)->Prop
def PIE (X:Cx) (gi:List (Á×Obj)) (σ:St) (tg:Expr) (R:It->Hp->Prop) (Fo:À) (s2:Â):Prop:=
 ∃ (it:Á) (fp:List Á) (tn:Nat->Heap->Prop) (J:It) (H':Hp),Fo=.ref it/\Inv X gi σ H' s2/\Turn X.prog X.w X.K tg J fp it tn/\tn 0 s2.heap/\(∀ b∈fp,gQ X gi H' b)/\R J H'
def PI (X:Cx) (tg iter:Expr) (wi:TI):Prop:=
 ∀ (gi:List (Á×Obj)) (s:Â) (σ:St) (H:Hp) (R:It->Hp->Prop),Inv X gi σ H s->wi σ H R->
  wpAny (model X.prog X.w) X.A (eval iter X.env) (λ v s1=>wpAny (model X.prog X.w) X.A (pyIter v) (PIE X gi σ tg R) X.xe s1) X.xe s
theorem HS {M:Model}{A:Around}{E:À->Â->Prop}{s:Â}{tg:Expr}{it:Á}{u:À}{o:Obj}{n:String}{vs:Array À}{Q:Unit->Â->Prop} (ho:s.heap.get? it=some o) (hc:o.cls=.type n) (hd:o.data=.fields vs)
  (hn:["enumerate","zip","dict_itemiterator","dict_reverseitemiterator","odict_iterator","itertools.zip_longest","itertools.pairwise"].contains n=false) (hQ:Q () s):wpAny M A (letOwnedTupleGo tg (.ref it) u) Q E s:=by
 unfold letOwnedTupleGo;cases tg <;> first
  | exact É hQ
  | (cases u <;> first
    | exact É hQ
    | (refine Æ (wpAny_load ho ?_)
       rw[hc,hd];show wpAny M A (if (["enumerate","zip","dict_itemiterator","dict_reverseitemiterator","odict_iterator","itertools.zip_longest","itertools.pairwise"].contains n && vs[0]? == some (rawInt _))=true then _ else _) Q E s;rw[Ä (by intro h;rw[hn,Bool.false_and] at h;cases h)];exact É hQ))
def JE (K:Ç) (a:Á):It:=
 ⟨λ i H=>∃ xs x,bD K H a xs/\xs[i]? = some x,λ i H x H'=>H'=H/\∀ xs,bD K H a xs->xs[i]? = some x,λ i H=>∃ xs,bD K H a xs/\xs.length<=i⟩
def LE (K:Ç) (a:Á):It:=
 ⟨λ i H=>∃ xs x,bC K H a xs/\xs[i]? = some x,λ i H x H'=>H'=H/\∀ xs,bC K H a xs->xs[i]? = some x,λ i H=>∃ xs,bC K H a xs/\xs.length<=i⟩
def JD (lo:Int) (n:Nat):It:=⟨λ i _=>i < n,λ i H x H'=>H'=H/\x=.int (lo+i),λ i _=>n<=i⟩
theorem CV {P:Ã}{w:World}{K:Ç}{tg:Expr} (a it:Á):Turn P w K tg (JE K a) [it] it (λ i h=>h.IsListIter it a i) where
 mem:=by simp
 obj:=λ i h st b hb=>by
  have e:b=it:=by simpa using hb
  subst e;obtain⟨o,e,c,d⟩:=st;exact⟨o,e,λ v z=>by rw[d] at z;cases z⟩
 keep:=λ i h h' st k=>st.at λ o e=>k it (by simp) o e
 item:=by
  intro X hP hw hK hc i gi s σ H E I hf st hg;subst hP hw hK;obtain⟨xs,x,hq,hx⟩:=hg;obtain⟨its,rv,p,hz⟩:=I.list hq;obtain⟨u,hu,ru⟩:=rv.get hx;obtain⟨f0,f1,f2,f3,f4,f5⟩:=hf it (by simp);refine wpAny_pyNext_list_item st p.isList (x:=u) (by simpa using hu) λ h' gx sb=>?_;have I1:Inv X gi σ H { s with heap:=h' }:=I.turned (t':=s.toks) (λ b o hb e=>(sb.2 b hb).trans e) f0 f1 f3 f4 f5;obtain⟨o,e,c,d⟩:=id gx;exact⟨u,rfl,HS (s:={ s with heap:=h' }) e c d (by decide) ⟨x,H,I1,ru,⟨rfl,λ ys hy=>by rw[I.list_inj hy hq];exact hx⟩,gx,λ b hb=>(hf b hb).1⟩⟩
 done:=by
  intro X hP hw hK hc i gi s σ H E I hf st hg;subst hP hw hK;obtain⟨xs,hq,hx⟩:=hg;obtain⟨its,rv,p,hz⟩:=I.list hq;obtain⟨f0,f1,f2,f3,f4,f5⟩:=hf it (by simp);have hl:=rv.length;exact wpAny_pyNext_list_end (I.ok.hd hc) st p.isList (by simp;lia) λ h' eb=>⟨rfl,I.turned (t':=s.toks) (λ b o hb e=>eb b o hb e) f0 f1 f3 f4 f5⟩
 self:=λ _ _ _ _ _ st h=>wpAny_pyIter_listiter st h
theorem zM {P:Ã}{w:World}{K:Ç}{tg:Expr} (a it:Á):Turn P w K tg (LE K a) [it] it (λ i h=>h.IsTupleIter it a i) where
 mem:=by simp
 obj:=λ i h st b hb=>by
  have e:b=it:=by simpa using hb
  subst e;obtain⟨o,e,c,d⟩:=st;exact⟨o,e,λ v z=>by rw[d] at z;cases z⟩
 keep:=λ i h h' st k=>st.at λ o e=>k it (by simp) o e
 item:=by
  intro X hP hw hK hc i gi s σ H E I hf st hg;subst hP hw hK;obtain⟨xs,x,hq,hx⟩:=hg;obtain⟨its,rv,p,hz⟩:=I.tuple hq;obtain⟨u,hu,ru⟩:=rv.get hx;obtain⟨f0,f1,f2,f3,f4,f5⟩:=hf it (by simp);refine wpAny_pyNext_tuple_item st (show s.heap.IsTuple a its.toArray from p) (x:=u) (by simpa using hu) λ h' gx sb=>?_;have I1:Inv X gi σ H { s with heap:=h' }:=I.turned (t':=s.toks) (λ b o hb e=>(sb.2 b hb).trans e) f0 f1 f3 f4 f5;obtain⟨o,e,c,d⟩:=id gx;exact⟨u,rfl,HS (s:={ s with heap:=h' }) e c d (by decide) ⟨x,H,I1,ru,⟨rfl,λ ys hy=>by rw[I.tuple_inj hy hq];exact hx⟩,gx,λ b hb=>(hf b hb).1⟩⟩
 done:=by
  intro X hP hw hK hc i gi s σ H E I hf st hg;subst hP hw hK;obtain⟨xs,hq,hx⟩:=hg;obtain⟨its,rv,p,hz⟩:=I.tuple hq;obtain⟨f0,f1,f2,f3,f4,f5⟩:=hf it (by simp);have hl:=rv.length;exact wpAny_pyNext_tuple_end (I.ok.hd hc) st (show s.heap.IsTuple a its.toArray from p) (by simp;lia) λ h' eb=>⟨rfl,I.turned (t':=s.toks) (λ b o hb e=>eb b o hb e) f0 f1 f3 f4 f5⟩
 self:=λ _ _ _ _ _ st h=>wpAny_pyIter_tupleiter st h
theorem zN {P:Ã}{w:World}{K:Ç}{tg:Expr} (it:Á) (lo:Int) (n:Nat):Turn P w K tg (JD lo n) [it] it (λ i h=>IsRangeIter h it (lo+(i:Nat) * 1) ((n:Int) - (i:Nat)) 1) where
 mem:=by simp
 obj:=λ i h st b hb=>by
  have e:b=it:=by simpa using hb
  subst e;exact⟨_,st,λ v z=>by
   have z':Data.fields _=Data.cell v:=z;cases z'⟩
 keep:=λ i h h' st k=>k it (by simp) _ st
 item:=by
  intro X hP hw hK hc i gi s σ H E I hf st hg;subst hP hw hK;obtain⟨f0,f1,f2,f3,f4,f5⟩:=hf it (by simp);have W:=Walks.range (prog:=X.prog) (w:=X.w) (I.ok.hd hc) it lo 1 n;refine W.item i s _ _ hg st λ v h' tk hv gx kk=>?_;obtain⟨t,rfl⟩:=hv;have I1:Inv X gi σ H { s with heap:=h',toks:=tk }:=I.turned (λ b o hb e=>kk b o (by simpa using hb) e) f0 f1 f3 f4 f5;refine⟨_,rfl,HS (s:={ s with heap:=h',toks:=tk }) (n := "range_iterator") gx rfl rfl (by decide) ⟨.int (lo+i),H,I1,⟨t,?_⟩,⟨rfl,rfl⟩,gx,λ b hb=>(hf b hb).1⟩⟩;rw[Int.mul_one]
 done:=by
  intro X hP hw hK hc i gi s σ H E I hf st hg;subst hP hw hK;obtain⟨f0,f1,f2,f3,f4,f5⟩:=hf it (by simp);exact wpAny_pyNext_range_end (I.ok.hd hc) st (by have:n<=i:=hg;lia) λ h' eb=>⟨rfl,I.turned (t':=s.toks) (λ b o hb e=>eb b o hb e) f0 f1 f3 f4 f5⟩
 self:=λ _ _ _ _ _ st h=>wpAny_pyIter_rangeiter st h
section
variable {X:Cx}{tg:Expr}
def M6 (K:Ç) (tl:TE):TI:=λ σ H R=>tl σ H λ x H1=>∃ a,x=.ref a/\(∃ xs,bD K H1 a xs)/\R (JE K a) H1
def PB (K:Ç) (tl:TE):TI:=λ σ H R=>tl σ H λ x H1=>∃ a,x=.ref a/\(∃ xs,bC K H1 a xs)/\R (LE K a) H1
theorem K3 {l:Expr}{tl:TE} (hl:PE X l tl):PI X tg l (M6 X.K tl):=by
 intro gi s σ H R I h;refine cY (hl gi s σ H _ I h) λ v s1 ⟨x,H1,I1,r1,q1⟩=>?_;obtain⟨a,e,⟨xs,hq⟩,q⟩:=q1;subst e;cases r1;obtain⟨its,rv,p,hz⟩:=I1.list hq;refine ag0 p.isList ?_;refine⟨s1.heap.objs.size,[s1.heap.objs.size],_,_,H1,rfl,I1.kept (t':=s1.toks) λ b o e=>Í _ e,CV a _,⟨_,ß _ rfl,rfl,rfl⟩,λ b hb=>?_,q⟩;have e:b=s1.heap.objs.size:=by simpa using hb
 subst e;exact I1.fpOk (Î _) (I1.hok.fresh (Î _))
theorem N5 {l:Expr}{tl:TE} (hl:PE X l tl):PI X tg l (PB X.K tl):=by
 intro gi s σ H R I h;refine cY (hl gi s σ H _ I h) λ v s1 ⟨x,H1,I1,r1,q1⟩=>?_;obtain⟨a,e,⟨xs,hq⟩,q⟩:=q1;subst e;cases r1;obtain⟨its,rv,p,hz⟩:=I1.tuple hq;refine afk (show s1.heap.IsTuple a its.toArray from p) ?_;refine⟨s1.heap.objs.size,[s1.heap.objs.size],_,_,H1,rfl,I1.kept (t':=s1.toks) λ b o e=>Í _ e,zM a _,⟨_,ß _ rfl,rfl,rfl⟩,λ b hb=>?_,q⟩;have e:b=s1.heap.objs.size:=by simpa using hb
 subst e;exact I1.fpOk (Î _) (I1.hok.fresh (Î _))
theorem FU {gi:List (Á×Obj)}{σ:St}{H:Hp}{s:Â}{R:It->Hp->Prop}{E:À->Â->Prop}{lo hi:Int}{t u v:Tok}{tk:Nat} (I:Inv X gi σ H s) (h1 : -(2 ^ 62)<=lo) (h2:lo < 2 ^ 62) (h3 : -(2 ^ 62)<=hi) (h4:hi < 2 ^ 62)
  (q:R (JD lo (hi - lo).toNat) H):wpAny (model X.prog X.w) X.A (pyIter (.ref s.heap.objs.size)) (PIE X gi σ tg R) E { s with heap:=s.heap.push { cls:=.type "range",data:=.fields #[.int lo t,.int hi u,.int 1 v] },toks:=tk }:=by
 refine wpAny_pyIter_range (IsRange.new ..) (small_one h1 h2 h3 h4) ?_;have I1:Inv X gi σ H { s with heap:=s.heap.push { cls:=.type "range",data:=.fields #[.int lo t,.int hi u,.int 1 v] },toks:=tk }:=I.kept λ b o e=>Í _ e;refine⟨(s.heap.push { cls:=.type "range",data:=.fields #[.int lo t,.int hi u,.int 1 v] }).objs.size,[(s.heap.push { cls:=.type "range",data:=.fields #[.int lo t,.int hi u,.int 1 v] }).objs.size],_,_,H,rfl,
  I1.kept (t':=tk) λ b o e=>Í _ e,zN _ lo (hi - lo).toNat,?_,λ b hb=>?_,q⟩
 ·have e1:lo+((0:Nat):Int) * 1=lo:=by simp
  have e2:(((hi - lo).toNat:Nat):Int) - ((0:Nat):Int)=Builtin.Range.rangeSize lo hi 1:=by rw[rangeSize_one];split <;> lia
  show IsRangeIter _ _ (lo+((0:Nat):Int) * 1) ((((hi - lo).toNat:Nat):Int) - ((0:Nat):Int)) 1;rw[e1,e2];exact ß _ rfl
 ·have e:b=(s.heap.push { cls:=.type "range",data:=.fields #[.int lo t,.int hi u,.int 1 v] }).objs.size:=by simpa using hb
  subst e;exact I1.fpOk (Î _) (I1.hok.fresh (Î _))
def PC (ta:TA):TI:=λ σ H R=>ta σ H λ vs H1=>∃ j:Int,vs=[.int j]/\-(2 ^ 62)<=j/\j < 2 ^ 62/\R (JD 0 j.toNat) H1
theorem cD {a:Expr}{ta:TA}{p pos:Pos} (hg:Gl X "range") (hm:X.mg "range" = none) (ha:PA X [a] ta) (hs:starEach [a] X.env=[(false,eval a X.env)]:=by with_unfolding_all rfl):PI X tg (.Call (.Name "range" p) [a] [] pos) (PC ta):=by
 intro gi s σ H R I h;refine Call_ (nB I hg hm boot_range (š (cY (ha pos gi s σ H _ I h) λ us s1 ⟨vs,H1,I1,r1,q1⟩=>?_) hs rfl));obtain⟨j,e,q1,q2,q⟩:=q1;subst e;cases r1 with
 | cons r rr=>
  cases rr;obtain⟨t,rfl⟩:=r;exact call_range_1 (FU I1 (by lia) (by lia) q1 q2 (by simpa using q))
def tFor (wi:TI) (g:TG) (tb:TS):TS:=λ D σ H=>wi σ H λ J H1=>∃ W:Nat->Nat->St->Hp->Prop,(∃ m,W 0 m σ H1)/\∀ i m σ H,W i m σ H->
 (J.stop i H/\D.nx σ H)\/(J.go i H/\∃ N:St->Hp->Prop,(∀ ad H',N ad H'->∃ m',m' < m/\W (i+1) m' ad H')/\∀ x H',J.yld i H x H'->g x σ H' λ au H2=>tb { D with nx:=N,ct:=N,bk:=D.nx } au H2)
def mZ (fp:List Á) (h:Heap):List (Á×Obj):=fp.filterMap λ b=>(h.get? b).map λ o=>(b,o)
theorem eY {fp:List Á}{h:Heap}{b:Á}{o:Obj} (hb:b∈fp) (e:h.get? b=some o):(b,o)∈mZ fp h:=List.mem_filterMap.mpr ⟨b,hb,by rw[e];rfl⟩
theorem DG {fp:List Á}{h:Heap}{p:Á×Obj} (hp:p∈mZ fp h):p.1∈fp/\h.get? p.1=some p.2:=by
 obtain⟨b,hb,e⟩:=List.mem_filterMap.mp hp;cases q:h.get? b with
 | none=>rw[q] at e;cases e
 | some o=>
  rw[q] at e;have e':(b,o)=p:=â e;subst e';exact⟨hb,q⟩
theorem Inv.pinned {gi:List (Á×Obj)}{σ:St}{H:Hp}{s:Â}{fp:List Á} (I:Inv X gi σ H s) (hf:∀ b∈fp,gQ X gi H b) (ho:∀ b∈fp,∃ o,s.heap.get? b=some o/\∀ v,o.data≠.cell v):Inv X (gi++mZ fp s.heap) σ H s:=
 I.pins_of λ p hp=>(ñ.mp hp).elim (λ z=>I.pin p (ü _ z)) λ z=>by
  obtain⟨hb,e⟩:=DG z;obtain⟨f0,f1,f2,_⟩:=hf p.1 hb;obtain⟨o,e',d⟩:=ho p.1 hb;rw[e] at e';cases e';exact⟨e,f0,f1,f2,d⟩
theorem Inv.unpinned {gi pl:List (Á×Obj)}{σ:St}{H:Hp}{s:Â} (I:Inv X (gi++pl) σ H s):Inv X gi σ H s:=I.pins_of λ p hp=>I.pin p (ü _ (Ī _ hp))
theorem cX {iter:Expr}{body:List Stmt}{wi:TI}{g:TG}{tb:TS}{pos:Pos} (hp:PassesOwn (model X.prog X.w) X.A X.env X.xe) (hc:X.calm=true) (hi:PI X tg iter wi) (hg:PG X tg g) (hb:xK X body tb)
  (hs:∀ x,foldedSetIterable iter X.env x=pure x:=by intro _;with_unfolding_all rfl):PS X (.For tg iter body [] pos) (tFor wi g tb):=by
 intro gi s σ H D I h;refine wpAny_For (cY (hi gi s σ H _ I h) λ v s1 h1=>cY h1 λ Fo s2 h2=>?_) hs;obtain⟨it,fp,tn,J,H2,e,I2,T,ki,f2,W,⟨m0,w0⟩,turn⟩:=h2;subst e;have ko:∀ {H':Hp},(∀ b∈fp,H' b=none)->∀ b∈fp,gQ X gi H' b:=λ hn b hb=>⟨hn b hb,(f2 b hb).2⟩;refine codeAny_forLoop_any (λ n s'=>∃ i ad H',Inv X gi ad H' s'/\tn i s'.heap/\(∀ b∈fp,H' b=none)/\W i n ad H') ?_ m0 ⟨0,σ,H2,I2,ki,λ b hb=>(f2 b hb).1,w0⟩;rintro n s3 ⟨i,ak,H3,I3,lh,U8,w3⟩;rcases turn i n ak H3 w3 with ⟨stop,qn⟩ | ⟨go,N,hN,step⟩
 ·refine Ŋ hp (cY (T.done X rfl rfl rfl hc i gi s3 ak H3 X.xe I3 (ko U8) lh stop) λ r s4 ⟨hr,I4⟩=>?_);subst hr;exact agk ⟨ak,H3,I4,qn⟩
 ·refine Ŋ hp (cY (T.item X rfl rfl rfl hc i gi s3 ak H3 X.xe I3 (ko U8) lh go) λ r s4 ⟨u,hr,h4⟩=>?_);subst hr;refine Ŋ hp (cY h4 λ _ s5 ⟨x,H5,I5,r5,y5,wn,Ah⟩=>?_);have XB:=I5.pinned (ko Ah) (T.obj _ _ wn);refine Ŋ hp (cY (hg _ s5 ak H5 x u _ XB r5 (step x H5 y5)) λ _ s6 ⟨σ6,H6,I6,q6⟩=>?_);refine Ŋ hp (cY (hb _ s6 σ6 H6 _ I6 q6) λ f s7 q7=>?_);have again:∀ {cu:St}{H7:Hp},Inv X (gi++mZ fp s5.heap) cu H7 s7->N cu H7->∃ m,m < n/\∃ i ad H',Inv X gi ad H' s7/\tn i s7.heap/\(∀ b∈fp,H' b=none)/\W i m ad H':=λ {cu H7} I7 n7=>by
   obtain⟨m',hm,w7⟩:=hN cu H7 n7;refine⟨m',hm,i+1,cu,H7,I7.unpinned,T.keep _ _ _ wn λ b hb o e=>(I7.pin (b,o) (ü _ (ü _ (eY hb e)))).1,λ b hb=>?_,w7⟩;obtain⟨o,e,d⟩:=T.obj _ _ wn b hb;exact (I7.pin (b,o) (ü _ (ü _ (eY hb e)))).2.1
  cases f with
  | next=>obtain⟨cu,H7,I7,n7⟩:=q7;exact again I7 n7
  | cont=>obtain⟨cu,H7,I7,n7⟩:=q7;exact again I7 n7
  | brk=>obtain⟨cu,H7,I7,q7⟩:=q7;exact⟨cu,H7,I7.unpinned,q7⟩
  | ret v=>obtain⟨x7,cu,H7,I7,r7,q7⟩:=q7;exact⟨x7,cu,H7,I7.unpinned,r7,q7⟩
end
theorem oP {K:Ç}{a:Á}{xs:List V}{g:TG}{tb:TS}{D:Ends}{σ:St}{H:Hp} (Pv:Nat->St->Hp->Prop) (h0:Pv 0 σ H) (hl:∀ i σ H,i<=xs.length->Pv i σ H->bD K H a xs)
  (hs:∀ i x σ H,xs[i]? = some x->Pv i σ H->g x σ H λ au H2=>tb { D with nx:=Pv (i+1),ct:=Pv (i+1),bk:=D.nx } au H2) (hd:∀ σ H,Pv xs.length σ H->D.nx σ H) :
  ∃ W:Nat->Nat->St->Hp->Prop,(∃ m,W 0 m σ H)/\∀ i m σ H,W i m σ H->
   ((JE K a).stop i H/\D.nx σ H)\/((JE K a).go i H/\∃ N:St->Hp->Prop,(∀ ad H',N ad H'->∃ m',m' < m/\W (i+1) m' ad H')/\∀ x H',(JE K a).yld i H x H'->g x σ H' λ au H2=>tb { D with nx:=N,ct:=N,bk:=D.nx } au H2):=by
 refine⟨λ i m σ H=>m=xs.length - i/\i<=xs.length/\Pv i σ H,⟨xs.length,by simp,æ _,h0⟩,?_⟩;rintro i m σ H ⟨rfl,hi,p⟩;have q:=hl i σ H hi p
 by_cases jk:i < xs.length
 ·refine .inr ⟨⟨xs,xs[i],q,by simp [jk]⟩,Pv (i+1),λ ad H' p'=>⟨xs.length - (i+1),by lia,rfl,jk,p'⟩,λ x H' y=>?_⟩;obtain⟨e,y⟩:=y;subst e;exact hs i x σ _ (y xs q) p
 ·have e:i=xs.length:=by lia
  subst e;exact .inl ⟨⟨xs,q,Î _⟩,hd σ H p⟩
theorem BU {K:Ç}{a:Á}{xs:List V}{g:TG}{tb:TS}{D:Ends}{σ:St}{H:Hp} (Pv:Nat->St->Hp->Prop) (h0:Pv 0 σ H) (hl:∀ i σ H,i<=xs.length->Pv i σ H->bC K H a xs)
  (hs:∀ i x σ H,xs[i]? = some x->Pv i σ H->g x σ H λ au H2=>tb { D with nx:=Pv (i+1),ct:=Pv (i+1),bk:=D.nx } au H2) (hd:∀ σ H,Pv xs.length σ H->D.nx σ H) :
  ∃ W:Nat->Nat->St->Hp->Prop,(∃ m,W 0 m σ H)/\∀ i m σ H,W i m σ H->
   ((LE K a).stop i H/\D.nx σ H)\/((LE K a).go i H/\∃ N:St->Hp->Prop,(∀ ad H',N ad H'->∃ m',m' < m/\W (i+1) m' ad H')/\∀ x H',(LE K a).yld i H x H'->g x σ H' λ au H2=>tb { D with nx:=N,ct:=N,bk:=D.nx } au H2):=by
 refine⟨λ i m σ H=>m=xs.length - i/\i<=xs.length/\Pv i σ H,⟨xs.length,by simp,æ _,h0⟩,?_⟩;rintro i m σ H ⟨rfl,hi,p⟩;have q:=hl i σ H hi p
 by_cases jk:i < xs.length
 ·refine .inr ⟨⟨xs,xs[i],q,by simp [jk]⟩,Pv (i+1),λ ad H' p'=>⟨xs.length - (i+1),by lia,rfl,jk,p'⟩,λ x H' y=>?_⟩;obtain⟨e,y⟩:=y;subst e;exact hs i x σ _ (y xs q) p
 ·have e:i=xs.length:=by lia
  subst e;exact .inl ⟨⟨xs,q,Î _⟩,hd σ H p⟩
theorem lX {lo:Int}{n:Nat}{g:TG}{tb:TS}{D:Ends}{σ:St}{H:Hp} (Pv:Nat->St->Hp->Prop) (h0:Pv 0 σ H)
  (hs:∀ i σ H,i < n->Pv i σ H->g (.int (lo+i)) σ H λ au H2=>tb { D with nx:=Pv (i+1),ct:=Pv (i+1),bk:=D.nx } au H2) (hd:∀ σ H,Pv n σ H->D.nx σ H) :
  ∃ W:Nat->Nat->St->Hp->Prop,(∃ m,W 0 m σ H)/\∀ i m σ H,W i m σ H->
   ((JD lo n).stop i H/\D.nx σ H)\/((JD lo n).go i H/\∃ N:St->Hp->Prop,(∀ ad H',N ad H'->∃ m',m' < m/\W (i+1) m' ad H')/\∀ x H',(JD lo n).yld i H x H'->g x σ H' λ au H2=>tb { D with nx:=N,ct:=N,bk:=D.nx } au H2):=by
 refine⟨λ i m σ H=>m=n - i/\i<=n/\Pv i σ H,⟨n,by simp,æ _,h0⟩,?_⟩;rintro i m σ H ⟨rfl,hi,p⟩
 by_cases jk:i < n
 ·refine .inr ⟨jk,Pv (i+1),λ ad H' p'=>⟨n - (i+1),by lia,rfl,jk,p'⟩,λ x H' y=>?_⟩;obtain⟨e,y⟩:=y;subst e y;exact hs i σ _ jk p
 ·have e:i=n:=by lia
  subst e;exact .inl ⟨Î _,hd σ H p⟩
abbrev R2:=V->V->Hp->VK->Prop
def jJ (X:Cx) (f:À->À->Sem À) (r:R2):Prop:=
 ∀ (gi:List (Á×Obj)) (s:Â) (σ:St) (H:Hp) (x y:V) (v u:À) (Q:VK),Inv X gi σ H s->bE x v->bE y u->r x y H Q->
  wpAny (model X.prog X.w) X.A (f v u) (EP X gi σ Q) X.xe s
def dZ (X:Cx) (f:À) (r:List V->Hp->VK->Prop):Prop:=
 ∀ (gi:List (Á×Obj)) (s:Â) (σ:St) (H:Hp) (xs:List V) (us:List À) (Q:VK),Inv X gi σ H s->bO xs us->r xs H Q->
  wpAny (model X.prog X.w) X.A (call f us) (EP X gi σ Q) X.xe s
def jI (r:R2) (ta tb:TE):TE:=λ σ H Q=>ta σ H λ x H1=>tb σ H1 λ y H2=>r x y H2 Q
def rI (C:Int->Int->Prop) (g:Int->Int->V):R2:=λ x y H Q=>∃ i j,x=.int i/\y=.int j/\C i j/\Q (g i j) H
def vU (g:Int->Int->V):R2:=λ x y H Q=>∃ i j,x=.int i/\y=.int j/\Q (g i j) H
section
variable {X:Cx}{a b c:Expr}{ta tb tc:TE}{pos:Pos}
theorem O3 (ha:PE X a ta) (hb:PE X b tb) {gi:List (Á×Obj)}{s:Â}{σ:St}{H:Hp}{R:V->V->Hp->Prop} (I:Inv X gi σ H s)
  (h:ta σ H λ x H1=>tb σ H1 λ y H2=>R x y H2) {Q:À->Â->Prop}{f:À->À->Sem À}
  (hf:∀ v u s2 x y H2,Inv X gi σ H2 s2->bE x v->bE y u->R x y H2->wpAny (model X.prog X.w) X.A (f v u) Q X.xe s2) :
  wpAny (model X.prog X.w) X.A (eval a X.env) (λ v ai=>wpAny (model X.prog X.w) X.A (eval b X.env) (λ u cp=>wpAny (model X.prog X.w) X.A (f v u) Q X.xe cp) X.xe ai) X.xe s:=by
 refine cY (ha gi s σ H _ I h) λ v s1 ⟨x,H1,I1,r1,q1⟩=>?_;refine cY (hb gi s1 σ H1 _ I1 q1) λ u s2 ⟨y,H2,I2,r2,q2⟩=>?_;exact hf v u s2 x y H2 I2 r1 r2 q2
theorem aS {op:Operator}{r:R2} (ho:jJ X (binaryOp op) r) (ha:PE X a ta) (hb:PE X b tb):PE X (.BinOp a op b pos) (jI r ta tb):=by
 intro gi s σ H Q I h;exact wpAny_BinOp (O3 ha hb I h λ v u s2 x y H2 I2 rx ry q=>ho gi s2 σ H2 x y v u Q I2 rx ry q)
theorem P2 {f:À->À->Sem À}{C:Int->Int->Prop}{g:Int->Int->Int}
  (rule:∀ (i j:Int) (t u:Tok) (s:Â) (Q:À->Â->Prop) (E:À->Â->Prop),C i j->Q (.int (g i j) s.toks) { s with toks:=s.toks+1 }->wpAny (model X.prog X.w) X.A (f (.int i t) (.int j u)) Q E s) :
  jJ X f (rI C λ i j=>.int (g i j)):=by
 intro gi s σ H x y v u Q I rx ry h;obtain⟨i,j,rfl,rfl,hc,q⟩:=h;obtain⟨t,rfl⟩:=rx;obtain⟨t',rfl⟩:=ry;exact rule i j t t' s _ _ hc ⟨.int (g i j),H,I.tok _,⟨_,rfl⟩,q⟩
theorem P1 {f:À->À->Sem À}{g:Int->Int->Int}
  (rule:∀ (i j:Int) (t u:Tok) (s:Â) (Q:À->Â->Prop) (E:À->Â->Prop),Q (.int (g i j) s.toks) { s with toks:=s.toks+1 }->wpAny (model X.prog X.w) X.A (f (.int i t) (.int j u)) Q E s) :
  jJ X f (vU λ i j=>.int (g i j)):=by
 intro gi s σ H x y v u Q I rx ry h;obtain⟨i,j,rfl,rfl,q⟩:=h;obtain⟨t,rfl⟩:=rx;obtain⟨t',rfl⟩:=ry;exact rule i j t t' s _ _ ⟨.int (g i j),H,I.tok _,⟨_,rfl⟩,q⟩
theorem KC {f:À->À->Sem À}{g:Int->Int->Bool}
  (rule:∀ (i j:Int) (t u:Tok) (s:Â) (Q:À->Â->Prop) (E:À->Â->Prop),Q (.bool (g i j)) s->wpAny (model X.prog X.w) X.A (f (.int i t) (.int j u)) Q E s) :
  jJ X f (vU λ i j=>.bl (g i j)):=by
 intro gi s σ H x y v u Q I rx ry h;obtain⟨i,j,rfl,rfl,q⟩:=h;obtain⟨t,rfl⟩:=rx;obtain⟨t',rfl⟩:=ry;exact rule i j t t' s _ _ ⟨.bl (g i j),H,I,rfl,q⟩
def OB (i j:Int):Prop:=0 < j/\j < 1073741824
def Q0 (i j:Int):Prop:=0<=j/\j<=1000000/\i.natAbs < 2 ^ 64
def zI (i j:Int):Prop:=(-(2 ^ 64) < i/\i < 2 ^ 64)\/(-(2 ^ 64) < j/\j < 2 ^ 64)
theorem zI.ok {i j:Int} (h:zI i j):IntMulOk i j:=by
 rcases h with ⟨h1,h2⟩ | ⟨h1,h2⟩
 ·exact .of_left (intBits_le_64 h1 h2)
 ·exact .of_right (intBits_le_64 h1 h2)
theorem cB:jJ X (binaryOp .Add) (vU λ i j=>.int (i+j)):=P1 λ _ _ _ _ _ _ _ q=>add_int q
theorem iB:jJ X (binaryOp .Sub) (vU λ i j=>.int (i - j)):=P1 λ _ _ _ _ _ _ _ q=>sub_int q
theorem jS:jJ X (binaryOp .Mult) (rI zI λ i j=>.int (i * j)):=P2 λ _ _ _ _ _ _ _ hc q=>mul_int q hc.ok
theorem jT:jJ X (binaryOp .FloorDiv) (rI OB λ i j=>.int (i / j)):=P2 λ i j _ _ _ _ _ hc q=>by
 have h1:(0:Int) < j:=hc.1;have h2:j < 1073741824:=hc.2;exact floordiv_int (by lia) (by rw[agr i (by lia)];exact q) (.inl (PyProof.noPylong_small (by lia)))
theorem kZ:jJ X (binaryOp .Mod) (rI (λ _ j=>0 < j) λ i j=>.int (i % j)):=P2 λ i j _ _ _ _ _ hc q=>by
 have h1:(0:Int) < j:=hc;exact mod_int' (by lia) (by rw[Int.fmod_eq_emod_of_nonneg i (by lia)];exact q)
theorem NC:jJ X (binaryOp .Pow) (rI Q0 λ i j=>.int (i ^ j.toNat)):=P2 λ _ _ _ _ _ _ _ hc q=>pow_int_small hc.1 hc.2.1 hc.2.2 q
end
def MW:V->V->Bool
 | .non,.non=>true | .non,.int _=>true | .int _,.non=>true | .non,.bl _=>true | .bl _,.non=>true | .non,.str _=>true | .str _,.non=>true
 | .int _,.int _=>true | .bl _,.bl _=>true | .str _,.str _=>true | .byt _,.byt _=>true
 | .int _,.str _=>true | .str _,.int _=>true | .bl _,.str _=>true | .str _,.bl _=>true
 | _,_=>false
def rEq:R2:=λ x y H Q=>MW x y=true/\Q (.bl (decide (x=y))) H
def rNe:R2:=λ x y H Q=>MW x y=true/\Q (.bl (!decide (x=y))) H
theorem BY {i j:Int}:decide (V.int i=V.int j)=(i == j):=by
 rw[Ŀ];simp
theorem IG {i j:Bool}:decide (V.bl i=V.bl j)=(i == j):=by
 rw[Ŀ];simp
theorem BX {i j:Str}:decide (V.str i=V.str j)=(i == j):=by
 rw[Ŀ];simp
theorem BZ {i j:Array UInt8}:decide (V.byt i=V.byt j)=(i.toList == j.toList):=by
 rw[Ŀ];cases i;cases j;simp
section
variable {X:Cx}{a b c:Expr}{ta tb tc:TE}{pos:Pos}
theorem cC {gi:List (Á×Obj)}{σ:St}{H:Hp}{s:Â}{Q:VK}{k k':Bool} (I:Inv X gi σ H s) (q:Q (.bl k) H) (e:k=k'):EP X gi σ Q (.bool k') s:=by
 subst e;exact⟨.bl k,H,I,rfl,q⟩
theorem mR:jJ X (compareOp .Eq) rEq:=by
 intro gi s σ H x y v u Q I rx ry h;obtain⟨hs,q⟩:=h;cases x with
 | non=>
  cases rx;cases y with
  | non=>cases ry;exact PySem.EqNone.eq_none_none (cC I q (by simp))
  | bl j=>cases ry;exact PySem.EqNone.eq_none_bool (cC I q (by simp))
  | int j=>obtain⟨t',rfl⟩:=ry;exact PySem.EqNone.eq_none_int (cC I q (by simp))
  | str j=>obtain⟨t',rfl⟩:=ry;exact PySem.EqNone.eq_none_str (cC I q (by simp))
  | _=>exact absurd (show false=true from hs) Û
 | bl i=>
  cases rx;cases y with
  | non=>cases ry;exact PySem.EqNone.eq_bool_none (cC I q (by simp))
  | bl j=>cases ry;exact eq_bool (cC I q IG)
  | str j=>obtain⟨t',rfl⟩:=ry;exact PySem.EqMixed.eq_bool_str (cC I q (by simp))
  | _=>exact absurd (show false=true from hs) Û
 | int i=>
  obtain⟨t,rfl⟩:=rx;cases y with
  | non=>cases ry;exact PySem.EqNone.eq_int_none (cC I q (by simp))
  | int j=>obtain⟨t',rfl⟩:=ry;exact eq_int (cC I q BY)
  | str j=>obtain⟨t',rfl⟩:=ry;exact PySem.EqMixed.eq_int_str (cC I q (by simp))
  | _=>exact absurd (show false=true from hs) Û
 | str i=>
  obtain⟨t,rfl⟩:=rx;cases y with
  | non=>cases ry;exact PySem.EqNone.eq_str_none (cC I q (by simp))
  | bl j=>cases ry;exact PySem.EqMixed.eq_str_bool (cC I q (by simp))
  | int j=>obtain⟨t',rfl⟩:=ry;exact PySem.EqMixed.eq_str_int (cC I q (by simp))
  | str j=>obtain⟨t',rfl⟩:=ry;exact eq_str (cC I q BX)
  | _=>exact absurd (show false=true from hs) Û
 | byt i=>
  obtain⟨t,rfl⟩:=rx;cases y with
  | byt j=>obtain⟨t',rfl⟩:=ry;exact PySem.W.eq_bytes (cC I q BZ)
  | _=>exact absurd (show false=true from hs) Û
 | _=>cases y <;> exact absurd (show false=true from hs) Û
theorem yE:jJ X (compareOp .NotEq) rNe:=by
 intro gi s σ H x y v u Q I rx ry h;obtain⟨hs,q⟩:=h;cases x with
 | non=>
  cases rx;cases y with
  | non=>cases ry;exact PySem.EqNone.ne_none_none (cC I q (by simp))
  | bl j=>cases ry;exact PySem.EqNone.ne_none_bool (cC I q (by simp))
  | int j=>obtain⟨t',rfl⟩:=ry;exact PySem.EqNone.ne_none_int (cC I q (by simp))
  | str j=>obtain⟨t',rfl⟩:=ry;exact PySem.EqNone.ne_none_str (cC I q (by simp))
  | _=>exact absurd (show false=true from hs) Û
 | bl i=>
  cases rx;cases y with
  | non=>cases ry;exact PySem.EqNone.ne_bool_none (cC I q (by simp))
  | bl j=>cases ry;exact ne_bool (cC I q (congrArg not IG))
  | str j=>obtain⟨t',rfl⟩:=ry;exact PySem.EqMixed.ne_bool_str (cC I q (by simp))
  | _=>exact absurd (show false=true from hs) Û
 | int i=>
  obtain⟨t,rfl⟩:=rx;cases y with
  | non=>cases ry;exact PySem.EqNone.ne_int_none (cC I q (by simp))
  | int j=>obtain⟨t',rfl⟩:=ry;exact ne_int (cC I q (congrArg not BY))
  | str j=>obtain⟨t',rfl⟩:=ry;exact PySem.EqMixed.ne_int_str (cC I q (by simp))
  | _=>exact absurd (show false=true from hs) Û
 | str i=>
  obtain⟨t,rfl⟩:=rx;cases y with
  | non=>cases ry;exact PySem.EqNone.ne_str_none (cC I q (by simp))
  | bl j=>cases ry;exact PySem.EqMixed.ne_str_bool (cC I q (by simp))
  | int j=>obtain⟨t',rfl⟩:=ry;exact PySem.EqMixed.ne_str_int (cC I q (by simp))
  | str j=>obtain⟨t',rfl⟩:=ry;exact ne_str (cC I q (congrArg not BX))
  | _=>exact absurd (show false=true from hs) Û
 | byt i=>
  obtain⟨t,rfl⟩:=rx;cases y with
  | byt j=>obtain⟨t',rfl⟩:=ry;exact PySem.W.ne_bytes (cC I q (congrArg not BZ))
  | _=>exact absurd (show false=true from hs) Û
 | _=>cases y <;> exact absurd (show false=true from hs) Û
theorem oB:jJ X (compareOp .Lt) (vU λ i j=>.bl (decide (i < j))):=KC λ _ _ _ _ _ _ _ q=>lt_int q
theorem LZ:jJ X (compareOp .LtE) (vU λ i j=>.bl (decide (i<=j))):=KC λ _ _ _ _ _ _ _ q=>le_int q
theorem yF:jJ X (compareOp .Gt) (vU λ i j=>.bl (decide (j < i))):=KC λ _ _ _ _ _ _ _ q=>gt_int q
theorem BE:jJ X (compareOp .GtE) (vU λ i j=>.bl (decide (j<=i))):=KC λ _ _ _ _ _ _ _ q=>ge_int q
theorem A0:jJ X (compareOp .Is) (λ x y H Q=>y=.non/\Q (.bl (decide (x=.non))) H):=by
 intro gi s σ H x y v u Q I rx ry h;obtain⟨rfl,q⟩:=h;cases ry;refine is_none_gen (cC I q ?_);cases x <;> first
  | (cases rx;rfl)
  | (obtain⟨t,rfl⟩:=rx;rfl)
theorem bH (b:Expr) {op:CmpOp} (h:op≠.In:=by decide) (h2:op≠.NotIn:=by decide):behindInMarks op b=false:=by
 have e1:(op == CmpOp.In)=false:=by cases op <;> first | rfl | exact absurd rfl h
 have e2:(op == CmpOp.NotIn)=false:=by cases op <;> first | rfl | exact absurd rfl h2
 cases b <;> simp [behindInMarks,e1,e2]
theorem fN {op:CmpOp}{r:R2} (ho:jJ X (compareOp op) r) (ha:PE X a ta) (hb:PE X b tb) (hm:behindInMarks op b=false):PE X (.Compare a [op] [b] pos) (jI r ta tb):=by
 intro gi s σ H Q I h;exact wpAny_Compare1 (O3 ha hb I h λ v u s2 x y H2 I2 rx ry q=>ho gi s2 σ H2 x y v u Q I2 rx ry q) hm
def AW (t:TE):TT:=λ σ H Q=>t σ H λ x H'=>∃ k,x=.bl k/\Q k H'
theorem bF {op:CmpOp}{r:R2} (ho:jJ X (compareOp op) r) (ha:PE X a ta) (hb:PE X b tb) (hm:behindInMarks op b=false):PT X (.Compare a [op] [b] pos) (AW (jI r ta tb)):=by
 intro gi s σ H Q I h;refine wpAny_isTrue_Compare1 (cY (ha gi s σ H _ I h) λ v s1 ⟨x,H1,I1,r1,q1⟩=>cY (hb gi s1 σ H1 _ I1 q1) λ u s2 ⟨y,H2,I2,r2,q2⟩=>
  cY (ho gi s2 σ H2 x y v u _ I2 r1 r2 q2) λ c s3 ⟨z,H3,I3,r3,k,e,q3⟩=>?_) hm
 subst e;cases r3;exact Ń ⟨H3,I3,q3⟩
theorem sL:(sizeLine:Nat) < 2 ^ 63:=by rw[Ď];decide
theorem pU {x:V}{us:List À} (r:bO [x] us):∃ u,us=[u]/\bE x u:=by
 cases r with
 | cons r1 r2=>cases r2;exact⟨_,rfl,r1⟩
theorem FC {x y:V}{us:List À} (r:bO [x,y] us):∃ u w',us=[u,w']/\bE x u/\bE y w':=by
 cases r with
 | cons r1 r2=>
  cases r2 with
  | cons r3 r4=>cases r4;exact⟨_,_,rfl,r1,r3⟩
theorem mC (hc:X.calm=true):dZ X (.builtin "max") (λ xs H Q=>∃ i j,xs=[.int i,.int j]/\Q (.int (if j > i then j else i)) H):=by
 intro gi s σ H xs us Q I r h;obtain⟨i,j,rfl,q⟩:=h;obtain⟨u,w',rfl,⟨t,rfl⟩,⟨t',rfl⟩⟩:=FC r;refine max_two_ints (I.ok.hd hc) λ h' tk k=>⟨_,H,I.kept k,?_,q⟩
 by_cases hj:j > i
 ·rw[Å hj,Å hj];exact⟨_,rfl⟩
 ·rw[Ä hj,Ä hj];exact⟨_,rfl⟩
theorem mB (hc:X.calm=true):dZ X (.builtin "min") (λ xs H Q=>∃ i j,xs=[.int i,.int j]/\Q (.int (if j < i then j else i)) H):=by
 intro gi s σ H xs us Q I r h;obtain⟨i,j,rfl,q⟩:=h;obtain⟨u,w',rfl,⟨t,rfl⟩,⟨t',rfl⟩⟩:=FC r;refine min_two_ints (I.ok.hd hc) λ h' tk k=>⟨_,H,I.kept k,?_,q⟩
 by_cases hj:j < i
 ·rw[Å hj,Å hj];exact⟨_,rfl⟩
 ·rw[Ä hj,Ä hj];exact⟨_,rfl⟩
theorem hV:dZ X (.type "int") (λ xs H Q=>(∃ i,xs=[.int i]/\Q (.int i) H)\/∃ k,xs=[.bl k]/\Q (.int (if k then 1 else 0)) H):=by
 intro gi s σ H xs us Q I r h;rcases h with ⟨i,rfl,q⟩ | ⟨k,rfl,q⟩
 ·obtain⟨u,rfl,t,rfl⟩:=pU r;exact call_int_int ⟨.int i,H,I,⟨_,rfl⟩,q⟩
 ·obtain⟨u,rfl,r1⟩:=pU r;cases r1;exact call_int_bool ⟨.int (if k then 1 else 0),H,I.tok _,⟨_,rfl⟩,q⟩
end
structure ObjM (h:Heap) (x dx C:Á) (mA:Str->Option À):Prop where
 obj:h.get? x=some (PySem.W.instObj C dx)
 ns:h.Ns1 dx mA
 ne:dx≠x
set_option tactic.hygienic true in
theorem DL {h:Heap}{dx:Á}{mA:Str->Option À} (n:h.Ns1 dx mA):∃ od,h.get? dx=some od/\∀ name,PySem.W.lookIn name od=some (mA name):=by
 obtain⟨o,es,ep,ho,hd,hk,_,hm⟩:=n;refine⟨o,ho,λ name=>?_⟩;have e:=hm name;unfold nsFind findBy at e;rw[<- Array.find?_toList] at e;unfold PySem.W.lookIn;rw[hd];dsimp only
 split
 ·rename_i y q
  rw[q] at e;exact congrArg some e
 ·rename_i q
  rw[q] at e;have a:es.toList.any (·.refKey)=false:=by
   rw[List.any_eq_false];intro y hy;obtain⟨z,t,mi⟩:=hk y (Array.mem_toList_iff.mp hy);simp [DictEntry.refKey,mi]
  have a':¬ es.toList.any (·.refKey)=true:=by rw[a];exact Û
  rw[Ä a'];exact congrArg some e
theorem ObjM.look {h:Heap}{x dx C:Á}{mA:Str->Option À} (I:ObjM h x dx C mA):∃ od,PySem.W.InstAt h x (PySem.W.instObj C dx) C (some od)/\∀ name,PySem.W.lookIn name od=some (mA name):=
 let ⟨od,ho,hl⟩:=DL I.ns
 ⟨od,⟨I.obj,rfl,rfl,ho⟩,hl⟩
section
variable {prog:Ã}{A:Around}{E:À->Â->Prop}{s:Â}{x dx f:Á}{mA:Str->Option À}{name:Str}{v:À}
end
theorem pS.some_of {v:V}{o:Option À} (r:pS (some v) o):∃ u,o=some u/\bE v u:=by
 cases o with
 | none=>exact (show False from r).elim
 | some u=>exact⟨u,rfl,r⟩
section
variable {H H':Hp}{h h':Heap}{a dx:Á}{fs ji:List (Str×V)}
theorem KW (hok:mV P w H h) (e:H a=some (.ins C dx fs)):∃ mA,ObjM h a dx C mA/\(∀ f,pS (fs.lookup f) (mA f))/\PySem.Within mA (fs.map (·.1))/\fs.length<=1000/\H dx=some (.own a):=by
 obtain⟨d,z,ne,ob,mA,n,r,q⟩:=(show cG P w H h a (.ins C dx fs) from hok a _ e);exact⟨mA,⟨ob,n,ne⟩,r,q,z,d⟩
end
structure Cls (K:Ç) (C:Á):Prop where
 pg:PySem.W.plainGet K C Str.empty=true
 hd:PySem.W.hasDictIn K C=true
 po:PySem.W.plainOver K C=true
 sa:PySem.W.findIn K (.ref C) "__setattr__" = some (some (.builtin "object.__setattr__"))
theorem Cls.get {K:Ç}{C:Á} (c:Cls K C) (f:Str):PySem.W.plainGet K C f=true:=c.pg
section
variable {X:Cx}{gi:List (Á×Obj)}{σ:St}{H:Hp}{s:Â}{a dx:Á}{fs:List (Str×V)}{f:Str}{v:V}{A:Around}{E:À->Â->Prop}
end
section
variable {X:Cx}{o e value:Expr}{f:Str}{pos pos' Df:Pos}{ta tv:TE}
end
section
variable {X:Cx}{gi:List (Á×Obj)}{σ:St}{H:Hp}{s:Â}{A:Around}{E:À->Â->Prop}{Q:À->Â->Prop}{c:À}{b:Bool}
inductive TyOf (K:Ç) (H:Hp):V->À->Prop where
 | non:TyOf K H .non (.type "NoneType")
 | bl (x:Bool):TyOf K H (.bl x) (.type "bool")
 | int (i:Int):TyOf K H (.int i) (.type "int")
 | str (x:Str):TyOf K H (.str x) (.type "str")
 | flt (x:UInt64):TyOf K H (.flt x) (.type "float")
 | lst {a:Á}{xs:List V} (e:H a=some (.lst xs)):TyOf K H (.ref a) (.type "list")
 | frz {a:Á}{o:Obj}{xs:List V} (e:H a=some (.frz o (.lst xs))):TyOf K H (.ref a) (.type "list")
 | tup {a:Á}{xs:List V} (e:H a=some (.tup xs)):TyOf K H (.ref a) (.type "tuple")
 | dK {a:Á}{gu:List (gB×V)} (e:H a=some (.dK gu)):TyOf K H (.ref a) (.type "dict")
 | dT {a:Á}{gu:List (List gB×V)} (e:H a=some (.dT gu)):TyOf K H (.ref a) (.type "dict")
 | ins {a C dx:Á}{fs:List (Str×V)} (e:H a=some (.ins C dx fs)) (cl:Cls K C) (ha:PySem.W.findIn K (.ref C) "__class__" = some (some (.builtin "object.__class__")))
   (hn:PySem.W.specialIn K (.builtin "object.__class__") "__get__" = some (some (.builtin "getset_descriptor.__get__"))) (htk:PySem.W.takesIn K (.builtin "object.__class__")=some true)
   (hm:PySem.W.mroIn K C (.type "object")=some true):TyOf K H (.ref a) (.ref C)
theorem DV {x:V}{u t:À} (I:Inv X gi σ H s) (rx:bE x u) (ty:TyOf X.K H x t) (e:PySem.W.kitOne X.K t c=some b) (h:∀ tk,Q (.bool b) { s with toks:=tk }) :
  wpAny (model X.prog X.w) A (call (.builtin "isinstance") [u,c]) Q E s:=by
 cases ty with
 | non=>cases (show u=Value.none from rx);exact Ė PySem.W.kitx_none I.kIn True.intro e (λ z=>nomatch z) h
 | bl y=>cases (show u=Value.bool y from rx);exact Ė PySem.W.kitx_bool I.kIn True.intro e (λ z=>nomatch z) h
 | int i=>obtain⟨t,q⟩:=(show ∃ t,u=Value.int i t from rx);cases q;exact Ė PySem.W.kitx_int I.kIn True.intro e (λ z=>nomatch z) h
 | str y=>obtain⟨t,q⟩:=(show ∃ t,u=Value.str y t from rx);cases q;exact Ė PySem.W.kitx_str I.kIn True.intro e (λ z=>nomatch z) h
 | flt y=>obtain⟨t,q⟩:=(show ∃ t,u=Value.float y t from rx);cases q;exact Ė PySem.W.kitx_float I.kIn True.intro e (λ z=>nomatch z) h
 | @lst a xs ea=>
  cases (show u=Value.ref a from rx);obtain⟨_,_,n,_,h1⟩:=(show cG X.prog X.w H s.heap a (.lst xs) from I.hok a _ ea);exact Ė PySem.W.kitx_list I.kIn ⟨_,h1,rfl⟩ e (λ z=>nomatch z) h
 | @frz a ob xs ea=>
  cases (show u=Value.ref a from rx);obtain⟨_,_,_,n,_,h1⟩:=(show cG X.prog X.w H s.heap a (.frz ob (.lst xs)) from I.hok a _ ea);exact Ė PySem.W.kitx_list I.kIn ⟨_,h1,rfl⟩ e (λ z=>nomatch z) h
 | @tup a xs ea=>
  cases (show u=Value.ref a from rx);obtain⟨_,_,_,p⟩:=(show cG X.prog X.w H s.heap a (.tup xs) from I.hok a _ ea);obtain⟨o,h1,h2,_⟩:=p;exact Ė PySem.W.kitx_tuple I.kIn ⟨o,h1,h2⟩ e (λ z=>nomatch z) h
 | @dK a gu ea=>
  cases (show u=Value.ref a from rx);obtain⟨_,_,vs,_,p⟩:=(show cG X.prog X.w H s.heap a (.dK gu) from I.hok a _ ea);obtain⟨o,es,ep,h1,h2,_⟩:=p;exact Ė PySem.W.kitx_dict I.kIn ⟨o,h1,h2.1⟩ e (λ z=>nomatch z) h
 | @dT a gu ea=>
  cases (show u=Value.ref a from rx);obtain⟨_,_,xs,_,o,es,ep,h1,h2,_⟩:=(show cG X.prog X.w H s.heap a (.dT gu) from I.hok a _ ea);exact Ė PySem.W.kitx_dict I.kIn ⟨o,h1,h2.1⟩ e (λ z=>nomatch z) h
 | @ins a C dx fs ea cl ha hn Ls hm=>
  cases (show u=Value.ref a from rx);obtain⟨mA,O,_⟩:=KW I.hok ea;obtain⟨od,J,_⟩:=O.look;exact Ė (PySem.W.kitx_own (cl.get _) cl.hd ha hn Ls hm) I.kIn J e (λ z=>nomatch z) h
end
structure Room (k:Nat) (A:Around):Prop where
 hd:A.handled=none
 dp:A.depth+3 * k+5 < recursionLimit
 un:A.units+16 * k+200 < cLine
theorem Room.mono {j k:Nat}{A:Around} (r:Room k A) (h:j<=k):Room j A:=⟨r.hd,by have:=r.dp;lia,by have:=r.un;lia⟩
theorem Room.deeper {k:Nat}{A:Around} (r:Room (k+1) A) (env:Env):Room k (A.deeper env):=
 ⟨r.hd,by have:=r.dp;show A.depth+1+3 * k+5 < _;lia,by have:=r.un;show A.units+3+16 * k+200 < _;lia⟩
theorem Room.depth {k:Nat}{A:Around} (r:Room k A):A.depth < recursionLimit:=by have:=r.dp;lia
theorem Room.units {k:Nat}{A:Around} (r:Room k A):A.units+64 < cLine:=by have:=r.un;lia
def nQ:TA:=λ _ H Q=>Q [] H
def dM (ta:TE) (tr:TA):TA:=λ σ H Q=>ta σ H λ x H1=>tr σ H1 λ xs H2=>Q (x::xs) H2
section
variable {X:Cx}{e:Expr}{es:List Expr}{te:TE}{t:TA}{pos:Pos}
theorem aC:PA X [] nQ:=λ _ _ _ _ H Q I h=>ag1 ⟨[],H,I,.nil,h⟩
theorem aA (ha:PE X e te) (hr:PA X es t) (hs:starEach (e::es) X.env=(false,eval e X.env)::starEach es X.env:=by with_unfolding_all rfl):PA X (e::es) (dM te t):=by
 intro pos gi s σ H Q I h;rw[hs];show wpAny _ _ (spliced ((false,eval e X.env)::backTo pos (starEach es X.env))) _ _ s;refine ũ (cY (ha gi s σ H _ I h) λ u s1 ⟨x,H1,I1,r1,q1⟩=>?_);exact cY (hr pos gi s1 σ H1 _ I1 q1) λ us s2 ⟨xs,H2,I2,r2,q2⟩=>⟨x::xs,H2,I2,.cons r1 r2,q2⟩
def tTup (t:TA):TE:=λ σ H Q=>t σ H λ xs H1=>xs.length<=sizeLine/\∀ p,H1 p=none->Q (.ref p) (upd H1 p (.tup xs))
def JO (t:TA):TE:=λ σ H Q=>t σ H λ xs H1=>xs.length<=sizeLine/\∀ p,H1 p=none->Q (.ref p) (upd H1 p (.lst xs))
theorem aU {x1} (h:PA X es t):PE X (.Tuple es x1 pos) (tTup t):=by
 intro gi s σ H Q I hq;refine wpAny_Tuple_spliced (cY (h pos gi s σ H _ I hq) λ us s1 ⟨xs,H1,I1,r,z,q⟩=>⟨by rw[<- r.length];exact z,?_⟩);have hf:H1 s1.heap.objs.size=none:=I1.hok.fresh (Î _);refine⟨.ref s1.heap.objs.size,upd H1 s1.heap.objs.size (.tup xs),I1.laid (t':=s1.toks) (λ b u e=>Í _ e) (Î _) ?_,rfl,q _ hf⟩;exact⟨z,us,r,⟨_,ß _ rfl,rfl,_,rfl⟩⟩
theorem bM (h:PA X es t):PE X (.List es pos) (JO t):=by
 intro gi s σ H Q I hq;refine wpAny_List_spliced (cY (h pos gi s σ H _ I hq) λ us s1 ⟨xs,H1,I1,r,z,q⟩=>⟨by rw[<- r.length];exact z,?_⟩);have hf:H1 s1.heap.objs.size=none:=I1.hok.fresh (Î _);refine⟨.ref s1.heap.objs.size,upd H1 s1.heap.objs.size (.lst xs),I1.laid (t':=s1.toks) (λ b u e=>Í _ e) (Î _) ?_,rfl,q _ hf⟩;exact⟨z,us,0,r,ß _ rfl⟩
end
abbrev Sp:=List V->Hp->VK->XK->Prop
abbrev AU:=List Env->Hp->Â->XK->À->Â->Prop
structure Env0 (P:Ã) (w:World) (K:Ç) (mg:Str->Option À) (base:Heap) (A:Around) (outer:List Env) (s:Â) (H:Hp):Prop where
 frames:A.frames=some outer
 mod:Mod K mg base
 bs:∀ b o,base.get? b=some o->s.heap.get? b=some o/\H b=none
 bsz:base.objs.size<=s.heap.objs.size
 funs:s.heap.FunFrames base outer
 frf:∀ b∈jV outer,H b=none
 hok:mV P w H s.heap
 bare:AllBare s.gens
def CE (outer:List Env) (P:Ã) (w:World) (H:Hp) (s:Â) (Q:VK) (u:À) (s':Â):Prop:=
 ∃ v H',s'.os=s.os/\AllBare s'.gens/\Un (jV outer) [] H H' s.heap s'.heap/\mV P w H' s'.heap/\bE v u/\Q v H'
def CR (CX:AU) (outer:List Env) (P:Ã) (w:World) (H:Hp) (s:Â) (Q:VK) (E:XK) (r:Result) (s':Â):Prop:=
 match r with
 | .ok (.ret u)=>CE outer P w H s Q u s'
 | .ok _=>False
 | .error e=>CX outer H s E e s'
structure FnOk (P:Ã) (w:World) (K:Ç) (mg:Str->Option À) (base:Heap) (CX:AU) (k:Nat) (f:Á) (fd:FuncData) (ps:List Str) (sp:Sp):Prop where
 len:∀ vs H Q E,sp vs H Q E->vs.length=ps.length
 run:∀ (A:Around) (outer:List Env) (s:Â) (H:Hp) (args:Args) (us:List À) (vs:List V) (Q:VK) (E:XK),Room k A->Env0 P w K mg base A outer s H->BindsTo s fd args (ps.zip us)->bO vs us->sp vs H Q E->
  codeAny (model P w) A (.call (.ref f) args) (CR CX outer P w H s Q E) s
theorem FnOk.imp {P:Ã}{w:World}{K:Ç}{mg:Str->Option À}{base:Heap}{CX:AU}{k:Nat}{f:Á}{fd:FuncData}{ps:List Str}{sp U9:Sp} (F:FnOk P w K mg base CX k f fd ps sp)
  (h:∀ vs H Q E,U9 vs H Q E->sp vs H Q E):FnOk P w K mg base CX k f fd ps U9:=
 ⟨λ vs H Q E q=>F.len vs H Q E (h _ _ _ _ q),λ A outer s H args us vs Q E hr he hb hv hs=>F.run A outer s H args us vs Q E hr he hb hv (h _ _ _ _ hs)⟩
section
variable {X:Cx}{gi:List (Á×Obj)}{σ:St}{H:Hp}{s s':Â}
theorem Inv.env0 (I:Inv X gi σ H s):Env0 X.prog X.w X.K X.mg X.base X.A X.stack s H:=
 ⟨I.ok.frames,I.ok.mod,I.bs,Ĉ I.ok.bsz I.sz,I.stack,I.stkFree,I.hok,I.bare⟩
theorem Inv.after {Q:VK}{u:À} (I:Inv X gi σ H s) (h:CE X.stack X.prog X.w H s Q u s'):EP X gi σ Q u s':=by
 obtain⟨v,H',os,bare,un,hok,r,q⟩:=h;obtain⟨hh,g,d,t,XC⟩:=s';obtain rfl:XC=s.os:=os;exact⟨v,H',I.call (h':=hh) (g':=g) (d':=d) (t':=t) (ch:=[]) un hok bare (λ b z=>absurd z (by simp)),r,q⟩
end
def uF (sp:Sp) (Cc:List V) (E:XK) (t:TA):TE:=λ σ H Q=>t σ H λ vs H1=>sp (vs++Cc) H1 Q E
def oV (K:Ç) (fd:FuncData) (ps:List Str) (ds:List À):Prop:=
 ∀ (s:Â) (us:List À),K.In s.heap->(us++ds).length=ps.length->BindsTo s fd ⟨us,[]⟩ (ps.zip (us++ds))
theorem oV.all {K:Ç}{fd:FuncData}{ps:List Str} (h:∀ us:List À,us.length=ps.length->bindArgs fd ⟨us,[]⟩=pure (ps.zip us)):oV K fd ps []:=λ s us _ hl=>by
 rw[Ģ] at hl ⊢;exact .of_eq (h us hl)
def nL (CX:AU) (X:Cx) (E:XK):Prop:=∀ (gi:List (Á×Obj)) (σ:St) (H:Hp) (s:Â) (e:À) (s':Â),Inv X gi σ H s->CX X.stack H s E e s'->X.xe e s'
section
variable {X:Cx}{CX:AU}{k:Nat}{f:Á}{fd:FuncData}{ps:List Str}{sp:Sp}{Cc:List V}{ds:List À}{E:XK}{x m:Str}{p pos apos:Pos}{e o:Expr}{es:List Expr}{ta:TE}{t:TA}
theorem MY {gi:List (Á×Obj)}{σ:St}{H:Hp}{s:Â}{Q:VK}{us:List À}{vs:List V} (F:FnOk X.prog X.w X.K X.mg X.base CX k f fd ps sp) (hr:Room k X.A) (hb:oV X.K fd ps ds) (hd:bO Cc ds) (hx:nL CX X E)
  (I:Inv X gi σ H s) (r:bO vs us) (h:sp (vs++Cc) H Q E):wpAny (model X.prog X.w) X.A (call (.ref f) us) (EP X gi σ Q) X.xe s:=by
 have r2:bO (vs++Cc) (us++ds):=r.append hd;have hl:(us++ds).length=ps.length:=by rw[<- r2.length];exact F.len _ _ _ _ h
 refine Ŷ (ŵ (F.run X.A X.stack s H ⟨us,[]⟩ (us++ds) (vs++Cc) Q E hr I.env0 (hb s us I.kIn hl) r2 h) λ r s' hq=>?_);cases r with
 | error e=>exact hx gi σ H s e s' I hq
 | ok fl=>
  cases fl with
  | ret u=>exact I.after hq
  | next=>exact False.elim hq
  | brk=>exact False.elim hq
  | cont=>exact False.elim hq
theorem vZ (F:FnOk X.prog X.w X.K X.mg X.base CX k f fd ps sp) (hr:Room k X.A) (hg:Gl X x) (hm:X.mg x=some (.ref f)) (hk:PySem.W.keepIn X.K (.ref f)=true) (hb:oV X.K fd ps ds) (hd:bO Cc ds) (hx:nL CX X E)
  (ha:PA X (e::es) t) (Ay:(x == ("__debug__" : Str))=false:=by decide) (he:starEach (e::es) X.env=(false,eval e X.env)::starEach es X.env:=by with_unfolding_all rfl) (kc:(backTo pos (starEach es X.env)).any (·.1)=false:=by with_unfolding_all rfl) :
  PE X (.Call (.Name x p) (e::es) [] pos) (uF sp Cc E t):=by
 intro gi s σ H Q I h;refine Ū (oH I hg hm ?_ Ay);refine PySem.W.callWith_K (h₀:=X.base) I.ok.mod.kin hk (cY (ha pos gi s σ H _ I h) λ us s1 ⟨vs,H1,I1,r,q⟩=>⟨I1.kIn,?_⟩) he kc;exact MY F hr hb hd hx I1 r q
end
section
variable {X:Cx}{CX:AU}{k:Nat}{f:Á}{fd:FuncData}{ps ks:List Str}{sp:Sp}{E:XK}{x m:Str}{p pos apos XD:Pos}{e o:Expr}{es:List Expr}{kws:List Keyword}{te ta:TE}{t tk:TA}{nm:Option Str}
variable {g:List À->List À->List À}{gV:List V->List V->List V}
end
structure FnScope (N P:List Str) (sc:Scope):Prop where
 kind:sc.kind=.function:=by rfl
 co:sc.isCoroutine=false:=by rfl
 gen:sc.isGenerator=false:=by rfl
 nd:N.Nodup:=by decide +kernel
 pre:N.take P.length=P:=by rfl
 par:∀ x∈P,sc.names.lookup x=some .local\/sc.names.lookup x=some .cell:=by decide +kernel
 nofree:∀ y∈sc.names,y.2≠.free:=by decide +kernel
theorem uU {kindOf:Str->Option NameKind}{x:Str}:∀ {binds:List (Str×À)}{m:Str->Option À},(∀ v,(x,v)∉binds)->bindL kindOf binds m x=m x
 | [],_,_=>rfl
 | (n,v)::r,m,h=>by
  unfold bindL;rw[uU λ w hw=>h w (ô _ hw)]
  split
  ·have:x≠n:=by rintro rfl;exact h v ą
   simp [this]
  ·rfl
theorem uW {kindOf:Str->Option NameKind}{x:Str}:∀ {binds:List (Str×À)}{m:Str->Option À},(∀ v,(x,v)∉binds)->bindC kindOf binds m x=m x
 | [],_,_=>rfl
 | (n,v)::r,m,h=>by
  unfold bindC;rw[uW λ w hw=>h w (ô _ hw)]
  split
  ·rfl
  ·have:x≠n:=by rintro rfl;exact h v ą
   simp [this]
theorem uV {kindOf:Str->Option NameKind}{x:Str}{v:À}:∀ {P:List Str}{vs:List À}{i:Nat}{m:Str->Option À},P.Nodup->P[i]? = some x->vs[i]? = some v->kindOf x=some .local->
  bindL kindOf (P.zip vs) m x=some v
 | [],_,_,_,_,h,_,_=>by simp at h
 | _::_,[],_,_,_,_,h,_=>by simp at h
 | p::P,w::vs,0,m,nd,h1,h2,hk=>by
  simp at h1 h2;subst h1;subst h2;show bindL kindOf ((p,w)::P.zip vs) m p=_;unfold bindL;rw[uU λ v hv=>(ġ.mp nd).1 (ŋ hv).1,Å hk];simp
 | p::P,w::vs,i+1,m,nd,h1,h2,hk=>by
  show bindL kindOf ((p,w)::P.zip vs) m x=_;unfold bindL;exact uV (i:=i) (ġ.mp nd).2 (by simpa using h1) (by simpa using h2) hk
theorem uX {kindOf:Str->Option NameKind}{x:Str}{v:À}:∀ {P:List Str}{vs:List À}{i:Nat}{m:Str->Option À},P.Nodup->P[i]? = some x->vs[i]? = some v->kindOf x≠some .local->
  bindC kindOf (P.zip vs) m x=some v
 | [],_,_,_,_,h,_,_=>by simp at h
 | _::_,[],_,_,_,_,h,_=>by simp at h
 | p::P,w::vs,0,m,nd,h1,h2,hk=>by
  simp at h1 h2;subst h1;subst h2;show bindC kindOf ((p,w)::P.zip vs) m p=_;unfold bindC;rw[uW λ v hv=>(ġ.mp nd).1 (ŋ hv).1,Ä hk];simp
 | p::P,w::vs,i+1,m,nd,h1,h2,hk=>by
  show bindC kindOf ((p,w)::P.zip vs) m x=_;unfold bindC;exact uX (i:=i) (ġ.mp nd).2 (by simpa using h1) (by simpa using h2) hk
def iP (N:List Str) (vs:List V):St:=vs.map some++List.replicate (N.length - vs.length) none
def lI (CX:AU) (P:Ã) (w:World) (K:Ç) (mg:Str->Option À) (base:Heap) (N:List Str) (qual:Str) (scope:Scope) (f:Á) (cd:À) (A:Around) (outer:List Env) (s:Â) (H:Hp) (E:XK):Cx where
 prog:=P
 w:=w
 K:=K
 mg:=mg
 base:=base
 A:=A.deeper (envOfC qual scope s.heap.objs.size f cd)
 N:=N
 s₀:=s
 H₀:=H
 env:=envOfC qual scope s.heap.objs.size f cd
 outer:=outer
 stack:=envOfC qual scope s.heap.objs.size f cd::outer
 ex:=[]
 calm:=true
 fn:=λ _=>true
 pn:=[]
 xe:=λ e s'=>wpAny (model P w) (A.deeper (envOfC qual scope s.heap.objs.size f cd)) (leaving (envOfC qual scope s.heap.objs.size f cd) e) (λ _ wo=>CX outer H s E e wo) (λ e' wo=>CX outer H s E e' wo) s'
theorem yZ {sc:Scope}{n:Nat}{x:Str} (h:sc.names.lookup x=some .cell):∃ c,(cellsFrom n sc.names []).lookup x=some c:=by
 have q:=afw sc.names n [] (.inl h);exact Option.isSome_iff_exists.mp q
theorem uP {CX:AU}{P:Ã}{w:World}{K:Ç}{mg:Str->Option À}{base:Heap}{N ps:List Str}{qual:Str}{scope:Scope}{f:Á}{cd:À}{A:Around}{outer:List Env}{s s1:Â}{H:Hp}{E:XK}{us:List À}{vs:List V}
  (S:FnScope N ps scope) (hd:A.handled=none) (e0:Env0 P w K mg base A outer s H) (hl:vs.length=ps.length) (r:bO vs us)
  (x:InCallC s s.heap.objs.size (bindL (envOfC qual scope s.heap.objs.size f cd).kindOf (ps.zip us) λ _=>none) (cellsFrom (s.heap.objs.size+1) scope.names []) (bindC (envOfC qual scope s.heap.objs.size f cd).kindOf (ps.zip us) λ _=>none) s1) :
  Inv (lI CX P w K mg base N qual scope f cd A outer s H E) [] (iP N vs) H s1:=by
 have kc:ps.length<=N.length:=by have:=congrArg List.length S.pre;rw[Ø] at this;lia
 obtain⟨h1,tk,rfl,hk⟩:=x.done;have Dg:∀ b:Á,b∉(lI CX P w K mg base N qual scope f cd A outer s H E).ex:=λ b z=>absurd (show b∈([]:List Á) from z) (by simp);refine⟨⟨e0.mod,S.kind,rfl,rfl,Î _,λ y z c h1 h2=>?_,λ y hy=>?_,λ y c _ h=>?_,λ _=>hd,Around.frames_deeper e0.frames,.inr ⟨rfl,rfl⟩,λ b z=>absurd z (Dg b),e0.bs,e0.bsz,λ b _ _=>Dg b,λ b z=>absurd z (Dg b),e0.funs,e0.frf⟩,
  rfl,e0.bare,Un.kept hk,⟨_,x.toInCall.ns,λ i y v h1 h2 h3=>?_⟩,λ y c h=>⟨_,x.cell y c h⟩,e0.hok.fresh (Î _),λ y c h=>?_,λ p hp=>absurd (show p∈([]:List (Á×Obj)) from hp) (by simp),e0.hok.kept hk,?_⟩
 ·exact name_of_addr x.apart (ÿ h1) (ÿ h2)
 ·have hy:scope.names.lookup y=some .cell\/scope.names.lookup y=some .free:=hy;rcases hy with hy | hy
  ·exact yZ hy
  ·exact absurd rfl (S.nofree _ (ÿ hy))
 ·exact Ķ (x.above y c (ÿ h))
 ·have hi:i < vs.length:=by
   unfold iP at h2
   by_cases hi:i < vs.length
   ·exact hi
   ·rw[ŝ (by simpa using hi)] at h2;rw[List.getElem?_replicate] at h2
    split at h2 <;> cases h2
  have ha:vs[i]? = some v:=by
   unfold iP at h2;rw[ě (by simpa using hi),Ð] at h2;cases e:vs[i]? with
   | none=>rw[e] at h2;cases h2
   | some a=>rw[e] at h2;cases h2;rfl
  obtain⟨u,hu,rv⟩:=r.get ha;have hp:ps[i]? = some y:=by
   rw[<- S.pre,Ž (by lia)];exact h1
  have Lu:ps.Nodup:=by rw[<- S.pre];exact S.nd.sublist (List.take_sublist _ _)
  refine⟨u,rv,?_⟩;rcases S.par y (Ú hp) with k | k
  ·exact .inl ⟨k,uV Lu hp hu k⟩
  ·obtain⟨c,e⟩:=yZ (n:=s.heap.objs.size+1) k;refine .inr ⟨.inl k,c,e,?_⟩;have q:=x.cell y c e;rw[uX Lu hp hu (by show scope.names.lookup y≠_;rw[k];decide)] at q;exact q
 ·exact e0.hok.fresh (Ķ (x.above y c (ÿ h)))
 ·unfold iP;show _=N.length;rw[à,Ê,Ĳ];lia
theorem IB {CX:AU}{P:Ã}{w:World}{K:Ç}{mg:Str->Option À}{base:Heap}{k:Nat}{f:Á}{name qual:Str}{params:Arguments}{body:List Stmt}{scope:Scope}{dV kV doc pm ja ct oc:À}{an od:Option Á}
  {wq:Array (Option À)}{N ps:List Str}{sp:Sp} (lk:K.lookup f=some ⟨oc,od,.func (PySem.W.fnOf name qual params body scope dV kV doc pm an ja ct),wq⟩) (nj:PySem.W.codeIn K ja qual=true) (S:FnScope N ps scope)
  (len:∀ vs H Q E,sp vs H Q E->vs.length=ps.length)
  (jt:∀ (A:Around) (outer:List Env) (s:Â) (H:Hp) (vs:List V) (Q:VK) (E:XK),Room k (A.deeper (envOfC qual scope s.heap.objs.size f ja))->sp vs H Q E->
   ∃ t,xK (lI CX P w K mg base N qual scope f ja A outer s H E) body t/\t { nx:=λ _ H'=>Q .non H',rt:=Q } (iP N vs) H) :
  FnOk P w K mg base CX (k+1) f (PySem.W.fnOf name qual params body scope dV kV doc pm an ja ct) ps sp:=by
 refine⟨len,λ A outer s H args us vs Q E hr e0 hb r ke=>?_⟩;have hl:=len _ _ _ _ ke;have KX:K.In s.heap:=e0.mod.kin.keeps λ b o e=>(e0.bs b o e).1;have im:s.heap.NoLimit:=e0.mod.nolimit.keeps λ b o e=>(e0.bs b o e).1;have ym:∀ y∈ps.zip us,scope.names.lookup y.1=some .local\/(scope.names.lookup y.1=some .cell/\((cellsFrom (s.heap.objs.size+1) scope.names []).lookup y.1).isSome=true):=λ ⟨n,v⟩ hy=>by
  rcases S.par n (ŋ hy).1 with q | q
  ·exact .inl q
  ·exact .inr ⟨q,afw _ _ _ (.inl q)⟩
 refine codeAny_call_function hr.depth (KX _ _ lk) rfl S.co S.gen rfl (PySem.W.codeRec_of KX nj) (hb _ _ _ _ ?_);refine wpAny_newFunctionEnv_cells S.kind ym λ env he s1 x=>?_;subst he;refine⟨im.keeps x.toInCall.keep,codeAny_func ?_⟩;obtain⟨t,ht,hq⟩:=jt A outer s H vs Q E (hr.deeper _) ke;have I:Inv (lI CX P w K mg base N qual scope f ja A outer s H E) [] (iP N vs) H s1:=uP S hr.hd e0 hl r x;refine á (ht [] s1 (iP N vs) H _ I hq) (λ fl s' hs=>?_) λ e s' hs=>hs;have fin:∀ {ad:St}{H':Hp}{v:V}{u:À},Inv (lI CX P w K mg base N qual scope f ja A outer s H E) [] ad H' s'->bE v u->Q v H'->CE outer P w H s Q u s':=
  λ {ad H' v u} J rv q=>⟨v,H',J.os,J.bare,J.base,J.hok,rv,q⟩
 cases fl with
 | ret u=>
  obtain⟨v,ad,H',J,rv,q⟩:=hs;exact fin J rv q
 | next=>
  obtain⟨ad,H',J,q⟩:=hs;exact fin (v:=V.non) (u:=Value.none) J rfl q
 | brk=>
  obtain⟨_,_,_,q⟩:=hs;exact False.elim q
 | cont=>
  obtain⟨_,_,_,q⟩:=hs;exact False.elim q
section
variable {X:Cx}{x:Str}{p pos:Pos}{e:Expr}{es:List Expr}{t:TA}{id T:String}{r:List V->Hp->VK->Prop}
def MQ (r:List V->Hp->VK->Prop) (t:TA):TE:=λ σ H Q=>t σ H λ vs H1=>r vs H1 Q
theorem bB (hc:dZ X (.builtin id) r) (hg:Gl X x) (hm:X.mg x=none) (hv:bootBuiltins x=some (.builtin id)) (ha:PA X (e::es) t) (hn:x ≠ "__name__" := by decide) (Ay:(x == ("__debug__" : Str))=false:=by decide)
  (he:starEach (e::es) X.env=(false,eval e X.env)::starEach es X.env:=by with_unfolding_all rfl) (kc:(backTo pos (starEach es X.env)).any (·.1)=false:=by with_unfolding_all rfl):PE X (.Call (.Name x p) (e::es) [] pos) (MQ r t):=by
 intro gi s σ H Q I h;refine Ū (nB I hg hm hv ?_ hn Ay);exact PyProof.Rows.callWith_builtin1 (cY (ha pos gi s σ H _ I h) λ us s1 ⟨vs,H1,I1,r1,q1⟩=>hc gi s1 σ H1 vs us Q I1 r1 q1) he kc
theorem aW (hc:dZ X (.type T) r) (hg:Gl X x) (hm:X.mg x=none) (hv:bootBuiltins x=some (.type T)) (ha:PA X (e::es) t) (hn:x ≠ "__name__" := by decide) (Ay:(x == ("__debug__" : Str))=false:=by decide)
  (he:starEach (e::es) X.env=(false,eval e X.env)::starEach es X.env:=by with_unfolding_all rfl) (kc:(backTo pos (starEach es X.env)).any (·.1)=false:=by with_unfolding_all rfl):PE X (.Call (.Name x p) (e::es) [] pos) (MQ r t):=by
 intro gi s σ H Q I h;refine Ū (nB I hg hm hv ?_ hn Ay);exact š (cY (ha pos gi s σ H _ I h) λ us s1 ⟨vs,H1,I1,r1,q1⟩=>hc gi s1 σ H1 vs us Q I1 r1 q1) he kc
end
end L2
namespace HT
open PySem PyProof.Rows
section
open PySem.SeqAt
open PySem.AutoSeq1 (wpAny_loadPart')
open PySem.MeetsSeq PySem.MeetsSeq2 PySem.MeetsSeq3
end
section
variable {prog:Ã}{A:Around}{E:À->Â->Prop}{s:Â}
theorem cat_tup {t b:Á}{vs ws:List À}{Q:À->Â->Prop} (ht:IsTup s.heap t vs.toArray) (hb:IsTup s.heap b ws.toArray) (hv:vs≠[])
  (h1:ws=[]->Q (.ref t) s) (h2:ws≠[]->Q (.ref s.heap.objs.size) { s with heap:=s.heap.push { cls:=.type "tuple",data:=.seq (vs++ws).toArray } })
  (hsz:vs.length+ws.length<=sizeLine):wpAny (model prog w) A (binaryOp .Add (.ref t) (.ref b)) Q E s:=by
 obtain⟨⟨cls,dd,data,sl⟩,ho,hc,n,hd⟩:=id ht;obtain⟨⟨Oi,Lv,data2,Fp⟩,Dh,Ce,n2,hd2⟩:=id hb;simp only at hc hd Ce hd2;subst hc hd Ce hd2;have e:vs.toArray++ws.toArray=(vs++ws).toArray:=by simp
 by_cases hw:ws=[]
 ·exact concat_meets ⟨_,ho,rfl⟩ ⟨_,Dh,rfl⟩ ahi seq_tuple_add afx afl (afg _ _)
   (tuple_addW1 t b vs.toArray ws.toArray n n2 dd Lv sl Fp (by simpa using hv) (by simp [hw])) ⟨ho,Dh,h1 hw⟩
 ·refine concat_meets ⟨_,ho,rfl⟩ ⟨_,Dh,rfl⟩ ahi seq_tuple_add afx afl (afg _ _)
   (tuple_addW2 t b vs.toArray ws.toArray n n2 dd Lv sl Fp (by simpa using hv) (by simpa using hw) (by rw[ê,ê];exact hsz)) ⟨ho,Dh,?_⟩
  rw[e];exact h2 hw
def sIx (n d:Nat):Option Int->Nat
 | none=>d
 | some v=>if v < 0 then (v+(n:Int)).toNat else min v.toNat n
theorem sIx_none (n d:Nat):sIx n d none=d:=rfl
theorem sIx_nat (n d k:Nat):sIx n d (some (k:Int))=min k n:=by
 show (if (k:Int) < 0 then ((k:Int)+(n:Int)).toNat else min (k:Int).toNat n)=min k n;rw[Ä (by lia),Š]
theorem MX (n d:Nat) (hd:d<=n) (o:Option Int):sIx n d o<=n:=by
 cases o with
 | none=>exact hd
 | some v=>
  show (if v < 0 then (v+(n:Int)).toNat else min v.toNat n)<=n
  by_cases hv:v < 0
  ·rw[Å hv];lia
  ·rw[Ä hv];exact Nat.min_le_right _ _
theorem CC (v:Int) (n d:Nat):(if v < 0 then max (v+(n:Int)) 0 else min v (n:Int))=((sIx n d (some v):Nat):Int):=by
 show (if v < 0 then max (v+(n:Int)) 0 else min v (n:Int))=(((if v < 0 then (v+(n:Int)).toNat else min v.toNat n):Nat):Int)
 by_cases hv:v < 0
 ·simp only [Å hv];lia
 ·simp only [Ä hv];lia
theorem AN (lo hi:Option Int) (n:Nat):Builtin.Slice.sliceAdjust lo hi 1 (n:Int)=(((sIx n 0 lo:Nat):Int),((sIx n n hi:Nat):Int)):=by
 have h1:¬ ((1:Int) < 0):=by lia
 unfold Builtin.Slice.sliceAdjust;simp only [h1,if_false];refine Prod.ext ?_ ?_
 ·cases lo with
  | none=>rfl
  | some v=>exact CC v n 0
 ·cases hi with
  | none=>rfl
  | some v=>exact CC v n n
theorem zX (i j:Nat):Builtin.Slice.slicePlaces (i:Int) (j:Int) 1=j - i:=by
 unfold Builtin.Slice.slicePlaces;have h1:(1:Int) > 0:=by lia
 simp only [h1,if_true,Int.ediv_one]
 split <;> lia
theorem rK {v:À}{o:Option Int}{Q:Option Int->Â->Prop} (p:IsPart v o) (h:Q o s):wpAny (model prog w) A (Builtin.Slice.slicePartIndex v) Q E s:=by
 cases p with
 | none=>exact slicePart_none h
 | int i t=>exact slicePart_int h
theorem j3 {sl:Á}{vl vu:À}{lo hi:Option Int}{n:Nat}{Q:Int×Int×Nat->Â->Prop} (hs:s.heap.IsSliceOf sl vl vu .none) (pl:IsPart vl lo) (pu:IsPart vu hi)
  (h:Q (((sIx n 0 lo:Nat):Int),1,sIx n n hi - sIx n 0 lo) s):wpAny (model prog w) A (Builtin.Slice.sliceApplied (.ref sl) (pure (n:Int))) Q E s:=by
 obtain⟨os,Di,Lw,Gr⟩:=id hs;unfold Builtin.Slice.sliceApplied Builtin.Slice.sliceFields;refine Æ (Æ (î Di Gr (x:=vl) rfl (Æ (î Di Gr (x:=vu) rfl (Æ (î Di Gr (x:=.none) rfl (É ?_)))))));refine Æ (slicePart_none ?_);show wpAny _ _ (if ((1:Int) == 0)=true then _ else _) _ _ s;rw[Ä (by decide)];refine Æ (rK pl (Æ (rK pu (Æ (É ?_)))));show wpAny _ _ (match Builtin.Slice.sliceAdjust lo hi 1 (n:Int) with | (lo,hi)=>pure (lo,(1:Int),Builtin.Slice.slicePlaces lo hi 1)) _ _ s;rw[AN lo hi n];show wpAny _ _ (pure (((sIx n 0 lo:Nat):Int),(1:Int),Builtin.Slice.slicePlaces ((sIx n 0 lo:Nat):Int) ((sIx n n hi:Nat):Int) 1)) _ _ s;rw[zX];exact É h
theorem GC (xs:Array À) (i k:Nat):((List.range k).filterMap λ (m:Nat)=>xs[((i:Int)+(m:Int) * 1).toNat]?).toArray=((xs.toList.drop i).take k).toArray:=by
 have e:(λ (m:Nat)=>xs[((i:Int)+(m:Int) * 1).toNat]?)=λ m=>xs[i+m]?:=by
  funext m;have:((i:Int)+(m:Int) * 1).toNat=i+m:=by lia
  rw[this]
 rw[e];have:=pick_run xs i k;rw[List.filterMap_map] at this;have e2:((λ x=>xs[x]?) ∘ λ x=>i+x)=λ m=>xs[i+m]?:=rfl;rw[e2] at this;rw[this]
theorem getItem_tuple_cut {t sl:Á}{items:Array À}{vl vu:À}{lo hi:Option Int}{Q:À->Â->Prop} (ht:IsTup s.heap t items) (hs:s.heap.IsSliceOf sl vl vu .none) (pl:IsPart vl lo) (pu:IsPart vu hi)
  (hw:¬ (sIx items.size 0 lo=0/\sIx items.size items.size hi=items.size))
  (h:Q (.ref s.heap.objs.size) { s with heap:=s.heap.push { cls:=.type "tuple",data:=.seq ((items.toList.drop (sIx items.size 0 lo)).take (sIx items.size items.size hi - sIx items.size 0 lo)).toArray } })
  (hsz:items.size<=sizeLine):wpAny (model prog w) A (getItem (.ref t) (.ref sl)) Q E s:=by
 have vw:sizeOk (.seq ((items.toList.drop (sIx items.size 0 lo)).take (sIx items.size items.size hi - sIx items.size 0 lo)).toArray):=by
  show ((items.toList.drop (sIx items.size 0 lo)).take (sIx items.size items.size hi - sIx items.size 0 lo)).toArray.size<=sizeLine;rw[ê,Ø,Ņ,Ĕ];lia
 have hj:sIx items.size items.size hi<=items.size:=MX _ _ (Î _) hi;obtain⟨os,Di,Lw,Gr⟩:=id hs;have Oj:s.TypeIs (.ref sl) "slice" := ⟨os,Di,Lw⟩;unfold getItem
 try with_reducible refine ð ?_
 first | refine Æ (É ?_) | skip
 refine Æ (wpAny_sequenceKey ht.typeIs (by decide) ?_);refine Æ (Ĭ (name:=Str.ofString "__getitem__") ht.typeIs Ź
  (ă Ź ht.typeIs entry_tuple_getitem ?_ (args_tuple_getitem _ _)))
 show wpAny _ _ (Builtin.Tuple.tupleItemsOf (.ref t) >>= _) _ _ s;refine Æ (tupleItemsOf_ ht ?_);refine Æ (Ś Oj ?_);rw[Å (by decide)];refine Æ (j3 hs pl pu ?_);have Dj:¬ ((((sIx items.size 0 lo:Nat):Int) == 0 && (1:Int) == 1 && (sIx items.size items.size hi - sIx items.size 0 lo) == items.size)=true):=by
  intro q;rw[ņ,ņ] at q;have q1:((sIx items.size 0 lo:Nat):Int)=0:=eq_of_beq q.1.1;have q2:sIx items.size items.size hi - sIx items.size 0 lo=items.size:=eq_of_beq q.2;exact hw ⟨by lia,by lia⟩
 show wpAny _ _ (if (((sIx items.size 0 lo:Nat):Int) == 0 && (1:Int) == 1 && (sIx items.size items.size hi - sIx items.size 0 lo) == items.size)=true then _ else _) _ _ s;rw[Ä Dj,GC]
 first
  | exact Æ (m:=Builtin.Tuple.tupleExact _) (Đ (É ⟨_,rfl,É h⟩) vw)
  | exact Æ (m:=Builtin.Tuple.tupleExact _) (Đ (Æ (É (É ⟨_,rfl,É h⟩))) vw)
  | exact Æ (Æ (m:=Builtin.Tuple.tupleExact _) (Đ (É (É ⟨_,rfl,É h⟩)) vw))
  | exact Æ (Æ (m:=Builtin.Tuple.tupleExact _) (Đ (É ⟨_,rfl,É h⟩) vw))
end
end HT
namespace L2
open PySem PySem.Spec PyProof.Rows
abbrev TO:=St->Hp->(Option Int->Hp->Prop)->Prop
def PO (X:Cx) (e:Option Expr) (t:TO):Prop:=
 ∀ (gi:List (Á×Obj)) (s:Â) (σ:St) (H:Hp) (Q:Option Int->Hp->Prop),Inv X gi σ H s->t σ H Q->
  wpAny (model X.prog X.w) X.A (evalPart e X.env) (λ u s'=>∃ o H',Inv X gi σ H' s'/\IsPart u o/\Q o H') X.xe s
def JN:TO:=λ _ H Q=>Q none H
def OI (t:TE):TO:=λ σ H Q=>t σ H λ x H1=>∃ i,x=.int i/\Q (some i) H1
theorem sQ {ns:List Int}:∀ {us:List À},bO (ns.map V.int) us->IntsAre us ns:=by
 induction ns with
 | nil=>intro us r;rw[û] at r;cases r;exact .nil
 | cons n ns ih=>
  intro us r;rw[ã] at r;cases r with
  | cons r1 r2=>
   obtain⟨t,e⟩:=r1;subst e;exact .cons n t (ih r2)
section
variable {X:Cx}{e:Expr}{te:TE}{lo hi:Option Expr}{tl th:TO}{pos p2:Pos}
theorem o9:PO X none JN:=by
 intro gi s σ H Q I h;rw[evalPart_none];exact É ⟨none,H,I,.none,h⟩
theorem o8 (h:PE X e te):PO X (some e) (OI te):=by
 intro gi s σ H Q I hw;rw[evalPart_some];refine cY (h gi s σ H _ I hw) λ u s1 ⟨x,H1,I1,r1,q1⟩=>?_;obtain⟨i,rfl,q⟩:=q1;obtain⟨t,rfl⟩:=r1;exact⟨some i,H1,I1,.int i t,q⟩
def PX (X:Cx) (r:V->Option Int->Option Int->Hp->VK->Prop):Prop:=
 ∀ (gi:List (Á×Obj)) (s:Â) (σ:St) (H:Hp) (x:V) (v vl vu:À) (lo hi:Option Int) (sl:Á) (Q:VK),Inv X gi σ H s->bE x v->s.heap.IsSliceOf sl vl vu .none->IsPart vl lo->IsPart vu hi->r x lo hi H Q->
  ∃ T id,typeLookup (.type T) "__getitem__" = pure (some (.builtin id))/\s.TypeIs v T/\wpAny (model X.prog X.w) X.A (getItem v (.ref sl)) (EP X gi σ Q) X.xe s
def tSl (r:V->Option Int->Option Int->Hp->VK->Prop) (te:TE) (tl th:TO):TE:=λ σ H Q=>te σ H λ x H1=>tl σ H1 λ l H2=>th σ H2 λ u H3=>r x l u H3 Q
theorem kY {r:V->Option Int->Option Int->Hp->VK->Prop} (hr:PX X r) (he:PE X e te) (hl:PO X lo tl) (hu:PO X hi th):PE X (.Subscript e (.Slice lo hi none p2) pos) (tSl r te tl th):=by
 intro gi s σ H Q I h;refine Subscript_ (cY (he gi s σ H _ I h) λ v s1 ⟨x,H1,I1,r1,q1⟩=>?_);refine wpAny_Slice (cY (hl gi s1 σ H1 _ I1 q1) λ vl s2 ⟨l,H2,I2,pl,q2⟩=>cY (hu gi s2 σ H2 _ I2 q2) λ vu s3 ⟨u,H3,I3,pu,q3⟩=>?_);rw[evalPart_none];refine É ?_;have I4:Inv X gi σ H3 { s3 with heap:=s3.heap.push { cls:=.type "slice",data:=.fields #[vl,vu,.none] } }:=I3.kept (t':=s3.toks) λ b ob q=>Í _ q;obtain⟨T,id,hT,ht,hg⟩:=hr gi { s3 with heap:=s3.heap.push { cls:=.type "slice",data:=.fields #[vl,vu,.none] } } σ H3 x v vl vu l u s3.heap.objs.size Q I4 r1 (Heap.IsSliceOf.new ..) pl pu q3;show wpAny (model X.prog X.w) X.A (subscriptTail e (.Slice lo hi none p2) v (.ref s3.heap.objs.size)) (EP X gi σ Q) X.xe { s3 with heap:=s3.heap.push { cls:=.type "slice",data:=.fields #[vl,vu,.none] } };exact tail_any (ops:=[.ref s3.heap.objs.size,v]) ht hT hg (by with_unfolding_all rfl)
def nH (xs:List V) (lo hi:Option Int):List V:=(xs.drop (HT.sIx xs.length 0 lo)).take (HT.sIx xs.length xs.length hi - HT.sIx xs.length 0 lo)
theorem qD (xs:List V) (lo hi:Option Int):(nH xs lo hi).length<=xs.length:=by
 unfold nH;rw[Ø,Ņ];lia
def rSlT (K:Ç):V->Option Int->Option Int->Hp->VK->Prop:=λ x lo hi H Q=>∃ a xs,x=.ref a/\bC K H a xs/\
 ¬ (HT.sIx xs.length 0 lo=0/\HT.sIx xs.length xs.length hi=xs.length)/\∀ p,H p=none->Q (.ref p) (upd H p (.tup (nH xs lo hi)))
theorem MS:PX X (rSlT X.K):=by
 intro gi s σ H x v vl vu lo hi sl Q I rx hs pl pu h;obtain⟨a,xs,rfl,hx,hw,q⟩:=h;cases rx;obtain⟨its,r,ht,hz⟩:=I.tuple hx;have gy:its.toArray.size=xs.length:=by rw[ê];exact r.length.symm
 refine⟨"tuple",_,PyProof.Rows.slot_tuple_getitem.lookup,ht.typeIs,?_⟩;refine HT.getItem_tuple_cut ht hs pl pu (by rw[gy];exact hw) ?_ (by rw[gy];exact hz);rw[gy];refine⟨.ref s.heap.objs.size,_,I.laid (t':=s.toks) (o:=.tup (nH xs lo hi)) (λ b ob q=>Í _ q) (Î _) ?_,rfl,q _ (I.hok.fresh (Î _))⟩;exact⟨Ĉ (qD xs lo hi) hz,_,(r.drop (HT.sIx xs.length 0 lo)).take (HT.sIx xs.length xs.length hi - HT.sIx xs.length 0 lo),IsTup.new _ _⟩
def LY (K:Ç):R2:=λ x y H Q=>∃ a b xs ys,x=.ref a/\y=.ref b/\bC K H a xs/\bC K H b ys/\xs≠[]/\xs.length+ys.length<=sizeLine/\
 (ys=[]->Q (.ref a) H)/\(ys≠[]->∀ p,H p=none->Q (.ref p) (upd H p (.tup (xs++ys))))
theorem bO.nil_iff {xs:List V}{us:List À} (r:bO xs us):us=[]↔xs=[]:=by
 cases r with
 | nil=>simp
 | cons _ _=>simp
theorem BF:jJ X (binaryOp .Add) (LY X.K):=by
 intro gi s σ H x y v u Q I rx ry h;obtain⟨a,b,xs,ys,rfl,rfl,ha,hb,hx,hz,q1,q2⟩:=h;cases rx;cases ry;obtain⟨its,r1,p1,_⟩:=I.tuple ha;obtain⟨ux,r2,p2,_⟩:=I.tuple hb;refine HT.cat_tup p1 p2 (λ z=>hx (r1.nil_iff.mp z)) (λ z=>⟨.ref a,H,I,rfl,q1 (r2.nil_iff.mp z)⟩) (λ z=>?_) (by rw[<- r1.length,<- r2.length];exact hz);refine⟨.ref s.heap.objs.size,_,I.laid (t':=s.toks) (o:=.tup (xs++ys)) (λ b ob q=>Í _ q) (Î _) ?_,rfl,q2 (λ w=>z (r2.nil_iff.mpr w)) _ (I.hok.fresh (Î _))⟩;exact⟨by rw[à];exact hz,_,r1.append r2,IsTup.new _ _⟩
end
def KU (n:Nat) (i:Int):Option Nat:=if 0<=i then (if i < n then some i.toNat else none) else if -(n:Int)<=i then some (i+n).toNat else none
def JB {α:Type} (xs:List α) (i:Int):Option α:=(KU xs.length i).bind λ j=>xs[j]?
theorem BL {n:Nat}{i:Int}{j:Nat} (h:KU n i=some j):seqIndex? i n=some j/\j < n/\-(n:Int)<=i/\i < n:=by
 unfold KU at h
 by_cases h0:0<=i
 ·rw[Å h0] at h
  by_cases h1:i < n
  ·rw[Å h1] at h;have e:i.toNat=j:=â h;exact⟨by rw[seqIndex_of h0 h1,e],by lia,by lia,h1⟩
  ·rw[Ä h1] at h;cases h
 ·rw[Ä h0] at h
  by_cases h1 : -(n:Int)<=i
  ·rw[Å h1] at h;have e:(i+n).toNat=j:=â h;exact⟨by rw[seqIndex_neg (by lia) h1,e],by lia,h1,by lia⟩
  ·rw[Ä h1] at h;cases h
theorem xH {α:Type}{xs:List α}{i:Int}{v:α} (h:JB xs i=some v):∃ j,seqIndex? i xs.length=some j/\xs[j]? = some v/\j < xs.length/\-(xs.length:Int)<=i/\i < xs.length:=by
 unfold JB at h;cases e:KU xs.length i with
 | none=>rw[e] at h;cases h
 | some j=>
  rw[e] at h;obtain⟨h1,h2,h3,h4⟩:=BL e;exact⟨j,h1,h,h2,h3,h4⟩
theorem bN {α:Type}{xs:List α}{j:Nat}{v:α} (h:xs[j]? = some v):JB xs (j:Int)=some v:=by
 have hj:j < xs.length:=(Ò.mp h).1;have e:KU xs.length (j:Int)=some j:=by
  unfold KU;rw[Å (by lia),Å (by lia)];simp
 unfold JB;rw[e];exact h
def CH (b:Expr):Prop:=∀ o i,subscripted b false o i=operate [o,i] (getItem o i)
def EY (X:Cx) (r:R2):Prop:=
 ∀ (value slice:Expr) (gi:List (Á×Obj)) (s:Â) (σ:St) (H:Hp) (x y:V) (v u:À) (Q:VK),Inv X gi σ H s->bE x v->bE y u->r x y H Q->
  subscripted slice false v u=operate [v,u] (getItem v u)->wpAny (model X.prog X.w) X.A (subscriptTail value slice v u) (EP X gi σ Q) X.xe s
def MtR (X:Cx) (id:String) (r:V->List V->Hp->VK->Prop):Prop:=
 ∀ (gi:List (Á×Obj)) (s:Â) (σ:St) (H:Hp) (x:V) (xs:List V) (v:À) (us:List À) (Q:VK),Inv X gi σ H s->bE x v->bO xs us->r x xs H Q->
  wpAny (model X.prog X.w) X.A (call (.builtin id) (v::us)) (EP X gi σ Q) X.xe s
section
variable {X:Cx}{a b:Expr}{ta tb:TE}{pos:Pos}
theorem EY.or {r r':R2} (h:EY X r) (h':EY X r'):EY X (λ x y H Q=>r x y H Q\/r' x y H Q):=by
 intro value slice gi s σ H x y v u Q I rx ry q hs;rcases q with q | q
 ·exact h value slice gi s σ H x y v u Q I rx ry q hs
 ·exact h' value slice gi s σ H x y v u Q I rx ry q hs
theorem qA {r:R2} (hr:EY X r) (ha:PE X a ta) (hb:PE X b tb) (hs:CH b):PE X (.Subscript a b pos) (jI r ta tb):=by
 intro gi s σ H Q I h;exact Subscript_ (O3 ha hb I h λ v u s2 x y H2 I2 rx ry q=>hr a b gi s2 σ H2 x y v u Q I2 rx ry q (hs _ _))
def OU (K:Ç):R2:=λ x y H Q=>∃ p xs i v,x=.ref p/\y=.int i/\bD K H p xs/\JB xs i=some v/\Q v H
def OS (K:Ç):R2:=λ x y H Q=>∃ p xs i v,x=.ref p/\y=.int i/\bC K H p xs/\JB xs i=some v/\Q v H
def OT:R2:=λ x y H Q=>∃ z i c,x=.str z/\y=.int i/\z.length<=sizeLine/\JB z.cps.toList i=some c/\Q (.str ⟨#[c]⟩) H
theorem KS:EY X (OU X.K):=by
 intro value slice gi s σ H x y v u Q I rx ry h hs;obtain⟨p,xs,i,z,rfl,rfl,hq,he,q⟩:=h;cases rx;obtain⟨t,rfl⟩:=ry;obtain⟨its,r,pl,hz⟩:=I.list hq;obtain⟨j,h1,h2,h3,h4,h5⟩:=xH he;obtain⟨w,ew,wt⟩:=r.get h2;have hl:=r.length;have hn:=sL;have fin:EP X gi σ Q w s:=⟨z,H,I,wt,q⟩
 by_cases h0:0<=i
 ·have hj:i.toNat=j:=by
   rw[seqIndex_of h0 h5] at h1;exact â h1
  exact item_listR pl.isList h0 (by lia) (by rw[hj];simpa using ew) fin hs
 ·have hj:(i+(its.toArray.size:Int)).toNat=j:=by
   rw[seqIndex_neg (by lia) h4] at h1;rw[ê,<- hl];exact â h1
  exact afy (x:=w) pl.isList.typeIs slot_list_getitem.lookup
   (wpAny_getItem_list_neg (Q:=λ r s'=>r=w/\EP X gi σ Q r s') pl.isList (by lia) (by rw[ê] <;> lia) (by lia) (by rw[hj];simpa using ew) ⟨rfl,fin⟩) hs
theorem NM:EY X (OS X.K):=by
 intro value slice gi s σ H x y v u Q I rx ry h hs;obtain⟨p,xs,i,z,rfl,rfl,hq,he,q⟩:=h;cases rx;obtain⟨t,rfl⟩:=ry;obtain⟨its,r,pl,hz⟩:=I.tuple hq;obtain⟨j,h1,h2,h3,h4,h5⟩:=xH he;obtain⟨w,ew,wt⟩:=r.get h2;have hl:=r.length;have hn:=sL;have fin:EP X gi σ Q w s:=⟨z,H,I,wt,q⟩;exact afy (x:=w) pl.typeIs slot_tuple_getitem.lookup
  (getItem_tuple (j:=j) (Q:=λ r s'=>r=w/\EP X gi σ Q r s') pl (by lia) (by lia) (by rw[ê,<- hl];exact h1) (by simpa using ew) ⟨rfl,fin⟩) hs
theorem NN:EY X OT:=by
 intro value slice gi s σ H x y v u Q I rx ry h hs;obtain⟨z,i,c,rfl,rfl,hz,he,q⟩:=h;obtain⟨t,rfl⟩:=rx;obtain⟨t',rfl⟩:=ry;obtain⟨j,h1,h2,h3,h4,h5⟩:=xH he;have hl:z.cps.toList.length=z.length:=by simp [Str.length]
 rw[hl] at h1 h4 h5;have hn:=sL;exact tail_any (typeIs_str s z t) slot_str_getitem.lookup (getItem_str (c:=c) (by
  have e1:decide (i < -(2 ^ 63:Int))=false:=þ (by lia);have e2:decide (i ≥ 2 ^ 63)=false:=þ (by lia);rw[e1,e2,Bool.or_false]) (by rw[h1];simpa using h2) ⟨.str ⟨#[c]⟩,H,I.tok _,⟨_,rfl⟩,q⟩) hs
def zJ (K:Ç):R2:=λ x y H Q=>OU K x y H Q\/OS K x y H Q\/OT x y H Q
theorem NO:EY X (zJ X.K):=KS.or (NM.or NN)
theorem A9 (its:List À) (n j:Nat) (u:À):Obj.mapSeq (·.setIfInBounds j u) { cls:=.type "list",data:=.seq its.toArray n }={ cls:=.type "list",data:=.seq (its.set j u).toArray n }:=by
 simp [Obj.mapSeq]
theorem Inv.lst {gi:List (Á×Obj)}{σ:St}{H:Hp}{s:Â}{p:Á}{xs:List V} (I:Inv X gi σ H s) (h:H p=some (.lst xs)) :
  ∃ (its:List À) (n:Nat),bO xs its/\s.heap.get? p=some { cls:=.type "list",data:=.seq its.toArray n }/\xs.length<=sizeLine:=by
 obtain⟨z,its,n,r,e⟩:=I.hok p _ h;exact⟨its,n,r,e,z⟩
theorem Inv.lstUpd {gi:List (Á×Obj)}{σ:St}{H:Hp}{s:Â}{p:Á}{xs ys:List V}{its its':List À}{n n':Nat}{f:Obj->Obj} (I:Inv X gi σ H s) (h:H p=some (.lst xs))
  (ho:s.heap.get? p=some { cls:=.type "list",data:=.seq its.toArray n }) (hf:f { cls:=.type "list",data:=.seq its.toArray n }={ cls:=.type "list",data:=.seq its'.toArray n' }) (r:bO ys its') (hz:ys.length<=sizeLine) (t:Nat) :
  Inv X gi σ (upd H p (.lst ys)) { s with heap:=s.heap.update p f,toks:=t }:=by
 have e:(s.heap.update p f).get? p=some { cls:=.type "list",data:=.seq its'.toArray n' }:=by
  rw[ł f ho (by rw[hf] <;> rfl),hf]
 refine I.write (x:=p) (e:=p) (by rw[h];trivial) (.inl rfl) (λ b u hb q=>(Ş _ _ (Ne.symm hb)).trans q) ⟨_,e⟩ ?_;exact⟨hz,its',n',r,e⟩
def y4:V->V->V->Hp->(Hp->Prop)->Prop:=λ o i v H Q=>∃ p xs k j,o=.ref p/\i=.int k/\H p=some (.lst xs)/\KU xs.length k=some j/\Q (upd H p (.lst (xs.set j v)))
theorem i7:O6 X y4:=by
 intro gi s σ H o i v ov iv u Q I ro ri rv h;obtain⟨p,xs,k,j,rfl,rfl,hp,hj,q⟩:=h;cases ro;obtain⟨t,rfl⟩:=ri;obtain⟨its,n,r,ho,hz⟩:=I.lst hp;obtain⟨h1,h2,h3,h4⟩:=BL hj;have hl:=r.length;have hn:=sL;have I':Inv X gi σ (upd H p (.lst (xs.set j v))) { s with heap:=s.heap.update p (Obj.mapSeq (·.setIfInBounds j u)) }:=
  I.lstUpd hp ho (A9 its n j u) (r.set rv j) (by rw[List.length_set];exact hz) s.toks
 by_cases h0:0<=k
 ·have hk:k.toNat=j:=by
   rw[seqIndex_of h0 h4] at h1;exact â h1
  exact PySem.W.ki_setAt ho h0 (by lia) (by rw[ê,<- hl];exact h4) (by rw[hk];exact⟨_,I',q⟩)
 ·have hk:(k+(its.toArray.size:Int)).toNat=j:=by
   rw[seqIndex_neg (by lia) h3] at h1;rw[ê,<- hl];exact â h1
  exact PySem.W.ki_setBack ho (by lia) (by rw[ê,<- hl];exact h3) (by lia) (by rw[hk];exact⟨_,I',q⟩)
theorem vO (lo hi:Option Int) (n:Nat):(sliceBounds lo hi none n).1=((HT.sIx n 0 lo:Nat):Int)/\(sliceBounds lo hi none n).2.1=((HT.sIx n n hi:Nat):Int)/\(sliceBounds lo hi none n).2.2=1:=by
 refine⟨?_,?_,rfl⟩
 ·cases lo with
  | none=>simp [sliceBounds,HT.sIx]
  | some i=>
   simp only [sliceBounds,HT.sIx,Option.getD_none,show (1:Int) > 0 by decide,if_true]
   by_cases h:i < 0
   ·simp only [h,if_true] <;> lia
   ·simp only [h,if_false] <;> lia
 ·cases hi with
  | none=>simp [sliceBounds,HT.sIx]
  | some i=>
   simp only [sliceBounds,HT.sIx,Option.getD_none,show (1:Int) > 0 by decide,if_true]
   by_cases h:i < 0
   ·simp only [h,if_true] <;> lia
   ·simp only [h,if_false] <;> lia
theorem tN (its:List À) (lo hi:Option Int):slicePick its.toArray lo hi none=((its.drop (HT.sIx its.length 0 lo)).take (HT.sIx its.length its.length hi - HT.sIx its.length 0 lo)).toArray:=by
 obtain⟨h1,h2,h3⟩:=vO lo hi its.toArray.size;unfold slicePick;rw[h1,h2,h3];simp only [sliceRange_one,pick_run,ê] <;> rfl
def OR (K:Ç):V->Option Int->Option Int->Hp->VK->Prop:=λ x lo hi H Q=>∃ a xs,x=.ref a/\bD K H a xs/\∀ p,H p=none->Q (.ref p) (upd H p (.lst (nH xs lo hi)))
theorem JR:PX X (OR X.K):=by
 intro gi s σ H x v vl vu lo hi sl Q I rx hs pl pu h;obtain⟨a,xs,rfl,hx,q⟩:=h;cases rx;obtain⟨its,r,ht,hz⟩:=I.list hx;have gy:=r.length;refine⟨"list",_,slot_list_getitem.lookup,ht.isList.typeIs,?_⟩;refine wpAny_getItem_list_slice ht.isList hs pl pu .none (by simp) ?_ (by rw[ê] <;> lia);rw[tN,<- gy];refine⟨.ref s.heap.objs.size,_,I.laid (t':=s.toks) (o:=.lst (nH xs lo hi)) (λ b ob q=>Í _ q) (Î _) ?_,rfl,q _ (I.hok.fresh (Î _))⟩;exact⟨Ĉ (qD xs lo hi) hz,_,0,(r.drop (HT.sIx xs.length 0 lo)).take (HT.sIx xs.length xs.length hi - HT.sIx xs.length 0 lo),ß _ rfl⟩
def jC:V->Bool
 | .non=>true
 | .bl _=>true
 | .int _=>true
 | .str _=>true
 | _=>false
def zK:V->V->Bool
 | .non,.non=>true
 | .bl a,.bl b=>a == b
 | .bl a,.int b=>(if a then 1 else 0) == b
 | .int a,.bl b=>a == (if b then 1 else 0)
 | .int a,.int b=>a == b
 | .str a,.str b=>a == b
 | _,_=>false
theorem NX {A:Around}{s:Â}{y x:V}{u v:À} (ry:bE y u) (rx:bE x v) (fy:jC y=true) (fx:jC x=true):SeqAt.EqAt A s u v (zK y x):=by
 cases y with
 | non=>
  cases ry;cases x with
  | non=>cases rx;exact ň _
  | bl b=>cases rx;exact SeqAt.EqAt.none_bool b
  | int b=>obtain⟨t,rfl⟩:=rx;exact SeqAt.EqAt.none_int b t
  | str b=>obtain⟨t,rfl⟩:=rx;exact SeqAt.EqAt.none_str b t
  | _=>exact absurd (show false=true from fx) Û
 | bl a=>
  cases ry;cases x with
  | non=>cases rx;exact SeqAt.EqAt.bool_none a
  | bl b=>cases rx;exact ae7 a b
  | int b=>obtain⟨t,rfl⟩:=rx;exact SeqAt.EqAt.bool_int a b t
  | str b=>obtain⟨t,rfl⟩:=rx;exact SeqAt.EqAt.bool_str a b t
  | _=>exact absurd (show false=true from fx) Û
 | int a=>
  obtain⟨t',rfl⟩:=ry;cases x with
  | non=>cases rx;exact SeqAt.EqAt.int_none a t'
  | bl b=>cases rx;exact SeqAt.EqAt.int_bool a t' b
  | int b=>obtain⟨t,rfl⟩:=rx;exact afm a t' b t
  | str b=>obtain⟨t,rfl⟩:=rx;exact SeqAt.EqAt.int_str a t' b t
  | _=>exact absurd (show false=true from fx) Û
 | str a=>
  obtain⟨t',rfl⟩:=ry;cases x with
  | non=>cases rx;exact SeqAt.EqAt.str_none a t'
  | bl b=>cases rx;exact SeqAt.EqAt.str_bool a t' b
  | int b=>obtain⟨t,rfl⟩:=rx;exact SeqAt.EqAt.str_int a t' b t
  | str b=>obtain⟨t,rfl⟩:=rx;exact SeqAt.EqAt.str_str a t' b t
  | _=>exact absurd (show false=true from fx) Û
 | _=>exact absurd (show false=true from fy) Û
def EW (x:V) (u:À):Bool:=match u with
 | .none=>zK .non x
 | .bool b=>zK (.bl b) x
 | .int i _=>zK (.int i) x
 | .str z _=>zK (.str z) x
 | _=>false
theorem wV {x y:V}{u:À} (r:bE y u) (f:jC y=true):EW x u=zK y x:=by
 cases y with
 | non=>cases r;rfl
 | bl b=>cases r;rfl
 | int i=>obtain⟨t,rfl⟩:=r;rfl
 | str z=>obtain⟨t,rfl⟩:=r;rfl
 | _=>exact absurd (show false=true from f) Û
theorem xJ {x:V}:∀ {xs:List V}{us:List À},bO xs us->xs.all jC=true->us.any (EW x)=xs.any λ y=>zK y x
 | _,_,.nil,_=>rfl
 | y::xs,u::us,.cons r t,f=>by
  rw[ag9,ņ] at f;rw[Ŵ,Ŵ,wV r f.1,xJ t f.2]
theorem oF {A:Around}{s:Â}{x:V}{v:À} (rx:bE x v) (fx:jC x=true):∀ {xs:List V}{us:List À},bO xs us->xs.all jC=true->∀ u∈us,SeqAt.EqAt A s u v (EW x u)
 | _,_,.nil,_=>λ u hu=>by cases hu
 | y::xs,u::us,.cons r t,f=>λ u' hu=>by
  rw[ag9,ņ] at f;rcases Ý.mp hu with rfl | hu
  ·rw[wV r f.1];exact NX r rx f.1 fx
  ·exact oF rx fx t f.2 u' hu
def inV (x:V) (xs:List V):Bool:=xs.any λ y=>zK y x
def rIn (K:Ç) (neg:Bool):R2:=λ x y H Q=>∃ p xs,y=.ref p/\(bD K H p xs\/bC K H p xs)/\jC x=true/\xs.all jC=true/\Q (.bl (if neg then !inV x xs else inV x xs)) H
theorem D9:jJ X (compareOp .In) (rIn X.K false):=by
 intro gi s σ H x y v u Q I rx ry h;obtain⟨p,xs,rfl,hq,fx,fs,q⟩:=h;cases ry;rcases hq with hq | hq
 ·obtain⟨its,r,pl,hz⟩:=I.list hq;refine SeqAt.in_listAt (EW x) pl.isList (λ w hw=>oF rx fx r fs w (by simpa using hw)) ⟨.bl _,H,I,rfl,?_⟩;rw[show its.toArray.any (EW x)=its.any (EW x) by simp,xJ r fs];exact q
 ·obtain⟨its,r,pl,hz⟩:=I.tuple hq;refine SeqAt.in_tupleAt (EW x) pl (λ w hw=>oF rx fx r fs w (by simpa using hw)) ⟨.bl _,H,I,rfl,?_⟩;rw[show its.toArray.any (EW x)=its.any (EW x) by simp,xJ r fs];exact q
theorem xE:dZ X (.builtin "len") (λ xs H Q=>∃ p ys,xs=[.ref p]/\(bD X.K H p ys\/bC X.K H p ys)/\Q (.int ys.length) H):=by
 intro gi s σ H xs us Q I r h;obtain⟨p,ys,rfl,hq,q⟩:=h;obtain⟨u,rfl,rx⟩:=pU r;cases rx;have hn:=sL;rcases hq with hq | hq
 ·obtain⟨its,r',pl,hz⟩:=I.list hq;have gy:=r'.length;exact Calls.call_len_list pl.isList (by simp only [ê] <;> lia) ⟨.int ys.length,H,I.tok _,⟨s.toks+1,by rw[ê,gy]⟩,q⟩
 ·obtain⟨its,r',pl,hz⟩:=I.tuple hq;have gy:=r'.length;exact len_tuple pl (by simp only [ê] <;> lia) ⟨.int ys.length,H,I.tok _,⟨s.toks+1,by rw[ê,gy]⟩,q⟩
theorem xD:dZ X (.type "list") (λ xs H Q=>∃ p ys,xs=[.ref p]/\(bD X.K H p ys\/bC X.K H p ys)/\∀ l,H l=none->Q (.ref l) (upd H l (.lst ys))):=by
 intro gi s σ H xs us Q I r h;obtain⟨p,ys,rfl,hq,q⟩:=h;obtain⟨u,rfl,rx⟩:=pU r;cases rx;have fin:∀ (its:List À),bO ys its->ys.length<=sizeLine->∀ (h':Heap) (c':Nat),(∀ b o',s.heap.get? b=some o'->h'.get? b=some o')->
   h'.get? s.heap.objs.size=some { cls:=.type "list",dict:=none,data:=.seq its.toArray c',slots:=#[] }->EP X gi σ Q (.ref s.heap.objs.size) { s with heap:=h' }:=λ its r' hz h' c' kp e=>
  ⟨.ref s.heap.objs.size,_,I.laid (t':=s.toks) kp (Î _) (show cG X.prog X.w _ h' _ (.lst ys) from ⟨hz,its,c',r',e⟩),rfl,q _ (I.hok.fresh (Î _))⟩
 rcases hq with hq | hq
 ·obtain⟨its,r',pl,hz⟩:=I.list hq;have gy:=r'.length;obtain⟨o,ho,hc,n,hd⟩:=pl.isList;exact call_list_seq p (.inl rfl) ho hc hd (λ h' c' kp e=>fin its r' hz h' c' kp e) (by simp only [ê] <;> lia)
 ·obtain⟨its,r',pl,hz⟩:=I.tuple hq;have gy:=r'.length;obtain⟨o,ho,hc,n,hd⟩:=pl;exact call_list_seq p (.inr rfl) ho hc hd (λ h' c' kp e=>fin its r' hz h' c' kp e) (by simp only [ê] <;> lia)
theorem u7:dZ X (.type "tuple") (λ xs H Q=>∃ p ys,xs=[.ref p]/\((bD X.K H p ys/\∀ l,H l=none->Q (.ref l) (upd H l (.tup ys)))\/(bC X.K H p ys/\Q (.ref p) H))):=by
 intro gi s σ H xs us Q I r h;obtain⟨p,ys,rfl,h⟩:=h;obtain⟨u,rfl,rx⟩:=pU r;cases rx;rcases h with ⟨hq,q⟩ | ⟨hq,q⟩
 ·obtain⟨its,r',pl,hz⟩:=I.list hq;have gy:=r'.length;refine call_tuple_list pl.isList (λ h' kp=>?_) (by simp only [ê] <;> lia);have I1:Inv X gi σ H { s with heap:=h' }:=I.kept (t':=s.toks) kp;have I2:Inv X gi σ (upd H h'.objs.size (.tup ys)) { s with heap:=h'.push { cls:=.type "tuple",data:=.seq its.toArray } }:=
   I1.laid (t':=s.toks) (λ b o e=>Í _ e) (Î _) (show cG X.prog X.w _ _ _ (.tup ys) from ⟨hz,its,r',IsTup.new _ _⟩)
  exact⟨.ref h'.objs.size,_,I2,rfl,q _ (I1.hok.fresh (Î _))⟩
 ·obtain⟨its,r',pl,hz⟩:=I.tuple hq;exact call_tuple_same pl ⟨.ref p,H,I,rfl,q⟩
def tyV (K:Ç) (T:String) (x:V) (H:Hp):Prop:=match x with
 | .str _=>T = "str"
 | .int _=>T = "int"
 | .ref p=>(T = "list" /\ ∃ xs,bD K H p xs)\/(T = "tuple" /\ ∃ o,K.lookup p=some o/\o.cls=.type "tuple" /\ o.dict=none)\/
   (T = "dict" /\ ((∃ gu,H p=some (.dK gu))\/∃ gu,H p=some (.dT gu)))\/(T = "set" /\ ∃ S n,H p=some (.set S n))
 | _=>False
theorem MH {gi:List (Á×Obj)}{σ:St}{H:Hp}{s:Â}{T:String}{x:V}{v:À} (I:Inv X gi σ H s) (r:bE x v) (ty:tyV X.K T x H) :
  s.TypeIs v T/\∀ a,v=.ref a->∃ ob,s.heap.get? a=some ob/\ob.dict=none:=by
 cases x with
 | str z=>
  obtain⟨t,rfl⟩:=r;cases (show T = "str" from ty);exact⟨typeIs_str s z t,λ _ e=>nomatch e⟩
 | int i=>
  obtain⟨t,rfl⟩:=r;cases (show T = "int" from ty);exact⟨İ s i t,λ _ e=>nomatch e⟩
 | ref p=>
  cases r;rcases ty with ⟨rfl,xs,hq⟩ | ⟨rfl,o,hk,hc,hd⟩ | ⟨rfl,hk⟩ | ⟨rfl,S,n,hk⟩
  ·obtain⟨its,_,pl,_⟩:=I.list hq;refine⟨pl.isList.typeIs,λ a e=>?_⟩;cases e;obtain⟨o,n,e,c,hd,_⟩:=pl;exact⟨o,e,hd⟩
  ·refine⟨⟨o,I.kIn p o hk,hc⟩,λ a e=>?_⟩;cases e;exact⟨o,I.kIn _ o hk,hd⟩
  ·have z:∃ o,s.heap.get? p=some o/\o.ExactDict:=by
    rcases hk with ⟨gu,hk⟩ | ⟨gu,hk⟩
    ·obtain⟨_,_,_,_,o,_,_,e,ex,_⟩:=I.hok p _ hk;exact⟨o,e,ex⟩
    ·obtain⟨_,_,_,_,o,_,_,e,ex,_⟩:=I.hok p _ hk;exact⟨o,e,ex⟩
   obtain⟨o,e,ex⟩:=z;refine⟨⟨o,e,ex.1⟩,λ a e2=>?_⟩;cases e2;exact⟨o,e,ex.2.1⟩
  ·obtain⟨o,_,_,_,e,ex,_⟩:=I.hok p _ hk;refine⟨⟨o,e,ex.1⟩,λ a e2=>?_⟩;cases e2;exact⟨o,e,ex.2.1⟩
 | _=>exact False.elim ty
def tBM (K:Ç) (T:String) (r:V->List V->Hp->VK->Prop) (to:TE) (t:TA):TE:=λ σ H Q=>to σ H λ x H1=>tyV K T x H1/\t σ H1 λ xs H2=>r x xs H2 Q
variable {o e:Expr}{es:List Expr}{to:TE}{t:TA}{name:Str}{apos jd:Pos}{T id:String}{r:V->List V->Hp->VK->Prop}
theorem OZ (pa:PlainAttrs T) (slot:Slot T name id) (Ol:typeOf (.builtin id)=pure (.type "method_descriptor")) (hm:MtR X id r) (ho:PE X o to) (ha:PA X (e::es) t)
  (yn:attributeBase o name X.env (eval o X.env)=eval o X.env:=by with_unfolding_all rfl)
  (Dk:((backTo jd (starEach (e::es) X.env)).all (λ x=>!x.1) && (backToKw jd (keywordEach [] X.env)).all (λ x=>x.1.isSome)
   && decide ((e::es).length+([]:List Keyword).length+(if ([]:List Keyword).isEmpty then 0 else 1) < 30))=true:=by with_unfolding_all rfl)
  (yo:(apos.endLine == jd.line)=true:=by with_unfolding_all rfl) (hs:starEach (e::es) X.env=(false,eval e X.env)::starEach es X.env:=by with_unfolding_all rfl) (nk:(backTo jd (starEach es X.env)).any (·.1)=false:=by with_unfolding_all rfl) :
  PE X (.Call (.Attribute o name apos) (e::es) [] jd) (tBM X.K T r to t):=by
 intro gi s σ H Q I h;refine wpAny_Call_method_late yn Dk yo rfl (cY (ho gi s σ H _ I h) λ v s1 ⟨x,H1,I1,r1,ty,q1⟩=>?_);obtain⟨h1,h2⟩:=MH I1 r1 ty;refine⟨T,id,pa,slot,Ol,h1,h2,?_⟩;have hA:=ha jd gi s1 σ H1 _ I1 q1;rw[hs] at hA ⊢;refine afz (by show (false || (backTo jd (starEach es X.env)).any (·.1))=false;rw[nk] <;> rfl) (ae8 ?_);exact cY hA λ us s2 ⟨vs,H2,I2,r2,q2⟩=>hm gi s2 σ H2 x vs v us Q I2 r1 r2 q2
end
def MtM (X:Cx) (id:String) (r:V->List V->Hp->VK->Prop):Prop:=
 ∀ (gi:List (Á×Obj)) (s:Â) (σ:St) (H:Hp) (x:V) (xs:List V) (v:À) (us:List À) (Q:VK),Inv X gi σ H s->bE x v->bO xs us->r x xs H Q->
  wpAny (model X.prog X.w) X.A (call (.builtin id) (v::us)) (EP X gi σ Q) X.xe s
theorem um {X:Cx}{id:String}{r:V->List V->Hp->VK->Prop} (h:MtM X id r):MtR X id r:=h
theorem rf {p:Prop} (h:p:=by with_unfolding_all exact rfl):p:=h
theorem bO.one {x:V}{us:List À} (h:bO [x] us):∃ u,us=[u]/\bE x u:=pU h
theorem bO.two {x y:V}{us:List À} (h:bO [x,y] us):∃ u v,us=[u,v]/\bE x u/\bE y v:=FC h
theorem bO.rep {xs:List V}{us:List À} (h:bO xs us):∀ k:Nat,bO (List.replicate k xs).flatten (List.replicate k us).flatten
 | 0=>.nil
 | k+1=>by
  rw[ĭ,ĭ,œ,œ];exact bO.append h (bO.rep h k)
theorem pK (its:List À):∀ (k:Nat) (jh:List À),
  List.foldl (λ x1 x2=>x1++x2) jh.toArray (List.replicate k its.toArray)=(jh++(List.replicate k its).flatten).toArray
 | 0,jh=>by simp
 | k+1,jh=>by
  have e:jh.toArray++its.toArray=(jh++its).toArray:=by simp
  have e2:(jh++its)++(List.replicate k its).flatten=jh++(List.replicate (k+1) its).flatten:=by
   rw[ĭ,œ,ý]
  rw[<- e2,<- pK its k (jh++its),<- e,ĭ,Ĵ]
section
variable {X:Cx}{gi:List (Á×Obj)}{σ:St}{H:Hp}{s:Â}{l b:Á}{xs ys zs:List V}
theorem Inv.lset {its its':List À}{n:Nat}{f:Array À->Array À}{t':Nat} (I:Inv X gi σ H s) (hH:H l=some (.lst xs))
  (e:s.heap.get? l=some { cls:=.type "list",data:=.seq its.toArray n }) (hf:f its.toArray=its'.toArray) (hv:bO ys its') (hz:ys.length<=sizeLine) :
  Inv X gi σ (upd H l (.lst ys)) { s with heap:=s.heap.update l (Obj.mapSeq f),toks:=t' }:=by
 have q:=PySem.IsL.update e f;rw[hf] at q;refine I.write (x:=l) (e:=l) (by rw[hH];exact trivial) (.inl rfl) (λ b' u hb hu=>(Ş s.heap (Obj.mapSeq f) (Ne.symm hb)).trans hu) ⟨_,q⟩ ?_;exact⟨hz,its',_,hv,q⟩
theorem Inv.lnew {its:List À}{t':Nat} (I:Inv X gi σ H s) (hv:bO ys its) (hz:ys.length<=sizeLine) :
  Inv X gi σ (upd H s.heap.objs.size (.lst ys)) { s with heap:=s.heap.push { cls:=.type "list",data:=.seq its.toArray },toks:=t' }:=
 I.laid (λ _ _ q=>Í _ q) (Î _) ⟨hz,its,0,hv,ß _ rfl⟩
theorem Inv.fresh (I:Inv X gi σ H s):H s.heap.objs.size=none:=I.hok.fresh (Î _)
theorem Inv.lstM (I:Inv X gi σ H s) (hH:H l=some (.lst xs)):xs.length<=sizeLine/\∃ (its:List À) (n:Nat),bO xs its/\xs.length=its.length/\s.heap.get? l=some { cls:=.type "list",data:=.seq its.toArray n }:=by
 obtain⟨z,its,n,r,e⟩:=I.hok l _ hH;exact⟨z,its,n,r,r.length,e⟩
theorem GR {n:Nat} (h:n<=sizeLine):Builtin.List.listTooLong n=false:=by
 unfold Builtin.List.listTooLong;exact þ (by lia)
end
section
variable {X:Cx}
def JW:V->List V->Hp->VK->Prop:=λ x vs H Q=>∃ l xs y,x=.ref l/\vs=[y]/\H l=some (.lst xs)/\xs.length < sizeLine/\Q .non (upd H l (.lst (xs++[y])))
theorem cE:MtM X "list.append" JW:=by
 intro gi s σ H x vs v us Q I rx rv h;obtain⟨l,xs,y,rfl,rfl,hH,hz,q⟩:=h;cases rx;obtain⟨u,rfl,ru⟩:=rv.one;obtain⟨z,its,n,r,hl,e⟩:=I.lstM hH;refine ħ F.slot_list_append ⟨_,e,rfl⟩ F.entry_list_append (F.args_list_append_2 _ _) (PySem.list_append l its.toArray n u (by rw[ê];lia)) ⟨e,?_⟩;refine⟨.non,_,I.lset (its':=its++[u]) hH e (by simp) (r.append (.cons ru .nil)) ?_,rfl,q⟩;rw[à,ē];lia
def rCat:R2:=λ x y H Q=>∃ l b xs zs,x=.ref l/\y=.ref b/\H l=some (.lst xs)/\H b=some (.lst zs)/\xs.length+zs.length<=sizeLine/\∀ p,H p=none->Q (.ref p) (upd H p (.lst (xs++zs)))
theorem rX:jJ X (binaryOp .Add) rCat:=by
 intro gi s σ H x y v u Q I rx ry h;obtain⟨l,b,xs,zs,rfl,rfl,hH,hB,hz,q⟩:=h;cases rx;cases ry;obtain⟨z,its,n,r,hl,e⟩:=I.lstM hH;obtain⟨z2,ux,n2,r2,xq,e2⟩:=I.lstM hB;refine PySem.P.add_list e e2 ?_ (by rw[ê,ê];lia);have ea:its.toArray++ux.toArray=(its++ux).toArray:=by simp
 rw[ea];exact⟨.ref _,_,I.lnew (t':=s.toks) (r.append r2) (by rw[à];lia),rfl,q _ I.fresh⟩
def rRep:R2:=λ x y H Q=>∃ l k xs,x=.ref l/\y=.int k/\H l=some (.lst xs)/\-(2 ^ 63)<=k/\k < 2 ^ 63/\xs.length * k.toNat<=sizeLine/\
 ∀ p,H p=none->Q (.ref p) (upd H p (.lst (List.replicate k.toNat xs).flatten))
theorem wM {α:Type} (xs:List α) (k:Nat):(List.replicate k xs).flatten.length=k * xs.length:=by
 induction k with
 | zero=>simp
 | succ k ih=>rw[ĭ,œ,à,ih,Nat.succ_mul,Nat.add_comm]
theorem NA:jJ X (binaryOp .Mult) rRep:=by
 intro gi s σ H x y v u Q I rx ry h;obtain⟨l,k,xs,rfl,rfl,hH,h1,h2,hz,q⟩:=h;cases rx;obtain⟨t,rfl⟩:=ry;obtain⟨z,its,n,r,hl,e⟩:=I.lstM hH;have gy:its.toArray.size * k.toNat<=sizeLine:=by rw[ê,<- hl];exact hz
 have Om:¬ its.toArray.size * k.toNat > (2 ^ 63 - 1) / 8:=by
  have:(sizeLine:Nat)<=(2 ^ 63 - 1) / 8:=by decide
  lia
 have Gs:¬ (!Builtin.List.listFitsIndex k)=true:=by
  rw[fitsIndex_both h1 h2];exact Û
 have Gu:¬ Builtin.List.listTooLong (its.toArray.size * k.toNat)=true:=by
  rw[GR gy];exact Û
 have On:List.foldl (λ x1 x2=>x1++x2) #[] (List.replicate (if its.toArray.isEmpty=true then 0 else k.toNat) its.toArray)=(List.replicate k.toNat its).flatten.toArray:=by
  have f0:∀ m:Nat,List.foldl (λ x1 x2=>x1++x2) #[] (List.replicate m its.toArray)=(List.replicate m its).flatten.toArray:=λ m=>by
   have:=pK its m [];rw[agl] at this;exact this
  rw[f0];cases its with
  | nil=>simp
  | cons a r'=>rw[Ä (by simp)]
 refine afa (T := "list") (U := "int") (by decide) ⟨_,e,rfl⟩ (λ s'=>İ s' k t) noFill_list_mul F.fills_int_mul ŕ repeat_list F.slot_int_index.lookup
  (ħ ŕ (İ s k t) ahj (ag2 _ _) (int___rmul___int_list k t l its.toArray n)
   ⟨e,rfl,⟨_,e,rfl⟩,ħ F.slot_list_mul ⟨_,e,rfl⟩ F.entry_list_mul (F.args_list_mul_2 _ _) (AutoListH.list___mul___list_int_3 l its.toArray n k t Gs Om Gu) ⟨e,?_⟩⟩)
 rw[On];exact⟨.ref _,_,I.lnew (t':=s.toks) (r.rep k.toNat) (by rw[wM,Nat.mul_comm];exact hz),rfl,q _ I.fresh⟩
end
section
variable {prog:Ã}{A:Around}{E:À->Â->Prop}{s:Â}
end
section
variable {X:Cx}
end
section
variable {ba:Type}[DecidableEq ba]
def cI (gu:List (ba×V)) (k:ba):Option V:=(gu.find? λ kv=>decide (kv.1=k)).map (·.2)
def eT (gu:List (ba×V)) (k:ba) (v:V):List (ba×V):=
 if (gu.any λ kv=>decide (kv.1=k))=true then gu.map (λ kv=>if kv.1=k then (kv.1,v) else kv) else gu++[(k,v)]
theorem xR {k:ba}:cI ([]:List (ba×V)) k=none:=rfl
theorem d0 {p:ba×V}{r:List (ba×V)}{k:ba} (e:p.1=k):cI (p::r) k=some p.2:=by simp [cI,Ŗ,e]
theorem cR {p:ba×V}{r:List (ba×V)}{k:ba} (e:¬ p.1=k):cI (p::r) k=cI r k:=by simp [cI,Ŗ,e]
theorem hW (k:ba):∀ gu:List (ba×V),(gu.any λ kv=>decide (kv.1=k))=(cI gu k).isSome
 | []=>rfl
 | p::r=>by
  rw[Ŵ]
  by_cases e:p.1=k
  ·simp only [d0 e,ò e,Bool.true_or,agt]
  ·rw[cR e,þ e,ř];exact hW k r
theorem xS (k j:ba) (y:V):∀ gu:List (ba×V),cI (gu.map λ kv=>if kv.1=k then (kv.1,y) else kv) j=(cI gu j).map λ x=>if j=k then y else x
 | []=>rfl
 | p::r=>by
  have ih:=xS k j y r;rw[ã]
  by_cases h:p.1=k
  ·rw[Å h]
   by_cases e:p.1=j
   ·rw[d0 (p:=(p.1,y)) e,d0 e,Ų,Å (e.symm.trans h)]
   ·rw[cR (p:=(p.1,y)) e,cR e,ih]
  ·rw[Ä h]
   by_cases e:p.1=j
   ·rw[d0 (p:=p) e,d0 e,Ų,Ä (λ z=>h (e.trans z))]
   ·rw[cR (p:=p) e,cR e,ih]
theorem uE (k j:ba) (y:V):∀ gu:List (ba×V),cI gu k=none->cI (gu++[(k,y)]) j=if j=k then some y else cI gu j
 | [],_=>by
  by_cases e:k=j
  ·rw[Å e.symm];exact d0 (p:=(k,y)) e
  ·rw[Ä (λ z=>e z.symm)];exact cR (p:=(k,y)) e
 | p::r,hn=>by
  rw[Ľ];have hk:¬ p.1=k:=λ z=>by rw[d0 z] at hn;cases hn
  rw[cR hk] at hn;have ih:=uE k j y r hn
  by_cases e:p.1=j
  ·rw[d0 e,d0 e,Ä (λ z=>hk (e.trans z))]
  ·rw[cR e,cR e,ih]
theorem nP (gu:List (ba×V)) (k j:ba) (y:V):cI (eT gu k y) j=if j=k then some y else cI gu j:=by
 unfold eT
 by_cases a:(gu.any λ kv=>decide (kv.1=k))=true
 ·rw[Å a,xS];rw[hW] at a
  by_cases e:j=k
  ·obtain⟨x,hx⟩:=Option.isSome_iff_exists.mp a;rw[Å e,e,hx,Ų,Å rfl]
  ·rw[Ä e];cases cI gu j with
   | none=>rfl
   | some x=>rw[Ų,Ä e]
 ·rw[Ä a];refine uE k j y gu ?_;rw[hW] at a;cases q:cI gu k with
  | none=>rfl
  | some x=>rw[q] at a;exact (a rfl).elim
theorem eZ (gu:List (ba×V)) (k:ba) (v:V):(eT gu k v).length<=gu.length+1:=by
 unfold eT
 split
 ·rw[Ê];lia
 ·rw[à,ë,List.length_nil];lia
theorem kU {gu:List (ba×V)}{k:ba} (v:V) (h:cI gu k=none):eT gu k v=gu++[(k,v)]:=by
 unfold eT;rw[hW,h];exact Ä (by decide)
theorem pS.isSome_eq {o:Option V}{u:Option À} (r:pS o u):o.isSome=u.isSome:=by
 cases o with
 | none=>cases u with
  | none=>rfl
  | some _=>exact (show False from r).elim
 | some _=>cases u with
  | none=>exact (show False from r).elim
  | some _=>rfl
theorem pS.getD {o:Option V}{u:Option À}{d:V}{d':À} (r:pS o u) (rd:bE d d'):bE (o.getD d) (u.getD d'):=by
 cases o with
 | none=>cases u with
  | none=>exact rd
  | some _=>exact (show False from r).elim
 | some _=>cases u with
  | none=>exact (show False from r).elim
  | some _=>exact r
theorem KV.val {gu:List (ba×V)}{vs:List (ba×À)} (r:KV gu vs) (k:ba):pS (cI gu k) (valueAt vs k):=by
 unfold KV at r
 induction r with
 | nil=>exact True.intro
 | @cons p q ps qs h t ih=>
  obtain⟨h1,h2⟩:=h
  by_cases e:p.1=k
  ·have e':q.1=k:=h1.symm.trans e;have b:valueAt (q::qs) k=some q.2:=by simp [valueAt,Ŗ,e']
   rw[d0 e,b];exact h2
  ·have e':¬ q.1=k:=λ z=>e (h1.trans z);have b:valueAt (q::qs) k=valueAt qs k:=by simp [valueAt,Ŗ,e']
   rw[cR e,b];exact ih
theorem KV.any {gu:List (ba×V)}{vs:List (ba×À)} (r:KV gu vs) (k:ba):(gu.any λ kv=>decide (kv.1=k))=vs.any λ kv=>decide (kv.1=k):=by
 unfold KV at r
 induction r with
 | nil=>rfl
 | cons h t ih=>rw[Ŵ,Ŵ,ih,h.1]
theorem KV.repl {gu:List (ba×V)}{vs:List (ba×À)} (r:KV gu vs) (k:ba) {y:V}{u:À} (ry:bE y u) :
  KV (gu.map λ kv=>if kv.1=k then (kv.1,y) else kv) (vs.map λ kv=>if kv.1=k then (kv.1,u) else kv):=by
 unfold KV at r ⊢
 induction r with
 | nil=>exact .nil
 | @cons p q ps qs h t ih=>
  rw[ã,ã];refine .cons ?_ ih;obtain⟨h1,h2⟩:=h
  by_cases e:p.1=k
  ·rw[Å e,Å (h1.symm.trans e)];exact⟨h1,ry⟩
  ·rw[Ä e,Ä (λ z=>e (h1.trans z))];exact⟨h1,h2⟩
theorem KV.put {gu:List (ba×V)}{vs:List (ba×À)} (r:KV gu vs) (k:ba) {y:V}{u:À} (ry:bE y u):KV (eT gu k y) (stored vs k u):=by
 unfold eT stored;rw[r.any k]
 by_cases e:(vs.any λ kv=>decide (kv.1=k))=true
 ·rw[Å e,Å e];exact r.repl k ry
 ·rw[Ä e,Ä e];exact Paired.snoc r ⟨rfl,ry⟩
theorem KV.length {gu:List (ba×V)}{vs:List (ba×À)} (r:KV gu vs):gu.length=vs.length:=å r
end
theorem HG {P:Ã}{w:World}{k:gB}{u:À} (r:bE (kV k) u):(eK P w).is k u=true:=by
 cases k with
 | inl i=>obtain⟨t,e⟩:=(show ∃ t,u=Value.int i t from r);subst e;exact yJ P w i t
 | inr z=>cases z with
  | some x=>obtain⟨t,e⟩:=(show ∃ t,u=Value.str x t from r);subst e;exact yI P w x t
  | none=>obtain rfl:=(show u=Value.none from r);rfl
theorem uO {P:Ã}{w:World}:∀ {ks:List gB}{us:List À},bO (ks.map kV) us->ItemsAre (eK P w) ks us
 | [],_,r=>by rw[û] at r;cases r;exact .nil
 | k::ks,_,r=>by
  rw[ã] at r;cases r with
  | cons h t=>exact .cons (HG h) (uO t)
abbrev KT (H:Hp):List (List gB×V)->List (List gB×Á×À)->Prop:=Paired λ p q=>p.1=q.1/\H q.2.1=some (.tup (p.1.map kV))/\bE p.2 q.2.2
theorem KT.val {H:Hp}{gu:List (List gB×V)}{xs:List (List gB×Á×À)} (r:KT H gu xs) (k:List gB):pS (cI gu k) ((atKey xs k).map (·.2)):=by
 induction r with
 | nil=>exact True.intro
 | @cons p q ps qs h t ih=>
  obtain⟨h1,_,h2⟩:=h
  by_cases e:p.1=k
  ·have e':q.1=k:=h1.symm.trans e;have b:atKey (q::qs) k=some q.2:=by simp [atKey,Ŗ,e']
   rw[d0 e,b];exact h2
  ·have e':¬ q.1=k:=λ z=>e (h1.trans z);have b:atKey (q::qs) k=atKey qs k:=by simp [atKey,Ŗ,e']
   rw[cR e,b];exact ih
theorem KT.repl {H:Hp}{gu:List (List gB×V)}{xs:List (List gB×Á×À)} (r:KT H gu xs) (k:List gB) {y:V}{u:À} (ry:bE y u) :
  KT H (gu.map λ kv=>if kv.1=k then (kv.1,y) else kv) (xs.map (putAt k u)):=by
 induction r with
 | nil=>exact .nil
 | @cons p q ps qs h t ih=>
  rw[ã,ã];refine .cons ?_ ih;obtain⟨h1,h2,h3⟩:=h;unfold putAt
  by_cases e:p.1=k
  ·rw[Å e,Å (h1.symm.trans e)];exact⟨h1,h2,ry⟩
  ·rw[Ä e,Ä (λ z=>e (h1.trans z))];exact⟨h1,h2,h3⟩
theorem KT.put {H:Hp}{gu:List (List gB×V)}{xs:List (List gB×Á×À)} (r:KT H gu xs) (k:List gB) {b:Á}{y:V}{u:À} (hb:H b=some (.tup (k.map kV))) (ry:bE y u) :
  KT H (eT gu k y) (storedH xs k b u):=by
 have e:(gu.any λ kv=>decide (kv.1=k))=(atKey xs k).isSome:=by
  rw[hW,(r.val k).isSome_eq,Ŭ]
 unfold eT storedH;rw[e]
 by_cases q:(atKey xs k).isSome=true
 ·rw[Å q,Å q];exact r.repl k ry
 ·rw[Ä q,Ä q];exact Paired.snoc r ⟨rfl,hb,ry⟩
theorem KT.keeps {H H':Hp}{gu:List (List gB×V)}{xs:List (List gB×Á×À)} (r:KT H gu xs) (ht:∀ b ys,H b=some (.tup ys)->H' b=some (.tup ys)):KT H' gu xs:=
 ì r λ _ _ z=>⟨z.1,ht _ _ z.2.1,z.2.2⟩
section
variable {H:Hp}{h:Heap}{a:Á}
theorem LL {u:HO} (ok:mV P w H h) (e:Rd H a u):cG P w H h a u:=e.ok ok
theorem IE {gu:List (gB×V)} (ok:mV P w H h) (e:Rd H a (.dK gu)):gu.length<=sizeLine/\(a == sysModules)=false/\∃ vs,KV gu vs/\h.DictOf (eK P w) a vs:=
 show cG P w H h a (.dK gu) from LL ok e
theorem MA {gu:List (gB×V)} (ok:mV P w H h) (e:H a=some (.dK gu)):gu.length<=sizeLine/\(a == sysModules)=false/\∃ vs,KV gu vs/\h.DictOf (eK P w) a vs:=IE ok (.inl e)
theorem AB {ks:List gB} (ok:mV P w H h) (e:H a=some (.tup (ks.map kV))):(tupleKind (eK P w)).is h ks a:=by
 obtain⟨_,its,r,o,h1,h2,n,h3⟩:=(show cG P w H h a (.tup (ks.map kV)) from ok a _ e);exact⟨o,its.toArray,n,h1,h2,h3,by simpa using uO r⟩
theorem ID {gu:List (List gB×V)} (ok:mV P w H h) (e:Rd H a (.dT gu)):gu.length<=sizeLine/\(a == sysModules)=false/\
  ∃ xs,KT H gu xs/\h.DictOfH (tupleKind (eK P w)) a xs:=by
 obtain⟨z,y,xs,r,o,es,ep,h1,h2,h3,h4,h5⟩:=(show cG P w H h a (.dT gu) from LL ok e);refine⟨z,y,xs,r,o,es,ep,h1,h2,h3,h4,λ x hx=>?_,h5⟩;have all:∀ {l:List (List gB×V)}{m:List (List gB×Á×À)},KT H l m->∀ x∈m,(tupleKind (eK P w)).is h x.1 x.2.1:=by
  intro l m q
  induction q with
  | nil=>intro x hx;exact nomatch hx
  | @cons p q ps qs hq t ih=>
   intro x hx;rcases Ý.mp hx with e | hx
   ·subst e;exact AB ok (by rw[<- hq.1];exact hq.2.1)
   ·exact ih x hx
 exact all r x hx
theorem PQ {gu:List (List gB×V)} (ok:mV P w H h) (e:H a=some (.dT gu)):gu.length<=sizeLine/\(a == sysModules)=false/\
  ∃ xs,KT H gu xs/\h.DictOfH (tupleKind (eK P w)) a xs:=ID ok (.inl e)
end
def AT (H:Hp) (a:Á) (y:V) (r:Option V):Prop:=
 (∃ gu k,Rd H a (.dK gu)/\y=kV k/\r=cI gu k)\/∃ gu k b,Rd H a (.dT gu)/\y=.ref b/\H b=some (.tup (k.map kV))/\r=cI gu k
def J0 (H:Hp) (a:Á) (y v:V) (H':Hp):Prop:=
 (∃ gu k,H a=some (.dK gu)/\y=kV k/\gu.length < sizeLine/\H'=upd H a (.dK (eT gu k v)))\/
 ∃ gu k b,H a=some (.dT gu)/\y=.ref b/\H b=some (.tup (k.map kV))/\gu.length < sizeLine/\H'=upd H a (.dT (eT gu k v))
theorem AT.k {H:Hp}{a:Á}{gu:List (gB×V)}{k:gB} (e:H a=some (.dK gu)):AT H a (kV k) (cI gu k):=.inl ⟨gu,k,.inl e,rfl,rfl⟩
theorem J0.k {H:Hp}{a:Á}{gu:List (gB×V)}{k:gB}{v:V} (e:H a=some (.dK gu)) (hl:gu.length < sizeLine):J0 H a (kV k) v (upd H a (.dK (eT gu k v))):=.inl ⟨gu,k,e,rfl,hl,rfl⟩
section
variable {X:Cx}{gi:List (Á×Obj)}{σ:St}{H:Hp}{s:Â}{a:Á}{y v:V}{u r:À}{o:Option V}{A:Around}{E:À->Â->Prop}
theorem Inv.big (I:Inv X gi σ H s):sysModules < s.heap.objs.size:=by
 have h:mainGlobals < s.heap.objs.size:=(I.mod.glob.keeps I.bk).lt;exact Nat.lt_trans (by decide) h
theorem lZ {h':Heap}{t':Nat}{ob:HO} (I:Inv X gi σ H s) (mu:mH (H a)) (hs:Heap.SameBut a s.heap h') (he:∃ q,h'.get? a=some q) (new:cG X.prog X.w (upd H a ob) h' a ob) :
  Inv X gi σ (upd H a ob) { s with heap:=h',toks:=t' }:=
 I.write (x:=a) (e:=a) mu (.inl rfl) (λ b q hb z=>(hs.2 b hb).trans z) he new
theorem O0 {P:Ã}{w:World}{H':Hp}{h':Heap}{gu:List (gB×V)}{vs:List (gB×À)} (z:gu.length<=sizeLine) (hd:(a == sysModules)=false) (rel:KV gu vs) (dd:h'.DictOf (eK P w) a vs) :
  cG P w H' h' a (.dK gu):=⟨z,hd,vs,rel,dd⟩
theorem EB {H':Hp}{Q:Unit->Â->Prop} (hu:A.units+1 < cLine) (I:Inv X gi σ H s) (g:J0 H a y v H') (ry:bE y u) (rv:bE v r) (h:∀ s',Inv X gi σ H' s'->Q () s') :
  wpAny (model X.prog X.w) A (setItem (.ref a) u r) Q E s:=by
 rcases g with ⟨gu,k,e,ey,l,eH⟩ | ⟨gu,k,b,e,ey,eb,l,eH⟩
 ·subst ey eH;obtain⟨z,hd,vs,rel,dd⟩:=MA I.hok e;have hz:vs.length<=sizeLine:=by rw[<- rel.length];exact z
  have hl:(eT gu k v).length<=sizeLine:=by have:=eZ gu k v;lia
  refine wpAny_setItem_pairs (hsz:=hz) (HG ry) dd λ h' xt hs=>h _ ?_;have he:∃ q,h'.get? a=some q:=let ⟨q,_,_,hq,_⟩:=xt;⟨q,hq⟩;exact lZ I (by rw[e];exact True.intro) hs he (O0 hl hd (rel.put k rv) xt)
 ·subst ey eH;cases (show u=Value.ref b from ry);obtain⟨z,hd,xs,rel,dd⟩:=PQ I.hok e;have hz:xs.length<=sizeLine:=by rw[<- å rel];exact z
  have hl:(eT gu k v).length<=sizeLine:=by have:=eZ gu k v;lia
  refine wpAny_setItem_heap (hsz:=hz) (tupleKind_room_in1 hu) (AB I.hok eb) dd λ h' xt hs=>h _ ?_;obtain⟨q,es,ep,hq,h2,h3,h4,_,h5⟩:=xt;refine lZ I (by rw[e];exact True.intro) hs ⟨q,hq⟩ ⟨hl,hd,_,(rel.put k eb rv).keeps λ c ys ec=>?_,q,es,ep,hq,h2,h3,h4,h5⟩;rw[aJ (M0 ec e (λ z=>nomatch z))];exact ec
end
section
variable {X:Cx}{gi:List (Á×Obj)}{σ:St}{H:Hp}{s:Â}{a:Á}{gu:List (gB×V)}{k:gB}{u:À}{A:Around}{E:À->Â->Prop}
end
def OP (td ty tv:TE):TS:=λ D σ H=>tv σ H λ v H1=>td σ H1 λ x H2=>ty σ H2 λ y H3=>∃ a H4,x=.ref a/\J0 H3 a y v H4/\D.nx σ H4
section
variable {X:Cx}{o i e value:Expr}{pos pos' Df:Pos}{td ty tv:TE}
theorem JY (hu:X.A.units+1 < cLine) (ho:PE X o td) (hi:PE X i ty) (hv:PE X value tv) (hs:swapsWith value (some (.Subscript o i pos')) pos.line X.env=pure false) :
  PS X (.Assign [.Subscript o i pos'] value pos) (OP td ty tv):=by
 intro gi s σ H D I h;refine wpAny_Assign_Subscript (cY (hv gi s σ H _ I h) λ r s1 ⟨v,H1,I1,rv,q1⟩=>cY (ho gi s1 σ H1 _ I1 q1) λ u s2 ⟨x,H2,I2,rx,q2⟩=>cY (hi gi s2 σ H2 _ I2 q2) λ iv s3 ⟨y,H3,I3,ry,a,H4,ex,g,q3⟩=>?_) hs;subst ex;obtain rfl:u=Value.ref a:=rx;exact EB hu I3 g ry rv λ s4 I4=>⟨σ,H4,I4,q3⟩
end
theorem sW {P:Ã}{w:World}{H:Hp} (h:Heap) (hb:sysModules < h.objs.size):cG P w H (h.push { cls:=.type "dict",data:=.dict #[] }) h.objs.size (.dK []):=
 ⟨æ _,beq_eq_false_iff_ne.mpr (Ne.symm (Þ hb)),[],.nil,Heap.DictOf.new h⟩
def ML:TE:=λ _ H Q=>∀ p,H p=none->Q (.ref p) (upd H p (.dK []))
section
variable {X:Cx}{pos:Pos}
theorem rT:PE X (.Dict [] [] pos) ML:=λ gi s σ H Q I h=>
 wpAny_Dict_empty ⟨.ref s.heap.objs.size,_,I.laid (a:=s.heap.objs.size) (o:=.dK []) (t':=s.toks) (λ _ _ q=>Í _ q) (Î _) (sW s.heap I.big),rfl,h _ (I.hok.fresh (Î _))⟩
end
def FD:List (TE×TE)->St->Hp->(List (V×V)->Hp->Prop)->Prop
 | [],_,H,Q=>Q [] H
 | (tk,tv)::r,σ,H,Q=>tk σ H λ x H1=>tv σ H1 λ y H2=>FD r σ H2 λ ps H3=>Q ((x,y)::ps) H3
abbrev VV:List (V×V)->List (À×À)->Prop:=Paired λ p q=>bE p.1 q.1/\bE p.2 q.2
def PPs (X:Cx) (pos:Pos) (keys:List (Option Expr)) (values:List Expr) (Lx:List (TE×TE)):Prop:=
 ∀ (gi:List (Á×Obj)) (s:Â) (σ:St) (H:Hp) (Q:List (V×V)->Hp->Prop),Inv X gi σ H s->FD Lx σ H Q->
  wpAny (model X.prog X.w) X.A (evalPairs (pairTrees keys values X.env pos)) (λ vs s'=>∃ ps H',Inv X gi σ H' s'/\VV ps vs/\Q ps H') X.xe s
theorem K0 {X:Cx}{pos:Pos}:PPs X pos [] [] []:=λ gi s σ H Q I h=>pairTrees_nil_walk ⟨[],H,I,.nil,h⟩
theorem G9 {X:Cx}{pos:Pos}{k v:Expr}{ks:List (Option Expr)}{vs:List Expr}{tk tv:TE}{Lx:List (TE×TE)} (hk:PE X k tk) (hv:PE X v tv) (hr:PPs X pos ks vs Lx) :
  PPs X pos (some k::ks) (v::vs) ((tk,tv)::Lx):=λ gi s σ H Q I h=>
 pairTrees_cons_walk (cY (hk gi s σ H _ I h) λ u s1 ⟨x,H1,I1,rx,q1⟩=>cY (hv gi s1 σ H1 _ I1 q1) λ w2 s2 ⟨y,H2,I2,ry,q2⟩=>
  cY (hr gi s2 σ H2 _ I2 q2) λ ws s3 ⟨ps,H3,I3,rel,q3⟩=>⟨(x,y)::ps,H3,I3,.cons ⟨rx,ry⟩ rel,q3⟩)
structure M2 (X:Cx) (o:Expr) (m:Str) (apos:Pos) (e f:Expr) (jd:Pos):Prop where
 base:attributeBase o m X.env (eval o X.env)=eval o X.env
 few:((backTo jd (starEach [e,f] X.env)).all (λ x=>!x.1) && (backToKw jd (keywordEach [] X.env)).all (λ x=>x.1.isSome)
  && decide (([e,f]:List Expr).length+([]:List Keyword).length+(if ([]:List Keyword).isEmpty then 0 else 1) < 30))=true
 line:(apos.endLine == jd.line)=true
 trees:backTo jd (starEach [e,f] X.env)=[(false,eval e X.env),(false,eval f X.env)]
def IsD (H:Hp) (a:Á):Prop:=(∃ gu,Rd H a (.dK gu))\/∃ gu,Rd H a (.dT gu)
theorem NP {X:Cx}{gi:List (Á×Obj)}{σ:St}{H:Hp}{s:Â}{a:Á} (I:Inv X gi σ H s) (d:IsD H a) :
  s.TypeIs (.ref a) "dict" /\ (∀ b,Value.ref a=.ref b->∃ ob,s.heap.get? b=some ob/\ob.dict=none)/\(a == sysModules)=false:=by
 rcases d with ⟨gu,e⟩ | ⟨gu,e⟩
 ·obtain⟨_,hd,vs,_,dd⟩:=IE I.hok e;refine⟨dd.typeIs,λ b q=>?_,hd⟩;cases q;obtain⟨ob,_,_,h1,h2,_⟩:=dd;exact⟨ob,h1,h2.2.1⟩
 ·obtain⟨_,hd,xs,_,dd⟩:=ID I.hok e;refine⟨dd.typeIs,λ b q=>?_,hd⟩;cases q;obtain⟨ob,_,_,h1,h2,_⟩:=dd;exact⟨ob,h1,h2.2.1⟩
section
variable {X:Cx}{gi:List (Á×Obj)}{σ:St}{H:Hp}{s:Â}{a:Á}{y d:V}{u r:À}{o:Option V}{A:Around}{E:À->Â->Prop}
theorem O2 {Q:À->Â->Prop} (hu:A.units+1 < cLine) (I:Inv X gi σ H s) (g:AT H a y o) (ry:bE y u) (rd:bE d r) (h:∀ w' s',Inv X gi σ H s'->bE (o.getD d) w'->Q w' s') :
  wpAny (model X.prog X.w) A (call (.builtin "dict.get") [.ref a,u,r]) Q E s:=by
 rcases g with ⟨gu,k,e,ey,l⟩ | ⟨gu,k,b,e,ey,eb,l⟩
 ·subst ey;obtain⟨z,hd,vs,rel,dd⟩:=IE I.hok e;refine call_meetsIn af7 dd.typeIs ahm (aha _ _ _) (meets_dict_get_default (eK X.prog X.w) a (HG ry) hd r) ⟨_,dd.mapOf,h _ _ (I.tok _) ?_⟩;rw[l];exact (rel.val k).getD rd
 ·subst ey;cases (show u=Value.ref b from ry);obtain⟨z,hd,xs,rel,dd⟩:=ID I.hok e;refine call_meetsIn af7 dd.typeIs ahm (aha _ _ _) (meetsH_dict_get_default (tupleKind (eK X.prog X.w)) a b hd r) ⟨tupleKind_room_in1 hu,k,xs,AB I.hok eb,dd,h _ _ (I.tok _) ?_⟩;rw[l];exact (rel.val k).getD rd
end
def MN (td ty tx:TE):TE:=λ σ H Q=>td σ H λ x H1=>∃ a,x=.ref a/\IsD H1 a/\ty σ H1 λ y H2=>tx σ H2 λ z H3=>∃ o,AT H3 a y o/\Q (o.getD z) H3
section
variable {X:Cx}{o e f:Expr}{apos jd:Pos}{td ty tx:TE}
theorem rU (hu:X.A.units+1 < cLine) (ho:PE X o td) (he:PE X e ty) (hf:PE X f tx) (m:M2 X o "get" apos e f jd):PE X (.Call (.Attribute o "get" apos) [e,f] [] jd) (MN td ty tx):=by
 intro gi s σ H Q I h;refine wpAny_Call_method m.base m.few m.line ahb af7 PySem.F.type_dict_get (cY (ho gi s σ H _ I h) λ u s1 ⟨x,H1,I1,rx,a,ex,d,q1⟩=>?_);subst ex;obtain rfl:u=Value.ref a:=rx;obtain⟨t1,t2,_⟩:=NP I1 d;refine⟨t1,t2,?_⟩;rw[m.trees];refine afz rfl (ae8 (ũ (cY (he gi s1 σ H1 _ I1 q1) λ iv s2 ⟨y,H2,I2,ry,q2⟩=>
  ũ (cY (hf gi s2 σ H2 _ I2 q2) λ fv s3 ⟨z,H3,I3,rz,ov,g,q3⟩=>ag1 ?_))))
 exact O2 hu I3 g ry rz λ w' s4 I4 wt=>⟨_,H3,I4,wt,q3⟩
end
section
variable {X:Cx}{gi:List (Á×Obj)}{σ:St}{H:Hp}{s:Â}{a:Á}{gu:List (gB×V)}{A:Around}{E:À->Â->Prop}
end
section
variable {X:Cx}{gi:List (Á×Obj)}{σ:St}{H:Hp}{s:Â}{a:Á}{y:V}{u:À}{A:Around}{E:À->Â->Prop}
end
end L2
namespace Att
open PySem PySem.W PySem.Calls PyProof.Rows
theorem qI {P:Params}{h:Heap}:∀ (ns:List Int) (vs:List À),WellAll P h vs (ns.map WData.int)->IntsAre vs ns:=by
 intro ns
 induction ns with
 | nil=>
  intro vs w;rw[û] at w;cases w;exact .nil
 | cons n ns ih=>
  intro vs w;rw[ã] at w;cases w with
  | cons a b=>
   cases a;exact .cons _ _ (ih _ b)
theorem D3 {l:OpenLaw}{n:Nat} (hn:l.most=some n) {P:Params}{h:Heap}{args:List WData}{vals:List À}
  (Az:l.row.toRowW.claim.pre args=true) (Oo:WellAll P h vals args) :
  ∃ a vs ns,vals=[Value.ref a]/\args=[WData.list (ns.map WData.int)]/\h.get? a=some { cls:=.type "list",data:=.seq vs.toArray }/\IntsAre vs ns/\ns.length<=n:=by
 have ma:WShape.hasAll [] args [.list .int]=true:=(pre_splitW Az).1;have hc:l.pre.holds [] { args:=args }=true:=(pre_splitW Az).2;obtain⟨d,r,rfl,h1,h2⟩:=hasAllW_cons ma;obtain rfl:=hasAllW_nil h2;obtain⟨xs,rfl,h3⟩:=hasW_list h1;obtain⟨ns,rfl⟩:=items_int h3;have gy:ns.length<=n:=by
  unfold OpenLaw.pre at hc;have h4:(WTm.not (.lt (.lit (.int (n:Int))) (.len (.arg 0)))).holds [] { args:=[.list (ns.map .int)] }=true:=by
   have h4:=(holds_andW hc).1;rw[hn] at h4;exact h4
  have h5:=condW_of h4 (w_not (w_lt w_lit (w_len_list (w_arg rfl))));rw[Ê] at h5;refine Nat.le_of_not_lt λ q=>?_;have q':(n:Int) < ((ns.length:Nat):Int):=by lia
  first
   | (rw[ò q'] at h5;exact absurd h5 (by decide))
   | (simp at h5;lia)
 cases Oo with
 | cons w1 w2=>
  cases w2;cases w1 with
  | list ho yp=>exact⟨_,_,ns,rfl,rfl,ho,qI ns _ yp,gy⟩
theorem D7 (l:OpenLaw) (args:List WData):l.row.toRowW.claim.post args (.bool true) args=true:=
 postW_of (r:=l.row.toRowW) (X:=(true == true))
  (show WShape.has [] (.bool true) .bool=true by first | rfl | decide | simp [WShape.has,WShape.arms,WShape.armsAll])
  (show (WTm.eq .res (.lit (.bool true))).value [] { args:=args,res:=some (.bool true),after:=args }=some (.bool (true == true)) from w_eq_bool (w_res rfl) w_lit) rfl
theorem attach_call {l:OpenLaw}{n:Nat}{q:Ã}{loose:List Str}{XP:(Str->Option À)->Heap->Prop}{YP:World->Heap->Prop}{d:DefRec}
  (hn:l.most=some n) (Cf:d.params.defaults=[])
  (call:∀ (w:World) (s₀ ai:Â) (mg mb:Str->Option À) (fa:Á) (o:Obj) (pm cd doc:À) (a:Á) (vs:List À) (ns:List Int),
   Ground q loose [] XP w s₀ mg mb ai.heap->YP w ai.heap->
   ai.heap.get? fa=some o->o.data=.func (docDef d.name d.params d.body d.scope pm cd doc)->ai.heap.CodeRec cd d.name->mg d.name=some (.ref fa)->
   ai.heap.get? a=some { cls:=.type "list",data:=.seq vs.toArray }->IntsAre vs ns->ns.length<=n->ai.gens = #[]->
   codeAny (model l.prog w) callerA (.call (.ref fa) ⟨[.ref a],[]⟩) (λ r s'=>r=.ok (.ret (.bool true))/\OldK ai.heap s'.heap/\s'.os=ai.os/\AllBare s'.gens) ai) :
  WalkO q loose XP YP l.row.toRowW d [] (λ f vs=>PySem.call f vs):=by
 intro w s₀ ai mg mb G Y fa o pm cd doc dV kV ho hd nj hD Gv hg args vals as Az XF hrd Oo Ai;obtain rfl:dV=.none:=Dflts.none hD Cf;obtain rfl:kV=.none:=Dflts.noKw hD;obtain⟨a,vs,ns,rfl,rfl,Dl,hints,gy⟩:=D3 hn Az Oo;refine enter_call (ŵ (call w s₀ ai mg mb fa o pm cd doc a vs ns G Y ho (fd_plain hd) nj Gv Dl hints gy hg) λ r s' hq=>?_);obtain⟨rfl,h2,h3,h4⟩:=hq;exact⟨.inl ⟨.bool true,.bool true,[],rfl,λ _=>rfl,.bool true,D7 l _,λ _=>⟨List.Pairwise.nil,λ _ hm=>(nomatch hm)⟩⟩,h2,h3,h4⟩
section
variable {prog:Ã}{A:Around}{E:À->Â->Prop}{s:Â}{K:Frag}
end
end Att
namespace L2
open PySem PySem.Spec PyProof.Rows
theorem uD:∀ {vs:List À}{ns:List Int},IntsAre vs ns->bO (ns.map V.int) vs
 | _,_,.nil=>.nil
 | _,_,.cons n t h=>.cons ⟨t,rfl⟩ (uD h)
def lY (s:Stmt):Arguments:=match s with
 | .FunctionDef _ a _ _ _ _ _ _ _ _=>a
 | _=>{ posonlyargs:=[],args:=[],vararg:=none,kwonlyargs:=[],kw_defaults:=[],kwarg:=none,defaults:=[] }
def fZ (s:Stmt):List Stmt:=match s with
 | .FunctionDef _ _ b _ _ _ _ _ _ _=>b
 | _=>[]
def aL (s:Stmt):Scope:=match s with
 | .FunctionDef _ _ _ _ _ _ sc _ _ _=>sc
 | _=>{ kind:=.function,names:=[],isGenerator:=false,isCoroutine:=false }
abbrev kA:AU:=λ _ _ _ _ _ _=>False
abbrev E0:XK:=λ _ _ _=>False
theorem P0 {X:Cx}:nL kA X E0:=λ _ _ _ _ _ _ _ h=>h.elim
structure Fun (K:Ç) (x qual:Str) (st:Stmt) (f:Á) (fd:FuncData):Prop where
 ex:∃ (oc:À) (od:Option Á) (kV doc pm:À) (an:Option Á) (cdv ct:À) (osl:Array (Option À)),
  fd=PySem.W.fnOf x qual (lY st) (fZ st) (aL st) .none kV doc pm an cdv ct/\K.lookup f=some ⟨oc,od,.func fd,osl⟩/\PySem.W.codeIn K cdv qual=true
 kp:PySem.W.keepIn K (.ref f)=true
theorem Fun.ok {x qual:Str}{st:Stmt}{f:Á}{fd:FuncData}{N ps:List Str}{k:Nat}{sp:Sp} (F:Fun K x qual st f fd) (S:FnScope N ps (aL st)) (len:∀ vs H Q E,sp vs H Q E->vs.length=ps.length)
  (jt:∀ (ja:À) (A:Around) (outer:List Env) (s:Â) (H:Hp) (vs:List V) (Q:VK) (E:XK),Room k (A.deeper (envOfC qual (aL st) s.heap.objs.size f ja))->sp vs H Q E->
   ∃ t,xK (lI kA P w K mg base N qual (aL st) f ja A outer s H E).nox (fZ st) t/\t { nx:=λ _ H'=>Q .non H',rt:=Q } (iP N vs) H):FnOk P w K mg base kA (k+1) f fd ps sp:=by
 obtain⟨oc,od,kV,doc,pm,an,ja,ct,wq,rfl,lk,nj⟩:=F.ex;refine IB lk nj S len λ A outer s H vs Q E hr ke=>?_;obtain⟨t,h,q⟩:=jt ja A outer s H vs Q E hr ke;exact⟨t,h.nox,q⟩
theorem Fun.binds {x qual:Str}{st:Stmt}{f:Á}{fd:FuncData}{ps:List Str} (F:Fun K x qual st f fd)
  (h:∀ (kV doc pm:À) (an:Option Á) (ja ct:À) (us:List À),us.length=ps.length->bindArgs (PySem.W.fnOf x qual (lY st) (fZ st) (aL st) .none kV doc pm an ja ct) ⟨us,[]⟩=pure (ps.zip us)):oV K fd ps []:=by
 obtain⟨oc,od,kV,doc,pm,an,ja,ct,wq,rfl,lk,nj⟩:=F.ex;exact .all (h kV doc pm an ja ct)
theorem bZ {x qual:Str}{st:Stmt}{f:Á}{oc:À}{od an:Option Á}{wq:Array (Option À)}{kV doc pm ja ct:À} (l:K.lookup f=some ⟨oc,od,.func (PySem.W.fnOf x qual (lY st) (fZ st) (aL st) .none kV doc pm an ja ct),wq⟩)
  (c:PySem.W.codeIn K ja qual=true) (k:PySem.W.keepIn K (.ref f)=true):Fun K x qual st f (PySem.W.fnOf x qual (lY st) (fZ st) (aL st) .none kV doc pm an ja ct):=⟨⟨oc,od,kV,doc,pm,an,ja,ct,wq,rfl,l,c⟩,k⟩
theorem M8 {A:Around}{k:Nat} (hr:Room k A):A.units+1 < cLine:=agu (Nat.add_le_add_left (by decide:1<=64) _) hr.units
theorem aY {n:Nat} (h:n<=1000):n < sizeLine:=agu h (by decide)
section
variable {X:Cx}
theorem pv (i:Nat) {x:Str}{pos:Pos} (hN:X.N[i]? = some x:=by with_unfolding_all rfl) (hv:PU X.env.scope x:=by with_unfolding_all first | exact Or.inl rfl | exact Or.inr (Or.inl rfl) | exact Or.inr (Or.inr rfl)) (hd:(x == ("__debug__" : Str))=false:=by decide)
  (nj:(x == ("__classdict__" : Str))=false:=by decide):PE X (.Name x pos) (eD i):=GE hN hv hd nj
end
theorem fL {A B:Prop} (h:B):if false=true then A else B:=by
 rw[Ä Û];exact h
theorem iC {A B:Prop} (h:A):if true=true then A else B:=by
 rw[Å rfl];exact h
theorem gX {c A B:Prop} [Decidable c] (h1:c->A) (h2:¬ c->B):if c then A else B:=by
 by_cases h:c
 ·rw[Å h];exact h1 h
 ·rw[Ä h];exact h2 h
theorem M3 {c A B:Prop} [Decidable c] (hc:c) (h:B):if (!decide c)=true then A else B:=by
 rw[ò hc];exact fL h
def aE (H H':Hp):Prop:=∀ b o,H b=some o->H' b=some o
theorem aE.refl (H:Hp):aE H H:=λ _ _ h=>h
theorem aE.trans {H H1 H2:Hp} (a:aE H H1) (b:aE H1 H2):aE H H2:=λ c o h=>b c o (a c o h)
theorem aE.free {H H':Hp} (e:aE H H') {l:Á} (h:H' l=Option.none):H l=Option.none:=by
 cases q:H l with
 | none=>rfl
 | some o=>
  rw[e l o q] at h;cases h
theorem aE.seq {K:Ç}{H H':Hp}{a:Á}{xs:List V} (e:aE H H') (h:bD K H a xs):bD K H' a xs:=by
 rcases h with (h | ⟨o,h⟩) | h
 ·exact .inl (.inl (e _ _ h))
 ·exact .inl (.inr ⟨o,e _ _ h⟩)
 ·exact .inr h
end L2
set_option maxHeartbeats 4000000
namespace L2
open PySem PySem.Spec PyProof.Rows
theorem fJ {env:Env} (hk:env.scope.kind=.function):∀ {names:List (Str×NameKind)}{x:Str},names.lookup x=some .free->env.kindOf x=some .cell->
  (names.map λ (n,k)=>if (k == NameKind.free && env.scope.kind == .function && env.kindOf n == some .cell) then (n,NameKind.cell) else (n,k)).lookup x=some .cell
 | [],_,h,_=>by simp at h
 | (n,k)::r,x,h,hc=>by
  have ih:=@fJ env hk r x;show List.lookup x ((if (k == NameKind.free && env.scope.kind == .function && env.kindOf n == some .cell)=true then (n,NameKind.cell) else (n,k))::_)=_;cases hx:x == n with
  | true=>
   simp only [č,hx] at h;cases h;have e:x=n:=by simpa using hx
   subst e;rw[Å (by rw[hk,hc];decide)];simp [č]
  | false=>
   simp only [č,hx] at h
   by_cases hq:(k == NameKind.free && env.scope.kind == .function && env.kindOf n == some .cell)=true
   ·rw[Å hq];simp only [č,hx];exact ih h hc
   ·rw[Ä hq];simp only [č,hx];exact ih h hc
def EU (env:Env):List (Str×Á)->Prop
 | []=>True
 | p::r=>env.cells.lookup p.1=some p.2/\EU env r
theorem EU.get {env:Env}:∀ {cl:List (Str×Á)},EU env cl->∀ x c,cl.lookup x=some c->env.cells.lookup x=some c
 | [],_,_,_,e=>by simp at e
 | (n,a)::r,h,x,c,e=>by
  cases hx:x == n with
  | true=>
   simp only [č,hx] at e;cases e;have e':x=n:=by simpa using hx
   subst e';exact h.1
  | false=>
   simp only [č,hx] at e;exact EU.get h.2 x c e
def xL (X:Cx) (scope:Scope) (N':List Str):List (Option Nat)->Nat->Prop
 | [],_=>True
 | none::r,i=>xL X scope N' r (i+1)
 | some j::r,i=>(∃ x,N'[i]? = some x/\X.N[j]? = some x/\scope.names.lookup x=some .free/\X.env.kindOf x=some .cell)/\xL X scope N' r (i+1)
theorem xL.get {X:Cx}{scope:Scope}{N':List Str}:∀ {fr:List (Option Nat)}{k:Nat},xL X scope N' fr k->∀ i j,fr[i]? = some (some j)->
  ∃ x,N'[k+i]? = some x/\X.N[j]? = some x/\scope.names.lookup x=some .free/\X.env.kindOf x=some .cell
 | [],_,_,i,j,e=>by simp at e
 | none::r,k,h,0,j,e=>by simp at e
 | some _::r,k,h,0,j,e=>by simp at e;subst e;exact h.1
 | none::r,k,h,i+1,j,e=>by
  have:=xL.get (k:=k+1) (show xL X scope N' r (k+1) from h) i j (by simpa using e)
  rwa [Nat.add_right_comm] at this
 | some _::r,k,h,i+1,j,e=>by
  have:=xL.get (k:=k+1) h.2 i j (by simpa using e)
  rwa [Nat.add_right_comm] at this
structure LcOk (X:Cx) (scope:Scope) (cl:List (Str×Á)) (N':List Str) (fr:List (Option Nat)):Prop where
 clos:closureFor scope X.env=pure cl
 cls:EU X.env cl
 kind:scope.kind=.function
 nocell:(scope.names.all λ p=>p.2 != NameKind.cell)=true
 locs:(scope.names.all λ p=>p.2 != NameKind.local || scope.names.lookup p.1 == some NameKind.local)=true
 frees:(scope.names.all λ p=>p.2 != NameKind.free || (cl.lookup p.1).isSome)=true
 len:fr.length=N'.length
 fr:xL X scope N' fr 0
def tX (fr:List (Option Nat)) (σ:St):St:=fr.map λ o=>o.bind λ j=>(σ[j]?).join
def kG (X:Cx) (N':List Str) (scope:Scope) (cl:List (Str×Á)) (fp:List Á) (s:Â) (H:Hp):Cx:=
 { X with N:=N',s₀:=s,H₀:=H,env:=compEnvC scope cl s.heap.objs.size X.env,outer:=X.stack,ex:=fp,fn:=λ _=>false,pn:=[] }
def JC (X:Cx) (ifs:List Expr) (t:TT):Prop:=
 ∀ (gi:List (Á×Obj)) (s:Â) (σ:St) (H:Hp) (Q:Bool->Hp->Prop),Inv X gi σ H s->t σ H Q->
  wpAny (model X.prog X.w) X.A (forIn ifs true λ c r=>if r=true then do let ok <- isTrue c X.env (eval c X.env);pure (ForInStep.yield ok) else pure (ForInStep.yield r)) (TP X gi σ Q) X.xe s
def JM:TT:=λ _ H Q=>Q true H
theorem bS {X:Cx}:JC X [] JM:=λ _ _ _ H _ I h=>wpAny_tests_nil ⟨H,I,h⟩
theorem vX {X:Cx}{c:Expr}{t:TT} (h:PT X c t):JC X [c] t:=λ gi s σ H Q I hw=>wpAny_tests_one (h gi s σ H Q I hw)
def iX (J:It) (g:TG) (tc:TT) (te:TE) (fr:List (Option Nat)) (σ:St) (H1:Hp) (Q:Á->Hp->Prop):Prop:=
 ∀ D,H1 D=none->∃ W:Nat->Nat->List V->St->Hp->Prop,(∃ m,W 0 m [] (tX fr σ) (upd H1 D (.lst [])))/\
  ∀ i m ys ad H',W i m ys ad H'->(J.stop i H'/\Q D H')\/
   (J.go i H'/\∃ N:List V->St->Hp->Prop,(∀ wu cx uq,N wu cx uq->∃ m',m' < m/\W (i+1) m' wu cx uq)/\
    ∀ x H2,J.yld i H' x H2->g x ad H2 λ ak H3=>tc ak H3 λ b H4=>
    if b=true then te ak H4 λ y H5=>H5 D=some (.lst ys)/\ys.length < sizeLine/\N (ys++[y]) ak (upd H5 D (.lst (ys++[y])))
    else N ys ak H4)
theorem sN {J:It}{n:Nat}{g:TG}{tc:TT}{te:TE}{fr:List (Option Nat)}{σ:St}{H1:Hp}{Q:Á->Hp->Prop} (Pv:Á->Nat->List V->St->Hp->Prop)
  (h0:∀ D,H1 D=none->Pv D 0 [] (tX fr σ) (upd H1 D (.lst [])))
  (je:∀ D ys ad H',Pv D n ys ad H'->J.stop n H'/\Q D H')
  (oo:∀ D i ys ad H',i < n->Pv D i ys ad H'->J.go i H'/\∀ x H2,J.yld i H' x H2->g x ad H2 λ ak H3=>tc ak H3 λ b H4=>
    if b=true then te ak H4 λ y H5=>H5 D=some (.lst ys)/\ys.length < sizeLine/\Pv D (i+1) (ys++[y]) ak (upd H5 D (.lst (ys++[y])))
    else Pv D (i+1) ys ak H4):iX J g tc te fr σ H1 Q:=by
 intro D hD;refine⟨λ i m ys σ H=>m=n - i/\i<=n/\Pv D i ys σ H,⟨n,by simp,æ _,h0 D hD⟩,?_⟩;rintro i m ys ad H' ⟨rfl,hi,p⟩
 by_cases jk:i < n
 ·obtain⟨go,step⟩:=oo D i ys ad H' jk p;exact .inr ⟨go,Pv D (i+1),λ wu cx uq p'=>⟨n - (i+1),by lia,rfl,jk,p'⟩,step⟩
 ·have e:i=n:=by lia
  subst e;exact .inl (je D ys ad H' p)
theorem BV {J:It}{n:Nat}{g:TG}{tb:TS}{D:Ends}{σ:St}{H:Hp} (Pv:Nat->St->Hp->Prop) (h0:Pv 0 σ H) (je:∀ σ H,Pv n σ H->J.stop n H/\D.nx σ H)
  (oo:∀ i σ H,i < n->Pv i σ H->J.go i H/\∀ x H',J.yld i H x H'->g x σ H' λ au H2=>tb { D with nx:=Pv (i+1),ct:=Pv (i+1),bk:=D.nx } au H2) :
  ∃ W:Nat->Nat->St->Hp->Prop,(∃ m,W 0 m σ H)/\∀ i m σ H,W i m σ H->
   (J.stop i H/\D.nx σ H)\/(J.go i H/\∃ N:St->Hp->Prop,(∀ ad H',N ad H'->∃ m',m' < m/\W (i+1) m' ad H')/\∀ x H',J.yld i H x H'->g x σ H' λ au H2=>tb { D with nx:=N,ct:=N,bk:=D.nx } au H2):=by
 refine⟨λ i m σ H=>m=n - i/\i<=n/\Pv i σ H,⟨n,by simp,æ _,h0⟩,?_⟩;rintro i m σ H ⟨rfl,hi,p⟩
 by_cases jk:i < n
 ·obtain⟨go,step⟩:=oo i σ H jk p;exact .inr ⟨go,Pv (i+1),λ ad H' p'=>⟨n - (i+1),by lia,rfl,jk,p'⟩,step⟩
 ·have e:i=n:=by lia
  subst e;exact .inl (je σ H p)
def tLC (wi:TI) (fr:List (Option Nat)) (g:TG) (tc:TT) (te:TE):TE:=λ σ H Q=>wi σ H λ J H1=>iX J g tc te fr σ H1 λ D H'=>Q (.ref D) H'
section
variable {prog:Ã}{A:Around}{R:Result->Â->Prop}{s:Â}
theorem oQ {elt target iter:Expr}{ifs:List Expr}{scope:Scope}{pos:Pos}{it jh:À}{env:Env} (I:Nat->Â->Prop)
  (turn:∀ n s,I n s->wpAny (model prog w) A (pyNext it) (λ r ai=>match r with
   | none=>R (.ok .next) ai
   | some v=>wpAny (model prog w) A (letOwnedTupleGo target it v) (λ _ cz=>wpAny (model prog w) A (assign target env v) (λ _ cp=>
     wpAny (model prog w) A (forIn ifs true λ c r=>if r=true then do let ok <- isTrue c env (eval c env);pure (ForInStep.yield ok) else pure (ForInStep.yield r)) (λ ok bo=>
      if ok=true then wpAny (model prog w) A (eval elt env) (λ x cj=>
       wpAny (model prog w) A (call (.builtin "list.append") [jh,x]) (λ _ dk=>∃ m,m < n/\I m dk) (notedBy (model prog w) A env λ e s'=>R (.error e) s') cj) (notedBy (model prog w) A env λ e s'=>R (.error e) s') bo
      else ∃ m,m < n/\I m bo) (notedBy (model prog w) A env λ e s'=>R (.error e) s') cp) (notedBy (model prog w) A env λ e s'=>R (.error e) s') cz) (notedBy (model prog w) A env λ e s'=>R (.error e) s') ai)
    (notedBy (model prog w) A env λ e s'=>R (.error e) s') s)
  (n:Nat) (h:I n s) :
  codeAny (model prog w) A (.compLoop (.ListComp elt [⟨target,iter,ifs,0⟩] scope pos) 0 it jh env) R s:=by
 refine codeAny_loop rfl I (λ n s hI=>?_) n h;show wpAny _ A ((compTurn (.ListComp elt [⟨target,iter,ifs,0⟩] scope pos) 0 it jh env).onRaise (λ x=>do noteFrame x env;theTreesLotGoes x)) _ _ s;refine wpAny_noted ?_;rw[compTurn_list];refine Æ (ŀ (Æ (á (turn n s hI) (λ r ai h₁=>?_) λ _ _ h'=>h')));cases r with
 | none=>exact É h₁
 | some v=>
  refine Æ (á h₁ (λ _ cz dw=>?_) λ _ _ h'=>h');refine Æ (á dw (λ _ cp ap=>Æ (á ap (λ ok bo am=>?_) λ _ _ h'=>h')) λ _ _ h'=>h');cases ok with
  | false=>exact É ⟨rfl,am⟩
  | true=>
   exact Æ (Æ (á am (λ x cj aq=>Æ (á aq (λ _ dk bb=>É (É ⟨rfl,bb⟩)) λ _ _ h'=>h')) λ _ _ h'=>h'))
end
section
variable {X:Cx}
set_option tactic.hygienic true in
theorem LcOk.invC {scope:Scope}{cl:List (Str×Á)}{N':List Str}{fr:List (Option Nat)}{gi:List (Á×Obj)}{σ:St}{H:Hp}{s:Â}{h1:Heap}{fp:List Á}{m1:Str->Option À}{tk:Nat}
  (S:LcOk X scope cl N' fr) (I:Inv X gi σ H s) (hf:∀ b∈fp,gQ X gi H b) (rh:∀ b∈fp,b < s.heap.objs.size)
  (k:∀ b o,s.heap.get? b=some o->h1.get? b=some o) (hn:h1.Ns s.heap.objs.size m1):Inv (kG X N' scope cl fp s H) [] (tX fr σ) H { s with heap:=h1,toks:=tk }:=by
 have jz:=S.frees;have jo:=S.nocell;rw[Č] at jz jo;have fresh:H s.heap.objs.size=none:=I.hok.fresh (Î _);have yq:=S.cls.get;refine⟨⟨I.ok.mod,S.kind,I.ok.glob,I.ok.blt,Î _,λ x y c e1 e2=>I.ok.inj x y c (yq x c e1) (yq y c e2),λ x hx=>?_,(λ x c e=>nomatch e),I.ok.hd,I.ok.frames,.inl rfl,λ b hb=>⟨Þ (rh b hb),λ x c e=>(hf b hb).2.2.2.2.1 x c (yq x c e)⟩,
  I.bs,Ĉ I.ok.bsz I.sz,λ b o e hb=>?_,λ b hb hz=>?_,I.stack,I.stkFree⟩,rfl,I.bare,Un.kept k,⟨m1,hn,λ i x v e1 e2 e3=>?_⟩,λ x c e=>?_,fresh,λ x c e=>I.freeC x c (yq x c e),λ p hp=>absurd (show p∈([]:List (Á×Obj)) from hp) (by simp),I.hok.kept k,?_⟩
 ·
  have hm:∃ k',(x,k')∈scope.names/\k'=NameKind.free:=by
   have kz:(relabel scope X.env).names.lookup x=some .cell\/(relabel scope X.env).names.lookup x=some .free:=hx;obtain⟨k',e,ql⟩:∃ k',(relabel scope X.env).names.lookup x=some k'/\(k'=.cell\/k'=.free):=by
    rcases kz with e | e
    ·exact⟨_,e,.inl rfl⟩
    ·exact⟨_,e,.inr rfl⟩
   have Dm:=ÿ e;obtain⟨⟨n,kn⟩,hp,he⟩:=Õ.mp Dm;dsimp only at he
   split at he
   ·rename_i hc
    cases he;have:kn=.free:=by
     simp only [ņ,Ŏ] at hc;exact hc.1.1
    exact⟨kn,hp,this⟩
   ·cases he;rcases ql with e' | e'
    ·subst e';have:=jo _ hp;simp at this
    ·exact⟨_,hp,e'⟩
  obtain⟨k',hp,rfl⟩:=hm;have:=jz _ hp;simp only [ń,ř] at this;exact Option.isSome_iff_exists.mp this
 ·rcases (hf b hb).2.2.2.1 with z | z
  ·exact I.ok.noex b o e z
  ·have:=Ñ e;exact absurd (í this (Ĉ I.ok.bsz z)) (ā _)
 ·obtain⟨_,f1,f2,_⟩:=hf b hb;rcases Ý.mp (I.stkSub b hz) with e | e
  ·exact f1 e
  ·exact f2 e
 ·
  unfold tX at e2;rw[Ð] at e2;cases ef:fr[i]? with
  | none=>rw[ef] at e2;cases e2
  | some o=>
   rw[ef] at e2;cases o with
   | none=>simp at e2
   | some j=>
    have vy:(σ[j]?).join=some v:=by simpa using e2
    obtain⟨x',Aj,Ak,yt,Dn⟩:=S.fr.get i j ef;rw[Į] at Aj;have ex:x'=x:=by
     have:N'[i]? = some x:=e1;rw[Aj] at this;exact â this
    subst ex;have Do:σ[j]? = some (some v):=by
     cases q:σ[j]? with
     | none=>rw[q] at vy;cases vy
     | some z=>rw[q] at vy;simp at vy;rw[vy]
    obtain⟨m,hm,hl⟩:=I.loc;obtain⟨u,r,lk⟩:=hl j x' v Ak Do (.inr (.inl Dn));refine⟨u,r,?_⟩;rcases lk with ⟨q,_⟩ | ⟨_,c,hc,z⟩
    ·rw[Dn] at q;cases q
    ·have mj:∃ c',cl.lookup x'=some c':=by
      have:=jz _ (ÿ yt);simp only [ń,ř] at this;exact Option.isSome_iff_exists.mp this
     obtain⟨c',lz⟩:=mj;have e':=yq x' c' lz;rw[hc] at e';cases e';obtain⟨oc,rg,hd⟩:=z;refine .inr ⟨.inl ?_,c,lz,oc,k c oc rg,hd⟩;exact fJ I.ok.kind yt Dn
 ·obtain⟨v,oc,rg,hd⟩:=I.cell x c (yq x c e);exact⟨v,oc,k c oc rg,hd⟩
 ·show (tX fr σ).length=N'.length;unfold tX;rw[Ê,S.len]
theorem Inv.outC {scope:Scope}{cl:List (Str×Á)}{N':List Str}{gi qh:List (Á×Obj)}{σ ad:St}{H H':Hp}{s s':Â}{fp:List Á} (I:Inv X gi σ H s) (J:Inv (kG X N' scope cl fp s H) qh ad H' s')
  (hf:∀ b∈fp,gQ X gi H b):Inv X gi σ H' s':=
 I.call' (ch:=fp) J.os J.base J.hok J.bare λ b hb=>by
  obtain⟨_,f1,_,f3,f4,f5⟩:=hf b hb;exact⟨f3,f1,f4,f5⟩
theorem Inv.letgo {gi:List (Á×Obj)}{σ:St}{H:Hp}{s:Â}{C:Á}{h':Heap} (I:Inv X gi σ H s) (f:gQ X gi H C) (qm:Heap.SameBut C s.heap h'):Inv X gi σ H { s with heap:=h' }:=by
 obtain⟨f0,f1,f2,f3,f4,f5⟩:=f;exact I.turned (t':=s.toks) (it:=C) (h':=h') (λ b o hb e=>(qm.2 b hb).trans e) f0 f1 f3 f4 f5
theorem yM {elt tg iter:Expr}{ifs:List Expr}{scope:Scope}{pos:Pos}{N':List Str}{fr:List (Option Nat)}{cl:List (Str×Á)}{g:TG}{tc:TT}{te:TE}
  {gi:List (Á×Obj)}{σ:St}{H:Hp}{s:Â}{J:It}{fp:List Á}{it:Á}{tn:Nat->Heap->Prop}{Q:Á->Hp->Prop}{RR:À->Á->Result->Â->Prop}{E:À->Â->Prop}
  (hx:∀ e s,¬ X.xe e s) (hc:X.calm=true) (S:LcOk X scope cl N' fr)
  (hg:∀ fp s H,PG (kG X N' scope cl fp s H) tg g) (ht:∀ fp s H,JC (kG X N' scope cl fp s H) ifs tc) (he:∀ fp s H,PE (kG X N' scope cl fp s H) elt te)
  (I:Inv X gi σ H s) (T:Turn X.prog X.w X.K tg J fp it tn) (st:tn 0 s.heap) (hf:∀ b∈fp,gQ X gi H b) (h:iX J g tc te fr σ H Q)
  (Gw:∀ D C H' s' m',Inv X gi σ H' s'->Q D H'->s'.heap.Ns C m'->gQ X gi H' C->RR (.ref D) C (.ok .next) s') :
  wpAny (model X.prog X.w) X.A (newList []) (λ jh bo=>wpAny (model X.prog X.w) X.A (newFunctionEnv scope X.env.globals cl [] X.env.qual none .none (some X.env)) (λ sx cj=>
   codeAny (model X.prog X.w) X.A (.compStart (.ListComp elt [⟨tg,iter,ifs,0⟩] scope pos) 0 (.ref it) jh { sx with scope:=relabel scope X.env }) (RR jh sx.locals) cj) E bo) E s:=by
 have jo:=S.nocell;rw[Č] at jo;refine Đ (agd (λ x kz=>by simpa using jo x kz) (by intro y hy;simp at hy) (λ h₁ bp cm=>?_) S.kind);dsimp only at bp cm ⊢;have fresh:H s.heap.objs.size=none:=I.hok.fresh (Î _);have I3:Inv X gi σ (upd H s.heap.objs.size (.lst [])) { s with heap:=s.heap.push { cls:=.type "list",data:=.seq ([]:List À).toArray },toks:=s.toks }:=I.lnew (ys:=[]) (its:=[]) .nil (æ _);have yu:∀ b∈fp,gQ X gi (upd H s.heap.objs.size (.lst [])) b:=λ b hb=>by
  obtain⟨o,ho,_⟩:=T.obj _ _ st b hb;exact⟨by rw[aJ (Þ (Ñ ho))];exact (hf b hb).1,(hf b hb).2⟩
 generalize xu:({ s with heap:=s.heap.push { cls:=.type "list",data:=.seq ([]:List À).toArray },toks:=s.toks }:Â)=s3 at I3;have e3:s3.heap=s.heap.push { cls:=.type "list",dict:=none,data:=.seq ([]:List À).toArray }:=by rw[<- xu]
 have Cg:({ s with heap:=s.heap.push { cls:=.type "list",dict:=none,data:=.seq ([]:List À).toArray } }:Â)=s3:=xu;have yw:s3.heap.objs.size=s.heap.objs.size+1:=by rw[e3,ø]
 have rh:∀ b∈fp,b < s3.heap.objs.size:=λ b hb=>by
  obtain⟨o,ho,_⟩:=T.obj _ _ st b hb;rw[yw];exact Ļ (Ñ ho)
 rw[<- e3] at bp cm ⊢;have ou:∀ b o,s3.heap.get? b=some o->h₁.get? b=some o:=λ b o e=>cm.extBut b o (Þ (Ñ e)) (Í _ e);have jn:∀ b o,s.heap.get? b=some o->s3.heap.get? b=some o:=λ b o e=>by rw[e3];exact Í _ e
 have I4:=S.invC (tk:=s3.toks) I3 yu rh ou bp;obtain⟨W,⟨m0,w0⟩,turn⟩:=h s.heap.objs.size fresh;have ko:∀ {H':Hp},(∀ b∈fp,H' b=none)->∀ b∈fp,gQ (kG X N' scope cl fp s3 (upd H s.heap.objs.size (.lst []))) [] H' b:=λ hn b hb=>by
  refine⟨hn b hb,Þ (rh b hb),?_,.inl hb,λ x c e=>(hf b hb).2.2.2.2.1 x c (S.cls.get x c e),λ p hp=>absurd (show p∈([]:List (Á×Obj)) from hp) (by simp)⟩;intro hz;obtain⟨_,f1,f2,_⟩:=hf b hb;rcases Ý.mp (I.stkSub b hz) with e | e
  ·exact f1 e
  ·exact f2 e
 have loop:∀ s4:Â,s4={ s3 with heap:=h₁,toks:=s3.toks }->
   codeAny (model X.prog X.w) X.A (.compLoop (.ListComp elt [⟨tg,iter,ifs,0⟩] scope pos) 0 (.ref it) (.ref s.heap.objs.size) (compEnvC scope cl s3.heap.objs.size X.env)) (RR (.ref s.heap.objs.size) s3.heap.objs.size) s4:=by
  intro s4 sy;refine oQ (λ n s'=>∃ i ys ad H',Inv (kG X N' scope cl fp s3 (upd H s.heap.objs.size (.lst []))) [] ad H' s'/\tn i s'.heap/\(∀ b∈fp,H' b=none)/\W i n ys ad H') ?_ m0
   ⟨0,[],tX fr σ,_,by rw[sy];exact I4,by rw[sy];exact T.keep _ _ _ st λ b _ o e=>ou b o (jn b o e),λ b hb=>(yu b hb).1,w0⟩
  rintro n s5 ⟨i,ys,cn,H5,I5,wn,Ah,w5⟩;rcases turn i n ys cn H5 w5 with ⟨stop,qn⟩ | ⟨go,N,hN,step⟩
  ·refine cY (T.done (kG X N' scope cl fp s3 (upd H s.heap.objs.size (.lst []))) rfl rfl rfl hc i [] s5 cn H5 _ I5 (ko Ah) wn stop) λ r s6 ⟨hr,I6⟩=>?_;subst hr;obtain⟨m',Al,_⟩:=I6.loc;exact Gw _ _ H5 s6 m' (I3.outC I6 yu) qn Al (I3.fpOk (Î _) I6.free)
  ·refine cY (T.item (kG X N' scope cl fp s3 (upd H s.heap.objs.size (.lst []))) rfl rfl rfl hc i [] s5 cn H5 _ I5 (ko Ah) wn go) λ r s6 ⟨u,hr,h6⟩=>?_;subst hr;refine cY h6 λ _ s7 ⟨x,H7,I7,r7,y7,yx,Gx⟩=>?_;have Gy:=I7.pinned (ko Gx) (T.obj _ _ yx);refine á (hg fp s3 _ _ s7 cn H7 x u _ Gy r7 (step x H7 y7)) (λ _ s8 ⟨bg,H8,I8,q8⟩=>?_) λ e s' z=>(hx e s' z).elim;refine á (ht fp s3 _ _ s8 bg H8 _ I8 q8) (λ ok s9 ⟨H9,I9,q9⟩=>?_) λ e s' z=>(hx e s' z).elim;have again:∀ {kh:Â}{kf:Hp}{wu:List V},Inv (kG X N' scope cl fp s3 (upd H s.heap.objs.size (.lst []))) ([]++mZ fp s7.heap) bg kf kh->N wu bg kf->
     ∃ m,m < n/\∃ i ys ad H',Inv (kG X N' scope cl fp s3 (upd H s.heap.objs.size (.lst []))) [] ad H' kh/\tn i kh.heap/\(∀ b∈fp,H' b=none)/\W i m ys ad H':=λ {kh kf wu} tj Gz=>by
    obtain⟨m',hm,ww⟩:=hN wu bg kf Gz;refine⟨m',hm,i+1,wu,bg,kf,tj.unpinned,T.keep _ _ _ yx λ b hb o e=>(tj.pin (b,o) (ü _ (ü _ (eY hb e)))).1,λ b hb=>?_,ww⟩;obtain⟨o,e,d⟩:=T.obj _ _ yx b hb;exact (tj.pin (b,o) (ü _ (ü _ (eY hb e)))).2.1
   cases ok with
   | false=>
    rw[Ä Û] at q9 ⊢;exact again I9 q9
   | true=>
    rw[Å rfl] at q9 ⊢;refine á (he fp s3 _ _ s9 bg H9 _ I9 q9) (λ y kh ⟨yv,kf,tj,Ha,hD,gy,Dp⟩=>?_) λ e s' z=>(hx e s' z).elim;refine á (cE (X:=kG X N' scope cl fp s3 (upd H s.heap.objs.size (.lst []))) _ kh bg kf (.ref s.heap.objs.size) [yv] (.ref s.heap.objs.size) [y] (λ _ ow=>ow=upd kf s.heap.objs.size (.lst (ys++[yv]))) tj rfl (.cons Ha .nil)
     ⟨_,ys,yv,rfl,rfl,hD,gy,rfl⟩) (λ _ Ba ⟨_,ow,Hb,_,Op⟩=>?_) λ e s' z=>(hx e s' z).elim
    subst Op;exact again Hb Dp
 exact codeAny_compStart_list (loop _ (by rw[<- Cg];rfl)) (T.self X.A 0 _ _ _ (T.keep _ _ _ st λ b _ o e=>ou b o (jn b o e)) (loop _ (by rw[<- Cg];rfl)))
theorem eW {elt tg iter:Expr}{ifs:List Expr}{scope:Scope}{pos:Pos}{N':List Str}{fr:List (Option Nat)}{cl:List (Str×Á)}{wi:TI}{g:TG}{tc:TT}{te:TE}
  (hx:∀ e s,¬ X.xe e s) (hc:X.calm=true) (S:LcOk X scope cl N' fr) (hi:PI X tg iter wi)
  (hg:∀ fp s H,PG (kG X N' scope cl fp s H) tg g) (ht:∀ fp s H,JC (kG X N' scope cl fp s H) ifs tc) (he:∀ fp s H,PE (kG X N' scope cl fp s H) elt te)
  (hs:∀ x,foldedSetIterable iter X.env x=pure x:=by intro _;with_unfolding_all rfl):PE X (.ListComp elt [⟨tg,iter,ifs,0⟩] scope pos) (tLC wi fr g tc te):=by
 intro gi s σ H Q I h;have nr:=S.locs;rw[Č] at nr;rw[eval_ListComp];refine ž (use:=none) rfl hs S.clos S.kind (λ x kz hl=>by have:=nr x kz;rw[hl] at this;simpa using this) (cY (hi gi s σ H _ I h) λ v s1 h1=>cY h1 λ Fo s2 h2=>?_);obtain⟨it,fp,tn,J,H2,e,I2,T,ki,f2,jc⟩:=h2;subst e;refine yM (RR:=λ jh C=>compPost (model X.prog X.w) X.A X.xe none (EP X gi σ Q) jh C) hx hc S hg ht he I2 T ki f2 jc ?_;intro D C H' s' m' I' q hn f;exact⟨m',hn,λ h' qm=>⟨.ref D,H',I'.letgo f qm,rfl,q⟩⟩
set_option tactic.hygienic true in
theorem h9 {i:Nat}{y:Str}{py:Pos}{yy:Pos}{elt tg iter:Expr}{ifs:List Expr}{scope:Scope}{pos:Pos}{N':List Str}{fr:List (Option Nat)}{cl:List (Str×Á)}{wi:TI}{g:TG}{tc:TT}{te:TE}
  (hN:X.N.Nodup) (hy:X.N[i]? = some y) (hk:X.env.scope.names.lookup y=some .local)
  (hx:∀ e s,¬ X.xe e s) (hc:X.calm=true) (S:LcOk X scope cl N' fr) (hi:PI X tg iter wi)
  (hg:∀ fp s H,PG (kG X N' scope cl fp s H) tg g) (ht:∀ fp s H,JC (kG X N' scope cl fp s H) ifs tc) (he:∀ fp s H,PE (kG X N' scope cl fp s H) elt te)
  (Oq:swapsWith (.ListComp elt [⟨tg,iter,ifs,0⟩] scope pos) (some (.Name y py)) yy.line X.env=pure true:=by with_unfolding_all rfl)
  (hs:∀ x,foldedSetIterable iter X.env x=pure x:=by intro _;with_unfolding_all rfl):PS X (.Assign [.Name y py] (.ListComp elt [⟨tg,iter,ifs,0⟩] scope pos) yy) (kK (tLC wi fr g tc te) (eB i)):=by
 intro gi s σ H D I h;have nr:=S.locs;rw[Č] at nr;rw[exec_Assign_Name_used _ _ _ _ Oq];refine Æ (ŀ (Æ ?_));show wpAny _ X.A (do let _ <- comprehension (.ListComp elt [⟨tg,iter,ifs,0⟩] scope pos) scope X.env _ (newList []) false (eval iter X.env) (some (assign (.Name y py) X.env))) _ _ s;refine Æ (á (ž (use:=some (assign (.Name y py) X.env)) (Q:=λ _ s'=>SP X gi D .next s') rfl hs S.clos S.kind (λ x kz hl=>by have:=nr x kz;rw[hl] at this;simpa using this)
  (cY (hi gi s σ H _ I h) λ v s1 h1=>cY h1 λ Fo s2 h2=>?_)) (λ _ s' hq=>É (É hq)) λ _ _ e=>e)
 obtain⟨it,fp,tn,J,H2,e,I2,T,ki,f2,jc⟩:=h2;subst e;refine yM (RR:=λ jh C=>compPost (model X.prog X.w) X.A X.xe (some (assign (.Name y py) X.env)) (λ _ s'=>SP X gi D .next s') jh C) hx hc S hg ht he I2 T ki f2 jc ?_;intro Da C H' s' m' I' q hn f;show wpAny _ X.A (assign (.Name y py) X.env (.ref Da)) _ _ _;refine agz (oX I' hN hy (.inl hk) (v:=.ref Da) rfl (λ wo Os vt=>?_) (.inr hk));obtain⟨a,qm,ha⟩:=vt;have Ot:a≠C:=by
  rcases ha with e | e
  ·rw[e];exact Ne.symm f.2.1
  ·exact f.2.2.2.2.1 _ _ e
 exact⟨m',hn.sameBut qm (Ne.symm Ot),λ h' sr=>⟨_,H',Os.letgo f sr,q⟩⟩
end
end L2
namespace TwZ
open PySem
open Sem (wp)
def dP (h:Heap) (t:Bool) (it a:Á) (i:Nat):Prop:=if t=true then h.IsTupleIter it a i else h.IsListIter it a i
def bX (h:Heap) (t:Bool) (a:Á) (items:Array À):Prop:=if t=true then h.IsTuple a items else h.IsList a items
theorem dP.at {h h':Heap}{t:Bool}{it a:Á}{i:Nat} (x:dP h t it a i) (k:∀ o,h.get? it=some o->h'.get? it=some o):dP h' t it a i:=by
 cases t <;> (obtain⟨o,ho,r⟩:=x;exact⟨o,k o ho,r⟩)
theorem ex {h h':Heap}{b c:Á}{o:Obj} (hs:Heap.SameBut b h h') (hc:@Ne Nat c b) (e:h.get? c=some o):h'.get? c=some o:=hs.extBut _ _ hc e
theorem dP.ext {h h':Heap}{t:Bool}{it a b:Á}{i:Nat} (x:dP h t it a i) (hs:Heap.SameBut b h h') (Bb:@Ne Nat it b):dP h' t it a i:=x.at λ o e=>hs.extBut _ _ Bb e
theorem bX.at {h h':Heap}{t:Bool}{a:Á}{xs:Array À} (x:bX h t a xs) (k:∀ o,h.get? a=some o->h'.get? a=some o):bX h' t a xs:=by
 cases t <;> (obtain⟨o,ho,r⟩:=x;exact⟨o,k o ho,r⟩)
theorem bX.ext {h h':Heap}{t:Bool}{a b:Á}{xs:Array À} (x:bX h t a xs) (hs:Heap.SameBut b h h') (Bb:@Ne Nat a b):bX h' t a xs:=x.at λ o e=>hs.extBut _ _ Bb e
theorem bX.lt {h:Heap}{t:Bool}{a:Á}{xs:Array À} (x:bX h t a xs):a < h.objs.size:=by
 cases t <;> (obtain⟨o,ho,r⟩:=x;exact Ñ ho)
theorem dP.obj {h:Heap}{t:Bool}{it a:Á}{i:Nat} (x:dP h t it a i):∃ o,h.get? it=some o/\∀ v,o.data≠.cell v:=by
 cases t <;> (obtain⟨o,ho,_,d⟩:=x;exact⟨o,ho,λ v z=>by rw[d] at z;cases z⟩)
section
variable {prog:Ã}{M:Model}{A:Around}{E:À->Â->Prop}{s:Â}
theorem pT {a:Á}{Q:Option Obj->Â->Prop} (h:Q (s.heap.get? a) s):wpAny M A (loadIfAlive a) Q E s:=λ Γ p _=>by
 unfold loadIfAlive;rw[Sem.wp_loadIfAlive];exact h
theorem oD {it l:Á}{i:Nat}{items}{x:À}{Q:À->Â->Prop} (hit:s.heap.IsTupleIter it l i)
  (hl:s.heap.IsTuple l items) (hx:items[i]? = some x)
  (hQ:∀ h',h'.IsTupleIter it l (i+1)->Heap.SameBut it s.heap h'->Q x { s with heap:=h' }) :
  wpAny (model prog w) A (Builtin.SmallTypes.nextOf (.ref it)) Q E s:=by
 obtain⟨o,ho,hc,hd⟩:=id hit;obtain⟨ol,Ch,_,nl,Ci⟩:=hl;unfold Builtin.SmallTypes.nextOf;refine Æ (Ĭ (name:=Str.ofString "__next__") hit.typeIs ż
  (ă ż hit.typeIs F.entry_tuple_iterator_next ?_ (agg _)))
 show wpAny _ _ (field (.ref it) 0 >>= _) _ _ s;refine Æ (î ho hd (x:=.ref l) rfl ?_);show wpAny _ _ (if (Value.ref l == Value.none)=true then _ else _) _ _ s;rw[Ä (show ¬ ((Value.ref l == Value.none)=true) from Û)];show wpAny _ _ (field (.ref it) 1 >>= _) _ _ s;refine Æ (î ho hd (x:=.int i 0) rfl ?_);show wpAny _ _ (seqItems? (.ref l) >>= _) _ _ s;refine Æ (Ą Ch Ci ?_);simp only [Š,hx];refine Æ (agx ho hd (by simp) (É ⟨x,rfl,É (hQ _ ?_ (ĺ ..))⟩));exact⟨_,ł _ ho (Obj.isFreed_of_fields (afp hd _)),(Obj.cls_mapFields ..).trans hc,by
  rw[afp hd];simp [rawInt]⟩
theorem pI {it l:Á}{i:Nat}{items}{Q:À->Â->Prop} (hh:A.handled=none)
  (hit:s.heap.IsTupleIter it l i) (hl:s.heap.IsTuple l items) (hx:items[i]? = none)
  (hE:∀ h' e,Heap.ExtBut it s.heap h'->(∃ o,h'.get? e=some o/\o.cls=.type "StopIteration")->E (.ref e) { s with heap:=h' }) :
  wpAny (model prog w) A (Builtin.SmallTypes.nextOf (.ref it)) Q E s:=by
 obtain⟨o,ho,hc,hd⟩:=id hit;obtain⟨ol,Ch,_,nl,Ci⟩:=hl;unfold Builtin.SmallTypes.nextOf;refine Æ (Ĭ (name:=Str.ofString "__next__") hit.typeIs ż
  (ă ż hit.typeIs F.entry_tuple_iterator_next ?_ (agg _)))
 show wpAny _ _ (field (.ref it) 0 >>= _) _ _ s;refine Æ (î ho hd (x:=.ref l) rfl ?_);show wpAny _ _ (if (Value.ref l == Value.none)=true then _ else _) _ _ s;rw[Ä (show ¬ ((Value.ref l == Value.none)=true) from Û)];show wpAny _ _ (field (.ref it) 1 >>= _) _ _ s;refine Æ (î ho hd (x:=.int i 0) rfl ?_);show wpAny _ _ (seqItems? (.ref l) >>= _) _ _ s;refine Æ (Ą Ch Ci ?_);simp only [Š,hx];refine Æ (õ (Æ (agx ho hd (by simp) ?_)));show wpAny _ _ (newExc (.type "StopIteration") [] >>= _) _ _ _;refine Æ ?_;simp only [newExc,newTuple];refine Æ (Đ ?_ (by size_fits));refine Æ (m:=firstArgMember _ _) (wpAny_of_eq (a:=Value.none) (by first | rfl | (simp only [firstArgMember];rfl)) ?_);refine Đ ?_ (by size_fits);simp only [raiseNew];refine Æ (wpAny_handled ?_)
 first | rw[show A.in1.handled=none from hh] | rw[hh]
 refine Æ (É (wpAny_throw ?_));exact hE _ _ (((ĺ ..).extBut.push _).push _) ⟨_,ß _ rfl,rfl⟩
theorem bL {t:Bool}{it l:Á}{i:Nat}{items}{x:À}{Q:À->Â->Prop} (hit:dP s.heap t it l i)
  (hl:bX s.heap t l items) (hx:items[i]? = some x)
  (hQ:∀ h',dP h' t it l (i+1)->Heap.SameBut it s.heap h'->Q x { s with heap:=h' }) :
  wpAny (model prog w) A (Builtin.SmallTypes.nextOf (.ref it)) Q E s:=by
 cases t with
 | true=>exact oD hit hl hx hQ
 | false=>exact wpAny_nextOf_list_item hit hl hx hQ
theorem dB {t:Bool}{it l:Á}{i:Nat}{items}{Q:À->Â->Prop} (hh:A.handled=none)
  (hit:dP s.heap t it l i) (hl:bX s.heap t l items) (hx:items[i]? = none)
  (hE:∀ h' e,Heap.ExtBut it s.heap h'->(∃ o,h'.get? e=some o/\o.cls=.type "StopIteration")->E (.ref e) { s with heap:=h' }) :
  wpAny (model prog w) A (Builtin.SmallTypes.nextOf (.ref it)) Q E s:=by
 cases t with
 | true=>exact pI hh hit hl hx hE
 | false=>exact wpAny_nextOf_list_end hh hit hl hx hE
abbrev nM (h:Heap) (z TI TO:Á) (f0:À) (f1:Bool):Prop:=
 h.get? z=some { cls:=.type "zip",dict:=none,data:=.fields #[f0,.bool f1,.bool false,.ref TI,.ref TO],slots:=#[] }
abbrev dJ (h:Heap) (T:Á) (vs:Array À):Prop:=h.get? T=some { cls:=.type "tuple",data:=.seq vs }
def gK (f0:À):Prop:=f0=.none\/∃ a:Int,f0=.int a 0
theorem jQ {z TI TO:Á}{f0:À}{f1:Bool}{Q:Bool->Â->Prop} (hz:nM s.heap z TI TO f0 f1) (hf:gK f0) (yes:Q true s)
  (no:∀ h',nM h' z TI TO f0 true->Heap.SameBut z s.heap h'->Q false { s with heap:=h' }):wpAny (model prog w) A (Builtin.SmallTypes.ownedTupleIsFree (.ref z)) Q E s:=by
 unfold Builtin.SmallTypes.ownedTupleIsFree;refine Æ (î hz rfl (x:=f0) rfl ?_);rcases hf with rfl | ⟨a,rfl⟩
 ·exact É yes
 ·refine Æ (pT ?_);cases h:s.heap.get? a.toNat with
  | none=>exact É yes
  | some o=>
   show wpAny _ _ (field (.ref z) 1 >>= _) _ _ _;refine Æ (î hz rfl (x:=.bool f1) rfl ?_);cases f1 with
   | true=>exact É (no s.heap hz (af4 ..))
   | false=>
    show wpAny _ _ (setField (.ref z) 1 (.bool true) >>= _) _ _ _;refine Æ (Ă hz (by simp) λ h₁ ao ae=>É (no h₁ ao ae))
theorem BS {z TI TO:Á}{f0:À}{f1:Bool}{T:Á}{Q:Unit->Â->Prop} (hz:nM s.heap z TI TO f0 f1)
  (h:∀ h',nM h' z TI TO (rawInt T) false->Heap.SameBut z s.heap h'->Q () { s with heap:=h' }):wpAny (model prog w) A (Builtin.SmallTypes.ownedTupleHandOut (.ref z) (.ref T)) Q E s:=by
 unfold Builtin.SmallTypes.ownedTupleHandOut;refine Æ (Ă hz (by simp) λ h₁ ao ae=>?_);replace ao:nM h₁ z TI TO (rawInt T) f1:=ao;refine Ă ao (by simp) λ ap cr af=>?_;exact h ap cr (Heap.SameBut.trans ae af)
theorem iQ {T:Á}{vs:Array À}{x:À}{k:Nat}{Q:Unit->Â->Prop} (hT:dJ s.heap T vs) (h3:vs.size<=3)
  (h:∀ h',dJ h' T (vs.setIfInBounds k x)->Heap.SameBut T s.heap h'->Q () { s with heap:=h' }):wpAny (model prog w) A (updateSeq T (·.setIfInBounds k x)) Q E s:=by
 have hl:vs.size<=sizeLine:=Ĉ h3 (by decide);refine wpAny_updateSeq (hz:=hl) (_hz':=by rw[ţ];lia) hT rfl (h _ ?_ (ĺ ..));show Heap.get? _ _=_;rw[ł _ hT rfl];simp [Obj.mapSeq]
theorem nn {n i j:Nat} (h:i≠j):n+i≠n+j:=λ e=>h (Nat.add_left_cancel e)
theorem n0 {n j:Nat} (h:0 < j):n≠n+j:=λ e=>absurd e (Þ (Nat.lt_add_of_pos_right h))
theorem n0' {n j:Nat} (h:0 < j):n+j≠n:=Ne.symm (n0 h)
theorem al {a n:Nat} (h:a < n) (j:Nat):a≠n+j:=Þ (í h (Ň n j))
theorem al0 {a n:Nat} (h:a < n):a≠n:=Þ h
theorem co {c n m k:Nat} (h:c < n\/n+m < c) (hk:k<=m):c≠n+k:=λ e=>h.elim (λ h=>absurd e (al h k)) λ h=>absurd (agu (Nat.add_le_add_left hk n) h) (by rw[e];exact ā _)
theorem co0 {c n m:Nat} (h:c < n\/n+m < c):c≠n:=co (k:=0) h (æ m)
theorem aV {a b:Nat} (h:@Ne Nat a b:=by first | exact nn (by decide) | exact n0 (by decide) | exact n0' (by decide) | exact al l1 _ | exact al l2 _ | exact al l3 _ | exact al0 l1 | exact al0 l2 | exact al0 l3 | exact co hc (by decide) | exact co0 hc | lia):@Ne Nat a b:=h
theorem CL {n a1 a2 a3:Nat}{t1 t2 t3:Bool}{k:Nat}{xs ys zs:Array À}{x y z c1 c2 c3 f0:À}{f1:Bool}{Q:À->Â->Prop} (hf:gK f0)
  (hz:nM s.heap (n+5) (n+3) (n+4) f0 f1) (kr:dJ s.heap (n+3) #[.ref n,.ref (n+1),.ref (n+2)]) (lb:dJ s.heap (n+4) #[c1,c2,c3])
  (i1:dP s.heap t1 n a1 k) (i2:dP s.heap t2 (n+1) a2 k) (i3:dP s.heap t3 (n+2) a3 k) (s1:bX s.heap t1 a1 xs) (s2:bX s.heap t2 a2 ys) (s3:bX s.heap t3 a3 zs)
  (l1:a1 < n) (l2:a2 < n) (l3:a3 < n) (hx:xs[k]? = some x) (hy:ys[k]? = some y) (hw:zs[k]? = some z)
  (hQ:∀ (T:Nat) h' tm xw d1 d2 d3,s.heap.objs.size<=T->gK tm->nM h' (n+5) (n+3) (n+4) tm xw->dJ h' (n+3) #[.ref n,.ref (n+1),.ref (n+2)]->dJ h' (n+4) #[d1,d2,d3]->
   dP h' t1 n a1 (k+1)->dP h' t2 (n+1) a2 (k+1)->dP h' t3 (n+2) a3 (k+1)->dJ h' T #[x,y,z]->
   (∀ (c:Nat) o,(c < n\/n+5 < c)->s.heap.get? c=some o->h'.get? c=some o)->Q (.ref T) { s with heap:=h' }) :
  wpAny (model prog w) A (Builtin.«zip.__next__» ⟨[.ref (n+5)],[]⟩) (λ fin s'=>∃ v,fin=.done (.ret v)/\Q v s') E s:=by
 have Dq:n+5 < s.heap.objs.size:=Ñ hz;show wpAny _ _ (field (.ref (n+5)) 2 >>= _) _ _ _;refine Æ (î hz rfl (x:=.bool false) rfl ?_);show wpAny _ _ (field (.ref (n+5)) 3 >>= _) _ _ _;refine Æ (î hz rfl (x:=.ref (n+3)) rfl ?_);refine Æ (Ą kr rfl ?_);show wpAny _ _ (Builtin.SmallTypes.ownedTupleIsFree (.ref (n+5)) >>= _) _ _ _;refine Æ (jQ hz hf ?_ ?_)
 ·simp only [if_true];refine Æ (õ ?_);refine Æ (î hz rfl (x:=.ref (n+4)) rfl ?_);refine Æ (Ă hz (by simp) λ h₁ ao ae=>?_);replace ao:nM h₁ (n+5) (n+3) (n+4) .ellipsis f1:=ao;refine Æ ?_;simp only [Ű,agm,Ĥ,ĥ];refine Æ (Æ (Ĝ ?_));show wpAny _ _ (Builtin.SmallTypes.nextOf (.ref n) >>= _) _ _ _;refine Æ (bL (i1.ext ae aV) (s1.ext ae aV) hx λ ap bq af=>É ?_);have bn:dJ ap (n+4) #[c1,c2,c3]:=ex af aV (ex ae aV lb);refine Æ (Ą bn rfl ?_);refine Æ (iQ bn (by simp) λ am bf ah=>?_);replace bf:dJ am (n+4) #[x,c2,c3]:=bf;refine Æ (Ħ (É ?_));refine Æ (Æ (Ĝ ?_));show wpAny _ _ (Builtin.SmallTypes.nextOf (.ref (n+1)) >>= _) _ _ _;refine Æ (bL (((i2.ext ae aV).ext af aV).ext ah aV) (((s2.ext ae aV).ext af aV).ext ah aV) hy λ aq cw aj=>É ?_);have ce:dJ aq (n+4) #[x,c2,c3]:=ex aj aV bf;refine Æ (Ą ce rfl ?_);refine Æ (iQ ce (by simp) λ bb de ar=>?_);replace de:dJ bb (n+4) #[x,y,c3]:=de;refine Æ (Ħ (É ?_));refine Æ (Æ (Ĝ ?_));show wpAny _ _ (Builtin.SmallTypes.nextOf (.ref (n+2)) >>= _) _ _ _;refine Æ (bL (((((i3.ext ae aV).ext af aV).ext ah aV).ext aj aV).ext ar aV)
   (((((s3.ext ae aV).ext af aV).ext ah aV).ext aj aV).ext ar aV) hw λ cq XG be=>É ?_)
  have fm:dJ cq (n+4) #[x,y,c3]:=ex be aV de;refine Æ (Ą fm rfl ?_);refine Æ (iQ fm (by simp) λ az bu bi=>?_);replace bu:dJ az (n+4) #[x,y,z]:=bu;refine Æ (Ħ (É (É ?_)));refine Æ (Ą bu rfl ?_);refine Æ (ŗ ?_);have hsz:az.objs.size=s.heap.objs.size:=by rw[bi.1,be.1,ar.1,aj.1,ah.1,af.1,ae.1]
  have keep:∀ (c:Nat) o,(c < n\/n+5 < c)->s.heap.get? c=some o->az.get? c=some o:=λ c o hc e=>
   ex bi aV (ex be aV (ex ar aV (ex aj aV (ex ah aV (ex af aV (ex ae aV e))))))
  have dy:nM az (n+5) (n+3) (n+4) .ellipsis f1:=ex bi aV (ex be aV (ex ar aV (ex aj aV (ex ah aV (ex af aV ao)))));have dn:dJ az (n+3) #[.ref n,.ref (n+1),.ref (n+2)]:=ex bi aV (ex be aV (ex ar aV (ex aj aV (ex ah aV (ex af aV (ex ae aV kr))))));have dz:=((((bq.ext ah aV).ext aj aV).ext ar aV).ext be aV).ext bi aV;have ed:=((cw.ext ar aV).ext be aV).ext bi aV;have XH:=XG.ext bi aV;have gd:n+5 < az.objs.size:=by rw[hsz];exact Dq
  have up:∀ {c o},az.get? c=some o->(az.push { cls:=.type "tuple",data:=.seq #[x,y,z] }).get? c=some o:=λ e=>Í _ e;refine Æ (BS (z:=n+5) (TI:=n+3) (TO:=n+4) (f0:=.ellipsis) (f1:=f1) (up dy) λ dq ee df=>?_);have xx:∀ {c:Nat}{o},c≠n+5->az.get? c=some o->dq.get? c=some o:=λ hc e=>ex df hc (up e);refine É ⟨_,rfl,hQ az.objs.size dq (rawInt az.objs.size) false x y z (by rw[hsz];exact Î _) (.inr ⟨_,rfl⟩) ee (xx aV dn) (xx aV bu) (dz.at λ o e=>xx aV e) (ed.at λ o e=>xx aV e) (XH.at λ o e=>xx aV e)
   (ex df aV (ß _ rfl)) λ c o hc e=>xx aV (keep c o hc e)⟩
 ·intro h₁ ao ae;simp only [ĉ,if_false];refine Æ ?_;rw[<- ő];simp only [Ĥ,ĥ];refine Æ (Æ (ð ?_));show wpAny _ _ (Builtin.SmallTypes.nextOf (.ref n) >>= _) _ _ _;refine Æ (bL (i1.ext ae aV) (s1.ext ae aV) hx λ ap bq af=>É (É ?_));refine Æ (Æ (ð ?_));show wpAny _ _ (Builtin.SmallTypes.nextOf (.ref (n+1)) >>= _) _ _ _;refine Æ (bL ((i2.ext ae aV).ext af aV) ((s2.ext ae aV).ext af aV) hy λ am fu ah=>É (É ?_));refine Æ (Æ (ð ?_));show wpAny _ _ (Builtin.SmallTypes.nextOf (.ref (n+2)) >>= _) _ _ _;refine Æ (bL (((i3.ext ae aV).ext af aV).ext ah aV) (((s3.ext ae aV).ext af aV).ext ah aV) hw λ aq XI aj=>É (É (É ?_)));refine Æ (ŗ (hsz:=by show 3<=sizeLine;decide) (É ⟨_,rfl,?_⟩));have hsz:aq.objs.size=s.heap.objs.size:=by rw[aj.1,ah.1,af.1,ae.1]
  have up:∀ {c o},aq.get? c=some o->(aq.push { cls:=.type "tuple",data:=.seq #[x,y,z] }).get? c=some o:=λ e=>Í _ e;have keep:∀ (c:Nat) o,(c < n\/n+5 < c)->s.heap.get? c=some o->aq.get? c=some o:=λ c o hc e=>ex aj aV (ex ah aV (ex af aV (ex ae aV e)));refine hQ aq.objs.size (aq.push { cls:=.type "tuple",data:=.seq #[x,y,z] }) f0 true c1 c2 c3 (by rw[hsz];exact Î _) hf (up (ex aj aV (ex ah aV (ex af aV ao))))
   (up (ex aj aV (ex ah aV (ex af aV (ex ae aV kr))))) (up (ex aj aV (ex ah aV (ex af aV (ex ae aV lb)))))
   (((bq.ext ah aV).ext aj aV).at λ o e=>up e) ((fu.ext aj aV).at λ o e=>up e) (XI.at λ o e=>up e) (ß _ rfl) λ c o hc e=>up (keep c o hc e)
theorem EZ {n a1 a2 a3:Nat}{t1 t2 t3:Bool}{k:Nat}{xs ys zs:Array À}{c1 c2 c3 f0:À}{f1:Bool}{Q:Fin->Â->Prop} (hh:A.handled=none) (hf:gK f0)
  (hz:nM s.heap (n+5) (n+3) (n+4) f0 f1) (kr:dJ s.heap (n+3) #[.ref n,.ref (n+1),.ref (n+2)]) (lb:dJ s.heap (n+4) #[c1,c2,c3])
  (i1:dP s.heap t1 n a1 k) (i2:dP s.heap t2 (n+1) a2 k) (i3:dP s.heap t3 (n+2) a3 k) (s1:bX s.heap t1 a1 xs) (s2:bX s.heap t2 a2 ys) (s3:bX s.heap t3 a3 zs)
  (l1:a1 < n) (l2:a2 < n) (l3:a3 < n) (ox:xs[k]? = none\/ys[k]? = none\/zs[k]? = none)
  (hE:∀ h' e,(∀ (c:Nat) o,(c < n\/n+5 < c)->s.heap.get? c=some o->h'.get? c=some o)->(∃ o,h'.get? e=some o/\o.cls=.type "StopIteration")->E (.ref e) { s with heap:=h' }) :
  wpAny (model prog w) A (Builtin.«zip.__next__» ⟨[.ref (n+5)],[]⟩) Q E s:=by
 show wpAny _ _ (field (.ref (n+5)) 2 >>= _) _ _ _;refine Æ (î hz rfl (x:=.bool false) rfl ?_);show wpAny _ _ (field (.ref (n+5)) 3 >>= _) _ _ _;refine Æ (î hz rfl (x:=.ref (n+3)) rfl ?_);refine Æ (Ą kr rfl ?_);show wpAny _ _ (Builtin.SmallTypes.ownedTupleIsFree (.ref (n+5)) >>= _) _ _ _;refine Æ (jQ hz hf ?_ ?_)
 ·simp only [if_true];refine Æ (õ ?_);refine Æ (î hz rfl (x:=.ref (n+4)) rfl ?_);refine Æ (Ă hz (by simp) λ h₁ ao ae=>?_);replace ao:nM h₁ (n+5) (n+3) (n+4) .ellipsis f1:=ao;refine Æ ?_;simp only [Ű,agm,Ĥ,ĥ];have fin:∀ {ap am:Heap}{e j:Nat}{oe:Obj},nM ap (n+5) (n+3) (n+4) .ellipsis f1->Heap.ExtBut j ap am->@Ne Nat (n+5) j->(n<=j/\j<=n+5)->(∀ (c:Nat) o,(c < n\/n+5 < c)->s.heap.get? c=some o->ap.get? c=some o)->am.get? e=some oe->oe.cls=.type "StopIteration" ->
    wpAny (model prog w) A (setField (.ref (n+5)) 0 .none) (λ _ s'=>E (.ref e) s') E { s with heap:=am }:=λ {ap am e j oe} cr hx hj hr hk rn uy=>by
   have cb:nM am (n+5) (n+3) (n+4) .ellipsis f1:=hx _ _ hj cr;have Ou:e≠n+5:=λ q=>by subst q;rw[cb] at rn;cases rn;simp at uy
   refine Ă cb (by simp) λ aq _ aj=>hE aq e (λ c o hc q=>ex aj aV (hx c o (show @Ne Nat c j by lia) (hk c o hc q))) ⟨oe,aj.extBut _ _ Ou rn,uy⟩
  refine Æ (Æ (Ĝ ?_));show wpAny _ _ (Builtin.SmallTypes.nextOf (.ref n) >>= _) _ _ _;cases hx:xs[k]? with
  | none=>
   refine Æ (dB hh (i1.ext ae aV) (s1.ext ae aV) hx λ ap e af he=>?_);obtain⟨oe,rn,uy⟩:=he;exact fin ao af aV (by lia) (λ c o hc q=>ex ae aV q) rn uy
  | some x=>
   refine Æ (bL (i1.ext ae aV) (s1.ext ae aV) hx λ ap bq af=>É ?_);have bn:dJ ap (n+4) #[c1,c2,c3]:=ex af aV (ex ae aV lb);refine Æ (Ą bn rfl ?_);refine Æ (iQ bn (by simp) λ am bf ah=>?_);replace bf:dJ am (n+4) #[x,c2,c3]:=bf;refine Æ (Ħ (É ?_));have cb:nM am (n+5) (n+3) (n+4) .ellipsis f1:=ex ah aV (ex af aV ao);have ej:∀ (c:Nat) o,(c < n\/n+5 < c)->s.heap.get? c=some o->am.get? c=some o:=λ c o hc e=>ex ah aV (ex af aV (ex ae aV e));refine Æ (Æ (Ĝ ?_));show wpAny _ _ (Builtin.SmallTypes.nextOf (.ref (n+1)) >>= _) _ _ _;cases hy:ys[k]? with
   | none=>
    refine Æ (dB hh (((i2.ext ae aV).ext af aV).ext ah aV) (((s2.ext ae aV).ext af aV).ext ah aV) hy λ aq e aj he=>?_);obtain⟨oe,rn,uy⟩:=he;exact fin cb aj aV (by lia) ej rn uy
   | some y=>
    have hw:zs[k]? = none:=by rcases ox with h | h | h;rw[hx] at h;cases h;rw[hy] at h;cases h;exact h
    refine Æ (bL (((i2.ext ae aV).ext af aV).ext ah aV) (((s2.ext ae aV).ext af aV).ext ah aV) hy λ aq cw aj=>É ?_);have ce:dJ aq (n+4) #[x,c2,c3]:=ex aj aV bf;refine Æ (Ą ce rfl ?_);refine Æ (iQ ce (by simp) λ bb de ar=>?_);refine Æ (Ħ (É ?_));refine Æ (Æ (Ĝ ?_));show wpAny _ _ (Builtin.SmallTypes.nextOf (.ref (n+2)) >>= _) _ _ _;refine Æ (dB hh (((((i3.ext ae aV).ext af aV).ext ah aV).ext aj aV).ext ar aV)
     (((((s3.ext ae aV).ext af aV).ext ah aV).ext aj aV).ext ar aV) hw λ cq e be he=>?_)
    obtain⟨oe,rn,uy⟩:=he;exact fin (ex ar aV (ex aj aV cb)) be aV (by lia) (λ c o hc q=>ex ar aV (ex aj aV (ej c o hc q))) rn uy
 ·intro h₁ ao ae;simp only [ĉ,if_false];refine Æ ?_;rw[<- ő];simp only [Ĥ,ĥ];refine Æ (Æ (ð ?_));show wpAny _ _ (Builtin.SmallTypes.nextOf (.ref n) >>= _) _ _ _;cases hx:xs[k]? with
  | none=>
   refine Æ (dB hh (i1.ext ae aV) (s1.ext ae aV) hx λ ap e af he=>?_);exact hE ap e (λ c o hc q=>af c o (show @Ne Nat c n by lia) (ex ae aV q)) he
  | some x=>
   refine Æ (bL (i1.ext ae aV) (s1.ext ae aV) hx λ ap bq af=>É (É ?_));refine Æ (Æ (ð ?_));show wpAny _ _ (Builtin.SmallTypes.nextOf (.ref (n+1)) >>= _) _ _ _;cases hy:ys[k]? with
   | none=>
    refine Æ (dB hh ((i2.ext ae aV).ext af aV) ((s2.ext ae aV).ext af aV) hy λ am e ah he=>?_);exact hE am e (λ c o hc q=>ah c o (show @Ne Nat c (n+1) by lia) (ex af aV (ex ae aV q))) he
   | some y=>
    have hw:zs[k]? = none:=by rcases ox with h | h | h;rw[hx] at h;cases h;rw[hy] at h;cases h;exact h
    refine Æ (bL ((i2.ext ae aV).ext af aV) ((s2.ext ae aV).ext af aV) hy λ am fu ah=>É (É ?_));refine Æ (Æ (ð ?_));show wpAny _ _ (Builtin.SmallTypes.nextOf (.ref (n+2)) >>= _) _ _ _;refine Æ (dB hh (((i3.ext ae aV).ext af aV).ext ah aV) (((s3.ext ae aV).ext af aV).ext ah aV) hw λ aq e aj he=>?_);exact hE aq e (λ c o hc q=>aj c o (show @Ne Nat c (n+2) by lia) (ex ah aV (ex af aV (ex ae aV q)))) he
theorem CM {n a1 a2:Nat}{t1 t2:Bool}{k:Nat}{xs ys:Array À}{x y c1 c2 f0:À}{f1:Bool}{Q:À->Â->Prop} (hf:gK f0)
  (hz:nM s.heap (n+4) (n+2) (n+3) f0 f1) (kr:dJ s.heap (n+2) #[.ref n,.ref (n+1)]) (lb:dJ s.heap (n+3) #[c1,c2])
  (i1:dP s.heap t1 n a1 k) (i2:dP s.heap t2 (n+1) a2 k) (s1:bX s.heap t1 a1 xs) (s2:bX s.heap t2 a2 ys)
  (l1:a1 < n) (l2:a2 < n) (hx:xs[k]? = some x) (hy:ys[k]? = some y)
  (hQ:∀ (T:Nat) h' tm xw d1 d2,s.heap.objs.size<=T->gK tm->nM h' (n+4) (n+2) (n+3) tm xw->dJ h' (n+2) #[.ref n,.ref (n+1)]->dJ h' (n+3) #[d1,d2]->
   dP h' t1 n a1 (k+1)->dP h' t2 (n+1) a2 (k+1)->dJ h' T #[x,y]->
   (∀ (c:Nat) o,(c < n\/n+4 < c)->s.heap.get? c=some o->h'.get? c=some o)->Q (.ref T) { s with heap:=h' }) :
  wpAny (model prog w) A (Builtin.«zip.__next__» ⟨[.ref (n+4)],[]⟩) (λ fin s'=>∃ v,fin=.done (.ret v)/\Q v s') E s:=by
 have Dq:n+4 < s.heap.objs.size:=Ñ hz;show wpAny _ _ (field (.ref (n+4)) 2 >>= _) _ _ _;refine Æ (î hz rfl (x:=.bool false) rfl ?_);show wpAny _ _ (field (.ref (n+4)) 3 >>= _) _ _ _;refine Æ (î hz rfl (x:=.ref (n+2)) rfl ?_);refine Æ (Ą kr rfl ?_);show wpAny _ _ (Builtin.SmallTypes.ownedTupleIsFree (.ref (n+4)) >>= _) _ _ _;refine Æ (jQ hz hf ?_ ?_)
 ·simp only [if_true];refine Æ (õ ?_);refine Æ (î hz rfl (x:=.ref (n+3)) rfl ?_);refine Æ (Ă hz (by simp) λ h₁ ao ae=>?_);replace ao:nM h₁ (n+4) (n+2) (n+3) .ellipsis f1:=ao;refine Æ ?_;simp only [Ű,agm,Ĥ,ĥ];refine Æ (Æ (Ĝ ?_));show wpAny _ _ (Builtin.SmallTypes.nextOf (.ref n) >>= _) _ _ _;refine Æ (bL (i1.ext ae aV) (s1.ext ae aV) hx λ ap bq af=>É ?_);have bn:dJ ap (n+3) #[c1,c2]:=ex af aV (ex ae aV lb);refine Æ (Ą bn rfl ?_);refine Æ (iQ bn (by simp) λ am bf ah=>?_);replace bf:dJ am (n+3) #[x,c2]:=bf;refine Æ (Ħ (É ?_));refine Æ (Æ (Ĝ ?_));show wpAny _ _ (Builtin.SmallTypes.nextOf (.ref (n+1)) >>= _) _ _ _;refine Æ (bL (((i2.ext ae aV).ext af aV).ext ah aV) (((s2.ext ae aV).ext af aV).ext ah aV) hy λ aq cw aj=>É ?_);have ce:dJ aq (n+3) #[x,c2]:=ex aj aV bf;refine Æ (Ą ce rfl ?_);refine Æ (iQ ce (by simp) λ az bu bi=>?_);replace bu:dJ az (n+3) #[x,y]:=bu;refine Æ (Ħ (É (É ?_)));refine Æ (Ą bu rfl ?_);refine Æ (ŗ ?_);have hsz:az.objs.size=s.heap.objs.size:=by rw[bi.1,aj.1,ah.1,af.1,ae.1]
  have keep:∀ (c:Nat) o,(c < n\/n+4 < c)->s.heap.get? c=some o->az.get? c=some o:=λ c o hc e=>
   ex bi aV (ex aj aV (ex ah aV (ex af aV (ex ae aV e))))
  have dy:nM az (n+4) (n+2) (n+3) .ellipsis f1:=ex bi aV (ex aj aV (ex ah aV (ex af aV ao)));have dn:dJ az (n+2) #[.ref n,.ref (n+1)]:=ex bi aV (ex aj aV (ex ah aV (ex af aV (ex ae aV kr))));have dz:=((bq.ext ah aV).ext aj aV).ext bi aV;have ed:=cw.ext bi aV;have gd:n+4 < az.objs.size:=by rw[hsz];exact Dq
  have up:∀ {c o},az.get? c=some o->(az.push { cls:=.type "tuple",data:=.seq #[x,y] }).get? c=some o:=λ e=>Í _ e;refine Æ (BS (z:=n+4) (TI:=n+2) (TO:=n+3) (f0:=.ellipsis) (f1:=f1) (up dy) λ dq ee df=>?_);have xx:∀ {c:Nat}{o},c≠n+4->az.get? c=some o->dq.get? c=some o:=λ hc e=>ex df hc (up e);refine É ⟨_,rfl,hQ az.objs.size dq (rawInt az.objs.size) false x y (by rw[hsz];exact Î _) (.inr ⟨_,rfl⟩) ee (xx aV dn) (xx aV bu) (dz.at λ o e=>xx aV e) (ed.at λ o e=>xx aV e)
   (ex df aV (ß _ rfl)) λ c o hc e=>xx aV (keep c o hc e)⟩
 ·intro h₁ ao ae;simp only [ĉ,if_false];refine Æ ?_;rw[<- ő];simp only [Ĥ,ĥ];refine Æ (Æ (ð ?_));show wpAny _ _ (Builtin.SmallTypes.nextOf (.ref n) >>= _) _ _ _;refine Æ (bL (i1.ext ae aV) (s1.ext ae aV) hx λ ap bq af=>É (É ?_));refine Æ (Æ (ð ?_));show wpAny _ _ (Builtin.SmallTypes.nextOf (.ref (n+1)) >>= _) _ _ _;refine Æ (bL ((i2.ext ae aV).ext af aV) ((s2.ext ae aV).ext af aV) hy λ aq cw aj=>É (É (É ?_)));refine Æ (ŗ (hsz:=by show 2<=sizeLine;decide) (É ⟨_,rfl,?_⟩));have hsz:aq.objs.size=s.heap.objs.size:=by rw[aj.1,af.1,ae.1]
  have up:∀ {c o},aq.get? c=some o->(aq.push { cls:=.type "tuple",data:=.seq #[x,y] }).get? c=some o:=λ e=>Í _ e;have keep:∀ (c:Nat) o,(c < n\/n+4 < c)->s.heap.get? c=some o->aq.get? c=some o:=λ c o hc e=>ex aj aV (ex af aV (ex ae aV e));refine hQ aq.objs.size (aq.push { cls:=.type "tuple",data:=.seq #[x,y] }) f0 true c1 c2 (by rw[hsz];exact Î _) hf (up (ex aj aV (ex af aV ao)))
   (up (ex aj aV (ex af aV (ex ae aV kr)))) (up (ex aj aV (ex af aV (ex ae aV lb))))
   ((bq.ext aj aV).at λ o e=>up e) (cw.at λ o e=>up e) (ß _ rfl) λ c o hc e=>up (keep c o hc e)
theorem FA {n a1 a2:Nat}{t1 t2:Bool}{k:Nat}{xs ys:Array À}{c1 c2 f0:À}{f1:Bool}{Q:Fin->Â->Prop} (hh:A.handled=none) (hf:gK f0)
  (hz:nM s.heap (n+4) (n+2) (n+3) f0 f1) (kr:dJ s.heap (n+2) #[.ref n,.ref (n+1)]) (lb:dJ s.heap (n+3) #[c1,c2])
  (i1:dP s.heap t1 n a1 k) (i2:dP s.heap t2 (n+1) a2 k) (s1:bX s.heap t1 a1 xs) (s2:bX s.heap t2 a2 ys)
  (l1:a1 < n) (l2:a2 < n) (ox:xs[k]? = none\/ys[k]? = none)
  (hE:∀ h' e,(∀ (c:Nat) o,(c < n\/n+4 < c)->s.heap.get? c=some o->h'.get? c=some o)->(∃ o,h'.get? e=some o/\o.cls=.type "StopIteration")->E (.ref e) { s with heap:=h' }) :
  wpAny (model prog w) A (Builtin.«zip.__next__» ⟨[.ref (n+4)],[]⟩) Q E s:=by
 show wpAny _ _ (field (.ref (n+4)) 2 >>= _) _ _ _;refine Æ (î hz rfl (x:=.bool false) rfl ?_);show wpAny _ _ (field (.ref (n+4)) 3 >>= _) _ _ _;refine Æ (î hz rfl (x:=.ref (n+2)) rfl ?_);refine Æ (Ą kr rfl ?_);show wpAny _ _ (Builtin.SmallTypes.ownedTupleIsFree (.ref (n+4)) >>= _) _ _ _;refine Æ (jQ hz hf ?_ ?_)
 ·simp only [if_true];refine Æ (õ ?_);refine Æ (î hz rfl (x:=.ref (n+3)) rfl ?_);refine Æ (Ă hz (by simp) λ h₁ ao ae=>?_);replace ao:nM h₁ (n+4) (n+2) (n+3) .ellipsis f1:=ao;refine Æ ?_;simp only [Ű,agm,Ĥ,ĥ];have fin:∀ {ap am:Heap}{e j:Nat}{oe:Obj},nM ap (n+4) (n+2) (n+3) .ellipsis f1->Heap.ExtBut j ap am->@Ne Nat (n+4) j->(n<=j/\j<=n+4)->(∀ (c:Nat) o,(c < n\/n+4 < c)->s.heap.get? c=some o->ap.get? c=some o)->am.get? e=some oe->oe.cls=.type "StopIteration" ->
    wpAny (model prog w) A (setField (.ref (n+4)) 0 .none) (λ _ s'=>E (.ref e) s') E { s with heap:=am }:=λ {ap am e j oe} cr hx hj hr hk rn uy=>by
   have cb:nM am (n+4) (n+2) (n+3) .ellipsis f1:=hx _ _ hj cr;have Ou:e≠n+4:=λ q=>by subst q;rw[cb] at rn;cases rn;simp at uy
   refine Ă cb (by simp) λ aq _ aj=>hE aq e (λ c o hc q=>ex aj aV (hx c o (show @Ne Nat c j by lia) (hk c o hc q))) ⟨oe,aj.extBut _ _ Ou rn,uy⟩
  refine Æ (Æ (Ĝ ?_));show wpAny _ _ (Builtin.SmallTypes.nextOf (.ref n) >>= _) _ _ _;cases hx:xs[k]? with
  | none=>
   refine Æ (dB hh (i1.ext ae aV) (s1.ext ae aV) hx λ ap e af he=>?_);obtain⟨oe,rn,uy⟩:=he;exact fin ao af aV (by lia) (λ c o hc q=>ex ae aV q) rn uy
  | some x=>
   have hy:ys[k]? = none:=by rcases ox with h | h;rw[hx] at h;cases h;exact h
   refine Æ (bL (i1.ext ae aV) (s1.ext ae aV) hx λ ap bq af=>É ?_);have bn:dJ ap (n+3) #[c1,c2]:=ex af aV (ex ae aV lb);refine Æ (Ą bn rfl ?_);refine Æ (iQ bn (by simp) λ am bf ah=>?_);refine Æ (Ħ (É ?_));have cb:nM am (n+4) (n+2) (n+3) .ellipsis f1:=ex ah aV (ex af aV ao);have ej:∀ (c:Nat) o,(c < n\/n+4 < c)->s.heap.get? c=some o->am.get? c=some o:=λ c o hc e=>ex ah aV (ex af aV (ex ae aV e));refine Æ (Æ (Ĝ ?_));show wpAny _ _ (Builtin.SmallTypes.nextOf (.ref (n+1)) >>= _) _ _ _;refine Æ (dB hh (((i2.ext ae aV).ext af aV).ext ah aV) (((s2.ext ae aV).ext af aV).ext ah aV) hy λ aq e aj he=>?_);obtain⟨oe,rn,uy⟩:=he;exact fin cb aj aV (by lia) ej rn uy
 ·intro h₁ ao ae;simp only [ĉ,if_false];refine Æ ?_;rw[<- ő];simp only [Ĥ,ĥ];refine Æ (Æ (ð ?_));show wpAny _ _ (Builtin.SmallTypes.nextOf (.ref n) >>= _) _ _ _;cases hx:xs[k]? with
  | none=>
   refine Æ (dB hh (i1.ext ae aV) (s1.ext ae aV) hx λ ap e af he=>?_);exact hE ap e (λ c o hc q=>af c o (show @Ne Nat c n by lia) (ex ae aV q)) he
  | some x=>
   have hy:ys[k]? = none:=by rcases ox with h | h;rw[hx] at h;cases h;exact h
   refine Æ (bL (i1.ext ae aV) (s1.ext ae aV) hx λ ap bq af=>É (É ?_));refine Æ (Æ (ð ?_));show wpAny _ _ (Builtin.SmallTypes.nextOf (.ref (n+1)) >>= _) _ _ _;refine Æ (dB hh ((i2.ext ae aV).ext af aV) ((s2.ext ae aV).ext af aV) hy λ am e ah he=>?_);exact hE am e (λ c o hc q=>ah c o (show @Ne Nat c (n+1) by lia) (ex af aV (ex ae aV q))) he
theorem jN {z TI TO:Á}{f0:À}{f1:Bool}{Q:Option À->Â->Prop} (hz:nM s.heap z TI TO f0 f1)
  (h:wpAny (model prog w) A.in1 (Builtin.«zip.__next__» ⟨[.ref z],[]⟩) (λ fin s'=>∃ v,fin=.done (.ret v)/\Q (some v) s') (λ e s'=>(∃ a o,e=.ref a/\s'.heap.get? a=some o/\o.cls=.type "StopIteration")/\Q none s') s) :
  wpAny (model prog w) A (pyNext (.ref z)) Q E s:=by
 have hT:s.TypeIs (.ref z) "zip" := ⟨_,hz,rfl⟩;unfold pyNext;refine Æ (Ō (Ĭ (name:=Str.ofString "__next__") hT F.slot_zip_next
  (ă F.slot_zip_next hT F.entry_zip_next (á h (λ fin s' h'=>?_) λ e s' h'=>?_) (F.args_zip_next_1 _))))
 ·obtain⟨v,rfl,q⟩:=h';exact⟨v,rfl,É q⟩
 ·obtain⟨⟨a,o,rfl,ho,hc⟩,q⟩:=h';exact Æ (ű (T := "StopIteration") (b:=true) ⟨o,ho,hc⟩ isSubtype_stop (É q))
theorem uL {tg:Expr}{z TI TO T:Á}{f0:À}{f1:Bool}{Q:Unit->Â->Prop} (hf:gK f0) (hz:nM s.heap z TI TO f0 f1)
  (hQ:∀ h' tm,gK tm->nM h' z TI TO tm f1->Heap.SameBut z s.heap h'->Q () { s with heap:=h' }):wpAny (model prog w) A (letOwnedTupleGo tg (.ref z) (.ref T)) Q E s:=by
 have same:Q () s:=hQ s.heap f0 hf hz (af4 ..);have core:wpAny (model prog w) A (do
   let o <- load z
   match o.cls,o.data with
   | .type n,.fields vs=>
    if ["enumerate","zip","dict_itemiterator","dict_reverseitemiterator","odict_iterator","itertools.zip_longest","itertools.pairwise"].contains n && vs[0]? == some (rawInt T) then
     rule "for.unpacks-the-owned-tuple"
     updateField z 0 .none
   | _,_=>pure ()) Q E s:=by
  refine Æ (wpAny_load hz ?_);show wpAny _ _ (if (["enumerate","zip","dict_itemiterator","dict_reverseitemiterator","odict_iterator","itertools.zip_longest","itertools.pairwise"].contains "zip" &&
   (#[f0,.bool f1,.bool false,.ref TI,.ref TO]:Array À)[0]? == some (rawInt T))=true then _ else _) Q E s
  split
  ·refine Æ (õ ?_);show wpAny _ _ (setField (.ref z) 0 .none) Q E s;exact Ă hz (by simp) λ h' lw sr=>hQ h' .none (.inl rfl) lw sr
  ·exact É same
 unfold letOwnedTupleGo;cases tg <;> first
  | exact É same
  | exact core
theorem jO {z TI TO:Á}{f0:À}{f1:Bool}{Q:À->Â->Prop} (hz:nM s.heap z TI TO f0 f1) (h:Q (.ref z) s):wpAny (model prog w) A (pyIter (.ref z)) Q E s:=by
 have hT:s.TypeIs (.ref z) "zip" := ⟨_,hz,rfl⟩;refine ag3 hT F.slot_zip_iter (ă F.slot_zip_iter hT F.entry_zip_iter ?_ (F.args_zip_iter_1 _));show wpAny _ _ (ret (.ref z)) _ _ s;exact É ⟨_,rfl,"zip",_,hT,F.slot_zip_next.lookup,h⟩
def sP (t:Bool) (a:Á):Obj:={ cls:=.type (if t=true then "tuple_iterator" else "list_iterator"),data:=.fields #[.ref a,.int 0 0] }
theorem eS {t:Bool}{a:Á}{items:Array À}{Q:À->Â->Prop} (hs:bX s.heap t a items) (hQ:Q (.ref s.heap.objs.size) { s with heap:=s.heap.push (sP t a) }) :
  wpAny (model prog w) A (pyIter (.ref a)) Q E s:=by
 cases t with
 | true=>exact afk hs hQ
 | false=>exact ag0 hs hQ
theorem jA {h:Heap}{t:Bool}{a it:Á} (e:h.get? it=some (sP t a)):dP h t it a 0:=by
 cases t <;> exact⟨_,e,rfl,rfl⟩
abbrev zA (h:Heap) (t:Bool) (a:Á):Heap:=h.push (sP t a)
abbrev JF (h:Heap) (vs:List À):Heap:=h.push { cls:=.type "tuple",data:=.seq vs.toArray }
abbrev z2B (h:Heap) (t1 t2:Bool) (l1 l2:Á):Heap:=JF (zA (zA h t1 l1) t2 l2) [.ref h.objs.size,.ref (zA h t1 l1).objs.size]
abbrev z2H (h:Heap) (t1 t2:Bool) (l1 l2:Á):Heap:=JF (z2B h t1 t2 l1 l2) [.none,.none]
abbrev OC (h:Heap) (t1 t2:Bool) (l1 l2:Á):Heap:=(z2H h t1 t2 l1 l2).push { cls:=.type "zip",data:=.fields #[.none,.bool false,.bool false,.ref (zA (zA h t1 l1) t2 l2).objs.size,.ref (z2B h t1 t2 l1 l2).objs.size] }
abbrev z3B (h:Heap) (t1 t2 t3:Bool) (l1 l2 l3:Á):Heap:=JF (zA (zA (zA h t1 l1) t2 l2) t3 l3) [.ref h.objs.size,.ref (zA h t1 l1).objs.size,.ref (zA (zA h t1 l1) t2 l2).objs.size]
abbrev z3H (h:Heap) (t1 t2 t3:Bool) (l1 l2 l3:Á):Heap:=JF (z3B h t1 t2 t3 l1 l2 l3) [.none,.none,.none]
abbrev MF (h:Heap) (t1 t2 t3:Bool) (l1 l2 l3:Á):Heap:=(z3H h t1 t2 t3 l1 l2 l3).push { cls:=.type "zip",data:=.fields #[.none,.bool false,.bool false,.ref (zA (zA (zA h t1 l1) t2 l2) t3 l3).objs.size,.ref (z3B h t1 t2 t3 l1 l2 l3).objs.size] }
theorem A7 (t1 t2:Bool) (l1 l2:Á) (xs ys:Array À) :
  Meets (Builtin.«zip.__new__» ⟨[.type "zip",.ref l1,.ref l2],[]⟩) (λ _ R s=>bX s.heap t1 l1 xs/\bX s.heap t2 l2 ys/\
   R (.ok (.ret (.ref (z2H s.heap t1 t2 l1 l2).objs.size))) { s with heap:=OC s.heap t1 t2 l1 l2 }):=
 .of_wp λ prog w A R s h=>by
  obtain⟨hp,g,d,tk,os⟩:=s;obtain⟨xy,xq,h⟩:=h;have mq:=sub_zip;have Ov:bX (Shared.heap ⟨hp,g,d,tk,os⟩) t1 l1 xs:=xy;have Ow:bX (Shared.heap ⟨hp.push (sP t1 l1),g,d,tk,os⟩) t2 l2 ys:=xq.at λ o e=>Í _ e
  wp_walk using eS Ov,eS Ow
  exact⟨_,rfl,h⟩
theorem A6 (t1 t2 t3:Bool) (l1 l2 l3:Á) (xs ys zs:Array À) :
  Meets (Builtin.«zip.__new__» ⟨[.type "zip",.ref l1,.ref l2,.ref l3],[]⟩) (λ _ R s=>bX s.heap t1 l1 xs/\bX s.heap t2 l2 ys/\bX s.heap t3 l3 zs/\
   R (.ok (.ret (.ref (z3H s.heap t1 t2 t3 l1 l2 l3).objs.size))) { s with heap:=MF s.heap t1 t2 t3 l1 l2 l3 }):=
 .of_wp λ prog w A R s h=>by
  obtain⟨hp,g,d,tk,os⟩:=s;obtain⟨xy,xq,Bc,h⟩:=h;have mq:=sub_zip;have Ov:bX (Shared.heap ⟨hp,g,d,tk,os⟩) t1 l1 xs:=xy;have Ow:bX (Shared.heap ⟨hp.push (sP t1 l1),g,d,tk,os⟩) t2 l2 ys:=xq.at λ o e=>Í _ e;have XJ:bX (Shared.heap ⟨(hp.push (sP t1 l1)).push (sP t2 l2),g,d,tk,os⟩) t3 l3 zs:=Bc.at λ o e=>Í _ (Í _ e)
  wp_walk using eS Ov,eS Ow,eS XJ
  exact⟨_,rfl,h⟩
theorem rA (a b c:À):checkTypeCall "zip" ⟨[a,b,c],[]⟩=pure ():=by kernel_rfl
theorem tU (a b c:À):checkBuiltinCall "zip.__new__" ⟨[.type "zip",a,b,c],[]⟩=pure ():=by kernel_rfl
theorem nK (a b c d:À):argsOk "object.__init__" ⟨[a,b,c,d],[]⟩:=by
 unfold argsOk;rw[signature?_of (id := "object.__init__") (n:=['_','_','t','i','n','i','_','_']) (o:=['t','c','e','j','b','o']) (by kernel_rfl) F.owner_object];kernel_rfl
theorem ED {t1 t2:Bool}{l1 l2:Á}{xs ys:Array À}{Q:À->Â->Prop} (xy:bX s.heap t1 l1 xs) (xq:bX s.heap t2 l2 ys)
  (h:∀ h',nM h' (s.heap.objs.size+4) (s.heap.objs.size+2) (s.heap.objs.size+3) .none false->dJ h' (s.heap.objs.size+2) #[.ref s.heap.objs.size,.ref (s.heap.objs.size+1)]->
   dJ h' (s.heap.objs.size+3) #[.none,.none]->dP h' t1 s.heap.objs.size l1 0->dP h' t2 (s.heap.objs.size+1) l2 0->
   (∀ c o,s.heap.get? c=some o->h'.get? c=some o)->Q (.ref (s.heap.objs.size+4)) { s with heap:=h' }):wpAny (model prog w) A (call (.type "zip") [.ref l1,.ref l2]) Q E s:=by
 refine callType_new F.called_zip (by decide) (F.typeCall_zip_2 _ _) (F.newCall_zip_2 _ _) (λ obj=>F.args_object_init_3 obj _ _) F.entry_zip_new (A7 t1 t2 l1 l2 xs ys) ⟨xy,xq,?_⟩;generalize s.heap=h0 at *;have z1:(zA h0 t1 l1).objs.size=h0.objs.size+1:=ø ..;have z2:(zA (zA h0 t1 l1) t2 l2).objs.size=h0.objs.size+2:=by rw[ø,z1]
 have z3:(z2B h0 t1 t2 l1 l2).objs.size=h0.objs.size+3:=by rw[ø,z2]
 have z4:(z2H h0 t1 t2 l1 l2).objs.size=h0.objs.size+4:=by rw[ø,z3]
 have g5:(OC h0 t1 t2 l1 l2).get? (z2H h0 t1 t2 l1 l2).objs.size=some _:=ß _ rfl;have g4:(OC h0 t1 t2 l1 l2).get? (z2B h0 t1 t2 l1 l2).objs.size=some _:=Í _ (ß _ rfl);have g3:(OC h0 t1 t2 l1 l2).get? (zA (zA h0 t1 l1) t2 l2).objs.size=some _:=Í _ (Í _ (ß _ rfl));have g2:(OC h0 t1 t2 l1 l2).get? (zA h0 t1 l1).objs.size=some _:=Í _ (Í _ (Í _ (ß _ rfl)));have g1:(OC h0 t1 t2 l1 l2).get? h0.objs.size=some _:=Í _ (Í _ (Í _ (Í _ (ß _ rfl))));show _/\_;rw[z2,z3,z4] at g5;rw[z1,z2] at g3;rw[z3] at g4;rw[z1] at g2;rw[z4];exact⟨⟨_,g5,rfl⟩,h _ g5 g3 g4 (jA g1) (jA g2) λ c o x=>Í _ (Í _ (Í _ (Í _ (Í _ x))))⟩
theorem EC {t1 t2 t3:Bool}{l1 l2 l3:Á}{xs ys zs:Array À}{Q:À->Â->Prop} (xy:bX s.heap t1 l1 xs) (xq:bX s.heap t2 l2 ys) (Bc:bX s.heap t3 l3 zs)
  (h:∀ h',nM h' (s.heap.objs.size+5) (s.heap.objs.size+3) (s.heap.objs.size+4) .none false->dJ h' (s.heap.objs.size+3) #[.ref s.heap.objs.size,.ref (s.heap.objs.size+1),.ref (s.heap.objs.size+2)]->
   dJ h' (s.heap.objs.size+4) #[.none,.none,.none]->dP h' t1 s.heap.objs.size l1 0->dP h' t2 (s.heap.objs.size+1) l2 0->dP h' t3 (s.heap.objs.size+2) l3 0->
   (∀ c o,s.heap.get? c=some o->h'.get? c=some o)->Q (.ref (s.heap.objs.size+5)) { s with heap:=h' }):wpAny (model prog w) A (call (.type "zip") [.ref l1,.ref l2,.ref l3]) Q E s:=by
 refine callType_new F.called_zip (by decide) (rA _ _ _) (tU _ _ _) (λ obj=>nK obj _ _ _) F.entry_zip_new (A6 t1 t2 t3 l1 l2 l3 xs ys zs) ⟨xy,xq,Bc,?_⟩;generalize s.heap=h0 at *;have z1:(zA h0 t1 l1).objs.size=h0.objs.size+1:=ø ..;have z2:(zA (zA h0 t1 l1) t2 l2).objs.size=h0.objs.size+2:=by rw[ø,z1]
 have Ox:(zA (zA (zA h0 t1 l1) t2 l2) t3 l3).objs.size=h0.objs.size+3:=by rw[ø,z2]
 have z3:(z3B h0 t1 t2 t3 l1 l2 l3).objs.size=h0.objs.size+4:=by rw[ø,Ox]
 have z4:(z3H h0 t1 t2 t3 l1 l2 l3).objs.size=h0.objs.size+5:=by rw[ø,z3]
 have g5:(MF h0 t1 t2 t3 l1 l2 l3).get? (z3H h0 t1 t2 t3 l1 l2 l3).objs.size=some _:=ß _ rfl;have g4:(MF h0 t1 t2 t3 l1 l2 l3).get? (z3B h0 t1 t2 t3 l1 l2 l3).objs.size=some _:=Í _ (ß _ rfl);have g3:(MF h0 t1 t2 t3 l1 l2 l3).get? (zA (zA (zA h0 t1 l1) t2 l2) t3 l3).objs.size=some _:=Í _ (Í _ (ß _ rfl));have Ly:(MF h0 t1 t2 t3 l1 l2 l3).get? (zA (zA h0 t1 l1) t2 l2).objs.size=some _:=Í _ (Í _ (Í _ (ß _ rfl)));have g2:(MF h0 t1 t2 t3 l1 l2 l3).get? (zA h0 t1 l1).objs.size=some _:=Í _ (Í _ (Í _ (Í _ (ß _ rfl))));have g1:(MF h0 t1 t2 t3 l1 l2 l3).get? h0.objs.size=some _:=Í _ (Í _ (Í _ (Í _ (Í _ (ß _ rfl)))));show _/\_;rw[Ox,z3,z4] at g5;rw[z1,z2,Ox] at g3;rw[z3] at g4;rw[z2] at Ly;rw[z1] at g2;rw[z4];exact⟨⟨_,g5,rfl⟩,h _ g5 g3 g4 (jA g1) (jA g2) (jA Ly) λ c o x=>Í _ (Í _ (Í _ (Í _ (Í _ (Í _ x)))))⟩
end
end TwZ
namespace TwZ
open PySem
open Sem (wp)
open AutoSeq1 (wpAny_loadPart')
section
variable {prog:Ã}{M:Model}{A:Around}{E:À->Â->Prop}{s:Â}
abbrev iY (h:Heap) (e it:Á) (f0:À) (f1:Bool) (i:Int) (jn:À):Prop:=
 h.get? e=some { cls:=.type "enumerate",dict:=none,data:=.fields #[f0,.bool f1,.ref it,rawInt i,.none,jn],slots:=#[] }
theorem yC {e it:Á}{f0:À}{f1:Bool}{i:Int}{jn:À}{Q:Bool->Â->Prop} (hz:iY s.heap e it f0 f1 i jn) (hf:gK f0) (yes:Q true s)
  (no:∀ h',iY h' e it f0 true i jn->Heap.SameBut e s.heap h'->Q false { s with heap:=h' }):wpAny (model prog w) A (Builtin.SmallTypes.ownedTupleIsFree (.ref e)) Q E s:=by
 unfold Builtin.SmallTypes.ownedTupleIsFree;refine Æ (î hz rfl (x:=f0) rfl ?_);rcases hf with rfl | ⟨a,rfl⟩
 ·exact É yes
 ·refine Æ (pT ?_);cases h:s.heap.get? a.toNat with
  | none=>exact É yes
  | some o=>
   show wpAny _ _ (field (.ref e) 1 >>= _) _ _ _;refine Æ (î hz rfl (x:=.bool f1) rfl ?_);cases f1 with
   | true=>exact É (no s.heap hz (af4 ..))
   | false=>
    show wpAny _ _ (setField (.ref e) 1 (.bool true) >>= _) _ _ _;refine Æ (Ă hz (by simp) λ h₁ ao ae=>É (no h₁ ao ae))
theorem HR {e it:Á}{f0:À}{f1:Bool}{i:Int}{jn:À}{T:Á}{Q:Unit->Â->Prop} (hz:iY s.heap e it f0 f1 i jn)
  (h:∀ h',iY h' e it (rawInt T) false i jn->Heap.SameBut e s.heap h'->Q () { s with heap:=h' }):wpAny (model prog w) A (Builtin.SmallTypes.ownedTupleHandOut (.ref e) (.ref T)) Q E s:=by
 unfold Builtin.SmallTypes.ownedTupleHandOut;refine Æ (Ă hz (by simp) λ h₁ ao ae=>?_);replace ao:iY h₁ e it (rawInt T) f1 i jn:=ao;refine Ă ao (by simp) λ ap cr af=>?_;exact h ap cr (Heap.SameBut.trans ae af)
theorem E7 {n a:Nat}{t:Bool}{k:Nat}{xs:Array À}{x jn f0:À}{f1:Bool}{Q:À->Â->Prop} (hf:gK f0)
  (he:iY s.heap (n+1) n f0 f1 k jn) (i1:dP s.heap t n a k) (s1:bX s.heap t a xs) (l1:a < n) (hx:xs[k]? = some x)
  (hQ:∀ (T:Nat) h' tm xw Bd,s.heap.objs.size<=T->gK tm->iY h' (n+1) n tm xw ((k:Int)+1) Bd->dP h' t n a (k+1)->dJ h' T #[.int k s.toks,x]->
   (∀ (c:Nat) o,(c < n\/n+1 < c)->s.heap.get? c=some o->h'.get? c=some o)->Q (.ref T) { s with heap:=h',toks:=s.toks+1 }) :
  wpAny (model prog w) A (Builtin.«enumerate.__next__» ⟨[.ref (n+1)],[]⟩) (λ fin s'=>∃ v,fin=.done (.ret v)/\Q v s') E s:=by
 obtain⟨hp,g,d,tk,os⟩:=s;have Oy:n+1 < hp.objs.size:=Ñ he;show wpAny _ _ (field (.ref (n+1)) 2 >>= _) _ _ _;refine Æ (î he rfl (x:=.ref n) rfl ?_);refine Æ (bL i1 s1 hx λ h₁ XL ae=>?_);replace ae:Heap.SameBut n hp h₁:=ae;have ez:iY h₁ (n+1) n f0 f1 k jn:=ex ae (by lia) he;show wpAny _ _ (field (.ref (n+1)) 3 >>= _) _ _ ⟨h₁,g,d,tk,os⟩;refine Æ (î ez rfl (x:=rawInt k) rfl ?_);show wpAny _ _ (field (.ref (n+1)) 4 >>= _) _ _ ⟨h₁,g,d,tk,os⟩;refine Æ (î ez rfl (x:=.none) rfl ?_);show wpAny _ _ (mkInt k >>= _) _ _ ⟨h₁,g,d,tk,os⟩;refine Æ (wpAny_mkInt ?_);show wpAny _ _ (setField (.ref (n+1)) 3 (rawInt ((k:Int)+1)) >>= _) _ _ ⟨h₁,g,d,tk+1,os⟩;refine Æ (Ă ez (by simp) λ ap fb af=>?_);replace af:Heap.SameBut (n+1) h₁ ap:=af;replace fb:iY ap (n+1) n f0 f1 ((k:Int)+1) jn:=fb;show wpAny _ _ (setField (.ref (n+1)) 4 .none >>= _) _ _ ⟨ap,g,d,tk+1,os⟩;refine Æ (Ă fb (by simp) λ am fc ah=>?_);replace ah:Heap.SameBut (n+1) ap am:=ah;replace fc:iY am (n+1) n f0 f1 ((k:Int)+1) jn:=fc;show wpAny _ _ (newTuple [.int k tk,x] >>= _) _ _ ⟨am,g,d,tk+1,os⟩;refine Æ (ŗ ?_);have di:iY (am.push { cls:=.type "tuple",data:=.seq #[.int k tk,x] }) (n+1) n f0 f1 ((k:Int)+1) jn:=Í _ fc;have hsz:am.objs.size=hp.objs.size:=by rw[ah.1,af.1,ae.1]
 have fe:dJ (am.push { cls:=.type "tuple",data:=.seq #[.int k tk,x] }) am.objs.size #[.int k tk,x]:=ß _ rfl;have fq:∀ (c:Nat) o,(c < n\/n+1 < c)->hp.get? c=some o->(am.push { cls:=.type "tuple",data:=.seq #[.int k tk,x] }).get? c=some o:=λ c o hc e=>
  Í _ (ex ah (by lia) (ex af (by lia) (ex ae (by lia) e)))
 have fi:dP (am.push { cls:=.type "tuple",data:=.seq #[.int k tk,x] }) t n a (k+1):=((XL.ext af (by lia)).ext ah (by lia)).at λ o e=>Í _ e;have XM:n+1 < am.objs.size:=by rw[hsz];exact Oy
 generalize hh₄:am.push { cls:=.type "tuple",data:=.seq #[.int k tk,x] }=aq at di fe fq fi;have Hc:hp.objs.size<=am.objs.size:=ś hsz.symm;show wpAny _ _ (Builtin.SmallTypes.ownedTupleIsFree (.ref (n+1)) >>= _) _ _ ⟨aq,g,d,tk+1,os⟩;refine Æ (yC di hf ?_ ?_)
 ·simp only [if_true];refine Æ (õ ?_);refine Æ (î di rfl (x:=jn) rfl ?_);refine Æ (Ă di (by simp) λ bb dh ar=>?_);replace ar:Heap.SameBut (n+1) aq bb:=ar;replace dh:iY bb (n+1) n f0 f1 ((k:Int)+1) x:=dh;refine Æ (HR (s:=⟨bb,g,d,tk+1,os⟩) dh λ cq XN be=>?_);replace be:Heap.SameBut (n+1) bb cq:=be;refine Æ (Ħ (É ⟨_,rfl,?_⟩));exact hQ am.objs.size cq _ _ _ Hc (.inr ⟨_,rfl⟩) XN ((fi.ext ar (by lia)).ext be (by lia)) (ex be (by lia) (ex ar (by lia) fe)) λ c o hc e=>ex be (by lia) (ex ar (by lia) (fq c o hc e))
 ·intro bb dh ar;replace ar:Heap.SameBut (n+1) aq bb:=ar;simp only [ĉ,if_false];refine É ⟨_,rfl,?_⟩;exact hQ am.objs.size bb _ _ _ Hc hf dh (fi.ext ar (by lia)) (ex ar (by lia) fe) λ c o hc e=>ex ar (by lia) (fq c o hc e)
theorem IC {n a:Nat}{t:Bool}{k:Nat}{xs:Array À}{jn f0:À}{f1:Bool}{Q:Fin->Â->Prop} (hh:A.handled=none)
  (he:iY s.heap (n+1) n f0 f1 k jn) (i1:dP s.heap t n a k) (s1:bX s.heap t a xs) (hx:xs[k]? = none)
  (hE:∀ h' e,(∀ (c:Nat) o,(c < n\/n+1 < c)->s.heap.get? c=some o->h'.get? c=some o)->(∃ o,h'.get? e=some o/\o.cls=.type "StopIteration")->E (.ref e) { s with heap:=h' }) :
  wpAny (model prog w) A (Builtin.«enumerate.__next__» ⟨[.ref (n+1)],[]⟩) Q E s:=by
 show wpAny _ _ (field (.ref (n+1)) 2 >>= _) _ _ _;refine Æ (î he rfl (x:=.ref n) rfl ?_);refine Æ (dB hh i1 s1 hx λ h' e hk Hd=>hE h' e (λ c o hc q=>hk c o (show @Ne Nat c n by lia) q) Hd)
theorem pY {e it:Á}{f0:À}{f1:Bool}{i:Int}{jn:À}{Q:Option À->Â->Prop} (he:iY s.heap e it f0 f1 i jn)
  (h:wpAny (model prog w) A.in1 (Builtin.«enumerate.__next__» ⟨[.ref e],[]⟩) (λ fin s'=>∃ v,fin=.done (.ret v)/\Q (some v) s') (λ e s'=>(∃ a o,e=.ref a/\s'.heap.get? a=some o/\o.cls=.type "StopIteration")/\Q none s') s) :
  wpAny (model prog w) A (pyNext (.ref e)) Q E s:=by
 have hT:s.TypeIs (.ref e) "enumerate" := ⟨_,he,rfl⟩;unfold pyNext;refine Æ (Ō (Ĭ (name:=Str.ofString "__next__") hT F.slot_enumerate_next
  (ă F.slot_enumerate_next hT F.entry_enumerate_next (á h (λ fin s' h'=>?_) λ e s' h'=>?_) (F.args_enumerate_next_1 _))))
 ·obtain⟨v,rfl,q⟩:=h';exact⟨v,rfl,É q⟩
 ·obtain⟨⟨a,o,rfl,ho,hc⟩,q⟩:=h';exact Æ (ű (T := "StopIteration") (b:=true) ⟨o,ho,hc⟩ isSubtype_stop (É q))
theorem AA {tg:Expr}{e it T:Á}{f0:À}{f1:Bool}{i:Int}{jn:À}{Q:Unit->Â->Prop} (hf:gK f0) (hz:iY s.heap e it f0 f1 i jn)
  (hQ:∀ h' tm,gK tm->iY h' e it tm f1 i jn->Heap.SameBut e s.heap h'->Q () { s with heap:=h' }):wpAny (model prog w) A (letOwnedTupleGo tg (.ref e) (.ref T)) Q E s:=by
 have same:Q () s:=hQ s.heap f0 hf hz (af4 ..);have core:wpAny (model prog w) A (do
   let o <- load e
   match o.cls,o.data with
   | .type n,.fields vs=>
    if ["enumerate","zip","dict_itemiterator","dict_reverseitemiterator","odict_iterator","itertools.zip_longest","itertools.pairwise"].contains n && vs[0]? == some (rawInt T) then
     rule "for.unpacks-the-owned-tuple"
     updateField e 0 .none
   | _,_=>pure ()) Q E s:=by
  refine Æ (wpAny_load hz ?_);show wpAny _ _ (if (["enumerate","zip","dict_itemiterator","dict_reverseitemiterator","odict_iterator","itertools.zip_longest","itertools.pairwise"].contains "enumerate" &&
   (#[f0,.bool f1,.ref it,rawInt i,.none,jn]:Array À)[0]? == some (rawInt T))=true then _ else _) Q E s
  split
  ·refine Æ (õ ?_);show wpAny _ _ (setField (.ref e) 0 .none) Q E s;exact Ă hz (by simp) λ h' lw sr=>hQ h' .none (.inl rfl) lw sr
  ·exact É same
 unfold letOwnedTupleGo;cases tg <;> first
  | exact É same
  | exact core
theorem pZ {e it:Á}{f0:À}{f1:Bool}{i:Int}{jn:À}{Q:À->Â->Prop} (he:iY s.heap e it f0 f1 i jn) (h:Q (.ref e) s):wpAny (model prog w) A (pyIter (.ref e)) Q E s:=by
 have hT:s.TypeIs (.ref e) "enumerate" := ⟨_,he,rfl⟩;refine ag3 hT F.slot_enumerate_iter (ă F.slot_enumerate_iter hT F.entry_enumerate_iter ?_ (F.args_enumerate_iter_1 _));show wpAny _ _ (ret (.ref e)) _ _ s;exact É ⟨_,rfl,"enumerate",_,hT,F.slot_enumerate_next.lookup,h⟩
set_option tactic.hygienic true in
theorem A8 (t:Bool) (l:Á) (xs:Array À) :
  Meets (Builtin.«enumerate.__new__» ⟨[.type "enumerate",.ref l],[]⟩) (λ _ R s=>bX s.heap t l xs/\
   R (.ok (.ret (.ref (zA s.heap t l).objs.size))) { s with heap:=(zA s.heap t l).push { cls:=.type "enumerate",data:=.fields #[.none,.bool false,.ref s.heap.objs.size,rawInt 0,.none,.none] } }):=
 .of_wp λ prog w A R s h=>by
  obtain⟨hp,g,d,tk,os⟩:=s;obtain⟨hl,h⟩:=h;have mq:=sub_enumerate;have hL:bX (Shared.heap ⟨hp,g,d,tk,os⟩) t l xs:=hl
  wp_walk
  refine wpAny_stack_any λ st=>É ?_
  split
  ·rename_i c _ _ _ _ _
   cases (c == Value.type "enumerate")
   ·wp_walk using eS hL
    exact⟨_,rfl,h⟩
   ·wp_walk using eS hL
    exact⟨_,rfl,h⟩
  ·wp_walk using eS hL
   exact⟨_,rfl,h⟩
theorem EL {t:Bool}{l:Á}{xs:Array À}{Q:À->Â->Prop} (hL:bX s.heap t l xs)
  (h:∀ h',iY h' (s.heap.objs.size+1) s.heap.objs.size .none false 0 .none->dP h' t s.heap.objs.size l 0->(∀ b o,s.heap.get? b=some o->h'.get? b=some o)->Q (.ref (s.heap.objs.size+1)) { s with heap:=h' }) :
  wpAny (model prog w) A (call (.type "enumerate") [.ref l]) Q E s:=by
 refine callType_new F.called_enumerate (by decide) (F.typeCall_enumerate_1 _) (F.newCall_enumerate_1 _) (λ obj=>F.args_object_init_2 obj _) F.entry_enumerate_new (A8 t l xs) ⟨hL,?_⟩;have hz:(zA s.heap t l).objs.size=s.heap.objs.size+1:=ø ..;show _/\_;rw[hz];have he:iY ((zA s.heap t l).push { cls:=.type "enumerate",data:=.fields #[.none,.bool false,.ref s.heap.objs.size,rawInt 0,.none,.none] }) (s.heap.objs.size+1) s.heap.objs.size .none false 0 .none:=by
  have:=ß (zA s.heap t l) (o:={ cls:=.type "enumerate",data:=.fields #[.none,.bool false,.ref s.heap.objs.size,rawInt 0,.none,.none] }) rfl;rw[hz] at this;exact this
 exact⟨⟨_,he,rfl⟩,h _ he (jA (Í _ (ß _ rfl))) λ b o x=>Í _ (Í _ x)⟩
end
end TwZ
namespace L2
open PySem PySem.Spec PyProof.Rows TwZ
def kH (K:Ç) (H:Hp) (t:Bool) (a:Á) (xs:List V):Prop:=if t=true then bC K H a xs else bD K H a xs
section
variable {X:Cx}{gi:List (Á×Obj)}{σ:St}{H:Hp}{s:Â}
theorem Inv.src {t:Bool}{a:Á}{xs:List V} (I:Inv X gi σ H s) (h:kH X.K H t a xs):∃ its:List À,bO xs its/\bX s.heap t a its.toArray/\xs.length<=sizeLine:=by
 cases t with
 | true=>
  obtain⟨its,r,p,z⟩:=I.tuple h;exact⟨its,r,(show s.heap.IsTuple a its.toArray from p),z⟩
 | false=>
  obtain⟨its,r,p,z⟩:=I.list h;exact⟨its,r,p.isList,z⟩
theorem Inv.src_inj {t:Bool}{a:Á}{xs ys:List V} (I:Inv X gi σ H s) (h:kH X.K H t a xs) (h':kH X.K H t a ys):xs=ys:=by
 cases t with
 | true=>exact I.tuple_inj h h'
 | false=>exact I.list_inj h h'
theorem Inv.turnedT {fp:List Á}{h':Heap}{t':Nat}{T:Á}{xs:List V}{its:List À} (I:Inv X gi σ H s) (hf:∀ b∈fp,gQ X gi H b) (k:∀ b o,b∉fp->s.heap.get? b=some o->h'.get? b=some o)
  (hT:s.heap.objs.size<=T) (hv:bO xs its) (hz:xs.length<=sizeLine) (ht:IsTup h' T its.toArray):Inv X gi σ (upd H T (.tup xs)) { s with heap:=h',toks:=t' }:=by
 have hn:H T=none:=I.hok.fresh hT;have nT:∀ b u,H b=some u->b≠T:=λ b u e=>aH e hn;have He:∀ b u,H b=some u->b∉fp:=λ b u e hb=>by rw[(hf b hb).1] at e;cases e
 have XO:∀ b o,s.heap.get? b=some o->b≠T:=λ b o e z=>by rw[z] at e;exact absurd (í (Ñ e) hT) (ā _)
 refine I.step (g':=s.gens) (d':=s.drawn) (ch:=fp) (λ b hb=>?_) (λ b o _ _ hc e _=>k b o hc e) (λ b o _ _ hc e _=>⟨o.slots,k b o hc e⟩) (λ b o hc e n=>by rw[aJ (XO b o e)];exact n)
  (λ b o hc e=>⟨o,k b o hc e⟩) (λ b ys e=>by rw[aJ (nT b _ e)];exact e) (λ b o u e=>by rw[aJ (nT b _ e)];exact e) (λ b ps e=>⟨#[],by rw[aJ (nT b _ e),e];simp⟩) (λ m hm=>?_) (λ b u e=>?_) I.bare
 ·obtain⟨_,f1,_,f3,f4,f5⟩:=hf b hb;exact⟨f3,f1,f4,f5⟩
 ·obtain⟨o,es,ep,ho,r⟩:=hm;exact⟨o,es,ep,k _ o (λ hb=>(hf _ hb).2.1 rfl) ho,r⟩
 ·by_cases hb:b=T
  ·subst hb;rw[aB] at e;cases e;exact⟨hz,its,hv,ht⟩
  ·rw[aJ hb] at e;refine (I.hok b u e).stay (λ c v hc q=>k c v ?_ q) (λ c q=>by rw[aJ (nT c _ q)];exact q) λ c ys q=>by rw[aJ (nT c _ q)];exact q
   rcases hc with z | z
   ·rw[z];exact He b u e
   ·exact He c _ z
theorem Inv.turnedL {fp:List Á}{h':Heap}{t':Nat} (I:Inv X gi σ H s) (hf:∀ b∈fp,gQ X gi H b) (k:∀ b o,b∉fp->s.heap.get? b=some o->h'.get? b=some o):Inv X gi σ H { s with heap:=h',toks:=t' }:=by
 have He:∀ b u,H b=some u->b∉fp:=λ b u e hb=>by rw[(hf b hb).1] at e;cases e
 refine I.step (g':=s.gens) (d':=s.drawn) (ch:=fp) (λ b hb=>?_) (λ b o _ _ hc e _=>k b o hc e) (λ b o _ _ hc e _=>⟨o.slots,k b o hc e⟩) (λ b o hc e n=>n)
  (λ b o hc e=>⟨o,k b o hc e⟩) (λ b ys e=>e) (λ b o u e=>e) (λ b ps e=>⟨#[],by rw[e];simp⟩) (λ m hm=>?_) (λ b u e=>?_) I.bare
 ·obtain⟨_,f1,_,f3,f4,f5⟩:=hf b hb;exact⟨f3,f1,f4,f5⟩
 ·obtain⟨o,es,ep,ho,r⟩:=hm;exact⟨o,es,ep,k _ o (λ hb=>(hf _ hb).2.1 rfl) ho,r⟩
 ·refine (I.hok b u e).stay (λ c v hc q=>k c v ?_ q) (λ c q=>q) λ c ys q=>q;rcases hc with z | z
  ·rw[z];exact He b u e
  ·exact He c _ z
end
def O9 (K:Ç) (t1 t2 t3:Bool) (a1 a2 a3:Á):It:=
 ⟨λ i H=>∃ xs ys zs x y z,kH K H t1 a1 xs/\kH K H t2 a2 ys/\kH K H t3 a3 zs/\xs[i]? = some x/\ys[i]? = some y/\zs[i]? = some z,
  λ i H v H'=>∃ T x y z,H T=none/\v=.ref T/\(∀ xs,kH K H t1 a1 xs->xs[i]? = some x)/\(∀ xs,kH K H t2 a2 xs->xs[i]? = some y)/\(∀ xs,kH K H t3 a3 xs->xs[i]? = some z)/\H'=upd H T (.tup [x,y,z]),
  λ i H=>∃ xs ys zs,kH K H t1 a1 xs/\kH K H t2 a2 ys/\kH K H t3 a3 zs/\(xs.length<=i\/ys.length<=i\/zs.length<=i)⟩
def OF (n a1 a2 a3:Nat) (t1 t2 t3:Bool) (i:Nat) (h:Heap):Prop:=
 ∃ f0 f1 c1 c2 c3,gK f0/\nM h (n+5) (n+3) (n+4) f0 f1/\dJ h (n+3) #[.ref n,.ref (n+1),.ref (n+2)]/\dJ h (n+4) #[c1,c2,c3]/\
  dP h t1 n a1 i/\dP h t2 (n+1) a2 i/\dP h t3 (n+2) a3 i/\a1 < n/\a2 < n/\a3 < n
def AF (n:Nat) (m:Nat):List Á:=(List.range m).map λ k=>(n+k:Nat)
theorem dR {n m:Nat}{b:Á}:b∈AF n m↔∃ k,k < m/\b=n+k:=by
 unfold AF;rw[Õ];constructor
 ·rintro⟨k,hk,e⟩;exact⟨k,ć.mp hk,e.symm⟩
 ·rintro⟨k,hk,e⟩;exact⟨k,ć.mpr hk,e.symm⟩
theorem gU {n m:Nat}{b:Nat} (h:(b:Á)∉AF n m) (hm:0 < m):b < n\/n+(m - 1) < b:=by
 by_cases h1:b < n
 ·exact .inl h1
 ·by_cases h2:n+(m - 1) < b
  ·exact .inr h2
  ·exact absurd (dR.mpr ⟨b - n,by lia,by show (b:Nat)=n+(b - n);lia⟩) h
theorem CS {P:Ã}{w:World}{K:Ç}{tg:Expr} (n a1 a2 a3:Nat) (t1 t2 t3:Bool):Turn P w K tg (O9 K t1 t2 t3 a1 a2 a3) (AF n 6) (n+5) (OF n a1 a2 a3 t1 t2 t3) where
 mem:=dR.mpr ⟨5,by decide,rfl⟩
 obj:=λ i h st b hb=>by
  obtain⟨f0,f1,c1,c2,c3,hf,hz,kr,lb,i1,i2,i3,_⟩:=st;obtain⟨k,hk,rfl⟩:=dR.mp hb;have ql:k=0\/k=1\/k=2\/k=3\/k=4\/k=5:=by lia
  rcases ql with rfl | rfl | rfl | rfl | rfl | rfl
  ·exact i1.obj
  ·exact i2.obj
  ·exact i3.obj
  ·exact⟨_,kr,λ v z=>by cases z⟩
  ·exact⟨_,lb,λ v z=>by cases z⟩
  ·exact⟨_,hz,λ v z=>by cases z⟩
 keep:=λ i h h' st k=>by
  obtain⟨f0,f1,c1,c2,c3,hf,hz,kr,lb,i1,i2,i3,l⟩:=st;have m:∀ j,j < 6->((n+j:Nat):Á)∈AF n 6:=λ j hj=>dR.mpr ⟨j,hj,rfl⟩;exact⟨f0,f1,c1,c2,c3,hf,k _ (m 5 (by decide)) _ hz,k _ (m 3 (by decide)) _ kr,k _ (m 4 (by decide)) _ lb,i1.at λ o e=>k _ (m 0 (by decide)) _ e,i2.at λ o e=>k _ (m 1 (by decide)) _ e,i3.at λ o e=>k _ (m 2 (by decide)) _ e,l⟩
 item:=by
  intro X hP hw hK hc i gi s σ H E I hf st hg;subst hP hw hK;obtain⟨f0,f1,c1,c2,c3,f,hz,kr,lb,i1,i2,i3,l1,l2,l3⟩:=st;obtain⟨xs,ys,zs,x,y,z,q1,q2,q3,hx,hy,hw⟩:=hg;obtain⟨us,r1,p1,_⟩:=I.src q1;obtain⟨vs,r2,p2,_⟩:=I.src q2;obtain⟨ws,r3,p3,_⟩:=I.src q3;obtain⟨u,hu,ru⟩:=r1.get hx;obtain⟨v,hv,rv⟩:=r2.get hy;obtain⟨w',XQ,wt⟩:=r3.get hw;refine jN hz (CL f hz kr lb i1 i2 i3 p1 p2 p3 l1 l2 l3 (by simpa using hu) (by simpa using hv) (by simpa using XQ) λ T h' tm xw d1 d2 d3 hT f' lw Dr Ds Hf Oz XR Hg hk=>?_);refine⟨_,rfl,uL (s:={ s with heap:=h' }) f' lw λ xz wx Hh Dt hs=>?_⟩;replace hs:Heap.SameBut (n+5) h' xz:=hs;have Va:n+5 < T:=í (Ñ hz) hT;have yz:dJ xz T #[u,v,w']:=ex hs (by lia) Hg;have IT:Inv X gi σ (upd H T (.tup [x,y,z])) { s with heap:=xz,toks:=s.toks }:=I.turnedT (fp:=AF n 6) hf (λ b o hb e=>ex (c:=b) hs (by have:=gU (b:=b) hb (by decide);have:n+(6 - 1)=n+5:=rfl;lia) (hk b o (gU (b:=b) hb (by decide)) e)) hT (its:=[u,v,w']) (.cons ru (.cons rv (.cons wt .nil))) (by show 3<=sizeLine;decide) ⟨_,yz,rfl,_,rfl⟩;refine⟨.ref T,upd H T (.tup [x,y,z]),IT,rfl,
   ⟨T,x,y,z,I.hok.fresh hT,rfl,λ as q=>by rw[I.src_inj q q1];exact hx,λ as q=>by rw[I.src_inj q q2];exact hy,λ as q=>by rw[I.src_inj q q3];exact hw,rfl⟩,
   ⟨wx,xw,d1,d2,d3,Hh,Dt,ex hs (by lia) Dr,ex hs (by lia) Ds,Hf.ext hs (by lia),Oz.ext hs (by lia),XR.ext hs (by lia),l1,l2,l3⟩,λ b hb=>?_⟩
  ·obtain⟨j,hj,rfl⟩:=dR.mp hb;rw[aJ (show ((n+j:Nat):Á)≠T from (show @Ne Nat (n+j) T by lia))];exact (hf _ hb).1
 done:=by
  intro X hP hw hK hc i gi s σ H E I hf st hg;subst hP hw hK;obtain⟨f0,f1,c1,c2,c3,f,hz,kr,lb,i1,i2,i3,l1,l2,l3⟩:=st;obtain⟨xs,ys,zs,q1,q2,q3,ox⟩:=hg;obtain⟨us,r1,p1,_⟩:=I.src q1;obtain⟨vs,r2,p2,_⟩:=I.src q2;obtain⟨ws,r3,p3,_⟩:=I.src q3;have e1:=r1.length;have e2:=r2.length;have e3:=r3.length;refine jN hz (EZ (I.ok.hd hc) f hz kr lb i1 i2 i3 p1 p2 p3 l1 l2 l3 (by
   rcases ox with h | h | h
   ·exact .inl (by simp;lia)
   ·exact .inr (.inl (by simp;lia))
   ·exact .inr (.inr (by simp;lia))) λ h' e hk he=>?_)
  obtain⟨o,ho,mj⟩:=he;exact⟨⟨e,o,rfl,ho,mj⟩,rfl,I.turnedL (t':=s.toks) hf λ b o hb q=>hk b o (gU (b:=b) hb (by decide)) q⟩
 self:=λ _ _ _ _ _ st h=>by
  obtain⟨f0,f1,c1,c2,c3,f,hz,_⟩:=st;exact jO hz h
def OA (K:Ç) (t1 t2:Bool) (a1 a2:Á):It:=
 ⟨λ i H=>∃ xs ys x y,kH K H t1 a1 xs/\kH K H t2 a2 ys/\xs[i]? = some x/\ys[i]? = some y,
  λ i H v H'=>∃ T x y,H T=none/\v=.ref T/\(∀ xs,kH K H t1 a1 xs->xs[i]? = some x)/\(∀ xs,kH K H t2 a2 xs->xs[i]? = some y)/\H'=upd H T (.tup [x,y]),
  λ i H=>∃ xs ys,kH K H t1 a1 xs/\kH K H t2 a2 ys/\(xs.length<=i\/ys.length<=i)⟩
def OG (n a1 a2:Nat) (t1 t2:Bool) (i:Nat) (h:Heap):Prop:=
 ∃ f0 f1 c1 c2,gK f0/\nM h (n+4) (n+2) (n+3) f0 f1/\dJ h (n+2) #[.ref n,.ref (n+1)]/\dJ h (n+3) #[c1,c2]/\dP h t1 n a1 i/\dP h t2 (n+1) a2 i/\a1 < n/\a2 < n
theorem CU {P:Ã}{w:World}{K:Ç}{tg:Expr} (n a1 a2:Nat) (t1 t2:Bool):Turn P w K tg (OA K t1 t2 a1 a2) (AF n 5) (n+4) (OG n a1 a2 t1 t2) where
 mem:=dR.mpr ⟨4,by decide,rfl⟩
 obj:=λ i h st b hb=>by
  obtain⟨f0,f1,c1,c2,hf,hz,kr,lb,i1,i2,_⟩:=st;obtain⟨k,hk,rfl⟩:=dR.mp hb;have ql:k=0\/k=1\/k=2\/k=3\/k=4:=by lia
  rcases ql with rfl | rfl | rfl | rfl | rfl
  ·exact i1.obj
  ·exact i2.obj
  ·exact⟨_,kr,λ v z=>by cases z⟩
  ·exact⟨_,lb,λ v z=>by cases z⟩
  ·exact⟨_,hz,λ v z=>by cases z⟩
 keep:=λ i h h' st k=>by
  obtain⟨f0,f1,c1,c2,hf,hz,kr,lb,i1,i2,l⟩:=st;have m:∀ j,j < 5->((n+j:Nat):Á)∈AF n 5:=λ j hj=>dR.mpr ⟨j,hj,rfl⟩;exact⟨f0,f1,c1,c2,hf,k _ (m 4 (by decide)) _ hz,k _ (m 2 (by decide)) _ kr,k _ (m 3 (by decide)) _ lb,i1.at λ o e=>k _ (m 0 (by decide)) _ e,i2.at λ o e=>k _ (m 1 (by decide)) _ e,l⟩
 item:=by
  intro X hP hw hK hc i gi s σ H E I hf st hg;subst hP hw hK;obtain⟨f0,f1,c1,c2,f,hz,kr,lb,i1,i2,l1,l2⟩:=st;obtain⟨xs,ys,x,y,q1,q2,hx,hy⟩:=hg;obtain⟨us,r1,p1,_⟩:=I.src q1;obtain⟨vs,r2,p2,_⟩:=I.src q2;obtain⟨u,hu,ru⟩:=r1.get hx;obtain⟨v,hv,rv⟩:=r2.get hy;refine jN hz (CM f hz kr lb i1 i2 p1 p2 l1 l2 (by simpa using hu) (by simpa using hv) λ T h' tm xw d1 d2 hT f' lw Dr Ds Hf Oz Hg hk=>?_);refine⟨_,rfl,uL (s:={ s with heap:=h' }) f' lw λ xz wx Hh Dt hs=>?_⟩;replace hs:Heap.SameBut (n+4) h' xz:=hs;have Va:n+4 < T:=í (Ñ hz) hT;have yz:dJ xz T #[u,v]:=ex hs (by lia) Hg;have IT:Inv X gi σ (upd H T (.tup [x,y])) { s with heap:=xz,toks:=s.toks }:=I.turnedT (fp:=AF n 5) hf (λ b o hb e=>ex (c:=b) hs (by have:=gU (b:=b) hb (by decide);have:n+(5 - 1)=n+4:=rfl;lia) (hk b o (gU (b:=b) hb (by decide)) e)) hT (its:=[u,v]) (.cons ru (.cons rv .nil)) (by show 2<=sizeLine;decide) ⟨_,yz,rfl,_,rfl⟩;refine⟨.ref T,upd H T (.tup [x,y]),IT,rfl,
   ⟨T,x,y,I.hok.fresh hT,rfl,λ as q=>by rw[I.src_inj q q1];exact hx,λ as q=>by rw[I.src_inj q q2];exact hy,rfl⟩,
   ⟨wx,xw,d1,d2,Hh,Dt,ex hs (by lia) Dr,ex hs (by lia) Ds,Hf.ext hs (by lia),Oz.ext hs (by lia),l1,l2⟩,λ b hb=>?_⟩
  ·obtain⟨j,hj,rfl⟩:=dR.mp hb;rw[aJ (show ((n+j:Nat):Á)≠T from (show @Ne Nat (n+j) T by lia))];exact (hf _ hb).1
 done:=by
  intro X hP hw hK hc i gi s σ H E I hf st hg;subst hP hw hK;obtain⟨f0,f1,c1,c2,f,hz,kr,lb,i1,i2,l1,l2⟩:=st;obtain⟨xs,ys,q1,q2,ox⟩:=hg;obtain⟨us,r1,p1,_⟩:=I.src q1;obtain⟨vs,r2,p2,_⟩:=I.src q2;have e1:=r1.length;have e2:=r2.length;refine jN hz (FA (I.ok.hd hc) f hz kr lb i1 i2 p1 p2 l1 l2 (by
   rcases ox with h | h
   ·exact .inl (by simp;lia)
   ·exact .inr (by simp;lia)) λ h' e hk he=>?_)
  obtain⟨o,ho,mj⟩:=he;exact⟨⟨e,o,rfl,ho,mj⟩,rfl,I.turnedL (t':=s.toks) hf λ b o hb q=>hk b o (gU (b:=b) hb (by decide)) q⟩
 self:=λ _ _ _ _ _ st h=>by
  obtain⟨f0,f1,c1,c2,f,hz,_⟩:=st;exact jO hz h
def PY (K:Ç) (t:Bool) (a:Á):It:=
 ⟨λ i H=>∃ xs x,kH K H t a xs/\xs[i]? = some x,
  λ i H v H'=>∃ T x,H T=none/\v=.ref T/\(∀ xs,kH K H t a xs->xs[i]? = some x)/\H'=upd H T (.tup [.int i,x]),
  λ i H=>∃ xs,kH K H t a xs/\xs.length<=i⟩
def tne (n a:Nat) (t:Bool) (i:Nat) (h:Heap):Prop:=∃ f0 f1 jn,gK f0/\iY h (n+1) n f0 f1 i jn/\dP h t n a i/\a < n
theorem CW {P:Ã}{w:World}{K:Ç}{tg:Expr} (n a:Nat) (t:Bool):Turn P w K tg (PY K t a) (AF n 2) (n+1) (tne n a t) where
 mem:=dR.mpr ⟨1,by decide,rfl⟩
 obj:=λ i h st b hb=>by
  obtain⟨f0,f1,jn,hf,he,i1,_⟩:=st;obtain⟨k,hk,rfl⟩:=dR.mp hb;have ql:k=0\/k=1:=by lia
  rcases ql with rfl | rfl
  ·exact i1.obj
  ·exact⟨_,he,λ v z=>by cases z⟩
 keep:=λ i h h' st k=>by
  obtain⟨f0,f1,jn,hf,he,i1,l⟩:=st;have m:∀ j,j < 2->((n+j:Nat):Á)∈AF n 2:=λ j hj=>dR.mpr ⟨j,hj,rfl⟩;exact⟨f0,f1,jn,hf,k _ (m 1 (by decide)) _ he,i1.at λ o e=>k _ (m 0 (by decide)) _ e,l⟩
 item:=by
  intro X hP hw hK hc i gi s σ H E I hf st hg;subst hP hw hK;obtain⟨f0,f1,jn,f,he,i1,l1⟩:=st;obtain⟨xs,x,q1,hx⟩:=hg;obtain⟨us,r1,p1,_⟩:=I.src q1;obtain⟨u,hu,ru⟩:=r1.get hx;refine pY he (E7 f he i1 p1 l1 (by simpa using hu) λ T h' tm xw Bd hT f' Hd Hf Hg hk=>?_);refine⟨_,rfl,AA (s:={ s with heap:=h',toks:=s.toks+1 }) f' Hd λ xz wx Hh Pa hs=>?_⟩;replace hs:Heap.SameBut (n+1) h' xz:=hs;have Va:n+1 < T:=í (Ñ he) hT;have yz:dJ xz T #[.int i s.toks,u]:=ex hs (by lia) Hg;have IT:Inv X gi σ (upd H T (.tup [.int i,x])) { s with heap:=xz,toks:=s.toks+1 }:=I.turnedT (fp:=AF n 2) hf (λ b o hb e=>ex (c:=b) hs (by have:=gU (b:=b) hb (by decide);have:n+(2 - 1)=n+1:=rfl;lia) (hk b o (gU (b:=b) hb (by decide)) e)) hT (its:=[.int i s.toks,u]) (.cons ⟨_,rfl⟩ (.cons ru .nil)) (by show 2<=sizeLine;decide) ⟨_,yz,rfl,_,rfl⟩;have XS:iY xz (n+1) n wx xw ((i+1:Nat):Int) Bd:=by
   have:((i+1:Nat):Int)=(i:Int)+1:=by push_cast;rfl
   rw[this];exact Pa
  refine⟨.ref T,upd H T (.tup [.int i,x]),IT,rfl,⟨T,x,I.hok.fresh hT,rfl,λ as q=>by rw[I.src_inj q q1];exact hx,rfl⟩,⟨wx,xw,Bd,Hh,XS,Hf.ext hs (by lia),l1⟩,λ b hb=>?_⟩
  ·obtain⟨j,hj,rfl⟩:=dR.mp hb;rw[aJ (show ((n+j:Nat):Á)≠T from (show @Ne Nat (n+j) T by lia))];exact (hf _ hb).1
 done:=by
  intro X hP hw hK hc i gi s σ H E I hf st hg;subst hP hw hK;obtain⟨f0,f1,jn,f,he,i1,l1⟩:=st;obtain⟨xs,q1,ox⟩:=hg;obtain⟨us,r1,p1,_⟩:=I.src q1;have e1:=r1.length;refine pY he (IC (I.ok.hd hc) he i1 p1 (by simp;lia) λ h' e hk he=>?_);obtain⟨o,ho,mj⟩:=he;exact⟨⟨e,o,rfl,ho,mj⟩,rfl,I.turnedL (t':=s.toks) hf λ b o hb q=>hk b o (gU (b:=b) hb (by decide)) q⟩
 self:=λ _ _ _ _ _ st h=>by
  obtain⟨f0,f1,jn,f,he,_⟩:=st;exact pZ he h
section
variable {X:Cx}{tg:Expr}
theorem zB:bootBuiltins "zip" = some (.type "zip"):=by decide +kernel
theorem EO:bootBuiltins "enumerate" = some (.type "enumerate"):=by decide +kernel
def M5 (K:Ç) (ta:TA):TI:=λ σ H R=>ta σ H λ vs H1=>∃ t1 t2 a1 a2,vs=[.ref a1,.ref a2]/\(∃ xs,kH K H1 t1 a1 xs)/\(∃ xs,kH K H1 t2 a2 xs)/\R (OA K t1 t2 a1 a2) H1
def M4 (K:Ç) (ta:TA):TI:=λ σ H R=>ta σ H λ vs H1=>∃ t1 t2 t3 a1 a2 a3,vs=[.ref a1,.ref a2,.ref a3]/\(∃ xs,kH K H1 t1 a1 xs)/\(∃ xs,kH K H1 t2 a2 xs)/\(∃ xs,kH K H1 t3 a3 xs)/\R (O9 K t1 t2 t3 a1 a2 a3) H1
def M7 (K:Ç) (ta:TA):TI:=λ σ H R=>ta σ H λ vs H1=>∃ t a,vs=[.ref a]/\(∃ xs,kH K H1 t a xs)/\R (PY K t a) H1
theorem K4 {a:Expr}{ta:TA}{p pos:Pos} (hg:Gl X "enumerate") (hm:X.mg "enumerate" = none) (ha:PA X [a] ta) (hs:starEach [a] X.env=[(false,eval a X.env)]:=by with_unfolding_all rfl):PI X tg (.Call (.Name "enumerate" p) [a] [] pos) (M7 X.K ta):=by
 intro gi s σ H R I h;refine Call_ (nB I hg hm EO (š (cY (ha pos gi s σ H _ I h) λ us s1 ⟨vs,H1,I1,r1,q1⟩=>?_) hs rfl));obtain⟨t,a1,e,⟨xs,hq⟩,q⟩:=q1;subst e;cases r1 with
 | cons r rr=>
  cases rr;cases r;obtain⟨its,rv,p,hz⟩:=I1.src hq;refine EL p λ h' he i1 hk=>?_;refine pZ (s:={ s1 with heap:=h' }) he ?_;refine⟨_,AF s1.heap.objs.size 2,tne s1.heap.objs.size a1 t,_,H1,rfl,I1.kept (t':=s1.toks) hk,CW _ _ _,⟨.none,false,.none,.inl rfl,he,i1,p.lt⟩,λ b hb=>?_,q⟩;obtain⟨k,_,rfl⟩:=dR.mp hb;exact I1.fpOk (Ň _ _) (I1.hok.fresh (Ň _ _))
theorem K2 {a b:Expr}{ta:TA}{p pos:Pos} (hg:Gl X "zip") (hm:X.mg "zip" = none) (ha:PA X [a,b] ta) (hs:starEach [a,b] X.env=[(false,eval a X.env),(false,eval b X.env)]:=by with_unfolding_all rfl) (ur:starEach [b] X.env=[(false,eval b X.env)]:=by with_unfolding_all rfl) :
  PI X tg (.Call (.Name "zip" p) [a,b] [] pos) (M5 X.K ta):=by
 intro gi s σ H R I h;refine Call_ (nB I hg hm zB (š (cY (ha pos gi s σ H _ I h) λ us s1 ⟨vs,H1,I1,r1,q1⟩=>?_) (by rw[hs,ur]) (by rw[ur];rfl)));obtain⟨t1,t2,a1,a2,e,⟨xs,za⟩,⟨ys,zb⟩,q⟩:=q1;subst e;cases r1 with
 | cons r rr=>
  cases rr with
  | cons r' rr=>
   cases rr;cases r;cases r';obtain⟨its,rv,p1,hz⟩:=I1.src za;obtain⟨ux,XT,p2,Be⟩:=I1.src zb;refine ED p1 p2 λ h' lw kr lb i1 i2 hk=>?_;refine jO (s:={ s1 with heap:=h' }) lw ?_;refine⟨_,AF s1.heap.objs.size 5,OG s1.heap.objs.size a1 a2 t1 t2,_,H1,rfl,I1.kept (t':=s1.toks) hk,CU _ _ _ _ _,⟨.none,false,_,_,.inl rfl,lw,kr,lb,i1,i2,p1.lt,p2.lt⟩,λ b hb=>?_,q⟩;obtain⟨k,_,rfl⟩:=dR.mp hb;exact I1.fpOk (Ň _ _) (I1.hok.fresh (Ň _ _))
theorem K1 {a b c:Expr}{ta:TA}{p pos:Pos} (hg:Gl X "zip") (hm:X.mg "zip" = none) (ha:PA X [a,b,c] ta) (hs:starEach [a,b,c] X.env=[(false,eval a X.env),(false,eval b X.env),(false,eval c X.env)]:=by with_unfolding_all rfl)
  (ur:starEach [b,c] X.env=[(false,eval b X.env),(false,eval c X.env)]:=by with_unfolding_all rfl) :
  PI X tg (.Call (.Name "zip" p) [a,b,c] [] pos) (M4 X.K ta):=by
 intro gi s σ H R I h;refine Call_ (nB I hg hm zB (š (cY (ha pos gi s σ H _ I h) λ us s1 ⟨vs,H1,I1,r1,q1⟩=>?_) (by rw[hs,ur]) (by rw[ur];rfl)));obtain⟨t1,t2,t3,a1,a2,a3,e,⟨xs,za⟩,⟨ys,zb⟩,⟨zs,Fq⟩,q⟩:=q1;subst e;cases r1 with
 | cons r rr=>
  cases rr with
  | cons r' rr=>
   cases rr with
   | cons XU rr=>
    cases rr;cases r;cases r';cases XU;obtain⟨its,rv,p1,hz⟩:=I1.src za;obtain⟨ux,XT,p2,Be⟩:=I1.src zb;obtain⟨XV,rv3,p3,hz3⟩:=I1.src Fq;refine EC p1 p2 p3 λ h' lw kr lb i1 i2 i3 hk=>?_;refine jO (s:={ s1 with heap:=h' }) lw ?_;refine⟨_,AF s1.heap.objs.size 6,OF s1.heap.objs.size a1 a2 a3 t1 t2 t3,_,H1,rfl,I1.kept (t':=s1.toks) hk,CS _ _ _ _ _ _ _,⟨.none,false,_,_,_,.inl rfl,lw,kr,lb,i1,i2,i3,p1.lt,p2.lt,p3.lt⟩,λ b hb=>?_,q⟩;obtain⟨k,_,rfl⟩:=dR.mp hb;exact I1.fpOk (Ň _ _) (I1.hok.fresh (Ň _ _))
end
section
variable {prog:Ã}{A:Around}{E:À->Â->Prop}{s:Â}{l:Á}{xs:Array (Int×Tok)}
theorem zO {Q:À->Â->Prop} (hh:A.handled=none) (hl:s.heap.IsTuple l (intItems xs))
  (h:∀ h' tk t',(∀ b o,s.heap.get? b=some o->h'.get? b=some o)->Q (.int (preSum (numAt xs) xs.size) t') { s with heap:=h',toks:=tk }) :
  wpAny (model prog w) A (call (.builtin "sum") [.ref l]) Q E s:=by
 have jk:l < s.heap.objs.size:=by obtain⟨_,e,_⟩:=hl;exact Ñ e
 refine call_sum_walkG (afk hl ?_);refine⟨_,_,_,_,_,_,numAt xs,rfl,Walks.tuple (A:=A.in1) hh _ l (Þ jk) (intItems xs),⟨⟨_,ß _ rfl,rfl,rfl⟩,hl.push _⟩,λ b hb=>?_,(λ _ _=>intItems_at),λ h' tk t' hk=>?_⟩
 ·show b < (s.heap.push _).objs.size;rw[ø];rcases Ý.mp hb with rfl | hb
  ·exact Nat.lt_succ_self _
  ·rcases Ý.mp hb with rfl | hb
   ·exact Ļ jk
   ·cases hb
 ·have:=h h' tk t' (λ b o e=>hk b o (λ hm=>by rw[é.mp hm] at e;exact ā _ (Ñ e)) (Í _ e));simpa [intItems] using this
theorem zP {t:Bool}{vs:List À}{ns:List Int}{Q:À->Â->Prop} (hh:A.handled=none) (hl:bX s.heap t l vs.toArray) (hi:IntsAre vs ns)
  (h:∀ h' tk t',(∀ b o,s.heap.get? b=some o->h'.get? b=some o)->Q (.int ns.sum t') { s with heap:=h',toks:=tk }) :
  wpAny (model prog w) A (call (.builtin "sum") [.ref l]) Q E s:=by
 obtain⟨xs,hx⟩:=hi.allInts.items;have hn:numsOf vs.toArray.toList=ns:=by rw[show vs.toArray.toList=vs from rfl,hi.numsOf]
 rw[hx] at hl hn;rw[nums_intItems] at hn;have e:preSum (numAt xs) xs.size=ns.sum:=by rw[preSum_eq,Ġ (by simp),hn]
 cases t with
 | true=>exact zO hh hl λ h' tk t' hk=>by rw[e];exact h h' tk t' hk
 | false=>exact sum_intListG hh hl λ h' tk t' hk=>by rw[e];exact h h' tk t' hk
theorem LC {t:Bool}{vs:List À}{bs:List Bool}{Q:À->Â->Prop} (hh:A.handled=none) (hl:bX s.heap t l vs.toArray) (hb:bO (bs.map V.bl) vs)
  (h:∀ h' tk,(∀ b o,s.heap.get? b=some o->h'.get? b=some o)->Q (.bool (bs.all id)) { s with heap:=h',toks:=tk }):wpAny (model prog w) A (call (.builtin "all") [.ref l]) Q E s:=by
 have jk:l < s.heap.objs.size:=hl.lt;have gy:=hb.length;rw[Ê] at gy;have key:∀ (P:Nat->À->Prop),(∀ i v,P i v->vs[i]? = some v)->TruthOf prog w A.in1 P (λ i=>(bs[i]?).getD true):=λ P hP i v s' Q' E' hp hQ=>by
  have hv:=hP i v hp;have hi:i < vs.length:=(Ò.mp hv).1;have jq:(bs.map V.bl)[i]? = some (V.bl bs[i]):=by simp [show i < bs.length by lia]
  obtain⟨u,hu,ru⟩:=hb.get jq;rw[hv] at hu;cases hu;cases ru;have e:(bs[i]?).getD true=bs[i]:=by simp [show i < bs.length by lia]
  have Vb:Q' ((bs[i]?).getD true) s':=hQ;rw[e] at Vb;exact Ń Vb
 have rng:((List.range vs.toArray.size).all λ i=>(bs[i]?).getD true)=bs.all id:=by
  rw[ê,<- gy,Ŀ,Č,Č];constructor
  ·intro hq b jq;obtain⟨i,hi,rfl⟩:=List.getElem_of_mem jq;have:=hq i (ć.mpr hi);simpa [hi] using this
  ·intro hq i hi;have md:=ć.mp hi;have:=hq bs[i] (ĳ md);simpa [md] using this
 have kept:∀ {h':Heap}{o:Obj},(∀ b x,b∉[s.heap.objs.size]->(s.heap.push o).get? b=some x->h'.get? b=some x)->∀ b x,s.heap.get? b=some x->h'.get? b=some x:=λ hk b x e=>
  hk b x (λ hm=>by rw[é.mp hm] at e;exact ā _ (Ñ e)) (Í _ e)
 cases t with
 | true=>
  refine call_all_walk (afk hl ?_);refine⟨s.heap.objs.size,[s.heap.objs.size,l],[s.heap.objs.size],vs.toArray.size,_,_,λ i=>(bs[i]?).getD true,rfl,Walks.tuple (A:=A.in1) hh _ l (Þ jk) vs.toArray,
   ⟨⟨_,ß _ rfl,rfl,rfl⟩,Heap.IsTuple.push hl _⟩,key _ (λ i v hp=>by simpa using hp),λ h' tk hk=>?_⟩
  rw[rng];exact h h' tk (kept hk)
 | false=>
  refine call_all_walk (ag0 hl ?_);refine⟨s.heap.objs.size,[s.heap.objs.size,l],[s.heap.objs.size],vs.toArray.size,_,_,λ i=>(bs[i]?).getD true,rfl,Walks.list (A:=A.in1) hh _ l (Þ jk) vs.toArray,
   ⟨⟨_,ß _ rfl,rfl,rfl⟩,Heap.IsList.push hl _⟩,key _ (λ i v hp=>by simpa using hp),λ h' tk hk=>?_⟩
  rw[rng];exact h h' tk (kept hk)
end
section
variable {X:Cx}
def OQ (K:Ç):List V->Hp->VK->Prop:=λ xs H Q=>∃ (t:Bool) (p:Á) (ns:List Int),xs=[.ref p]/\kH K H t p (ns.map V.int)/\Q (.int ns.sum) H
theorem EF (hc:X.calm=true):dZ X (.builtin "sum") (OQ X.K):=by
 intro gi s σ H xs us Q I r h;obtain⟨t,p,ns,rfl,hq,q⟩:=h;obtain⟨u,rfl,ru⟩:=r.one;cases ru;obtain⟨its,rv,p1,hz⟩:=I.src hq;refine zP (I.ok.hd hc) p1 (sQ rv) λ h' tk t' hk=>⟨.int ns.sum,H,I.kept hk,⟨t',rfl⟩,q⟩
def OX (K:Ç):List V->Hp->VK->Prop:=λ xs H Q=>∃ (t:Bool) (p:Á) (bs:List Bool),xs=[.ref p]/\kH K H t p (bs.map V.bl)/\Q (.bl (bs.all id)) H
theorem EN (hc:X.calm=true):dZ X (.builtin "all") (OX X.K):=by
 intro gi s σ H xs us Q I r h;obtain⟨t,p,bs,rfl,hq,q⟩:=h;obtain⟨u,rfl,ru⟩:=r.one;cases ru;obtain⟨its,rv,p1,hz⟩:=I.src hq;refine LC (I.ok.hd hc) p1 rv λ h' tk hk=>⟨.bl (bs.all id),H,I.kept hk,rfl,q⟩
def TyS (K:Ç) (H:Hp) (x:V) (t:À):Prop:=TyOf K H x t\/∃ a ys,x=.ref a/\bC K H a ys/\t=.type "tuple"
def OW (K:Ç):List V->Hp->VK->Prop:=λ xs H Q=>∃ x T t b,xs=[x,.ty T]/\TyS K H x t/\PySem.W.kitOne K t (.type T)=some b/\Q (.bl b) H
theorem IQ:dZ X (.builtin "isinstance") (OW X.K):=by
 intro gi s σ H xs us Q I r h;obtain⟨x,T,t,b,rfl,ty,e,q⟩:=h;obtain⟨u,v,rfl,ru,rv⟩:=r.two;cases rv;rcases ty with ty | ⟨a,ys,rfl,hq,rfl⟩
 ·exact DV I ru ty e λ tk=>⟨.bl b,H,I.tok tk,rfl,q⟩
 ·cases (show u=Value.ref a from ru);obtain⟨its,rv',⟨o,h1,h2,_⟩,_⟩:=I.tuple hq;exact Ė PySem.W.kitx_tuple I.kIn ⟨o,h1,h2⟩ e (λ z=>nomatch z) λ tk=>⟨.bl b,H,I.tok tk,rfl,q⟩
end
theorem j8:fillsNumberSlot (.type "tuple") "mul" = pure false:=
 PySem.fillsNumberSlot_seq (id := "tuple.__mul__") (r:=some (.builtin "tuple.__rmul__")) F.slot_tuple_mul.lookup (by decide +kernel) F.slot_tuple_rmul.lookup (by decide +kernel)
theorem o7:seqRepeat? (.type "tuple")=pure (some (.builtin "tuple.__mul__")):=by
 unfold seqRepeat?;rw[PySem.seqSlot_of (T := "tuple") (name := "__mul__") (id := "tuple.__mul__") F.slot_tuple_mul.lookup (by decide +kernel),PySem.seqSlot_of (T := "tuple") (name := "__rmul__") (id := "tuple.__rmul__") F.slot_tuple_rmul.lookup (by decide +kernel)];rfl
theorem lD (a:Int) (t:Tok) (l:Á) (items:Array À) (n:Nat) (dd:Option Á) (sl:Array (Option À)) :
  Meets (Builtin.«int.__rmul__» ⟨[.int a t,.ref l],[]⟩) (λ _ R s=>s.heap.get? l=some { cls:=.type "tuple",dict:=dd,data:=.seq items n,slots:=sl }/\R (.ok (.ret Value.notImplemented)) s):=
 .of_wp λ prog w A R s h=>by obtain⟨hp,g,d,tk,os⟩:=s;obtain⟨hl,h⟩:=h;wp_walk;exact⟨_,rfl,h⟩
theorem tM (l:Á) (items:Array À) (n:Nat) (u:Tok) (dd:Option Á) (sl:Array (Option À)) :
  Meets (Builtin.«tuple.__mul__» ⟨[.ref l,.int 1 u],[]⟩) (λ _ R s=>s.heap.get? l=some { cls:=.type "tuple",dict:=dd,data:=.seq items n,slots:=sl }/\R (.ok (.ret (.ref l))) s):=
 .of_wp λ prog w A R s h=>by
  obtain⟨hp,g,d,tk,os⟩:=s;obtain⟨hl,h⟩:=h;have c1:(items.isEmpty || (1:Int) == 1)=true:=by simp
  wp_walk
  exact⟨_,rfl,h⟩
theorem rC (l:Á) (items:Array À) (n:Nat) (x:Int) (u:Tok) (dd:Option Á) (sl:Array (Option À)) (c0:¬ (decide (x < -(2 ^ 63)) || decide (x ≥ 2 ^ 63))=true) (c1:¬ (items.isEmpty || x == 1)=true)
  (c2:¬ (decide (x<=0) || items.isEmpty)=true) (c3:¬ (items.size:Int) * x > (2 ^ 63 - 1) / 8) (c4:¬ Builtin.Tuple.tupleTooMany ((items.size:Int) * x)=true) (hsz:(List.foldl (λ x1 x2=>x1++x2) #[] (List.replicate x.toNat items)).size<=sizeLine) :
  Meets (Builtin.«tuple.__mul__» ⟨[.ref l,.int x u],[]⟩) (λ _ R s=>s.heap.get? l=some { cls:=.type "tuple",dict:=dd,data:=.seq items n,slots:=sl }/\
   R (.ok (.ret (.ref s.heap.objs.size))) { s with heap:=s.heap.push { cls:=.type "tuple",data:=.seq (List.foldl (λ x1 x2=>x1++x2) #[] (List.replicate x.toNat items)) } }):=
 .of_wp λ prog w A R s h=>by
  obtain⟨hp,g,d,tk,os⟩:=s;obtain⟨hl,h⟩:=h
  wp_walk
  rw[Ä c0]
  wp_walk
  all_goals (try rw[Ä c1])
  wp_walk
  all_goals (try rw[Ä c2])
  wp_walk
  all_goals (try rw[Ä c3])
  wp_walk
  all_goals (try rw[Ä c4])
  wp_walk
  exact⟨_,rfl,h⟩
theorem aE.tup {K:Ç}{H H':Hp}{a:Á}{xs:List V} (e:aE H H') (h:bC K H a xs):bC K H' a xs:=by
 rcases h with (h | ⟨o,h⟩) | h
 ·exact .inl (.inl (e _ _ h))
 ·exact .inl (.inr ⟨o,e _ _ h⟩)
 ·exact .inr h
theorem aE.new {H:Hp}{p:Á}{o:HO} (h:H p=none):aE H (upd H p o):=λ b u e=>by rw[aJ (aH e h)];exact e
def È:=@aE.new
section
variable {X:Cx}
def LR (K:Ç):R2:=λ x y H Q=>∃ (l:Á) (k:Int) (xs:List V),x=.ref l/\y=.int k/\bC K H l xs/\1<=k/\k < 1000000/\xs≠[]/\xs.length<=10/\
 ∀ p H',aE H H'->bC K H' p (List.replicate k.toNat xs).flatten->Q (.ref p) H'
theorem BD:jJ X (binaryOp .Mult) (LR X.K):=by
 intro gi s σ H x y v u Q I rx ry h;obtain⟨l,k,xs,rfl,rfl,hq,h1,h2,vb,Hi,q⟩:=h;cases rx;obtain⟨t,rfl⟩:=ry;obtain⟨its,r,ht,z⟩:=I.tuple hq;have gy:=r.length;obtain⟨⟨cls,dd,data,sl⟩,e,hc,n,hd⟩:=id ht;simp only at hc hd;subst hc hd;refine afa (T := "tuple") (U := "int") (by decide) ⟨_,e,rfl⟩ (λ s'=>İ s' k t) j8 F.fills_int_mul ŕ o7 F.slot_int_index.lookup
  (ħ ŕ (İ s k t) ahj (ag2 _ _) (lD k t l its.toArray n dd sl) ⟨e,rfl,⟨_,e,rfl⟩,?_⟩)
 by_cases hk:k=1
 ·subst hk;refine ħ ahk ⟨_,e,rfl⟩ ag4 (agv _ _) (tM l its.toArray n t dd sl) ⟨e,?_⟩;refine⟨.ref l,H,I,rfl,q l H (aE.refl H) ?_⟩;have e1:(List.replicate (1:Int).toNat xs).flatten=xs:=by simp
  rw[e1];exact hq
 ·have Du:its≠[]:=λ z=>by rw[z] at gy;exact vb (aga gy)
  have f0:List.foldl (λ x1 x2=>x1++x2) #[] (List.replicate k.toNat its.toArray)=(List.replicate k.toNat its).flatten.toArray:=by
   have:=pK its k.toNat [];rw[agl] at this;exact this
  have Bf:its.toArray.isEmpty=false:=by cases its with
   | nil=>exact absurd rfl Du
   | cons a r=>rfl
  have Hj:k.toNat * its.length<=sizeLine:=by
   have a1:its.length<=10:=by lia
   have a2:k.toNat<=1000000:=by lia
   have:=Nat.mul_le_mul a2 a1;rw[Ď];lia
  have Vc:((its.toArray.size:Nat):Int) * k<=16777216:=by
   have a1:((its.toArray.size:Nat):Int)<=10:=by rw[ê];lia
   have:=Int.mul_le_mul a1 (show k<=1000000 by lia) (by lia) (by lia);lia
  refine ħ ahk ⟨_,e,rfl⟩ ag4 (agv _ _) (rC l its.toArray n k t dd sl (by simp;lia) (by rw[Bf];simp;exact hk) (by rw[Bf];simp;lia) (by lia) (by
    unfold Builtin.Tuple.tupleTooMany;rw[decide_eq_true_iff];rw[Ď];lia) (by rw[f0,ê,wM];exact Hj)) ⟨e,?_⟩
  have I1:=I.laid (a:=s.heap.objs.size) (o:=.tup (List.replicate k.toNat xs).flatten) (h':=s.heap.push { cls:=.type "tuple",data:=.seq (List.foldl (λ x1 x2=>x1++x2) #[] (List.replicate k.toNat its.toArray)) }) (t':=s.toks)
   (λ _ _ q=>Í _ q) (Î _) ⟨by rw[wM,gy];exact Hj,(List.replicate k.toNat its).flatten,r.rep k.toNat,⟨_,ß _ rfl,rfl,0,by simp only [f0]⟩⟩
  exact⟨.ref _,_,I1,rfl,q _ _ (È I.fresh) (Ì aB)⟩
end
inductive D where
 | non | bl (b:Bool) | int (i:Int) | str (x:Str) | tup (ds:List D)
mutual
def Is (K:Ç) (H:Hp):D->V->Prop
 | .non,v=>v=.non
 | .bl b,v=>v=.bl b
 | .int i,v=>v=.int i
 | .str x,v=>v=.str x
 | .tup ds,v=>∃ a xs,v=.ref a/\bC K H a xs/\IsL K H ds xs
def IsL (K:Ç) (H:Hp):List D->List V->Prop
 | [],xs=>xs=[]
 | d::ds,xs=>∃ x r,xs=x::r/\Is K H d x/\IsL K H ds r
end
def bJ (K:Ç) (H H':Hp):Prop:=∀ a xs,bC K H a xs->bC K H' a xs
theorem bJ.refl {K:Ç} (H:Hp):bJ K H H:=λ _ _ h=>h
def Ł:=@bJ.refl
theorem bJ.trans {K:Ç}{H H1 H2:Hp} (a:bJ K H H1) (b:bJ K H1 H2):bJ K H H2:=λ c xs h=>b c xs (a c xs h)
theorem aE.ts {K:Ç}{H H':Hp} (e:aE H H'):bJ K H H':=λ _ _ h=>e.tup h
mutual
theorem Is.mono {K:Ç}{H H':Hp} (t:bJ K H H'):∀ (d:D) (v:V),Is K H d v->Is K H' d v
 | .non,_,h=>h
 | .bl _,_,h=>h
 | .int _,_,h=>h
 | .str _,_,h=>h
 | .tup ds,v,h=>by
  rw[Is] at h ⊢;obtain⟨a,xs,e,q,l⟩:=h;exact⟨a,xs,e,t a xs q,IsL.mono t ds xs l⟩
theorem IsL.mono {K:Ç}{H H':Hp} (t:bJ K H H'):∀ (ds:List D) (xs:List V),IsL K H ds xs->IsL K H' ds xs
 | [],xs,h=>h
 | d::ds,xs,h=>by
  rw[IsL] at h ⊢;obtain⟨x,r,e,hx,hr⟩:=h;exact⟨x,r,e,Is.mono t d x hx,IsL.mono t ds r hr⟩
end
def Ï:=@Is.mono
def Ö:=@IsL.mono
theorem IsL.length {K:Ç}{H:Hp}:∀ {ds:List D}{xs:List V},IsL K H ds xs->xs.length=ds.length
 | [],xs,h=>by rw[IsL] at h;subst h;rfl
 | d::ds,xs,h=>by
  rw[IsL] at h;obtain⟨x,r,rfl,_,hr⟩:=h;rw[ë,ë,IsL.length hr]
theorem IsL.get {K:Ç}{H:Hp}:∀ {ds:List D}{xs:List V}{i:Nat}{d:D},IsL K H ds xs->ds[i]? = some d->∃ x,xs[i]? = some x/\Is K H d x
 | [],_,_,_,_,e=>by simp at e
 | d::ds,xs,0,d',h,e=>by
  rw[IsL] at h;obtain⟨x,r,rfl,hx,hr⟩:=h;simp at e;subst e;exact⟨x,rfl,hx⟩
 | d::ds,xs,i+1,d',h,e=>by
  rw[IsL] at h;obtain⟨x,r,rfl,hx,hr⟩:=h;obtain⟨y,h1,h2⟩:=IsL.get hr (i:=i) (by simpa using e);exact⟨y,by simpa using h1,h2⟩
theorem IsL.get' {K:Ç}{H:Hp}{ds:List D}{xs:List V}{i:Nat}{x:V} (h:IsL K H ds xs) (e:xs[i]? = some x):∃ d,ds[i]? = some d/\Is K H d x:=by
 have hl:=h.length;have hi:i < ds.length:=by rw[<- hl];exact (Ò.mp e).1
 obtain⟨y,h1,h2⟩:=h.get (i:=i) (d:=ds[i]) (by simp [hi]);rw[e] at h1;cases h1;exact⟨ds[i],by simp [hi],h2⟩
theorem IsL.snoc {K:Ç}{H:Hp}{d:D}{x:V} (hd:Is K H d x):∀ {ds:List D}{xs:List V},IsL K H ds xs->IsL K H (ds++[d]) (xs++[x])
 | [],xs,h=>by
  rw[IsL] at h;subst h;show IsL K H [d] [x];rw[IsL];exact⟨x,[],rfl,hd,by rw[IsL]⟩
 | d'::ds,xs,h=>by
  rw[IsL] at h;obtain⟨y,r,rfl,hy,hr⟩:=h;show IsL K H (d'::(ds++[d])) (y::(r++[x]));rw[IsL];exact⟨y,r++[x],rfl,hy,IsL.snoc hd hr⟩
def ė:=@IsL.snoc
theorem IsL.ints {K:Ç}{H:Hp}:∀ {ns:List Int}{xs:List V},IsL K H (ns.map D.int) xs->xs=ns.map V.int
 | [],xs,h=>by rw[û,IsL] at h;exact h
 | n::ns,xs,h=>by
  rw[ã,IsL] at h;obtain⟨x,r,rfl,hx,hr⟩:=h;rw[Is] at hx;rw[hx,IsL.ints hr,ã]
theorem IsL.of_ints {K:Ç}{H:Hp}:∀ (ns:List Int),IsL K H (ns.map D.int) (ns.map V.int)
 | []=>by rw[û,û,IsL]
 | n::ns=>by
  rw[ã,ã,IsL];exact⟨_,_,rfl,by rw[Is],IsL.of_ints ns⟩
theorem IsL.bools {K:Ç}{H:Hp}:∀ {ns:List Bool}{xs:List V},IsL K H (ns.map D.bl) xs->xs=ns.map V.bl
 | [],xs,h=>by rw[û,IsL] at h;exact h
 | n::ns,xs,h=>by
  rw[ã,IsL] at h;obtain⟨x,r,rfl,hx,hr⟩:=h;rw[Is] at hx;rw[hx,IsL.bools hr,ã]
theorem IsL.of_bools {K:Ç}{H:Hp}:∀ (ns:List Bool),IsL K H (ns.map D.bl) (ns.map V.bl)
 | []=>by rw[û,û,IsL]
 | n::ns=>by
  rw[ã,ã,IsL];exact⟨_,_,rfl,by rw[Is],IsL.of_bools ns⟩
mutual
def D.depth:D->Nat
 | .tup ds=>bV ds+1
 | _=>0
def bV:List D->Nat
 | []=>0
 | d::ds=>max d.depth (bV ds)
end
section
variable {X:Cx}{gi:List (Á×Obj)}{σ:St}{H:Hp}{s:Â}
mutual
theorem Is.eqAt (I:Inv X gi σ H s):∀ (d:D) (A:Around) (x y:V) (u v:À),A.units+d.depth < cLine->Is X.K H d x->Is X.K H d y->bE x u->bE y v->SeqAt.EqAt A s u v true
 | .non,A,x,y,u,v,_,hx,hy,rx,ry=>by
  rw[Is] at hx hy;subst hx hy;cases rx;cases ry;exact ň _
 | .bl b,A,x,y,u,v,_,hx,hy,rx,ry=>by
  rw[Is] at hx hy;subst hx hy;cases rx;cases ry;exact ň _
 | .int i,A,x,y,u,v,_,hx,hy,rx,ry=>by
  rw[Is] at hx hy;subst hx hy;obtain⟨t,rfl⟩:=rx;obtain⟨t',rfl⟩:=ry;have:=afm (A:=A) (s:=s) i t i t';simpa using this
 | .str z,A,x,y,u,v,_,hx,hy,rx,ry=>by
  rw[Is] at hx hy;subst hx hy;obtain⟨t,rfl⟩:=rx;obtain⟨t',rfl⟩:=ry;have:=SeqAt.EqAt.str_str (A:=A) (s:=s) z t z t';simpa using this
 | .tup ds,A,x,y,u,v,hu,hx,hy,rx,ry=>by
  rw[Is] at hx hy;obtain⟨a,xs,rfl,q1,l1⟩:=hx;obtain⟨b,ys,rfl,q2,l2⟩:=hy;cases rx;cases ry
  by_cases Bb:a=b
  ·subst Bb;exact ň _
  ·obtain⟨us,r1,p1,_⟩:=I.tuple q1;obtain⟨vs,r2,p2,_⟩:=I.tuple q2;have tu:D.depth (.tup ds)=bV ds+1:=by rw[D.depth]
   rw[tu] at hu;have e1:=r1.length;have e2:=r2.length;have e3:=l1.length;have e4:=l2.length;have XW:A.in1.units+bV ds < cLine:=by
    have:A.in1.units<=A.units+1:=by show A.units+1<=A.units+1;exact Î _
    lia
   have all:=IsL.eqAt I ds A.in1 xs ys us vs XW l1 l2 r1 r2;have hsz:us.toArray.size=vs.toArray.size:=by simp;lia
   have:=SeqAt.RcAt.tuples (A:=A) (s:=s) (e:=λ _=>true) (show s.heap.IsTuple a us.toArray from p1) (show s.heap.IsTuple b vs.toArray from p2) (by lia) λ j h1 h2=>all j us.toArray[j] vs.toArray[j] (by simp) (by simp);have e5:((List.range (min us.toArray.size vs.toArray.size)).all (λ _=>true) && us.toArray.size == vs.toArray.size)=true:=by
    rw[hsz];simp
   rw[e5] at this;exact SeqAt.EqAt.of_refs Bb this
theorem IsL.eqAt (I:Inv X gi σ H s):∀ (ds:List D) (A:Around) (xs ys:List V) (us vs:List À),A.units+bV ds < cLine->IsL X.K H ds xs->IsL X.K H ds ys->bO xs us->bO ys vs->∀ (j:Nat) (u v:À),us[j]? = some u->vs[j]? = some v->SeqAt.EqAt A s u v true
 | [],A,xs,ys,us,vs,_,hx,hy,rx,ry,j,u,v,eu,ev=>by
  rw[IsL] at hx;subst hx;cases rx;simp at eu
 | d::ds,A,xs,ys,us,vs,hu,hx,hy,rx,ry,j,u,v,eu,ev=>by
  rw[IsL] at hx hy;obtain⟨x,xr,rfl,hx,XX⟩:=hx;obtain⟨y,yr,rfl,hy,XY⟩:=hy;have hd:bV (d::ds)=max d.depth (bV ds):=by rw[bV]
  rw[hd] at hu;cases rx with
  | cons rx XZ=>
   cases ry with
   | cons ry X0=>
    cases j with
    | zero=>
     simp at eu ev;subst eu ev;exact Is.eqAt I d A x y _ _ (by lia) hx hy rx ry
    | succ j=>exact IsL.eqAt I ds A xr yr _ _ (by lia) XX XY XZ X0 j u v (by simpa using eu) (by simpa using ev)
end
end
section
variable {X:Cx}
def N3:V->List V->Hp->VK->Prop:=λ x vs H Q=>∃ (l:Á) (xs:List V) (y:V) (j:Nat),x=.ref l/\vs=[y]/\H l=some (.lst xs)/\jC y=true/\xs.all jC=true/\j < xs.length/\(∀ z,xs[j]? = some z->zK z y=true)/\(∀ i z,i < j->xs[i]? = some z->zK z y=false)/\Q (.int j) H
theorem sG:MtM X "list.index" N3:=by
 intro gi s σ H x vs v us Q I rx rv h;obtain⟨l,xs,y,j,rfl,rfl,hH,fy,fx,hj,h1,h2,q⟩:=h;cases rx;obtain⟨u,rfl,ru⟩:=rv.one;obtain⟨z,its,n,r,hl,e⟩:=I.lstM hH;have key:∀ i (hi:i < its.length),∃ x,xs[i]? = some x/\bE x its[i]/\jC x=true:=λ i hi=>by
  have hx:xs[i]? = some xs[i]:=by simp [show i < xs.length by lia]
  obtain⟨w',h1,h2⟩:=r.get hx;have:its[i]? = some its[i]:=by simp [hi]
  rw[this] at h1;cases h1;exact⟨_,hx,h2,(Č.mp fx) _ (ĳ _)⟩
 refine ħ F.slot_list_index ⟨_,e,rfl⟩ F.entry_list_index (F.args_list_index_2 _ _)
  (SeqAt.list_indexAt l its.toArray n none #[] u (EW y) j (by rw[ê];lia) (by rw[Ď] at z;lia) ?_ ?_) ⟨e,λ w' hw=>?_,⟨.int j,H,I.tok _,⟨_,rfl⟩,q⟩⟩
 ·obtain⟨x,hx,rx,Pb⟩:=key j (by lia);have:=wV (x:=y) rx Pb;show EW y its[j]=true;rw[this];exact h1 x hx
 ·intro i hi jk;have md:i < its.length:=by simpa using hi
  obtain⟨x,hx,rx,Pb⟩:=key i md;have:=wV (x:=y) rx Pb;show EW y its[i]=false;rw[this];exact h2 i x jk hx
 ·exact oF ru fy r fx w' (by simpa using hw)
end
structure Callee (P:Ã) (w:World) (K:Ç) (mg:Str->Option À) (base:Heap) (x:Str) (ps:List Str) (k:Nat) (sp:Sp) (f:Á) (fd:FuncData):Prop where
 ok:FnOk P w K mg base kA k f fd ps sp
 mg:mg x=some (.ref f)
 kp:PySem.W.keepIn K (.ref f)=true
 bd:oV K fd ps []
theorem eX {X:Cx}{x:Str}{ps:List Str}{k n:Nat}{sp:Sp}{f:Á}{fd:FuncData}{e:Expr}{es:List Expr}{t:TA}{p pos:Pos} (G:Callee X.prog X.w X.K X.mg X.base x ps k sp f fd) (hr:Room n X.A) (ha:PA X (e::es) t) (hg:Gl X x:=by with_unfolding_all rfl) (hle:k<=n:=by decide)
  (Ay:(x == ("__debug__" : Str))=false:=by decide) (he:starEach (e::es) X.env=(false,eval e X.env)::starEach es X.env:=by with_unfolding_all rfl) (kc:(backTo pos (starEach es X.env)).any (·.1)=false:=by with_unfolding_all rfl) :
  PE X (.Call (.Name x p) (e::es) [] pos) (uF sp [] E0 t):=vZ G.ok (hr.mono hle) hg G.mg G.kp G.bd .nil P0 ha Ay he kc
theorem dN:bootBuiltins "isinstance" = some (.builtin "isinstance"):=by decide +kernel
def cK (t:Á) (H H':Hp):Prop:=∀ b o,b≠t->H b=some o->H' b=some o
theorem cK.refl {t:Á} (H:Hp):cK t H H:=λ _ _ _ h=>h
def Ę:=@cK.refl
theorem cK.trans {t:Á}{H H1 H2:Hp} (a:cK t H H1) (b:cK t H1 H2):cK t H H2:=λ c o hc h=>b c o hc (a c o hc h)
theorem aE.but {t:Á}{H H':Hp} (a:aE H H'):cK t H H':=λ b o _ h=>a b o h
theorem cK.upd {t:Á}{H:Hp}{o:HO}:cK t H (upd H t o):=λ b u hb h=>by rw[aJ hb];exact h
def ç:=@cK.upd
theorem cK.ts {K:Ç}{t:Á}{H H':Hp} (a:cK t H H') (hm:mH (H t)):bJ K H H':=by
 intro b xs h;have ne:∀ {o:HO},H b=some o->¬ mH (some o)->b≠t:=λ e n z=>by rw[<- z,e] at hm;exact n hm
 rcases h with (h | ⟨o,h⟩) | h
 ·exact .inl (.inl (a _ _ (ne h (λ z=>z)) h))
 ·exact .inl (.inr ⟨o,a _ _ (ne h (λ z=>z)) h⟩)
 ·exact .inr h
def ö:=@cK.ts
theorem cK.free {t l:Á}{H H':Hp} (a:cK t H H') (hl:l≠t) (h:H' l=none):H l=none:=by
 cases q:H l with
 | none=>rfl
 | some o=>rw[a l o hl q] at h;cases h
def LX (K:Ç):V->V->Hp->VK->Prop:=λ o i H Q=>∃ (p:Á) (xs:List V) (k:Int) (v:V),o=.ref p/\i=.int k/\bD K H p xs/\0<=k/\k < 2 ^ 63/\xs[k.toNat]? = some v/\Q v H
theorem HX {X:Cx}:O8 X (LX X.K):=by
 intro gi s σ H o i ov iv Q I ro ri h;obtain⟨p,xs,k,v,rfl,rfl,hq,h0,h1,hx,q⟩:=h;cases ro;obtain⟨t,rfl⟩:=ri;obtain⟨its,r,pl,hz⟩:=I.list hq;obtain⟨w',ew,wt⟩:=r.get hx;exact wpAny_getItem_list pl.isList h0 h1 (by simpa using ew) ⟨v,H,I,wt,q⟩
theorem qQ {n:Nat}{k:Int} (h0:0<=k) (h1:k < n):KU n k=some k.toNat:=by
 unfold KU;rw[Å h0,Å h1]
theorem qW {α:Type}{xs:List α}{k:Int}{v:α} (h0:0<=k) (h:xs[k.toNat]? = some v):JB xs k=some v:=by
 obtain⟨j,rfl⟩:=afq h0;exact bN (by simpa using h)
theorem Is.tupOf {K:Ç}{H:Hp}{ds:List D}{a:Á}{xs:List V} (q:bC K H a xs) (l:IsL K H ds xs):Is K H (.tup ds) (.ref a):=by
 rw[Is];exact⟨a,xs,rfl,q,l⟩
def Ô:=@Is.tupOf
theorem Is.un {K:Ç}{H:Hp}{ds:List D}{v:V} (h:Is K H (.tup ds) v):∃ a xs,v=.ref a/\bC K H a xs/\IsL K H ds xs:=by
 rw[Is] at h;exact h
theorem IsL.un {K:Ç}{H:Hp}{d:D}{ds:List D}{xs:List V} (h:IsL K H (d::ds) xs):∃ x r,xs=x::r/\Is K H d x/\IsL K H ds r:=by
 rw[IsL] at h;exact h
theorem IsL.un0 {K:Ç}{H:Hp}{xs:List V} (h:IsL K H [] xs):xs=[]:=by
 rw[IsL] at h;exact h
theorem IsL.cons {K:Ç}{H:Hp}{d:D}{ds:List D}{x:V}{xs:List V} (hd:Is K H d x) (h:IsL K H ds xs):IsL K H (d::ds) (x::xs):=by
 rw[IsL];exact⟨x,xs,rfl,hd,h⟩
theorem IsL.nil {K:Ç}{H:Hp}:IsL K H [] []:=by rw[IsL]
theorem Is.i {K:Ç}{H:Hp} (i:Int):Is K H (.int i) (.int i):=by rw[Is]
def è:=@Is.i
theorem Is.b {K:Ç}{H:Hp} (i:Bool):Is K H (.bl i) (.bl i):=by rw[Is]
theorem Is.s {K:Ç}{H:Hp} (i:Str):Is K H (.str i) (.str i):=by rw[Is]
theorem Is.n {K:Ç}{H:Hp}:Is K H .non .non:=by rw[Is]
theorem Is.ui {K:Ç}{H:Hp}{i:Int}{v:V} (h:Is K H (.int i) v):v=.int i:=by rw[Is] at h;exact h
theorem Is.ub {K:Ç}{H:Hp}{i:Bool}{v:V} (h:Is K H (.bl i) v):v=.bl i:=by rw[Is] at h;exact h
theorem Is.us {K:Ç}{H:Hp}{i:Str}{v:V} (h:Is K H (.str i) v):v=.str i:=by rw[Is] at h;exact h
theorem Is.u0 {K:Ç}{H:Hp}{v:V} (h:Is K H .non v):v=.non:=by rw[Is] at h;exact h
end L2
namespace Tw
open PySem L2
structure Vs where
 size:Int
 brim:Int
 outs:List (Option Int×Int)
 holds:Bool
 spill:Option Int
 acts:List (Str×Int)
abbrev xP:=Int×Int×Bool
structure Net where
 vs:List Vs
 sps:List xP
def EV:Option Int->D
 | none=>.non
 | some i=>.int i
def iN:Option Int->V
 | none=>.non
 | some i=>.int i
def outD (o:Option Int×Int):D:=.tup [EV o.1,.int o.2]
def qJ (a:Str×Int):D:=.tup [.str a.1,.int a.2]
def qK (v:Vs):D:=.tup [.int v.size,.int v.brim,.tup (v.outs.map outD),.bl v.holds,EV v.spill,.tup (v.acts.map qJ)]
def xN (s:xP):D:=.tup [.int s.1,.int s.2.1,.bl s.2.2]
def iG (n:Net):D:=.tup [.tup (n.vs.map qK),.tup (n.sps.map xN)]
def J3 (gw gm:List Int) (gn:List Bool):D:=.tup [.tup (gw.map D.int),.tup (gm.map D.int),.tup (gn.map D.bl)]
theorem Is.tg {K:Ç}{H:Hp}{t:Option Int}{v:V} (h:Is K H (EV t) v):v=iN t:=by
 cases t with
 | none=>exact h.u0
 | some i=>exact h.ui
theorem Is.tgOf {K:Ç}{H:Hp} (t:Option Int):Is K H (EV t) (iN t):=by
 cases t with
 | none=>exact Is.n
 | some i=>exact è i
def Ő:=@Is.tgOf
structure OutOk (n:Nat) (o:Option Int×Int):Prop where
 tg:∀ t,o.1=some t->0<=t/\t < n
 lo:1<=o.2
 hi:o.2<=60
structure ActOk (m:Nat) (a:Str×Int):Prop where
 word:a.1 = "open" \/ a.1 = "shut" \/ a.1 = "turn"
 lo:0<=a.2
 hi:a.2 < m
structure VOk (n m:Nat) (v:Vs):Prop where
 size:1<=v.size
 ne:v.outs≠[]
 o3:v.outs.length<=3
 outs:∀ o∈v.outs,OutOk n o
 spill:∀ t,v.spill=some t->0<=t/\t < n
 a3:v.acts.length<=3
 acts:∀ a∈v.acts,ActOk m a
structure NetOk (net:Net):Prop where
 lo:1<=net.vs.length
 hi:net.vs.length<=12
 sp:net.sps.length<=12
 vs:∀ v∈net.vs,VOk net.vs.length net.sps.length v
 sps:∀ s∈net.sps,0<=s.1/\s.1 < net.vs.length
def whole (outs:List (Option Int×Int)):Int:=(outs.map (·.2)).sum
theorem uA {n:Nat}:∀ {outs:List (Option Int×Int)},outs≠[]->(∀ o∈outs,OutOk n o)->1<=whole outs
 | [],h,_=>absurd rfl h
 | o::r,_,h=>by
  have h1:=(h o ą).lo;have h2:0<=whole r:=by
   clear h1;have:∀ (r:List (Option Int×Int)),(∀ o∈r,OutOk n o)->0<=whole r:=by
    intro r
    induction r with
    | nil=>intro _;exact Ğ _
    | cons o r ih=>
     intro h;have h1:=(h o ą).lo;have h2:=ih λ o ho=>h o (ô _ ho);show 0<=o.2+whole r;lia
   exact this r λ o ho=>h o (ô _ ho)
  show 1<=o.2+whole r;lia
theorem qZ {n:Nat}:∀ {outs:List (Option Int×Int)},(∀ o∈outs,OutOk n o)->whole outs<=60 * outs.length
 | [],_=>Ğ _
 | o::r,h=>by
  have h1:=(h o ą).hi;have h2:=qZ λ o ho=>h o (ô _ ho);show o.2+whole r<=_;rw[ë];lia
def dO (k:Option Int):List (Option Int×Int)->Int
 | []=>0
 | g::r=>(if g.1=k then g.2 else 0)+dO k r
theorem mJ (k:Option Int):∀ (a b:List (Option Int×Int)),dO k (a++b)=dO k a+dO k b
 | [],b=>by simp [dO]
 | g::r,b=>by
  show (if g.1=k then g.2 else 0)+dO k (r++b)=(if g.1=k then g.2 else 0)+dO k r+dO k b;rw[mJ k r b];lia
def bT (v:Vs) (has:Int):Int:=min has v.brim
def kJ (v:Vs) (has:Int):Bool:=decide (v.size<=bT v has)
def g9 (v:Vs) (here:Int):List (Option Int×Int):=v.outs.map λ o=>(o.1,here / whole v.outs * o.2)
def gE (v:Vs) (has:Int):List (Option Int×Int):=
 (v.spill,has - bT v has)::(if kJ v has=true then g9 v (bT v has)++(if v.holds=true then [] else [(none,bT v has % whole v.outs)]) else [])
def gD (v:Vs) (has:Int):Int:=if kJ v has=true then (if v.holds=true then bT v has % whole v.outs else 0) else bT v has
theorem CP {n m:Nat}{v:Vs} (ok:VOk n m v) (has:Int):(gE v has).length<=5:=by
 unfold gE g9;have:=ok.o3
 split
 ·split <;> simp <;> lia
 ·simp
def sV (has:List Int) (s:xP) (d:Bool):List Int:=if d=true then has.set s.1.toNat (has.getD s.1.toNat 0+s.2.1) else has
def fT:List Int->List xP->List Bool->List Int
 | has,s::ss,d::ds=>fT (sV has s d) ss ds
 | has,_,_=>has
def iJ:List Int->List Int->List Int->List Int
 | a::as,b::bs,c::cs=>(a+b+c)::iJ as bs cs
 | _,_,_=>[]
def aP (gk:Net) (gw gm gp:List Int) (gn:List Bool):List Int:=fT (iJ gw gm gp) gk.sps gn
def cO:List Vs->List Int->List (Option Int×Int)
 | v::vs,h::hs=>gE v h++cO vs hs
 | _,_=>[]
def eE:List Vs->List Int->List Int
 | v::vs,h::hs=>gD v h::eE vs hs
 | _,_=>[]
def bP:Nat->List Vs->List Int->List Nat
 | i,v::vs,h::hs=>if kJ v h=true then i::bP (i+1) vs hs else bP (i+1) vs hs
 | _,_,_=>[]
def AQ (gn:List Bool) (a:Str×Int):List Bool:=gn.set a.2.toNat (if a.1 = "open" then true else if a.1 = "turn" then !(gn.getD a.2.toNat false) else false)
def fH (gn:List Bool) (as:List (Str×Int)):List Bool:=as.foldl AQ gn
def cU (vs:List Vs) (gn:List Bool) (tip:List Nat):List Bool:=tip.foldl (λ ds i=>match vs[i]? with | some v=>fH ds v.acts | none=>ds) gn
def fA (n:Nat) (Pc:List (Option Int×Int)):List Int:=(List.range n).map λ (k:Nat)=>dO (some (k:Int)) Pc
structure Tick where
 held:List Int
 coming:List Int
 doors:List Bool
 tip:List Nat
 ground:Int
def mX (gk:Net) (gw gm gp:List Int) (gn:List Bool):Tick:=
 let hs:=aP gk gw gm gp gn
 ⟨eE gk.vs hs,fA gk.vs.length (cO gk.vs hs),cU gk.vs gn (bP 0 gk.vs hs),bP 0 gk.vs hs,dO none (cO gk.vs hs)⟩
end Tw
namespace L2
open PySem PySem.Spec PyProof.Rows TwZ
section
variable {g:TG}{tc:TT}{te:TE}{fr:List (Option Nat)}{σ:St}{H1:Hp}{Q:Á->Hp->Prop}
theorem iW {a:Á}{xs:List V} (Pv:Á->Nat->List V->St->Hp->Prop) (hq:∀ D i ys σ H,Pv D i ys σ H->bC K H a xs)
  (h0:∀ D,H1 D=none->Pv D 0 [] (tX fr σ) (upd H1 D (.lst []))) (je:∀ D ys ad H',Pv D xs.length ys ad H'->Q D H')
  (oo:∀ D i x ys ad H',xs[i]? = some x->Pv D i ys ad H'->g x ad H' λ ak H3=>tc ak H3 λ b H4=>
    if b=true then te ak H4 λ y H5=>H5 D=some (.lst ys)/\ys.length < sizeLine/\Pv D (i+1) (ys++[y]) ak (upd H5 D (.lst (ys++[y])))
    else Pv D (i+1) ys ak H4):iX (LE K a) g tc te fr σ H1 Q:=by
 refine sN (n:=xs.length) Pv h0 (λ D ys ad H' p=>⟨⟨xs,hq D _ ys ad H' p,Î _⟩,je D ys ad H' p⟩) λ D i ys ad H' hi p=>⟨⟨xs,xs[i],hq D _ ys ad H' p,by simp [hi]⟩,λ x H2 y=>?_⟩;obtain⟨e,y⟩:=y;subst e;exact oo D i x ys ad _ (y xs (hq D _ ys ad _ p)) p
theorem fY {a:Á}{xs:List V} (Pv:Á->Nat->List V->St->Hp->Prop) (hq:∀ D i ys σ H,Pv D i ys σ H->bD K H a xs)
  (h0:∀ D,H1 D=none->Pv D 0 [] (tX fr σ) (upd H1 D (.lst []))) (je:∀ D ys ad H',Pv D xs.length ys ad H'->Q D H')
  (oo:∀ D i x ys ad H',xs[i]? = some x->Pv D i ys ad H'->g x ad H' λ ak H3=>tc ak H3 λ b H4=>
    if b=true then te ak H4 λ y H5=>H5 D=some (.lst ys)/\ys.length < sizeLine/\Pv D (i+1) (ys++[y]) ak (upd H5 D (.lst (ys++[y])))
    else Pv D (i+1) ys ak H4):iX (JE K a) g tc te fr σ H1 Q:=by
 refine sN (n:=xs.length) Pv h0 (λ D ys ad H' p=>⟨⟨xs,hq D _ ys ad H' p,Î _⟩,je D ys ad H' p⟩) λ D i ys ad H' hi p=>⟨⟨xs,xs[i],hq D _ ys ad H' p,by simp [hi]⟩,λ x H2 y=>?_⟩;obtain⟨e,y⟩:=y;subst e;exact oo D i x ys ad _ (y xs (hq D _ ys ad _ p)) p
theorem j9 {n:Nat} (Pv:Á->Nat->List V->St->Hp->Prop)
  (h0:∀ D,H1 D=none->Pv D 0 [] (tX fr σ) (upd H1 D (.lst []))) (je:∀ D ys ad H',Pv D n ys ad H'->Q D H')
  (oo:∀ D i ys ad H',i < n->Pv D i ys ad H'->g (.int (i:Int)) ad H' λ ak H3=>tc ak H3 λ b H4=>
    if b=true then te ak H4 λ y H5=>H5 D=some (.lst ys)/\ys.length < sizeLine/\Pv D (i+1) (ys++[y]) ak (upd H5 D (.lst (ys++[y])))
    else Pv D (i+1) ys ak H4):iX (JD 0 n) g tc te fr σ H1 Q:=by
 refine sN (n:=n) Pv h0 (λ D ys ad H' p=>⟨Î _,je D ys ad H' p⟩) λ D i ys ad H' hi p=>⟨hi,λ x H2 y=>?_⟩;obtain⟨e,y⟩:=y;subst e y;rw[į];exact oo D i ys ad _ hi p
theorem KP {t1 t2 t3:Bool}{a1 a2 a3:Á}{xs ys zs:List V}{n:Nat} (h1:xs.length=n) (h2:ys.length=n) (h3:zs.length=n) (Pv:Á->Nat->List V->St->Hp->Prop)
  (hq:∀ D i r σ H,Pv D i r σ H->kH K H t1 a1 xs/\kH K H t2 a2 ys/\kH K H t3 a3 zs)
  (h0:∀ D,H1 D=none->Pv D 0 [] (tX fr σ) (upd H1 D (.lst []))) (je:∀ D r ad H',Pv D n r ad H'->Q D H')
  (oo:∀ D i x y z r ad H' T,xs[i]? = some x->ys[i]? = some y->zs[i]? = some z->Pv D i r ad H'->H' T=none->g (.ref T) ad (upd H' T (.tup [x,y,z])) λ ak H3=>tc ak H3 λ b H4=>
    if b=true then te ak H4 λ y H5=>H5 D=some (.lst r)/\r.length < sizeLine/\Pv D (i+1) (r++[y]) ak (upd H5 D (.lst (r++[y])))
    else Pv D (i+1) r ak H4):iX (O9 K t1 t2 t3 a1 a2 a3) g tc te fr σ H1 Q:=by
 refine sN (n:=n) Pv h0 (λ D r ad H' p=>?_) λ D i r ad H' hi p=>?_
 ·obtain⟨q1,q2,q3⟩:=hq D _ r ad H' p;exact⟨⟨xs,ys,zs,q1,q2,q3,.inl (by lia)⟩,je D r ad H' p⟩
 ·obtain⟨q1,q2,q3⟩:=hq D _ r ad H' p;refine⟨⟨xs,ys,zs,xs[i]'(by lia),ys[i]'(by lia),zs[i]'(by lia),q1,q2,q3,by simp,by simp,by simp⟩,?_⟩;rintro v H2 ⟨T,x,y,z,hT,rfl,e1,e2,e3,rfl⟩;exact oo D i x y z r ad H' T (e1 xs q1) (e2 ys q2) (e3 zs q3) p hT
end
section
variable {g:TG}{tb:TS}{D:Ends}{σ:St}{H:Hp}
abbrev CJ (J:It) (g:TG) (tb:TS) (D:Ends) (σ:St) (H:Hp):Prop:=
 ∃ W:Nat->Nat->St->Hp->Prop,(∃ m,W 0 m σ H)/\∀ i m σ H,W i m σ H->
   (J.stop i H/\D.nx σ H)\/(J.go i H/\∃ N:St->Hp->Prop,(∀ ad H',N ad H'->∃ m',m' < m/\W (i+1) m' ad H')/\∀ x H',J.yld i H x H'->g x σ H' λ au H2=>tb { D with nx:=N,ct:=N,bk:=D.nx } au H2)
theorem yU {t1 t2:Bool}{a1 a2:Á}{xs ys:List V}{n:Nat} (h1:xs.length=n) (h2:ys.length=n) (Pv:Nat->St->Hp->Prop) (hq:∀ i σ H,Pv i σ H->kH K H t1 a1 xs/\kH K H t2 a2 ys)
  (h0:Pv 0 σ H) (je:∀ σ H,Pv n σ H->D.nx σ H)
  (oo:∀ i x y σ H T,xs[i]? = some x->ys[i]? = some y->Pv i σ H->H T=none->g (.ref T) σ (upd H T (.tup [x,y])) λ au H2=>tb { D with nx:=Pv (i+1),ct:=Pv (i+1),bk:=D.nx } au H2):CJ (OA K t1 t2 a1 a2) g tb D σ H:=by
 refine BV (n:=n) Pv h0 (λ σ H p=>?_) λ i σ H hi p=>?_
 ·obtain⟨q1,q2⟩:=hq _ σ H p;exact⟨⟨xs,ys,q1,q2,.inl (by lia)⟩,je σ H p⟩
 ·obtain⟨q1,q2⟩:=hq _ σ H p;refine⟨⟨xs,ys,xs[i]'(by lia),ys[i]'(by lia),q1,q2,by simp,by simp⟩,?_⟩;rintro v H2 ⟨T,x,y,hT,rfl,e1,e2,rfl⟩;exact oo i x y σ H T (e1 xs q1) (e2 ys q2) p hT
theorem IA {t:Bool}{a:Á}{xs:List V} (Pv:Nat->St->Hp->Prop) (hq:∀ i σ H,Pv i σ H->kH K H t a xs)
  (h0:Pv 0 σ H) (je:∀ σ H,Pv xs.length σ H->D.nx σ H)
  (oo:∀ i x σ H T,xs[i]? = some x->Pv i σ H->H T=none->g (.ref T) σ (upd H T (.tup [.int (i:Int),x])) λ au H2=>tb { D with nx:=Pv (i+1),ct:=Pv (i+1),bk:=D.nx } au H2):CJ (PY K t a) g tb D σ H:=by
 refine BV (n:=xs.length) Pv h0 (λ σ H p=>?_) λ i σ H hi p=>?_
 ·exact⟨⟨xs,hq _ σ H p,Î _⟩,je σ H p⟩
 ·refine⟨⟨xs,xs[i],hq _ σ H p,by simp [hi]⟩,?_⟩;rintro v H2 ⟨T,x,hT,rfl,e1,rfl⟩;exact oo i x σ H T (e1 xs (hq _ σ H p)) p hT
end
theorem fI {σ:St}{H:Hp}{A B:Hp->Prop} (h:A H):JM σ H λ b H4=>if b=true then A H4 else B H4:=by
 show if true=true then A H else B H
 rw[Å rfl];exact h
theorem eO {i:Nat}{v:V}{σ:St}{H:Hp}{A B:St->Hp->Prop} (h:A (σ.set i (some v)) H):eB i v σ H λ ak H3=>JM ak H3 λ b H4=>if b=true then A ak H4 else B ak H4:=fI (σ:=σ.set i (some v)) (A:=A (σ.set i (some v))) (B:=B (σ.set i (some v))) h
theorem aE.put {H H':Hp}{p:Á}{o:HO} (a:aE H H') (h:H p=none):aE H (upd H' p o):=λ b u e=>by rw[aJ (aH e h)];exact a b u e
theorem bJ.put {K:Ç}{H H':Hp}{p:Á}{o:HO} (a:bJ K H H') (h:H' p=none\/mH (H' p)):bJ K H (upd H' p o):=a.trans (by
 rcases h with h | h
 ·exact (È h).ts
 ·exact ö ç h)
def đ:=@bJ.put
def ME (i j:Int):Prop:=0 < j/\j < 2 ^ 200
theorem GM {X:Cx}:jJ X (binaryOp .FloorDiv) (rI ME λ i j=>.int (i / j)):=P2 λ i j _ _ _ _ _ hc q=>by
 have h1:(0:Int) < j:=hc.1;have h2:j < 2 ^ 200:=hc.2;refine floordiv_int (by lia) (by rw[agr i (by lia)];exact q) (.inl (PyProof.noPylong_of_log2 ?_));have h0:j.natAbs≠0:=by lia
 have h3:j.natAbs < 2 ^ 200:=by lia
 have:=(Nat.log2_lt h0).mpr h3;lia
theorem nI:bootBuiltins "int" = some (.type "int"):=by decide +kernel
theorem bQ:bootBuiltins "tuple" = some (.type "tuple"):=by decide +kernel
theorem oR:bootBuiltins "list" = some (.type "list"):=by decide +kernel
theorem CD:bootBuiltins "bool" = some (.type "bool"):=by decide +kernel
section
variable {X:Cx}{tg:Expr}{pos:Pos}
theorem bA {es:List Expr}{k:Nat}{t:IW}{n:Nat} (hK:X.K=K) (hc:X.calm=true) (h:O7 X es t)
  (hn:(assignEach es X.env).length=n:=by with_unfolding_all rfl) (qi:(assignEach es X.env).findIdx? (·.1)=none:=by with_unfolding_all rfl):PG X (.Tuple es k pos) (NT K n t):=by
 subst hK;exact N6 hc h hn qi
theorem BK (hK:X.K=K):EY X (zJ K):=by subst hK;exact NO
def N2 (K:Ç):List V->Hp->VK->Prop:=λ xs H Q=>∃ p ys,xs=[.ref p]/\(bD K H p ys\/bC K H p ys)/\Q (.int ys.length) H
theorem EI (hK:X.K=K):dZ X (.builtin "len") (N2 K):=by subst hK;exact xE
theorem jE (hK:X.K=K) (hc:X.calm=true):dZ X (.builtin "sum") (OQ K):=by subst hK;exact EF hc
theorem EM (hK:X.K=K) (hc:X.calm=true):dZ X (.builtin "all") (OX K):=by subst hK;exact EN hc
theorem jF (hK:X.K=K):dZ X (.builtin "isinstance") (OW K):=by subst hK;exact IQ
def N0 (K:Ç):List V->Hp->VK->Prop:=λ xs H Q=>∃ p ys,xs=[.ref p]/\((bD K H p ys/\∀ l,H l=none->Q (.ref l) (upd H l (.tup ys)))\/(bC K H p ys/\Q (.ref p) H))
theorem bI (hK:X.K=K):dZ X (.type "tuple") (N0 K):=by subst hK;exact u7
def N1 (K:Ç):List V->Hp->VK->Prop:=λ xs H Q=>∃ p ys,xs=[.ref p]/\(bD K H p ys\/bC K H p ys)/\∀ l,H l=none->Q (.ref l) (upd H l (.lst ys))
theorem pP (hK:X.K=K):dZ X (.type "list") (N1 K):=by subst hK;exact xD
theorem cL {l:Expr}{tl:TE} (hK:X.K=K) (hl:PE X l tl):PI X tg l (M6 K tl):=by subst hK;exact K3 hl
theorem eG {l:Expr}{tl:TE} (hK:X.K=K) (hl:PE X l tl):PI X tg l (PB K tl):=by subst hK;exact N5 hl
theorem rS {a:Expr}{ta:TA}{p:Pos} (hK:X.K=K) (hg:Gl X "enumerate") (hm:X.mg "enumerate" = none) (ha:PA X [a] ta) (hs:starEach [a] X.env=[(false,eval a X.env)]:=by with_unfolding_all rfl):PI X tg (.Call (.Name "enumerate" p) [a] [] pos) (M7 K ta):=by
 subst hK;exact K4 hg hm ha hs
theorem yA {a b:Expr}{ta:TA}{p:Pos} (hK:X.K=K) (hg:Gl X "zip") (hm:X.mg "zip" = none) (ha:PA X [a,b] ta) (hs:starEach [a,b] X.env=[(false,eval a X.env),(false,eval b X.env)]:=by with_unfolding_all rfl) (ur:starEach [b] X.env=[(false,eval b X.env)]:=by with_unfolding_all rfl) :
  PI X tg (.Call (.Name "zip" p) [a,b] [] pos) (M5 K ta):=by subst hK;exact K2 hg hm ha hs ur
theorem GD {a b c:Expr}{ta:TA}{p:Pos} (hK:X.K=K) (hg:Gl X "zip") (hm:X.mg "zip" = none) (ha:PA X [a,b,c] ta) (hs:starEach [a,b,c] X.env=[(false,eval a X.env),(false,eval b X.env),(false,eval c X.env)]:=by with_unfolding_all rfl)
  (ur:starEach [b,c] X.env=[(false,eval b X.env),(false,eval c X.env)]:=by with_unfolding_all rfl):PI X tg (.Call (.Name "zip" p) [a,b,c] [] pos) (M4 K ta):=by subst hK;exact K1 hg hm ha hs ur
theorem yD (hK:X.K=K):jJ X (binaryOp .Mult) (LR K):=by subst hK;exact BD
theorem DZ (hK:X.K=K):O8 X (LX K):=by subst hK;exact HX
theorem eJ {o e:Expr}{es:List Expr}{to:TE}{t:TA}{name:Str}{apos jd:Pos}{T id:String}{r:V->List V->Hp->VK->Prop} (hK:X.K=K)
  (pa:PlainAttrs T) (slot:Slot T name id) (Ol:typeOf (.builtin id)=pure (.type "method_descriptor")) (hm:MtR X id r) (ho:PE X o to) (ha:PA X (e::es) t)
  (yn:attributeBase o name X.env (eval o X.env)=eval o X.env:=by with_unfolding_all rfl)
  (Dk:((backTo jd (starEach (e::es) X.env)).all (λ x=>!x.1) && (backToKw jd (keywordEach [] X.env)).all (λ x=>x.1.isSome)
   && decide ((e::es).length+([]:List Keyword).length+(if ([]:List Keyword).isEmpty then 0 else 1) < 30))=true:=by with_unfolding_all rfl)
  (yo:(apos.endLine == jd.line)=true:=by with_unfolding_all rfl) (hs:starEach (e::es) X.env=(false,eval e X.env)::starEach es X.env:=by with_unfolding_all rfl) (nk:(backTo jd (starEach es X.env)).any (·.1)=false:=by with_unfolding_all rfl) :
  PE X (.Call (.Attribute o name apos) (e::es) [] jd) (tBM K T r to t):=by subst hK;exact OZ pa slot Ol hm ho ha yn Dk yo hs nk
end
section
variable {X:Cx}{pos p:Pos}
theorem pL (i:Nat) {x:Str}{e:Expr}{te:TE}{pos':Pos} (hN:X.N.Nodup) (he:PE X e te) (hi:X.N[i]? = some x:=by with_unfolding_all rfl) (hx:MC X.env.scope x:=by with_unfolding_all exact Or.inl rfl) (hs:swapsWith e (some (.Name x pos')) pos.line X.env=pure false:=by with_unfolding_all rfl) (hf:X.fn x=true\/X.env.scope.names.lookup x=some .local:=by with_unfolding_all first | exact .inl rfl | exact .inr rfl | assumption) :
  PS X (.Assign [.Name x pos'] e pos) (kK te (eB i)):=eF hN hi hx he hs hf
theorem gL (i:Nat) {x:Str} (hN:X.N.Nodup) (hi:X.N[i]? = some x:=by with_unfolding_all rfl) (hx:MC X.env.scope x:=by with_unfolding_all exact Or.inl rfl) (hf:X.fn x=true\/X.env.scope.names.lookup x=some .local:=by with_unfolding_all first | exact .inl rfl | exact .inr rfl | assumption):PG X (.Name x pos) (eB i):=oA hN hi hx hf
theorem gC (i:Nat) (N:List Str) {x:Str} (hN:N.Nodup:=by decide +kernel) (e:X.N=N:=by with_unfolding_all rfl) (hi:N[i]? = some x:=by with_unfolding_all rfl) (hx:MC X.env.scope x:=by with_unfolding_all exact Or.inl rfl) (hf:X.fn x=true\/X.env.scope.names.lookup x=some .local:=by with_unfolding_all exact Or.inr rfl):PG X (.Name x pos) (eB i):=oA (by rw[e];exact hN) (by rw[e];exact hi) hx hf
theorem px (K:Ç) {a b:Expr}{ta tb:TE} (ha:PE X a ta) (hb:PE X b tb) (hK:X.K=K:=by with_unfolding_all rfl) (hs:CH b:=by with_unfolding_all exact λ _ _=>rfl):PE X (.Subscript a b pos) (jI (zJ K) ta tb):=qA (BK hK) ha hb hs
theorem pC (K:Ç) {a:Expr}{ta:TE} (hm:X.mg "len" = none) (ha:PE X a ta) (hK:X.K=K:=by with_unfolding_all rfl) (hg:Gl X "len" := by with_unfolding_all rfl) (hs:starEach [a] X.env=[(false,eval a X.env)]:=by with_unfolding_all rfl):PE X (.Call (.Name "len" p) [a] [] pos) (MQ (N2 K) (dM ta nQ)):=
 bB (EI hK) hg hm PySem.boot_len (aA ha aC hs) (by decide) (by decide) hs rfl
end
end L2
namespace Tw
open PySem L2
theorem fC {lo:Int}{n:Nat}{g:TG}{tb:TS}{D:Ends}{σ:St}{H:Hp} (Pv:Nat->St->Hp->Prop) (h0:Pv 0 σ H)
  (hs:∀ (E:Ends) i,E.rt=D.rt->(∀ σ H,Pv (i+1) σ H->E.nx σ H)->∀ σ H,i < n->Pv i σ H->g (.int (lo+i)) σ H λ au H2=>tb E au H2) (hd:∀ σ H,Pv n σ H->D.nx σ H) :
  ∃ W:Nat->Nat->St->Hp->Prop,(∃ m,W 0 m σ H)/\∀ i m σ H,W i m σ H->
   ((JD lo n).stop i H/\D.nx σ H)\/((JD lo n).go i H/\∃ N:St->Hp->Prop,(∀ ad H',N ad H'->∃ m',m' < m/\W (i+1) m' ad H')/\∀ x H',(JD lo n).yld i H x H'->g x σ H' λ au H2=>tb { D with nx:=N,ct:=N,bk:=D.nx } au H2):=
 lX Pv h0 (λ i σ H hi p=>hs { D with nx:=Pv (i+1),ct:=Pv (i+1),bk:=D.nx } i rfl (λ _ _ q=>q) σ H hi p) hd
theorem pJ {K:Ç}{a:Á}{xs:List V}{g:TG}{tb:TS}{D:Ends}{σ:St}{H:Hp} (Pv:Nat->St->Hp->Prop) (h0:Pv 0 σ H) (hl:∀ i σ H,i<=xs.length->Pv i σ H->bD K H a xs)
  (hs:∀ (E:Ends) i,E.rt=D.rt->(∀ σ H,Pv (i+1) σ H->E.nx σ H)->∀ x σ H,xs[i]? = some x->Pv i σ H->g x σ H λ au H2=>tb E au H2) (hd:∀ σ H,Pv xs.length σ H->D.nx σ H) :
  ∃ W:Nat->Nat->St->Hp->Prop,(∃ m,W 0 m σ H)/\∀ i m σ H,W i m σ H->
   ((JE K a).stop i H/\D.nx σ H)\/((JE K a).go i H/\∃ N:St->Hp->Prop,(∀ ad H',N ad H'->∃ m',m' < m/\W (i+1) m' ad H')/\∀ x H',(JE K a).yld i H x H'->g x σ H' λ au H2=>tb { D with nx:=N,ct:=N,bk:=D.nx } au H2):=
 oP Pv h0 hl (λ i x σ H hi p=>hs { D with nx:=Pv (i+1),ct:=Pv (i+1),bk:=D.nx } i rfl (λ _ _ q=>q) x σ H hi p) hd
theorem oO {K:Ç}{a:Á}{xs:List V}{g:TG}{tb:TS}{D:Ends}{σ:St}{H:Hp} (Pv:Nat->St->Hp->Prop) (h0:Pv 0 σ H) (hl:∀ i σ H,i<=xs.length->Pv i σ H->bC K H a xs)
  (hs:∀ (E:Ends) i,E.rt=D.rt->(∀ σ H,Pv (i+1) σ H->E.nx σ H)->∀ x σ H,xs[i]? = some x->Pv i σ H->g x σ H λ au H2=>tb E au H2) (hd:∀ σ H,Pv xs.length σ H->D.nx σ H) :
  ∃ W:Nat->Nat->St->Hp->Prop,(∃ m,W 0 m σ H)/\∀ i m σ H,W i m σ H->
   ((LE K a).stop i H/\D.nx σ H)\/((LE K a).go i H/\∃ N:St->Hp->Prop,(∀ ad H',N ad H'->∃ m',m' < m/\W (i+1) m' ad H')/\∀ x H',(LE K a).yld i H x H'->g x σ H' λ au H2=>tb { D with nx:=N,ct:=N,bk:=D.nx } au H2):=
 BU Pv h0 hl (λ i x σ H hi p=>hs { D with nx:=Pv (i+1),ct:=Pv (i+1),bk:=D.nx } i rfl (λ _ _ q=>q) x σ H hi p) hd
def bW (i:Nat):Stmt:=PySem.Challenge.pw_tipwell_k12_whole_least_machines.main.body.getD i (.Pass ⟨0,0,0,0⟩)
structure Txt (mg:Str->Option À):Prop where
 b_len:mg "len" = none
 b_sum:mg "sum" = none
 b_all:mg "all" = none
 b_max:mg "max" = none
 b_min:mg "min" = none
 b_int:mg "int" = none
 b_tuple:mg "tuple" = none
 b_list:mg "list" = none
 b_bool:mg "bool" = none
 b_range:mg "range" = none
 b_zip:mg "zip" = none
 b_enumerate:mg "enumerate" = none
 b_isinstance:mg "isinstance" = none
 b_divmod:mg "divmod" = none
 b_set:mg "set" = none
 b_sorted:mg "sorted" = none
def oJ:Option Int->gB
 | none=>.inr none
 | some i=>.inl i
theorem HC (k:Option Int):kV (oJ k)=iN k:=by cases k <;> rfl
theorem HB {a b:Option Int} (h:oJ a=oJ b):a=b:=by
 cases a <;> cases b <;> simp_all [oJ]
def kD (H:Hp) (d:Á) (gs:List (Option Int×Int)):Prop:=
 ∃ gu:List (gB×V),H d=some (.dK gu)/\gu.length<=gs.length/\∀ k:Option Int,(cI gu (oJ k)).getD (.int 0)=.int (dO k gs)
theorem kD.mut {H:Hp}{d:Á}{gs:List (Option Int×Int)} (h:kD H d gs):mH (H d):=by
 obtain⟨gu,e,_⟩:=h;rw[e];exact trivial
def vJ:Sp:=λ vs H Q _=>∃ (d:Á) (t:Option Int) (a:Int) (gs:List (Option Int×Int)),vs=[.ref d,iN t,.int a]/\kD H d gs/\gs.length<=1000/\
 ∀ H',cK d H H'->kD H' d (gs++[(t,a)])->Q .non H'
theorem B0:FnScope ["sent","target","amount"] ["sent","target","amount"] (aL (bW 17)):={}
theorem KG {f:Á}{fd:FuncData} (F:Fun K "send" "send" (bW 17) f fd) (T:Txt mg):FnOk P w K mg base kA 1 f fd ["sent","target","amount"] vJ:=by
 refine F.ok B0 (λ vs H Q E h=>?_) (λ ja A outer s H vs Q E hr h=>?_)
 ·obtain⟨d,t,a,gs,rfl,_⟩:=h;rfl
 ·obtain⟨d,t,a,gs,rfl,⟨gu,hd,hl,hv⟩,hg,k⟩:=h;have sc:=B0;have hu:=M8 hr;refine⟨_,(aI (JY hu (pv 0) (pv 1) (aS cB (rU hu (pv 0) (pv 1) aF ⟨rfl,rfl,rfl,rfl⟩) (pv 2)) rfl)),?_⟩;have Hk:=AT.k (k:=oJ t) hd;rw[HC] at Hk;have Hl:=J0.k (k:=oJ t) (v:=V.int (dO t gs+a)) hd (aY (by lia));rw[HC] at Hl;refine⟨_,rfl,d,rfl,.inl ⟨gu,.inl hd⟩,_,rfl,cI gu (oJ t),Hk,_,rfl,_,_,hv t,rfl,_,rfl,_,rfl,d,_,rfl,Hl,?_⟩;refine k _ ç ⟨_,aB,?_,λ k'=>?_⟩
  ·have:=eZ gu (oJ t) (V.int (dO t gs+a));rw[à];simp;lia
  ·rw[nP,mJ]
   by_cases e:k'=t
   ·subst e;rw[Å rfl];show V.int _=V.int _;simp [dO]
   ·rw[Ä (λ z=>e (HB z)),hv k'];have:¬ t=k':=λ z=>e z.symm;simp [dO,this]
theorem aO {α:Type}{xs:List α}{i:Nat}{x:α} (h:xs[i]? = some x):xs.take (i+1)=xs.take i++[x]:=by
 rw[ĵ,h];rfl
theorem jR {H:Hp}{outs:List (Option Int×Int)}{xs:List V}{i:Nat}{x:V} (l:IsL K H (outs.map outD) xs) (h:xs[i]? = some x) :
  ∃ o,outs[i]? = some o/\∃ a,x=.ref a/\bC K H a [iN o.1,.int o.2]:=by
 obtain⟨d,hd,hx⟩:=l.get' h;rw[Ð] at hd;cases e:outs[i]? with
 | none=>rw[e] at hd;cases hd
 | some o=>
  rw[e] at hd;cases hd;refine (aK o rfl ?_);obtain⟨a,ys,rfl,q,l⟩:=(show Is K H (.tup [EV o.1,.int o.2]) x from hx).un;obtain⟨y,r,rfl,hy,l⟩:=l.un;obtain⟨z,r,rfl,hz,l⟩:=l.un;have:=l.un0;subst this;rw[Is.tg hy,hz.ui] at q;exact (aK a rfl q)
def vI (K:Ç):Sp:=λ vs H Q _=>∃ (o d:Á) (has:Int) (outs gs:List (Option Int×Int)) (n:Nat),vs=[.ref o,.int has,.ref d]/\Is K H (.tup (outs.map outD)) (.ref o)/\kD H d gs/\gs.length+3<=1000/\
 outs≠[]/\outs.length<=3/\(∀ x∈outs,OutOk n x)/\∀ H',cK d H H'->kD H' d (gs++outs.map λ x=>(x.1,has / whole outs * x.2))->Q (.int (has % whole outs)) H'
theorem nV:FnScope ["outs","has","sent","whole","times","target","parts"] ["outs","has","sent"] (aL (bW 16)):={}
theorem wB {f fS:Á}{fd Hm:FuncData} (F:Fun K "share_out" "share_out" (bW 16) f fd) (T:Txt mg) (rq:Callee P w K mg base "send" ["sent","target","amount"] 1 vJ fS Hm):FnOk P w K mg base kA 2 f fd ["outs","has","sent"] (vI K):=by
 refine F.ok nV (λ vs H Q E h=>?_) (λ ja A outer s H vs Q E hr h=>?_)
 ·obtain⟨o,d,has,outs,gs,n,rfl,_⟩:=h;rfl
 ·obtain⟨o,d,has,outs,gs,n,rfl,ho,hd,hg,vb,h3,hok,k⟩:=h;have sc:=nV;refine⟨_,(aD (pL 3 sc.nd (bB (jE (K:=K) rfl rfl) rfl T.b_sum Ť (aA (eW (λ _ _ h=>h) rfl (LcOk.mk (N':=["target","parts"]) (fr:=[none,none]) rfl trivial rfl rfl rfl rfl rfl trivial) (eG (K:=K) rfl (pv 0)) (λ _ _ _=>(bA (K:=K) (n:=2) rfl rfl (aG (gC 0 ["target","parts"]) (aG (gC 1 ["target","parts"]) aZ)))) (λ _ _ _=>bS) (λ _ _ _=>(pv 1))) aC)))
   (aD (pL 4 sc.nd (aS jT (pv 1) (bB (mC rfl) rfl T.b_max ť (aA aF (aA (pv 3) aC)))))
   (aD (cX ï rfl (eG (K:=K) rfl (pv 0)) (bA (K:=K) (n:=2) rfl rfl (aG (gL 5 sc.nd) (aG (gL 6 sc.nd) aZ))) (aI (cZ (eX rq hr (aA (pv 2) (aA (pv 5) (aA (aS jS (pv 6) (pv 4)) aC)))))))
   (aI (bG (aS iB (pv 1) (aS jS (pv 3) (pv 4)))))))),?_⟩
  have Pd:=uA vb hok;have Lz:=qZ hok;obtain⟨o',xs,e,hq,hl⟩:=ho.un;cases e;have Dv:xs.length=outs.length:=by rw[hl.length,Ê]
  refine⟨_,rfl,o,rfl,⟨_,hq⟩,iW (K:=K) (a:=o) (xs:=xs) (λ D i ys ad H'=>H D=none/\aE H H'/\H' D=some (.lst ys)/\ys=(outs.take i).map (λ x=>V.int x.2)/\∃ x y,ad=[x,y])
   (λ D i ys ad H' p=>p.2.1.tup hq) (λ D hD=>⟨hD,È hD,aB,by simp,none,none,rfl⟩) ?_ ?_⟩
  rotate_left
  ·rintro D i x ys ad H' hx ⟨hD,sm,iw,rfl,v1,v2,rfl⟩;obtain⟨ot,wy,a,rfl,qa⟩:=jR hl hx;have hil:=(Ò.mp wy).1;refine (aX a _ rfl ⟨sm.tup qa,rfl,(aX _ _ rfl (aX _ _ rfl ⟨rfl,?_⟩))⟩);refine fI ⟨_,rfl,iw,aY (by simp;lia),hD,sm.put hD,aB,?_,_,_,rfl⟩;rw[aO wy];simp
  ·rintro D ys ad H1 ⟨hD,sm,iw,rfl,_⟩;rw[Dv,Ù] at iw;refine⟨false,D,outs.map (·.2),rfl,Ë (by rw[ú];exact iw),?_⟩;refine (aK _ rfl (aK _ rfl (aX _ _ rfl (aX _ _ rfl ⟨rfl,?_,?_⟩))))
   ·show 0 < (if whole outs > 1 then whole outs else 1)/\(if whole outs > 1 then whole outs else 1) < 1073741824
    split <;> lia
   have hm:(if whole outs > 1 then whole outs else 1)=whole outs:=by split <;> lia
   show iZ _ _ _ [some (V.ref o),some (V.int has),some (V.ref d),some (V.int (whole outs)),some (V.int (has / (if whole outs > 1 then whole outs else 1))),none,none] _;rw[hm];have Pe:kD H1 d gs:=by obtain⟨gu,e,r⟩:=hd;exact⟨gu,sm _ _ e,r⟩
   have tsH:bJ K H H1:=sm.ts;refine⟨_,rfl,o,rfl,⟨_,sm.tup hq⟩,oO (K:=K) (a:=o) (xs:=xs) (λ i ad H'=>cK d H1 H'/\kD H' d (gs++(outs.take i).map λ x=>(x.1,has / whole outs * x.2))/\
    ∃ x y,ad=[some (V.ref o),some (V.int has),some (V.ref d),some (V.int (whole outs)),some (V.int (has / whole outs)),x,y]) ⟨Ę _,by simpa using Pe,none,none,rfl⟩
    (λ i ad H' _ p=>(p.1.ts Pe.mut) _ _ (sm.tup hq)) ?_ ?_⟩
   ·rintro DD i - lq x ad H2 hx ⟨bt,dg,v1,v2,rfl⟩;obtain⟨ot,wy,a,rfl,qa⟩:=jR hl hx;have hil:=(Ò.mp wy).1;have Hn:=hok ot (Ú wy);refine (aX a _ rfl ⟨(bt.ts Pe.mut) _ _ (sm.tup qa),rfl,(aX _ _ rfl (aX _ _ rfl ⟨rfl,?_⟩))⟩);refine⟨_,rfl,_,rfl,_,rfl,_,rfl,_,_,rfl,rfl,.inl ⟨by have:=Hn.lo;lia,by have:=Hn.hi;lia⟩,d,ot.1,ot.2 * (has / whole outs),_,rfl,dg,by simp;lia,λ H' X1 Vd=>?_⟩;refine lq _ _ ⟨bt.trans X1,?_,_,_,rfl⟩;rw[aO wy,Ó,<- ý];rw[Int.mul_comm] at Vd;exact Vd
   ·rintro ad H2 ⟨bt,dg,v1,v2,rfl⟩;rw[Dv,Ù] at dg;refine (aK _ rfl (aK _ rfl (aK _ rfl (aX _ _ rfl ⟨rfl,.inl ⟨by lia,by lia⟩,(aX _ _ rfl ⟨rfl,?_⟩)⟩))));have e:has - whole outs * (has / whole outs)=has % whole outs:=by
     have:=Int.emod_add_mul_ediv has (whole outs);lia
    show Q (V.int (has - whole outs * (has / whole outs))) H2;rw[e];exact k H2 (sm.but.trans bt) dg
theorem uB {H:Hp}{v:Vs}{x:V} (h:Is K H (qK v) x):∃ (a:Á) (o c:V),x=.ref a/\bC K H a [.int v.size,.int v.brim,o,.bl v.holds,iN v.spill,c]/\Is K H (.tup (v.outs.map outD)) o/\Is K H (.tup (v.acts.map qJ)) c:=by
 obtain⟨a,xs,rfl,q,l⟩:=(show Is K H (.tup [.int v.size,.int v.brim,.tup (v.outs.map outD),.bl v.holds,EV v.spill,.tup (v.acts.map qJ)]) x from h).un;obtain⟨x1,r,rfl,h1,l⟩:=l.un;obtain⟨x2,r,rfl,h2,l⟩:=l.un;obtain⟨x3,r,rfl,h3,l⟩:=l.un;obtain⟨x4,r,rfl,h4,l⟩:=l.un;obtain⟨x5,r,rfl,h5,l⟩:=l.un;obtain⟨x6,r,rfl,h6,l⟩:=l.un;have:=l.un0;subst this;rw[h1.ui,h2.ui,h4.ub,Is.tg h5] at q;exact (uS a x3 x6 rfl ⟨q,h3,h6⟩)
def rG (K:Ç):Sp:=λ vs H Q _=>∃ (x:V) (d:Á) (has:Int) (v:Vs) (gs:List (Option Int×Int)) (n m:Nat),vs=[x,.int has,.ref d]/\Is K H (qK v) x/\kD H d gs/\gs.length+5<=1000/\VOk n m v/\
 ∀ p H',cK d H H'->kD H' d (gs++gE v has)->bC K H' p [.int (gD v has),.bl (kJ v has)]->Q (.ref p) H'
theorem uG:FnScope ["vessel","has","sent","size","brim","outs","holds","spill","acts","over","left"] ["vessel","has","sent"] (aL (bW 15)):={}
theorem DC {f fS fO:Á}{fd Hm Pf:FuncData} (F:Fun K "settle" "settle" (bW 15) f fd) (T:Txt mg) (rq:Callee P w K mg base "send" ["sent","target","amount"] 1 vJ fS Hm)
  (tw:Callee P w K mg base "share_out" ["outs","has","sent"] 2 (vI K) fO Pf):FnOk P w K mg base kA 3 f fd ["vessel","has","sent"] (rG K):=by
 refine F.ok uG (λ vs H Q E h=>?_) (λ ja A outer s H vs Q E hr h=>?_)
 ·obtain⟨x,d,has,v,gs,n,m,rfl,_⟩:=h;rfl
 ·obtain⟨x,d,has,v,gs,n,m,rfl,hx,hd,hg,ok,k⟩:=h;have sc:=uG;refine⟨_,(aD (dU (pv 0) (bA (K:=K) (n:=6) rfl rfl (aG (gL 3 sc.nd) (aG (gL 4 sc.nd) (aG (gL 5 sc.nd) (aG (gL 6 sc.nd) (aG (gL 7 sc.nd) (aG (gL 8 sc.nd) aZ))))))))
   (aD (pL 9 sc.nd (bB (mC rfl) rfl T.b_max ť (aA aF (aA (aS iB (pv 1) (pv 4)) aC))))
   (aD (cZ (eX rq hr (aA (pv 2) (aA (pv 7) (aA (pv 9) aC)))))
   (aD (G8 (i:=1) sc.nd rfl (Or.inl rfl) (pv 9) NQ)
   (aD (dA (bF oB (pv 1) (pv 3) (bH _)) (aI (bG (aU (aA (pv 1) (aA eA aC))))) bK)
   (aD (pL 10 sc.nd (eX tw hr (aA (pv 5) (aA (pv 1) (aA (pv 2) aC)))))
   (aD (dA (eU (pv 6)) (aI (bG (aU (aA (pv 10) (aA eA aC))))) bK)
   (aD (cZ (eX rq hr (aA (pv 2) (aA fU (aA (pv 10) aC)))))
   (aI (bG (aU (aA aF (aA eA aC))))))))))))),?_⟩
  obtain⟨a,o,c,rfl,q,ho,hc⟩:=uB hx;refine⟨_,rfl,a,_,rfl,q,rfl,_,_,rfl,_,_,rfl,_,_,rfl,_,_,rfl,_,_,rfl,_,_,rfl,rfl,?_⟩;refine (aK _ rfl (aK _ rfl (aX _ _ rfl ⟨rfl,(aX _ _ rfl ?_)⟩)));have eo:(if has - v.brim > 0 then has - v.brim else 0)=has - bT v has:=by unfold bT;split <;> lia
  show iZ _ _ _ [some (V.ref a),some (V.int has),some (V.ref d),some (V.int v.size),some (V.int v.brim),some o,some (V.bl v.holds),some (iN v.spill),some c,some (V.int (if has - v.brim > 0 then has - v.brim else 0)),none] _;rw[eo];refine (aK _ rfl (aK _ rfl (aK _ rfl ⟨d,v.spill,has - bT v has,(aK gs rfl ⟨hd,by lia,λ H1 b1 d1=>?_⟩)⟩)));have Ma:bJ K H H1:=b1.ts hd.mut;refine (aK _ rfl (aK _ rfl (aX _ _ rfl ⟨rfl,?_⟩)));have eh:has - (has - bT v has)=bT v has:=by lia
  show iZ _ _ _ [some (V.ref a),some (V.int (has - (has - bT v has))),some (V.ref d),some (V.int v.size),some (V.int v.brim),some o,some (V.bl v.holds),some (iN v.spill),some c,some (V.int (has - bT v has)),none] _;rw[eh];refine (aK _ rfl (aK _ rfl (aX _ _ rfl ⟨rfl,(aK _ rfl ?_)⟩)));refine gX (λ jk=>?_) (λ mr=>?_)
  ·have Pg:bT v has < v.size:=ĕ jk;have ht:kJ v has=false:=þ (by lia);refine (aK _ rfl ⟨(show 2<=sizeLine by decide),λ p hp=>?_⟩);refine k p _ (b1.trans (È hp).but) ?_ ?_
   ·have:gE v has=[(v.spill,has - bT v has)]:=by unfold gE;rw[ht];rfl
    rw[this];obtain⟨gu,e,r⟩:=d1;exact⟨gu,È hp _ _ e,r⟩
   ·have:gD v has=bT v has:=by unfold gD;rw[ht];rfl
    rw[this,ht];exact Ì aB
  ·have Ph:v.size<=bT v has:=by simpa using mr
   have ht:kJ v has=true:=ò Ph;obtain⟨oa,os,rfl,_,_⟩:=ho.un;refine⟨_,rfl,_,rfl,_,rfl,oa,d,bT v has,v.outs,_,n,rfl,Ï Ma _ _ ho,d1,by simp;lia,ok.ne,ok.o3,ok.outs,λ H2 b2 d2=>?_⟩;refine (aK _ rfl (aK _ rfl ?_));cases hh:v.holds with
   | true=>
    refine iC ?_;refine (aK _ rfl ⟨(show 2<=sizeLine by decide),λ p hp=>?_⟩);refine k p _ (b1.trans (b2.trans (È hp).but)) ?_ ?_
    ·have:gs++gE v has=(gs++[(v.spill,has - bT v has)])++v.outs.map λ x=>(x.1,bT v has / whole v.outs * x.2):=by
      unfold gE g9;rw[ht,hh];simp
     rw[this];obtain⟨gu,e,r⟩:=d2;exact⟨gu,È hp _ _ e,r⟩
    ·have:gD v has=bT v has % whole v.outs:=by unfold gD;rw[ht,hh];rfl
     rw[this,ht];exact Ì aB
   | false=>
    refine fL ?_;refine⟨_,rfl,_,rfl,d,none,bT v has % whole v.outs,_,rfl,d2,by simp;have:=ok.o3;lia,λ H3 b3 d3=>?_⟩;refine⟨(show 2<=sizeLine by decide),λ p hp=>?_⟩;refine k p _ (b1.trans (b2.trans (b3.trans (È hp).but))) ?_ ?_
    ·have:gs++gE v has=((gs++[(v.spill,has - bT v has)])++v.outs.map λ x=>(x.1,bT v has / whole v.outs * x.2))++[(none,bT v has % whole v.outs)]:=by
      unfold gE g9;rw[ht,hh];simp
     rw[this];obtain⟨gu,e,r⟩:=d3;exact⟨gu,È hp _ _ e,r⟩
    ·have:gD v has=0:=by unfold gD;rw[ht,hh];rfl
     rw[this,ht];exact Ì aB
theorem qX {H:Hp}{acts:List (Str×Int)}{xs:List V}{i:Nat}{x:V} (l:IsL K H (acts.map qJ) xs) (h:xs[i]? = some x) :
  ∃ o,acts[i]? = some o/\∃ a,x=.ref a/\bC K H a [.str o.1,.int o.2]:=by
 obtain⟨d,hd,hx⟩:=l.get' h;rw[Ð] at hd;cases e:acts[i]? with
 | none=>rw[e] at hd;cases hd
 | some o=>
  rw[e] at hd;cases hd;refine (aK o rfl ?_);obtain⟨a,ys,rfl,q,l⟩:=(show Is K H (.tup [.str o.1,.int o.2]) x from hx).un;obtain⟨y,r,rfl,hy,l⟩:=l.un;obtain⟨z,r,rfl,hz,l⟩:=l.un;have:=l.un0;subst this;rw[hy.us,hz.ui] at q;exact (aK a rfl q)
theorem IU (ds:List Bool) (a:Str×Int):(AQ ds a).length=ds.length:=by unfold AQ;simp
theorem mG:∀ (as:List (Str×Int)) (ds:List Bool),(fH ds as).length=ds.length
 | [],ds=>rfl
 | a::as,ds=>by
  show (fH (AQ ds a) as).length=_;rw[mG as,IU]
theorem jY (vs:List Vs):∀ (tip:List Nat) (ds:List Bool),(cU vs ds tip).length=ds.length
 | [],ds=>rfl
 | i::r,ds=>by
  show (cU vs (match vs[i]? with | some v=>fH ds v.acts | none=>ds) r).length=_;rw[jY vs r];cases vs[i]? with
  | none=>rfl
  | some v=>exact mG _ _
theorem tI (ds:List Bool) (as:List (Str×Int)) (a:Str×Int):fH ds (as++[a])=AQ (fH ds as) a:=by
 unfold fH;rw[ŭ];rfl
theorem qC (vs:List Vs) (ds:List Bool) (tip:List Nat) (i:Nat) (v:Vs) (h:vs[i]? = some v):cU vs ds (tip++[i])=fH (cU vs ds tip) v.acts:=by
 unfold cU;rw[ŭ];show (match vs[i]? with | some v=>_ | none=>_)=_;rw[h]
def vN (K:Ç):Sp:=λ args H Q _=>∃ (x y:V) (t:Á) (vs:List Vs) (gn:List Bool) (tip:List Nat) (n:Nat),args=[x,y,.ref t]/\Is K H (.tup (vs.map qK)) x/\Is K H (.tup (gn.map D.bl)) y/\
 bD K H t (tip.map λ (i:Nat)=>V.int (i:Int))/\(∀ i∈tip,i < vs.length)/\(∀ v∈vs,VOk n gn.length v)/\gn.length<=12/\
 ∀ p H',aE H H'->Is K H' (.tup ((cU vs gn tip).map D.bl)) p->Q p H'
theorem kB:FnScope ["vessels","doors","tipped","behind","number","size","brim","outs","holds","spill","acts","word","spout"] ["vessels","doors","tipped"] (aL (bW 18)):={}
theorem qG {f:Á}{fd:FuncData} (F:Fun K "doors_behind" "doors_behind" (bW 18) f fd) (T:Txt mg):FnOk P w K mg base kA 1 f fd ["vessels","doors","tipped"] (vN K):=by
 refine F.ok kB (λ vs H Q E h=>?_) (λ ja A outer s H vs Q E hr h=>?_)
 ·obtain⟨x,y,t,vs,gn,tip,n,rfl,_⟩:=h;rfl
 ·obtain⟨x,y,t,vs,gn,tip,n,rfl,hx,hy,ht,Pi,hok,hm,k⟩:=h;have sc:=kB;refine⟨_,(aD (pL 3 sc.nd (aW (pP (K:=K) rfl) rfl T.b_list oR (aA (pv 1) aC)))
   (aD (cX ï rfl (cL (K:=K) rfl (pv 2)) (gL 4 sc.nd) (aD (dU (px K (pv 0) (pv 4)) (bA (K:=K) (n:=6) rfl rfl (aG (gL 5 sc.nd) (aG (gL 6 sc.nd) (aG (gL 7 sc.nd) (aG (gL 8 sc.nd) (aG (gL 9 sc.nd) (aG (gL 10 sc.nd) aZ))))))))
   (aI (cX ï rfl (eG (K:=K) rfl (pv 10)) (bA (K:=K) (n:=2) rfl rfl (aG (gL 11 sc.nd) (aG (gL 12 sc.nd) aZ))) (aI (dU (OY (fN mR (pv 11) eI (bH _)) (zY (wA (fN mR (pv 11) eI (bH _)) (zY (vY (px K (pv 3) (pv 12))))))) (pD (pv 3) (pv 12) i7)))))))
   (aI (bG (aW (bI (K:=K) rfl) rfl T.b_tuple bQ (aA (pv 3) aC)))))),?_⟩
  obtain⟨ax,xs,rfl,qx,lx⟩:=hx.un;obtain⟨ay,ys,rfl,qy,ly⟩:=hy.un;have ey:=ly.bools;subst ey;have nt:xs.length=vs.length:=by rw[lx.length,Ê]
  refine (aK _ rfl (aX ay _ rfl ⟨.inr qy,λ b hb=>?_⟩));have nb:∀ {c:Á}{o:HO},H c=some o->c≠b:=λ e=>aH e hb;refine⟨_,rfl,t,rfl,⟨_,(È hb).seq ht⟩,oP (K:=K) (a:=t) (xs:=tip.map λ (i:Nat)=>V.int (i:Int))
   (λ i ad H'=>aE H H'/\H' b=some (.lst ((cU vs gn (tip.take i)).map V.bl))/\∃ v4 v5 v6 v7 v8 v9 jr ju me,ad=[some (.ref ax),some (.ref ay),some (.ref t),some (.ref b),v4,v5,v6,v7,v8,v9,jr,ju,me])
   ⟨È hb,aB,none,none,none,none,none,none,none,none,none,rfl⟩ (λ i ad H' _ p=>p.1.seq ht) ?_ ?_⟩
  ·rintro i x ad H1 hi ⟨sm,Mb,v4,v5,v6,v7,v8,v9,jr,ju,me,rfl⟩;rw[Ð] at hi;obtain⟨j,hj,rfl⟩:=ó.mp hi;have Ho:=Pi j (Ú hj);have hv:vs[j]? = some vs[j]:=by simp [Ho]
   have Pj:=hok vs[j] (ĳ Ho);obtain⟨xv,ya,Cj⟩:=lx.get (i:=j) (d:=qK vs[j]) (by rw[Ð,hv];rfl);obtain⟨va,o,c,rfl,qv,ho,hc⟩:=uB Cj;refine (aK _ rfl (aK _ rfl (.inr (.inl (iF ax xs j _ rfl ⟨rfl,sm.tup qx,bN ya,(aX va _ rfl ⟨sm.tup qv,rfl,(aX _ _ rfl (aX _ _ rfl (aX _ _ rfl (aX _ _ rfl (aX _ _ rfl (aX _ _ rfl ⟨rfl,?_⟩))))))⟩)⟩)))));obtain⟨ca,cs,rfl,qc,lc⟩:=hc.un;have Pk:cs.length=vs[j].acts.length:=by rw[lc.length,Ê]
   refine⟨_,rfl,ca,rfl,⟨_,sm.tup qc⟩,BU (K:=K) (a:=ca) (xs:=cs)
    (λ l ad H'=>aE H H'/\H' b=some (.lst ((fH (cU vs gn (tip.take i)) (vs[j].acts.take l)).map V.bl))/\
     ∃ Dw Hq,ad=[some (.ref ax),some (.ref ay),some (.ref t),some (.ref b),some (.int (j:Int)),some (.int vs[j].size),some (.int vs[j].brim),some o,some (.bl vs[j].holds),some (iN vs[j].spill),some (.ref ca),Dw,Hq])
    ⟨sm,Mb,ju,me,rfl⟩ (λ l ad H' _ p=>p.1.tup qc) ?_ ?_⟩
   ·rintro l x ad H2 hl ⟨jb,oj,Dw,Hq,rfl⟩;obtain⟨at',Hr,aa,rfl,qa⟩:=qX lc hl;have vz:=Pj.acts at' (Ú Hr);refine (aX aa _ rfl ⟨jb.tup qa,rfl,(aX _ _ rfl (aX _ _ rfl ⟨rfl,?_⟩))⟩);have Ci:(fH (cU vs gn (tip.take i)) (vs[j].acts.take l)).length=gn.length:=by rw[mG,jY]
    have ke:at'.2.toNat < (fH (cU vs gn (tip.take i)) (vs[j].acts.take l)).length:=by rw[Ci];have:=vz.lo;have:=vz.hi;lia
    have fin:∀ c:Bool,c=(if at'.1 = "open" then true else if at'.1 = "turn" then !((fH (cU vs gn (tip.take i)) (vs[j].acts.take l)).getD at'.2.toNat false) else false)->
      aE H (upd H2 b (.lst (((fH (cU vs gn (tip.take i)) (vs[j].acts.take l)).map V.bl).set at'.2.toNat (.bl c))))/\
      upd H2 b (.lst (((fH (cU vs gn (tip.take i)) (vs[j].acts.take l)).map V.bl).set at'.2.toNat (.bl c))) b=some (.lst ((fH (cU vs gn (tip.take i)) (vs[j].acts.take (l+1))).map V.bl)):=λ c hc=>by
     refine⟨jb.put hb,?_⟩;rw[aB,aO Hr,tI,AQ,<- hc,aho]
    have set:∀ c:Bool,c=(if at'.1 = "open" then true else if at'.1 = "turn" then !((fH (cU vs gn (tip.take i)) (vs[j].acts.take l)).getD at'.2.toNat false) else false)->
      HY (eD 3) (eD 12) y4 (.bl c) [some (.ref ax),some (.ref ay),some (.ref t),some (.ref b),some (.int (j:Int)),some (.int vs[j].size),some (.int vs[j].brim),some o,some (.bl vs[j].holds),some (iN vs[j].spill),some (.ref ca),some (.str at'.1),some (.int at'.2)] H2
       λ ad H'=>aE H H'/\H' b=some (.lst ((fH (cU vs gn (tip.take i)) (vs[j].acts.take (l+1))).map V.bl))/\
        ∃ Dw Hq,ad=[some (.ref ax),some (.ref ay),some (.ref t),some (.ref b),some (.int (j:Int)),some (.int vs[j].size),some (.int vs[j].brim),some o,some (.bl vs[j].holds),some (iN vs[j].spill),some (.ref ca),Dw,Hq]:=λ c hc=>by
     obtain⟨f1,f2⟩:=fin c hc;refine⟨_,rfl,_,rfl,b,_,at'.2,at'.2.toNat,rfl,rfl,oj,qQ vz.lo (by rw[Ê];lia),f1,f2,_,_,rfl⟩
    refine (aK _ rfl ⟨rfl,(aK _ rfl ?_)⟩);refine gX (λ h1=>?_) (λ h1=>?_)
    ·have e1:at'.1 = "open" := by have:=ĕ h1;injection this
     exact set true (by rw[Å e1])
    ·have e1:¬ at'.1 = "open" := λ z=>h1 (ò (by rw[z]));refine (aK _ rfl ⟨rfl,(aK _ rfl ?_)⟩);refine gX (λ h2=>?_) (λ h2=>?_)
     ·have e2:at'.1 = "turn" := by have:=ĕ h2;injection this
      have hg:((fH (cU vs gn (tip.take i)) (vs[j].acts.take l)).map V.bl)[at'.2.toNat]? = some (.bl ((fH (cU vs gn (tip.take i)) (vs[j].acts.take l)).getD at'.2.toNat false)):=by
       rw[Ð,Ē];simp [ke]
      refine (aK _ rfl (aK _ rfl (.inl ⟨b,_,at'.2,(aK _ rfl ⟨rfl,Ë oj,qW vz.lo hg,(aK _ rfl ?_)⟩)⟩)));exact set _ (by rw[Ä e1,Å e2])
     ·have e2:¬ at'.1 = "turn" := λ z=>h2 (ò (by rw[z]));exact set false (by rw[Ä e1,Ä e2])
   ·rintro ad H2 ⟨jb,oj,Dw,Hq,rfl⟩;rw[Pk,Ù] at oj;refine⟨jb,?_,_,_,_,_,_,_,_,_,_,rfl⟩;rw[aO hj,qC vs gn _ j vs[j] hv];exact oj
  ·rintro ad H1 ⟨sm,Mb,v4,v5,v6,v7,v8,v9,jr,ju,me,rfl⟩;rw[Ê,Ù] at Mb;refine (aK _ rfl (aX b _ rfl (.inl ⟨Ë Mb,λ l hl=>?_⟩)));exact k _ _ (sm.trans (È hl)) (Ô (Ì aB) (IsL.of_bools _))
theorem jG:∀ {a b c:List Int}{n:Nat},a.length=n->b.length=n->c.length=n->(iJ a b c).length=n
 | [],b,c,n,h,_,_=>by simp at h;subst h;rfl
 | x::a,[],c,n,h1,h2,_=>by simp at h1 h2;lia
 | x::a,y::b,[],n,h1,_,h3=>by simp at h1 h3;lia
 | x::a,y::b,z::c,n,h1,h2,h3=>by
  simp at h1 h2 h3;show (iJ a b c).length+1=n;rw[jG (n:=n - 1) (by lia) (by lia) (by lia)];lia
theorem tH:∀ {a b c:List Int}{i:Nat}{x y z:Int},a[i]? = some x->b[i]? = some y->c[i]? = some z->(iJ a b c)[i]? = some (x+y+z)
 | [],_,_,i,_,_,_,h,_,_=>by simp at h
 | _::_,[],_,i,_,_,_,_,h,_=>by simp at h
 | _::_,_::_,[],i,_,_,_,_,_,h=>by simp at h
 | a::as,b::bs,c::cs,0,x,y,z,h1,h2,h3=>by simp at h1 h2 h3;subst h1 h2 h3;rfl
 | a::as,b::bs,c::cs,i+1,x,y,z,h1,h2,h3=>by
  show (iJ as bs cs)[i]? = _;exact tH (by simpa using h1) (by simpa using h2) (by simpa using h3)
theorem E4 (has:List Int) (s:xP) (d:Bool):(sV has s d).length=has.length:=by unfold sV;split <;> simp
theorem hR:∀ (ss:List xP) (ds:List Bool) (has:List Int),(fT has ss ds).length=has.length
 | [],ds,has=>by cases ds <;> rfl
 | s::ss,[],has=>rfl
 | s::ss,d::ds,has=>by show (fT (sV has s d) ss ds).length=_;rw[hR ss ds,E4]
theorem nF:∀ (ss:List xP) (ds:List Bool) (i:Nat) (has:List Int) (s:xP) (d:Bool),ss[i]? = some s->ds[i]? = some d->fT has (ss.take (i+1)) (ds.take (i+1))=sV (fT has (ss.take i) (ds.take i)) s d
 | [],_,i,_,_,_,h,_=>by simp at h
 | _::_,[],i,_,_,_,_,h=>by simp at h
 | a::ss,b::ds,0,has,s,d,h1,h2=>by simp at h1 h2;subst h1 h2;simp [fT]
 | a::ss,b::ds,i+1,has,s,d,h1,h2=>by
  simp only [Ũ,fT];exact nF ss ds i _ s d (by simpa using h1) (by simpa using h2)
theorem nC:∀ (vs:List Vs) (hs:List Int) (i:Nat) (v:Vs) (h:Int),vs[i]? = some v->hs[i]? = some h->cO (vs.take (i+1)) (hs.take (i+1))=cO (vs.take i) (hs.take i)++gE v h
 | [],_,i,_,_,h,_=>by simp at h
 | _::_,[],i,_,_,_,h=>by simp at h
 | a::vs,b::hs,0,v,h,h1,h2=>by simp at h1 h2;subst h1 h2;simp [cO]
 | a::vs,b::hs,i+1,v,h,h1,h2=>by
  simp only [Ũ,cO,ý];rw[nC vs hs i v h (by simpa using h1) (by simpa using h2)]
theorem kL:∀ (vs:List Vs) (hs:List Int) (i:Nat) (v:Vs) (h:Int),vs[i]? = some v->hs[i]? = some h->eE (vs.take (i+1)) (hs.take (i+1))=eE (vs.take i) (hs.take i)++[gD v h]
 | [],_,i,_,_,h,_=>by simp at h
 | _::_,[],i,_,_,_,h=>by simp at h
 | a::vs,b::hs,0,v,h,h1,h2=>by simp at h1 h2;subst h1 h2;simp [eE]
 | a::vs,b::hs,i+1,v,h,h1,h2=>by
  simp only [Ũ,eE,Ľ];rw[kL vs hs i v h (by simpa using h1) (by simpa using h2)]
theorem mW:∀ (vs:List Vs) (hs:List Int) (i j:Nat) (v:Vs) (h:Int),vs[i]? = some v->hs[i]? = some h->bP j (vs.take (i+1)) (hs.take (i+1))=bP j (vs.take i) (hs.take i)++(if kJ v h=true then [j+i] else [])
 | [],_,i,_,_,_,h,_=>by simp at h
 | _::_,[],i,_,_,_,_,h=>by simp at h
 | a::vs,b::hs,0,j,v,h,h1,h2=>by
  simp at h1 h2;subst h1 h2;simp only [Ũ,Ř,bP,ahp,agl]
 | a::vs,b::hs,i+1,j,v,h,h1,h2=>by
  simp only [Ũ,bP];rw[mW vs hs i (j+1) v h (by simpa using h1) (by simpa using h2)];have e:j+1+i=j+(i+1):=by lia
  rw[e]
  split <;> simp
theorem rD:∀ (vs:List Vs) (hs:List Int) (j k:Nat),k∈bP j vs hs->j<=k/\k < j+vs.length
 | [],_,_,k,h=>by simp [bP] at h
 | _::_,[],_,k,h=>by simp [bP] at h
 | a::vs,b::hs,j,k,h=>by
  simp only [bP] at h;have ih:=rD vs hs (j+1) k;simp only [ë]
  split at h
  ·rcases Ý.mp h with rfl | h
   ·lia
   ·have:=ih h;lia
  ·have:=ih h;lia
theorem lM:∀ (vs:List Vs) (hs:List Int) (j:Nat),(bP j vs hs).length<=vs.length
 | [],_,_=>by simp [bP]
 | _::_,[],_=>by simp [bP]
 | a::vs,b::hs,j=>by
  simp only [bP,ë];have:=lM vs hs (j+1)
  split
  ·rw[ë];lia
  ·lia
theorem lW {n m:Nat}:∀ (vs:List Vs) (hs:List Int),(∀ v∈vs,VOk n m v)->(cO vs hs).length<=5 * vs.length
 | [],_,_=>by simp [cO]
 | _::_,[],_=>by simp [cO]
 | a::vs,b::hs,h=>by
  simp only [cO,à,ë];have h1:=CP (h a ą) b;have h2:=lW vs hs λ v hv=>h v (ô _ hv);lia
theorem oY {H:Hp}{sps:List xP}{xs:List V}{i:Nat}{x:V} (l:IsL K H (sps.map xN) xs) (h:xs[i]? = some x) :
  ∃ s,sps[i]? = some s/\∃ a,x=.ref a/\bC K H a [.int s.1,.int s.2.1,.bl s.2.2]:=by
 obtain⟨d,hd,hx⟩:=l.get' h;rw[Ð] at hd;cases e:sps[i]? with
 | none=>rw[e] at hd;cases hd
 | some o=>
  rw[e] at hd;cases hd;refine (aK o rfl ?_);obtain⟨a,ys,rfl,q,l⟩:=(show Is K H (.tup [.int o.1,.int o.2.1,.bl o.2.2]) x from hx).un;obtain⟨y,r,rfl,hy,l⟩:=l.un;obtain⟨z,r,rfl,hz,l⟩:=l.un;obtain⟨z2,r,rfl,Be,l⟩:=l.un;have:=l.un0;subst this;rw[hy.ui,hz.ui,Be.ub] at q;exact (aK a rfl q)
theorem AY {H:Hp}{gw gm:List Int}{gn:List Bool}{y:V} (h:Is K H (J3 gw gm gn) y):∃ (a b c d:Á),y=.ref a/\bC K H a [.ref b,.ref c,.ref d]/\bC K H b (gw.map V.int)/\bC K H c (gm.map V.int)/\bC K H d (gn.map V.bl):=by
 obtain⟨a,xs,rfl,q,l⟩:=(show Is K H (.tup [.tup (gw.map D.int),.tup (gm.map D.int),.tup (gn.map D.bl)]) y from h).un;obtain⟨x1,r,rfl,h1,l⟩:=l.un;obtain⟨x2,r,rfl,h2,l⟩:=l.un;obtain⟨x3,r,rfl,h3,l⟩:=l.un;have:=l.un0;subst this;obtain⟨b,ys,rfl,q1,l1⟩:=h1.un;obtain⟨c,zs,rfl,q2,l2⟩:=h2.un;obtain⟨d,us,rfl,q3,l3⟩:=h3.un;rw[l1.ints] at q1;rw[l2.ints] at q2;rw[l3.bools] at q3;exact (iF a b c d rfl ⟨q,q1,q2,q3⟩)
theorem AZ {H:Hp}{gw gm:List Int}{gn:List Bool}{a b c d:Á} (q:bC K H a [.ref b,.ref c,.ref d]) (q1:bC K H b (gw.map V.int)) (q2:bC K H c (gm.map V.int)) (q3:bC K H d (gn.map V.bl)):Is K H (J3 gw gm gn) (.ref a):=
 Ô q (.cons (Ô q1 (IsL.of_ints _)) (.cons (Ô q2 (IsL.of_ints _)) (.cons (Ô q3 (IsL.of_bools _)) .nil)))
def rJ (K:Ç):Sp:=λ args H Q _=>∃ (x y:V) (z:Á) (sps:List xP) (gw gm gp:List Int) (gn:List Bool) (n:Nat),args=[x,y,.ref z]/\Is K H (.tup (sps.map xN)) x/\Is K H (J3 gw gm gn) y/\bC K H z (gp.map V.int)/\
 gw.length=n/\gm.length=n/\gp.length=n/\gn.length=sps.length/\n<=12/\(∀ s∈sps,0<=s.1/\s.1 < n)/\
 ∀ p H',aE H H'->H p=none->H' p=some (.lst ((fT (iJ gw gm gp) sps gn).map V.int))->Q (.ref p) H'
theorem uH:FnScope ["spouts","state","poured","held","coming","doors","has","target","flow","first_door","door"] ["spouts","state","poured"] (aL (bW 14)):={}
theorem DF {f:Á}{fd:FuncData} (F:Fun K "filled" "filled" (bW 14) f fd) (T:Txt mg):FnOk P w K mg base kA 1 f fd ["spouts","state","poured"] (rJ K):=by
 refine F.ok uH (λ vs H Q E h=>?_) (λ ja A outer s H vs Q E hr h=>?_)
 ·refine ĸ λ _ ŉ=>?_;obtain⟨x,y,z,sps,gw,gm,gp,gn,n,rfl,_⟩:=h;refine ŉ ?_;rfl
 ·refine ĸ λ _ ŉ=>?_;obtain⟨x,y,z,sps,gw,gm,gp,gn,n,rfl,hx,hy,qz,l1,l2,l3,l4,hn,ke,k⟩:=h;refine ŉ ?_;have sc:=uH;refine⟨_,(aD (dU (pv 1) (bA (K:=K) (n:=3) rfl rfl (aG (gL 3 sc.nd) (aG (gL 4 sc.nd) (aG (gL 5 sc.nd) aZ)))))
   (aD (h9 (i:=6) sc.nd rfl rfl (λ _ _ h=>h) rfl (LcOk.mk (N':=["amounts"]) (fr:=[none]) rfl trivial rfl rfl rfl rfl rfl trivial) (GD (K:=K) rfl rfl T.b_zip (aA (pv 3) (aA (pv 4) (aA (pv 2) aC)))) (λ _ _ _=>(gC 0 ["amounts"])) (λ _ _ _=>bS) (λ _ _ _=>(bB (jE (K:=K) rfl rfl) rfl T.b_sum Ť (aA (pv 0) aC))))
   (aD (cX ï rfl (yA (K:=K) rfl rfl T.b_zip (aA (pv 0) (aA (pv 5) aC))) (bA (K:=K) (n:=2) rfl rfl (aG (bA (K:=K) (n:=3) rfl rfl (aG (gL 7 sc.nd) (aG (gL 8 sc.nd) (aG (gL 9 sc.nd) aZ)))) (aG (gL 10 sc.nd) aZ))) (aI (dA (eU (pv 10)) (aI (JZ (pv 6) (pv 7) (DZ (K:=K) rfl) (pv 8) HL i7)) bK)))
   (aI (bG (pv 6)))))),?_⟩
  obtain⟨ax,xs,rfl,qx,lx⟩:=hx.un;refine ĸ λ _ ŉ=>?_;obtain⟨ay,a1,a2,a3,rfl,qy,q1,q2,q3⟩:=AY hy;refine ŉ ?_;have nt:xs.length=sps.length:=by rw[lx.length,Ê]
  refine⟨_,rfl,ay,_,rfl,qy,rfl,_,_,rfl,_,_,rfl,_,_,rfl,rfl,?_⟩;have la:=jG l1 l2 l3;refine⟨_,rfl,_,rfl,_,rfl,true,true,true,a1,a2,z,rfl,⟨_,q1⟩,⟨_,q2⟩,⟨_,qz⟩,KP (K:=K) (xs:=gw.map V.int) (ys:=gm.map V.int) (zs:=gp.map V.int) (n:=n) (by simpa using l1) (by simpa using l2) (by simpa using l3)
   (λ D i r ad H'=>H D=none/\aE H H'/\H' D=some (.lst r)/\r=((iJ gw gm gp).take i).map V.int/\∃ v,ad=[v])
   (λ D i r ad H' p=>⟨p.2.1.tup q1,p.2.1.tup q2,p.2.1.tup qz⟩) (λ D hD=>⟨hD,È hD,aB,by simp,none,rfl⟩) ?_ ?_⟩
  rotate_left
  ·rintro D i x0 y0 z0 r ad H' Tt zc Mc Ve ⟨hD,sm,iw,rfl,v,rfl⟩ hT;rw[Ð] at zc Mc Ve;obtain⟨x,hx,rfl⟩:=ó.mp zc;obtain⟨y,hy,rfl⟩:=ó.mp Mc;obtain⟨z',hz,rfl⟩:=ó.mp Ve;have hi:=tH hx hy hz;have hil:=(Ò.mp hi).1;have nT:D≠Tt:=aH iw hT;refine eO ?_;refine⟨_,rfl,true,Tt,[x,y,z'],rfl,Ì aB,by rw[aJ nT];exact iw,aY (by simp;lia),hD,?_,aB,?_,_,rfl⟩
   ·intro b o e;rw[aJ (aH e hD)];exact È hT b o (sm b o e)
   ·rw[aO hi,Ó];have:[x,y,z'].sum=x+y+z':=by simp;lia
    rw[this];rfl
  ·rintro D r ad H1 ⟨hD,sm,iw,rfl,_⟩;rw[<- la,Ù] at iw;refine⟨_,rfl,_,rfl,true,true,ax,a3,rfl,⟨_,sm.tup qx⟩,⟨_,sm.tup q3⟩,yU (K:=K) (xs:=xs) (ys:=gn.map V.bl) (n:=sps.length) nt (by rw[Ê,l4])
    (λ i ad H'=>aE H H'/\H' D=some (.lst ((fT (iJ gw gm gp) (sps.take i) (gn.take i)).map V.int))/\
     ∃ v7 v8 v9 jr,ad=[some (.ref ax),some (.ref ay),some (.ref z),some (.ref a1),some (.ref a2),some (.ref a3),some (.ref D),v7,v8,v9,jr])
    (λ i ad H' p=>⟨p.1.tup qx,p.1.tup q3⟩) ⟨sm,by cases sps <;> exact iw,none,none,none,none,rfl⟩ ?_ ?_⟩
   ·rintro ad H2 zF;refine ĸ λ _ ŉ=>?_;obtain⟨jb,h2,v7,v8,v9,jr,rfl⟩:=zF;refine ŉ ?_;rw[<- l4,Ù] at h2;rw[l4,Ù] at h2;refine (aK _ rfl ?_);exact k D H2 jb hD h2
   ·rintro i x y ad H2 Tt hx hy ⟨jb,h2,v7,v8,v9,jr,rfl⟩ hT;obtain⟨sp,yb,sa,rfl,qs⟩:=oY lx hx;rw[Ð] at hy;obtain⟨dr,Md,rfl⟩:=ó.mp hy;have nT:D≠Tt:=aH h2 hT;have jv:aE H (upd H2 Tt (.tup [.ref sa,.bl dr])):=λ b o e=>È hT b o (jb b o e);have h3:upd H2 Tt (.tup [.ref sa,.bl dr]) D=some (.lst ((fT (iJ gw gm gp) (sps.take i) (gn.take i)).map V.int)):=by rw[aJ nT];exact h2
    refine (aX Tt _ rfl ⟨Ì aB,rfl,(aX _ _ rfl (aX sa _ rfl ⟨jv.tup qs,rfl,(aX _ _ rfl (aX _ _ rfl (aX _ _ rfl ⟨rfl,(aX _ _ rfl ⟨rfl,?_⟩)⟩)))⟩))⟩);refine (aK _ rfl (aK _ rfl ?_));have snoc:=nF sps gn i (iJ gw gm gp) sp dr yb Md;cases dr with
    | false=>
     refine fL ?_;refine⟨jv,?_,_,_,_,_,rfl⟩;rw[snoc];exact h3
    | true=>
     refine iC ?_;have hs:=ke sp (Ú yb);have gy:(fT (iJ gw gm gp) (sps.take i) (gn.take i)).length=n:=by rw[hR,la]
     have jk:sp.1.toNat < (fT (iJ gw gm gp) (sps.take i) (gn.take i)).length:=by rw[gy];lia
     have hg:((fT (iJ gw gm gp) (sps.take i) (gn.take i)).map V.int)[sp.1.toNat]? = some (.int ((fT (iJ gw gm gp) (sps.take i) (gn.take i)).getD sp.1.toNat 0)):=by
      rw[Ð,Ē];simp [jk]
     refine⟨_,rfl,_,rfl,D,_,sp.1,_,rfl,rfl,Ë h3,hs.1,by lia,hg,_,rfl,_,_,rfl,rfl,D,_,sp.1,sp.1.toNat,rfl,rfl,h3,qQ hs.1 (by rw[Ê,gy];lia),?_⟩;refine⟨jv.put hD,?_,_,_,_,_,rfl⟩;rw[aB,snoc,sV,Å rfl,aho]
theorem jK:∀ (vs:List Vs) (hs:List Int),vs.length=hs.length->(eE vs hs).length=vs.length
 | [],_,_=>by simp [eE]
 | _::_,[],h=>by simp at h
 | a::vs,b::hs,h=>by simp only [eE,ë];rw[jK vs hs (by simpa using h)]
theorem gO {H:Hp}{gk:Net}{x:V} (h:Is K H (iG gk) x):∃ (a b c:Á) (xs ys:List V),x=.ref a/\bC K H a [.ref b,.ref c]/\bC K H b xs/\IsL K H (gk.vs.map qK) xs/\bC K H c ys/\IsL K H (gk.sps.map xN) ys:=by
 obtain⟨a,zs,rfl,q,l⟩:=(show Is K H (.tup [.tup (gk.vs.map qK),.tup (gk.sps.map xN)]) x from h).un;obtain⟨x1,r,rfl,h1,l⟩:=l.un;obtain⟨x2,r,rfl,h2,l⟩:=l.un;have:=l.un0;subst this;obtain⟨b,xs,rfl,q1,l1⟩:=h1.un;obtain⟨c,ys,rfl,q2,l2⟩:=h2.un;exact (J4 a b c xs ys rfl ⟨q,q1,l1,q2,l2⟩)
structure StOk (net:Net) (held coming:List Int) (doors:List Bool):Prop where
 h:held.length=net.vs.length
 c:coming.length=net.vs.length
 d:doors.length=net.sps.length
theorem kN:FnScope ["net","state","poured","vessels","spouts","held","tipped","sent","number","has","left","tips","coming","doors"] ["net","state","poured"] (aL (bW 13)):={}
def fM (H:Hp) (t sl:Á):Prop:=∃ (ns:List Int) (pos cell:Int),H t=some (.lst [.ref sl,.int pos,.int cell])/\H sl=some (.lst (ns.map V.int))/\ns.length<=1000
theorem fM.mut {H:Hp}{t sl:Á} (h:fM H t sl):mH (H t):=by obtain⟨ns,pos,cell,e,_⟩:=h;rw[e];exact trivial
theorem fM.same {H H':Hp}{t sl:Á} (h:fM H t sl) (s:aE H H'):fM H' t sl:=by
 obtain⟨ns,pos,cell,e,f,g⟩:=h;exact⟨ns,pos,cell,s _ _ e,s _ _ f,g⟩
def iT:Sp:=λ vs H Q _=>∃ (t sl:Á) (many:Int),vs=[.ref t,.int many]/\fM H t sl/\0 < many/\many < 1000000/\
 ∀ (r:Int) H',cK t H H'->fM H' t sl->0<=r->r < many->Q (.int r) H'
def JP:Sp:=λ vs H Q _=>∃ (t sl:Á) (many:Int),vs=[.ref t,.int many]/\fM H t sl/\0 < many/\many < 2 ^ 200/\
 ∀ (r:Int) H',cK t H H'->fM H' t sl->0<=r->r < many->Q (.int r) H'
abbrev vT (K:Ç):TS:=iZ (kK (jI (rI (λ _ j=>0 < j) λ i j=>.int (i % j)) (jI (zJ K) (eD 0) (tC (.int 2))) (eD 1)) (eB 4)) (iZ (kK (jI (rI ME λ i j=>.int (i / j)) (jI (zJ K) (eD 0) (tC (.int 2))) (eD 1)) (HY (eD 0) (tC (.int 2)) y4)) (OH (eD 4)))
abbrev FS (K:Ç):TS:=iZ (kK (jI (vU λ i j=>.int (i+j)) (jI (zJ K) (eD 0) (tC (.int 1))) (tC (.int 1))) (HY (eD 0) (tC (.int 1)) y4)) (kK (eD 3) (HY (eD 0) (tC (.int 2)) y4))
abbrev FT (K:Ç):TS:=iZ (kK (jI (rI (λ _ j=>0 < j) λ i j=>.int (i % j)) (jI (vU λ i j=>.int (i+j)) (eD 3) (jI (rI zI λ i j=>.int (i * j)) (tC (.int 1000003)) (jI (zJ K) (eD 0) (tC (.int 1))))) (eD 2)) (eB 3)) (iZ (kK (jI (rI (λ _ j=>0 < j) λ i j=>.int (i % j)) (jI (vU λ i j=>.int (i+j)) (jI (vU λ i j=>.int (i+j)) (jI (rI zI λ i j=>.int (i * j)) (eD 3) (eD 3)) (jI (rI zI λ i j=>.int (i * j)) (tC (.int 1181783497276652981)) (eD 3))) (tC (.int 2049848353892358983))) (eD 2)) (eB 3)) (kK (jI (rI (λ _ j=>0 < j) λ i j=>.int (i % j)) (jI (vU λ i j=>.int (i+j)) (jI (rI zI λ i j=>.int (i * j)) (eD 3) (eD 3)) (tC (.int 1442695040888963407))) (eD 2)) (eB 3)))
abbrev MZ (K:Ç):TT:=tOr (AW (jI (vU λ i j=>.bl (decide (j<=i))) (jI (zJ K) (eD 0) (tC (.int 1))) (MQ (N2 K) (dM (jI (zJ K) (eD 0) (tC (.int 0))) nQ)))) (AW (jI (vU λ i j=>.bl (decide (i < j))) (eD 3) (jI (rI Q0 λ i j=>.int (i ^ j.toNat)) (tC (.int 10)) (tC (.int 18)))))
abbrev dE (Q:VK):Ends:={ nx:=λ _ H'=>Q .non H',rt:=Q }
theorem o4:FnScope ["tape","many","prime","cell","found"] ["tape","many"] (aL (bW 29)):={}
theorem tT {f:Á}{fd:FuncData} (F:Fun K "_law_draw" "_law_draw" (bW 29) f fd) (T:Txt mg):FnOk P w K mg base kA 1 f fd ["tape","many"] JP:=by
 refine F.ok o4 (λ vs H Q E h=>?_) (λ ja A outer s H vs Q E hr h=>?_)
 ·obtain⟨t,sl,many,rfl,_⟩:=h;rfl
 ·obtain⟨t,sl,many,rfl,⟨ns,pos,cell,ht,qr,zd⟩,Hs,Am,k⟩:=h;have sc:=o4;refine⟨_,(aD (pL 2 sc.nd aF)
   (aD (dA (bF oB (px K (pv 0) aF) (pv 1) (bH _)) (aD (pL 3 sc.nd aF)
   (aD (dA (bF yF (pC K T.b_len (px K (pv 0) aF)) aF (bH _)) (aI (pL 3 sc.nd (px K (px K (pv 0) aF) (aS kZ (px K (pv 0) aF) (pC K T.b_len (px K (pv 0) aF)))))) bK)
   (aD (dA (PW.pt (q0 (bF BE (px K (pv 0) aF) (pC K T.b_len (px K (pv 0) aF)) (bH _)) (pB (bF oB (pv 3) (aS NC aF aF) (bH _))))) (aD (pL 3 sc.nd (aS kZ (aS cB (pv 3) (aS jS aF (px K (pv 0) aF))) (pv 2)))
   (aD (pL 3 sc.nd (aS kZ (aS cB (aS cB (aS jS (pv 3) (pv 3)) (aS jS aF (pv 3))) aF) (pv 2)))
   (aI (pL 3 sc.nd (aS kZ (aS cB (aS jS (pv 3) (pv 3)) aF) (pv 2)))))) bK)
   (aD (dU (aS cB (px K (pv 0) aF) aF) (pD (pv 0) aF i7))
   (aI (dU (pv 3) (pD (pv 0) aF i7))))))) bK)
   (aD (pL 4 sc.nd (aS kZ (px K (pv 0) aF) (pv 1)))
   (aD (dU (aS GM (px K (pv 0) aF) (pv 1)) (pD (pv 0) aF i7))
   (aI (bG (pv 4))))))),?_⟩
  have Me:sl≠t:=M0 qr ht (by intro z;injection z with z;cases ns <;> simp at z);have ix:∀ {H1:Hp}{p' c':Int}{Q:VK},H1 t=some (.lst [.ref sl,.int p',.int c'])->Q (.ref sl) H1->zJ K (.ref t) (.int 0) H1 Q:=λ e q=>.inl ⟨t,_,0,_,rfl,rfl,Ë e,rfl,q⟩;have Mf:∀ {H1:Hp}{p' c':Int}{Q:VK},H1 t=some (.lst [.ref sl,.int p',.int c'])->Q (.int p') H1->zJ K (.ref t) (.int 1) H1 Q:=λ e q=>.inl ⟨t,_,1,_,rfl,rfl,Ë e,rfl,q⟩;have P8:∀ {H1:Hp}{p' c':Int}{Q:VK},H1 t=some (.lst [.ref sl,.int p',.int c'])->Q (.int c') H1->zJ K (.ref t) (.int 2) H1 Q:=λ e q=>.inl ⟨t,_,2,_,rfl,rfl,Ë e,rfl,q⟩;have tail:∀ (v3:Option V) (H1:Hp) (p' c':Int),cK t H H1->H1 t=some (.lst [.ref sl,.int p',.int c'])->vT K (dE Q) [some (.ref t),some (.int many),some (.int 2305843009213693951),v3,none] H1:=by
   intro v3 H1 p' c' bt e;refine (aK _ rfl (P8 e (aK _ rfl (aX _ _ rfl ⟨rfl,Hs,?_⟩))));refine⟨_,rfl,P8 e ⟨_,rfl,_,_,rfl,rfl,⟨Hs,Am⟩,_,rfl,t,_,2,2,rfl,rfl,e,rfl,_,rfl,?_⟩⟩;refine k _ _ (bt.trans ç) ⟨ns,p',c' / many,aB,?_,zd⟩ (agn _ (by lia)) (afr _ Hs);rw[aJ Me];exact bt sl _ Me qr
  refine (aK _ rfl (P8 ht (aK _ rfl (aX _ _ rfl ⟨rfl,(aK _ rfl ?_)⟩))));refine gX (λ _=>?_) (λ _=>tail none H pos cell (Ę H) ht);have mid:∀ (c':Int),FS K { nx:=vT K (dE Q),rt:=Q } [some (.ref t),some (.int many),some (.int 2305843009213693951),some (.int c'),none] H:=by
   intro c';refine⟨_,rfl,Mf ht ⟨_,_,rfl,rfl,_,rfl,t,_,1,1,rfl,rfl,ht,rfl,?_⟩⟩;refine⟨_,rfl,_,rfl,t,_,2,2,rfl,rfl,aB,rfl,?_⟩;exact tail (some (.int c')) _ (pos+1) c' (cK.upd.trans ç) aB
  have Vf:∀ (c':Int),iZ (FE (MZ K) (FT K) AX) (FS K) { nx:=vT K (dE Q),rt:=Q } [some (.ref t),some (.int many),some (.int 2305843009213693951),some (.int c'),none] H:=by
   intro c';have body:∀ σ,σ=[some (.ref t),some (.int many),some (.int 2305843009213693951),some (.int c'),none]->FT K { nx:=FS K { nx:=vT K (dE Q),rt:=Q },rt:=Q } σ H:=by
    rintro σ rfl;have prime:(0:Int) < 2305843009213693951:=by decide
    refine (aK _ rfl (aK _ rfl (Mf ht (aX _ _ rfl ⟨rfl,.inl ⟨by decide,by decide⟩,(aX _ _ rfl ⟨rfl,(aK _ rfl (aX _ _ rfl ⟨rfl,prime,?_⟩))⟩)⟩))));have b1:=agn (c'+1000003 * pos) (show (2305843009213693951:Int)≠0 by decide);have b2:=afr (c'+1000003 * pos) prime;generalize (c'+1000003 * pos) % 2305843009213693951=c1 at b1 b2;refine (aK _ rfl (aK _ rfl (aX _ _ rfl ⟨rfl,.inl ⟨by lia,by lia⟩,(aK _ rfl (aX _ _ rfl ⟨rfl,.inl ⟨by decide,by decide⟩,(aX _ _ rfl ⟨rfl,(aX _ _ rfl ⟨rfl,(aK _ rfl (aX _ _ rfl ⟨rfl,prime,?_⟩))⟩)⟩)⟩))⟩)));have b3:=agn (c1 * c1+1181783497276652981 * c1+2049848353892358983) (show (2305843009213693951:Int)≠0 by decide);have b4:=afr (c1 * c1+1181783497276652981 * c1+2049848353892358983) prime;generalize (c1 * c1+1181783497276652981 * c1+2049848353892358983) % 2305843009213693951=c2 at b3 b4;refine (aK _ rfl (aK _ rfl (aX _ _ rfl ⟨rfl,.inl ⟨by lia,by lia⟩,(aX _ _ rfl ⟨rfl,(aK _ rfl (aX _ _ rfl ⟨rfl,prime,?_⟩))⟩)⟩)));exact mid _
   refine (aK _ rfl (Mf ht (aK _ rfl (ix ht (aX sl _ rfl ⟨.inl (Ë qr),(aX _ _ rfl ⟨rfl,(aK _ rfl ?_)⟩)⟩)))));refine gX (λ _=>?_) (λ _=>?_)
   ·refine iC ?_;exact body _ rfl
   ·refine (aK _ rfl (aX _ _ rfl ⟨rfl,⟨by decide,by decide,by decide⟩,(aX _ _ rfl ⟨rfl,(aK _ rfl ?_)⟩)⟩));refine gX (λ _=>body _ rfl) (λ _=>mid _)
  refine (aK _ rfl (ix ht (aX sl _ rfl ⟨.inl (Ë qr),(aX _ _ rfl ⟨rfl,(aK _ rfl ?_)⟩)⟩)));refine gX (λ gy=>?_) (λ _=>Vf 0);have Dx:0 < ns.length:=by have:=ĕ gy;simpa using this
  refine⟨_,rfl,ix ht ⟨_,rfl,Mf ht ⟨_,rfl,ix ht ⟨sl,_,rfl,.inl (Ë qr),_,_,rfl,rfl,(show (0:Int) < (((ns.map V.int).length:Nat):Int) by rw[Ê];lia),?_⟩⟩⟩⟩;have m1:=agn pos (show (((ns.map V.int).length:Nat):Int)≠0 by rw[Ê];lia);have m2:=afr pos (show (0:Int) < (((ns.map V.int).length:Nat):Int) by rw[Ê];lia);rw[Ê] at m1 m2;have X2:(ns.map V.int)[(pos % ((ns.map V.int).length:Int)).toNat]? = some (.int (ns[(pos % (ns.length:Int)).toNat]'(by lia))):=by
   rw[Ê,Ð];simp [show (pos % (ns.length:Int)).toNat < ns.length by lia]
  refine .inl ⟨sl,_,_,_,rfl,rfl,Ë qr,qW (by rw[Ê];exact m1) X2,?_⟩;exact Vf _
theorem wI {f:Á}{fd:FuncData} (F:Fun K "_law_draw" "_law_draw" (bW 29) f fd) (T:Txt mg):FnOk P w K mg base kA 1 f fd ["tape","many"] iT:=
 (tT F T).imp λ vs H Q E ⟨t,sl,many,e,tp,h0,h1,k⟩=>⟨t,sl,many,e,tp,h0,Int.lt_of_lt_of_le h1 (by decide),k⟩
structure Ext (t sl:Á) (H H':Hp):Prop where
 bt:cK t H H'
 tp:fM H' t sl
theorem fM.some {H:Hp}{t sl:Á} (h:fM H t sl):∃ o,H t=some o:=by obtain⟨ns,pos,cell,e,_⟩:=h;exact⟨_,e⟩
theorem fM.put {H:Hp}{t sl p:Á}{o:HO} (h:fM H t sl) (h1:p≠t) (h2:p≠sl):fM (upd H p o) t sl:=by
 obtain⟨ns,pos,cell,e,f,g⟩:=h;exact⟨ns,pos,cell,by rw[aJ (Ne.symm h1)];exact e,by rw[aJ (Ne.symm h2)];exact f,g⟩
theorem fM.ne_sl {H:Hp}{t sl p:Á} (h:fM H t sl) (hp:H p=none):p≠sl:=by
 obtain⟨ns,pos,cell,e,f,g⟩:=h;exact λ z=>by rw[z,f] at hp;cases hp
theorem Ext.new {t sl p:Á}{H H':Hp}{o:HO} (e:Ext t sl H H') (hp:H' p=none):Ext t sl H (upd H' p o):=⟨e.bt.trans (È hp).but,e.tp.same (È hp)⟩
theorem Ext.ne {t sl p:Á}{H H':Hp} (e:Ext t sl H H') (hp:H' p=none):p≠t:=by
 obtain⟨o,h⟩:=e.tp.some;intro z;rw[z,h] at hp;cases hp
theorem Ext.ts {K:Ç}{t sl:Á}{H H':Hp} (e:Ext t sl H H') (tp:fM H t sl):bJ K H H':=e.bt.ts tp.mut
def Gn (t sl:Á) (σ:St) (H0:Hp) (P:V->Prop) (te:TE):Prop:=∀ H Q,Ext t sl H0 H->(∀ v H',Ext t sl H0 H'->cK t H H'->P v->Q v H')->te σ H Q
section
variable {t sl:Á}{σ:St}{H0:Hp}{P:V->Prop}{a b c d:TE}
def dQ (lo hi:Int):V->Prop:=λ v=>∃ i,v=.int i/\lo<=i/\i < hi
theorem Gn.imp {P':V->Prop} (h:Gn t sl σ H0 P a) (f:∀ v,P v->P' v):Gn t sl σ H0 P' a:=λ H Q e k=>h H Q e λ v H' e' b p=>k v H' e' b (f v p)
theorem sS {v:V} (h:P v):Gn t sl σ H0 P (tC v):=λ H Q e k=>k v H e (Ę H) h
theorem PJ {i:Nat}{v:V} (ci:σ[i]? = some (some v)) (h:P v):Gn t sl σ H0 P (eD i):=λ H Q e k=>⟨v,ci,k v H e (Ę H) h⟩
theorem iE (ha:Gn t sl σ H0 P a) (hb:Gn t sl σ H0 P b) (hc:Gn t sl σ H0 (dQ 0 2) c):Gn t sl σ H0 P (jI (zJ K) (JO (dM a (dM b nQ))) c):=by
 intro H Q e k;refine ha H _ e λ v1 H1 e1 b1 p1=>hb H1 _ e1 λ v2 H2 e2 b2 p2=>⟨(show 2<=sizeLine by decide),λ p hp=>hc _ _ (e2.new hp) λ v H3 e3 b3 ⟨i,hi,h0,h1⟩=>?_⟩;subst hi;have hl:=b3 p _ (e2.ne hp) aB;have hb:cK t H H3:=b1.trans (b2.trans ((È hp).but.trans b3));rcases (show i=0\/i=1 by lia) with rfl | rfl
 ·exact .inl (iF p _ 0 v1 rfl ⟨rfl,Ë hl,rfl,k v1 H3 e3 hb p1⟩)
 ·exact .inl (iF p _ 1 v2 rfl ⟨rfl,Ë hl,rfl,k v2 H3 e3 hb p2⟩)
theorem yT (ha:Gn t sl σ H0 P a) (hb:Gn t sl σ H0 P b) (hd:Gn t sl σ H0 P d) (hc:Gn t sl σ H0 (dQ 0 3) c):Gn t sl σ H0 P (jI (zJ K) (JO (dM a (dM b (dM d nQ)))) c):=by
 intro H Q e k;refine ha H _ e λ v1 H1 e1 b1 p1=>hb H1 _ e1 λ v2 H2 e2 b2 p2=>hd H2 _ e2 λ v4 H4 e4 b4 p4=>⟨(show 3<=sizeLine by decide),λ p hp=>hc _ _ (e4.new hp) λ v H3 e3 b3 ⟨i,hi,h0,h1⟩=>?_⟩;subst hi;have hl:=b3 p _ (e4.ne hp) aB;have hb:cK t H H3:=b1.trans (b2.trans (b4.trans ((È hp).but.trans b3)));rcases (show i=0\/i=1\/i=2 by lia) with rfl | rfl | rfl
 ·exact .inl (iF p _ 0 v1 rfl ⟨rfl,Ë hl,rfl,k v1 H3 e3 hb p1⟩)
 ·exact .inl (iF p _ 1 v2 rfl ⟨rfl,Ë hl,rfl,k v2 H3 e3 hb p2⟩)
 ·exact .inl (iF p _ 2 v4 rfl ⟨rfl,Ë hl,rfl,k v4 H3 e3 hb p4⟩)
theorem wP {i:Nat}{lo hi:Int} (ci:σ[i]? = some (some (.ref t))) (Ai:0 < lo) (wz:hi<=1000000) (ha:Gn t sl σ H0 (dQ lo hi) a):Gn t sl σ H0 (λ v=>∃ r m,v=.int r/\0<=r/\r < m/\lo<=m/\m < hi) (uF iT [] E0 (dM (eD i) (dM a nQ))):=by
 intro H Q e k;refine⟨_,ci,ha H _ e λ v H1 e1 b1 ⟨m,hm,h0,h1⟩=>?_⟩;subst hm;exact (uS t sl m rfl ⟨e1.tp,by lia,by lia,λ r H2 b2 t2 r0 r1=>k _ H2 ⟨e1.bt.trans b2,t2⟩ (b1.trans b2) (aX r m rfl ⟨r0,r1,h0,h1⟩)⟩)
theorem cF {i:Nat}{m:Int} (ci:σ[i]? = some (some (.ref t))) (h0:0 < m) (h1:m < 1000000):Gn t sl σ H0 (dQ 0 m) (uF iT [] E0 (dM (eD i) (dM (tC (.int m)) nQ))):=
 (wP (lo:=m) (hi:=m+1) ci h0 (by lia) (sS (aK m rfl ⟨by lia,by lia⟩))).imp λ v ⟨r,m',e,a,b,c,d⟩=>⟨r,e,a,by lia⟩
theorem lE {i j:Nat}{m:Int} (ci:σ[i]? = some (some (.ref t))) (hj:σ[j]? = some (some (.int m))) (h0:0 < m) (h1:m < 1000000):Gn t sl σ H0 (dQ 0 m) (uF iT [] E0 (dM (eD i) (dM (eD j) nQ))):=
 (wP (lo:=m) (hi:=m+1) ci h0 (by lia) (PJ hj (aK m rfl ⟨by lia,by lia⟩))).imp λ v ⟨r,m',e,a,b,c,d⟩=>⟨r,e,a,by lia⟩
theorem wQ {x y l h:Int} (ha:Gn t sl σ H0 (dQ x y) a) (hb:Gn t sl σ H0 (dQ l h) b):Gn t sl σ H0 (dQ (x+l) (y+h - 1)) (jI (vU λ i j=>.int (i+j)) a b):=by
 intro H Q e k;refine ha H _ e λ v1 H1 e1 b1 ⟨i,hi,i0,i1⟩=>hb H1 _ e1 λ v2 H2 e2 b2 ⟨j,hj,j0,j1⟩=>?_;subst hi hj;exact (aX i j rfl ⟨rfl,k _ H2 e2 (b1.trans b2) (aK _ rfl ⟨by lia,by lia⟩)⟩)
theorem HW {y m:Int} (hm:0 < m) (Mg:m < 1000000) (ha:Gn t sl σ H0 (dQ 0 y) a):Gn t sl σ H0 (λ v=>∃ i,v=.int (i / m)/\0<=i/\i < y) (jI (rI OB λ i j=>.int (i / j)) a (tC (.int m))):=by
 intro H Q e k;refine ha H _ e λ v1 H1 e1 b1 ⟨i,hi,i0,i1⟩=>?_;subst hi;exact (aX i m rfl ⟨rfl,⟨hm,by lia⟩,k _ H1 e1 b1 (aK i rfl ⟨i0,i1⟩)⟩)
theorem AE {y c0:Int} (ha:Gn t sl σ H0 (dQ 0 y) a):Gn t sl σ H0 (λ v=>∃ b:Bool,v=.bl b) (jI rEq a (tC (.int c0))):=by
 intro H Q e k;refine ha H _ e λ v1 H1 e1 b1 ⟨i,hi,i0,i1⟩=>?_;subst hi;exact⟨rfl,k _ H1 e1 b1 ⟨_,rfl⟩⟩
theorem NS {y c0:Int} (ha:Gn t sl σ H0 (dQ 0 y) a):Gn t sl σ H0 (λ v=>∃ b:Bool,v=.bl b) (jI (vU λ i j=>.bl (decide (j < i))) a (tC (.int c0))):=by
 intro H Q e k;refine ha H _ e λ v1 H1 e1 b1 ⟨i,hi,i0,i1⟩=>?_;subst hi;exact (aX i c0 rfl ⟨rfl,k _ H1 e1 b1 ⟨_,rfl⟩⟩)
abbrev FX:List V->Hp->VK->Prop:=λ xs H Q=>(∃ i,xs=[.int i]/\Q (.int i) H)\/∃ k,xs=[.bl k]/\Q (.int (if k then 1 else 0)) H
theorem HV {i:Nat}{s:Bool} (ci:σ[i]? = some (some (.bl s))):Gn t sl σ H0 (dQ 0 2) (MQ FX (dM (eD i) nQ)):=by
 intro H Q e k;refine⟨_,ci,.inr (aK s rfl (k _ H e (Ę H) ?_))⟩;cases s
 ·exact (aK 0 rfl ⟨by lia,by lia⟩)
 ·exact (aK 1 rfl ⟨by lia,by lia⟩)
theorem qR {i:Nat}{s:Bool}{x y lo hi:Int} (ci:σ[i]? = some (some (.bl s))) (h1:lo<=x/\x < hi) (h2:lo<=y/\y < hi):Gn t sl σ H0 (dQ lo hi) (jI (zJ K) (JO (dM (tC (.int x)) (dM (tC (.int y)) nQ))) (MQ FX (dM (eD i) nQ))):=
 iE (sS (aK x rfl ⟨h1.1,h1.2⟩)) (sS (aK y rfl ⟨h2.1,h2.2⟩)) (HV ci)
theorem qS (ha:Gn t sl σ H0 (dQ 0 4) a):Gn t sl σ H0 (dQ 0 2) (jI (rI OB λ i j=>.int (i / j)) a (tC (.int 3))):=
 (HW (by decide) (by decide) ha).imp λ v ⟨i,e,a,b⟩=>⟨i / 3,e,by lia,by lia⟩
theorem mT {lo hi Bg md:Int} (h:Gn t sl σ H0 (dQ lo hi) a) (h1:Bg<=lo) (h2:hi<=md):Gn t sl σ H0 (dQ Bg md) a:=h.imp λ v ⟨i,e,a,b⟩=>⟨i,e,by lia,by lia⟩
theorem lF {i:Nat}{lo hi:Int} (ci:σ[i]? = some (some (.ref t))) (Ai:0 < lo) (wz:hi<=1000000) (ha:Gn t sl σ H0 (dQ lo hi) a):Gn t sl σ H0 (dQ 0 (hi - 1)) (uF iT [] E0 (dM (eD i) (dM a nQ))):=
 (wP ci Ai wz ha).imp λ v ⟨r,m,e,a,b,c,d⟩=>⟨r,e,a,by lia⟩
end
def zS (K:Ç):Sp:=λ args H Q _=>∃ (t sl:Á) (n:Nat) (jg:Bool),args=[.ref t,.int (n:Int),.bl jg]/\fM H t sl/\1<=n/\n<=12/\
 ∀ (outs:List (Option Int×Int)) p H',Ext t sl H H'->outs≠[]->outs.length<=3->(∀ o∈outs,OutOk n o)->Is K H' (.tup (outs.map outD)) p->Q p H'
theorem o0:FnScope ["tape","many","small","outs","k","target","parts"] ["tape","many","small"] (aL (bW 32)):={}
theorem wG {f fD:Á}{fd Dy:FuncData} (F:Fun K "_law_outs" "_law_outs" (bW 32) f fd) (T:Txt mg) (gv:Callee P w K mg base "_law_draw" ["tape","many"] 1 iT fD Dy):FnOk P w K mg base kA 2 f fd ["tape","many","small"] (zS K):=by
 refine F.ok o0 (λ vs H Q E h=>?_) (λ ja A outer s H vs Q E hr h=>?_)
 ·obtain⟨t,sl,n,jg,rfl,_⟩:=h;rfl
 ·obtain⟨t,sl,n,jg,rfl,tp,n1,n2,k⟩:=h;have sc:=o0;refine⟨_,(aD (pL 3 sc.nd (bM aC))
   (aD (cX ï rfl (cD rfl T.b_range (aA (aS cB aF (px K (bM (aA (eX gv hr (aA (pv 0) (aA aF aC))) (aA (eX gv hr (aA (pv 0) (aA aF aC))) aC))) (eX gv hr (aA (pv 0) (aA aF aC))))) aC)) (gL 4 sc.nd) (aD (pL 5 sc.nd (px K (bM (aA fU (aA (eX gv hr (aA (pv 0) (aA (pv 1) aC))) (aA (eX gv hr (aA (pv 0) (aA (pv 1) aC))) aC)))) (eX gv hr (aA (pv 0) (aA aF aC)))))
   (aD (pL 6 sc.nd (px K (bM (aA (eX gv hr (aA (pv 0) (aA aF aC))) (aA (eX gv hr (aA (pv 0) (aA (px K (bM (aA aF (aA aF aC))) (aW hV rfl T.b_int nI (aA (pv 2) aC))) aC))) aC))) (aS jT (eX gv hr (aA (pv 0) (aA aF aC))) aF)))
   (aI (cZ (eJ (K:=K) rfl ù Ċ ċ cE (pv 3) (aA (aU (aA (pv 5) (aA (aS cB aF (pv 6)) aC))) aC)))))))
   (aI (bG (aW (bI (K:=K) rfl) rfl T.b_tuple bQ (aA (pv 3) aC)))))),?_⟩
  refine⟨æ _,λ ol Ch=>?_⟩;have e0:Ext t sl H (upd H ol (.lst [])):=Ext.new ⟨Ę H,tp⟩ Ch;have no:ol≠t:=Ext.ne ⟨Ę H,tp⟩ Ch;refine wQ (x:=1) (y:=2) (l:=0) (h:=3) (H0:=upd H ol (.lst [])) (t:=t) (sl:=sl) (sS (aK 1 rfl ⟨by lia,by lia⟩))
   (iE (mT (cF rfl (by decide) (by decide)) (Ğ _) (by decide)) (cF rfl (by decide) (by decide)) (cF rfl (by decide) (by decide))) _ _ ⟨Ę _,e0.tp⟩ ?_
  rintro v H1 e1 _ ⟨m,rfl,m0,m1⟩;refine (aK m rfl ⟨by lia,by lia,?_⟩);refine fC (lo:=0) (n:=m.toNat) (λ i ad H'=>Ext t sl H H'/\∃ (outs:List (Option Int×Int)) (xs:List V),H' ol=some (.lst xs)/\IsL K H' (outs.map outD) xs/\outs.length=i/\(∀ o∈outs,OutOk n o)/\
   ∃ v4 v5 v6,ad=[some (.ref t),some (.int (n:Int)),some (.bl jg),some (.ref ol),v4,v5,v6]) ?_ ?_ ?_
  ·exact⟨⟨e0.bt.trans e1.bt,e1.tp⟩,[],[],e1.bt ol _ no aB,.nil,rfl,λ o ho=>(nomatch ho),none,none,none,rfl⟩
  ·rintro DD i - lq ad H2 hi ⟨e2,outs,xs,ho,hl,gy,hok,v4,v5,v6,rfl⟩;refine yT (H0:=H2) (t:=t) (sl:=sl) (P:=λ v=>∃ o:Option Int,v=iN o/\∀ z,o=some z->0<=z/\z < n) (sS (aK none rfl (λ z h=>nomatch h)))
    ((lE (m:=(n:Int)) rfl rfl (by lia) (by lia)).imp λ v ⟨r,e,a,b⟩=>⟨some r,e,λ z h=>by cases h;exact⟨a,by lia⟩⟩)
    ((lE (m:=(n:Int)) rfl rfl (by lia) (by lia)).imp λ v ⟨r,e,a,b⟩=>⟨some r,e,λ z h=>by cases h;exact⟨a,by lia⟩⟩) (cF rfl (by decide) (by decide)) _ _ ⟨Ę _,e2.tp⟩ ?_
   rintro v H3 e3 _ ⟨tg,rfl,X3⟩;refine iE (H0:=H3) (t:=t) (sl:=sl) (P:=dQ 0 60) (mT (cF rfl (by decide) (by decide)) (Ğ _) (by decide))
    (mT (lF (lo:=3) (hi:=61) rfl (by decide) (by decide) (qR rfl ⟨by decide,by decide⟩ ⟨by decide,by decide⟩)) (Ğ _) (by decide)) (qS (cF rfl (by decide) (by decide))) _ _ ⟨Ę _,e3.tp⟩ ?_
   rintro v H4 e4 _ ⟨pt,rfl,p0,p1⟩;have Ht:H4 ol=some (.lst xs):=e4.bt ol _ no (e3.bt ol _ no ho);refine (aK _ rfl ⟨.inl ⟨rfl,_,Ë Ht⟩,(aK _ rfl (aK _ rfl (aX _ _ rfl ⟨rfl,(show 2<=sizeLine by decide),λ q hq=>?_⟩)))⟩);have nq:ol≠q:=aH Ht hq;have Dv:xs.length=outs.length:=by rw[hl.length,Ê]
   have hm3:m.toNat<=3:=by lia
   refine⟨ol,xs,_,rfl,rfl,by rw[aJ nq];exact Ht,aY (by lia),?_⟩;have e5:Ext t sl H2 (upd H4 q (.tup [iN tg,.int (1+pt)])):=Ext.new ⟨e3.bt.trans e4.bt,e4.tp⟩ hq;have ts:bJ K H2 (upd (upd H4 q (.tup [iN tg,.int (1+pt)])) ol (.lst (xs++[.ref q]))):=đ (e5.ts e2.tp) (.inr (by rw[aJ nq,Ht];exact trivial));refine lq _ _ ⟨⟨λ b o hb e=>?_,?_⟩,outs++[(tg,1+pt)],xs++[.ref q],aB,?_,by simp [gy],?_,_,_,_,rfl⟩
   ·rw[aJ (aH e Ch)];exact e5.bt b o hb (e2.bt b o hb e)
   ·exact e5.tp.put no (fM.ne_sl tp Ch)
   ·rw[Ó];exact ė (Ô (ds:=[EV tg,.int (1+pt)]) (đ (Ł _) (.inr (by rw[aJ nq,Ht];exact trivial)) _ _ (Ì aB)) (.cons (Ő tg) (.cons (è _) .nil))) (Ö ts _ _ hl)
   ·intro o ho;rcases ñ.mp ho with ho | ho
    ·exact hok o ho
    ·rw[é.mp ho];exact⟨λ z hz=>X3 z hz,by show 1<=1+pt;lia,by show 1+pt<=60;lia⟩
  ·rintro ad H2 ⟨e2,outs,xs,ho,hl,gy,hok,v4,v5,v6,rfl⟩;refine (aK _ rfl (aX ol _ rfl (.inl ⟨Ë ho,λ l Hu=>?_⟩)));refine k outs _ _ (e2.new Hu) (λ z=>by rw[z] at gy;simp at gy;lia) (by lia) hok (Ô (Ì aB) (Ö (È Hu).ts _ _ hl))
end Tw
namespace L2
theorem BN {c:TT}{a b:TS}{D:Ends}{σ:St}{H:Hp} (I:St->Hp->Prop) (h1:∀ D':Ends,(∀ ad H',I ad H'->D'.nx ad H')->FE c a b D' σ H) (h2:∀ ad H',I ad H'->D.nx ad H'):FE c a b D σ H:=h1 D h2
theorem vS {s R:TS}{D:Ends}{σ:St}{H:Hp} (I:St->Hp->Prop) (h1:∀ D':Ends,(∀ ad H',I ad H'->D'.nx ad H')->s D' σ H) (h2:∀ ad H',I ad H'->R D ad H'):iZ s R D σ H:=h1 _ h2
end L2
namespace Tw
open PySem L2
section
variable {t sl:Á}{σ:St}{H0:Hp}{P:V->Prop}{a b c d:TE}
theorem HM {y c0:Int}{t' u':TS}{D':Ends}{H:Hp} (ha:Gn t sl σ H0 (dQ 0 y) a) (e:Ext t sl H0 H) (k:∀ (b:Bool) H',Ext t sl H0 H'->cK t H H'->if b=true then t' D' σ H' else u' D' σ H'):FE (AW (jI rEq a (tC (.int c0)))) t' u' D' σ H:=
 AE ha H _ e λ v H' e' b ⟨c,hc⟩=>⟨c,hc,k c H' e' b⟩
theorem DY {i:Nat}{s:Bool} (ci:σ[i]? = some (some (.bl s))) (ha:Gn t sl σ H0 (dQ 0 2) a):Gn t sl σ H0 (dQ 0 2) (jI (rI zI λ i j=>.int (i * j)) a (MQ FX (dM (LJ (eD i)) nQ))):=by
 intro H Q e k;refine ha H _ e λ v1 H1 e1 b1 ⟨j,hj,j0,j1⟩=>⟨_,ci,s,rfl,.inr ⟨!s,rfl,?_⟩⟩;subst hj;refine (aX j _ rfl ⟨rfl,.inl ⟨by lia,by lia⟩,k _ H1 e1 b1 ?_⟩);cases s
 ·exact⟨j,by simp,j0,j1⟩
 ·exact⟨0,by simp,by lia,by lia⟩
theorem HU {j:Nat}{x y:Int} (hj:σ[j]? = some (some (.int y))):Gn t sl σ H0 (dQ (x - y) (x - y+1)) (jI (vU λ i j=>.int (i - j)) (tC (.int x)) (eD j)):=λ H Q e k=>
 ⟨_,hj,x,y,rfl,rfl,k _ H e (Ę H) ⟨_,rfl,by lia,by lia⟩⟩
theorem BT {j:Nat}{y l h:Int} (hj:σ[j]? = some (some (.int y))) (hb:Gn t sl σ H0 (dQ l h) b):Gn t sl σ H0 (dQ (y+l) (y+h)) (jI (vU λ i j=>.int (i+j)) (eD j) b):=
 mT (wQ (x:=y) (y:=y+1) (PJ hj (aK y rfl ⟨by lia,by lia⟩)) hb) (by lia) (by lia)
end
structure VFull (i:Nat) (v:Vs):Prop where
 sz:v.size<=60
 br:v.size<=v.brim
 bh:v.brim<=200
 sp:∀ t,v.spill=some t->(i:Int) < t
structure NetFull (net:Net):Prop where
 vs:∀ i v,net.vs[i]? = some v->VFull i v
 sps:∀ s∈net.sps,0<=s.2.1/\s.2.1<=60
def rE (K:Ç):Sp:=λ args H Q _=>∃ (t sl:Á) (i n m:Nat) (jg:Bool),args=[.ref t,.int (i:Int),.int (n:Int),.int (m:Int),.bl jg]/\fM H t sl/\i < n/\n<=12/\m<=12/\
 ∀ (v:Vs) p H',Ext t sl H H'->VOk n m v->VFull i v->Is K H' (qK v) p->Q p H'
theorem kQ:FnScope ["tape","number","many","spouts","small","size","brim","spill","acts","k"] ["tape","number","many","spouts","small"] (aL (bW 33)):={}
theorem rZ {f fD fO:Á}{fd Dy Pf:FuncData} (F:Fun K "_law_vessel" "_law_vessel" (bW 33) f fd) (T:Txt mg) (gv:Callee P w K mg base "_law_draw" ["tape","many"] 1 iT fD Dy)
  (tz:Callee P w K mg base "_law_outs" ["tape","many","small"] 2 (zS K) fO Pf):FnOk P w K mg base kA 3 f fd ["tape","number","many","spouts","small"] (rE K):=by
 refine F.ok kQ (λ vs H Q E h=>?_) (λ ja A outer s H vs Q E hr h=>?_)
 ·refine ĸ λ _ ŉ=>?_;obtain⟨t,sl,i,n,m,jg,rfl,_⟩:=h;refine ŉ ?_;rfl
 ·refine ĸ λ _ ŉ=>?_;obtain⟨t,sl,i,n,m,jg,rfl,tp,hi,hn,hm,k⟩:=h;refine ŉ ?_;have sc:=kQ;refine⟨_,(aD (pL 5 sc.nd (aS cB aF (px K (bM (aA (eX gv hr (aA (pv 0) (aA (px K (bM (aA aF (aA aF aC))) (aW hV rfl T.b_int nI (aA (pv 4) aC))) aC))) (aA (eX gv hr (aA (pv 0) (aA (px K (bM (aA aF (aA aF aC))) (aW hV rfl T.b_int nI (aA (pv 4) aC))) aC))) aC))) (aS jT (eX gv hr (aA (pv 0) (aA aF aC))) aF))))
   (aD (pL 6 sc.nd (aS cB (pv 5) (px K (bM (aA aF (aA (eX gv hr (aA (pv 0) (aA (aS iB aF (pv 5)) aC))) aC))) (aS jS (eX gv hr (aA (pv 0) (aA aF aC))) (aW hV rfl T.b_int nI (aA (vY (pv 4)) aC))))))
   (aD (dA (bF mR (eX gv hr (aA (pv 0) (aA aF aC))) aF (bH _)) (aI (pL 6 sc.nd (aS cB (pv 5) (eX gv hr (aA (pv 0) (aA aF aC)))))) bK)
   (aD (pL 7 sc.nd fU)
   (aD (dA (PW.pt (vV (bF oB (aS cB (pv 1) aF) (pv 2) (bH _)) (qN (bF mR (eX gv hr (aA (pv 0) (aA aF aC))) aF (bH _))))) (aI (pL 7 sc.nd (aS cB (aS cB (pv 1) aF) (eX gv hr (aA (pv 0) (aA (aS iB (aS iB (pv 2) (pv 1)) aF) aC)))))) bK)
   (aD (pL 8 sc.nd (bM aC))
   (aD (dA (bF yF (pv 3) aF (bH _)) (aI (cX ï rfl (cD rfl T.b_range (aA (aS jT (eX gv hr (aA (pv 0) (aA aF aC))) aF) aC)) (gL 9 sc.nd) (aI (cZ (eJ (K:=K) rfl ù Ċ ċ cE (pv 8) (aA (aU (aA (px K (bM (aA eI (aA eI (aA eI aC)))) (eX gv hr (aA (pv 0) (aA aF aC)))) (aA (eX gv hr (aA (pv 0) (aA (pv 3) aC))) aC))) aC)))))) bK)
   (aI (bG (aU (aA (pv 5) (aA (pv 6) (aA (eX tz hr (aA (pv 0) (aA (pv 2) (aA (pv 4) aC)))) (aA (fN mR (eX gv hr (aA (pv 0) (aA aF aC))) aF (bH _)) (aA (pv 7) (aA (aW (bI (K:=K) rfl) rfl T.b_tuple bQ (aA (pv 8) aC)) aC)))))))))))))))),?_⟩
  refine wQ (t:=t) (sl:=sl) (H0:=H) (x:=1) (y:=2) (l:=0) (h:=60) (sS (aK 1 rfl ⟨by lia,by lia⟩))
   (iE (mT (lF (lo:=4) (hi:=10) rfl (by decide) (by decide) (qR rfl ⟨by decide,by decide⟩ ⟨by decide,by decide⟩)) (Ğ _) (by decide))
    (mT (lF (lo:=4) (hi:=61) rfl (by decide) (by decide) (qR rfl ⟨by decide,by decide⟩ ⟨by decide,by decide⟩)) (Ğ _) (by decide)) (qS (cF rfl (by decide) (by decide)))) _ _ ⟨Ę _,tp⟩ ?_
  rintro v H1 e1 _ ⟨size,rfl,s0,s1⟩;refine BT (t:=t) (sl:=sl) (H0:=H) (y:=size) (l:=0) (h:=201 - size) rfl (iE (sS (aK 0 rfl ⟨by lia,by lia⟩))
   (mT (lF (lo:=201 - size) (hi:=201 - size+1) rfl (by lia) (by lia) (HU rfl)) (Ğ _) (by lia)) (DY rfl (cF rfl (by decide) (by decide)))) _ _ e1 ?_
  rintro v H2 e2 _ ⟨brim,rfl,br0,br1⟩;dsimp only [iZ,kK,tC,eB];refine BN (λ ad H'=>Ext t sl H H'/\∃ brim,size<=brim/\brim<=200/\ad=[some (.ref t),some (.int (i:Int)),some (.int (n:Int)),some (.int (m:Int)),some (.bl jg),some (.int size),some (.int brim),none,none,none]) (λ D' hD=>?_) ?_
  ·refine HM (t:=t) (sl:=sl) (H0:=H) (cF rfl (by decide) (by decide)) e2 λ b H3 e3 _=>?_;cases b with
   | false=>exact fL (hD _ _ ⟨e3,brim,by lia,by lia,rfl⟩)
   | true=>
    refine iC ?_;refine BT (t:=t) (sl:=sl) (H0:=H) (y:=size) (l:=0) (h:=3) rfl (cF rfl (by decide) (by decide)) _ _ e3 ?_;rintro v H4 e4 _ ⟨b2,rfl,c0,c1⟩;exact hD _ _ ⟨e4,b2,by lia,by lia,rfl⟩
  rintro ak H3 ⟨e3,brim,ze,oj,rfl⟩;dsimp only [iZ,kK,tC,eB];refine BN (λ ad H'=>Ext t sl H H'/\∃ sp:Option Int,(∀ z,sp=some z->(0<=z/\z < n)/\(i:Int) < z)/\ad=[some (.ref t),some (.int (i:Int)),some (.int (n:Int)),some (.int (m:Int)),some (.bl jg),some (.int size),some (.int brim),some (iN sp),none,none]) (λ D' hD=>?_) ?_
  ·refine (aK _ rfl (aX _ _ rfl ⟨rfl,(aK _ rfl (aX _ _ rfl ⟨rfl,(aK _ rfl ?_)⟩))⟩));refine gX (λ jk=>?_) (λ _=>fL (hD _ _ ⟨e3,none,(λ z h=>nomatch h),rfl⟩));have Pg:(i:Int)+1 < n:=ĕ jk;refine AE (t:=t) (sl:=sl) (H0:=H) (cF rfl (by decide) (by decide)) _ _ e3 ?_;rintro v H4 e4 _ ⟨b,rfl⟩;refine (aK b rfl ?_);cases b with
   | false=>exact fL (hD _ _ ⟨e4,none,(λ z h=>nomatch h),rfl⟩)
   | true=>
    refine iC ?_;refine (aK _ rfl (aX _ _ rfl ⟨rfl,(aK _ rfl (aK _ rfl (aK _ rfl (aX _ _ rfl ⟨rfl,(aX _ _ rfl ⟨rfl,t,sl,(n:Int) - i - 1,rfl,e4.tp,by lia,by lia,λ r H5 b5 t5 r0 r1=>(aX _ _ rfl ⟨rfl,?_⟩)⟩)⟩))))⟩));exact hD _ _ ⟨⟨e4.bt.trans b5,t5⟩,some ((i:Int)+1+r),λ z h=>by cases h;lia,rfl⟩
  rintro σ4 H4 ⟨e4,sp,ke,rfl⟩;refine⟨æ _,λ al zf=>?_⟩;dsimp only [iZ,kK,tC,eB];have L7:H al=none:=e4.bt.free (e4.ne zf) zf;have Fr:al≠t:=e4.ne zf;refine BN (λ ad H'=>Ext t sl H H'/\∃ (acts:List (Str×Int)) (xs:List V),H' al=some (.lst xs)/\L2.IsL K H' (acts.map qJ) xs/\acts.length<=3/\(∀ a∈acts,ActOk m a)/\
   ∃ v9,ad=[some (.ref t),some (.int (i:Int)),some (.int (n:Int)),some (.int (m:Int)),some (.bl jg),some (.int size),some (.int brim),some (iN sp),some (.ref al),v9]) (λ D' hD=>?_) ?_
  ·refine (aK _ rfl (aX _ _ rfl ⟨rfl,(aK _ rfl ?_)⟩));refine gX (λ jk=>?_) (λ _=>hD _ _ ⟨e4.new zf,[],[],aB,.nil,by simp,λ a ha=>(nomatch ha),none,rfl⟩);have Hs:(0:Int) < m:=ĕ jk;refine HW (t:=t) (sl:=sl) (H0:=H) (by decide) (by decide) (cF (m:=11) rfl (by decide) (by decide)) _ _ (e4.new zf) ?_;rintro v H5 e5 b5 ⟨c,rfl,c0,c1⟩;refine (aK _ rfl ⟨by lia,by lia,?_⟩);refine fC (lo:=0) (n:=(c / 3).toNat) (λ j ad H'=>Ext t sl H H'/\∃ (acts:List (Str×Int)) (xs:List V),H' al=some (.lst xs)/\L2.IsL K H' (acts.map qJ) xs/\acts.length=j/\(∀ a∈acts,ActOk m a)/\
    ∃ v9,ad=[some (.ref t),some (.int (i:Int)),some (.int (n:Int)),some (.int (m:Int)),some (.bl jg),some (.int size),some (.int brim),some (iN sp),some (.ref al),v9]) ?_ ?_ ?_
   ·exact⟨e5,[],[],b5 al _ Fr aB,.nil,rfl,λ a ha=>(nomatch ha),none,rfl⟩
   ·rintro DD j - lq ad H6 hj zF;refine ĸ λ _ ŉ=>?_;obtain⟨e6,acts,xs,ha,hl,gy,hok,v9,rfl⟩:=zF;refine ŉ ?_;refine (aK _ rfl ⟨.inl ⟨rfl,_,Ë ha⟩,?_⟩);refine yT (t:=t) (sl:=sl) (H0:=H) (P:=λ v=>∃ wd:Str,v=.str wd/\(wd = "open" \/ wd = "shut" \/ wd = "turn")) (sS (aK _ rfl (.inl rfl))) (sS (aK _ rfl (.inr (.inl rfl)))) (sS (aK _ rfl (.inr (.inr rfl)))) (cF rfl (by decide) (by decide)) _ _ e6 ?_;rintro v H7 e7 b7 ⟨wd,rfl,Pm⟩;refine lE (t:=t) (sl:=sl) (H0:=H) (m:=(m:Int)) rfl rfl Hs (by lia) _ _ e7 ?_;rintro v H8 e8 b8 ⟨r,rfl,r0,r1⟩;refine⟨(show 2<=sizeLine by decide),λ q hq=>?_⟩;have Pn:H8 al=some (.lst xs):=b8 al _ Fr (b7 al _ Fr ha);have nq:al≠q:=aH Pn hq;have Dv:xs.length=acts.length:=by rw[hl.length,Ê]
    refine⟨al,xs,_,rfl,rfl,by rw[aJ nq];exact Pn,aY (by lia),?_⟩;have e9:Ext t sl H (upd H8 q (.tup [.str wd,.int r])):=e8.new hq;have mt:mH (upd H8 q (.tup [.str wd,.int r]) al):=by rw[aJ nq,Pn];exact trivial
    have ts:bJ K H6 (upd (upd H8 q (.tup [.str wd,.int r])) al (.lst (xs++[.ref q]))):=đ (((b7.trans b8).trans (È hq).but).ts e6.tp.mut) (.inr mt);refine lq _ _ ⟨⟨λ b o hb e=>?_,e9.tp.put Fr (fM.ne_sl tp L7)⟩,acts++[(wd,r)],xs++[.ref q],aB,?_,by simp [gy],?_,_,rfl⟩
    ·rw[aJ (aH e L7)];exact e9.bt b o hb e
    ·rw[Ó];exact ė (Ô (ds:=[.str wd,.int r]) (đ (Ł _) (.inr mt) _ _ (Ì aB)) (.cons (Is.s _) (.cons (è _) .nil))) (Ö ts _ _ hl)
    ·intro a su;rcases ñ.mp su with su | su
     ·exact hok a su
     ·rw[é.mp su];exact⟨Pm,r0,r1⟩
   ·rintro ad H6 zF;refine ĸ λ _ ŉ=>?_;obtain⟨e6,acts,xs,ha,hl,gy,hok,v9,rfl⟩:=zF;refine ŉ ?_;exact hD _ _ ⟨e6,acts,xs,ha,hl,by lia,hok,v9,rfl⟩
  rintro cn H5 zF;refine ĸ λ _ ŉ=>?_;obtain⟨e5,acts,xs,ha,hl,gy,hok,v9,rfl⟩:=zF;refine ŉ ?_;refine (aK _ rfl (aK _ rfl (aK _ rfl (aK _ rfl (aK _ rfl (iF t sl n jg rfl ⟨e5.tp,by lia,hn,λ outs p H6 e6 o1 o2 o3 hp=>?_⟩))))));refine AE (t:=t) (sl:=sl) (H0:=H) (cF rfl (by decide) (by decide)) _ _ ⟨e5.bt.trans e6.bt,e6.tp⟩ ?_;rintro v H7 e7 b7 ⟨b,rfl⟩;have X4:H7 al=some (.lst xs):=b7 al _ Fr (e6.bt al _ Fr ha);have X5:cK t H5 H7:=e6.bt.trans b7;refine (aK _ rfl (aK _ rfl (aX al _ rfl (.inl ⟨Ë X4,λ q hq=>⟨(show 6<=sizeLine by decide),λ r Ck=>?_⟩⟩))));have m1:=È (o:=HO.tup xs) hq;have m2:aE (upd H7 q (.tup xs)) (upd (upd H7 q (.tup xs)) r (.tup [.int size,.int brim,p,.bl b,iN sp,.ref q])):=È Ck;refine k ⟨size,brim,outs,b,sp,acts⟩ _ _ ((e7.new hq).new Ck) ⟨s0,o1,o2,o3,λ z h=>(ke z h).1,gy,hok⟩ ⟨by show size<=60;lia,ze,oj,λ z h=>(ke z h).2⟩ ?_;refine Ô (Ì aB) (.cons (è _) (.cons (è _) (.cons ?_ (.cons (Is.b _) (.cons (Ő _) (.cons ?_ .nil))))))
  ·exact Ï m2.ts _ _ (Ï m1.ts _ _ (Ï (b7.ts e6.tp.mut) _ _ hp))
  ·exact Ï m2.ts _ _ (Ô (Ì aB) (Ö m1.ts _ _ (Ö (X5.ts e5.tp.mut) _ _ hl)))
theorem Ext.put {t sl p:Á}{H H':Hp}{o:HO} (e:Ext t sl H H') (tp:fM H t sl) (hp:H p=none):Ext t sl H (upd H' p o):=
 ⟨λ b u hb e1=>by rw[aJ (aH e1 hp)];exact e.bt b u hb e1,e.tp.put (λ z=>by obtain⟨o,h⟩:=tp.some;rw[z,h] at hp;cases hp) (fM.ne_sl tp hp)⟩
theorem Ext.trans {t sl:Á}{H H1 H2:Hp} (a:Ext t sl H H1) (b:Ext t sl H1 H2):Ext t sl H H2:=⟨a.bt.trans b.bt,b.tp⟩
def vL (K:Ç):Sp:=λ args H Q _=>∃ (t sl:Á) (gj:Int) (jg:Bool),args=[.ref t,.int gj,.bl jg]/\1<=gj/\gj<=12/\fM H t sl/\
 ∀ (gk:Net) p H',Ext t sl H H'->NetOk gk->NetFull gk->(gk.vs.length:Int)<=gj->Is K H' (iG gk) p->Q p H'
theorem pX:FnScope ["tape","most","small","many","spouts","vessels","found","k","flow"] ["tape","most","small"] (aL (bW 34)):={}
theorem wH {f fD fV:Á}{fd Dy X6:FuncData} (F:Fun K "_law_net" "_law_net" (bW 34) f fd) (T:Txt mg) (gv:Callee P w K mg base "_law_draw" ["tape","many"] 1 iT fD Dy)
  (oy:Callee P w K mg base "_law_vessel" ["tape","number","many","spouts","small"] 3 (rE K) fV X6):FnOk P w K mg base kA 4 f fd ["tape","most","small"] (vL K):=by
 refine F.ok pX (λ vs H Q E h=>?_) (λ ja A outer s H vs Q E hr h=>?_)
 ·obtain⟨t,sl,gj,jg,rfl,_⟩:=h;rfl
 ·obtain⟨t,sl,gj,jg,rfl,mo1,mo2,tp,k⟩:=h;have sc:=pX;refine⟨_,(aD (eF (i:=3) sc.nd rfl (Or.inr rfl) (aS cB aF (eX gv hr (aA (pv 0) (aA (pv 1) aC)))))
   (aD (eF (i:=4) sc.nd rfl (Or.inr rfl) (px K (bM (aA (eX gv hr (aA (pv 0) (aA aF aC))) (aA (eX gv hr (aA (pv 0) (aA aF aC))) aC))) (aS jT (eX gv hr (aA (pv 0) (aA aF aC))) aF)))
   (aD (h9 (i:=5) sc.nd rfl rfl (λ _ _ h=>h) rfl (LcOk.mk (N':=["k","tape","many","spouts","small"]) (fr:=[none,some 0,some 3,some 4,some 2]) rfl ⟨rfl,rfl,rfl,rfl,trivial⟩ rfl rfl rfl rfl rfl ⟨⟨_,rfl,rfl,rfl,rfl⟩,⟨_,rfl,rfl,rfl,rfl⟩,⟨_,rfl,rfl,rfl,rfl⟩,⟨_,rfl,rfl,rfl,rfl⟩,trivial⟩) (cD rfl T.b_range (aA (pv 3) aC)) (λ _ _ _=>(gC 0 ["k","tape","many","spouts","small"])) (λ _ _ _=>bS) (λ _ _ _=>(eX oy hr (aA (pv 1) (aA (pv 0) (aA (pv 2) (aA (pv 3) (aA (pv 4) aC))))))))
   (aD (pL 6 sc.nd (bM aC))
   (aD (cX ï rfl (cD rfl T.b_range (aA (pv 4) aC)) (gL 7 sc.nd) (aD (pL 8 sc.nd (px K (bM (aA (eX gv hr (aA (pv 0) (aA aF aC))) (aA (eX gv hr (aA (pv 0) (aA (px K (bM (aA aF (aA aF aC))) (aW hV rfl T.b_int nI (aA (pv 2) aC))) aC))) aC))) (aS jT (eX gv hr (aA (pv 0) (aA aF aC))) aF)))
   (aI (cZ (eJ (K:=K) rfl ù Ċ ċ cE (pv 6) (aA (aU (aA (eX gv hr (aA (pv 0) (aA (pv 3) aC))) (aA (pv 8) (aA (fN yF (eX gv hr (aA (pv 0) (aA aF aC))) aF (bH _)) aC)))) aC))))))
   (aI (bG (aU (aA (aW (bI (K:=K) rfl) rfl T.b_tuple bQ (aA (pv 5) aC)) (aA (aW (bI (K:=K) rfl) rfl T.b_tuple bQ (aA (pv 6) aC)) aC)))))))))),?_⟩
  refine wQ (t:=t) (sl:=sl) (H0:=H) (x:=1) (y:=2) (l:=0) (h:=gj) (sS (aK 1 rfl ⟨by lia,by lia⟩)) (lE (m:=gj) rfl rfl (by lia) (by lia)) _ _ ⟨Ę _,tp⟩ ?_;rintro v H1 e1 _ ⟨n',rfl,n0,n1⟩;obtain⟨n,rfl⟩:=afq (show 0<=n' by lia);refine iE (t:=t) (sl:=sl) (H0:=H) (P:=dQ 0 13) (mT (cF rfl (by decide) (by decide)) (Ğ _) (by decide)) (cF rfl (by decide) (by decide)) (qS (cF rfl (by decide) (by decide))) _ _ e1 ?_;rintro v H2 e2 _ ⟨m',rfl,m0,m1⟩;obtain⟨m,rfl⟩:=afq m0;refine (aK _ rfl (aK _ rfl ⟨by lia,by lia,?_⟩));refine j9 (n:=n) (λ D i r ad H'=>H2 D=none/\Ext t sl H H'/\H' D=some (.lst r)/\∃ vs:List Vs,vs.length=i/\L2.IsL K H' (vs.map qK) r/\(∀ v∈vs,VOk n m v)/\(∀ i v,vs[i]? = some v->VFull i v)/\∃ v0,ad=[v0,some (.ref t),some (.int (n:Int)),some (.int (m:Int)),some (.bl jg)])
   (λ D hD=>⟨hD,e2.new hD,aB,[],rfl,.nil,(λ v hv=>nomatch hv),(λ i v hv=>by simp at hv),none,rfl⟩) ?_ ?_
  rotate_left
  ·rintro D i r ad H3 hi ⟨hD,e3,hl,vs,gy,yc,hok,Po,v0,rfl⟩;refine eO ?_;refine (aK _ rfl (aK _ rfl (aK _ rfl (aK _ rfl (aK _ rfl (eA6 t sl i n m jg rfl ⟨e3.tp,hi,by lia,by lia,λ v p H4 e4 sv X7 hp=>?_⟩))))));have nD:D≠t:=e2.ne hD;have fD:H D=none:=e2.bt.free nD hD;have ut:H4 D=some (.lst r):=e4.bt D _ nD hl;have lf:r.length=vs.length:=by rw[yc.length,Ê]
   have mt:mH (H4 D):=by rw[ut];exact trivial
   refine⟨ut,aY (by lia),hD,(e3.trans e4).put tp fD,aB,vs++[v],by simp [gy],?_,?_,?_,_,rfl⟩
   ·rw[Ó];exact ė (Ï (đ (Ł _) (.inr mt)) _ _ hp) (Ö (đ (e4.bt.ts e3.tp.mut) (.inr mt)) _ _ yc)
   ·intro u hu;rcases ñ.mp hu with hu | hu
    ·exact hok u hu
    ·rw[é.mp hu];exact sv
   ·intro j u hu;rcases ō j vs.length with hj | hj
    ·rw[ě hj] at hu;exact Po j u hu
    ·rw[ŝ hj] at hu;have e0:j - vs.length=0:=by
      rcases Nat.eq_zero_or_pos (j - vs.length) with h | h
      ·exact h
      ·rw[ş (show [v].length<=j - vs.length from h)] at hu;cases hu
     rw[e0] at hu;have e1:j=i:=by lia
     cases hu;rw[e1];exact X7
  rintro D r ad H3 ⟨hD,e3,hl,vs,gy,yc,hok,Po,_⟩;have nD:D≠t:=e2.ne hD;have fD:H D=none:=e2.bt.free nD hD;refine⟨æ _,λ fl mf=>?_⟩;have nf:fl≠t:=e3.ne mf;have ff:H fl=none:=e3.bt.free nf mf;have Vg:D≠fl:=aH hl mf;refine (aK _ rfl (aK _ rfl ⟨by lia,by lia,?_⟩));refine fC (lo:=0) (n:=m) (λ j ad H'=>Ext t sl H H'/\H' D=some (.lst r)/\L2.IsL K H' (vs.map qK) r/\∃ (sps:List xP) (xs:List V),H' fl=some (.lst xs)/\L2.IsL K H' (sps.map xN) xs/\sps.length=j/\(∀ s∈sps,(0<=s.1/\s.1 < n)/\0<=s.2.1/\s.2.1<=60)/\
   ∃ v7 v8,ad=[some (.ref t),some (.int gj),some (.bl jg),some (.int (n:Int)),some (.int (m:Int)),some (.ref D),some (.ref fl),v7,v8]) ?_ ?_ ?_
  ·exact⟨e3.new mf,by rw[aJ Vg];exact hl,Ö (È mf).ts _ _ yc,[],[],aB,.nil,rfl,(λ s hs=>nomatch hs),none,none,rfl⟩
  ·rintro DD j - lq ad H4 hj ⟨e4,ut,Pp,sps,xs,Mh,sy,zg,Bh,v7,v8,rfl⟩;refine iE (t:=t) (sl:=sl) (H0:=H) (P:=dQ 0 61) (mT (cF rfl (by decide) (by decide)) (Ğ _) (by decide))
    (mT (lF (lo:=4) (hi:=62) rfl (by decide) (by decide) (qR rfl ⟨by decide,by decide⟩ ⟨by decide,by decide⟩)) (Ğ _) (by decide)) (qS (cF rfl (by decide) (by decide))) _ _ e4 ?_
   rintro v H5 e5 b5 ⟨zh,rfl,X8,fl1⟩;have X9:H5 fl=some (.lst xs):=b5 fl _ nf Mh;refine (aK _ rfl ⟨.inl ⟨rfl,_,Ë X9⟩,?_⟩);refine lE (t:=t) (sl:=sl) (H0:=H) (m:=(n:Int)) rfl rfl (by lia) (by lia) _ _ e5 ?_;rintro v H6 e6 b6 ⟨tg,rfl,Ya,Yb⟩;refine (aK _ rfl ?_);refine NS (t:=t) (sl:=sl) (H0:=H) (cF rfl (by decide) (by decide)) _ _ e6 ?_;rintro v H7 e7 b7 ⟨dr,rfl⟩;refine⟨(show 3<=sizeLine by decide),λ q hq=>?_⟩;have Pq:cK t H4 H7:=b5.trans (b6.trans b7);have Pr:H7 fl=some (.lst xs):=Pq fl _ nf Mh;have Ft:H7 D=some (.lst r):=Pq D _ nD ut;have nq:fl≠q:=aH Pr hq;have Yc:D≠q:=aH Ft hq;have Dv:xs.length=sps.length:=by rw[sy.length,Ê]
   refine⟨fl,xs,_,rfl,rfl,by rw[aJ nq];exact Pr,aY (by lia),?_⟩;have mt:mH (upd H7 q (.tup [.int tg,.int zh,.bl dr]) fl):=by rw[aJ nq,Pr];exact trivial
   have ts:bJ K H4 (upd (upd H7 q (.tup [.int tg,.int zh,.bl dr])) fl (.lst (xs++[.ref q]))):=đ ((Pq.trans (È hq).but).ts e4.tp.mut) (.inr mt);refine lq _ _ ⟨(e7.new hq).put tp ff,by rw[aJ Vg,aJ Yc];exact Ft,Ö ts _ _ Pp,sps++[(tg,zh,dr)],xs++[.ref q],aB,?_,by simp [zg],?_,_,_,rfl⟩
   ·rw[Ó];exact ė (Ô (ds:=[.int tg,.int zh,.bl dr]) (đ (Ł _) (.inr mt) _ _ (Ì aB)) (.cons (è _) (.cons (è _) (.cons (Is.b _) .nil)))) (Ö ts _ _ sy)
   ·intro s hs;rcases ñ.mp hs with hs | hs
    ·exact Bh s hs
    ·rw[é.mp hs];exact⟨⟨Ya,Yb⟩,X8,show zh<=60 by lia⟩
  ·rintro ad H4 ⟨e4,ut,Pp,sps,xs,Mh,sy,zg,Bh,v7,v8,rfl⟩;refine (aK _ rfl (aX D _ rfl (.inl ⟨Ë ut,λ q1 za=>(aK _ rfl (aX fl _ rfl (.inl ⟨Ë (È za _ _ Mh),λ q2 zb=>⟨(show 2<=sizeLine by decide),λ q3 Fq=>?_⟩⟩)))⟩)));have m1:aE H4 (upd H4 q1 (.tup r)):=È za;have m2:aE (upd H4 q1 (.tup r)) (upd (upd H4 q1 (.tup r)) q2 (.tup xs)):=È zb;have m3:aE (upd (upd H4 q1 (.tup r)) q2 (.tup xs)) (upd (upd (upd H4 q1 (.tup r)) q2 (.tup xs)) q3 (.tup [.ref q1,.ref q2])):=È Fq;refine k ⟨vs,sps⟩ _ _ (((e4.new za).new zb).new Fq) ⟨by show 1<=vs.length;lia,by show vs.length<=12;lia,by show sps.length<=12;lia,λ v hv=>by rw[gy,zg];exact hok v hv,λ s hs=>by rw[gy];exact (Bh s hs).1⟩ ⟨Po,λ s hs=>(Bh s hs).2⟩ (by show (vs.length:Int)<=gj;lia) ?_;refine Ô (Ì aB) (.cons (Ô (m3.tup (m2.tup (Ì aB))) ?_) (.cons (Ô (m3.tup (Ì aB)) ?_) .nil))
   ·exact Ö m3.ts _ _ (Ö m2.ts _ _ (Ö m1.ts _ _ Pp))
   ·exact Ö m3.ts _ _ (Ö m2.ts _ _ (Ö m1.ts _ _ sy))
theorem FR:∀ n:Nat,(List.replicate n [V.int 0]).flatten=(List.replicate n (0:Int)).map V.int
 | 0=>rfl
 | n+1=>by rw[ĭ,ĭ,œ,FR n,ã];rfl
def iM (n:Nat):List Int:=List.replicate n 0
def jL (K:Ç):Sp:=λ args H Q _=>∃ (x:V) (gk:Net),args=[x]/\Is K H (iG gk) x/\NetOk gk/\
 ∀ p H',aE H H'->Is K H' (J3 (iM gk.vs.length) (iM gk.vs.length) (gk.sps.map (·.2.2))) p->Q p H'
theorem kP:FnScope ["net","vessels","spouts","empty"] ["net"] (aL (bW 11)):={}
theorem rY {f:Á}{fd:FuncData} (F:Fun K "first_state" "first_state" (bW 11) f fd) (T:Txt mg):FnOk P w K mg base kA 1 f fd ["net"] (jL K):=by
 refine F.ok kP (λ vs H Q E h=>?_) (λ ja A outer s H vs Q E hr h=>?_)
 ·obtain⟨x,gk,rfl,_⟩:=h;rfl
 ·obtain⟨x,gk,rfl,hx,il,k⟩:=h;have sc:=kP;refine⟨_,(aD (dU (pv 0) (bA (K:=K) (n:=2) rfl rfl (aG (gL 1 sc.nd) (aG (gL 2 sc.nd) aZ))))
   (aD (pL 3 sc.nd (aS (yD (K:=K) rfl) (aU (aA aF aC)) (pC K T.b_len (pv 1))))
   (aI (bG (aU (aA (pv 3) (aA (pv 3) (aA (aW (bI (K:=K) rfl) rfl T.b_tuple bQ (aA (eW (λ _ _ h=>h) rfl (LcOk.mk (N':=["target","flow","door"]) (fr:=[none,none,none]) rfl trivial rfl rfl rfl rfl rfl trivial) (eG (K:=K) rfl (pv 2)) (λ _ _ _=>(bA (K:=K) (n:=3) rfl rfl (aG (gC 0 ["target","flow","door"]) (aG (gC 1 ["target","flow","door"]) (aG (gC 2 ["target","flow","door"]) aZ))))) (λ _ _ _=>bS) (λ _ _ _=>(pv 2))) aC)) aC)))))))),?_⟩
  obtain⟨a,b,c,xs,ys,rfl,q,q1,l1,q2,l2⟩:=gO hx;have nt:xs.length=gk.vs.length:=by rw[l1.length,Ê]
  have An:ys.length=gk.sps.length:=by rw[l2.length,Ê]
  have n1:=il.lo;have n2:=il.hi;have n3:=il.sp;refine⟨_,rfl,a,_,rfl,q,rfl,_,_,rfl,_,_,rfl,rfl,?_⟩;refine⟨(show 1<=sizeLine by decide),λ z hz=>(aK _ rfl (aX b xs rfl ⟨.inr ((È hz).tup q1),(uS z _ [.int 0] rfl ⟨rfl,Ì aB,by lia,by lia,by simp,by simp,λ e H1 oz qe=>?_⟩)⟩))⟩;have s1:aE H H1:=(È hz).trans oz;have en:((xs.length:Nat):Int).toNat=gk.vs.length:=by rw[nt];simp
  rw[en,FR] at qe;refine⟨_,rfl,_,rfl,_,rfl,c,rfl,⟨_,s1.tup q2⟩,iW (K:=K) (a:=c) (xs:=ys) (λ D i r ad H'=>H1 D=none/\aE H1 H'/\H' D=some (.lst r)/\r=((gk.sps.take i).map (·.2.2)).map V.bl/\∃ u v w,ad=[u,v,w])
   (λ D i r ad H' p=>p.2.1.tup (s1.tup q2)) (λ D hD=>⟨hD,È hD,aB,by simp,none,none,none,rfl⟩) ?_ ?_⟩
  rotate_left
  ·rintro D i x r ad H2 hx ⟨hD,sm,iw,rfl,u,v,w',rfl⟩;obtain⟨sp,yb,sa,rfl,qs⟩:=oY l2 hx;have hil:=(Ò.mp yb).1;refine (aX sa _ rfl ⟨sm.tup (s1.tup qs),rfl,(aX _ _ rfl (aX _ _ rfl (aX _ _ rfl ⟨rfl,?_⟩)))⟩);refine fI ⟨_,rfl,iw,aY (by simp;lia),hD,sm.put hD,aB,?_,_,_,_,rfl⟩;rw[aO yb];simp
  ·rintro D r ad H2 ⟨hD,sm,iw,rfl,_⟩;rw[An,Ù] at iw;refine (aX D _ rfl (.inl ⟨Ë iw,λ d hd=>⟨(show 3<=sizeLine by decide),λ r Ck=>?_⟩⟩));have m1:aE H2 (upd H2 d (.tup ((gk.sps.map (·.2.2)).map V.bl))):=È hd;have m2:aE (upd H2 d (.tup ((gk.sps.map (·.2.2)).map V.bl))) (upd (upd H2 d (.tup ((gk.sps.map (·.2.2)).map V.bl))) r (.tup [.ref e,.ref e,.ref d])):=È Ck;refine k _ _ (((s1.trans sm).trans m1).trans m2) (AZ (Ì aB) ?_ ?_ (m2.tup (Ì aB)))
   ·exact m2.tup (m1.tup (sm.tup qe))
   ·exact m2.tup (m1.tup (sm.tup qe))
theorem mQ:FnScope ["net","none"] ["net"] (aL (bW 35)):={}
theorem tS {f:Á}{fd:FuncData} (F:Fun K "_law_first" "_law_first" (bW 35) f fd) (T:Txt mg):FnOk P w K mg base kA 1 f fd ["net"] (jL K):=by
 refine F.ok mQ (λ vs H Q E h=>?_) (λ ja A outer s H vs Q E hr h=>?_)
 ·obtain⟨x,gk,rfl,_⟩:=h;rfl
 ·obtain⟨x,gk,rfl,hx,il,k⟩:=h;have sc:=mQ;refine⟨_,(aD (pL 1 sc.nd (aS (yD (K:=K) rfl) (aU (aA aF aC)) (pC K T.b_len (px K (pv 0) aF))))
   (aI (bG (aU (aA (pv 1) (aA (pv 1) (aA (aW (bI (K:=K) rfl) rfl T.b_tuple bQ (aA (eW (λ _ _ h=>h) rfl (LcOk.mk (N':=["spout"]) (fr:=[none]) rfl trivial rfl rfl rfl rfl rfl trivial) (eG (K:=K) rfl (px K (pv 0) aF)) (λ _ _ _=>(gC 0 ["spout"])) (λ _ _ _=>bS) (λ _ _ _=>(px K (pv 0) aF))) aC)) aC))))))),?_⟩
  obtain⟨a,b,c,xs,ys,rfl,q,q1,l1,q2,l2⟩:=gO hx;have nt:xs.length=gk.vs.length:=by rw[l1.length,Ê]
  have An:ys.length=gk.sps.length:=by rw[l2.length,Ê]
  have n1:=il.lo;have n2:=il.hi;have n3:=il.sp;refine⟨(show 1<=sizeLine by decide),λ z hz=>(aK _ rfl (.inr (.inl (iF a _ 0 _ rfl ⟨rfl,(È hz).tup q,rfl,(aX b xs rfl ⟨.inr ((È hz).tup q1),(uS z _ [.int 0] rfl ⟨rfl,Ì aB,by lia,by lia,by simp,by simp,λ e H1 oz qe=>?_⟩)⟩)⟩))))⟩;have s1:aE H H1:=(È hz).trans oz;have en:((xs.length:Nat):Int).toNat=gk.vs.length:=by rw[nt];simp
  rw[en,FR] at qe;refine⟨_,rfl,_,rfl,_,rfl,.inr (.inl ⟨a,_,1,_,rfl,rfl,s1.tup q,rfl,c,rfl,⟨_,s1.tup q2⟩,iW (K:=K) (a:=c) (xs:=ys) (λ D i r ad H'=>H1 D=none/\aE H1 H'/\H' D=some (.lst r)/\r=((gk.sps.take i).map (·.2.2)).map V.bl/\∃ u,ad=[u])
   (λ D i r ad H' p=>p.2.1.tup (s1.tup q2)) (λ D hD=>⟨hD,È hD,aB,by simp,none,rfl⟩) ?_ ?_⟩)⟩
  rotate_left
  ·rintro D i x r ad H2 hx ⟨hD,sm,iw,rfl,u,rfl⟩;obtain⟨sp,yb,sa,rfl,qs⟩:=oY l2 hx;have hil:=(Ò.mp yb).1;refine eO ?_;refine⟨_,rfl,.inr (.inl ⟨sa,_,2,_,rfl,rfl,sm.tup (s1.tup qs),rfl,iw,aY (by simp;lia),hD,sm.put hD,aB,?_,_,rfl⟩)⟩;rw[aO yb];simp
  ·rintro D r ad H2 ⟨hD,sm,iw,rfl,_⟩;rw[An,Ù] at iw;refine (aX D _ rfl (.inl ⟨Ë iw,λ d hd=>⟨(show 3<=sizeLine by decide),λ r Ck=>?_⟩⟩));have m1:aE H2 (upd H2 d (.tup ((gk.sps.map (·.2.2)).map V.bl))):=È hd;have m2:aE (upd H2 d (.tup ((gk.sps.map (·.2.2)).map V.bl))) (upd (upd H2 d (.tup ((gk.sps.map (·.2.2)).map V.bl))) r (.tup [.ref e,.ref e,.ref d])):=È Ck;refine k _ _ (((s1.trans sm).trans m1).trans m2) (AZ (Ì aB) ?_ ?_ (m2.tup (Ì aB)))
   ·exact m2.tup (m1.tup (sm.tup qe))
   ·exact m2.tup (m1.tup (sm.tup qe))
theorem jD {α:Type} (f:α->L2.D) (hf:∀ a,(f a).depth=0):∀ l:List α,bV (l.map f)=0
 | []=>by rw[û,bV]
 | a::r=>by rw[ã,bV,hf,jD f hf r];rfl
set_option tactic.hygienic true in
theorem hU (i:Int):(L2.D.int i).depth=0:=by rw[L2.D.depth] <;> intros <;> (first | rfl | (intro z;cases z) | (rename_i z;cases z))
set_option tactic.hygienic true in
theorem yX (i:Bool):(L2.D.bl i).depth=0:=by rw[L2.D.depth] <;> intros <;> (first | rfl | (intro z;cases z) | (rename_i z;cases z))
theorem yW (gw gm:List Int) (gn:List Bool):bV [.tup (gw.map L2.D.int),.tup (gm.map L2.D.int),.tup (gn.map L2.D.bl)]=1:=by
 simp only [bV,L2.D.depth,jD _ hU,jD _ yX];rfl
theorem NH (K:Ç):PySem.W.kitOne K (.type "bool") (.type "bool")=some true:=by
 unfold PySem.W.kitOne;rw[Å (by decide +kernel)]
theorem NG (K:Ç):PySem.W.kitOne K (.type "int") (.type "bool")=some false:=by
 unfold PySem.W.kitOne;rw[Ä (by decide +kernel)];show (if PySem.W.kitMeta "bool" = true then PySem.W.subIn K (.type "int") (.type "bool") else none)=some false;rw[Å (by decide +kernel)];show (PySem.fastBuiltinMro "int").map (·.contains (.type "bool"))=some false;decide +kernel
end Tw
namespace L2
open PySem PySem.Spec PyProof.Rows TwZ
section
variable {X:Cx}
theorem fW {x:Str}{v:V}{pos:Pos} (hg:Gl X x) (h:∃ u,X.mg x=some u/\bE v u) (hd:(x == ("__debug__" : Str))=false:=by decide):PE X (.Name x pos) (tC v):=by
 obtain⟨u,e,r⟩:=h;exact K6 hg e r hd
theorem GL (hK:X.K=K):jJ X (compareOp .In) (rIn K false):=by subst hK;exact D9
end
theorem iteD {c A B:Prop} [Decidable c] (hc:c) (h:A):if decide c=true then A else B:=by
 rw[Å (ò hc)];exact h
end L2
namespace Tw
open PySem L2
theorem NF (K:Ç):PySem.W.kitOne K (.type "int") (.type "int")=some true:=by
 unfold PySem.W.kitOne;rw[Å (by decide +kernel)]
section
variable {aw:Á}
def vC:Sp:=λ vs H Q _=>∃ (n lo hi:Int),vs=[.int n,.int lo,.int hi]/\lo<=n/\n<=hi/\Q (.bl true) H
end
end Tw
namespace L2
open PySem PySem.Spec PyProof.Rows
def PL (K:Ç) (n:Nat) (t:IW):TG:=λ v σ H Q=>∃ a xs,v=.ref a/\bD K H a xs/\xs.length=n/\t xs σ H Q
theorem N7 {X:Cx}{pos:Pos}{es:List Expr}{k:Nat}{t:IW}{n:Nat} (hc:X.calm=true) (h:O7 X es t)
  (hn:(assignEach es X.env).length=n:=by with_unfolding_all rfl) (qi:(assignEach es X.env).findIdx? (·.1)=none:=by with_unfolding_all rfl):PG X (.Tuple es k pos) (PL X.K n t):=by
 intro gi s σ H v u Q I r hw;obtain⟨a,xs,e1,hq,hl,hw⟩:=hw;subst e1;cases r;obtain⟨its,rv,ht,hz⟩:=I.list hq;rw[assign_Tuple];refine Æ (ŀ ?_);unfold unpack;have e:(assignEach es X.env).length=its.toArray.size:=by simp [hn,<- hl,rv.length]
 rw[e,qi];refine Æ (ð (PySem.W.kun_itemsOf (I.ok.hd hc) ht.isList λ h' hx=>?_));have I1:Inv X gi σ H { s with heap:=h' }:=I.kept (t':=s.toks) λ b o e=>hx b o (Þ (Ñ e)) e;exact h gi _ σ H xs _ Q I1 (by simpa using rv) hw
theorem K5 {X:Cx}{K:Ç}{pos:Pos}{es:List Expr}{k:Nat}{t:IW}{n:Nat} (hK:X.K=K) (hc:X.calm=true) (h:O7 X es t)
  (hn:(assignEach es X.env).length=n:=by with_unfolding_all rfl) (qi:(assignEach es X.env).findIdx? (·.1)=none:=by with_unfolding_all rfl):PG X (.Tuple es k pos) (PL K n t):=by
 subst hK;exact N7 hc h hn qi
end L2
namespace L2
open PySem PySem.Spec PyProof.Rows TwZ
section
variable {X:Cx}
theorem GO (hK:X.K=K):jJ X (binaryOp .Add) (LY K):=by subst hK;exact BF
theorem rB (l:Á) (items:Array À) (n:Nat) (x:Int) (u:Tok) (dd:Option Á) (sl:Array (Option À)) (c0:¬ (decide (x < -(2 ^ 63)) || decide (x ≥ 2 ^ 63))=true) (c1:¬ (items.isEmpty || x == 1)=true)
  (c2:(decide (x<=0) || items.isEmpty)=true) :
  Meets (Builtin.«tuple.__mul__» ⟨[.ref l,.int x u],[]⟩) (λ _ R s=>s.heap.get? l=some { cls:=.type "tuple",dict:=dd,data:=.seq items n,slots:=sl }/\
   R (.ok (.ret (.ref s.heap.objs.size))) { s with heap:=s.heap.push { cls:=.type "tuple",data:=.seq #[] } }):=
 .of_wp λ prog w A R s h=>by
  obtain⟨hp,g,d,tk,os⟩:=s;obtain⟨hl,h⟩:=h
  wp_walk
  rw[Ä c0]
  wp_walk
  all_goals (try rw[Ä c1])
  wp_walk
  all_goals (try rw[Å c2])
  wp_walk
  exact⟨_,rfl,h⟩
def LQ (K:Ç):R2:=λ x y H Q=>∃ (l:Á) (k:Int) (xs:List V),x=.ref l/\y=.int k/\bC K H l xs/\0<=k/\k < 1000000/\xs≠[]/\xs.length<=10/\
 ∀ p H',aE H H'->bC K H' p (List.replicate k.toNat xs).flatten->Q (.ref p) H'
theorem KA:jJ X (binaryOp .Mult) (LQ X.K):=by
 intro gi s σ H x y v u Q I rx ry h;obtain⟨l,k,xs,rfl,rfl,hq,h1,h2,vb,Hi,q⟩:=h
 by_cases hk:1<=k
 ·exact BD gi s σ H _ _ v u Q I rx ry ⟨l,k,xs,rfl,rfl,hq,hk,h2,vb,Hi,q⟩
 ·have Yd:k=0:=by lia
  subst Yd;cases rx;obtain⟨t,rfl⟩:=ry;obtain⟨its,r,ht,z⟩:=I.tuple hq;have gy:=r.length;obtain⟨⟨cls,dd,data,sl⟩,e,hc,n,hd⟩:=id ht;simp only at hc hd;subst hc hd;refine afa (T := "tuple") (U := "int") (by decide) ⟨_,e,rfl⟩ (λ s'=>İ s' 0 t) j8 F.fills_int_mul ŕ o7 F.slot_int_index.lookup
   (ħ ŕ (İ s 0 t) ahj (ag2 _ _) (lD 0 t l its.toArray n dd sl) ⟨e,rfl,⟨_,e,rfl⟩,?_⟩)
  have Du:its≠[]:=λ z=>by rw[z] at gy;exact vb (aga gy)
  have Bf:its.toArray.isEmpty=false:=by cases its with
   | nil=>exact absurd rfl Du
   | cons a r=>rfl
  refine ħ ahk ⟨_,e,rfl⟩ ag4 (agv _ _) (rB l its.toArray n 0 t dd sl (by decide) (by rw[Bf];decide) (by simp)) ⟨e,?_⟩;have I1:=I.laid (a:=s.heap.objs.size) (o:=.tup []) (h':=s.heap.push { cls:=.type "tuple",data:=.seq #[] }) (t':=s.toks)
   (λ _ _ q=>Í _ q) (Î _) ⟨æ _,[],.nil,⟨_,ß _ rfl,rfl,0,rfl⟩⟩
  exact⟨.ref _,_,I1,rfl,q _ _ (È I.fresh) (Ì aB)⟩
theorem rV (hK:X.K=K):jJ X (binaryOp .Mult) (LQ K):=by subst hK;exact KA
end
section
variable {g:TG}{tc:TT}{te:TE}{fr:List (Option Nat)}{σ:St}{H1:Hp}{Q:Á->Hp->Prop}
end
end L2
namespace Tw
open PySem L2
section
variable {r dx R M T:Á}{H H':Hp}{S:RunS}{fp:List Á}{np mv:V}{ts:List Á}{rs ms:List V}
end
def oZ (K:Ç):Sp:=λ vs H Q _=>∃ (x:V) (gk:Net) (v:Int),vs=[x,.int v]/\Is K H (iG gk) x/\NetOk gk/\∀ p H',aE H H'->bC K H' p ((v::iM (gk.vs.length - 1)).map V.int)->Q (.ref p) H'
theorem rN:FnScope ["net","amount","vessels","spouts"] ["net","amount"] (aL (bW 12)):={}
theorem A3 {f:Á}{fd:FuncData} (F:Fun K "pouring" "pouring" (bW 12) f fd) (T:Txt mg):FnOk P w K mg base kA 1 f fd ["net","amount"] (oZ K):=by
 refine F.ok rN (λ vs H Q E h=>?_) (λ ja A outer s H vs Q E hr h=>?_)
 ·obtain⟨x,gk,v,rfl,_⟩:=h;rfl
 ·obtain⟨x,gk,v,rfl,hx,il,k⟩:=h;have sc:=rN;refine⟨_,(aD (dU (pv 0) (bA (K:=K) (n:=2) rfl rfl (aG (gL 2 sc.nd) (aG (gL 3 sc.nd) aZ))))
   (aI (bG (aS (GO (K:=K) rfl) (aU (aA (pv 1) aC)) (aS (rV (K:=K) rfl) (aU (aA aF aC)) (aS iB (pC K T.b_len (pv 2)) aF)))))),?_⟩
  obtain⟨a,b,c,xs,ys,rfl,q,q1,l1,q2,l2⟩:=gO hx;have nt:xs.length=gk.vs.length:=by rw[l1.length,Ê]
  have n1:=il.lo;have n2:=il.hi;refine⟨_,rfl,a,_,rfl,q,rfl,_,_,rfl,_,_,rfl,rfl,?_⟩;refine (aK _ rfl ⟨(show 1<=sizeLine by decide),λ y hy=>⟨(show 1<=sizeLine by decide),λ z hz=>?_⟩⟩);have m1:=È (o:=HO.tup [.int v]) hy;have m2:=È (o:=HO.tup [.int 0]) hz;refine (aK _ rfl (aX b xs rfl ⟨.inr (m2.tup (m1.tup q1)),(aX _ _ rfl ⟨rfl,(uS z _ [.int 0] rfl ⟨rfl,Ì aB,by lia,by lia,by simp,by simp,λ e H1 oz qe=>?_⟩)⟩)⟩));have en:(((xs.length:Nat):Int) - 1).toNat=gk.vs.length - 1:=by rw[nt];lia
  rw[en,FR] at qe;refine⟨y,e,[.int v],_,rfl,rfl,oz.tup (m2.tup (Ì aB)),qe,by simp,aY (by simp;lia) |> Ķ,λ he=>?_,λ _ p hp=>?_⟩
  ·refine k _ _ ((m1.trans m2).trans oz) ?_;have e0:iM (gk.vs.length - 1)=[]:=List.map_eq_nil_iff.mp he;rw[e0];exact oz.tup (m2.tup (Ì aB))
  ·exact k _ _ (((m1.trans m2).trans oz).trans (È hp)) (Ì aB)
end Tw
namespace L2
open PySem PySem.Spec PyProof.Rows TwZ
section
variable {X:Cx}{gi:List (Á×Obj)}{σ:St}{H:Hp}{s:Â}
end
section
variable {H:Hp}
end
theorem cG.some {P:Ã}{w:World}{H:Hp}{h:Heap}{a:Á}{o:HO} (x:cG P w H h a o):∃ ob,h.get? a=some ob:=by
 cases o with
 | lst xs=>obtain⟨_,_,_,_,e⟩:=x;exact⟨_,e⟩
 | tup xs=>obtain⟨_,_,_,ob,e,_⟩:=x;exact⟨_,e⟩
 | dK gu=>obtain⟨_,_,_,_,o,_,_,e,_⟩:=x;exact⟨_,e⟩
 | dT gu=>obtain⟨_,_,_,_,o,_,_,e,_⟩:=x;exact⟨_,e⟩
 | set S n=>obtain⟨o,_,_,_,e,_⟩:=x;exact⟨_,e⟩
 | ins C dx fs=>obtain⟨_,_,_,e,_⟩:=x;exact⟨_,e⟩
 | own y=>obtain⟨_,e⟩:=x;exact⟨_,e⟩
 | xd fs=>obtain⟨_,⟨_,_,_,e,_⟩,_⟩:=x;exact⟨_,e⟩
 | rng lo hi=>obtain⟨_,_,_,e⟩:=x;exact⟨_,e⟩
 | frz ob u=>obtain⟨e,_⟩:=x;exact⟨_,e⟩
 | tbl ps=>exact⟨_,(show h.get? a=Option.some _ from x)⟩
 | met f y=>exact⟨_,(show h.get? a=Option.some _ from x)⟩
 | ext fo=>obtain⟨_,⟨_,e⟩,_⟩:=x;exact⟨_,e⟩
structure Fly (P:Ã) (w:World) (stack:List Env) (H:Hp) (h:Heap) (ea:Á) (cls a0:À) (H':Hp) (h' B:Heap):Prop where
 fl:Heap.FlyingW B stack ea cls a0 h'
 keep:∀ b o,h.get? b=some o->H b=none->b∉jV stack->B.get? b=some o
 slot:∀ b o,h.get? b=some o->H b=none->b∈jV stack->∃ sl,h'.get? b=some { o with slots:=sl }
 free:∀ b o,h.get? b=some o->H b=none->H' b=none
 there:∀ b o,h.get? b=some o->b∉jV stack->∃ o',B.get? b=some o'
 tups:∀ b xs,H b=some (.tup xs)->H' b=some (.tup xs)
 frzs:∀ b o u,H b=some (.frz o u)->H' b=some (.frz o u)
 tbls:∀ b ps,H b=some (.tbl ps)->∃ more,H' b=some (.tbl (ps++more))
 hok:mV P w H' B
def u9 (P:Ã) (w:World):AU:=λ outer H s E e s'=>∃ (ea:Á) (cls a0:À) (H':Hp) (B:Heap),e=.ref ea/\s'.os=s.os/\AllBare s'.gens/\Fly P w outer H s.heap ea cls a0 H' s'.heap B/\E cls none H'
structure Leaves (X:Cx) (E:XK):Prop where
 stk:X.stack=X.env::X.outer
 fr:X.env.frame=some X.env.locals
 ex:X.ex=[]
 xe:∀ e s',wpAny (model X.prog X.w) X.A (leaving X.env e) (λ _ s''=>u9 X.prog X.w X.outer X.H₀ X.s₀ E e s'') (λ e' s''=>u9 X.prog X.w X.outer X.H₀ X.s₀ E e' s'') s'->X.xe e s'
section
variable {X:Cx}{gi:List (Á×Obj)}{σ:St}{H H':Hp}{s s':Â}{E:XK}
theorem KL {l:List Env}{b:Á}{env:Env} (he:env∈l) (hf:env.frame=some b):b∈jV l:=List.mem_filterMap.mpr ⟨env,he,hf⟩
theorem oE {l:List Env}{b L:Á}{env:Env} (hf:env.frame=some L) (h:b∈jV (env::l)):b=L\/b∈jV l:=by
 unfold jV at h ⊢;rw[ŧ,hf] at h;exact Ý.1 h
theorem FV {h':Heap}{ea:Á}{cls:À}{vs:List À} (L:Leaves X E) (I:Inv X gi σ H s) (hx:Heap.MadeExcOf s.heap h' ea cls vs) (hE:E cls none H):X.xe (.ref ea) { s with heap:=h' }:=by
 refine L.xe _ _ ?_;have fr:X.A.frames=some (X.env::X.outer):=by rw[<- L.stk];exact I.ok.frames
 have hs:s.heap.FunFrames X.base (X.env::X.outer):=by rw[<- L.stk];exact I.stack
 have jz:∀ b∈jV (X.env::X.outer),H b=none:=by rw[<- L.stk];exact I.stkFree
 have yd:∀ b:Á,b∉X.ex:=λ b z=>by rw[L.ex] at z;cases z
 have out:∀ b o,X.s₀.heap.get? b=some o->b∉jV X.outer->b∉jV (X.env::X.outer):=λ b o e hb z=>by
  rcases oE L.fr z with z | z
  ·exact absurd (í (Ñ e) I.ok.above) (by rw[z];exact ā _)
  ·exact hb z
 refine wpAny_leaves_madeW (base:=PySem.W.hideAll s.heap (jV (X.env::X.outer))) fr L.fr (λ b o q=>PySem.W.of_hideAll _ q) (PySem.W.funFrames_hide hs λ env he a hf=>KL he hf) hx λ h2 t x1 x2 x3 x4=>?_;refine⟨ea,cls,.ref t,H,_,rfl,I.os,I.bare,⟨x1,λ b o e n hb=>?_,λ b o e n hb=>?_,λ b o e n=>I.base.free b o e n (yd b),λ b o e hb=>?_,I.base.tups,I.base.frzs,I.base.tbls,λ a o e=>?_⟩,hE⟩
 ·exact aff _ (I.base.keep b o e n hb (yd b)) (out b o e hb)
 ·obtain⟨sl,e1⟩:=I.base.slot b o e n hb (yd b);obtain⟨_,o',ni,hd⟩:=I.ok.funs.mem hb;rw[e] at ni;cases ni;obtain⟨Cb,e2⟩:=x4 b _ (hx.keeps _ _ e1) hd;exact⟨Cb,e2⟩
 ·obtain⟨o',e1⟩:=I.base.there b o e (yd b);exact⟨o',aff _ e1 (out b o e hb)⟩
 ·refine (I.hok a o e).stay (λ b u hb q=>aff _ q λ z=>?_) (λ _ q=>q) λ _ _ q=>q;have:=jz b z;rcases hb with rfl | hb
  ·rw[e] at this;cases this
  ·rw[hb] at this;cases this
theorem BC (L:Leaves X E):nL (u9 X.prog X.w) X E:=by
 intro gi σ H s e s' I h;obtain⟨ea,cls,a0,H',B,rfl,os,bare,F,hE⟩:=h;refine L.xe _ _ ?_;have fr:X.A.frames=some (X.env::X.outer):=by rw[<- L.stk];exact I.ok.frames
 have yd:∀ b:Á,b∉X.ex:=λ b z=>by rw[L.ex] at z;cases z
 have out:∀ b o,X.s₀.heap.get? b=some o->b∉jV X.outer->b∉jV X.stack:=λ b o e hb z=>by
  rw[L.stk] at z;rcases oE L.fr z with z | z
  ·exact absurd (í (Ñ e) I.ok.above) (by rw[z];exact ā _)
  ·exact hb z
 have Ye:∀ b,b∈jV X.outer->b∈jV X.stack:=λ b hb=>by
  rw[L.stk];unfold jV at hb ⊢;rw[ŧ,L.fr];exact ô _ hb
 refine wpAny_leaves_onW fr L.fr (by rw[<- L.stk];exact F.fl) λ h2 x1 x2=>?_;refine⟨ea,cls,a0,H',B,rfl,os.trans I.os,bare,⟨x1,λ b o e n hb=>?_,λ b o e n hb=>?_,λ b o e n=>?_,λ b o e hb=>?_,λ b xs e=>F.tups b xs (I.base.tups b xs e),λ b o u e=>F.frzs b o u (I.base.frzs b o u e),λ b ps e=>?_,F.hok⟩,hE⟩
 ·exact F.keep b o (I.base.keep b o e n hb (yd b)) (I.base.free b o e n (yd b)) (out b o e hb)
 ·obtain⟨sl,e1⟩:=I.base.slot b o e n hb (yd b);obtain⟨Cb,e2⟩:=F.slot b _ e1 (I.base.free b o e n (yd b)) (Ye b hb);obtain⟨_,o',ni,hd⟩:=I.ok.funs.mem hb;rw[e] at ni;cases ni;obtain⟨Ps,e3⟩:=x2 b _ e2 hd;exact⟨Ps,e3⟩
 ·obtain⟨o',e1⟩:=I.base.there b o e (yd b);exact F.free b o' e1 (I.base.free b o e n (yd b))
 ·obtain⟨o',e1⟩:=I.base.there b o e (yd b);exact F.there b o' e1 (out b o e hb)
 ·obtain⟨m1,e1⟩:=I.base.tbls b ps e;obtain⟨m2,e2⟩:=F.tbls b _ e1;exact⟨m1++m2,by rw[e2,Array.append_assoc]⟩
def E6 (ea:Á) (cls:À):HO:=.ext λ h=>∃ o,h.get? ea=some o/\o.cls=cls
theorem Inv.caught {ea:Á}{cls a0:À}{B:Heap} (I:Inv X gi σ H s) (os:s'.os=s.os) (bare:AllBare s'.gens) (F:Fly X.prog X.w X.stack H s.heap ea cls a0 H' s'.heap B):H' ea=none/\Inv X gi σ (upd H' ea (E6 ea cls)) s':=by
 obtain⟨ob,Fu,wm⟩:=F.fl.there;obtain⟨oe,vs,rn,_,Yf,_⟩:=F.fl.first
 have Ao:H' ea=none:=by
  cases q:H' ea with
  | none=>rfl
  | some o=>
   obtain⟨o',e⟩:=(F.hok ea o q).some;rw[F.fl.2.1] at e;cases e
 have Pu:∀ b∈jV X.stack,b≠ea:=λ b hb z=>by
  obtain⟨_,o',ni,hd⟩:=F.fl.2.2.1.mem hb;rw[z,rn] at ni;cases ni;exact hd _ Yf
 have ne:∀ b o,s.heap.get? b=some o->b≠ea:=λ b o e z=>by
  by_cases hb:b∈jV X.stack
  ·exact Pu b hb z
  ·obtain⟨o',e'⟩:=F.there b o e hb;rw[z,F.fl.2.1] at e';cases e'
 have kb:∀ b u,B.get? b=some u->s'.heap.get? b=some u:=F.fl.1;refine⟨Ao,I.call' (ch:=[]) os ⟨λ b o e n hb _=>kb _ _ (F.keep b o e n hb),λ b o e n hb _=>F.slot b o e n hb,λ b o e n _=>?_,λ b o e _=>?_,λ b xs e=>?_,λ b o u e=>?_,λ b ps e=>?_⟩ (λ b u e=>?_) bare (λ b z=>absurd z (by simp))⟩
 ·rw[aJ (ne b o e)];exact F.free b o e n
 ·by_cases hb:b∈jV X.stack
  ·obtain⟨_,o',ni,_⟩:=F.fl.2.2.1.mem hb;exact⟨o',ni⟩
  ·obtain⟨o',e'⟩:=F.there b o e hb;exact⟨o',kb _ _ e'⟩
 ·have:=F.tups b xs e;rw[aJ (aH this Ao)];exact this
 ·have:=F.frzs b o u e;rw[aJ (aH this Ao)];exact this
 ·obtain⟨m,e1⟩:=F.tbls b ps e;exact⟨m,by rw[aJ (aH e1 Ao)];exact e1⟩
 ·by_cases hb:b=ea
  ·subst hb;rw[aB] at e;cases e;exact⟨⟨ob,Fu,wm⟩,⟨ob,Fu⟩,λ h1 h2 ⟨o,e1,e2⟩ k=>⟨o,k _ e1,e2⟩⟩
  ·rw[aJ hb] at e;exact (F.hok b u e).stay (λ c v _ q=>kb c v q) (λ c q=>by rw[aJ (aH q Ao)];exact q) λ c xs q=>by rw[aJ (aH q Ao)];exact q
def MK (E:XK) (C:Á) (t:TA):TS:=λ _ σ H=>t σ H λ vs H1=>vs.length<=100/\E (.ref C) none H1
set_option tactic.hygienic true in
theorem G0 {x:Str}{C:Á}{bm:List À}{newId Dz B:String}{np jd pos:Pos}{fj:Expr}{jc:List Expr}{t:TA} (L:Leaves X E) (hc:X.calm=true) (hg:Gl X x) (O:PySem.W.excIn X.K C bm newId=true) (hm:PySem.W.nsIn X.K mainGlobals x=some (some (.ref C))) (FB:ExcBaseFacts B newId Dz bm) (ha:PA X (fj::jc) t)
  (he:starEach (fj::jc) X.env=(false,eval fj X.env)::starEach jc X.env:=by with_unfolding_all rfl) (nk:(backTo jd (starEach jc X.env)).any (·.1)=false:=by with_unfolding_all rfl) (hd:(x == ("__debug__" : Str))=false:=by decide) :
  PS X (.Raise (some (.Call (.Name x np) (fj::jc) [] jd)) none pos) (MK E C t):=by
 intro gi s σ H D I h;have G:X.mg x=some (.ref C):=Ü I.ok.mod.kin I.ok.mod.glob hm;have Yg:OwnCls x C bm newId X.mg X.base:=by
  refine⟨G,?_⟩;have q:=O;unfold PySem.W.excIn at q
  split at q
  ·rename_i dd cd sl ho
   split at q
   ·rename_i C' bm' k0 k1 k2 k3 n k5 Al hs
    simp only [ņ,Bool.not_eq_true',Ŏ] at q;obtain⟨⟨⟨⟨⟨rfl,rfl⟩,Hv⟩,ht⟩,hok⟩,Mi⟩:=q;obtain⟨nm,bs,mro,ns,qn,Gp,sn,sub,ab,col,del⟩:=cd;dsimp only at Al Hv hok Mi;subst Al Hv;have qr:sl = #[k0,k1,k2,k3,some (.builtin n),k5]:=by obtain⟨l⟩:=sl;simp only at hs;rw[hs]
    subst qr;exact⟨bm',ns,nm,qn,bs,Gp,sn,sub,ab,col,dd,k0,k1,k2,k3,k5,_,I.ok.mod.kin _ _ ho,.of_isNs (PySem.W.isNs_of_in I.ok.mod.kin hok),PySem.W.nsMap_none_of_in I.ok.mod.kin hok Mi,PySem.W.tail_of_in I.ok.mod.kin ht⟩
   ·cases q
  ·cases q
 obtain⟨tl,N,nm,q,bs,hdct,sn,sub,ab,col,dd,k0,k1,k2,k3,k5,mN,hC,hN,Mi,T⟩:=Yg.obj;refine wpAny_Raise_call_subT (C:=C) (nm:=nm) (q:=q) (N:=N) (bs:=bs) (bm:=tl) (hdct:=hdct) (sn:=sn) (sub:=sub) (ab:=ab) (col:=col) (dd:=dd) (k0:=k0) (k1:=k1) (k2:=k2) (k3:=k3) (k5:=k5) FB (mN:=mN) (T.hasType FB.hasBase) (I.ok.hd hc) (by rw[he];show (false || (backTo jd (starEach jc X.env)).any (·.1))=false;rw[nk];rfl) Mi (oH I hg G ⟨rfl,?_⟩ hd);have su:=ha jd gi s σ H _ I h;rw[he] at su ⊢;refine ae8 (á su (λ us cp ⟨vs,H1,I1,r1,gy,hE⟩=>⟨rfl,?_,I1.bk _ _ hC,hN.keeps I1.bk,T.keeps I1.bk,λ h' e Yh=>FV L I1 Yh hE⟩) λ _ _ y=>y);have:=r1.length;show us.length<=sizeLine;rw[Ď];lia
end
abbrev Cx.within (X:Cx) (pn:List (Á×Obj)) (E:À->Â->Prop):Cx:={ X with pn:=pn,xe:=E }
abbrev Cx.caughtIn (X:Cx) (ea:Á):Cx:={ X with A:=X.A.mark (some (.ref ea)),calm:=false,xe:=λ _ _=>False }
section
variable {X:Cx}{gi:List (Á×Obj)}{σ:St}{H:Hp}{s:Â}{pn:List (Á×Obj)}{E:À->Â->Prop}{ea:Á}
theorem Cx.Ok.within (ok:X.Ok):(X.within pn E).Ok:=
 ⟨ok.mod,ok.kind,ok.glob,ok.blt,ok.above,ok.inj,ok.has,ok.cab,ok.hd,ok.frames,ok.stk,ok.exf,ok.bs,ok.bsz,ok.noex,ok.exfs,ok.funs,ok.frf⟩
theorem Cx.Ok.unwithin (ok:(X.within pn E).Ok):X.Ok:=
 ⟨ok.mod,ok.kind,ok.glob,ok.blt,ok.above,ok.inj,ok.has,ok.cab,ok.hd,ok.frames,ok.stk,ok.exf,ok.bs,ok.bsz,ok.noex,ok.exfs,ok.funs,ok.frf⟩
theorem Inv.within (I:Inv X gi σ H s):Inv (X.within (X.pn++gi) E) [] σ H s:=
 ⟨I.ok.within,I.os,I.bare,I.base,I.loc,I.cell,I.free,I.freeC,λ p hp=>I.pin p (by simpa using hp),I.hok,I.len⟩
theorem Inv.unwithin {p2:List (Á×Obj)} (I:Inv (X.within (X.pn++gi) E) p2 σ H s):Inv X gi σ H s:=
 ⟨I.ok.unwithin,I.os,I.bare,I.base,I.loc,I.cell,I.free,I.freeC,λ p hp=>I.pin p (Ī _ hp),I.hok,I.len⟩
theorem Inv.mark (I:Inv X gi σ H s):Inv (X.caughtIn ea) gi σ H s:=
 ⟨⟨I.ok.mod,I.ok.kind,I.ok.glob,I.ok.blt,I.ok.above,I.ok.inj,I.ok.has,I.ok.cab,λ z=>Bool.noConfusion z,I.ok.frames,I.ok.stk,I.ok.exf,I.ok.bs,I.ok.bsz,I.ok.noex,I.ok.exfs,I.ok.funs,I.ok.frf⟩,I.os,I.bare,I.base,I.loc,I.cell,I.free,I.freeC,I.pin,I.hok,I.len⟩
theorem Inv.unmark (ok:X.Ok) (I:Inv (X.caughtIn ea) gi σ H s):Inv X gi σ H s:=
 ⟨ok,I.os,I.bare,I.base,I.loc,I.cell,I.free,I.freeC,I.pin,I.hok,I.len⟩
theorem GS {M:Model}{A:Around}{E:À->Â->Prop}{i:Nat}{n:Str}{pos:Pos}{Q:Unit->Â->Prop} (I:Inv X gi σ H s) (hN:X.N.Nodup) (hi:X.N[i]? = some n) (hk:X.env.scope.names.lookup n=some .local)
  (h:∀ s',Inv X gi (σ.set i none) H s'->Q () s'):wpAny M A (do bindName X.env n .none;unbindBehindTheSuite X.env n pos) Q E s:=by
 obtain⟨m,hn,hl⟩:=id I.loc;have wm:(X.env.scope.kind == .class || (X.env.scope.kind == .module && X.env.locals != X.env.globals))=false:=by rw[I.ok.kind];rfl
 have Ai:X.env.kindOf n=some .local:=hk;have du:i < σ.length:=by rw[I.len];exact (Ò.mp hi).1
 refine Æ (agy (wpAny_storeName_local hk hn (λ h₁ Yi ae=>?_) wm));unfold unbindBehindTheSuite;refine Ĝ ?_;unfold unbindName;refine Æ (wpAny_point (Æ ?_));unfold deleteName;simp only [Ai,wm];rw[Ä (by decide)];refine Æ (wpAny_nsDel_keeps Yi λ ap v Yj af=>?_);simp only [if_true,agt,ahc,ĉ,if_false];have hs:=ae.trans af;obtain⟨oL,_,_,Fn,_⟩:=id hn;have Fm:=I.cne;refine É (wpAny_point (h _ ⟨I.ok,I.os,I.bare,⟨λ b o e n hb hx=>?_,λ b o e n hb hx=>?_,I.base.free,λ b o e hx=>?_,I.base.tups,I.base.frzs,I.base.tbls⟩,⟨_,Yj,λ j y v' e1 e2 e3=>?_⟩,λ y c e=>?_,I.free,I.freeC,λ p hp=>?_,λ b ob e=>?_,by simpa using I.len⟩))
 ·exact (hs.2 b (Þ (í (Ñ e) I.ok.above))).trans (I.base.keep b o e n hb hx)
 ·obtain⟨sl,e1⟩:=I.base.slot b o e n hb hx;exact⟨sl,(hs.2 b (Þ (í (Ñ e) I.ok.above))).trans e1⟩
 ·obtain⟨o',e1⟩:=I.base.there b o e hx;exact⟨o',(hs.2 b (Þ (í (Ñ e) I.ok.above))).trans e1⟩
 ·by_cases hj:j=i
  ·subst hj;rw[adb du] at e2;cases e2
  ·rw[ade (Ne.symm hj)] at e2;obtain⟨u',r',q⟩:=hl j y v' e1 e2 e3;refine⟨u',r',?_⟩;rcases q with ⟨k,e⟩ | ⟨k,c,e,z⟩
   ·refine .inl ⟨k,?_⟩;have:y≠n:=λ e=>hj (sF hN e1 (e ▸ hi));simp [this,e]
   ·exact .inr ⟨k,c,e,z.sameBut hs (Fm y c e)⟩
 ·obtain⟨w',z⟩:=I.cell y c e;exact⟨w',z.sameBut hs (Fm y c e)⟩
 ·obtain⟨e,n,ne,nf,d⟩:=I.pin p hp;exact⟨(hs.2 p.1 ne).trans e,n,ne,nf,d⟩
 ·refine (I.hok b ob e).stay (λ c w' hc q=>(hs.2 c ?_).trans q) (λ _ q=>q) λ _ _ q=>q;rintro rfl;rcases hc with rfl | hc
  ·rw[I.free] at e;cases e
  ·rw[I.free] at hc;cases hc
def tTry (K:Ç) (E:XK) (CT:Á) (k i:Nat) (tb ts:TS):TS:=λ D σ H=>tb D σ H/\
 ∀ (cls:À) (H':Hp) (ea:Á) (ad:St),E cls none H'->ad.length=k->H' ea=none->PySem.W.exmOne K cls (.ref CT)=some true/\
  ts { nx:=λ au H2=>D.nx (au.set i none) H2,rt:=λ _ _=>False } (ad.set i (some (.ref ea))) (upd H' ea (E6 ea cls))
theorem N4 {EX:XK}{CT:Á}{x n:Str}{i:Nat}{body Cl:List Stmt}{gf:Stmt}{np Dx pos:Pos}{tb ts:TS} (pc:X.stack=X.env::X.outer) (Ap:X.env.frame=some X.env.locals)
  (hb:∀ (pn:List (Á×Obj)) (xe:À->Â->Prop),nL (u9 X.prog X.w) (X.within pn xe) EX->xK (X.within pn xe) body tb)
  (hg:Gl X x) (hm:X.mg x=some (.ref CT)) (hN:X.N.Nodup) (hi:X.N[i]? = some n) (hk:X.env.scope.names.lookup n=some .local)
  (hs:∀ ea:Á,xK (X.caughtIn ea) (gf::Cl) ts) (hd:(x == ("__debug__" : Str))=false:=by decide) :
  PS X (.Try body [.ExceptHandler (some (.Name x np)) (some n) (gf::Cl) Dx] [] [] pos) (tTry X.K EX CT X.N.length i tb ts):=by
 intro gi s σ H D I h;obtain⟨h1,h2⟩:=h;refine wpAny_Try_except ?_;let XE:À->Â->Prop:=λ e s'=>∃ (σ:St) (H:Hp) (s:Â) (ea:Á) (cls a0:À) (H':Hp) (B:Heap),e=.ref ea/\Inv X gi σ H s/\s'.os=s.os/\AllBare s'.gens/\Fly X.prog X.w X.stack H s.heap ea cls a0 H' s'.heap B/\EX cls none H';have Hw:nL (u9 X.prog X.w) (X.within (X.pn++gi) XE) EX:=by
  intro p2 σ H s e s' J hx;obtain⟨ea,cls,a0,H',B,rfl,os,bare,F,hE⟩:=hx;exact⟨σ,H,s,ea,cls,a0,H',B,rfl,J.unwithin,os,bare,F,hE⟩
 refine á (hb (X.pn++gi) XE Hw [] s σ H D I.within h1) (λ f ai hf=>?_) λ e ai hx=>?_
 ·cases f with
  | next=>
   obtain⟨ad,H',J,q⟩:=hf;exact bK gi ai ad H' D J.unwithin q
  | brk=>obtain⟨ad,H',J,q⟩:=hf;exact⟨ad,H',J.unwithin,q⟩
  | cont=>obtain⟨ad,H',J,q⟩:=hf;exact⟨ad,H',J.unwithin,q⟩
  | ret u=>obtain⟨v,ad,H',J,r,q⟩:=hf;exact⟨v,ad,H',J.unwithin,r,q⟩
 ·obtain⟨ad,H0,s0,ea,cls,a0,H',B,rfl,J,os,bare,F,hE⟩:=hx;have fr:X.A.frames=some (X.env::X.outer):=by rw[<- pc];exact I.ok.frames
  have again:∀ h',Heap.FlyingW B X.stack ea cls a0 h'->ai.heap.UpToSlots h'->Fly X.prog X.w X.stack H0 s0.heap ea cls a0 H' h' B:=λ h' fl sm=>
   ⟨fl,F.keep,λ b o e n hb=>by
    obtain⟨sl,e1⟩:=F.slot b o e n hb;obtain⟨_,o',ni,hd⟩:=J.stack.mem hb;rw[e] at ni;cases ni;obtain⟨Cb,e2⟩:=sm b _ e1 hd;exact⟨Cb,e2⟩,F.free,F.there,F.tups,F.frzs,F.tbls,F.hok⟩
  refine wpAny_looks_onW fr Ap (by rw[<- pc];exact F.fl) λ aq ge fw=>?_;refine wpAny_landsW ge λ bb fk fz=>?_;have F5:=again bb (by rw[pc];exact fk) (fw.trans fz);obtain⟨Ao,J5⟩:=J.caught (s':={ ai with heap:=bb }) os bare F5;have gy:ad.length=X.N.length:=J.len;obtain⟨Pw,Yk⟩:=h2 cls H' ea ad hE gy Ao;refine wpAny_handleBy_cons (codeAny_handlers_test (oH (X:=X.caughtIn ea) J5.mark hg hm ?_ hd)) (by intro q;cases q);obtain⟨ob,Fu,Px⟩:=fk.there;have Yl:PySem.W.Looks (model X.prog X.w) bb (typeOf (.ref ea)) ob.cls:=(PySem.W.Looks.ld Fu).andThen .now;have LT:PySem.W.Looks (model X.prog X.w) bb (typeOf (.ref ea)) cls:=by rw[<- Px];exact Yl
  refine (PySem.W.exm_one (M:=model X.prog X.w) J5.kIn LT Pw).here ?_;refine codeAny_handlers_suite_as (lands_againW fk λ cq Ym Yn=>?_);have F6:=again cq (by rw[pc];exact Ym) ((fw.trans fz).trans Yn);obtain⟨_,J6⟩:=J.caught (s':={ ai with heap:=cq }) os bare F6;refine hZ (X:=X.caughtIn ea) J6.mark hN hi (.inl hk) (v:=.ref ea) rfl (λ s7 J7=>?_) (.inr hk);refine á (hs ea gi s7 _ _ _ J7 Yk) (λ f s8 hf=>?_) λ _ _ z=>False.elim z;cases f with
  | next=>
   obtain⟨bg,H8,J8,q⟩:=hf;exact GS (J8.unmark I.ok) hN hi hk λ s9 J9=>⟨_,_,J9,q⟩
  | brk=>obtain⟨_,_,_,q⟩:=hf;exact False.elim q
  | cont=>obtain⟨_,_,_,q⟩:=hf;exact False.elim q
  | ret u=>obtain⟨_,_,_,_,_,q⟩:=hf;exact False.elim q
end
end L2
namespace L2
open PySem PySem.Spec PyProof.Rows TwZ PySem.Builtin PySem.Builtin.ObjectAttr PySem.Builtin.Getset_descriptor
structure ExcKit (K:Ç) (D:Á):Prop where
 ga:PySem.W.findIn K (.ref D) "__getattribute__" = some (some (.builtin "BaseException.__getattribute__"))
 gt:PySem.W.findIn K (.ref D) "__getattr__" = some none
 ca:PySem.W.findIn K (.ref D) "__class__" = some (some (.builtin "object.__class__"))
 gg:PySem.W.specialIn K (.builtin "object.__class__") "__get__" = some (some (.builtin "getset_descriptor.__get__"))
 tk:PySem.W.takesIn K (.builtin "object.__class__")=some true
 mo:PySem.W.mroIn K D (.type "object")=some true
 mb:PySem.W.mroIn K D (.type "BaseException")=some true
def CK (x D:Á) (h:Heap):Prop:=∃ o,h.get? x=some o/\o.cls=.ref D
theorem CK.ty {x D:Á}{h:Heap} (p:CK x D h) (M:Model):PySem.W.Looks M h (typeOf (.ref x)) (.ref D):=by
 obtain⟨o,h1,h2⟩:=p;exact h2 ▸ (PySem.W.Looks.ld h1).andThen .now
section
variable {prog:Ã}{x D:Á}
theorem IO {M:Model}{A:Around}{E:À->Â->Prop}{s:Â} (Cm:À) {Q:Unit->Â->Prop} (L0:PySem.W.Looks M s.heap (typeOf (.ref x)) (.ref D)) (LB:PySem.W.Looks M s.heap (isSubtype (.ref D) (.type "BaseException")) true) (hq:Q () s) :
  wpAny M A (checkBuiltinCall "BaseException.__getattribute__" ⟨[.ref x,Cm],[]⟩) Q E s:=by
 obtain⟨h,g,d,t,os⟩:=s;have hk:builtinKind "BaseException.__getattribute__" = some .slot:=by decide +kernel
 have zi:splitId "BaseException.__getattribute__" = some ("BaseException","__getattribute__"):=by decide +kernel
 have ha:=PySem.F.args_bexc_ga (.ref x) Cm;simp only [checkBuiltinCall,hk,zi];refine Æ ?_;unfold isInstance
 repeat (first | with_reducible refine L0.at ?_ | with_reducible refine LB.at ?_ | wp_step)
 exact hq
theorem E5 {A:Around}{E:À->Â->Prop}{s:Â}{Q:Option À->Â->Prop} (Z:ExcKit K D) (X:K.In s.heap) (p:CK x D s.heap) (hq:Q (some (.ref D)) { s with toks:=s.toks+1 }):wpAny (model prog w) A (getAttr? (.ref x) "__class__") Q E s:=by
 obtain⟨hh,g,d,t,os⟩:=s;have L0:=p.ty (model prog w);have L1:=age (M:=model prog w) X Z.ga;have L2:=age (M:=model prog w) X Z.gt;have L3:=age (M:=model prog w) X Z.ca;have L4:PySem.W.Looks (model prog w) hh (getOf (some (.builtin "object.__class__"))) (some (.builtin "getset_descriptor.__get__")):=PySem.W.looks_specialIn X Z.gg;have L5:=PySem.W.looks_takesIn (M:=model prog w) X Z.tk;have L6:=PySem.W.looks_mroIn (M:=model prog w) X Z.mo;have LF:PySem.W.Looks (model prog w) hh (find (.ref x) (.ref D) "__class__") (.bind (.builtin "getset_descriptor.__get__") (.builtin "object.__class__")):=
  L3.andThen (L4.andThen ((show PySem.W.Looks (model prog w) hh (dataDescriptor? (some (.builtin "object.__class__")) (some (.builtin "getset_descriptor.__get__"))) (some (.builtin "getset_descriptor.__get__",.builtin "object.__class__")) from L5.andThen .now).andThen (PySem.W.Looks.tag .now)))
 have LB:=PySem.W.looks_mroIn (M:=model prog w) X Z.mb;have hk:builtinKind "BaseException.__getattribute__" = some .slot:=by decide +kernel
 have zi:splitId "BaseException.__getattribute__" = some ("BaseException","__getattribute__"):=by decide +kernel
 have Vh:(Value.builtin "BaseException.__getattribute__" == Value.builtin "object.__getattribute__")=false:=by decide +kernel
 unfold getAttr? getAttrBy? getAttrBy;refine Æ (wpAny_mkText (Æ (Ō (ð (Æ (L0.at (Æ (L1.at ?_))))))));simp only [Vh,Bool.and_false,ĉ,if_false];unfold getAttrByItsOwn hookBefore;refine Æ ?_;rw[show onTheHeap (Value.ref D)=true from rfl,Å rfl];refine L2.at (Æ (Ō (ð ?_)));unfold callGetattribute boundAndCalled;rw[Ä (by decide)];refine Æ (wpAny_of_eq (PySem.F.excAttr_ValueError.ga.bind (.ref x)) ?_);show wpAny _ _ (call (.builtin "BaseException.__getattribute__") [.ref x,.str "__class__" t]) _ _ _;refine Ŷ (codeAny_call_builtin PySem.F.excAttr_ValueError.ga.plain PySem.F.entry_bexc_ga ?_);refine IO (.str "__class__" t) L0 LB ?_;unfold Builtin.«object.__getattribute__»;refine Æ (É ?_);refine Æ (É ?_);refine Æ (L0.at (Æ (LF.at ?_)));show wpAny _ _ (holding [.builtin "object.__class__"] (call (.builtin "getset_descriptor.__get__") [.builtin "object.__class__",.ref x,.ref D]) >>= ret) _ _ _;refine Æ (ð (Ŷ ?_));refine codeAny_call_builtin PySem.W.KF.slot_gs.plain PySem.W.KF.entry_gs (PySem.W.KF.slot_gs.check _ _ _ _ _ _ _ _ PySem.W.KF.type_class (PySem.W.KF.args_gs _ _ _) ?_);unfold Builtin.«getset_descriptor.__get__» descrGet;rw[PySem.W.dga_obj];refine Æ (É ?_);unfold descrGetter descrCheckInstance descrNameAndClass isInstance;simp only [PySem.W.KF.owner_class];repeat lk
 refine⟨Code.quiet_builtin _ (by decide +kernel),codeAny_builtin PySem.W.KF.entry_class ?_⟩;unfold Builtin.«object.__class__» shownTypeOf;repeat lk
 exact hq
theorem GY (Z:ExcKit K D) (mj:∃ c d cd sl,K.lookup D=some ⟨c,d,.cls cd,sl⟩):PySem.W.KitX K (.ref x) (.ref D) (CK x D) where
 ty:=λ M _ _ p=>p.ty M
 it:=λ _ _ X _=>by
  obtain⟨c',d',Yo,Cb,ho⟩:=mj;intro A' Q' E' s' k q;unfold isType loadHead;exact Æ (wpAny_loadPart (k _ _ (X _ _ ho)) (É q))
 ne:=λ _ _ _ _ _ _ X uc=>by
  obtain⟨c',d',Yo,Cb,ho⟩:=mj;refine Bool.eq_false_iff.mpr λ q=>?_;have e:=Value.ref.inj (beq_iff_eq.mp q);rw[<- e,X _ _ ho] at uc;cases uc
 ca:=λ X p k=>E5 Z X p k
end
def LW (K:Ç):List V->Hp->VK->Prop:=λ xs H Q=>∃ (ea D:Á) (c:V) (cv:À) (b:Bool),xs=[.ref ea,c]/\bE c cv/\H ea=some (E6 ea (.ref D))/\ExcKit K D/\(∃ c d cd sl,K.lookup D=some ⟨c,d,.cls cd,sl⟩)/\PySem.W.kitOne K (.ref D) cv=some b/\(∀ u,bE c u->u=cv)/\Q (.bl b) H
section
variable {X:Cx}
theorem EK:dZ X (.builtin "isinstance") (LW X.K):=by
 intro gi s σ H xs us Q I r h;obtain⟨ea,D,c,cv,b,rfl,rc,he,Z,mj,e,hu,q⟩:=h;obtain⟨u,v,rfl,ru,rv⟩:=r.two;cases (show u=Value.ref ea from ru);have:=hu v rv;subst this;obtain⟨p,_,_⟩:=(show cG X.prog X.w H s.heap ea (E6 ea (.ref D)) from I.hok ea _ he);exact Ė (GY Z mj) I.kIn p e (λ z=>nomatch z) λ tk=>⟨.bl b,H,I.tok tk,rfl,q⟩
theorem eN {K:Ç} (hK:X.K=K):dZ X (.builtin "isinstance") (LW K):=by subst hK;exact EK
def JV:V->List V->Hp->VK->Prop:=λ x vs H Q=>∃ (l:Á) (bs:List Bool),x=.ref l/\vs=[.bl true]/\H l=some (.lst (bs.map V.bl))/\Q (.int (bs.countP id:Nat)) H
theorem DI:MtM X "list.count" JV:=by
 intro gi s σ H x vs v us Q I rx rv h;obtain⟨l,bs,rfl,rfl,hH,q⟩:=h;cases rx;obtain⟨u,rfl,ru⟩:=rv.one;cases ru;obtain⟨z,its,n,r,hl,e⟩:=I.lstM hH;have key:∀ (bs:List Bool) (its:List À),bO (bs.map V.bl) its->its=bs.map Value.bool:=by
  intro bs
  induction bs with
  | nil=>intro its r;cases r;rfl
  | cons b bs ih=>intro its r;cases r with | cons r1 r2=>cases r1;rw[ih _ r2];rfl
 have ek:=key bs its r;subst ek;refine ħ F.slot_list_count ⟨_,e,rfl⟩ F.entry_list_count (F.args_list_count_2 _ _) (SeqAt.list_countAt l (bs.map Value.bool).toArray n none #[] (.bool true) (λ v=>match v with | .bool b=>b | _=>false)) ⟨e,λ y hy=>?_,?_⟩
 ·obtain⟨b,_,rfl⟩:=Õ.1 (show y∈bs.map Value.bool by simpa using hy);cases b
  ·exact ae7 false true
  ·exact ň _
 ·have ec:(List.countP (λ v=>match v with | Value.bool b=>b | _=>false) (bs.map Value.bool).toArray.toList)=bs.countP id:=by
   rw[List.toList_toArray,List.countP_map];rfl
  rw[ec];exact⟨.int _,H,I.tok _,⟨_,rfl⟩,q⟩
def B1 (K:Ç):R2:=λ x y H Q=>∃ ds,bV ds<=20/\Is K H (.tup ds) x/\Is K H (.tup ds) y/\Q (.bl true) H
theorem DA (hu:X.A.units+64 < cLine):jJ X (compareOp .Eq) (B1 X.K):=by
 intro gi s σ H x y v u Q I rx ry h;obtain⟨ds,tu,hx,hy,q⟩:=h;rw[Is] at hx hy;obtain⟨a,xs,rfl,q1,l1⟩:=hx;obtain⟨b,ys,rfl,q2,l2⟩:=hy;cases rx;cases ry;obtain⟨us,r1,p1,_⟩:=I.tuple q1;obtain⟨vs,r2,p2,_⟩:=I.tuple q2;have e1:=r1.length;have e2:=r2.length;have e3:=l1.length;have e4:=l2.length;have Co:X.A.in1.units=X.A.units+1:=rfl;refine SeqAt.eq_tupleAt (e:=λ _=>true) (show s.heap.IsTuple a us.toArray from p1) (show s.heap.IsTuple b vs.toArray from p2) (by lia) (λ j h1 h2=>IsL.eqAt I ds _ xs ys us vs (by lia) l1 l2 r1 r2 j _ _ (by simp) (by simp)) ?_;have hsz:us.toArray.size=vs.toArray.size:=by simp;lia
 have e5:((List.range (min us.toArray.size vs.toArray.size)).all (λ _=>true) && us.toArray.size == vs.toArray.size)=true:=by rw[hsz];simp
 rw[e5];exact⟨.bl true,H,I,rfl,q⟩
theorem A1 {K:Ç} (hK:X.K=K) (hu:X.A.units+64 < cLine):jJ X (compareOp .Eq) (B1 K):=by subst hK;exact DA hu
def FY (K:Ç):R2:=λ x y H Q=>∃ a b xs ys,x=.ref a/\y=.ref b/\bC K H a xs/\bC K H b ys/\xs.length+ys.length<=sizeLine/\∀ p H',aE H H'->bC K H' p (xs++ys)->Q (.ref p) H'
theorem GN:jJ X (binaryOp .Add) (FY X.K):=by
 intro gi s σ H x y v u Q I rx ry h;obtain⟨a,b,xs,ys,rfl,rfl,ha,hb,hz,q⟩:=h
 by_cases hx:xs=[]
 ·subst hx;cases rx;cases ry;obtain⟨its,r1,p1,_⟩:=I.tuple ha;obtain⟨ux,r2,p2,_⟩:=I.tuple hb;cases r1;obtain⟨⟨cls,dd,data,sl⟩,ho,hc,n,hd⟩:=id p1;obtain⟨⟨Oi,Lv,data2,Fp⟩,Dh,Ce,n2,hd2⟩:=id p2;simp only at hc hd Ce hd2;subst hc hd Ce hd2;exact concat_meets ⟨_,ho,rfl⟩ ⟨_,Dh,rfl⟩ ahi seq_tuple_add afx afl (afg _ _) (tuple_addW0 a b _ ux.toArray n n2 dd Lv sl Fp (by simp)) ⟨ho,Dh,⟨.ref b,H,I,rfl,q b H (aE.refl H) hb⟩⟩
 ·refine BF gi s σ H _ _ v u Q I rx ry ⟨a,b,xs,ys,rfl,rfl,ha,hb,hx,hz,λ e=>?_,λ _ p hp=>?_⟩
  ·subst e;exact q a H (aE.refl H) (by rw[Ģ];exact ha)
  ·exact q p _ (È hp) (Ì aB)
theorem lP (hK:X.K=K):jJ X (binaryOp .Add) (FY K):=by subst hK;exact GN
theorem xX (hK:X.K=K):PX X (OR K):=by subst hK;exact JR
end
theorem Fun.okR {x qual:Str}{st:Stmt}{f:Á}{fd:FuncData}{N ps:List Str}{k:Nat}{sp:Sp} (F:Fun K x qual st f fd) (S:FnScope N ps (aL st)) (len:∀ vs H Q E,sp vs H Q E->vs.length=ps.length)
  (jt:∀ (ja:À) (A:Around) (outer:List Env) (s:Â) (H:Hp) (vs:List V) (Q:VK) (E:XK),Room k (A.deeper (envOfC qual (aL st) s.heap.objs.size f ja))->sp vs H Q E->
   Leaves (lI (u9 P w) P w K mg base N qual (aL st) f ja A outer s H E) E->
   ∃ t,xK (lI (u9 P w) P w K mg base N qual (aL st) f ja A outer s H E) (fZ st) t/\t { nx:=λ _ H'=>Q .non H',rt:=Q } (iP N vs) H):FnOk P w K mg base (u9 P w) (k+1) f fd ps sp:=by
 obtain⟨oc,od,kV,doc,pm,an,ja,ct,wq,rfl,lk,nj⟩:=F.ex;exact IB lk nj S len λ A outer s H vs Q E hr ke=>jt ja A outer s H vs Q E hr ke ⟨rfl,rfl,rfl,λ _ _ h=>h⟩
structure CalleeR (P:Ã) (w:World) (K:Ç) (mg:Str->Option À) (base:Heap) (x:Str) (ps:List Str) (k:Nat) (sp:Sp) (f:Á) (fd:FuncData):Prop where
 ok:FnOk P w K mg base (u9 P w) k f fd ps sp
 mg:mg x=some (.ref f)
 kp:PySem.W.keepIn K (.ref f)=true
 bd:oV K fd ps []
structure ExC (K:Ç) (x:Str) (C:Á):Prop where
 ns:PySem.W.nsIn K mainGlobals x=some (some (.ref C))
 exc:PySem.W.excIn K C [.type "ValueError",.type "Exception",.type "BaseException",.type "object"] "ValueError.__new__" = true
theorem K9 {X:Cx}{a1 a2 a3 a4 a5 a6 a7 a8:Str}{k1 k2 k3 k4 k5 k6 k7 k8:Nat}{p1 p2 p3 p4 p5 p6 p7 p8:Pos} :
  PA X [.Constant (.str a1) k1 p1,.Constant (.str a2) k2 p2,.Constant (.str a3) k3 p3,.Constant (.str a4) k4 p4,.Constant (.str a5) k5 p5,.Constant (.str a6) k6 p6,.Constant (.str a7) k7 p7,.Constant (.str a8) k8 p8]
   (dM (tC (.str a1)) (dM (tC (.str a2)) (dM (tC (.str a3)) (dM (tC (.str a4)) (dM (tC (.str a5)) (dM (tC (.str a6)) (dM (tC (.str a7)) (dM (tC (.str a8)) nQ)))))))):=
 have h8:=aA (X:=X) (eI (x:=a8)) aC;have h7:=aA (eI (x:=a7)) h8;have h6:=aA (eI (x:=a6)) h7;have h5:=aA (eI (x:=a5)) h6;have h4:=aA (eI (x:=a4)) h5;have h3:=aA (eI (x:=a3)) h4;have h2:=aA (eI (x:=a2)) h3
 aA (eI (x:=a1)) h2
theorem u8:bootBuiltins "ValueError" = some (.type "ValueError"):=by decide +kernel
end L2
namespace Tw
open PySem L2
set_option tactic.hygienic true in
theorem E9 (i:Str):(L2.D.str i).depth=0:=by rw[L2.D.depth] <;> intros <;> (first | rfl | (intro z;cases z) | (rename_i z;cases z))
structure TxtW (mg:Str->Option À) (iz iq gz ie gr ii ij ik ir:Á):Prop where
 m_TipError:mg "TipError" = some (.ref iz)
 m_NoNet:mg "NoNet" = some (.ref iq)
 m_NoVessel:mg "NoVessel" = some (.ref gz)
 m_TooLong:mg "TooLong" = some (.ref ie)
 m_TooMany:mg "TooMany" = some (.ref gr)
 m_TooMuch:mg "TooMuch" = some (.ref ii)
 m_Nothing:mg "Nothing" = some (.ref ij)
 m_NoText:mg "NoText" = some (.ref ik)
 m_NoRow:mg "NoRow" = some (.ref ir)
 b_ValueError:mg "ValueError" = none
structure KindOf (K:Ç) (iq gz ie gr ii ij ik ir:Á) (D:Á) (bs:List Bool):Prop where
 kit:ExcKit K D
 cl:∃ c d cd sl,K.lookup D=some ⟨c,d,.cls cd,sl⟩
 val:PySem.W.kitOne K (.ref D) (.type "ValueError")=some true
 ks:∃ b0 b1 b2 b3 b4 b5 b6 b7,bs=[b0,b1,b2,b3,b4,b5,b6,b7]/\PySem.W.kitOne K (.ref D) (.ref iq)=some b0/\PySem.W.kitOne K (.ref D) (.ref gz)=some b1/\PySem.W.kitOne K (.ref D) (.ref ie)=some b2/\
  PySem.W.kitOne K (.ref D) (.ref gr)=some b3/\PySem.W.kitOne K (.ref D) (.ref ii)=some b4/\PySem.W.kitOne K (.ref D) (.ref ij)=some b5/\PySem.W.kitOne K (.ref D) (.ref ik)=some b6/\PySem.W.kitOne K (.ref D) (.ref ir)=some b7
def LI:List Str:=["net","vessel","long","many","much","nothing","text","row"]
def zQ (K:Ç) (iq gz ie gr ii ij ik ir:Á):Sp:=λ vs H Q _=>∃ (ea D:Á) (bs:List Bool) (j:Nat) (wd:Str),vs=[.ref ea]/\H ea=some (E6 ea (.ref D))/\
 KindOf K iq gz ie gr ii ij ik ir D bs/\bs.countP id=1/\bs[j]? = some true/\(∀ i b,i < j->bs[i]? = some b->b=false)/\LI[j]? = some wd/\∀ p H',aE H H'->bC K H' p [.str wd]->Q (.ref p) H'
theorem nW:FnScope ["error","kinds"] ["error"] (aL (bW 31)):={}
theorem wC {f:Á}{fd:FuncData} (F:Fun K "_law_word" "_law_word" (bW 31) f fd) (T:Txt mg) (W:TxtW mg iz iq gz ie gr ii ij ik ir) :
  FnOk P w K mg base kA 1 f fd ["error"] (zQ K iq gz ie gr ii ij ik ir):=by
 refine F.ok nW (λ vs H Q E h=>?_) (λ ja A outer s H vs Q E hr h=>?_)
 ·obtain⟨ea,D,bs,j,wd,rfl,_⟩:=h;rfl
 ·obtain⟨ea,D,bs,j,wd,rfl,he,kd,hc,hj,jk,hw,k⟩:=h;have sc:=nW
  (with_reducible refine⟨_,(aD (pL 1 sc.nd (bM (aA (bB (eN (K:=K) rf) rf (by with_unfolding_all exact T.b_isinstance) dN (aA (pv 0) (aA (fW (v:=.ref iq) rf (by with_unfolding_all exact⟨_,W.m_NoNet,rfl⟩)) aC))) (aA (bB (eN (K:=K) rf) rf (by with_unfolding_all exact T.b_isinstance) dN (aA (pv 0) (aA (fW (v:=.ref gz) rf (by with_unfolding_all exact⟨_,W.m_NoVessel,rfl⟩)) aC))) (aA (bB (eN (K:=K) rf) rf (by with_unfolding_all exact T.b_isinstance) dN (aA (pv 0) (aA (fW (v:=.ref ie) rf (by with_unfolding_all exact⟨_,W.m_TooLong,rfl⟩)) aC))) aC)))))
   (aD (pL 1 sc.nd (aS rX (pv 1) (bM (aA (bB (eN (K:=K) rf) rf (by with_unfolding_all exact T.b_isinstance) dN (aA (pv 0) (aA (fW (v:=.ref gr) rf (by with_unfolding_all exact⟨_,W.m_TooMany,rfl⟩)) aC))) (aA (bB (eN (K:=K) rf) rf (by with_unfolding_all exact T.b_isinstance) dN (aA (pv 0) (aA (fW (v:=.ref ii) rf (by with_unfolding_all exact⟨_,W.m_TooMuch,rfl⟩)) aC))) (aA (bB (eN (K:=K) rf) rf (by with_unfolding_all exact T.b_isinstance) dN (aA (pv 0) (aA (fW (v:=.ref ij) rf (by with_unfolding_all exact⟨_,W.m_Nothing,rfl⟩)) aC))) aC))))))
   (aD (pL 1 sc.nd (aS rX (pv 1) (bM (aA (bB (eN (K:=K) rf) rf (by with_unfolding_all exact T.b_isinstance) dN (aA (pv 0) (aA (fW (v:=.ref ik) rf (by with_unfolding_all exact⟨_,W.m_NoText,rfl⟩)) aC))) (aA (bB (eN (K:=K) rf) rf (by with_unfolding_all exact T.b_isinstance) dN (aA (pv 0) (aA (fW (v:=.ref ir) rf (by with_unfolding_all exact⟨_,W.m_NoRow,rfl⟩)) aC))) aC)))))
   (aD (dA (PW.pt (q0 (jP (eU (bB (eN (K:=K) rf) rf (by with_unfolding_all exact T.b_isinstance) dN (aA (pv 0) (aA (lO (v:=.ty "ValueError") rf W.b_ValueError u8 rf) aC))))) (pB (bF yE (eJ (K:=K) rf ù PySem.F.slot_list_count PySem.F.type_list_count (um DI) (pv 1) (aA eA aC)) aF (bH _))))) (aI (bG (aU (aA eI aC)))) bK)
   (aI (bG (aU (aA (px K (bM K9) (eJ (K:=K) rf ù afs aft (um sG) (pv 1) (aA eA aC))) aC)))))))),?_⟩)
  obtain⟨b0,b1,b2,b3,b4,b5,b6,b7,rfl,k0,k1,k2,k3,k4,k5,k6,k7⟩:=kd.ks;refine (aK _ rfl (J4 ea D _ _ b0 rfl ⟨rfl,he,kd.kit,kd.cl,k0,λ u h=>h,?_⟩));refine (aK _ rfl (J4 ea D _ _ b1 rfl ⟨rfl,he,kd.kit,kd.cl,k1,λ u h=>h,?_⟩));refine (aK _ rfl (J4 ea D _ _ b2 rfl ⟨rfl,he,kd.kit,kd.cl,k2,λ u h=>h,(show 3<=sizeLine by decide),λ l1 h1=>?_⟩));have Fv:=È (o:=HO.lst [.bl b0,.bl b1,.bl b2]) h1 _ _ he;refine (aK _ rfl (aK _ rfl (J4 ea D _ _ b3 rfl ⟨rfl,Fv,kd.kit,kd.cl,k3,λ u h=>h,?_⟩)));refine (aK _ rfl (J4 ea D _ _ b4 rfl ⟨rfl,Fv,kd.kit,kd.cl,k4,λ u h=>h,?_⟩));refine (aK _ rfl (J4 ea D _ _ b5 rfl ⟨rfl,Fv,kd.kit,kd.cl,k5,λ u h=>h,(show 3<=sizeLine by decide),λ l2 h2=>?_⟩));have s2:=È (o:=HO.lst [.bl b3,.bl b4,.bl b5]) h2;refine (iF l1 l2 _ _ rfl ⟨rfl,s2 _ _ aB,aB,(show 6<=sizeLine by decide),λ l3 h3=>?_⟩);have s3:=È (o:=HO.lst ([.bl b0,.bl b1,.bl b2]++[.bl b3,.bl b4,.bl b5])) h3;have Py:=s3 _ _ (s2 _ _ Fv);refine (aK _ rfl (aK _ rfl (J4 ea D _ _ b6 rfl ⟨rfl,Py,kd.kit,kd.cl,k6,λ u h=>h,?_⟩)));refine (aK _ rfl (J4 ea D _ _ b7 rfl ⟨rfl,Py,kd.kit,kd.cl,k7,λ u h=>h,(show 2<=sizeLine by decide),λ l4 h4=>?_⟩));have s4:=È (o:=HO.lst [.bl b6,.bl b7]) h4;refine (iF l3 l4 _ _ rfl ⟨rfl,s4 _ _ aB,aB,(show 8<=sizeLine by decide),λ l5 h5=>?_⟩);have s5:=È (o:=HO.lst ([.bl b0,.bl b1,.bl b2]++[.bl b3,.bl b4,.bl b5]++[.bl b6,.bl b7])) h5;have sH:aE H _:=((((È h1).trans s2).trans s3).trans s4).trans s5;have Yp:=s5 _ _ (s4 _ _ Py);refine (aK _ rfl (J4 ea D _ _ true rfl ⟨rfl,Yp,kd.kit,kd.cl,kd.val,λ u h=>h,(aK _ rfl (fL ?_))⟩));refine⟨_,rfl,.inl ⟨rfl,_,Ë aB⟩,l5,[b0,b1,b2,b3,b4,b5,b6,b7],rfl,rfl,aB,rfl,_,rfl,M3 (by rw[hc];rfl) ?_⟩;refine⟨(show 8<=sizeLine by decide),λ l6 h6=>?_⟩;have s6:=È (o:=HO.lst [.str "net",.str "vessel",.str "long",.str "many",.str "much",.str "nothing",.str "text",.str "row"]) h6;have Yq:j < 8:=(Ò.mp hj).1;refine (aK _ rfl ⟨.inl ⟨rfl,_,Ë (s6 _ _ aB)⟩,(iF l5 _ _ j rfl ⟨rfl,s6 _ _ aB,rfl,rfl,Yq,λ z hz=>?_,λ i z hi hz=>?_,?_⟩)⟩)
  ·have:([b0,b1,b2,b3,b4,b5,b6,b7].map V.bl)[j]? = some z:=hz;rw[Ð,hj] at this;cases this;rfl
  ·have:([b0,b1,b2,b3,b4,b5,b6,b7].map V.bl)[i]? = some z:=hz;rw[Ð] at this;obtain⟨b,hb,rfl⟩:=ó.mp this;rw[jk i b hi hb];rfl
  ·refine .inl ⟨l6,_,(j:Int),_,rfl,rfl,Ë aB,bN (show (LI.map V.str)[j]? = some (.str wd) by rw[Ð,hw];rfl),(show 1<=sizeLine by decide),λ p hp=>?_⟩;exact k p _ ((sH.trans s6).trans (È hp)) (Ì aB)
end Tw
namespace L2
open PySem PySem.Spec PyProof.Rows TwZ
mutual
def fR (h:Heap):D->À->Prop
 | .int i,v=>∃ t,v=.int i t
 | .bl b,v=>v=.bool b
 | .tup ds,v=>∃ a o items n,v=.ref a/\h.get? a=some o/\o.cls=.type "tuple" /\ o.data=.seq items n/\dY h ds items.toList
 | .non,_=>False
 | .str _,_=>False
def dY (h:Heap):List D->List À->Prop
 | [],vs=>vs=[]
 | d::ds,vs=>∃ v r,vs=v::r/\fR h d v/\dY h ds r
end
mutual
def sh:D->D
 | .int _=>.int 0
 | .bl _=>.bl false
 | .tup ds=>.tup (gZ ds)
 | d=>d
def gZ:List D->List D
 | []=>[]
 | d::ds=>sh d::gZ ds
end
mutual
def sR:D->Int
 | .int i=>hashInt i
 | .bl b=>hashInt (if b=true then 1 else 0)
 | .tup ds=>reduceHash (Builtin.Tuple.tupleHashOf (fB ds))
 | _=>0
def fB:List D->List Int
 | []=>[]
 | d::ds=>sR d::fB ds
end
mutual
def nG:D->Nat
 | .tup ds=>eQ ds+1
 | _=>1
def eQ:List D->Nat
 | []=>0
 | d::ds=>nG d+eQ ds
end
mutual
theorem fR.inj {h:Heap}:∀ {x y:D}{v:À},sh x=sh y->fR h x v->fR h y v->x=y
 | .int i,.int j,v,_,hx,hy=>by
  rw[fR] at hx hy;obtain⟨t,rfl⟩:=hx;obtain⟨t',e⟩:=hy;injection e with e _;rw[e]
 | .bl i,.bl j,v,_,hx,hy=>by
  rw[fR] at hx hy;subst hx;injection hy with e;rw[e]
 | .tup ds,.tup es,v,hs,hx,hy=>by
  rw[fR] at hx hy;obtain⟨a,o,items,n,rfl,h1,h2,h3,l1⟩:=hx;obtain⟨a',o',ku,n',e,Aj,Ak,yt,l2⟩:=hy;cases e;rw[h1] at Aj;cases Aj;rw[h3] at yt;cases yt;rw[sh,sh] at hs;injection hs with hs;rw[dY.inj hs l1 l2]
 | .non,_,_,_,hx,_=>by rw[fR] at hx;exact hx.elim
 | .str _,_,_,_,hx,_=>by rw[fR] at hx;exact hx.elim
 | .int _,.bl _,_,hs,_,_=>by rw[sh,sh] at hs;cases hs
 | .int _,.tup _,_,hs,_,_=>by rw[sh,sh] at hs;cases hs
 | .int _,.non,_,_,_,hy=>by rw[fR] at hy;exact hy.elim
 | .int _,.str _,_,_,_,hy=>by rw[fR] at hy;exact hy.elim
 | .bl _,.int _,_,hs,_,_=>by rw[sh,sh] at hs;cases hs
 | .bl _,.tup _,_,hs,_,_=>by rw[sh,sh] at hs;cases hs
 | .bl _,.non,_,_,_,hy=>by rw[fR] at hy;exact hy.elim
 | .bl _,.str _,_,_,_,hy=>by rw[fR] at hy;exact hy.elim
 | .tup _,.int _,_,hs,_,_=>by rw[sh,sh] at hs;cases hs
 | .tup _,.bl _,_,hs,_,_=>by rw[sh,sh] at hs;cases hs
 | .tup _,.non,_,_,_,hy=>by rw[fR] at hy;exact hy.elim
 | .tup _,.str _,_,_,_,hy=>by rw[fR] at hy;exact hy.elim
theorem dY.inj {h:Heap}:∀ {x y:List D}{vs:List À},gZ x=gZ y->dY h x vs->dY h y vs->x=y
 | [],[],_,_,_,_=>rfl
 | [],_::_,_,hs,_,_=>by rw[gZ,gZ] at hs;cases hs
 | _::_,[],_,hs,_,_=>by rw[gZ,gZ] at hs;cases hs
 | x::xs,y::ys,vs,hs,hx,hy=>by
  rw[dY] at hx hy;obtain⟨v,r,rfl,h1,l1⟩:=hx;obtain⟨v',r',e,h2,l2⟩:=hy;cases e;rw[gZ,gZ] at hs;injection hs with e1 e2;rw[fR.inj e1 h1 h2,dY.inj e2 l1 l2]
end
mutual
theorem fR.keeps {h h':Heap} (k:∀ a o items n,h.get? a=some o->o.data=.seq items n->h'.get? a=some o):∀ {x:D}{v:À},fR h x v->fR h' x v
 | .int i,v,hx=>by rw[fR] at hx ⊢;exact hx
 | .bl i,v,hx=>by rw[fR] at hx ⊢;exact hx
 | .tup ds,v,hx=>by
  rw[fR] at hx ⊢;obtain⟨a,o,items,n,e,h1,h2,h3,l1⟩:=hx;exact⟨a,o,items,n,e,k a o items n h1 h3,h2,h3,dY.keeps k l1⟩
 | .non,_,hx=>by rw[fR] at hx;exact hx.elim
 | .str _,_,hx=>by rw[fR] at hx;exact hx.elim
theorem dY.keeps {h h':Heap} (k:∀ a o items n,h.get? a=some o->o.data=.seq items n->h'.get? a=some o):∀ {x:List D}{vs:List À},dY h x vs->dY h' x vs
 | [],_,hx=>by rw[dY] at hx ⊢;exact hx
 | x::xs,vs,hx=>by
  rw[dY] at hx ⊢;obtain⟨v,r,e,h1,l1⟩:=hx;exact⟨v,r,e,fR.keeps k h1,dY.keeps k l1⟩
end
theorem dY.length {h:Heap}:∀ {x:List D}{vs:List À},dY h x vs->vs.length=x.length
 | [],_,hx=>by rw[dY] at hx;subst hx;rfl
 | x::xs,vs,hx=>by
  rw[dY] at hx;obtain⟨v,r,rfl,_,l⟩:=hx;rw[ë,ë,dY.length l]
theorem dY.get {h:Heap}:∀ {x:List D}{vs:List À}{j:Nat}{d:D}{v:À},dY h x vs->x[j]? = some d->vs[j]? = some v->fR h d v
 | [],_,_,_,_,_,e,_=>by simp at e
 | d::ds,vs,0,d',v,hx,e1,e2=>by
  rw[dY] at hx;obtain⟨v',r,rfl,h1,_⟩:=hx;simp at e1 e2;subst e1 e2;exact h1
 | d::ds,vs,j+1,d',v,hx,e1,e2=>by
  rw[dY] at hx;obtain⟨v',r,rfl,_,l⟩:=hx;exact dY.get l (by simpa using e1) (by simpa using e2)
section
variable {prog:Ã}
theorem nN {A:Around}{E:À->Â->Prop}{s:Â}{b:Bool}{Q:Int->Â->Prop} (h:Q (hashInt (if b=true then 1 else 0)) { s with toks:=s.toks+1 }):wpAny (model prog w) A (pyHash (.bool b)) Q E s:=by
 have hT:s.TypeIs (.bool b) "bool" := rfl;have hr:=rawHash_range (if b=true then 1 else 0);unfold pyHash;have hv:[Value.bool b].any Value.onHeap=false:=rfl;refine Æ ?_;rw[cRoomFor,Ä (by rw[hv];exact Û)];refine É (Æ (ľ hT F.slot_bool_hash.lookup ?_));show wpAny _ _ (if (some (Value.builtin "int.__hash__") == some Value.none)=true then _ else _) Q E s;rw[Ä (by rw[ahg];exact Û)];refine Æ (ľ hT F.slot_bool_hash.lookup ?_);show wpAny _ _ (callSpecialIfBoundUnlessNone? (.bool b) "__hash__" _ >>= _) Q E s;refine Æ (ads hT F.slot_bool_hash (ă F.slot_bool_hash hT F.entry_int_hash (show wpAny _ _ (do ret (<- mkInt (rawHash (if b=true then 1 else 0)))) _ _ s from wpAny_ret_mkInt ?_) (F.args_int_hash_1 _)));show wpAny _ _ (if (decide (-(2:Int) ^ 63<=rawHash (if b=true then 1 else 0)) && decide (rawHash (if b=true then 1 else 0) < 2 ^ 63))=true then _ else _) Q E _;rw[Å (by rw[ò hr.1,ò hr.2];rfl)];exact É h
theorem mS:∀ (a b:List D),fB (a++b)=fB a++fB b
 | [],b=>by rw[fB];rfl
 | d::a,b=>by rw[Ľ,fB,fB,mS a b];rfl
theorem lH:∀ (a b:List D),eQ (a++b)=eQ a+eQ b
 | [],b=>by rw[eQ,agl,Į]
 | d::a,b=>by rw[Ľ,eQ,eQ,lH a b,ahd]
theorem pO:∀ (ds:List D) (d:D),d∈ds->d.depth<=bV ds:=by
 intro ds
 induction ds with
 | nil=>intro d h;cases h
 | cons e r ih=>
  intro d h;rw[bV];rcases Ý.1 h with rfl | h
  ·lia
  ·have:=ih d h;lia
def IZ (prog:Ã) (w:World) (d:D):Prop:=∀ (A:Around) (E:À->Â->Prop) (s:Â) (v:À) (Q:Int->Â->Prop),A.units+d.depth < cLine->fR s.heap d v->Q (sR d) { s with toks:=s.toks+nG d }->wpAny (model prog w) A (pyHash v) Q E s
mutual
theorem HQ:∀ (d:D),IZ prog w d
 | .int i=>λ A E s v Q _ hx h=>by
  rw[fR] at hx;obtain⟨t,rfl⟩:=hx;rw[sR,nG] at h
  ·exact wpAny_pyHash_int h
  ·intros;contradiction
 | .bl b=>λ A E s v Q _ hx h=>by
  rw[fR] at hx;subst hx;rw[sR,nG] at h
  ·exact nN h
  ·intros;contradiction
 | .tup ds=>λ A E s v Q hu hx h=>by
  have all:=BR ds;rw[fR] at hx;obtain⟨a,o,items,n,rfl,ho,hc,hd,hi⟩:=hx;have hT:s.TypeIs (.ref a) "tuple" := ⟨o,ho,hc⟩;have tu:D.depth (.tup ds)=bV ds+1:=by rw[D.depth]
  rw[tu] at hu;rw[sR,nG] at h;unfold pyHash
  first | unfold pyHashByItsType | skip
  first | refine Æ (wpAny_cRoomFor_or (.inr (by lia)) ?_) | skip
  refine Æ (ľ hT F.slot_tuple_hash.lookup ?_);show wpAny _ _ (if (some (Value.builtin "tuple.__hash__") == some Value.none)=true then _ else _) Q E s;rw[Ä (by rw[ahg];exact Û)];refine Æ (ľ hT F.slot_tuple_hash.lookup ?_);show wpAny _ _ (callSpecialIfBoundUnlessNone? (.ref a) "__hash__" _ >>= _) Q E s;refine Æ (ads hT F.slot_tuple_hash (ă F.slot_tuple_hash hT F.entry_tuple_hash ?_ (F.args_tuple_hash_1 _)));show wpAny _ _ (Builtin.Tuple.tupleItemsOf (.ref a) >>= _) _ _ s;refine Æ (wpAny_tupleItemsOf ho hd (Æ ?_));rw[<- ő];refine wpAny_forIn_list _ (λ jc (b:Array Int) s'=>∃ done left,ds=done++left/\dY s.heap left jc/\b.toList=fB done/\s'={ s with toks:=s.toks+eQ done }) _ ?_ ?_ _ _ ⟨[],ds,rfl,hi,by rw[fB],by rw[eQ];rfl⟩
  ·rintro x jc b s' ⟨done,left,rfl,hl,hb,rfl⟩;cases left with
   | nil=>rw[dY] at hl;cases hl
   | cons k Mj=>
    rw[dY] at hl;obtain⟨v',r',e,h1,l1⟩:=hl;cases e;have hk:=all k (by simp);have hdk:=pO (done++k::Mj) k (by simp);have fin:∃ zj Cp,done++k::Mj=zj++Cp/\dY s.heap Cp jc/\(b.push (sR k)).toList=fB zj/\({ s with toks:=s.toks+eQ done+nG k }:Â)={ s with toks:=s.toks+eQ zj }:=
     ⟨done++[k],Mj,by simp,l1,by rw[Ů,hb,mS,fB,fB],by rw[lH,eQ,eQ,ahp,ahd]⟩
    refine Æ (hk _ _ _ _ _ ?_ h1 ?_)
    ·have Co:A.in1.units=A.units+1:=rfl;lia
    ·first
      | exact É fin
      | exact Æ (É (É fin))
  ·rintro b s' ⟨done,left,rfl,hl,hb,rfl⟩;cases left with
   | cons k Mj=>rw[dY] at hl;obtain⟨_,_,e,_⟩:=hl;cases e
   | nil=>
    rw[Ģ] at h;show wpAny _ _ (retInt (Builtin.Tuple.tupleHashOf b.toList)) _ _ _;rw[hb];refine wpAny_ret_mkInt ?_;show wpAny _ _ (if (decide (-(2:Int) ^ 63<=Builtin.Tuple.tupleHashOf (fB done)) && decide (Builtin.Tuple.tupleHashOf (fB done) < 2 ^ 63))=true then _ else _) Q E _;unfold reduceHash at h
    by_cases hr:(decide (-(2:Int) ^ 63<=Builtin.Tuple.tupleHashOf (fB done)) && decide (Builtin.Tuple.tupleHashOf (fB done) < 2 ^ 63))=true
    ·rw[Å hr] at h ⊢;exact É (by simpa [ahd] using h)
    ·rw[Ä hr] at h ⊢;exact Æ (õ (É (by simpa [ahd] using h)))
 | .non=>λ _ _ _ _ _ _ hx _=>by rw[fR] at hx;exact hx.elim
 | .str _=>λ _ _ _ _ _ _ hx _=>by rw[fR] at hx;exact hx.elim
theorem BR:∀ (ds:List D),∀ d∈ds,IZ prog w d
 | [],_,h=>(nomatch h)
 | e::es,d,h=>by
  have h0:=HQ e;have h1:=BR es;rcases Ý.1 h with z | z
  ·rw[z];exact h0
  ·exact h1 d z
end
end
noncomputable instance decD:DecidableEq D:=λ a b=>Classical.propDecidable (a=b)
mutual
theorem IF:∀ (d:D),(sh d).depth=d.depth
 | .int _=>by rw[sh,D.depth,D.depth] <;> (intros;contradiction)
 | .bl _=>by rw[sh,D.depth,D.depth] <;> (intros;contradiction)
 | .tup ds=>by rw[sh,D.depth,D.depth,uT ds]
 | .non=>by rw[sh] <;> (intros;contradiction)
 | .str _=>by rw[sh] <;> (intros;contradiction)
theorem uT:∀ (ds:List D),bV (gZ ds)=bV ds
 | []=>by rw[gZ]
 | d::ds=>by rw[gZ,bV,bV,IF d,uT ds]
end
theorem vQ:∀ (ds:List D),(gZ ds).length=ds.length
 | []=>by rw[gZ]
 | d::ds=>by rw[gZ,ë,ë,vQ ds]
def PZ (x y:D):Prop:=∀ (A:Around) (s:Â) (u v:À),A.units+x.depth < cLine->fR s.heap x u->fR s.heap y v->SeqAt.EqAt A s u v (decide (x=y))
mutual
theorem PM:∀ (x y:D),sh x=sh y->PZ x y
 | .int i,.int j,_=>λ A s u v _ hx hy=>by
  rw[fR] at hx hy;obtain⟨t,rfl⟩:=hx;obtain⟨t',rfl⟩:=hy;have:=afm (A:=A) (s:=s) i t j t';have e:decide (D.int i=D.int j)=(i == j):=by
   rw[Ŀ,ag5,Ŏ,D.int.injEq]
  rw[e];exact this
 | .bl i,.bl j,_=>λ A s u v _ hx hy=>by
  rw[fR] at hx hy;subst hx hy;have:=ae7 (A:=A) (s:=s) i j;have e:decide (D.bl i=D.bl j)=(i == j):=by
   rw[Ŀ,ag5,Ŏ,D.bl.injEq]
  rw[e];exact this
 | .tup ds,.tup es,hs=>λ A s u v hu hx hy=>by
  rw[sh,sh] at hs;injection hs with hs;have all:=M9 ds es hs;have hl:ds.length=es.length:=by rw[<- vQ ds,hs,vQ]
  have pe:=λ (a:À) (h1:fR s.heap (.tup ds) a) (h2:fR s.heap (.tup es) a)=>fR.inj (by rw[sh,sh,hs]) h1 h2;have zc:=hx;have Mc:=hy;rw[fR] at hx hy;obtain⟨a,o,items,n,rfl,h1,h2,h3,l1⟩:=hx;obtain⟨b,o',ku,n',rfl,Aj,Ak,yt,l2⟩:=hy
  by_cases Bb:a=b
  ·subst Bb;rw[ò (pe _ zc Mc)];exact ň _
  ·have tu:D.depth (.tup ds)=bV ds+1:=by rw[D.depth]
   rw[tu] at hu;have Co:A.in1.units=A.units+1:=rfl;have k1:=l1.length;have k2:=l2.length;have z1:items.size=ds.length:=by rw[<- k1];simp
   have z2:ku.size=es.length:=by rw[<- k2];simp
   have:=SeqAt.RcAt.tuples (A:=A) (s:=s) (e:=λ j=>match ds[j]?,es[j]? with | some x,some y=>decide (x=y) | _,_=>true) (show s.heap.IsTuple a items from ⟨o,h1,h2,n,h3⟩) (show s.heap.IsTuple b ku from ⟨o',Aj,Ak,n',yt⟩) (by lia) λ j j1 j2=>by
    have i1:j < ds.length:=by lia
    have i2:j < es.length:=by lia
    rw[ä i1,ä i2];have hd:=pO ds ds[j] (ĳ i1);exact all j ds[j] es[j] (by simp) (by simp) A.in1 s items[j] ku[j] (by lia) (dY.get (j:=j) l1 (by simp) (by simp)) (dY.get (j:=j) l2 (by simp) (by simp))
   have e5:((List.range (min items.size ku.size)).all (λ j=>match ds[j]?,es[j]? with | some x,some y=>decide (x=y) | _,_=>true) && items.size == ku.size)=decide (D.tup ds=D.tup es):=by
    have e0:(items.size == ku.size)=true:=by rw[Ŏ];lia
    rw[e0,Bool.and_true,Ŀ,ag5,Č,D.tup.injEq];constructor
    ·intro h;apply List.ext_getElem hl;intro j j1 j2;have:=h j (ć.mpr (by lia));rw[ä j1,ä j2] at this;exact ĕ this
    ·rintro rfl j hj;cases ds[j]? with
     | none=>rfl
     | some x=>exact ò rfl
   rw[e5] at this;exact SeqAt.EqAt.of_refs Bb this
 | .non,_,_=>λ _ _ _ _ _ hx _=>by rw[fR] at hx;exact hx.elim
 | .str _,_,_=>λ _ _ _ _ _ hx _=>by rw[fR] at hx;exact hx.elim
 | .int _,.bl _,hs=>by rw[sh,sh] at hs;cases hs
 | .int _,.tup _,hs=>by rw[sh,sh] at hs;cases hs
 | .int _,.non,_=>λ _ _ _ _ _ _ hy=>by rw[fR] at hy;exact hy.elim
 | .int _,.str _,_=>λ _ _ _ _ _ _ hy=>by rw[fR] at hy;exact hy.elim
 | .bl _,.int _,hs=>by rw[sh,sh] at hs;cases hs
 | .bl _,.tup _,hs=>by rw[sh,sh] at hs;cases hs
 | .bl _,.non,_=>λ _ _ _ _ _ _ hy=>by rw[fR] at hy;exact hy.elim
 | .bl _,.str _,_=>λ _ _ _ _ _ _ hy=>by rw[fR] at hy;exact hy.elim
 | .tup _,.int _,hs=>by rw[sh,sh] at hs;cases hs
 | .tup _,.bl _,hs=>by rw[sh,sh] at hs;cases hs
 | .tup _,.non,_=>λ _ _ _ _ _ _ hy=>by rw[fR] at hy;exact hy.elim
 | .tup _,.str _,_=>λ _ _ _ _ _ _ hy=>by rw[fR] at hy;exact hy.elim
theorem M9:∀ (ds es:List D),gZ ds=gZ es->∀ (j:Nat) (x y:D),ds[j]? = some x->es[j]? = some y->PZ x y
 | [],_,_,j,x,y,h,_=>by simp at h
 | _::_,[],_,j,x,y,_,h=>by simp at h
 | d::ds,e::es,hs,j,x,y,h1,h2=>by
  rw[gZ,gZ] at hs;injection hs with s1 s2;have k0:=PM d e s1;have k1:=M9 ds es s2;cases j with
  | zero=>simp at h1 h2;rw[<- h1,<- h2];exact k0
  | succ j=>exact k1 j x y (by simpa using h1) (by simpa using h2)
end
def CG (prog:Ã) (w:World) (d:D):Prop:=∀ (n:Nat) (A:Around) (E:À->Â->Prop) (s:Â) (v:À) (Q:Bool->Â->Prop),d.depth<=n->fR s.heap d v->Q true s->wpAny (model prog w) A (eqIsQuiet n v) Q E s
section
variable {prog:Ã}
mutual
theorem BA:∀ (d:D),CG prog w d
 | .int i=>λ n A E s v Q _ hx h=>by
  rw[fR] at hx;obtain⟨t,rfl⟩:=hx;rw[eqIsQuiet_byValue n (v:=.int i t) rfl];exact É h
 | .bl b=>λ n A E s v Q _ hx h=>by
  rw[fR] at hx;subst hx;rw[eqIsQuiet_byValue n (v:=.bool b) rfl];exact É h
 | .tup ds=>λ n A E s v Q hn hx h=>by
  have all:=y6 ds;have tu:D.depth (.tup ds)=bV ds+1:=by rw[D.depth]
  rw[tu] at hn;rw[fR] at hx;obtain⟨a,o,items,m,rfl,ho,hc,hd,hi⟩:=hx;have hT:s.TypeIs (.ref a) "tuple" := ⟨o,ho,hc⟩;obtain⟨n',rfl⟩:∃ n',n=n'+1:=⟨n - 1,by lia⟩;unfold eqIsQuiet;refine Æ (ľ hT F.slot_tuple_eq.lookup ?_);show wpAny _ _ (isInstance (.ref a) (.type "tuple") >>= _) _ _ s;refine Æ (ű hT isSubtype_tuple_tuple ?_);simp only [ahc,ĉ,if_false];refine Æ (Ą ho hd (Æ ?_));show wpAny _ _ (forIn items _ _) _ _ s;rw[<- ő];refine wpAny_forIn_list _ (λ jc r s'=>r.1=none/\s'=s/\∃ left,dY s.heap left jc/\∀ d∈left,d∈ds) _ ?_ ?_ _ _ ⟨rfl,rfl,ds,hi,λ _ z=>z⟩
  ·rintro v jc r s' ⟨hr,rfl,left,hl,mq⟩;cases left with
   | nil=>rw[dY] at hl;cases hl
   | cons k ks=>
    rw[dY] at hl;obtain⟨v',r',e,h1,l1⟩:=hl;cases e;have hk:=mq k (by simp);refine Æ (all k hk n' _ _ _ _ _ (by have:=pO ds k hk;lia) h1 ?_);simp only [ahc,ĉ,if_false];exact É ⟨rfl,rfl,ks,l1,λ d hd=>mq d (ô _ hd)⟩
  ·rintro⟨r1,r2⟩ s' ⟨hr,rfl,_⟩;simp only at hr;subst hr;exact É h
 | .non=>λ _ _ _ _ _ _ _ hx _=>by rw[fR] at hx;exact hx.elim
 | .str _=>λ _ _ _ _ _ _ _ hx _=>by rw[fR] at hx;exact hx.elim
theorem y6:∀ (ds:List D),∀ d∈ds,CG prog w d
 | [],_,h=>(nomatch h)
 | e::es,d,h=>by
  have h0:=BA e;have h1:=y6 es;rcases Ý.1 h with z | z
  ·rw[z];exact h0
  ·exact h1 d z
end
def eP (prog:Ã) (w:World) (S:D):HeapKind prog w D where
 is:=λ h d a=>sh d=S/\d.depth<=7/\fR h d (.ref a)
 hash:=sR
 draws:=nG
 room:=λ A=>A.units+8 < cLine
 inj:=λ hx hy=>fR.inj (hx.1.trans hy.1.symm) hx.2.2 hy.2.2
 keeps:=λ {h h' k a d o es ep} x ho hd hs=>⟨x.1,x.2.1,fR.keeps (λ a' o' items n h1 h3=>by
  by_cases e:a'=d
  ·subst e;rw[ho] at h1;cases h1;rw[hd] at h3;cases h3
  ·exact (hs.2 a' e).trans h1) x.2.2⟩
 pyHash:=λ {A E s k a Q} hu hk h=>HQ k A E s _ Q (by have:=hk.2.1;lia) hk.2.2 h
 eqBool:=λ {A E s x y a b Q} hu hx hy h=>PM x y (hx.1.trans hy.1.symm) A s _ _ (by have:=hx.2.1;lia) hx.2.2 hy.2.2 prog w E Q h
 quiet:=λ {A E s k a Q} hk h=>BA k 8 A E s _ Q (by have:=hk.2.1;lia) hk.2.2 h
end
mutual
def dF:D->Prop
 | .int _=>True
 | .bl _=>True
 | .tup ds=>cQ ds
 | .non=>False
 | .str _=>False
def cQ:List D->Prop
 | []=>True
 | d::ds=>dF d/\cQ ds
end
section
variable {X:Cx}{gi:List (Á×Obj)}{σ:St}{H:Hp}{s:Â}
mutual
theorem Is.toU (I:Inv X gi σ H s):∀ (d:D) (v:V) (u:À),dF d->Is X.K H d v->bE v u->fR s.heap d u
 | .int i,v,u,_,h,r=>by rw[Is] at h;subst h;rw[fR];exact r
 | .bl b,v,u,_,h,r=>by rw[Is] at h;subst h;rw[fR];exact r
 | .tup ds,v,u,p,h,r=>by
  rw[Is] at h;obtain⟨a,xs,rfl,q,l⟩:=h;cases r;obtain⟨its,rv,⟨o,e,c,n,d⟩,_⟩:=I.tuple q;rw[fR];exact⟨a,o,its.toArray,n,rfl,e,c,d,by simpa using IsL.toU I ds xs its (by rw[dF] at p;exact p) l rv⟩
 | .non,_,_,p,_,_=>by rw[dF] at p;exact p.elim
 | .str _,_,_,p,_,_=>by rw[dF] at p;exact p.elim
theorem IsL.toU (I:Inv X gi σ H s):∀ (ds:List D) (vs:List V) (us:List À),cQ ds->IsL X.K H ds vs->bO vs us->dY s.heap ds us
 | [],vs,us,_,h,r=>by rw[IsL] at h;subst h;cases r;rw[dY]
 | d::ds,vs,us,p,h,r=>by
  rw[IsL] at h;obtain⟨x,xs,rfl,h1,h2⟩:=h;rw[cQ] at p;cases r with
  | cons r1 r2=>
   rw[dY];exact⟨_,_,rfl,Is.toU I d x _ p.1 h1 r1,IsL.toU I ds xs _ p.2 h2 r2⟩
end
end
structure KeyD (K:Ç) (H:Hp) (S:D) (k:D) (v:V):Prop where
 sh:sh k=S
 dp:k.depth<=7
 pl:dF k
 is:Is K H k v
 tup:∃ b,v=.ref b
theorem KeyD.mono {K:Ç}{H H':Hp}{S k:D}{v:V} (h:KeyD K H S k v) (t:bJ K H H'):KeyD K H' S k v:=⟨h.sh,h.dp,h.pl,Ï t _ _ h.is,h.tup⟩
def mU (P:Ã) (w:World) (S:D) (a:Á) (xs:List (D×Á×À)) (h:Heap):Prop:=
 ∃ o es ep,h.get? a=some o/\o.ExactDict/\o.data=.dict es ep/\es.toList=xs.map (entryOfKey (eP P w S))/\(xs.map (·.1)).Nodup
abbrev KD (K:Ç) (H:Hp) (S:D):List (D×V)->List (D×Á×À)->Prop:=Paired λ p q=>p.1=q.1/\KeyD K H S p.1 (.ref q.2.1)/\bE p.2 q.2.2
def bR (P:Ã) (w:World) (K:Ç) (H:Hp) (a:Á) (S:D) (gu:List (D×V)):Prop:=
 (H a=some (.dK [])/\gu=[])\/∃ xs,H a=some (.ext (mU P w S a xs))/\(a == sysModules)=false/\gu.length<=sizeLine/\KD K H S gu xs
section
variable {H H':Hp}{a:Á}{S:D}{gu:List (D×V)}
theorem KD.mono {xs:List (D×Á×À)} (h:KD K H S gu xs) (t:bJ K H H'):KD K H' S gu xs:=ì h λ p q z=>⟨z.1,z.2.1.mono t,z.2.2⟩
theorem bR.mono (h:bR P w K H a S gu) (t:bJ K H H') (e:∀ o,H a=some o->H' a=some o):bR P w K H' a S gu:=by
 rcases h with ⟨h,z⟩ | ⟨xs,h,y,z,p⟩
 ·exact .inl ⟨e _ h,z⟩
 ·exact .inr ⟨xs,e _ h,y,z,KD.mono p t⟩
theorem bR.same (h:bR P w K H a S gu) (m:aE H H'):bR P w K H' a S gu:=h.mono m.ts λ o e=>m _ _ e
theorem bR.some (h:bR P w K H a S gu):∃ o,H a=some o:=by
 rcases h with ⟨h,_⟩ | ⟨_,h,_⟩ <;> exact⟨_,h⟩
theorem bR.mut (h:bR P w K H a S gu):mH (H a):=by
 rcases h with ⟨h,_⟩ | ⟨_,h,_⟩ <;> (rw[h];exact trivial)
theorem bR.new (h:H a=Option.some (.dK [])):bR P w K H a S []:=.inl ⟨h,rfl⟩
set_option tactic.hygienic true in
theorem KD.val {xs:List (D×Á×À)} (k:D):∀ {gu:List (D×V)},KD K H S gu xs->pS (cI gu k) ((atKey xs k).map (·.2))
 | [],h=>by cases h;exact trivial
 | p::r,h=>by
  cases h with
  | cons h1 h2=>
   rename_i q m
   by_cases e:p.1=k
   ·rw[d0 e];have:atKey (q::m) k=Option.some q.2:=by unfold atKey;rw[af0 (by rw[<- h1.1];exact ò e)];rfl
    rw[this];exact h1.2.2
   ·rw[cR e];have:atKey (q::m) k=atKey m k:=by unfold atKey;rw[af1 (by rw[<- h1.1];simpa using e)]
    rw[this];exact KD.val k h2
set_option tactic.hygienic true in
theorem KD.put {xs:List (D×Á×À)}{k:D}{v:V}{b:Á}{u:À} (h:KD K H S gu xs) (hk:KeyD K H S k (.ref b)) (r:bE v u):KD K H S (eT gu k v) (storedH xs k b u):=by
 unfold eT storedH;have e:(gu.any λ kv=>decide (kv.1=k))=(atKey xs k).isSome:=by
  rw[hW,(KD.val k h).isSome_eq,Ŭ]
 rw[e]
 by_cases c:(atKey xs k).isSome=true
 ·rw[Å c,Å c];clear e c
  induction h with
  | nil=>exact .nil
  | cons h1 h2 ih=>
   rename_i p q l m
   refine .cons ?_ ih;unfold putAt;dsimp only
   by_cases z:p.1=k
   ·rw[Å z,Å (by rw[<- h1.1];exact z)];exact⟨h1.1,h1.2.1,r⟩
   ·rw[Ä z,Ä (by rw[<- h1.1];exact z)];exact h1
 ·rw[Ä c,Ä c];clear e c
  induction h with
  | nil=>exact .cons ⟨rfl,hk,r⟩ .nil
  | cons h1 h2 ih=>exact .cons h1 ih
end
section
variable {X:Cx}{gi:List (Á×Obj)}{σ:St}{H:Hp}{s:Â}{a:Á}{S:D}{gu:List (D×V)}
theorem KD.keys (I:Inv X gi σ H s):∀ {gu:List (D×V)}{xs:List (D×Á×À)},KD X.K H S gu xs->∀ x∈xs,(eP X.prog X.w S).is s.heap x.1 x.2.1
 | _,_,.nil,x,hx=>by simp at hx
 | _,_,.cons h1 h2,x,hx=>by
  rcases Ý.mp hx with e | hx
  ·subst e;have k:=h1.2.1;rw[h1.1] at k;exact⟨k.sh,k.dp,Is.toU I _ _ _ k.pl k.is rfl⟩
  ·exact KD.keys I h2 x hx
theorem bR.at (I:Inv X gi σ H s) (g:bR X.prog X.w X.K H a S gu):(a == sysModules)=false/\gu.length<=sizeLine/\∃ xs,KD X.K H S gu xs/\s.heap.DictOfH (eP X.prog X.w S) a xs:=by
 rcases g with ⟨e,rfl⟩ | ⟨xs,e,y,z,p⟩
 ·obtain⟨z,hd,vs,rel,o,es,ep,h1,h2,h3,_,h4,_⟩:=MA I.hok e;cases rel;have e0:es.toList=[]:=by
   revert h4;generalize es.toList=l;intro h4;cases h4;rfl
  exact⟨hd,æ _,[],.nil,o,es,ep,h1,h2,h3,by rw[e0];rfl,λ x hx=>(nomatch hx),ahs⟩
 ·obtain⟨⟨o,es,ep,h1,h2,h3,h4,h5⟩,_⟩:=(show cG X.prog X.w H s.heap a (.ext (mU X.prog X.w S a xs)) from I.hok a _ e);exact⟨y,z,xs,p,o,es,ep,h1,h2,h3,h4,KD.keys I p,h5⟩
theorem KeyD.at (I:Inv X gi σ H s) {k:D}{b:Á} (h:KeyD X.K H S k (.ref b)):(eP X.prog X.w S).is s.heap k b:=⟨h.sh,h.dp,Is.toU I _ _ _ h.pl h.is rfl⟩
def OV (P:Ã) (w:World) (K:Ç):R2:=λ x y H Q=>∃ a S gu k v,x=.ref a/\bR P w K H a S gu/\KeyD K H S k y/\cI gu k=some v/\Q v H
theorem ix_D (hu:X.A.units+64 < cLine):EY X (OV X.prog X.w X.K):=by
 intro value slice gi s σ H x y v u Q I rx ry h hs;obtain⟨a,S,gu,k,z,rfl,g,hk,hv,q⟩:=h;obtain⟨b,rfl⟩:=hk.tup;cases rx;cases ry;obtain⟨hd,hz,xs,p,dd⟩:=g.at I;obtain⟨w',hw,wt⟩:=pS.some_of (v:=z) (o:=(atKey xs k).map (·.2)) (by rw[<- hv];exact KD.val k p);obtain⟨pp,hp,Cq⟩:=ó.mp hw;refine afy (x:=w') dd.typeIs PySem.F.slot_dict_getitem.lookup
  (wpAny_getItem_heap (knd:=eP X.prog X.w S) (Q:=λ r s'=>r=w'/\EP X gi σ Q r s') (show X.A.in1.units+8 < cLine by show X.A.units+1+8 < cLine;lia) (hk.at I) dd hp ⟨Cq,?_⟩) hs
 rw[Cq];exact⟨z,H,I.tok _,wt,q⟩
def FQ (P:Ã) (w:World) (K:Ç) (td ty tv:TE):TS:=λ D σ H=>tv σ H λ v H1=>td σ H1 λ x H2=>ty σ H2 λ y H3=>∃ a S gu k,x=.ref a/\bR P w K H3 a S gu/\KeyD K H3 S k y/\gu.length < sizeLine/\
 ∀ H4,cK a H3 H4->bR P w K H4 a S (eT gu k v)->D.nx σ H4
theorem G7 {o i value:Expr}{pos pos':Pos}{td ty tv:TE} (hu:X.A.units+64 < cLine) (ho:PE X o td) (hi:PE X i ty) (hv:PE X value tv) (hs:swapsWith value (some (.Subscript o i pos')) pos.line X.env=pure false) :
  PS X (.Assign [.Subscript o i pos'] value pos) (FQ X.prog X.w X.K td ty tv):=by
 intro gi s σ H D I h;refine wpAny_Assign_Subscript (cY (hv gi s σ H _ I h) λ r s1 ⟨v,H1,I1,rv,q1⟩=>cY (ho gi s1 σ H1 _ I1 q1) λ u s2 ⟨x,H2,I2,rx,q2⟩=>cY (hi gi s2 σ H2 _ I2 q2) λ iv s3 ⟨y,H3,I3,ry,a,S,gu,k,ex,g,hk,hl,q3⟩=>?_) hs;subst ex;obtain rfl:u=Value.ref a:=rx;obtain⟨b,rfl⟩:=hk.tup;cases ry;obtain⟨hd,hz,xs,p,dd⟩:=g.at I3;have lw:xs.length<=sizeLine:=by rw[<- å p];exact hz
 have Hy:(eT gu k v).length<=sizeLine:=by have:=eZ gu k v;lia
 refine wpAny_setItem_heap (knd:=eP X.prog X.w S) (hsz:=lw) (show X.A.in1.units+8 < cLine by show X.A.units+1+8 < cLine;lia) (hk.at I3) dd λ h' xt qm=>?_;obtain⟨qo,es,ep,hq,h2,h3,h4,_,h5⟩:=xt;have mu:=g.mut;have bt:cK a H3 (upd H3 a (.ext (mU X.prog X.w S a (storedH xs k b r)))):=ç;have ts:=bt.ts (K:=X.K) mu;refine⟨σ,_,lZ I3 mu qm ⟨qo,hq⟩ (ob:=.ext (mU X.prog X.w S a (storedH xs k b r))) ⟨⟨qo,es,ep,hq,h2,h3,h4,h5⟩,⟨qo,hq⟩,λ h1 Ak ⟨o',yk,yl,z1,z⟩ kk=>⟨o',yk,yl,kk _ z1,z⟩⟩,q3 _ bt (.inr ⟨_,aB,hd,Hy,KD.mono (KD.put p hk rv) ts⟩)⟩
theorem uN {P:Ã}{w:World}{K:Ç} (hP:X.prog=P) (hw:X.w=w) (hK:X.K=K) (hu:X.A.units+64 < cLine):EY X (OV P w K):=by subst hP hw hK;exact ix_D hu
theorem j7 {P:Ã}{w:World}{K:Ç}{o i value:Expr}{pos pos':Pos}{td ty tv:TE} (hP:X.prog=P) (hw:X.w=w) (hK:X.K=K) (hu:X.A.units+64 < cLine) (ho:PE X o td) (hi:PE X i ty) (hv:PE X value tv)
  (hs:swapsWith value (some (.Subscript o i pos')) pos.line X.env=pure false):PS X (.Assign [.Subscript o i pos'] value pos) (FQ P w K td ty tv):=by subst hP hw hK;exact G7 hu ho hi hv hs
end
end L2
namespace Tw
open PySem L2
structure Sta where
 held:List Int
 coming:List Int
 doors:List Bool
def kF (gk:Net):Sta:=⟨iM gk.vs.length,iM gk.vs.length,gk.sps.map (·.2.2)⟩
def cV (s:Sta):L2.D:=J3 s.held s.coming s.doors
theorem vA (n:Nat):(iM n).length=n:=by simp [iM]
def xO (gk:Net):L2.D:=.tup [.tup (List.replicate gk.vs.length (.int 0)),.tup (List.replicate gk.vs.length (.int 0)),.tup (List.replicate gk.sps.length (.bl false))]
theorem nU:∀ xs:List Int,gZ (xs.map L2.D.int)=List.replicate xs.length (.int 0)
 | []=>by rw[û,gZ];rfl
 | x::xs=>by rw[ã,gZ,sh,nU xs];rfl
theorem vR:∀ xs:List Bool,gZ (xs.map L2.D.bl)=List.replicate xs.length (.bl false)
 | []=>by rw[û,gZ];rfl
 | x::xs=>by rw[ã,gZ,sh,vR xs];rfl
theorem iR:∀ xs:List Int,cQ (xs.map L2.D.int)
 | []=>by rw[û,cQ];trivial
 | x::xs=>by rw[ã,cQ,dF];exact⟨trivial,iR xs⟩
theorem mY:∀ xs:List Bool,cQ (xs.map L2.D.bl)
 | []=>by rw[û,cQ];trivial
 | x::xs=>by rw[ã,cQ,dF];exact⟨trivial,mY xs⟩
theorem FN {gk:Net}{s:Sta} (ok:StOk gk s.held s.coming s.doors):sh (cV s)=xO gk:=by
 show sh (.tup [.tup (s.held.map L2.D.int),.tup (s.coming.map L2.D.int),.tup (s.doors.map L2.D.bl)])=_;rw[sh,gZ,gZ,gZ,gZ,sh,sh,sh,nU,nU,vR,ok.h,ok.c,ok.d];rfl
theorem uI (s:Sta):dF (cV s):=by
 show dF (.tup [.tup (s.held.map L2.D.int),.tup (s.coming.map L2.D.int),.tup (s.doors.map L2.D.bl)]);rw[dF,cQ,cQ,cQ,cQ,dF,dF,dF];exact⟨iR _,iR _,mY _,trivial⟩
theorem EA (s:Sta):(cV s).depth<=7:=by
 show (L2.D.tup [.tup (s.held.map L2.D.int),.tup (s.coming.map L2.D.int),.tup (s.doors.map L2.D.bl)]).depth<=7;rw[L2.D.depth,yW];decide
theorem oI {K:Ç}{H:Hp}{gk:Net}{s:Sta}{v:V} (ok:StOk gk s.held s.coming s.doors) (h:Is K H (cV s) v):KeyD K H (xO gk) (cV s) v:=by
 refine⟨FN ok,EA s,uI s,h,?_⟩;obtain⟨a,xs,rfl,_⟩:=(show Is K H (.tup [.tup (s.held.map L2.D.int),.tup (s.coming.map L2.D.int),.tup (s.doors.map L2.D.bl)]) v from h).un;exact⟨a,rfl⟩
theorem gF (x y:Sta) (h:cV x=cV y):x=y:=by
 obtain⟨a,b,c⟩:=x;obtain⟨a',b',c'⟩:=y;have h':L2.D.tup [.tup (a.map L2.D.int),.tup (b.map L2.D.int),.tup (c.map L2.D.bl)]=.tup [.tup (a'.map L2.D.int),.tup (b'.map L2.D.int),.tup (c'.map L2.D.bl)]:=h;injection h' with h';injection h' with h1 h';injection h' with h2 h';injection h' with h3 _;injection h1 with h1;injection h2 with h2;injection h3 with h3;have i1:∀ {p q:List Int},p.map L2.D.int=q.map L2.D.int->p=q:=λ {p q} h=>(Œ (λ x y h=>by injection h)).1 h;have i2:∀ {p q:List Bool},p.map L2.D.bl=q.map L2.D.bl->p=q:=λ {p q} h=>(Œ (λ x y h=>by injection h)).1 h;rw[i1 h1,i1 h2,i2 h3]
abbrev Fs (α:Type):=List (α×List Int)
inductive BRes (α:Type) where
 | ends (row:List Int) (fs:Fs α)
 | many
 | on (fs:Fs α)
section
variable {α:Type}(dD:α->L2.D)(nxt:α->Int->α)(fin:α->Int->Bool)(gj im:Nat)
def dS (fs:Fs α) (k:L2.D):Option (List Int):=(fs.find? λ p=>decide (dD p.1=k)).map (·.2)
def oU (d:α) (r:List Int):Nat->Int->Fs α->BRes α
 | 0,_,fs=>.on fs
 | l+1,a,fs=>if fin d a=true then .ends (r++[a]) fs else if (dS dD fs (dD (nxt d a))).isSome=true then oU d r l (a+1) fs else if im<=fs.length then .many else oU d r l (a+1) (fs++[(nxt d a,r++[a])])
def iH:Nat->Nat->Fs α->BRes α
 | 0,_,fs=>.on fs
 | n+1,p,fs=>match fs[p]? with
  | none=>.on fs
  | some d=>match oU dD nxt fin im d.1 ((dS dD fs (dD d.1)).getD []) (gj+1) 0 fs with
   | .on ji=>iH n (p+1) ji
   | r=>r
def JA (first:α):BRes α:=iH dD nxt fin gj im (im+1) 0 [(first,[])]
def MB (p:Nat):BRes α->BRes α
 | .on fs=>iH dD nxt fin gj im (im - p) (p+1) fs
 | r=>r
variable {dD nxt fin gj im}
theorem CO {fs:Fs α}{k:L2.D}{r:List Int} (q:α×List Int) (h:dS dD fs k=some r):dS dD (fs++[q]) k=some r:=by
 unfold dS at h ⊢;rw[List.find?_append];cases e:fs.find? λ p=>decide (dD p.1=k) with
 | none=>rw[e] at h;cases h
 | some x=>rw[e] at h;exact h
theorem hX {fs:Fs α}{d:α}{r:List Int} (h:(d,r)∈fs):(dS dD fs (dD d)).isSome=true:=by
 unfold dS;rw[Ŭ,List.find?_isSome];exact⟨_,h,by simp⟩
theorem lL {fs:Fs α}{k:L2.D} (h:(dS dD fs k).isSome=true):∃ q∈fs,dD q.1=k:=by
 unfold dS at h;rw[Ŭ,List.find?_isSome] at h;obtain⟨q,hq,e⟩:=h;exact⟨q,hq,by simpa using e⟩
theorem oT {d:α}{r:List Int}{l:Nat}{a:Int}{fs:Fs α} (h:fin d a=true):oU dD nxt fin im d r (l+1) a fs=.ends (r++[a]) fs:=Å h
theorem mD {d:α}{r:List Int}{l:Nat}{a:Int}{fs:Fs α} (h:fin d a=false) (h2:(dS dD fs (dD (nxt d a))).isSome=true):oU dD nxt fin im d r (l+1) a fs=oU dD nxt fin im d r l (a+1) fs:=by
 rw[oU,Ä (by rw[h];decide),Å h2]
theorem lK {d:α}{r:List Int}{l:Nat}{a:Int}{fs:Fs α} (h:fin d a=false) (h2:(dS dD fs (dD (nxt d a))).isSome=false) (h3:im<=fs.length):oU dD nxt fin im d r (l+1) a fs=.many:=by
 rw[oU,Ä (by rw[h];decide),Ä (by rw[h2];decide),Å h3]
theorem mE {d:α}{r:List Int}{l:Nat}{a:Int}{fs:Fs α} (h:fin d a=false) (h2:(dS dD fs (dD (nxt d a))).isSome=false) (h3:fs.length < im):oU dD nxt fin im d r (l+1) a fs=oU dD nxt fin im d r l (a+1) (fs++[(nxt d a,r++[a])]):=by
 rw[oU,Ä (by rw[h];decide),Ä (by rw[h2];decide),Ä (by lia)]
theorem ER {n p:Nat}{fs:Fs α} (h:fs.length<=p):iH dD nxt fin gj im n p fs=.on fs:=by
 cases n with
 | zero=>rfl
 | succ n=>rw[iH,ş h]
theorem ES {n p:Nat}{fs:Fs α}{d:α}{r r0:List Int} (h:fs[p]? = some (d,r0)) (hr:dS dD fs (dD d)=some r) (hn:n=im - p):iH dD nxt fin gj im (n+1) p fs=MB dD nxt fin gj im p (oU dD nxt fin im d r (gj+1) 0 fs):=by
 subst hn;rw[iH,h];dsimp only;rw[hr];show (match oU dD nxt fin im d r (gj+1) 0 fs with | .on ji=>_ | r=>r)=_;cases oU dD nxt fin im d r (gj+1) 0 fs <;> rfl
def Shut (first:α) (fs:Fs α):Prop:=(∃ q∈fs,dD q.1=dD first)/\∀ q∈fs,∀ a:Nat,a<=gj->fin q.1 a=false/\(dS dD fs (dD (nxt q.1 a))).isSome=true
theorem IR {d:α}{r:List Int}:∀ (l:Nat) (a:Nat) (fs ji:Fs α),oU dD nxt fin im d r l a fs=.on ji->(∃ jp,ji=fs++jp)/\(fs.length<=im->ji.length<=im)/\∀ b:Nat,a<=b->b < a+l->fin d b=false/\(dS dD ji (dD (nxt d b))).isSome=true:=by
 intro l
 induction l with
 | zero=>
  intro a fs ji h;cases h;exact⟨⟨[],by simp⟩,id,λ b h1 h2=>by lia⟩
 | succ l ih=>
  intro a fs ji h;cases hf:fin d a with
  | true=>rw[oT hf] at h;cases h
  | false=>
   have grow:∀ {fs1:Fs α}{k:L2.D},(dS dD fs1 k).isSome=true->(∃ jp,ji=fs1++jp)->(dS dD ji k).isSome=true:=λ {fs1 k} h1 ⟨jp,e⟩=>by
    subst e;obtain⟨q,hq,e⟩:=lL h1;have:=hX (dD:=dD) (d:=q.1) (r:=q.2) (fs:=fs1++jp) (Ī _ hq);rw[e] at this;exact this
   cases hv:(dS dD fs (dD (nxt d a))).isSome with
   | true=>
    rw[mD hf hv] at h;obtain⟨m,hl,hb⟩:=ih (a+1) fs ji h;refine⟨m,hl,λ b h1 h2=>?_⟩;rcases (show b=a\/a+1<=b by lia) with rfl | h3
    ·exact⟨hf,grow hv m⟩
    ·exact hb b h3 (by lia)
   | false=>
    by_cases hl:im<=fs.length
    ·rw[lK hf hv hl] at h;cases h
    ·rw[mE hf hv (by lia)] at h;obtain⟨⟨jp,m⟩,Hz,hb⟩:=ih (a+1) _ ji h;refine⟨⟨_,by rw[m,ý]⟩,λ _=>Hz (by simp;lia),λ b h1 h2=>?_⟩;rcases (show b=a\/a+1<=b by lia) with rfl | h3
     ·refine⟨hf,grow (fs1:=fs++[(nxt d b,r++[(b:Int)])]) (hX (r:=r++[(b:Int)]) (by simp)) ⟨jp,m⟩⟩
     ·exact hb b h3 (by lia)
theorem LA:∀ (n p:Nat) (fs ji:Fs α),im < p+n->p<=fs.length->fs.length<=im->(∀ (i:Nat) q,i < p->fs[i]? = some q->∀ a:Nat,a<=gj->fin q.1 a=false/\(dS dD fs (dD (nxt q.1 a))).isSome=true)->
  iH dD nxt fin gj im n p fs=.on ji->(∃ jp,ji=fs++jp)/\∀ q∈ji,∀ a:Nat,a<=gj->fin q.1 a=false/\(dS dD ji (dD (nxt q.1 a))).isSome=true:=by
 intro n
 induction n with
 | zero=>intro p fs ji h1 h2 h3 _ _;lia
 | succ n ih=>
  intro p fs ji h1 h2 h3 hi h;rw[iH] at h;cases hd:fs[p]? with
  | none=>
   rw[hd] at h;cases h;have hp:=List.getElem?_eq_none_iff.mp hd;refine⟨⟨[],by simp⟩,λ q hq=>?_⟩;obtain⟨i,md⟩:=ĩ.1 hq;have:=(Ò.mp md).1;exact hi i q (by lia) md
  | some d=>
   rw[hd] at h;dsimp only at h;cases hb:oU dD nxt fin im d.1 ((dS dD fs (dD d.1)).getD []) (gj+1) 0 fs with
   | many=>rw[hb] at h;cases h
   | ends row f=>rw[hb] at h;cases h
   | on fs1=>
    rw[hb] at h;obtain⟨⟨jp,m⟩,hl,hq⟩:=IR (gj+1) 0 fs fs1 hb;have kc:=(Ò.mp hd).1;have grow:∀ {k:L2.D},(dS dD fs k).isSome=true->(dS dD fs1 k).isSome=true:=λ {k} h1=>by
     subst m;obtain⟨q,hq,e⟩:=lL h1;have:=hX (dD:=dD) (d:=q.1) (r:=q.2) (fs:=fs++jp) (Ī _ hq);rw[e] at this;exact this
    have key:∀ (i:Nat) q,i < p+1->fs1[i]? = some q->∀ a:Nat,a<=gj->fin q.1 a=false/\(dS dD fs1 (dD (nxt q.1 a))).isSome=true:=λ i q h4 h5 a ha=>by
     rcases (show i < p\/i=p by lia) with h6 | rfl
     ·rw[m,ě (by lia)] at h5;obtain⟨h7,h8⟩:=hi i q h6 h5 a ha;exact⟨h7,grow h8⟩
     ·rw[m,ě kc,hd] at h5;cases h5;exact hq a (æ _) (by lia)
    obtain⟨⟨Ia,m2⟩,hc⟩:=ih (p+1) fs1 ji (by lia) (by rw[m,à];lia) (hl h3) key h;exact⟨⟨jp++Ia,by rw[m2,m,ý]⟩,hc⟩
theorem oS {first:α}{fs:Fs α} (h1:1<=im) (h:JA dD nxt fin gj im first=.on fs):Shut (dD:=dD) (nxt:=nxt) (fin:=fin) (gj:=gj) first fs:=by
 obtain⟨⟨jp,m⟩,hc⟩:=LA (im+1) 0 [(first,[])] fs (by lia) (by simp) (by simpa using h1) (λ i q h=>absurd h (ī _)) h;exact⟨⟨(first,[]),by rw[m];simp,rfl⟩,hc⟩
end
end Tw
namespace L2
open PySem PySem.Spec PyProof.Rows TwZ
section
variable {X:Cx}
def LS (P:Ã) (w:World) (K:Ç):R2:=λ x y H Q=>∃ a S gu k,y=.ref a/\bR P w K H a S gu/\KeyD K H S k x/\Q (.bl (!(cI gu k).isSome)) H
theorem KB (hu:X.A.units+64 < cLine):jJ X (compareOp .NotIn) (LS X.prog X.w X.K):=by
 intro gi s σ H x y v u Q I rx ry h;obtain⟨a,S,gu,k,rfl,g,hk,q⟩:=h;obtain⟨b,rfl⟩:=hk.tup;cases rx;cases ry;obtain⟨hd,hz,xs,p,dd⟩:=g.at I;refine wpAny_notIn_heap (knd:=eP X.prog X.w S) (show X.A.in1.units+8 < cLine by show X.A.units+1+8 < cLine;lia) (hk.at I) hd dd ?_;have e:=(KD.val k p).isSome_eq;rw[Ŭ] at e;rw[<- e];exact⟨.bl _,H,I.tok _,rfl,q⟩
theorem rW {P:Ã}{w:World}{K:Ç} (hP:X.prog=P) (hw:X.w=w) (hK:X.K=K) (hu:X.A.units+64 < cLine):jJ X (compareOp .NotIn) (LS P w K):=by subst hP hw hK;exact KB hu
def one1 (R:V->V->Hp->Prop):List (V×V)->Hp->Prop
 | [(x,v)],H=>R x v H
 | _,_=>False
def FF (P:Ã) (w:World) (K:Ç) (tk tv:TE):TE:=λ σ H Q=>∀ p,H p=none->tk σ (upd H p (.dK [])) λ x H1=>tv σ H1 λ v H2=>H2 p=some (.dK [])/\∃ S k,KeyD K H2 S k x/\∀ H3,cK p H2 H3->bR P w K H3 p S [(k,v)]->Q (.ref p) H3
theorem GG {k v:Expr}{pos:Pos}{tk tv:TE} (hu:X.A.units+64 < cLine) (hk:PE X k tk) (hv:PE X v tv):PE X (.Dict [some k] [v] pos) (FF X.prog X.w X.K tk tv):=by
 intro gi s σ H Q I q;have hn:=I.hok.fresh (Î s.heap.objs.size);have I1:=I.laid (a:=s.heap.objs.size) (o:=.dK []) (h':=s.heap.push { cls:=.type "dict",data:=.dict #[] }) (t':=s.toks) (λ _ _ q=>Í _ q) (Î _) (sW s.heap I.big);have hp:PPs X pos [some k] [v] [(tk,tv)]:=G9 hk hv K0;refine wpAny_Dict_any rfl rfl (by simp) (show 1<=15 by decide) (cY (hp gi _ σ _ (one1 λ x v H2=>H2 s.heap.objs.size=some (.dK [])/\∃ S k,KeyD X.K H2 S k x/\∀ H3,cK s.heap.objs.size H2 H3->bR X.prog X.w X.K H3 s.heap.objs.size S [(k,v)]->Q (.ref s.heap.objs.size) H3) I1 (q _ hn)) λ ws s2 ⟨ps,H2,I2,rel,h⟩=>?_);obtain _ | ⟨⟨x,y⟩,_ | ⟨_,_⟩⟩:=ps
 ·exact h.elim
 ·obtain⟨e0,S,k',ql,q2⟩:=h;cases rel with
  | @cons _ wv _ _ r0 r1=>
   cases r1;obtain⟨u,r⟩:=wv;obtain⟨b,rfl⟩:=ql.tup;have ru:bE (.ref b) u:=r0.1;have rr:bE y r:=r0.2;cases ru;have g:bR X.prog X.w X.K H2 s.heap.objs.size S []:=bR.new e0;obtain⟨hd,hz,xs,p,dd⟩:=g.at I2;cases p;refine Æ (Æ (wpAny_dictSet_heap (knd:=eP X.prog X.w S) (hsz:=æ _) (show X.A.units+8 < cLine by lia) (ql.at I2) dd λ h' xt qm=>É ?_));obtain⟨qo,es,ep,hq,h2,h3,h4,_,h5⟩:=xt;have mu:=g.mut;have bt:cK s.heap.objs.size H2 (upd H2 s.heap.objs.size (.ext (mU X.prog X.w S s.heap.objs.size (storedH [] k' b r)))):=ç;have ts:=bt.ts (K:=X.K) mu;refine É (show EP X gi σ Q _ _ from ⟨.ref s.heap.objs.size,_,lZ I2 mu qm ⟨qo,hq⟩ (ob:=.ext (mU X.prog X.w S s.heap.objs.size (storedH [] k' b r))) ⟨⟨qo,es,ep,hq,h2,h3,h4,h5⟩,⟨qo,hq⟩,λ h1 Ak ⟨o',yk,yl,z1,z⟩ kk=>⟨o',yk,yl,kk _ z1,z⟩⟩,rfl,q2 _ bt (.inr ⟨_,aB,hd,(by rw[Ď];show 1<=_;decide),KD.mono (KD.put (gu:=[]) .nil ql rr) ts⟩)⟩)
 ·exact h.elim
theorem pE {P:Ã}{w:World}{K:Ç}{k v:Expr}{pos:Pos}{tk tv:TE} (hP:X.prog=P) (hw:X.w=w) (hK:X.K=K) (hu:X.A.units+64 < cLine) (hk:PE X k tk) (hv:PE X v tv):PE X (.Dict [some k] [v] pos) (FF P w K tk tv):=by subst hP hw hK;exact GG hu hk hv
def OJ (i j k:Nat) (ta:TA):TS:=λ D σ H=>ta σ H λ vs H1=>∃ v w z,vs=[v,w,z]/\D.nx (((σ.set i (some v)).set j (some w)).set k (some z)) H1
theorem JX {i j k:Nat}{x y z:Str}{a b c:Expr}{ta:TA}{pos px py pz pt:Pos}{kt k2 pt2} (hc:X.calm=true) (hN:X.N.Nodup) (hi:X.N[i]? = some x) (hj:X.N[j]? = some y) (hk:X.N[k]? = some z) (Yr:i≠j) (Ys:i≠k) (Yt:j≠k)
  (hx:X.env.scope.names.lookup x=some .local) (hy:X.env.scope.names.lookup y=some .local) (hz:X.env.scope.names.lookup z=some .local) (ha:PA X [a,b,c] ta)
  (hw:swappedStores [.Tuple [.Name x px,.Name y py,.Name z pz] kt pt] (.Tuple [a,b,c] k2 pt2) X.env=pure (some [x,y,z]))
  (hs:swapsWithSole [.Tuple [.Name x px,.Name y py,.Name z pz] kt pt] (.Tuple [a,b,c] k2 pt2) pos.line X.env=pure false:=by with_unfolding_all rfl) :
  PS X (.Assign [.Tuple [.Name x px,.Name y py,.Name z pz] kt pt] (.Tuple [a,b,c] k2 pt2) pos) (OJ i j k ta):=by
 intro gi s σ H D I h;rw[exec_Assign_arm];refine Æ (ŀ ?_);rw[hs];refine Æ (É ?_);rw[Ä (by decide)];refine Æ (Tuple_ (cY (ha _ gi s σ H _ I h) λ us s1 ⟨vs,H1,I1,r1,q1⟩=>?_));obtain⟨v,w,w2,e1,q1⟩:=q1;subst e1;obtain⟨u1,u2,u3,rfl,rv,wt,rz⟩:∃ u1 u2 u3,us=[u1,u2,u3]/\bE v u1/\bE w u2/\bE w2 u3:=by
  cases r1 with
  | cons p q=>
   cases q with
   | cons p' q'=>
    cases q' with
    | cons p2 q2=>
     cases q2;exact⟨_,_,_,rfl,p,p',p2⟩
 refine Đ ?_ (by show 3<=sizeLine;decide);have I2:Inv X gi σ H1 { s1 with heap:=s1.heap.push { cls:=.type "tuple",data:=.seq [u1,u2,u3].toArray } }:=I1.kept (t':=s1.toks) λ b o e=>Í _ e;rw[hw];refine Æ (É ?_);show wpAny (model X.prog X.w) X.A (do rule "assign.swapped-stores";let items <- unpackItems (.ref s1.heap.objs.size) 3 none;assignInOrder [λ v=>bindName X.env z v,λ v=>bindName X.env y v,λ v=>bindName X.env x v] items.reverse;pure Flow.next) _ _ _;refine Æ (õ (Æ (unpackItems_tuple (items:=#[u1,u2,u3]) (I.ok.hd hc) (IsTup.new s1.heap _) λ h' kz=>?_)));have I3:=I2.kept (h':=h') (t':=s1.toks) λ b o e=>kz b o (Þ (Ñ e)) e;show wpAny _ _ (assignInOrder [λ v=>bindName X.env z v,λ v=>bindName X.env y v,λ v=>bindName X.env x v] [u3,u2,u1] >>= λ _=>pure Flow.next) _ _ _;refine Æ (afj (agy (hZ I3 hN hk (.inl hz) rz (λ s2 I4=>?_) (.inr hz))));refine afj (agy (hZ I4 hN hj (.inl hy) wt (λ s3 I5=>?_) (.inr hy)));refine afj (agy (hZ I5 hN hi (.inl hx) rv (λ s4 I6=>assignInOrder_nil (É ?_)) (.inr hx)));have e6:((σ.set k (some w2)).set j (some w)).set i (some v)=((σ.set i (some v)).set j (some w)).set k (some w2):=by
  rw[ahu _ _ (Ne.symm Yr),ahu (some w2) (some v) (Ne.symm Ys),ahu (some w2) (some w) (Ne.symm Yt)]
 rw[e6] at I6;exact⟨_,H1,I6,q1⟩
theorem qO {st:Stmt}{t:TS} (h:∀ pn:List (Á×Obj),PS (X.within pn λ _ _=>False) st t):PS X st t:=by
 intro gi s σ H D I h1;refine á (h (X.pn++gi) [] s σ H D I.within h1) (λ f ai hf=>?_) λ _ _ z=>z.elim;cases f with
 | next=>obtain⟨ad,H',J,q⟩:=hf;exact⟨ad,H',J.unwithin,q⟩
 | brk=>obtain⟨ad,H',J,q⟩:=hf;exact⟨ad,H',J.unwithin,q⟩
 | cont=>obtain⟨ad,H',J,q⟩:=hf;exact⟨ad,H',J.unwithin,q⟩
 | ret u=>obtain⟨v,ad,H',J,r,q⟩:=hf;exact⟨v,ad,H',J.unwithin,r,q⟩
end
abbrev O5:=Â->List Env->Sp
structure FnOkS (P:Ã) (w:World) (K:Ç) (mg:Str->Option À) (base:Heap) (CX:AU) (k:Nat) (f:Á) (fd:FuncData) (ps:List Str) (sp:O5):Prop where
 len:∀ s o vs H Q E,sp s o vs H Q E->vs.length=ps.length
 run:∀ (A:Around) (outer:List Env) (s:Â) (H:Hp) (args:Args) (us:List À) (vs:List V) (Q:VK) (E:XK),Room k A->Env0 P w K mg base A outer s H->BindsTo s fd args (ps.zip us)->bO vs us->sp s outer vs H Q E->
  codeAny (model P w) A (.call (.ref f) args) (CR CX outer P w H s Q E) s
theorem NU {CX:AU}{P:Ã}{w:World}{K:Ç}{mg:Str->Option À}{base:Heap}{k:Nat}{f:Á}{name qual:Str}{params:Arguments}{body:List Stmt}{scope:Scope}{dV kV doc pm ja ct oc:À}{an od:Option Á}
  {wq:Array (Option À)}{N ps:List Str}{sp:O5} (lk:K.lookup f=some ⟨oc,od,.func (PySem.W.fnOf name qual params body scope dV kV doc pm an ja ct),wq⟩) (nj:PySem.W.codeIn K ja qual=true) (S:FnScope N ps scope)
  (len:∀ s o vs H Q E,sp s o vs H Q E->vs.length=ps.length)
  (jt:∀ (A:Around) (outer:List Env) (s:Â) (H:Hp) (vs:List V) (Q:VK) (E:XK),Room k (A.deeper (envOfC qual scope s.heap.objs.size f ja))->Env0 P w K mg base A outer s H->sp s outer vs H Q E->
   ∃ t,xK (lI CX P w K mg base N qual scope f ja A outer s H E) body t/\t { nx:=λ _ H'=>Q .non H',rt:=Q } (iP N vs) H) :
  FnOkS P w K mg base CX (k+1) f (PySem.W.fnOf name qual params body scope dV kV doc pm an ja ct) ps sp:=by
 refine⟨len,λ A outer s H args us vs Q E hr e0 hb r ke=>?_⟩;have hl:=len _ _ _ _ _ _ ke;have KX:K.In s.heap:=e0.mod.kin.keeps λ b o e=>(e0.bs b o e).1;have im:s.heap.NoLimit:=e0.mod.nolimit.keeps λ b o e=>(e0.bs b o e).1;have ym:∀ y∈ps.zip us,scope.names.lookup y.1=some .local\/(scope.names.lookup y.1=some .cell/\((cellsFrom (s.heap.objs.size+1) scope.names []).lookup y.1).isSome=true):=λ ⟨n,v⟩ hy=>by
  rcases S.par n (ŋ hy).1 with q | q
  ·exact .inl q
  ·exact .inr ⟨q,afw _ _ _ (.inl q)⟩
 refine codeAny_call_function hr.depth (KX _ _ lk) rfl S.co S.gen rfl (PySem.W.codeRec_of KX nj) (hb _ _ _ _ ?_);refine wpAny_newFunctionEnv_cells S.kind ym λ env he s1 x=>?_;subst he;refine⟨im.keeps x.toInCall.keep,codeAny_func ?_⟩;obtain⟨t,ht,hq⟩:=jt A outer s H vs Q E (hr.deeper _) e0 ke;have I:Inv (lI CX P w K mg base N qual scope f ja A outer s H E) [] (iP N vs) H s1:=uP S hr.hd e0 hl r x;refine á (ht [] s1 (iP N vs) H _ I hq) (λ fl s' hs=>?_) λ e s' hs=>hs;have fin:∀ {ad:St}{H':Hp}{v:V}{u:À},Inv (lI CX P w K mg base N qual scope f ja A outer s H E) [] ad H' s'->bE v u->Q v H'->CE outer P w H s Q u s':=
  λ {ad H' v u} J rv q=>⟨v,H',J.os,J.bare,J.base,J.hok,rv,q⟩
 cases fl with
 | ret u=>
  obtain⟨v,ad,H',J,rv,q⟩:=hs;exact fin J rv q
 | next=>
  obtain⟨ad,H',J,q⟩:=hs;exact fin (v:=V.non) (u:=Value.none) J rfl q
 | brk=>
  obtain⟨_,_,_,q⟩:=hs;exact False.elim q
 | cont=>
  obtain⟨_,_,_,q⟩:=hs;exact False.elim q
structure FnH (H:Hp) (f c:Á) (ob oc:Obj):Prop where
 fn:H f=some (.frz ob (.own f))
 cd:H c=some (.frz oc (.own c))
theorem FnH.same {H H':Hp}{f c:Á}{ob oc:Obj} (h:FnH H f c ob oc) (s:aE H H'):FnH H' f c ob oc:=⟨s _ _ h.fn,s _ _ h.cd⟩
structure CellsK (cl:List (Str×Á)) (s s':Â) (H':Hp) (outer:List Env):Prop where
 keep:∀ c∈cl.map (·.2),∀ o,s.heap.get? c=some o->s'.heap.get? c=some o
 free:∀ c∈cl.map (·.2),H' c=none
 out:∀ c∈cl.map (·.2),c∉jV outer
def IY (P:Ã) (w:World) (K:Ç) (mg:Str->Option À) (base:Heap) (k:Nat) (f c:Á) (ob oc:Obj) (cl:List (Str×Á)) (sp:Sp) (s:Â):Prop:=
 ∀ (A:Around) (outer:List Env) (s':Â) (H':Hp) (us:List À) (vs:List V) (Q:VK),Room k A->Env0 P w K mg base A outer s' H'->FnH H' f c ob oc->CellsK cl s s' H' outer->bO vs us->sp vs H' Q E0->
  codeAny (model P w) A (.call (.ref f) ⟨us,[]⟩) (CR kA outer P w H' s' Q E0) s'
section
variable {X:Cx}{k:Nat}{f c:Á}{ob oc:Obj}{cl:List (Str×Á)}{sp:Sp}{x:Str}{p pos:Pos}{e:Expr}{es:List Expr}{t:TA}{i:Nat}
def MO (i:Nat) (f c:Á) (ob oc:Obj) (sp:Sp) (t:TA):TE:=λ σ H Q=>σ[i]? = some (some (.ref f))/\FnH H f c ob oc/\t σ H λ vs H1=>FnH H1 f c ob oc/\sp vs H1 Q E0
theorem GH (R:IY X.prog X.w X.K X.mg X.base k f c ob oc cl sp X.s₀) (uw:∃ cls od fd sl,ob=⟨cls,od,.func fd,sl⟩) (hr:Room k X.A)
  (hc:∀ c∈cl.map (·.2),X.H₀ c=none/\c∉X.fs/\c∉X.ex/\c < X.s₀.heap.objs.size/\∃ o,X.s₀.heap.get? c=some o)
  (hN:X.N[i]? = some x) (hv:PU X.env.scope x) (ha:PA X (e::es) t) (pc:X.stack=X.env::X.outer)
  (Ap:X.env.frame=some X.env.locals)
  (hd:(x == ("__debug__" : Str))=false:=by decide) (nj:(x == ("__classdict__" : Str))=false:=by decide) (he:starEach (e::es) X.env=(false,eval e X.env)::starEach es X.env:=by with_unfolding_all rfl) (kc:(backTo pos (starEach es X.env)).any (·.1)=false:=by with_unfolding_all rfl) :
  PE X (.Call (.Name x p) (e::es) [] pos) (MO i f c ob oc sp t):=by
 intro gi s σ H Q I h;obtain⟨ci,hf,h⟩:=h;have fnAt:∀ {s':Â}{H':Hp},Inv X gi σ H' s'->FnH H' f c ob oc->PySem.W.FnAt f s'.heap:=λ I' Yu=>by
  obtain⟨cls,od,fd,sl,rfl⟩:=uw;obtain⟨e1,_⟩:=(show cG X.prog X.w _ _ f (.frz _ (.own f)) from I'.hok f _ Yu.fn);exact⟨cls,od,fd,sl,e1⟩
 refine Ū ?_;refine cY ((GE hN hv hd nj) gi s σ H (λ v H'=>v=V.ref f/\H'=H) I ⟨_,ci,rfl,rfl⟩) λ u s0 ⟨v,H0,I0,rv,q⟩=>?_;obtain⟨rfl,rfl⟩:=q;obtain rfl:u=Value.ref f:=rv;refine PySem.W.callWith_F (fnAt I0 hf) (cY (ha pos gi s0 σ H0 _ I0 h) λ us s1 ⟨vs,H1,I1,r,Vi,q⟩=>⟨fnAt I1 Vi,?_⟩) he kc;refine Ŷ (ŵ (R X.A X.stack s1 H1 us vs Q hr I1.env0 Vi ⟨λ c' lz o ho=>?_,λ c' lz=>?_,λ c' lz z=>?_⟩ r q) λ r s' hq=>?_)
 ·obtain⟨h1,h2,h3,_⟩:=hc c' lz;exact I1.base.keep c' o ho h1 h2 h3
 ·obtain⟨h1,h2,h3,_,o,ho⟩:=hc c' lz;exact I1.base.free c' o ho h1 h3
 ·obtain⟨h1,h2,h3,h4,_⟩:=hc c' lz;rw[pc] at z;have z':c'∈jV (X.env::X.outer):=z;unfold jV at z';rw[ag6 Ap] at z';rcases Ý.1 z' with z' | z'
  ·have:=I1.ok.above;rw[<- z'] at this;exact absurd (í h4 this) (ā _)
  ·exact h2 z'
 ·cases r with
  | error e=>exact hq.elim
  | ok fl=>
   cases fl with
   | ret u=>exact I1.after hq
   | next=>exact False.elim hq
   | brk=>exact False.elim hq
   | cont=>exact False.elim hq
end
end L2
namespace L2
open PySem PySem.Spec PyProof.Rows TwZ
open PySem.W (envX kla_obj kla_fn)
def IJ (P:Ã) (w:World) (K:Ç) (mg:Str->Option À) (base:Heap) (N:List Str) (qual:Str) (scope:Scope) (f:Á) (cd:À) (cl:List (Str×Á)) (A:Around) (outer:List Env) (s:Â) (H:Hp):Cx where
 prog:=P
 w:=w
 K:=K
 mg:=mg
 base:=base
 A:=A.deeper (envX qual scope s.heap.objs.size f cd cl)
 N:=N
 s₀:=s
 H₀:=H
 env:=envX qual scope s.heap.objs.size f cd cl
 outer:=outer
 stack:=envX qual scope s.heap.objs.size f cd cl::outer
 ex:=[]
 calm:=true
 fn:=λ _=>false
 pn:=[]
 xe:=λ _ _=>False
structure LamScope (N ps:List Str) (sc:Scope) (cl:List (Str×Á)):Prop where
 kind:sc.kind=.function
 co:sc.isCoroutine=false
 gen:sc.isGenerator=false
 nd:N.Nodup
 pre:N.take ps.length=ps
 par:∀ x∈ps,sc.names.lookup x=some .local
 nocell:∀ y∈sc.names,y.2≠.cell
 frees:∀ y,sc.names.lookup y=some .free->∃ c,cl.lookup y=some c
 apart:cl.Pairwise λ x y=>x.2≠y.2
theorem sK:∀ {P:List Str}{us:List À}{i:Nat}{x:Str}{u:À},P.Nodup->P[i]? = some x->us[i]? = some u->((P.zip us).reverse).lookup x=some u:=by
 intro P us i x u nd h1 h2;have hm:(x,u)∈(P.zip us).reverse:=by
  rw[List.mem_reverse];exact ĩ.2 ⟨i,by rw[ķ];exact⟨h1,h2⟩⟩
 have hu:∀ v,(x,v)∈(P.zip us).reverse->v=u:=λ v hv=>by
  rw[List.mem_reverse] at hv;obtain⟨j,hj⟩:=ĩ.1 hv;rw[ķ] at hj;have e1:=Ò.mp h1;have e2:=Ò.mp hj.1;have:j=i:=(List.getElem_inj (h₀:=e2.1) (h₁:=e1.1) nd).1 (by rw[e2.2,e1.2]);subst this;rw[h2] at hj;exact (â hj.2).symm
 generalize (P.zip us).reverse=l at hm hu;clear h1 h2 nd
 induction l with
 | nil=>exact absurd hm (by simp)
 | cons q l ih=>
  obtain⟨y,v⟩:=q;rw[č]
  by_cases c:x=y
  ·subst c;have:=hu v ą;subst this;simp
  ·have:(x == y)=false:=by simpa using c
   rw[this];refine ih ?_ λ v hv=>hu v (ô _ hv);rcases Ý.1 hm with z | z
   ·injection z with z1 z2;exact absurd z1 c
   ·exact z
section
variable {k:Nat}{f c:Á}{name qual:Str}{params:Arguments}{body:Expr}{scope:Scope}{cl:List (Str×Á)}{pm wa:À}{oc:Obj}{sp:Sp}{s:Â}{N ps:List Str}{fv:List V}
theorem GX (S:LamScope N ps scope cl) (len:∀ vs H Q,sp vs H Q E0->vs.length=ps.length) (hl:N.length=ps.length+fv.length)
  (rg:∃ vs t,oc.data=.fields vs/\vs[1]? = some (.str qual t)) (zk:∀ us:List À,us.length=ps.length->bindArgs (kla_fn name qual params body scope cl pm (.ref c) wa) ⟨us,[]⟩=pure (ps.zip us))
  (Ea:∀ y c,cl.lookup y=some c->∃ v,s.heap.IsCell c v) (Yv:∀ (i:Nat) (y:Str) (v:V),N[ps.length+i]? = some y->fv[i]? = some v->scope.names.lookup y=some .free/\∃ c u,cl.lookup y=some c/\s.heap.IsCell c (some u)/\bE v u)
  (jt:∀ (A:Around) (outer:List Env) (s':Â) (H':Hp) (vs:List V) (Q:VK),Room k (A.deeper (envX qual scope s'.heap.objs.size f (.ref c) cl))->sp vs H' Q E0->
   ∃ te,PE (IJ P w K mg base N qual scope f (.ref c) cl A outer s' H') body te/\te (vs.map some++fv.map some) H' Q) :
  IY P w K mg base (k+1) f c (kla_obj name qual params body scope cl pm c wa) oc cl sp s:=by
 intro A outer s' H' us vs Q hr e0 hf ck r ke;have gy:=len _ _ _ ke;have Ib:us.length=ps.length:=by rw[<- r.length];exact gy
 obtain⟨ef,_⟩:=(show cG P w H' s'.heap f (.frz _ (.own f)) from e0.hok f _ hf.fn);obtain⟨ec,_⟩:=(show cG P w H' s'.heap c (.frz _ (.own c)) from e0.hok c _ hf.cd);have im:s'.heap.NoLimit:=e0.mod.nolimit.keeps λ b o e=>(e0.bs b o e).1;have cellK:∀ {y:Str}{a:Á}{v:Option À},cl.lookup y=some a->s.heap.IsCell a v->s'.heap.IsCell a v:=λ {y a v} h1 h2=>by
  have hm:a∈cl.map (·.2):=Õ.2 ⟨(y,a),ÿ h1,rfl⟩;obtain⟨o,e1,e2⟩:=h2;exact⟨o,ck.keep a hm o e1,e2⟩
 obtain⟨Yw,t0,Yx,Ic⟩:=rg;refine PySem.W.kla_callFunE hr.depth ef rfl S.co S.gen rfl ⟨c,oc,Yw,t0,rfl,ec,Yx,Ic⟩ ?_;rw[zk us Ib];have Lu:ps.Nodup:=by rw[<- S.pre];exact S.nd.sublist (List.take_sublist _ _)
 refine É (agd S.nocell (λ y hy=>S.par _ (ŋ hy).1) (λ h₁ zd qm=>⟨im.fresh _ qm,?_⟩) S.kind);show codeAny _ _ (.expr body (envX qual scope s'.heap.objs.size f (.ref c) cl)) _ _;have dj:∀ b o,s'.heap.get? b=some o->h₁.get? b=some o:=λ b o e=>qm.extBut b o (Þ (Ñ e)) (Í _ e);obtain⟨te,Yy,hq⟩:=jt A outer s' H' vs Q (hr.deeper _) ke;have I:Inv (IJ P w K mg base N qual scope f (.ref c) cl A outer s' H') [] (vs.map some++fv.map some) H' { s' with heap:=h₁,toks:=s'.toks+(ps.zip us).length }:=by
  have Dg:∀ b:Á,b∉(IJ P w K mg base N qual scope f (.ref c) cl A outer s' H').ex:=λ b z=>absurd (show b∈([]:List Á) from z) (by simp);refine⟨⟨e0.mod,S.kind,rfl,rfl,Î _,λ y z a h1 h2=>?_,λ y hy=>?_,λ y a h _=>absurd (show (false:Bool)=true from h) Û,λ _=>hr.hd,Around.frames_deeper e0.frames,.inr ⟨rfl,rfl⟩,λ b z=>absurd z (Dg b),e0.bs,e0.bsz,λ b _ _=>Dg b,λ b z=>absurd z (Dg b),e0.funs,e0.frf⟩,
   rfl,e0.bare,Un.kept dj,⟨_,zd,λ i y v h1 h2 h3=>?_⟩,λ y a h=>?_,e0.hok.fresh (Î _),λ y a h=>?_,λ p hp=>absurd (show p∈([]:List (Á×Obj)) from hp) (by simp),e0.hok.kept dj,?_⟩
  ·exact name_of_addr S.apart (ÿ h1) (ÿ h2)
  ·have hy:scope.names.lookup y=some .cell\/scope.names.lookup y=some .free:=hy;rcases hy with hy | hy
   ·exact absurd rfl (S.nocell _ (ÿ hy))
   ·exact S.frees y hy
  ·by_cases hi:i < vs.length
   ·rw[ě (by simpa using hi),Ð] at h2;obtain⟨a,ha,e⟩:=ó.mp h2;cases e;obtain⟨u,hu,rv⟩:=r.get ha;have hp:ps[i]? = some y:=by
     rw[<- S.pre,Ž (by lia)];exact h1
    exact⟨u,rv,.inl ⟨S.par y (Ú hp),sK Lu hp hu⟩⟩
   ·rw[ŝ (by simpa using hi),Ê,Ð] at h2;obtain⟨a,ha,e⟩:=ó.mp h2;cases e;obtain⟨hk,a,u,h4,h5,rv⟩:=Yv (i - vs.length) y v (by rw[show ps.length+(i - vs.length)=i by lia];exact h1) ha;obtain⟨o,e1,e2⟩:=cellK h4 h5;exact⟨u,rv,.inr ⟨.inr hk,a,h4,o,dj _ _ e1,e2⟩⟩
  ·obtain⟨v,hv⟩:=Ea y a h;obtain⟨o,e1,e2⟩:=cellK h hv;exact⟨v,o,dj _ _ e1,e2⟩
  ·exact ck.free a (Õ.2 ⟨(y,a),ÿ h,rfl⟩)
  ·show _=N.length;rw[à,Ê,Ê];lia
 refine PySem.W.kla_codeExpr (á (Yy [] _ _ H' _ I hq) (λ u wo ⟨v,uq,J,rv,q⟩=>⟨v,uq,J.os,J.bare,J.base,J.hok,rv,q⟩) λ e wo z=>z.elim)
end
end L2
namespace L2
open PySem PySem.Spec PyProof.Rows TwZ
open PySem.W (envX kla_obj kla_fn CodeHd tabObj)
structure NestB (mg:Str->Option À) (base:Heap) (c Pt:Á):Prop where
 hd:CodeHd base c Pt
 bm:∃ bm ob,mg "__builtins__" = some (.ref bm)/\bm≠builtinsNs/\bm≠mainGlobals/\base.get? bm=some ob/\ob.cls=.type "module" /\ ob.dict=some builtinsNs/\ob.data=.plain
def fE (H:Hp) (Pt:Á) (pos:Pos) (q:Str):Prop:=H Pt=some (.tbl #[])\/∃ (c:Á) (oc:Obj) (vs:Array À) (t:Tok),H Pt=some (.tbl #[rawInt pos.line,rawInt pos.col,.ref c])/\H c=some (.frz oc (.own c))/\oc.data=.fields vs/\vs[1]? = some (.str q t)
def Q1 (Pt:Á) (H H':Hp):Prop:=∀ b o,b≠Pt->H b=some o->H' b=some o
theorem fE.same {H H':Hp}{Pt:Á}{pos:Pos}{q:Str} (h:fE H Pt pos q) (s:aE H H'):fE H' Pt pos q:=by
 rcases h with h | ⟨c,oc,vs,t,h1,h2,h3⟩
 ·exact .inl (s _ _ h)
 ·exact .inr ⟨c,oc,vs,t,s _ _ h1,s _ _ h2,h3⟩
theorem fE.some {H:Hp}{Pt:Á}{pos:Pos}{q:Str} (h:fE H Pt pos q):∃ ps,H Pt=some (.tbl ps):=by
 rcases h with h | ⟨c,oc,vs,t,h1,_⟩
 ·exact⟨_,h⟩
 ·exact⟨_,h1⟩
def tLam (Pt:Á) (pos:Pos) (q:Str) (mk:Á->À->Obj):TE:=λ σ H Q=>fE H Pt pos q/\∀ (f c:Á) (oc:Obj) (wa:À) (H':Hp),H f=none->Q1 Pt H H'->fE H' Pt pos q->FnH H' f c (mk c wa) oc->(∃ vs t,oc.data=.fields vs/\vs[1]? = some (.str q t))->Q (.ref f) H'
section
variable {X:Cx}
theorem Inv.frzNew {gi:List (Á×Obj)}{σ:St}{H:Hp}{s:Â} (I:Inv X gi σ H s) {h':Heap}{tk:Nat}{ob:Obj} (k:∀ b o,s.heap.get? b=some o->h'.get? b=some o) (hsz:s.heap.objs.size<=h'.objs.size) (Ap:ob.isFreed=false:=by with_unfolding_all rfl) :
  Inv X gi σ (upd H h'.objs.size (.frz ob (.own h'.objs.size))) { s with heap:=h'.push ob,toks:=tk }:=
 I.laid (t':=tk) (a:=h'.objs.size) (λ b o e=>Í _ (k b o e)) hsz (show cG X.prog X.w _ _ _ (.frz ob (.own h'.objs.size)) from ⟨ß _ Ap,ob,ß _ Ap⟩)
theorem N8 {params:Arguments}{body:Expr}{scope:Scope}{pos:Pos}{c Pt:Á}{clos:List (Str×Á)} (Pz:defaultsOf params X.env=([],[])) (mj:closureFor scope X.env=pure clos) (wb:X.env.code=.ref c) (NB:NestB X.mg X.base c Pt) :
  PE X (.Lambda params body scope pos) (tLam Pt pos (X.env.qual ++ "<lambda>") λ c' wa=>kla_obj "<lambda>" (X.env.qual ++ "<lambda>") params body scope clos ((X.mg "__name__").getD .none) c' wa):=by
 intro gi s σ H Q I h;obtain⟨tab,h⟩:=h;refine PySem.W.kla_eval Pz ?_;have tf:∃ ps,H Pt=some (.tbl ps):=tab.some;have Vj:∀ b o,X.base.get? b=some o->b≠Pt:=λ b o e z=>by
  obtain⟨ps,hp⟩:=tf;have:=(I.bs b o e).2;rw[z,hp] at this;cases this
 have Vk:=I.mod.glob.keeps I.bk;have Yz:mainGlobals≠Pt:=by
  obtain⟨o,es,ep,e,_⟩:=I.mod.glob;exact Vj _ _ e
 obtain⟨bm,ob,b1,b2,b3,b4,b5,b6,b7⟩:=NB.bm;have hb:s.heap.BuiltinsAt X.mg Pt:=⟨bm,ob,b1,b2,b3,Vj _ _ b4,I.bk _ _ b4,b5,b6,b7⟩;rcases tab with e | ⟨c',oc,vs,t,e,ec,d1,d2⟩
 ·have hP:s.heap.get? Pt=some (tabObj #[]):=(show cG X.prog X.w H s.heap Pt (.tbl #[]) from I.hok Pt _ e);refine PySem.W.kla_makeFunction (mg:=X.mg) mj I.ok.glob Vk wb (NB.hd.keeps I.bk) hP trivial rfl Yz hb λ c' wa h' tk hx mr jk Qa YA=>?_;obtain⟨c2,oc,vs,t,e2,rg,d1,d2⟩:=Qa;cases e2;have Mk:H c'=none:=I.hok.fresh mr;have Vl:Pt≠c':=λ z=>by rw[<- z,e] at Mk;cases Mk
  have Eb:h'.get? Pt=some (tabObj #[rawInt pos.line,rawInt pos.col,.ref c']):=by simpa using YA
  have J:Inv X gi σ (upd (upd H Pt (.tbl #[rawInt pos.line,rawInt pos.col,.ref c'])) c' (.frz oc (.own c'))) { s with heap:=h',toks:=tk }:=by
   have Id:∀ {b:Á}{o:HO},H b=some o->b≠Pt->upd (upd H Pt (.tbl #[rawInt pos.line,rawInt pos.col,.ref c'])) c' (.frz oc (.own c')) b=some o:=λ {b o} q hb=>by
    rw[aJ (aH q Mk),aJ hb];exact q
   refine I.call (h':=h') (g':=s.gens) (d':=s.drawn) (t':=tk) (ch:=[]) ?_ ?_ I.bare (λ b z=>absurd z (by simp))
   ·refine⟨λ b o q n _ _=>hx b o (λ z=>by rw[z,e] at n;cases n) q,λ b o q n _ _=>⟨o.slots,hx b o (λ z=>by rw[z,e] at n;cases n) q⟩,λ b o q n _=>?_,λ b o q _=>?_,λ b xs q=>Id q (λ z=>by rw[z,e] at q;cases q),λ b o u q=>Id q (λ z=>by rw[z,e] at q;cases q),λ b ps q=>?_⟩
    ·rw[aJ (Þ (í (Ñ q) mr)),aJ (λ z=>by rw[z,e] at n;cases n)];exact n
    ·by_cases jq:b=Pt
     ·subst jq;exact⟨_,Eb⟩
     ·exact⟨o,hx b o jq q⟩
    ·by_cases jq:b=Pt
     ·subst jq;rw[e] at q;cases q;exact⟨#[rawInt pos.line,rawInt pos.col,.ref c'],by rw[aJ Vl,aB];simp⟩
     ·exact⟨#[],by rw[Id q jq];simp⟩
   ·intro b u q
    by_cases Vm:b=c'
    ·subst Vm;rw[aB] at q;cases q;exact⟨rg,oc,rg⟩
    ·rw[aJ Vm] at q
     by_cases jq:b=Pt
     ·subst jq;rw[aB] at q;cases q;exact Eb
     ·rw[aJ jq] at q;refine (I.hok b u q).stay (λ d o hd r=>hx d o (λ z=>?_) r) (λ d r=>Id r (λ z=>by rw[z,e] at r;cases r)) λ d xs r=>Id r (λ z=>by rw[z,e] at r;cases r);rcases hd with rfl | hd
      ·exact jq z
      ·rw[z,e] at hd;cases hd
  have J2:=Inv.frzNew (tk:=tk) (ob:=kla_obj "<lambda>" (X.env.qual ++ "<lambda>") params body scope clos ((X.mg "__name__").getD .none) c' wa) J (h':=h') (λ b o q=>q) (Î _);have Vn:c'≠h'.objs.size:=Þ jk;have YB:Pt≠h'.objs.size:=Þ (Ñ Eb);have uw:H h'.objs.size=none:=I.hok.fresh (Ĉ mr (Ķ jk));refine⟨.ref h'.objs.size,_,J2,rfl,h h'.objs.size c' oc wa _ uw (λ b o jq q=>?_) (.inr ⟨c',oc,vs,t,?_,?_,d1,d2⟩) ⟨aB,?_⟩ ⟨vs,t,d1,d2⟩⟩
  ·rw[aJ (aH q uw),aJ (aH q Mk),aJ jq];exact q
  ·rw[aJ YB,aJ Vl,aB]
  ·rw[aJ Vn,aB]
  ·rw[aJ Vn,aB]
 ·have hP:s.heap.get? Pt=some (tabObj #[rawInt pos.line,rawInt pos.col,.ref c']):=(show cG X.prog X.w H s.heap Pt (.tbl #[rawInt pos.line,rawInt pos.col,.ref c']) from I.hok Pt _ e);refine PySem.W.kla_makeFunctionHit (mg:=X.mg) mj I.ok.glob Vk wb (NB.hd.keeps I.bk) hP (show TriplesOk [rawInt pos.line,rawInt pos.col,.ref c'] from trivial) (show codeAmong pos [rawInt pos.line,rawInt pos.col,.ref c']=some (.ref c') by simp [codeAmong,rawInt]) hb λ wa h' tk hk hsz=>?_;have J2:=Inv.frzNew (tk:=tk) (ob:=kla_obj "<lambda>" (X.env.qual ++ "<lambda>") params body scope clos ((X.mg "__name__").getD .none) c' wa) I (h':=h') hk hsz;have uw:H h'.objs.size=none:=I.hok.fresh hsz;have s1:=È (o:=HO.frz (kla_obj "<lambda>" (X.env.qual ++ "<lambda>") params body scope clos ((X.mg "__name__").getD .none) c' wa) (.own h'.objs.size)) uw;exact⟨.ref h'.objs.size,_,J2,rfl,h h'.objs.size c' oc wa _ uw (λ b o _ q=>s1 _ _ q) (.inr ⟨c',oc,vs,t,s1 _ _ e,s1 _ _ ec,d1,d2⟩) ⟨aB,s1 _ _ ec⟩ ⟨vs,t,d1,d2⟩⟩
end
end L2
namespace L2
open PySem PySem.Spec PyProof.Rows TwZ
open PySem.W (envX kla_obj kla_fn CodeHd tabObj)
structure CellF (X:Cx) (σ:St) (H:Hp) (s:Â):Prop where
 val:∀ (i:Nat) (x:Str) (v:V),X.N[i]? = some x->σ[i]? = some (some v)->X.env.scope.names.lookup x=some .cell->∃ c u,X.env.cells.lookup x=some c/\s.heap.IsCell c (some u)/\bE v u
 cell:∀ x c,X.env.cells.lookup x=some c->∃ v,s.heap.IsCell c v
 out:∀ x c,X.env.cells.lookup x=some c->H c=none/\c∉jV X.stack/\c < s.heap.objs.size
 inj:∀ x y c,X.env.cells.lookup x=some c->X.env.cells.lookup y=some c->x=y
section
variable {X:Cx}{CX:AU}{k:Nat}{f:Á}{fd:FuncData}{ps:List Str}{sp:O5}{E:XK}{x:Str}{p pos:Pos}{e:Expr}{es:List Expr}{t:TA}
theorem Inv.cellF {gi:List (Á×Obj)}{σ:St}{H:Hp}{s:Â} (I:Inv X gi σ H s) (pc:X.stack=X.env::X.outer) (Ap:X.env.frame=some X.env.locals) (uw:∀ x,X.fn x=true):CellF X σ H s:=by
 refine⟨λ i x v h1 h2 h3=>?_,I.cell,λ x c hc=>⟨I.freeC x c hc,λ z=>?_,?_⟩,I.ok.inj⟩
 ·obtain⟨m,hn,hl⟩:=I.loc;obtain⟨u,r,l⟩:=hl i x v h1 h2 (.inr (.inl h3));rcases l with ⟨hk,_⟩ | ⟨_,c,hc,jo⟩
  ·have hk:X.env.scope.names.lookup x=some .local:=hk;rw[h3] at hk;cases hk
  ·exact⟨c,u,hc,jo,r⟩
 ·obtain⟨v,o,e1,e2⟩:=I.cell x c hc;rw[pc] at z;unfold jV at z;rw[ag6 Ap] at z;rcases Ý.1 z with z | z
  ·obtain⟨m,⟨oL,es,ep,eL,dL,_⟩,_⟩:=I.loc;rw[<- z,e1] at eL;cases eL;rw[e2] at dL;cases dL
  ·have h1:=I.ok.cab x c (uw x) hc;obtain⟨_,⟨ob,hb,_⟩⟩:=I.ok.funs.mem (show c∈jV X.outer from z);exact absurd (í (Ñ hb) h1) (ā _)
 ·obtain⟨v,o,e1,e2⟩:=I.cell x c hc;exact Ñ e1
def MP (X:Cx) (sp:O5) (E:XK) (t:TA):TE:=λ σ H Q=>t σ H λ vs H1=>∀ s1:Â,CellF X σ H1 s1->sp s1 X.stack vs H1 Q E
theorem GI (F:FnOkS X.prog X.w X.K X.mg X.base CX k f fd ps sp) (hr:Room k X.A) (hg:Gl X x) (hm:X.mg x=some (.ref f)) (hk:PySem.W.keepIn X.K (.ref f)=true) (hb:oV X.K fd ps []) (hx:nL CX X E)
  (pc:X.stack=X.env::X.outer) (Ap:X.env.frame=some X.env.locals) (uw:∀ x,X.fn x=true)
  (ha:PA X (e::es) t) (Ay:(x == ("__debug__" : Str))=false:=by decide) (he:starEach (e::es) X.env=(false,eval e X.env)::starEach es X.env:=by with_unfolding_all rfl) (kc:(backTo pos (starEach es X.env)).any (·.1)=false:=by with_unfolding_all rfl) :
  PE X (.Call (.Name x p) (e::es) [] pos) (MP X sp E t):=by
 intro gi s σ H Q I h;refine Ū (oH I hg hm ?_ Ay);refine PySem.W.callWith_K (h₀:=X.base) I.ok.mod.kin hk (cY (ha pos gi s σ H _ I h) λ us s1 ⟨vs,H1,I1,r,q⟩=>⟨I1.kIn,?_⟩) he kc;have q1:=q s1 (I1.cellF pc Ap uw);have hl:us.length=ps.length:=by rw[<- r.length];exact F.len _ _ _ _ _ _ q1
 have ze:=hb s1 us I1.kIn (by rw[Ģ];exact hl);rw[Ģ] at ze;refine Ŷ (ŵ (F.run X.A X.stack s1 H1 ⟨us,[]⟩ us vs Q E hr I1.env0 ze r q1) λ r s' hq=>?_);cases r with
 | error e=>exact hx gi σ H1 s1 e s' I1 hq
 | ok fl=>
  cases fl with
  | ret u=>exact I1.after hq
  | next=>exact False.elim hq
  | brk=>exact False.elim hq
  | cont=>exact False.elim hq
end
structure CalleeS (P:Ã) (w:World) (K:Ç) (mg:Str->Option À) (base:Heap) (x:Str) (ps:List Str) (k:Nat) (sp:O5) (f:Á) (fd:FuncData):Prop where
 ok:FnOkS P w K mg base (u9 P w) k f fd ps sp
 mg:mg x=some (.ref f)
 kp:PySem.W.keepIn K (.ref f)=true
 bd:oV K fd ps []
theorem Fun.okS {x qual:Str}{st:Stmt}{f:Á}{fd:FuncData}{N ps:List Str}{k:Nat}{sp:O5} (F:Fun K x qual st f fd) (S:FnScope N ps (aL st)) (len:∀ s o vs H Q E,sp s o vs H Q E->vs.length=ps.length)
  (jt:∀ (ja:À) (A:Around) (outer:List Env) (s:Â) (H:Hp) (vs:List V) (Q:VK) (E:XK),Room k (A.deeper (envOfC qual (aL st) s.heap.objs.size f ja))->Env0 P w K mg base A outer s H->sp s outer vs H Q E->
   Leaves (lI (u9 P w) P w K mg base N qual (aL st) f ja A outer s H E) E->
   ∃ t,xK (lI (u9 P w) P w K mg base N qual (aL st) f ja A outer s H E) (fZ st) t/\t { nx:=λ _ H'=>Q .non H',rt:=Q } (iP N vs) H):FnOkS P w K mg base (u9 P w) (k+1) f fd ps sp:=by
 obtain⟨oc,od,kV,doc,pm,an,ja,ct,wq,rfl,lk,nj⟩:=F.ex;exact NU lk nj S len λ A outer s H vs Q E hr e0 ke=>jt ja A outer s H vs Q E hr e0 ke ⟨rfl,rfl,rfl,λ _ _ h=>h⟩
end L2
namespace L2
open PySem PySem.Spec PyProof.Rows TwZ
open PySem.W (CodeHd tabObj OpenLaw)
def CI (ip:List (Á×Á)) (H:Hp):Prop:=∀ b,H b=none\/(∃ o xs,H b=some (.frz o (.lst xs)))\/∃ q∈ip,b=q.2
theorem DR {P:Ã}{w:World}{K:Ç}{mg mb:Str->Option À}{CX:AU}{k:Nat}{fa a:Á}{fd:FuncData}{x:Str}{sp:Sp}{ai:Â}{vs:List À}{ns:List Int}{ip:List (Á×Á)}
  (KX:K.In ai.heap) (zd:ai.heap.Ns mainGlobals mg) (hb:ai.heap.Ns builtinsNs mb) (YC:∀ x:Str,x ≠ "__name__" -> mb x=bootBuiltins x) (Qb:ai.heap.NoLimit) (hg:ai.gens = #[])
  (YD:∃ bm ob,mg "__builtins__" = some (.ref bm)/\bm≠builtinsNs/\ai.heap.get? bm=some ob/\ob.cls=.type "module" /\ ob.dict=some builtinsNs/\ob.data=.plain)
  (hT:∀ q∈ip,ai.heap.get? q.2=some (tabObj #[])) (hC:∀ q∈ip,CodeHd ai.heap q.1 q.2) (YE:∀ q∈ip,K.lookup q.2=none)
  (ha:ai.heap.get? a=some { cls:=.type "list",data:=.seq vs.toArray }) (hi:IntsAre vs ns) (hl:ns.length<=sizeLine) (hr:Room k callerA)
  (F:∀ base:Heap,K.In base->base.Ns mainGlobals mg->(∀ q∈ip,NestB mg base q.1 q.2)->FnOk P w K mg base CX k fa fd [x] sp) (zk:∀ (s:Â) (u:À),BindsTo s fd ⟨[u],[]⟩ [(x,u)])
  (ke:∀ H:Hp,CI ip H->bD K H a (ns.map V.int)->(∀ q∈ip,H q.2=some (.tbl #[]))->sp [.ref a] H (λ v _=>v=.bl true) λ _ _ _=>False)
  (YF:∀ H e s',CX [] H ai (λ _ _ _=>False) e s'->False) :
  codeAny (model P w) callerA (.call (.ref fa) ⟨[.ref a],[]⟩) (λ r s'=>r=.ok (.ret (.bool true))/\OldK ai.heap s'.heap/\s'.os=ai.os/\AllBare s'.gens) ai:=by
 have rv:=uD hi;have Qc:=hi.length;have aT:∀ q∈ip,q.2≠a:=λ q hq z=>by
  have:=hT q hq;rw[z,ha] at this;cases this
 have core:∀ H:Hp,CI ip H->bD K H a (ns.map V.int)->mV P w H ai.heap->(∀ b,H b≠none->b=a\/∃ q∈ip,b=q.2)->(H a≠none->K.lookup a=none)->(∀ q∈ip,H q.2=some (.tbl #[]))->
   codeAny (model P w) callerA (.call (.ref fa) ⟨[.ref a],[]⟩) (λ r s'=>r=.ok (.ret (.bool true))/\OldK ai.heap s'.heap/\s'.os=ai.os/\AllBare s'.gens) ai:=by
  intro H hO hS hok hA hK Vo;have ng:∀ {b:Á}{o:Obj},ai.heap.get? b=some o->H b=none->(tW ai.heap H).get? b=some o:=λ e n=>HN e n;have Qd:∀ {b:Á}{o:Obj},ai.heap.get? b=some o->o≠{ cls:=.type "list",data:=.seq vs.toArray }->o≠tabObj #[]->H b=none:=λ {b o} e d1 d2=>by
   cases q:H b with
   | none=>rfl
   | some u=>
    rcases hA b (by rw[q];simp) with e' | ⟨q',xa,e'⟩
    ·subst e';rw[ha] at e;exact absurd (â e).symm d1
    ·subst e';rw[hT q' xa] at e;exact absurd (â e).symm d2
  have Ml:∀ {b:Á}{m:Str->Option À},ai.heap.Ns b m->(tW ai.heap H).Ns b m:=λ {b m} ⟨o,es,ep,e,d,r⟩=>⟨o,es,ep,ng e (Qd e (λ z=>by rw[z] at d;cases d) (λ z=>by rw[z] at d;cases d)),d,r⟩;have Vp:K.In (tW ai.heap H):=λ b o e=>ng (KX b o e) (by
   cases q:H b with
   | none=>rfl
   | some u=>
    rcases hA b (by rw[q];simp) with e' | ⟨q',xa,e'⟩
    ·subst e';rw[hK (by rw[q];simp)] at e;cases e
    ·subst e';rw[YE q' xa] at e;cases e)
  have hM:Mod K mg (tW ai.heap H):=⟨Vp,Ml zd,⟨mb,Ml hb,YC⟩,let ⟨mc,h1,h2⟩:=Qb;⟨mc,Ml h1,h2⟩⟩;have e0:Env0 P w K mg (tW ai.heap H) callerA [] ai H:=⟨rfl,hM,λ b o e=>KH e,ś (DX _ _),trivial,λ b hb=>absurd (show b∈([]:List Á) from hb) (by simp),hok,.of_eq hg⟩;have hN:∀ q∈ip,NestB mg (tW ai.heap H) q.1 q.2:=λ q hq=>by
   obtain⟨o,Qe,file,tf,flags,tg,YG,text,tt,e1,r1,r2,r3,r4,r5,r6,r7,r8,vb⟩:=hC q hq;obtain⟨bm,ob,b1,b2,b3,b4,b5,b6⟩:=YD;refine⟨⟨o,Qe,file,tf,flags,tg,YG,text,tt,ng e1 (Qd e1 (λ z=>absurd (r1.symm.trans (congrArg Obj.cls z)) (by show ¬ (Value.type "code" = Value.type "list");decide)) (λ z=>absurd (r1.symm.trans (congrArg Obj.cls z)) (by decide))),r1,r2,r3,r4,r5,r6,r7,r8,vb⟩,bm,ob,b1,b2,λ z=>?_,ng b3 (Qd b3 (λ z=>absurd (b4.symm.trans (congrArg Obj.cls z)) (by show ¬ (Value.type "module" = Value.type "list");decide)) (λ z=>absurd (b4.symm.trans (congrArg Obj.cls z)) (by decide))),b4,b5,b6⟩;obtain⟨og,es,ep,eg,dg,_⟩:=zd;rw[z,eg] at b3;cases b3;rw[dg] at b6;cases b6
  refine ŵ ((F _ Vp (Ml zd) hN).run callerA [] ai H ⟨[.ref a],[]⟩ [.ref a] [.ref a] _ _ hr e0 (zk ai (.ref a)) (.cons rfl .nil) (ke H hO hS Vo)) λ r s' h=>?_;cases r with
  | error e=>exact (YF H e s' h).elim
  | ok fl=>
   cases fl with
   | next=>exact False.elim h
   | brk=>exact False.elim h
   | cont=>exact False.elim h
   | ret u=>
    obtain⟨v,H',os,bare,un,Ie,r',q⟩:=h;have q':v=.bl true:=q;subst q';obtain rfl:u=Value.bool true:=r';have Qf:∀ b:Á,b∉jV ([]:List Env):=λ b z=>absurd (show b∈([]:List Á) from z) (by simp);have fin:∀ b o,ai.heap.get? b=some o->s'.heap.get? b=some o\/∃ q∈ip,b=q.2/\o=tabObj #[]/\∃ ps,s'.heap.get? b=some (tabObj ps):=λ b o e=>by
     cases q:H b with
     | none=>exact .inl (un.keep b o e q (Qf b) (by simp))
     | some u=>
      rcases hO b with z | ⟨ob,xs,z⟩ | ⟨q',xa,e'⟩
      ·rw[q] at z;cases z
      ·have z2:=un.frzs b ob _ z;obtain⟨e1,_⟩:=hok b _ z;obtain⟨e2,_⟩:=Ie b _ z2;rw[e] at e1;cases e1;exact .inl e2
      ·subst e';obtain⟨jp,z2⟩:=un.tbls _ _ (Vo q' xa);have e2:s'.heap.get? q'.2=some (tabObj (#[]++jp)):=Ie _ _ z2;rw[hT q' xa] at e;exact .inr ⟨q',xa,rfl,(â e).symm,_,e2⟩
    refine⟨rfl,⟨λ b o e=>?_,λ b o e=>?_⟩,os,bare⟩
    ·rcases fin b o e with z | ⟨q',xa,rfl,rfl,ps,z⟩
     ·exact .inl z
     ·exact .inr (.inl ⟨((hC q' xa).tab (hT q' xa)).isCodeTable,rfl,#[],ps,rfl,by rw[Array.empty_append];exact z⟩)
    ·rcases fin b o e with z | ⟨q',xa,rfl,rfl,ps,z⟩
     ·exact⟨o,z⟩
     ·exact⟨_,z⟩
 have tb:∀ (G:Hp),(∀ b u,G b=some u->cG P w G ai.heap b u)->(∀ b,G b≠none->b=a)->(G a≠none->∃ o xs,G a=some (.frz o (.lst xs)))->
   mV P w (λ b=>if b∈ip.map (·.2) then some (.tbl #[]) else G b) ai.heap:=λ G hG hA hL b u z=>by
  by_cases jq:b∈ip.map (·.2)
  ·have z':some (HO.tbl #[])=some u:=by rw[<- z];exact (Å jq).symm
   cases z';obtain⟨q,hq,rfl⟩:=Õ.1 jq;exact hT q hq
  ·have z':G b=some u:=by rw[<- z];exact (Ä jq).symm
   have e':=hA b (by rw[z'];simp);subst e';obtain⟨o,xs,e2⟩:=hL (by rw[z'];simp);rw[z'] at e2;cases e2;exact hG b _ z'
 have Vq:∀ q∈ip,q.2∈ip.map (·.2):=λ q hq=>Õ.2 ⟨q,hq,rfl⟩;have aN:a∉ip.map (·.2):=λ z=>by
  obtain⟨q,hq,e⟩:=Õ.1 z;exact aT q hq e
 cases hk:K.lookup a with
 | some o=>
  have e:=KX a o hk;rw[ha] at e;cases e;refine core (λ b=>if b∈ip.map (·.2) then some (.tbl #[]) else none) (λ b=>?_) (.inr ⟨_,vs.toArray,_,hk,rfl,rfl,rfl,by rw[ê,Qc];exact hl,by simpa using rv⟩) (tb (λ _=>none) (λ b u z=>by have z':(none:Option HO)=some u:=z;cases z') (λ b z=>absurd rfl z) λ z=>absurd rfl z) (λ b z=>?_) (λ z=>absurd (Ä aN) z) λ q hq=>Å (Vq q hq)
  ·by_cases jq:b∈ip.map (·.2)
   ·obtain⟨q,hq,e⟩:=Õ.1 jq;exact .inr (.inr ⟨q,hq,e.symm⟩)
   ·exact .inl (Ä jq)
  ·by_cases jq:b∈ip.map (·.2)
   ·obtain⟨q,hq,e⟩:=Õ.1 jq;exact .inr ⟨q,hq,e.symm⟩
   ·exact absurd (Ä jq) z
 | none=>
  refine core (λ b=>if b∈ip.map (·.2) then some (.tbl #[]) else if b=a then some (.frz { cls:=.type "list",data:=.seq vs.toArray } (.lst (ns.map V.int))) else none) (λ b=>?_) (.inl (.inr ⟨{ cls:=.type "list",data:=.seq vs.toArray },(Ä aN).trans (Å rfl)⟩))
   (tb (λ b=>if b=a then some (.frz { cls:=.type "list",data:=.seq vs.toArray } (.lst (ns.map V.int))) else none) (λ b u z=>?_) (λ b z=>?_) λ _=>⟨_,_,Å rfl⟩) (λ b z=>?_) (λ _=>hk) λ q hq=>Å (Vq q hq)
  ·by_cases jq:b∈ip.map (·.2)
   ·obtain⟨q,hq,e⟩:=Õ.1 jq;exact .inr (.inr ⟨q,hq,e.symm⟩)
   ·by_cases oj:b=a
    ·exact .inr (.inl ⟨_,_,(Ä jq).trans (Å oj)⟩)
    ·exact .inl ((Ä jq).trans (Ä oj))
  ·by_cases oj:b=a
   ·have z':=(Å oj).symm.trans z;cases z';subst oj;exact⟨ha,by rw[Ê];exact hl,vs,_,rv,ha⟩
   ·have z':=(Ä oj).symm.trans z;cases z'
  ·by_cases oj:b=a
   ·exact oj
   ·exact absurd (Ä oj) z
  ·by_cases jq:b∈ip.map (·.2)
   ·obtain⟨q,hq,e⟩:=Õ.1 jq;exact .inr ⟨q,hq,e.symm⟩
   ·by_cases oj:b=a
    ·exact .inl oj
    ·exact absurd ((Ä jq).trans (Ä oj)) z
theorem walk_ofT {l:OpenLaw}{n k:Nat}{q:Ã}{loose:List Str}{XP:(Str->Option À)->Heap->Prop}{YP:World->Heap->Prop}{d:DefRec}{K:Params->Ç}{sp:Ç->List (Á×Á)->Sp}{x:Str}{ts:List Á}
  (hn:l.most=some n) (Fw:n<=sizeLine) (Cf:d.params.defaults=[]) (hr:Room k callerA)
  (hY:∀ (w:World) (h:Heap),YP w h->(K w.params).In h) (Qg:∀ (w:World) (h:Heap),YP w h->∀ P∈ts,h.get? P=some (tabObj #[]))
  (F:∀ (w:World) (mg:Str->Option À) (fa:Á) (h:Heap),(K w.params).In h->h.Ns mainGlobals mg->mg d.name=some (.ref fa)->
   ∃ (fd:FuncData) (ip:List (Á×Á)),(∀ q∈ip,q.2∈ts/\(K w.params).lookup q.2=none/\PySem.W.codeHdIn (K w.params) q.1 q.2=true)/\(∀ (s:Â) (u:À),BindsTo s fd ⟨[u],[]⟩ [(x,u)])/\
    ∀ base:Heap,(K w.params).In base->base.Ns mainGlobals mg->(∀ q∈ip,NestB mg base q.1 q.2)->FnOk l.prog w (K w.params) mg base kA k fa fd [x] (sp (K w.params) ip))
  (ke:∀ (K:Ç) (ip:List (Á×Á)) (H:Hp) (a:Á) (ns:List Int),ns.length<=n->CI ip H->bD K H a (ns.map V.int)->(∀ q∈ip,H q.2=some (.tbl #[]))->sp K ip [.ref a] H (λ v _=>v=.bl true) λ _ _ _=>False) :
  PySem.W.WalkO q loose XP YP l.row.toRowW d [] (λ f vs=>PySem.call f vs):=by
 refine Att.attach_call hn Cf λ w s₀ ai mg mb fa o pm cd doc a vs ns G Y ho hd nj Gv Dl hints gy hg=>?_;have KX:=hY w _ Y;obtain⟨fd,ip,ht,hb,hF⟩:=F w mg fa _ KX G.T.g Gv;exact DR KX G.T.g G.T.b G.T.builtins G.T.nolimit hg G.T.bmain (λ q hq=>Qg w _ Y q.2 (ht q hq).1) (λ q hq=>PySem.W.codeHd_of_K KX (ht q hq).2.2) (λ q hq=>(ht q hq).2.1) Dl hints (Ĉ gy Fw) hr hF hb
  (λ H hO hS hT=>ke _ ip H a ns gy hO hS hT) λ H e s' z=>z
end L2
namespace Tw
open PySem L2
section
variable {α:Type}{dD:α->L2.D}{S:L2.D}
structure BfsAt (P:Ã) (w:World) (K:Ç) (dD:α->L2.D) (S:L2.D) (H:Hp) (fl sd:Á) (us:List V) (gu:List (L2.D×V)) (fs:Fs α):Prop where
 lst:H fl=some (.lst us)
 its:Paired (λ (p:α×List Int) v=>KeyD K H S (dD p.1) v) fs us
 dic:bR P w K H sd S gu
 row:Paired (λ (p:α×List Int) (q:L2.D×V)=>dD p.1=q.1/\∃ a,q.2=.ref a/\a≠fl/\H a=some (.lst (p.2.map V.int))) fs gu
variable {H H':Hp}{fl sd:Á}{us:List V}{gu:List (L2.D×V)}{fs:Fs α}
theorem BfsAt.ne (B:BfsAt P w K dD S H fl sd us gu fs):fl≠sd:=λ z=>by
 have h:=B.lst;rcases B.dic with ⟨e,_⟩ | ⟨xs,e,_⟩
 ·rw[z,e] at h;cases h
 ·rw[z,e] at h;cases h
theorem BfsAt.rne (B:BfsAt P w K dD S H fl sd us gu fs) {a:Á}{xs:List V} (h:H a=some (.lst xs)):a≠sd:=λ z=>by
 rcases B.dic with ⟨e,_⟩ | ⟨xs,e,_⟩
 ·rw[z,e] at h;cases h
 ·rw[z,e] at h;cases h
theorem BfsAt.same (B:BfsAt P w K dD S H fl sd us gu fs) (s:aE H H'):BfsAt P w K dD S H' fl sd us gu fs:=
 ⟨s _ _ B.lst,ì B.its λ _ _ h=>h.mono s.ts,B.dic.same s,ì B.row λ _ _ ⟨h1,a,h2,h3,h4⟩=>⟨h1,a,h2,h3,s _ _ h4⟩⟩
theorem Paired.get' {α bj:Type}{F:α->bj->Prop}:∀ {bv:List α}{bx:List bj},Paired F bv bx->∀ {i:Nat}{a:α},bv[i]? = some a->∃ b,bx[i]? = some b/\F a b:=by
 intro bv bx r
 induction r with
 | nil=>intro i a h;simp at h
 | cons h t ih=>
  intro i a e;cases i with
  | zero=>cases e;exact (aK _ rfl h)
  | succ i=>exact ih e
def Ĩ:=@Paired.get'
theorem Paired.getR {α bj:Type}{F:α->bj->Prop}:∀ {bv:List α}{bx:List bj},Paired F bv bx->∀ {i:Nat}{b:bj},bx[i]? = some b->∃ a,bv[i]? = some a/\F a b:=by
 intro bv bx r
 induction r with
 | nil=>intro i a h;simp at h
 | cons h t ih=>
  intro i a e;cases i with
  | zero=>cases e;exact (aK _ rfl h)
  | succ i=>exact ih e
def ď:=@Paired.getR
theorem Paired.snoc {α bj:Type}{F:α->bj->Prop}{bv:List α}{bx:List bj}{a:α}{b:bj} (r:Paired F bv bx) (h:F a b):Paired F (bv++[a]) (bx++[b]):=by
 induction r with
 | nil=>exact .cons h .nil
 | cons h' t ih=>exact .cons h' ih
def ğ:=@Paired.snoc
theorem BfsAt.val (B:BfsAt P w K dD S H fl sd us gu fs) (k:L2.D):(dS dD fs k=none/\cI gu k=none)\/∃ r a,dS dD fs k=some r/\cI gu k=some (.ref a)/\a≠fl/\H a=some (.lst (r.map V.int)):=by
 have r:=B.row;clear B;unfold dS cI
 induction r with
 | nil=>exact .inl ⟨rfl,rfl⟩
 | @cons p q ps qs h t ih=>
  obtain⟨e,a,e2,n,hl⟩:=h
  by_cases c:dD p.1=k
  ·refine .inr ⟨p.2,a,?_,?_,n,hl⟩
   ·rw[af0 (by simpa using c)];rfl
   ·rw[af0 (by simpa using e ▸ c)];rw[Ų,e2]
  ·rw[af1 (by simpa using c),af1 (by rw[<- e];simpa using c)];exact ih
theorem BfsAt.isSome (B:BfsAt P w K dD S H fl sd us gu fs) (k:L2.D):(cI gu k).isSome=(dS dD fs k).isSome:=by
 rcases B.val k with ⟨h1,h2⟩ | ⟨r,a,h1,h2,_⟩
 ·rw[h1,h2];rfl
 ·rw[h1,h2];rfl
theorem BfsAt.lenU (B:BfsAt P w K dD S H fl sd us gu fs):us.length=fs.length:=(å B.its).symm
theorem BfsAt.lenK (B:BfsAt P w K dD S H fl sd us gu fs):gu.length=fs.length:=(å B.row).symm
theorem BfsAt.put {d:α}{r:List Int}{v:V}{ra:Á} (B:BfsAt P w K dD S H fl sd us gu fs) (hn:(dS dD fs (dD d)).isSome=false) (hk:KeyD K H S (dD d) v) (hr:H ra=some (.lst (r.map V.int))) (vb:ra≠fl) (bt:cK sd H H') (dd:bR P w K H' sd S (eT gu (dD d) (.ref ra))) :
  BfsAt P w K dD S (upd H' fl (.lst (us++[v]))) fl sd (us++[v]) (gu++[(dD d,.ref ra)]) (fs++[(d,r)])/\mH (H' fl):=by
 have mu:=B.dic.mut;have Ma:=bt.ts (K:=K) mu;have e1:H' fl=some (.lst us):=bt _ _ B.ne B.lst;have Ec:mH (H' fl):=by rw[e1];exact trivial
 have b2:cK fl H' (upd H' fl (.lst (us++[v]))):=ç;have zl:=b2.ts (K:=K) Ec;have hv:cI gu (dD d)=none:=by
  have:=B.isSome (dD d);rw[hn] at this;cases q:cI gu (dD d) with
  | none=>rfl
  | some _=>rw[q] at this;cases this
 rw[kU _ hv] at dd;refine⟨⟨aB,ğ (ì B.its λ _ _ h=>(h.mono Ma).mono zl) ((hk.mono Ma).mono zl),dd.mono zl λ o e=>b2 _ _ (Ne.symm B.ne) e,ğ (ì B.row λ p q ⟨h1,a,h2,h3,h4⟩=>⟨h1,a,h2,h3,b2 _ _ h3 (bt _ _ (B.rne h4) h4)⟩) ⟨rfl,(aK ra rfl ⟨vb,b2 _ _ vb (bt _ _ (B.rne hr) hr)⟩)⟩⟩,Ec⟩
end
section
variable {α bj:Type}
open Classical in
def aR:List α->α->Nat
 | [],_=>0
 | x::xs,d=>if x=d then 0 else aR xs d+1
open Classical in
def gY (seen:List α) (d:α):List α:=if d∈seen then seen else seen++[d]
def aQ (ds:List α):List α:=ds.foldl gY []
def dI (ds:List α):List Nat:=ds.map (aR (aQ ds))
theorem dW {s:List α}{d:α} (h:d∈s):gY s d=s:=Å h
theorem dX {s:List α}{d:α} (h:d∉s):gY s d=s++[d]:=Ä h
theorem IS {s:List α}{d x:α}:x∈gY s d↔x∈s\/x=d:=by
 by_cases h:d∈s
 ·rw[dW h];exact⟨.inl,λ z=>z.elim id λ e=>e ▸ h⟩
 ·rw[dX h];simp
theorem fQ (ds:List α) (d:α):aQ (ds++[d])=gY (aQ ds) d:=by unfold aQ;rw[ŭ];rfl
theorem pN {x:α}:∀ (ds s:List α),x∈ds.foldl gY s↔x∈s\/x∈ds
 | [],s=>by simp
 | d::ds,s=>by rw[Ĵ,pN ds,IS,Ý,or_assoc]
theorem bY {ds:List α}{x:α}:x∈aQ ds↔x∈ds:=by unfold aQ;rw[pN];simp
theorem AO {s:List α} (h:s.Nodup) (d:α):(gY s d).Nodup:=by
 by_cases c:d∈s
 ·rw[dW c];exact h
 ·rw[dX c,ļ];refine⟨h,by simp,λ a ha b hb e=>?_⟩;rw[é] at hb;exact c (by rw[<- hb,<- e];exact ha)
theorem qB:∀ (ds s:List α),s.Nodup->(ds.foldl gY s).Nodup
 | [],s,h=>h
 | d::ds,s,h=>qB ds _ (AO h d)
theorem gG (ds:List α):(aQ ds).Nodup:=qB ds [] ahs
theorem zF (s:List α) (d:α):∃ m,gY s d=s++m:=by
 by_cases c:d∈s
 ·exact⟨[],by rw[dW c,Ģ]⟩
 ·exact⟨[d],dX c⟩
theorem pM:∀ (ds s:List α),∃ m,ds.foldl gY s=s++m
 | [],s=>⟨[],by simp⟩
 | d::ds,s=>by
  obtain⟨m1,e1⟩:=zF s d;obtain⟨m2,e2⟩:=pM ds (gY s d);exact⟨m1++m2,by rw[Ĵ,e2,e1,ý]⟩
theorem uQ:∀ (ds s:List α),(∀ d∈ds,d∈s)->ds.foldl gY s=s
 | [],s,_=>rfl
 | d::ds,s,h=>by
  rw[Ĵ,dW (h d ą)];exact uQ ds s λ x hx=>h x (ô _ hx)
theorem gT {d:α}:∀ {xs:List α},d∈xs->aR xs d < xs.length
 | x::xs,h=>by
  by_cases e:x=d
  ·rw[aR,Å e];simp
  ·rw[aR,Ä e,ë];have:=gT ((Ý.mp h).resolve_left λ z=>e z.symm);lia
theorem fK {d:α}:∀ {xs:List α},d∈xs->xs[aR xs d]? = some d
 | x::xs,h=>by
  by_cases e:x=d
  ·rw[aR,Å e,e];rfl
  ·rw[aR,Ä e,ahe];exact fK ((Ý.mp h).resolve_left λ z=>e z.symm)
theorem GB {a b:α}{xs:List α} (ha:a∈xs) (hb:b∈xs) (h:aR xs a=aR xs b):a=b:=by
 have e1:=fK ha;rw[h,fK hb] at e1;exact (â e1).symm
theorem lN {d:α}:∀ {xs:List α}{i:Nat},xs.Nodup->xs[i]? = some d->aR xs d=i
 | x::xs,0,_,h=>by
  have e:x=d:=by simpa using h
  rw[aR,Å e]
 | x::xs,i+1,hn,h=>by
  rw[ġ] at hn;rw[ahe] at h;have e:¬ x=d:=λ z=>hn.1 (by rw[z];exact Ú h);rw[aR,Ä e,lN hn.2 h]
theorem y9 {d:α}{ys:List α}:∀ {xs:List α},d∈xs->aR (xs++ys) d=aR xs d
 | x::xs,h=>by
  by_cases e:x=d
  ·rw[Ľ,aR,aR,Å e,Å e]
  ·rw[Ľ,aR,aR,Ä e,Ä e,y9 ((Ý.mp h).resolve_left λ z=>e z.symm)]
theorem gH (ds:List α):(dI ds).length=ds.length:=by unfold dI;rw[Ê]
theorem lA {ds:List α}{i:Nat}{d:α} (h:ds[i]? = some d):(dI ds)[i]? = some (aR (aQ ds) d):=by
 unfold dI;rw[Ð,h];rfl
theorem rM {f:α->bj} (zs:List α) (hf:∀ a∈zs,∀ b∈zs,f a=f b->a=b):∀ (n:Nat),aQ ((zs.take n).map f)=(aQ (zs.take n)).map f
 | 0=>rfl
 | n+1=>by
  have ih:=rM zs hf n;rw[Ŕ];cases hz:zs[n]? with
  | none=>simpa using ih
  | some z=>
   show aQ ((zs.take n++[z]).map f)=(aQ (zs.take n++[z])).map f;rw[Ó,fQ];show aQ ((zs.take n).map f++[f z])=_;rw[fQ,ih];have Ig:=Ú hz
   by_cases c:z∈aQ (zs.take n)
   ·rw[dW c,dW (ę c)]
   ·rw[dX c,dX,Ó];· rfl
    intro q;obtain⟨y,hy,e⟩:=Õ.mp q;have:y=z:=hf y (Ĺ (bY.mp hy)) z Ig e;exact c (this ▸ hy)
theorem rQ {f:α->bj}{d:α}:∀ {xs:List α},(∀ x∈xs,f x=f d->x=d)->aR (xs.map f) (f d)=aR xs d
 | [],_=>rfl
 | x::xs,h=>by
  rw[ã,aR,aR]
  by_cases e:x=d
  ·rw[Å e,Å (by rw[e])]
  ·rw[Ä e,Ä (λ z=>e (h x ą z)),rQ λ y hy=>h y (ô _ hy)]
theorem oC {f:α->bj}{zs:List α} (hf:∀ a∈zs,∀ b∈zs,f a=f b->a=b):dI (zs.map f)=dI zs:=by
 have e:=rM zs hf zs.length;rw[Ù] at e;unfold dI;rw[e,ú];refine ago λ d hd=>?_;exact rQ λ x hx h=>hf x (bY.mp hx) d hd h
theorem pH {xs:List α}{ys:List bj} (hl:xs.length=ys.length) (h:∀ (i j:Nat) a b c d,xs[i]? = some a->xs[j]? = some b->ys[i]? = some c->ys[j]? = some d->(a=b↔c=d)):dI xs=dI ys:=by
 have key:∀ p∈xs.zip ys,∃ i:Nat,xs[i]? = some p.1/\ys[i]? = some p.2:=λ p hp=>by
  obtain⟨i,hi⟩:=ĩ.1 hp;rw[ķ] at hi;exact⟨i,hi⟩
 have e1:(xs.zip ys).map Prod.fst=xs:=List.map_fst_zip (by lia);have e2:(xs.zip ys).map Prod.snd=ys:=List.map_snd_zip (by lia);rw[<- e1,oC,<- oC (f:=Prod.snd),e2]
 ·intro a ha b hb e;obtain⟨i,i1,i2⟩:=key a ha;obtain⟨j,j1,j2⟩:=key b hb;exact Prod.ext ((h i j _ _ _ _ i1 j1 i2 j2).mpr e) e
 ·intro a ha b hb e;obtain⟨i,i1,i2⟩:=key a ha;obtain⟨j,j1,j2⟩:=key b hb;exact Prod.ext e ((h i j _ _ _ _ i1 j1 i2 j2).mp e)
theorem gI {ds:List α}{i j:Nat}{a b:α} (hi:ds[i]? = some a) (hj:ds[j]? = some b):(dI ds)[i]? = (dI ds)[j]?↔a=b:=by
 rw[lA hi,lA hj];refine⟨λ h=>GB (bY.mpr (Ú hi)) (bY.mpr (Ú hj)) (â h),λ h=>by rw[h]⟩
theorem uK (ds:List α):dI (dI ds)=dI ds:=by
 refine pH (gH ds) λ i j a b c d ha hb hc hd=>?_;have q:=gI hc hd;rw[ha,hb] at q;exact⟨λ z=>q.mp (by rw[z]),λ z=>â (q.mpr z)⟩
theorem gR (ds:List α):(aQ ds).length<=ds.length:=by
 have:∀ (n:Nat),(aQ (ds.take n)).length<=(ds.take n).length:=by
  intro n
  induction n with
  | zero=>exact Î _
  | succ n ih=>
   rw[Ŕ];cases hz:ds[n]? with
   | none=>simpa using ih
   | some z=>
    show (aQ (ds.take n++[z])).length<=(ds.take n++[z]).length;rw[fQ,à,ē]
    by_cases c:z∈aQ (ds.take n)
    ·rw[dW c];lia
    ·rw[dX c,à,ē];lia
 have h:=this ds.length
 rwa [Ù] at h
theorem lT {α:Type}:∀ {xs ys:List α},xs.Nodup->(∀ x∈xs,x∈ys)->xs.length<=ys.length
 | [],_,_,_=>æ _
 | x::xs,ys,hn,h=>by
  rw[ġ] at hn;obtain⟨a,b,rfl⟩:=List.append_of_mem (h x ą);have:=lT (xs:=xs) (ys:=a++b) hn.2 λ y hy=>by
   have h2:=h y (ô _ hy);rw[ñ,Ý] at h2;rw[ñ];rcases h2 with h2 | h2 | h2
   ·exact .inl h2
   ·exact absurd (h2 ▸ hy) hn.1
   ·exact .inr h2
  rw[à] at this;rw[à,ë,ë];lia
theorem nA {α:Type}:∀ {ys xs:List α},xs.Nodup->(∀ x∈xs,x∈ys)->ys.length<=xs.length->ys.Nodup
 | [],_,_,_,_=>ahs
 | y::ys,xs,hn,h,hl=>by
  by_cases c:y∈ys
  ·
   have:=lT hn λ x hx=>by
    rcases Ý.mp (h x hx) with e | e
    ·rw[e];exact c
    ·exact e
   rw[ë] at hl;lia
  ·rw[ġ];refine⟨c,?_⟩
   by_cases cy:y∈xs
   ·obtain⟨a,b,rfl⟩:=List.append_of_mem cy;have Og:(a++b).Nodup:=by
     rw[ļ] at hn ⊢;refine⟨hn.1,(ġ.mp hn.2.1).2,λ p hp q hq=>hn.2.2 p hp q (ô _ hq)⟩
    refine nA Og (λ x hx=>?_) (by rw[à,ë,ë] at hl;rw[à];lia);have kz:x∈a++y::b:=by
     rw[ñ] at hx ⊢;exact hx.imp id λ z=>ô _ z
    rcases Ý.mp (h x kz) with e | e
    ·subst e;rw[ļ] at hn;rcases ñ.mp hx with z | z
     ·exact absurd rfl (hn.2.2 x z x ą)
     ·exact absurd z (ġ.mp hn.2.1).1
    ·exact e
   ·refine nA hn (λ x hx=>?_) (by rw[ë] at hl;lia);rcases Ý.mp (h x hx) with e | e
    ·exact absurd (e ▸ hx) cy
    ·exact e
theorem jB {α bj:Type}{f:α->bj}:∀ {xs:List α},(xs.map f).Nodup->∀ {a b:α},a∈xs->b∈xs->f a=f b->a=b
 | [],_,_,_,ha,_,_=>by cases ha
 | x::xs,hn,a,b,ha,hb,e=>by
  rw[ã,ġ] at hn;rcases Ý.mp ha with rfl | su
  ·rcases Ý.mp hb with rfl | jq
   ·rfl
   ·exact absurd (by rw[e];exact ę jq) hn.1
  ·rcases Ý.mp hb with rfl | jq
   ·exact absurd (by rw[<- e];exact ę su) hn.1
   ·exact jB hn.2 su jq e
theorem nE {xs:List α}{ys:List bj} (hl:xs.length=ys.length) (hr:∀ (i j:Nat) a b c d,xs[i]? = some a->xs[j]? = some b->ys[i]? = some c->ys[j]? = some d->c=d->a=b) :
  (aQ xs).length<=(aQ ys).length/\((aQ xs).length=(aQ ys).length->dI xs=dI ys):=by
 have key:∀ p∈xs.zip ys,∃ i:Nat,xs[i]? = some p.1/\ys[i]? = some p.2:=λ p hp=>by
  obtain⟨i,hi⟩:=ĩ.1 hp;rw[ķ] at hi;exact⟨i,hi⟩
 have e1:(xs.zip ys).map Prod.fst=xs:=List.map_fst_zip (by lia);have e2:(xs.zip ys).map Prod.snd=ys:=List.map_snd_zip (by lia);have inj:∀ a∈xs.zip ys,∀ b∈xs.zip ys,a.2=b.2->a=b:=by
  intro a ha b hb e;obtain⟨i,i1,i2⟩:=key a ha;obtain⟨j,j1,j2⟩:=key b hb;exact Prod.ext (hr i j _ _ _ _ i1 j1 i2 j2 e) e
 have s2:aQ ys=(aQ (xs.zip ys)).map Prod.snd:=by
  have:=rM (f:=Prod.snd) (xs.zip ys) inj (xs.zip ys).length;rw[Ù,e2] at this;exact this
 have l2:(aQ ys).length=(aQ (xs.zip ys)).length:=by rw[s2,Ê]
 have sub:∀ x∈aQ xs,x∈(aQ (xs.zip ys)).map Prod.fst:=λ x hx=>by
  have:x∈(xs.zip ys).map Prod.fst:=by rw[e1];exact bY.mp hx
  obtain⟨p,hp,rfl⟩:=Õ.mp this;exact ę (bY.mpr hp)
 have le:(aQ xs).length<=((aQ (xs.zip ys)).map Prod.fst).length:=lT (gG xs) sub;rw[Ê,<- l2] at le;refine⟨le,λ e=>?_⟩;have nd:((aQ (xs.zip ys)).map Prod.fst).Nodup:=nA (gG xs) sub (by rw[Ê,<- l2,e];exact Î _);refine pH hl λ i j a b c d ha hb hc hd=>⟨λ z=>?_,hr i j a b c d ha hb hc hd⟩;have pa:(a,c)∈aQ (xs.zip ys):=bY.mpr (Ú (i:=i) (by rw[ķ];exact⟨ha,hc⟩));have pb:(b,d)∈aQ (xs.zip ys):=bY.mpr (Ú (i:=j) (by rw[ķ];exact⟨hb,hd⟩));have:=jB nd pa pb z;injection this
theorem CB (ds:List α):(aQ (dI ds)).length=(aQ ds).length:=by
 refine Nat.le_antisymm (nE (gH ds) λ i j a b c d ha hb hc hd e=>?_).1 (nE (gH ds).symm λ i j a b c d ha hb hc hd e=>?_).1
 ·have q:=gI hc hd;rw[ha,hb] at q;exact â (q.mpr e)
 ·have q:=gI ha hb;rw[hc,hd] at q;exact q.mp (by rw[e])
end
abbrev iK:=List (List (Nat×Bool))
def zV (m:iK):List Nat:=dI (m.map λ r=>r.map (·.2))
def dG (m:iK) (rs:List Nat):List (Nat×List Nat):=(rs.zip m).map λ p=>(p.1,p.2.map λ q=>rs.getD q.1 0)
def jW (m:iK) (rs:List Nat):List Nat:=dI (dG m rs)
def aM (m:iK):Nat->List Nat
 | 0=>zV m
 | n+1=>jW m (aM m n)
theorem j4 {m:iK}{rs:List Nat} (h:rs.length=m.length):(dG m rs).length=m.length:=by unfold dG;rw[Ê,List.length_zip];lia
theorem cA (m:iK):∀ n,(aM m n).length=m.length
 | 0=>by show (dI _).length=_;rw[gH,Ê]
 | n+1=>by show (dI _).length=_;rw[gH,j4 (cA m n)]
theorem jM (m:iK):∀ n,dI (aM m n)=aM m n
 | 0=>uK _
 | n+1=>uK _
theorem g7 {m:iK}{rs:List Nat}{i:Nat}{r:Nat}{row:List (Nat×Bool)} (h1:rs[i]? = some r) (h2:m[i]? = some row):(dG m rs)[i]? = some (r,row.map λ q=>rs.getD q.1 0):=by
 unfold dG;rw[Ð,(ķ (z:=(r,row))).mpr ⟨h1,h2⟩];rfl
theorem xY {m:iK}{rs:List Nat}{i:Nat}{z:Nat×List Nat} (h:(dG m rs)[i]? = some z):∃ r row,rs[i]? = some r/\m[i]? = some row/\z=(r,row.map λ q=>rs.getD q.1 0):=by
 unfold dG at h;rw[Ð] at h;obtain⟨p,hp,rfl⟩:=ó.mp h;rw[ķ] at hp;exact⟨_,_,hp.1,hp.2,rfl⟩
theorem AG {m:iK}{n:Nat} (h:jW m (aM m n)≠aM m n):(aQ (aM m n)).length < (aQ (jW m (aM m n))).length:=by
 have q:=nE (xs:=aM m n) (ys:=dG m (aM m n)) (by rw[j4 (cA m n),cA]) λ i j a b c d ha hb hc hd e=>by
  obtain⟨r,row,h1,h2,rfl⟩:=xY hc;obtain⟨r',YH,h3,h4,rfl⟩:=xY hd;rw[ha] at h1;rw[hb] at h3;cases h1;cases h3;exact (Prod.mk.inj e).1
 show _ < (aQ (dI _)).length;rw[CB];rcases ō (aQ (aM m n)).length (aQ (dG m (aM m n))).length with z | z
 ·exact z
 ·exact absurd ((q.2 (Nat.le_antisymm q.1 z)).symm.trans (jM m n)) h
theorem D5 (m:iK) (n:Nat):(aQ (aM m n)).length<=m.length:=by
 have:=gR (aM m n);rw[cA] at this;exact this
def gJ:Nat->List L2.D->List (L2.D×V)
 | _,[]=>[]
 | o,d::r=>(d,.int (o:Nat))::gJ (o+1) r
theorem lR:∀ (o:Nat) (ds:List L2.D),(gJ o ds).length=ds.length
 | _,[]=>rfl
 | o,d::r=>by rw[gJ,ë,ë,lR]
theorem n8 (d:L2.D):∀ (o:Nat) (ds:List L2.D),gJ o (ds++[d])=gJ o ds++[(d,.int ((o+ds.length:Nat):Int))]
 | o,[]=>rfl
 | o,x::r=>by
  rw[Ľ,gJ,gJ,n8 d (o+1) r,Ľ,ë,show o+1+r.length=o+(r.length+1) by lia]
theorem lQ {k:L2.D}:∀ (o:Nat) (ds:List L2.D),k∈ds->cI (gJ o ds) k=some (.int ((o+aR ds k:Nat):Int))
 | o,x::r,h=>by
  by_cases e:x=k
  ·rw[gJ,d0 (p:=(x,V.int (o:Nat))) e,aR,Å e];rfl
  ·rw[gJ,cR (p:=(x,V.int (o:Nat))) e,aR,Ä e,lQ (o+1) r ((Ý.mp h).resolve_left λ z=>e z.symm),show o+1+aR r k=o+(aR r k+1) by lia]
theorem n9 {k:L2.D}:∀ (o:Nat) (ds:List L2.D),k∉ds->cI (gJ o ds) k=none
 | _,[],_=>rfl
 | o,x::r,h=>by
  rw[Ý,not_or] at h;rw[gJ,cR (p:=(x,V.int (o:Nat))) (λ z=>h.1 z.symm),n9 (o+1) r h.2]
end Tw
namespace L2
open PySem PySem.Spec PyProof.Rows TwZ
section
variable {X:Cx}{tg:Expr}
end
abbrev AR:=Á->V->V->Hp->(Hp->Prop)->Prop
def qT (S:AR) (J:It) (g:TG) (tc:TT) (tk tv:TE) (fr:List (Option Nat)) (σ:St) (H1:Hp) (Q:Á->Hp->Prop):Prop:=
 ∀ D,H1 D=none->∃ W:Nat->Nat->St->Hp->Prop,(∃ m,W 0 m (tX fr σ) (upd H1 D (.dK [])))/\
  ∀ i m ad H',W i m ad H'->(J.stop i H'/\Q D H')\/
   (J.go i H'/\∃ N:St->Hp->Prop,(∀ cx uq,N cx uq->∃ m',m' < m/\W (i+1) m' cx uq)/\
    ∀ x H2,J.yld i H' x H2->g x ad H2 λ ak H3=>tc ak H3 λ b H4=>
    if b=true then tk ak H4 λ y H5=>tv ak H5 λ z H6=>S D y z H6 (N ak)
    else N ak H4)
theorem O1 {S:AR}{J:It}{n:Nat}{g:TG}{tc:TT}{tk tv:TE}{fr:List (Option Nat)}{σ:St}{H1:Hp}{Q:Á->Hp->Prop} (Pv:Á->Nat->St->Hp->Prop)
  (h0:∀ D,H1 D=none->Pv D 0 (tX fr σ) (upd H1 D (.dK [])))
  (je:∀ D ad H',Pv D n ad H'->J.stop n H'/\Q D H')
  (oo:∀ D i ad H',i < n->Pv D i ad H'->J.go i H'/\∀ x H2,J.yld i H' x H2->g x ad H2 λ ak H3=>tc ak H3 λ b H4=>
    if b=true then tk ak H4 λ y H5=>tv ak H5 λ z H6=>S D y z H6 (Pv D (i+1) ak)
    else Pv D (i+1) ak H4):qT S J g tc tk tv fr σ H1 Q:=by
 intro D hD;refine⟨λ i m σ H=>m=n - i/\i<=n/\Pv D i σ H,⟨n,by simp,æ _,h0 D hD⟩,?_⟩;rintro i m ad H' ⟨rfl,hi,p⟩
 by_cases jk:i < n
 ·obtain⟨go,step⟩:=oo D i ad H' jk p;exact .inr ⟨go,Pv D (i+1),λ cx uq p'=>⟨n - (i+1),by lia,rfl,jk,p'⟩,step⟩
 ·have e:i=n:=by lia
  subst e;exact .inl (je D ad H' p)
def OL (S:AR) (wi:TI) (fr:List (Option Nat)) (g:TG) (tc:TT) (tk tv:TE):TE:=λ σ H Q=>wi σ H λ J H1=>qT S J g tc tk tv fr σ H1 λ D H'=>Q (.ref D) H'
def IX (X:Cx) (S:AR):Prop:=∀ (Y:Cx),Y.prog=X.prog->Y.w=X.w->Y.K=X.K->Y.A=X.A->∀ (gi:List (Á×Obj)) (σ:St) (H:Hp) (s:Â) (D:Á) (y z:V) (u r:À) (N:Hp->Prop) (E:À->Â->Prop),
 Inv Y gi σ H s->bE y u->bE z r->S D y z H N->wpAny (model Y.prog Y.w) Y.A (dictSet D u r) (λ _ s'=>∃ H',Inv Y gi σ H' s'/\N H') E s
section
variable {prog:Ã}{A:Around}{R:Result->Â->Prop}{s:Â}
theorem u6 {kx vx target iter:Expr}{ifs:List Expr}{scope:Scope}{pos:Pos}{it:À}{D:Á}{env:Env} (I:Nat->Â->Prop)
  (turn:∀ n s,I n s->wpAny (model prog w) A (pyNext it) (λ r ai=>match r with
   | none=>R (.ok .next) ai
   | some v=>wpAny (model prog w) A (letOwnedTupleGo target it v) (λ _ cz=>wpAny (model prog w) A (assign target env v) (λ _ cp=>
     wpAny (model prog w) A (forIn ifs true λ c r=>if r=true then do let ok <- isTrue c env (eval c env);pure (ForInStep.yield ok) else pure (ForInStep.yield r)) (λ ok bo=>
      if ok=true then wpAny (model prog w) A (eval kx env) (λ kv cj=>wpAny (model prog w) A (eval vx env) (λ vv dk=>
       wpAny (model prog w) A (dictSet D kv vv) (λ _ gh=>∃ m,m < n/\I m gh) (notedBy (model prog w) A env λ e s'=>R (.error e) s') dk) (notedBy (model prog w) A env λ e s'=>R (.error e) s') cj) (notedBy (model prog w) A env λ e s'=>R (.error e) s') bo
      else ∃ m,m < n/\I m bo) (notedBy (model prog w) A env λ e s'=>R (.error e) s') cp) (notedBy (model prog w) A env λ e s'=>R (.error e) s') cz) (notedBy (model prog w) A env λ e s'=>R (.error e) s') ai)
    (notedBy (model prog w) A env λ e s'=>R (.error e) s') s)
  (n:Nat) (h:I n s) :
  codeAny (model prog w) A (.compLoop (.DictComp kx vx [⟨target,iter,ifs,0⟩] scope pos) 0 it (.ref D) env) R s:=by
 refine codeAny_loop rfl I (λ n s hI=>?_) n h;show wpAny _ A ((compTurn (.DictComp kx vx [⟨target,iter,ifs,0⟩] scope pos) 0 it (.ref D) env).onRaise (λ x=>do noteFrame x env;theTreesLotGoes x)) _ _ s;refine wpAny_noted ?_;rw[compTurn_dict];refine Æ (ŀ (Æ (á (turn n s hI) (λ r ai h₁=>?_) λ _ _ h'=>h')));cases r with
 | none=>exact É h₁
 | some v=>
  refine Æ (á h₁ (λ _ cz dw=>?_) λ _ _ h'=>h');refine Æ (á dw (λ _ cp ap=>Æ (á ap (λ ok bo am=>?_) λ _ _ h'=>h')) λ _ _ h'=>h');cases ok with
  | false=>exact É ⟨rfl,am⟩
  | true=>
   exact Æ (Æ (á am (λ kv cj aq=>Æ (ð (á aq (λ vv dk bb=>Æ (ŀ (ð (á bb (λ _ gh cq=>É ⟨rfl,cq⟩) λ _ _ h'=>h')))) λ _ _ h'=>h'))) λ _ _ h'=>h'))
end
section
variable {X:Cx}{gi:List (Á×Obj)}{σ:St}{H:Hp}{s:Â}{a:Á}{v:V}{u r:À}{A:Around}{E:À->Â->Prop}{gu:List (gB×V)}{k:gB}
end
section
variable {X:Cx}
theorem II {Sr:AR}{kx vx tg iter:Expr}{ifs:List Expr}{scope:Scope}{pos:Pos}{N':List Str}{fr:List (Option Nat)}{cl:List (Str×Á)}{g:TG}{tc:TT}{tk tv:TE}
  {gi:List (Á×Obj)}{σ:St}{H:Hp}{s:Â}{J:It}{fp:List Á}{it:Á}{tn:Nat->Heap->Prop}{Q:Á->Hp->Prop}{RR:À->Á->Result->Â->Prop}{E:À->Â->Prop}
  (hS:IX X Sr) (hx:∀ e s,¬ X.xe e s) (hc:X.calm=true) (S:LcOk X scope cl N' fr)
  (hg:∀ fp s H,PG (kG X N' scope cl fp s H) tg g) (ht:∀ fp s H,JC (kG X N' scope cl fp s H) ifs tc) (hk:∀ fp s H,PE (kG X N' scope cl fp s H) kx tk) (hv:∀ fp s H,PE (kG X N' scope cl fp s H) vx tv)
  (I:Inv X gi σ H s) (T:Turn X.prog X.w X.K tg J fp it tn) (st:tn 0 s.heap) (hf:∀ b∈fp,gQ X gi H b) (h:qT Sr J g tc tk tv fr σ H Q)
  (Gw:∀ D C H' s' m',Inv X gi σ H' s'->Q D H'->s'.heap.Ns C m'->gQ X gi H' C->RR (.ref D) C (.ok .next) s') :
  wpAny (model X.prog X.w) X.A newDict (λ jh bo=>wpAny (model X.prog X.w) X.A (newFunctionEnv scope X.env.globals cl [] X.env.qual none .none (some X.env)) (λ sx cj=>
   codeAny (model X.prog X.w) X.A (.compStart (.DictComp kx vx [⟨tg,iter,ifs,0⟩] scope pos) 0 (.ref it) jh { sx with scope:=relabel scope X.env }) (RR jh sx.locals) cj) E bo) E s:=by
 have jo:=S.nocell;rw[Č] at jo;refine Đ (agd (λ x kz=>by simpa using jo x kz) (by intro y hy;simp at hy) (λ h₁ bp cm=>?_) S.kind);dsimp only at bp cm ⊢;have fresh:H s.heap.objs.size=none:=I.hok.fresh (Î _);have I3:Inv X gi σ (upd H s.heap.objs.size (.dK [])) { s with heap:=s.heap.push { cls:=.type "dict",data:=.dict #[] },toks:=s.toks }:=
  I.laid (a:=s.heap.objs.size) (o:=.dK []) (t':=s.toks) (λ _ _ q=>Í _ q) (Î _) (sW s.heap I.big)
 have yu:∀ b∈fp,gQ X gi (upd H s.heap.objs.size (.dK [])) b:=λ b hb=>by
  obtain⟨o,ho,_⟩:=T.obj _ _ st b hb;exact⟨by rw[aJ (Þ (Ñ ho))];exact (hf b hb).1,(hf b hb).2⟩
 generalize xu:({ s with heap:=s.heap.push { cls:=.type "dict",data:=.dict #[] },toks:=s.toks }:Â)=s3 at I3;have e3:s3.heap=s.heap.push { cls:=.type "dict",dict:=none,data:=.dict #[] }:=by rw[<- xu]
 have Cg:({ s with heap:=s.heap.push { cls:=.type "dict",dict:=none,data:=.dict #[] } }:Â)=s3:=xu;have yw:s3.heap.objs.size=s.heap.objs.size+1:=by rw[e3,ø]
 have rh:∀ b∈fp,b < s3.heap.objs.size:=λ b hb=>by
  obtain⟨o,ho,_⟩:=T.obj _ _ st b hb;rw[yw];exact Ļ (Ñ ho)
 rw[<- e3] at bp cm ⊢;have ou:∀ b o,s3.heap.get? b=some o->h₁.get? b=some o:=λ b o e=>cm.extBut b o (Þ (Ñ e)) (Í _ e);have jn:∀ b o,s.heap.get? b=some o->s3.heap.get? b=some o:=λ b o e=>by rw[e3];exact Í _ e
 have I4:=S.invC (tk:=s3.toks) I3 yu rh ou bp;obtain⟨W,⟨m0,w0⟩,turn⟩:=h s.heap.objs.size fresh;have ko:∀ {H':Hp},(∀ b∈fp,H' b=none)->∀ b∈fp,gQ (kG X N' scope cl fp s3 (upd H s.heap.objs.size (.dK []))) [] H' b:=λ hn b hb=>by
  refine⟨hn b hb,Þ (rh b hb),?_,.inl hb,λ x c e=>(hf b hb).2.2.2.2.1 x c (S.cls.get x c e),λ p hp=>absurd (show p∈([]:List (Á×Obj)) from hp) (by simp)⟩;intro hz;obtain⟨_,f1,f2,_⟩:=hf b hb;rcases Ý.mp (I.stkSub b hz) with e | e
  ·exact f1 e
  ·exact f2 e
 have loop:∀ s4:Â,s4={ s3 with heap:=h₁,toks:=s3.toks }->
   codeAny (model X.prog X.w) X.A (.compLoop (.DictComp kx vx [⟨tg,iter,ifs,0⟩] scope pos) 0 (.ref it) (.ref s.heap.objs.size) (compEnvC scope cl s3.heap.objs.size X.env)) (RR (.ref s.heap.objs.size) s3.heap.objs.size) s4:=by
  intro s4 sy;refine u6 (λ n s'=>∃ i ad H',Inv (kG X N' scope cl fp s3 (upd H s.heap.objs.size (.dK []))) [] ad H' s'/\tn i s'.heap/\(∀ b∈fp,H' b=none)/\W i n ad H') ?_ m0
   ⟨0,tX fr σ,_,by rw[sy];exact I4,by rw[sy];exact T.keep _ _ _ st λ b _ o e=>ou b o (jn b o e),λ b hb=>(yu b hb).1,w0⟩
  rintro n s5 ⟨i,cn,H5,I5,wn,Ah,w5⟩;rcases turn i n cn H5 w5 with ⟨stop,qn⟩ | ⟨go,N,hN,step⟩
  ·refine cY (T.done (kG X N' scope cl fp s3 (upd H s.heap.objs.size (.dK []))) rfl rfl rfl hc i [] s5 cn H5 _ I5 (ko Ah) wn stop) λ r s6 ⟨hr,I6⟩=>?_;subst hr;obtain⟨m',Al,_⟩:=I6.loc;exact Gw _ _ H5 s6 m' (I3.outC I6 yu) qn Al (I3.fpOk (Î _) I6.free)
  ·refine cY (T.item (kG X N' scope cl fp s3 (upd H s.heap.objs.size (.dK []))) rfl rfl rfl hc i [] s5 cn H5 _ I5 (ko Ah) wn go) λ r s6 ⟨u,hr,h6⟩=>?_;subst hr;refine cY h6 λ _ s7 ⟨x,H7,I7,r7,y7,yx,Gx⟩=>?_;have Gy:=I7.pinned (ko Gx) (T.obj _ _ yx);refine á (hg fp s3 _ _ s7 cn H7 x u _ Gy r7 (step x H7 y7)) (λ _ s8 ⟨bg,H8,I8,q8⟩=>?_) λ e s' z=>(hx e s' z).elim;refine á (ht fp s3 _ _ s8 bg H8 _ I8 q8) (λ ok s9 ⟨H9,I9,q9⟩=>?_) λ e s' z=>(hx e s' z).elim;have again:∀ {kh:Â}{kf:Hp},Inv (kG X N' scope cl fp s3 (upd H s.heap.objs.size (.dK []))) ([]++mZ fp s7.heap) bg kf kh->N bg kf->
     ∃ m,m < n/\∃ i ad H',Inv (kG X N' scope cl fp s3 (upd H s.heap.objs.size (.dK []))) [] ad H' kh/\tn i kh.heap/\(∀ b∈fp,H' b=none)/\W i m ad H':=λ {kh kf} tj Gz=>by
    obtain⟨m',hm,ww⟩:=hN bg kf Gz;refine⟨m',hm,i+1,bg,kf,tj.unpinned,T.keep _ _ _ yx λ b hb o e=>(tj.pin (b,o) (ü _ (ü _ (eY hb e)))).1,λ b hb=>?_,ww⟩;obtain⟨o,e,d⟩:=T.obj _ _ yx b hb;exact (tj.pin (b,o) (ü _ (ü _ (eY hb e)))).2.1
   cases ok with
   | false=>
    rw[Ä Û] at q9 ⊢;exact again I9 q9
   | true=>
    rw[Å rfl] at q9 ⊢;refine á (hk fp s3 _ _ s9 bg H9 _ I9 q9) (λ y kh ⟨yv,kf,tj,Ha,Dp⟩=>?_) λ e s' z=>(hx e s' z).elim;refine á (hv fp s3 _ _ kh bg kf _ tj Dp) (λ z Ba ⟨zv,ow,Hb,YI,YJ⟩=>?_) λ e s' z=>(hx e s' z).elim;exact cY (hS (kG X N' scope cl fp s3 (upd H s.heap.objs.size (.dK []))) rfl rfl rfl rfl _ _ _ _ _ _ _ _ _ _ _ Hb Ha YI YJ) λ _ Ih ⟨Mm,YK,Qh⟩=>again YK Qh
 exact codeAny_compStart_dict (loop _ (by rw[<- Cg];rfl)) (T.self X.A 0 _ _ _ (T.keep _ _ _ st λ b _ o e=>ou b o (jn b o e)) (loop _ (by rw[<- Cg];rfl)))
theorem N9 {Sr:AR}{kx vx tg iter:Expr}{ifs:List Expr}{scope:Scope}{pos:Pos}{N':List Str}{fr:List (Option Nat)}{cl:List (Str×Á)}{wi:TI}{g:TG}{tc:TT}{tk tv:TE}
  (hS:IX X Sr) (hx:∀ e s,¬ X.xe e s) (hc:X.calm=true) (S:LcOk X scope cl N' fr) (hi:PI X tg iter wi)
  (hg:∀ fp s H,PG (kG X N' scope cl fp s H) tg g) (ht:∀ fp s H,JC (kG X N' scope cl fp s H) ifs tc) (hk:∀ fp s H,PE (kG X N' scope cl fp s H) kx tk) (hv:∀ fp s H,PE (kG X N' scope cl fp s H) vx tv)
  (hs:∀ x,foldedSetIterable iter X.env x=pure x:=by intro _;with_unfolding_all rfl):PE X (.DictComp kx vx [⟨tg,iter,ifs,0⟩] scope pos) (OL Sr wi fr g tc tk tv):=by
 intro gi s σ H Q I h;have nr:=S.locs;rw[Č] at nr;show wpAny _ X.A (comprehension (.DictComp kx vx [⟨tg,iter,ifs,0⟩] scope pos) scope X.env _ newDict false (eval iter X.env)) _ _ s;refine ž (use:=none) rfl hs S.clos S.kind (λ x kz hl=>by have:=nr x kz;rw[hl] at this;simpa using this) (cY (hi gi s σ H _ I h) λ v s1 h1=>cY h1 λ Fo s2 h2=>?_);obtain⟨it,fp,tn,J,H2,e,I2,T,ki,f2,jc⟩:=h2;subst e;refine II (RR:=λ jh C=>compPost (model X.prog X.w) X.A X.xe none (EP X gi σ Q) jh C) hS hx hc S hg ht hk hv I2 T ki f2 jc ?_;intro D C H' s' m' I' q hn f;exact⟨m',hn,λ h' qm=>⟨.ref D,H',I'.letgo f qm,rfl,q⟩⟩
end
section
variable {prog:Ã}{KK:Type}[DecidableEq KK]{knd:HeapKind prog w KK}{A:Around}{E:À->Â->Prop}{s:Â}
theorem qE {d a:Á}{xs:List (KK×Á×À)}{k:KK}{v:À}{Q:À->Â->Prop} (hu:knd.room A) (mi:knd.is s.heap k a) (hm:s.heap.DictOfH knd d xs)
  (vc:∀ p,atKey xs k=some p->Q p.2 { s with toks:=s.toks+knd.draws k })
  (hQ:atKey xs k=none->∀ h',h'.DictOfH knd d (storedH xs k a v)->Heap.SameBut d s.heap h'->Q v { s with heap:=h',toks:=s.toks+knd.draws k })
  (hsz:xs.length<=sizeLine):wpAny (model prog w) A (dictSetDefault d (.ref a) v) Q E s:=by
 obtain⟨o,es,ep,ho,hc,hd,he,zm,hn⟩:=hm;unfold dictSetDefault
 try with_reducible refine ð ?_
 refine Æ (knd.pyHash hu mi ?_);refine Æ (wpAny_dictFind_heap (s:={ s with toks:=s.toks+knd.draws k }) hu mi ho hd he zm hn ?_ ?_)
 ·intro Dj;have Qi:k∉xs.map (·.1):=not_mem_keys_of_get Dj;refine Æ (õ (Æ (wpAny_updateDictKeys (hz:=by have e:=size_of_entries he;lia) (s:={ s with toks:=s.toks+knd.draws k }) ho hd (É (hQ (af5 Dj) _ ⟨_,_,ep+1,ł _ ho (Obj.isFreed_of_dict (Obj.data_mapDictKeys hd _)),
   hc.mapDictKeys _,Obj.data_mapDictKeys hd _,?_,?_,?_⟩ (ĺ ..))))))
  ·rw[storedH_new (af5 Dj)];simp [he,entryOfKey]
  ·rw[storedH_new (af5 Dj)];intro x hx;rcases ñ.mp hx with hx | hx
   ·exact knd.keeps (zm x hx) ho hd (ĺ ..)
   ·simp only [é] at hx;subst hx;exact knd.keeps mi ho hd (ĺ ..)
  ·rw[storedH_new (af5 Dj)];rw[Ó,ļ];refine⟨hn,by simp,?_⟩;intro x hx y hy;simp only [ã,û,é] at hy;subst hy;exact λ e=>Qi (e ▸ hx)
 ·intro j p hj;refine Æ (ů (s:={ s with toks:=s.toks+knd.draws k }) ho hd ?_);rw[entry_at he j,hj];exact Æ (õ (É (vc p (atKey_of_get hn hj))))
theorem lJ {d a:Á}{xs:List (KK×Á×À)}{k:KK}{v:À}{Q:À->Â->Prop} (hu:knd.room A.in1) (mi:knd.is s.heap k a) (hd:(d == sysModules)=false) (hm:s.heap.DictOfH knd d xs)
  (vc:∀ p,atKey xs k=some p->Q p.2 { s with toks:=s.toks+knd.draws k })
  (hQ:atKey xs k=none->∀ h',h'.DictOfH knd d (storedH xs k a v)->Heap.SameBut d s.heap h'->Q v { s with heap:=h',toks:=s.toks+knd.draws k })
  (hsz:xs.length<=sizeLine):wpAny (model prog w) A (call (.builtin "dict.setdefault") [.ref d,.ref a,v]) Q E s:=by
 refine ă agh hm.typeIs PySem.F.entry_dict_setdefault ?_ (PySem.F.args_dict_setdefault_3 _ _ _);unfold Builtin.«dict.setdefault»;refine Æ ?_;unfold Builtin.Dict.keyAndDefault;refine Æ (wpAny_notOrdered_dict hm.typeIs ?_);show wpAny _ _ (pure (d,Value.ref a,some v)) _ _ s;refine É ?_;show wpAny _ _ (if (d == sysModules)=true then _ else (dictSetDefault d (.ref a) v >>= _)) _ _ s;rw[Ä (by rw[hd];exact Û)];exact Æ (qE hu mi hm (λ p hp=>É ⟨_,rfl,vc p hp⟩) (λ hn h' Al sr=>É ⟨_,rfl,hQ hn h' Al sr⟩) hsz)
theorem DN {d:Á}{xs:List (KK×Á×À)}{Q:À->Â->Prop} (hd:(d == sysModules)=false) (hm:s.heap.DictOfH knd d xs) (Gs:(xs.length:Int) < 2 ^ 63)
  (h:Q (.int xs.length (s.toks+1)) { s with toks:=s.toks+1+1 }):wpAny (model prog w) A (call (.builtin "len") [.ref d]) Q E s:=by
 refine Calls.call_function_entry kind_len plain_len entry_len (args_len1 _) ?_;unfold Builtin.«len»;refine Æ (m:=oneArg "len" _) (É ?_);refine Æ (m:=callSpecial? (.ref d) (Str.ofString "__len__")) (Ĭ (name:=Str.ofString "__len__") hm.typeIs PySem.F.slot_dict_len
  (ă PySem.F.slot_dict_len hm.typeIs PySem.F.entry_dict_len ?_ (PySem.F.args_dict_len_1 _)))
 obtain⟨o,es,ep,ho,hc,Bi,he,zm,hn⟩:=hm;show wpAny _ _ (dictSize d >>= _) _ _ s;unfold dictSize;refine Æ (Æ (ů ho Bi (É ?_)));show wpAny _ _ (Builtin.Dict.pendingCount d >>= _) _ _ s;refine Æ (wpAny_pendingCount_other hd ?_);have:es.size=xs.length:=size_of_entries he;have e0:((es.size:Int)+((0:Nat):Int))=(xs.length:Int):=by rw[this];lia
 rw[show retInt ((es.size:Int)+((0:Nat):Int))=retInt (xs.length:Int) by rw[e0]];refine Æ (wpAny_mkInt (É ⟨_,rfl,?_⟩));show wpAny _ _ _ _ _ { s with toks:=s.toks+1 };refine Æ (ð (É ?_));refine Æ (Ħ ?_);show wpAny _ _ (if ((xs.length:Nat):Int) < 0 then _ else _) _ _ _;rw[Ä (by lia)];show wpAny _ _ (if ((xs.length:Nat):Int) ≥ 2 ^ 63 then _ else _) _ _ _;rw[Ä (by lia)];exact Æ (wpAny_mkInt (É ⟨_,rfl,h⟩))
end
section
variable {X:Cx}{gi:List (Á×Obj)}{σ:St}{H:Hp}{s:Â}{a:Á}{S:D}{gu:List (D×V)}
theorem bR.exact (I:Inv X gi σ H s) (g:bR X.prog X.w X.K H a S gu):s.TypeIs (.ref a) "dict" /\ (∀ b,Value.ref a=.ref b->∃ ob,s.heap.get? b=Option.some ob/\ob.dict=none):=by
 obtain⟨_,_,xs,_,dd⟩:=g.at I;refine⟨dd.typeIs,λ b q=>?_⟩;cases q;obtain⟨ob,_,_,h1,h2,_⟩:=dd;exact⟨ob,h1,h2.2.1⟩
def LV (P:Ã) (w:World) (K:Ç):List V->Hp->VK->Prop:=λ xs H Q=>∃ a S gu,xs=[.ref a]/\bR P w K H a S gu/\Q (.int gu.length) H
theorem EJ:dZ X (.builtin "len") (LV X.prog X.w X.K):=by
 intro gi s σ H xs us Q I r h;obtain⟨a,S,gu,rfl,g,q⟩:=h;obtain⟨u,rfl,rx⟩:=pU r;cases rx;obtain⟨hd,hz,ys,p,dd⟩:=g.at I;have hl:=å p;have hs:sizeLine=16777216:=Ď;exact DN hd dd (by lia) ⟨.int gu.length,H,I.tok _,⟨_,by rw[hl]⟩,q⟩
theorem AM {P:Ã}{w:World}{K:Ç} (hP:X.prog=P) (hw:X.w=w) (hK:X.K=K):dZ X (.builtin "len") (LV P w K):=by subst hP hw hK;exact EJ
def LK (P:Ã) (w:World) (K:Ç) (td ty tx:TE):TE:=λ σ H Q=>td σ H λ x H1=>∃ a S1 Ii,x=.ref a/\bR P w K H1 a S1 Ii/\ty σ H1 λ y H2=>tx σ H2 λ z H3=>∃ S gu k,bR P w K H3 a S gu/\KeyD K H3 S k y/\gu.length < sizeLine/\
 (∀ v,cI gu k=some v->Q v H3)/\(cI gu k=none->∀ H4,cK a H3 H4->bR P w K H4 a S (eT gu k z)->Q z H4)
theorem K7 {o e f:Expr}{td ty tx:TE}{apos jd:Pos} (hu:X.A.units+64 < cLine) (ho:PE X o td) (he:PE X e ty) (hf:PE X f tx) (m:M2 X o "setdefault" apos e f jd):PE X (.Call (.Attribute o "setdefault" apos) [e,f] [] jd) (LK X.prog X.w X.K td ty tx):=by
 intro gi s σ H Q I h;refine wpAny_Call_method m.base m.few m.line ahb agh PySem.F.type_dict_setdefault (cY (ho gi s σ H _ I h) λ u s1 ⟨x,H1,I1,rx,a,S1,Ii,ex,g1,q1⟩=>?_);subst ex;obtain rfl:u=Value.ref a:=rx;obtain⟨t1,t2⟩:=g1.exact I1;refine⟨t1,t2,?_⟩;rw[m.trees];refine afz rfl (ae8 (ũ (cY (he gi s1 σ H1 _ I1 q1) λ iv s2 ⟨y,H2,I2,ry,q2⟩=>
  ũ (cY (hf gi s2 σ H2 _ I2 q2) λ fv s3 ⟨z,H3,I3,rz,S,gu,k,g,hk,gy,qa,qb⟩=>ag1 ?_))))
 obtain⟨b,rfl⟩:=hk.tup;cases ry;obtain⟨hd,hz,xs,p,dd⟩:=g.at I3;have hl:=å p;have ud:=KD.val k p;refine lJ (knd:=eP X.prog X.w S) (show X.A.in1.units+8 < cLine by show X.A.units+1+8 < cLine;lia) (hk.at I3) hd dd (λ pp hp=>?_) (λ hn h' xt qm=>?_) (by lia)
 ·rw[hp] at ud;cases hv:cI gu k with
  | none=>rw[hv] at ud;exact ud.elim
  | some v=>
   rw[hv] at ud;exact⟨v,H3,I3.tok _,ud,qa v hv⟩
 ·rw[hn] at ud;have hv:cI gu k=none:=by
   cases hv:cI gu k with
   | none=>rfl
   | some v=>rw[hv] at ud;exact ud.elim
  obtain⟨qo,es,ep,hq,h2,h3,h4,_,h5⟩:=xt;have mu:=g.mut;have bt:cK a H3 (upd H3 a (.ext (mU X.prog X.w S a (storedH xs k b fv)))):=ç;have ts:=bt.ts (K:=X.K) mu;have Hy:(eT gu k z).length<=sizeLine:=by have:=eZ gu k z;lia
  exact⟨z,_,lZ I3 mu qm ⟨qo,hq⟩ (ob:=.ext (mU X.prog X.w S a (storedH xs k b fv))) ⟨⟨qo,es,ep,hq,h2,h3,h4,h5⟩,⟨qo,hq⟩,λ h1 Ak ⟨o',yk,yl,z1,z⟩ kk=>⟨o',yk,yl,kk _ z1,z⟩⟩,rz,qb hv _ bt (.inr ⟨_,aB,hd,Hy,KD.mono (KD.put p hk rz) ts⟩)⟩
theorem GF {P:Ã}{w:World}{K:Ç}{o e f:Expr}{td ty tx:TE}{apos jd:Pos} (hP:X.prog=P) (hw:X.w=w) (hK:X.K=K) (hu:X.A.units+64 < cLine) (ho:PE X o td) (he:PE X e ty) (hf:PE X f tx) (m:M2 X o "setdefault" apos e f jd):PE X (.Call (.Attribute o "setdefault" apos) [e,f] [] jd) (LK P w K td ty tx):=by
 subst hP hw hK;exact K7 hu ho he hf m
end
abbrev JU (P:Ã) (w:World) (K:Ç):AR:=λ D y z H N=>∃ S gu k,bR P w K H D S gu/\KeyD K H S k y/\gu.length < sizeLine/\∀ H',cK D H H'->bR P w K H' D S (eT gu k z)->N H'
section
variable {X:Cx}{gi:List (Á×Obj)}{σ:St}{H:Hp}{s:Â}{a:Á}{v:V}{u r:À}{A:Around}{E:À->Â->Prop}{gu:List (D×V)}{k S:D}
theorem AH {Q:Unit->Â->Prop} (hu:A.units+8 < cLine) (I:Inv X gi σ H s) (g:bR X.prog X.w X.K H a S gu) {y:V} (hk:KeyD X.K H S k y) (l:gu.length < sizeLine) (ry:bE y u) (rv:bE v r)
  (h:∀ H' s',Inv X gi σ H' s'->cK a H H'->bR X.prog X.w X.K H' a S (eT gu k v)->Q () s') :
  wpAny (model X.prog X.w) A (dictSet a u r) Q E s:=by
 obtain⟨b,rfl⟩:=hk.tup;cases ry;obtain⟨hd,hz,xs,p,dd⟩:=g.at I;have lw:xs.length<=sizeLine:=by rw[<- å p];exact hz
 have Hy:(eT gu k v).length<=sizeLine:=by have:=eZ gu k v;lia
 refine wpAny_dictSet_heap (knd:=eP X.prog X.w S) (hsz:=lw) hu (hk.at I) dd λ h' xt qm=>?_;obtain⟨qo,es,ep,hq,h2,h3,h4,_,h5⟩:=xt;have mu:=g.mut;have bt:cK a H (upd H a (.ext (mU X.prog X.w S a (storedH xs k b r)))):=ç;have ts:=bt.ts (K:=X.K) mu;exact h _ _ (lZ I mu qm ⟨qo,hq⟩ (ob:=.ext (mU X.prog X.w S a (storedH xs k b r))) ⟨⟨qo,es,ep,hq,h2,h3,h4,h5⟩,⟨qo,hq⟩,λ h1 Ak ⟨o',yk,yl,z1,z⟩ kk=>⟨o',yk,yl,kk _ z1,z⟩⟩) bt (.inr ⟨_,aB,hd,Hy,KD.mono (KD.put p hk rv) ts⟩)
end
section
variable {X:Cx}
theorem JT (hu:X.A.units+64 < cLine):IX X (JU X.prog X.w X.K):=by
 intro Y h1 h2 h3 h4 gi σ H s D y z u r N E I ry rz ⟨S,gu,k,g,hk,hl,n⟩;rw[<- h1,<- h2,<- h3] at g n;rw[<- h3] at hk;exact AH (by rw[h4];lia) I g hk hl ry rz λ H' s' I' b' d'=>⟨H',I',n H' b' d'⟩
theorem K8 {P:Ã}{w:World}{K:Ç}{kx vx tg iter:Expr}{ifs:List Expr}{scope:Scope}{pos:Pos}{N':List Str}{fr:List (Option Nat)}{cl:List (Str×Á)}{wi:TI}{g:TG}{tc:TT}{tk tv:TE}
  (hP:X.prog=P) (hw:X.w=w) (hK:X.K=K) (hu:X.A.units+64 < cLine) (hx:∀ e s,¬ X.xe e s) (hc:X.calm=true) (S:LcOk X scope cl N' fr) (hi:PI X tg iter wi)
  (hg:∀ fp s H,PG (kG X N' scope cl fp s H) tg g) (ht:∀ fp s H,JC (kG X N' scope cl fp s H) ifs tc) (hk:∀ fp s H,PE (kG X N' scope cl fp s H) kx tk) (hv:∀ fp s H,PE (kG X N' scope cl fp s H) vx tv)
  (hs:∀ x,foldedSetIterable iter X.env x=pure x:=by intro _;with_unfolding_all rfl):PE X (.DictComp kx vx [⟨tg,iter,ifs,0⟩] scope pos) (OL (JU P w K) wi fr g tc tk tv):=by subst hP hw hK;exact N9 (JT hu) hx hc S hi hg ht hk hv hs
def LU (K:Ç):List V->Hp->VK->Prop:=λ xs H Q=>∃ (p:Á) (ns:List Int),xs=[.ref p]/\bD K H p (ns.map V.int)/\0 < ns.length/\∀ M,M∈ns->(∀ a∈ns,a<=M)->Q (.int M) H
theorem EH (hc:X.calm=true):dZ X (.builtin "max") (LU X.K):=by
 intro gi s σ H xs us Q I r h;obtain⟨p,ns,rfl,hq,h0,q⟩:=h;obtain⟨u,rfl,ru⟩:=r.one;cases ru;obtain⟨its,rv,pl,hz⟩:=I.list hq;have hi:=sQ rv;have hl:=pl.isList;obtain⟨ys,e⟩:=hi.allInts.items;have zd:ns=ys.toList.map (·.1):=by rw[<- hi.numsOf,<- nums_intItems,<- e]
 have hsz:0 < ys.size:=by
  have h3:=h0;rw[zd,Ê,Ĕ] at h3;exact h3
 rw[e] at hl;refine max_intList (I.ok.hd hc) hl hsz λ v h' tk hv hk=>?_;obtain⟨t,rfl⟩:=intItems_at hv;obtain⟨h1,h2⟩:=argBest_gt (numAt ys) (ys.size - 1);refine⟨.int _,H,I.kept hk,⟨t,rfl⟩,q _ ?_ λ a ha=>?_⟩
 ·rw[zd,numAt_eq];exact getD_mem (by rw[Ê,Ĕ];lia)
 ·rw[zd] at ha;obtain⟨j,hj,rfl⟩:=mem_getD ha;rw[Ê,Ĕ] at hj;rw[<- numAt_eq];exact h2 j (by lia)
theorem AL {K:Ç} (hK:X.K=K) (hc:X.calm=true):dZ X (.builtin "max") (LU K):=by subst hK;exact EH hc
end
section
variable {g:TG}{tc:TT}{te:TE}{fr:List (Option Nat)}{σ:St}{H1:Hp}{Q:Á->Hp->Prop}
theorem GW {t:Bool}{a:Á}{xs:List V} (Pv:Á->Nat->List V->St->Hp->Prop)
  (hq:∀ D i r σ H,Pv D i r σ H->kH K H t a xs)
  (h0:∀ D,H1 D=none->Pv D 0 [] (tX fr σ) (upd H1 D (.lst []))) (je:∀ D r ad H',Pv D xs.length r ad H'->Q D H')
  (oo:∀ D i x r ad H' T,xs[i]? = some x->Pv D i r ad H'->H' T=none->g (.ref T) ad (upd H' T (.tup [.int (i:Int),x])) λ ak H3=>tc ak H3 λ b H4=>
    if b=true then te ak H4 λ y H5=>H5 D=some (.lst r)/\r.length < PySem.sizeLine/\Pv D (i+1) (r++[y]) ak (upd H5 D (.lst (r++[y])))
    else Pv D (i+1) r ak H4):iX (PY K t a) g tc te fr σ H1 Q:=by
 refine sN (n:=xs.length) Pv h0 (λ D r ad H' p=>⟨⟨xs,hq D _ r ad H' p,Î _⟩,je D r ad H' p⟩) λ D i r ad H' hi p=>⟨⟨xs,xs[i],hq D _ r ad H' p,by simp [hi]⟩,?_⟩;rintro v H2 ⟨T,x,hT,rfl,e1,rfl⟩;exact oo D i x r ad H' T (e1 xs (hq D _ r ad H' p)) p hT
theorem IH {P:Ã}{w:World}{tk tv:TE}{t:Bool}{a:Á}{xs:List V} (Pv:Á->Nat->St->Hp->Prop)
  (hq:∀ D i σ H,Pv D i σ H->kH K H t a xs)
  (h0:∀ D,H1 D=none->Pv D 0 (tX fr σ) (upd H1 D (.dK []))) (je:∀ D ad H',Pv D xs.length ad H'->Q D H')
  (oo:∀ D i x ad H' T,xs[i]? = some x->Pv D i ad H'->H' T=none->g (.ref T) ad (upd H' T (.tup [.int (i:Int),x])) λ ak H3=>tc ak H3 λ b H4=>
    if b=true then tk ak H4 λ y H5=>tv ak H5 λ z H6=>∃ S gu k,bR P w K H6 D S gu/\KeyD K H6 S k y/\gu.length < sizeLine/\∀ H7,cK D H6 H7->bR P w K H7 D S (eT gu k z)->Pv D (i+1) ak H7
    else Pv D (i+1) ak H4):qT (JU P w K) (PY K t a) g tc tk tv fr σ H1 Q:=by
 refine O1 (S:=JU P w K) (n:=xs.length) Pv h0 (λ D ad H' p=>⟨⟨xs,hq D _ ad H' p,Î _⟩,je D ad H' p⟩) λ D i ad H' hi p=>⟨⟨xs,xs[i],hq D _ ad H' p,by simp [hi]⟩,?_⟩;rintro v H2 ⟨T,x,hT,rfl,e1,rfl⟩;exact oo D i x ad H' T (e1 xs (hq D _ ad H' p)) p hT
end
end L2
namespace Tw
open PySem L2
theorem bU {n:Nat} (h:n<=10000000):n < sizeLine:=by rw[Ď];lia
section
variable {α:Type}{dD:α->L2.D}{nxt:α->Int->α}{fin:α->Int->Bool}{ok:α->Prop}{G:Hp->Prop}{S:L2.D}
def MR (K:Ç) (dD:α->L2.D) (nxt:α->Int->α) (fin:α->Int->Bool) (ok:α->Prop) (G:Hp->Prop) (gj:Nat):Sp:=λ vs H Q _=>∃ (x:V) (d:α) (a:Nat),vs=[x,.int a]/\Is K H (dD d) x/\ok d/\a<=gj/\G H/\
 ∀ p y H',aE H H'->bC K H' p [y,.bl (fin d a)]->Is K H' (dD (nxt d a)) y->Q (.ref p) H'
structure Goes (K:Ç) (dD:α->L2.D) (nxt:α->Int->α) (ok:α->Prop) (G:Hp->Prop) (S:L2.D) (most:Nat):Prop where
 next:∀ d (a:Nat),ok d->a<=most->ok (nxt d a)
 key:∀ d,ok d->∀ H v,Is K H (dD d) v->KeyD K H S (dD d) v
 stay:∀ H H',bJ K H H'->G H->G H'
def FK (P:Ã) (w:World) (K:Ç) (mg:Str->Option À) (base:Heap) (cT:Á) (dD:α->L2.D):O5:=λ s outer vs H Q E=>∃ (nxt:α->Int->α) (fin:α->Int->Bool) (ok:α->Prop) (G:Hp->Prop) (S:L2.D) (x:V) (f c:Á) (ob oc:Obj) (cl:List (Str×Á)) (gj im:Nat) (first:α),
 vs=[x,.ref f,.int gj,.int im]/\1<=im/\im<=1000/\gj<=1000/\Is K H (dD first) x/\ok first/\Goes K dD nxt ok G S gj/\G H/\FnH H f c ob oc/\(∃ cls od fd sl,ob=⟨cls,od,.func fd,sl⟩)/\IY P w K mg base 6 f c ob oc cl (MR K dD nxt fin ok G gj) s/\
 (∀ c∈cl.map (·.2),H c=none/\c∉jV outer/\c < s.heap.objs.size/\∃ o,s.heap.get? c=some o)/\
 (∀ row fs,JA dD nxt fin gj im first=.ends row fs->∀ p rl fl H',aE H H'->bC K H' p [.ref rl,.ref fl]->H' rl=some (.lst (row.map V.int))->H rl=none->row.length<=2000->Q (.ref p) H')/\
 (JA dD nxt fin gj im first=.many->∀ H',aE H H'->E (.ref cT) none H')/\
 (∀ fs,JA dD nxt fin gj im first=.on fs->∀ p fl us H',aE H H'->bC K H' p [.non,.ref fl]->H' fl=some (.lst us)->H fl=none->Paired (λ (p:α×List Int) v=>KeyD K H' S (dD p.1) v) fs us->(∀ q∈fs,ok q.1)->fs.length<=im->Q (.ref p) H')
theorem mL:FnScope ["first","step","most","limit","found","rows","place","here","amount","row","behind","is_end"] ["first","step","most","limit"] (aL (bW 21)):={}
theorem tP {f:Á}{fd:FuncData} (F:Fun K "go_through" "go_through" (bW 21) f fd) (T:Txt mg) (jw:ExC K "TooMany" gr) :
  FnOkS P w K mg base (u9 P w) 7 f fd ["first","step","most","limit"] (FK P w K mg base gr dD):=by
 refine F.okS mL (λ s o vs H Q E h=>?_) (λ ja A outer s H vs Q E hr e0 h L=>?_)
 ·refine ĸ λ _ ŉ=>?_;obtain⟨nxt,fin,ok,G,S,x,f,c,ob,oc,cl,gj,im,first,rfl,_⟩:=h;refine ŉ ?_;rfl
 ·refine ĸ λ _ ŉ=>?_;obtain⟨nxt,fin,ok,G,S,x,f',c,ob,oc,cl,gj,im,first,rfl,xy,xq,hm,hx,hok,gs,hG,hF,RF,RS,hc,kE,kM,kO⟩:=h;refine ŉ ?_;have sc:=mL;have RC:∀ c∈cl.map (·.2),H c=none/\c∉jV outer/\c∉([]:List Á)/\c < s.heap.objs.size/\∃ o,s.heap.get? c=some o:=λ c lz=>by
   obtain⟨h1,h2,h3⟩:=hc c lz;exact⟨h1,h2,by simp,h3⟩
  refine⟨_,(aD (JX (i:=4) (j:=5) (k:=6) rfl sc.nd rfl rfl rfl (by decide) (by decide) (by decide) rfl rfl rfl (aA (bM (aA (pv 0) aC)) (aA (pE (P:=P) (w:=w) (K:=K) rfl rfl rfl hr.units (pv 0) (bM aC)) (aA aF aC))) rfl)
   (aD (kW PassesOwn.leaving (bF oB (pv 6) (pC K T.b_len (pv 4)) (bH _)) (aD (pL 7 sc.nd (px K (pv 4) (pv 6)))
   (aD (cX PassesOwn.leaving rfl (cD rfl T.b_range (aA (aS cB (pv 2) aF) aC)) (gL 8 sc.nd) (aD (pL 9 sc.nd (aS rX (qA (uN (P:=P) (w:=w) (K:=K) rfl rfl rfl hr.units) (pv 5) (pv 7) (λ _ _=>rfl)) (bM (aA (pv 8) aC))))
   (aD (dU (GH RS RF (hr.mono (by decide)) RC (i:=1) rfl (.inl rfl) (aA (pv 7) (aA (pv 8) aC)) rfl rfl) (bA (K:=K) (n:=2) rfl rfl (aG (gL 10 sc.nd) (aG (gL 11 sc.nd) aZ))))
   (aD (dA (eU (pv 11)) (aI (bG (aU (aA (pv 9) (aA (pv 4) aC))))) bK)
   (aI (dA (bF (rW (P:=P) (w:=w) (K:=K) rfl rfl rfl hr.units) (pv 10) (pv 5) (by rfl)) (aD (dA (bF BE (pC K T.b_len (pv 4)) (pv 3) (bH _)) (aI (G0 L rfl rfl jw.exc jw.ns PySem.F.excBase_ValueError (aA eI aC))) bK)
   (aD (j7 (P:=P) (w:=w) (K:=K) rfl rfl rfl hr.units (pv 5) (pv 10) (pv 9) rfl)
   (aI (cZ (eJ (K:=K) rfl ù Ċ ċ cE (pv 4) (aA (pv 10) aC)))))) bK))))))
   (aI (G8 (i:=6) sc.nd rfl (Or.inl rfl) aF HL)))))
   (aI (bG (aU (aA fU (aA (pv 4) aC))))))),?_⟩
  refine (aK _ rfl ⟨(show 1<=sizeLine by decide),λ fl mf=>λ sd qw=>(aK _ rfl ⟨æ _,λ r0 Qj=>?_⟩)⟩);have Aq:fl≠sd:=aH (show upd H fl (.lst [x]) fl=_ from aB) qw;have Vr:sd≠r0:=aH (show upd (upd H fl (.lst [x])) sd (.dK []) sd=_ from aB) Qj;have Vt:fl≠r0:=aH (show upd (upd H fl (.lst [x])) sd (.dK []) fl=_ by rw[aJ Aq];exact aB) Qj;have s1:aE H (upd (upd (upd H fl (.lst [x])) sd (.dK [])) r0 (.lst [])):=((È mf).trans (È qw)).trans (È Qj);have ff:H fl=none:=mf;have Cr:H sd=none:=(È mf).free qw;have g1:upd (upd (upd H fl (.lst [x])) sd (.dK [])) r0 (.lst []) fl=some (.lst [x]):=by rw[aJ Vt,aJ Aq];exact aB
  have g2:upd (upd (upd H fl (.lst [x])) sd (.dK [])) r0 (.lst []) sd=some (.dK []):=by rw[aJ Vr];exact aB
  have g3:upd (upd (upd H fl (.lst [x])) sd (.dK [])) r0 (.lst []) r0=some (.lst []):=aB;generalize upd (upd (upd H fl (.lst [x])) sd (.dK [])) r0 (.lst [])=H1 at s1 g1 g2 g3 ⊢;have yO:=gs.key first hok H1 x (Ï s1.ts _ _ hx)
  refine⟨g2,S,dD first,yO,λ H3 b3 d3=>(uS _ _ _ rfl ?_)⟩;have Ec:mH (H1 sd):=by rw[g2];exact trivial
  have Mn:=b3.ts (K:=K) Ec;have B3:BfsAt P w K dD S H3 fl sd [x] [(dD first,.ref r0)] [(first,[])]:=⟨b3 _ _ Aq g1,.cons (yO.mono Mn) .nil,d3,.cons ⟨rfl,r0,rfl,Ne.symm Vt,b3 _ _ (Ne.symm Vr) g3⟩ .nil⟩;have s3:aE H H3:=λ b o e=>b3 b o (aH e Cr) (s1 b o e);have F3:FnH H3 f' c ob oc:=hF.same s3;have G3:G H3:=gs.stay _ _ s3.ts hG;clear g1 g2 g3;refine⟨λ m ad H'=>aE H H'/\∃ (p:Nat) (fs:Fs α) (us:List V) (gu:List (L2.D×V)) (v7 v8 v9 jr ju:Option V),m=im+1 - p/\BfsAt P w K dD S H' fl sd us gu fs/\p<=fs.length/\fs.length<=im/\(∀ q∈fs,ok q.1/\q.2.length < fs.length)/\iH dD nxt fin gj im (im+1 - p) p fs=JA dD nxt fin gj im first/\
    ad=[some x,some (.ref f'),some (.int gj),some (.int im),some (.ref fl),some (.ref sd),some (.int (p:Int)),v7,v8,v9,jr,ju],
   ⟨_,s3,0,_,_,_,_,_,_,_,_,rfl,B3,æ _,by simpa using xy,λ q hq=>by rw[é] at hq;subst hq;exact⟨hok,(show 0 < 1 by decide)⟩,rfl,rfl⟩,?_⟩
  clear B3 F3 G3 d3 Mn b3 Ec;rintro m ad H4 zF;refine ĸ λ _ ŉ=>?_;obtain⟨s4,p,fs,us,gu,v7,v8,v9,jr,ju,rfl,B4,hp,Hu,Bj,hb,rfl⟩:=zF;refine ŉ ?_;have vd:=B4.lenU;have lm:im<=10000000:=by lia
  refine (aK _ rfl (aK _ rfl (aX fl us rfl ⟨.inl (Ë B4.lst),(aX _ _ rfl ⟨rfl,(aK _ rfl (gX (λ hT=>?_) λ hN=>?_))⟩)⟩)))
  ·have hT:(p:Int) < us.length:=by simpa using hT
   have kc:p < fs.length:=by lia
   refine⟨λ ad H'=>aE H H'/\∃ (p':Nat) (fs:Fs α) (us:List V) (gu:List (L2.D×V)) (v7 v8 v9 jr ju:Option V),p'=p+1/\BfsAt P w K dD S H' fl sd us gu fs/\p'<=fs.length/\fs.length<=im/\(∀ q∈fs,ok q.1/\q.2.length < fs.length)/\iH dD nxt fin gj im (im+1 - p') p' fs=JA dD nxt fin gj im first/\
    ad=[some x,some (.ref f'),some (.int gj),some (.int im),some (.ref fl),some (.ref sd),some (.int (p':Int)),v7,v8,v9,jr,ju],λ ad H' ⟨h1,p',ji,Cs,Qk,w7,w8,w9,ww,Ed,h2,h⟩=>⟨im+1 - p',by lia,h1,p',(eA8 ji Cs Qk w7 w8 w9 ww Ed rfl h)⟩,?_⟩
   obtain⟨⟨d,r0'⟩,hq⟩:∃ q,fs[p]? = some q:=⟨_,ä kc⟩;obtain⟨v,hv,kv⟩:=Ĩ B4.its hq;have Ar:ok d:=(Bj _ (Ú hq)).1;obtain⟨r,er⟩:=Option.isSome_iff_exists.mp (hX (dD:=dD) (Ú hq));refine (aK _ rfl (aK _ rfl (.inl (iF fl us (p:Int) v rfl ⟨rfl,Ë B4.lst,bN hv,?_⟩))));refine (aK _ rfl (aX _ _ rfl ⟨rfl,(aK _ rfl ⟨by lia,by lia,?_⟩)⟩));rw[show ((gj:Int)+1).toNat=gj+1 by lia];refine fC (lo:=0) (n:=gj+1) (λ i ad H'=>aE H H'/\∃ (fs:Fs α) (us:List V) (gu:List (L2.D×V)) (v8 v9 jr ju:Option V),BfsAt P w K dD S H' fl sd us gu fs/\p < fs.length/\fs.length<=im/\(∀ q∈fs,ok q.1/\q.2.length < fs.length)/\dS dD fs (dD d)=some r/\r.length < fs.length/\
    MB dD nxt fin gj im p (oU dD nxt fin im d r (gj+1 - i) (i:Nat) fs)=JA dD nxt fin gj im first/\KeyD K H' S (dD d) v/\
    ad=[some x,some (.ref f'),some (.int gj),some (.int im),some (.ref fl),some (.ref sd),some (.int (p:Int)),some v,v8,v9,jr,ju]) ?_ ?_ ?_
   ·refine⟨s4,fs,us,gu,_,_,_,_,B4,kc,Hu,Bj,er,?_,?_,kv,rfl⟩
    ·obtain⟨q,za,zb⟩:∃ q∈fs,q.2=r:=by
      unfold dS at er;obtain⟨q,e1,e2⟩:=ó.mp er;exact⟨q,List.mem_of_find?_eq_some e1,e2⟩
     rw[<- zb];exact (Bj q za).2
    ·rw[<- hb,show im+1 - p=(im - p)+1 by lia];exact (ES hq er rfl).symm
   ·rintro DD i YL lq ad H5 hi zF;refine ĸ λ _ ŉ=>?_;obtain⟨s5,fs,us,gu,w8,w9,ww,Ed,B5,Ee,Ef,wc,Ij,lf,ye,Ik,rfl⟩:=zF;refine ŉ ?_;rw[į];have YM:=B5.lenU;dsimp only [iZ];rcases B5.val (dD d) with ⟨z,_⟩ | ⟨r',Vu,z1,z2,z3,z4⟩
    ·rw[Ij] at z;cases z
    rw[Ij] at z1;cases z1;refine⟨_,rfl,_,rfl,sd,S,gu,dD d,.ref Vu,rfl,B5.dic,Ik,z2,_,rfl,(show 1<=sizeLine by decide),λ la Mo=>⟨Vu,la,r.map V.int,[.int i],rfl,rfl,È Mo _ _ z4,aB,by rw[Ê,Ď];show r.length+1<=_;lia,λ ra Ql=>?_⟩⟩;have s6:aE H5 (upd (upd H5 la (.lst [.int i])) ra (.lst (r.map V.int++[.int i]))):=(È Mo).trans (È Ql);have g6:upd (upd H5 la (.lst [.int i])) ra (.lst (r.map V.int++[.int i])) ra=some (.lst ((r++[(i:Int)]).map V.int)):=by rw[aB,Ó];rfl
    have YN:ra≠fl:=λ z=>by
     have:=(È Mo).free Ql;rw[z,B5.lst] at this;cases this
    have YO:H ra=none:=(s5.trans (È Mo)).free Ql;generalize upd (upd H5 la (.lst [.int i])) ra (.lst (r.map V.int++[.int i]))=H6 at s6 g6 ⊢;have B6:=B5.same s6;have F6:FnH H6 f' c ob oc:=hF.same (s5.trans s6);refine⟨rfl,F6,_,rfl,_,rfl,F6,v,d,i,rfl,(Ik.mono s6.ts).is,Ar,by lia,gs.stay _ _ (s5.trans s6).ts hG,λ pp y H7 s7 qp iy=>?_⟩;refine⟨pp,_,rfl,qp,rfl,_,_,rfl,_,_,rfl,rfl,?_⟩;have B7:=B6.same s7;have sw:ok (nxt d i):=gs.next d i Ar (by lia);have ky:=gs.key _ sw H7 y iy;have Qm:gj+1 - i=(gj - i)+1:=by lia
    rw[Qm] at ye;refine (aK _ rfl (aK _ rfl ?_));cases hf:fin d i with
    | true=>
     refine iC ?_;rw[oT hf] at ye;have e5:JA dD nxt fin gj im first=.ends (r++[(i:Int)]) fs:=ye.symm
     refine (aK _ rfl (aK _ rfl ⟨(show 2<=sizeLine by decide),λ tp uc=>?_⟩));have s8:=È (o:=HO.tup [.ref ra,.ref fl]) uc;rw[YL];exact kE _ _ e5 tp ra fl _ (((s5.trans s6).trans s7).trans s8) (Ì aB) (s8 _ _ (s7 _ _ g6)) YO (by rw[à,ē];lia)
    | false=>
     refine fL ?_;refine⟨_,rfl,_,rfl,sd,S,gu,dD (nxt d i),rfl,B7.dic,ky,_,rfl,?_⟩;rw[B7.isSome];cases Ct:(dS dD fs (dD (nxt d i))).isSome with
     | true=>
      refine fL ?_;rw[mD hf Ct] at ye;exact lq _ _ ⟨(s5.trans s6).trans s7,fs,us,gu,_,_,_,_,B7,Ee,Ef,wc,Ij,lf,by rw[show gj+1 - (i+1)=gj - i by lia];exact ye,Ik.mono (s6.trans s7).ts,rfl⟩
     | false=>
      refine iC ?_;refine (aK _ rfl (aX fl us rfl ⟨.inl (Ë B7.lst),(aK _ rfl (aX _ _ rfl ⟨rfl,(aK _ rfl (gX (λ Cu=>?_) λ Il=>?_))⟩))⟩))
      ·have Cu:(us.length:Int) ≥ im:=by simpa using Cu
       rw[lK hf Ct (by lia)] at ye;exact⟨by show 1<=100;decide,kM ye.symm _ ((s5.trans s6).trans s7)⟩
      ·have Il:¬ (us.length:Int) ≥ im:=by simpa using Il
       have jk:fs.length < im:=by lia
       rw[mE hf Ct jk] at ye;refine⟨_,rfl,_,rfl,_,rfl,sd,S,gu,dD (nxt d i),rfl,B7.dic,ky,bU (by rw[B7.lenK];lia),λ H8 b8 d8=>?_⟩;obtain⟨B9,Fx⟩:=B7.put Ct ky (s7 _ _ g6) YN b8 d8;have Im:H8 fl=some (.lst us):=b8 _ _ B7.ne B7.lst;refine (aK _ rfl ⟨.inl ⟨rfl,_,Ë Im⟩,(aK _ rfl (uS fl us _ rfl ⟨rfl,Im,bU (by lia),?_⟩))⟩);have s8:aE H H8:=λ b o e=>b8 b o (aH e Cr) (((s5.trans s6).trans s7) b o e);have YQ:cK fl H8 (upd H8 fl (.lst (us++[y]))):=ç;refine lq _ _ ⟨s8.put ff,_,_,_,_,_,_,_,B9,by rw[à];lia,by rw[à,ē];lia,λ q hq=>?_,CO _ Ij,by rw[à];lia,by rw[show gj+1 - (i+1)=gj - i by lia];exact ye,((Ik.mono (s6.trans s7).ts).mono (b8.ts B7.dic.mut)).mono (YQ.ts Fx),rfl⟩;rw[à,ē];rcases ñ.1 hq with hq | hq
       ·obtain⟨h1,h2⟩:=wc q hq;exact⟨h1,by lia⟩
       ·rw[é] at hq;subst hq;exact⟨sw,by show (r++[(i:Int)]).length < _;rw[à,ē];lia⟩
   ·
    rintro ad H5 zF;refine ĸ λ _ ŉ=>?_;obtain⟨s5,fs,us,gu,w8,w9,ww,Ed,B5,Ee,Ef,wc,Ij,lf,ye,Ik,rfl⟩:=zF;refine ŉ ?_;rw[ahq] at ye;refine (aK _ rfl (aX _ _ rfl ⟨rfl,s5,p+1,(eA8 fs us gu _ _ _ _ _ rfl ⟨B5,Ee,Ef,wc,?_,rfl⟩)⟩));rw[<- ye];show iH dD nxt fin gj im (im+1 - (p+1)) (p+1) fs=iH dD nxt fin gj im (im - p) (p+1) fs;rw[show im+1 - (p+1)=im - p by lia]
  ·
   have hN:¬ (p:Int) < us.length:=by simpa using hN
   rw[ER (by lia)] at hb;refine (aK _ rfl ⟨(show 2<=sizeLine by decide),λ tp uc=>?_⟩);have s8:=È (o:=HO.tup [.non,.ref fl]) uc;have B8:=B4.same s8;exact kO fs hb.symm tp fl us _ (s4.trans s8) (Ì aB) B8.lst ff B8.its (λ q hq=>(Bj q hq).1) Hu
end
def gN (n:Nat):V:=.int (n:Int)
def zT (K:Ç):Sp:=λ vs H Q _=>∃ (l:Á) (us:List V) (ds:List L2.D) (S:L2.D),vs=[.ref l]/\H l=some (.lst us)/\Paired (λ d v=>KeyD K H S d v) ds us/\ds.length<=1000/\
 ∀ r H',aE H H'->H' r=some (.lst ((dI ds).map gN))->H r=none->Q (.ref r) H'
theorem pW:FnScope ["signs","numbers","sign"] ["signs"] (aL (bW 27)):={}
theorem yH {f:Á}{fd:FuncData} (F:Fun K "numbered" "numbered" (bW 27) f fd) (T:Txt mg):FnOk P w K mg base kA 1 f fd ["signs"] (zT K):=by
 refine F.ok pW (λ vs H Q E h=>?_) (λ ja A outer s H vs Q E hr h=>?_)
 ·obtain⟨l,us,ds,S,rfl,_⟩:=h;rfl
 ·obtain⟨l,us,ds,S,rfl,hl,pr,gy,k⟩:=h;have sc:=pW;have vd:us.length=ds.length:=(å pr).symm;refine⟨_,(aD (eF (i:=1) sc.nd rfl (Or.inr rfl) rT)
   (aD (cX ï rfl (cL (K:=K) rfl (pv 0)) (gL 2 sc.nd) (aI (cZ (GF (P:=P) (w:=w) (K:=K) rfl rfl rfl hr.units (pv 1) (pv 2) (bB (AM (P:=P) (w:=w) (K:=K) rfl rfl rfl) rfl T.b_len PySem.boot_len (aA (pv 1) aC)) ⟨rfl,rfl,rfl,rfl⟩))))
   (aI (bG (eW (λ _ _ h=>h) rfl (LcOk.mk (N':=["sign","numbers"]) (fr:=[none,some 1]) rfl ⟨rfl,trivial⟩ rfl rfl rfl rfl rfl ⟨⟨_,rfl,rfl,rfl,rfl⟩,trivial⟩) (cL (K:=K) rfl (pv 0)) (λ _ _ _=>(gC 0 ["sign","numbers"])) (λ _ _ _=>bS) (λ _ _ _=>(qA (uN (P:=P) (w:=w) (K:=K) rfl rfl rfl hr.units) (pv 1) (pv 0) (λ _ _=>rfl)))))))),?_⟩
  refine λ sd qw=>?_;have Cr:H sd=none:=qw;have s1:aE H (upd H sd (.dK [])):=È qw;have g1:upd H sd (.dK []) sd=some (.dK []):=aB;generalize upd H sd (.dK [])=H1 at s1 g1 ⊢;refine (aK _ rfl (aK l rfl ⟨⟨_,Ë (s1 _ _ hl)⟩,oP (K:=K) (a:=l) (xs:=us) (λ j ad H'=>aE H H'/\bR P w K H' sd S (gJ 0 (aQ (ds.take j)))/\∃ v2,ad=[some (.ref l),some (.ref sd),v2]) ?_ ?_ ?_ ?_⟩))
  ·exact⟨s1,bR.new g1,_,rfl⟩
  ·rintro i ad H' _ ⟨s2,_⟩;exact Ë (s2 _ _ hl)
  ·rintro j u ad H2 hu ⟨s2,dd,v2,rfl⟩;obtain⟨d,hd,kd⟩:=ď pr hu;have hj:=(Ò.mp hu).1;have qr:(aQ (ds.take j)).length<=ds.length:=Ĉ (gR _) (by rw[Ø];lia);have ht:aQ (ds.take (j+1))=gY (aQ (ds.take j)) d:=by rw[Ŕ,hd];exact fQ _ _
   refine⟨_,rfl,sd,S,_,rfl,dd,_,rfl,_,rfl,sd,S,_,rfl,dd,S,_,d,dd,kd.mono s2.ts,bU (by rw[lR];lia),λ v hv=>?_,λ hn H4 b4 d4=>?_⟩
   ·refine⟨s2,?_,_,rfl⟩;have hm:d∈aQ (ds.take j):=Classical.byContradiction λ z=>by rw[n9 0 _ z] at hv;cases hv
    rw[ht,dW hm];exact dd
   ·refine⟨λ b o e=>b4 b o (aH e Cr) (s2 b o e),?_,_,rfl⟩;have hm:d∉aQ (ds.take j):=λ z=>by rw[lQ 0 _ z] at hn;cases hn
    rw[kU _ hn,lR] at d4;rw[ht,dX hm,n8,Į];exact d4
  ·rintro ad H2 ⟨s2,dd,v2,rfl⟩;rw[vd,Ù] at dd;refine⟨_,rfl,l,rfl,⟨_,Ë (s2 _ _ hl)⟩,fY (K:=K) (a:=l) (xs:=us) (λ D i r ad H'=>H2 D=none/\aE H2 H'/\H' D=some (.lst r)/\r=((dI ds).take i).map gN/\∃ u,ad=[u,some (.ref sd)])
    (λ D i r ad H' p=>Ë (p.2.1 _ _ (s2 _ _ hl))) (λ D hD=>⟨hD,È hD,aB,rfl,none,rfl⟩) ?_ ?_⟩
   ·rintro D r ad H3 ⟨jx,sm,iw,rfl,_⟩;rw[vd,<- gH ds,Ù] at iw;exact k D H3 (s2.trans sm) iw (s2.free jx)
   ·rintro D i u r ad H3 hu ⟨jx,sm,iw,rfl,v,rfl⟩;obtain⟨d,hd,kd⟩:=ď pr hu;have hi:=(Ò.mp hu).1;have hm:d∈aQ ds:=bY.mpr (Ú hd);refine eO ?_;refine⟨_,rfl,_,rfl,sd,S,_,d,_,rfl,dd.same sm,kd.mono (s2.trans sm).ts,lQ 0 _ hm,iw,bU (by rw[Ê,Ø,gH];lia),jx,sm.put jx,aB,?_,_,rfl⟩;rw[Ŕ,lA hd,Ó,Į];rfl
end Tw
namespace L2
open PySem PySem.Spec PyProof.Rows TwZ
section
variable {X:Cx}{gi:List (Á×Obj)}{σ:St}{H:Hp}{s:Â}
theorem xI {us:List À}{j:Nat}{w:À} (h1:j < us.toArray.size) (h:us[j]? = some w):us.toArray[j]=w:=by
 have:us[j]? = some us.toArray[j]:=by simp
 rw[this] at h;exact â h
theorem zE:∀ (ns ms:List Int),ns.length=ms.length->(List.range ns.length).all (λ j=>decide (ns[j]? = ms[j]?))=decide (ns=ms)
 | [],[],_=>rfl
 | [],_::_,h=>by simp at h
 | _::_,[],h=>by simp at h
 | n::ns,m::ms,h=>by
  have ih:=zE ns ms (by simpa using h);rw[ë,af2,ag9,List.all_map];have e:((λ j=>decide ((n::ns)[j]? = (m::ms)[j]?)) ∘ Nat.succ)=λ j=>decide (ns[j]? = ms[j]?):=by funext j;simp
  rw[e,ih]
  by_cases h1:n=m <;> by_cases h2:ns=ms <;> simp [h1,h2]
def B2 (K:Ç):R2:=λ x y H Q=>∃ (a b:Á) (ns ms:List Int),x=.ref a/\y=.ref b/\bD K H a (ns.map V.int)/\bD K H b (ms.map V.int)/\ns.length=ms.length/\Q (.bl (decide (ns=ms))) H
theorem DB (hu:X.A.units+64 < cLine):jJ X (compareOp .Eq) (B2 X.K):=by
 intro gi s σ H x y v u Q I rx ry h;obtain⟨a,b,ns,ms,rfl,rfl,q1,q2,hl,q⟩:=h;cases rx;cases ry;obtain⟨us,r1,p1,_⟩:=I.list q1;obtain⟨vs,r2,p2,_⟩:=I.list q2;have e1:=r1.length;have e2:=r2.length;rw[Ê] at e1 e2;refine SeqAt.eq_listAt (e:=λ j=>decide (ns[j]? = ms[j]?)) p1.isList p2.isList (by simp;lia) (by lia) (λ j h1 h2=>?_) ?_
 ·have j1:j < ns.length:=by rw[e1];simpa using h1
  have j2:j < ms.length:=by rw[e2];simpa using h2
  obtain⟨w1,g1,t,rfl⟩:=r1.get (i:=j) (x:=.int ns[j]) (by simp);obtain⟨w2,g2,t',rfl⟩:=r2.get (i:=j) (x:=.int ms[j]) (by simp);rw[xI h1 g1,xI h2 g2];have:decide (ns[j]? = ms[j]?)=(ns[j] == ms[j]):=by rw[ä j1,ä j2];by_cases h:ns[j]=ms[j] <;> simp [h]
  rw[this];exact afm _ _ _ _
 ·rw[ê,<- e1,zE ns ms hl];exact⟨.bl _,H,I,rfl,q⟩
theorem A2 {K:Ç} (hK:X.K=K) (hu:X.A.units+64 < cLine):jJ X (compareOp .Eq) (B2 K):=by subst hK;exact DB hu
end
end L2
namespace Tw
open PySem L2
def uZ (K:Ç) (H:Hp) (row:List (Nat×Bool)) (u:V):Prop:=∃ a vs,u=.ref a/\H a=some (.lst vs)/\Paired (λ (p:Nat×Bool) v=>∃ q,v=.ref q/\bC K H q [gN p.1,.bl p.2]) row vs
def jZ (K:Ç) (H:Hp) (ml:Á) (m:iK):Prop:=∃ us,H ml=some (.lst us)/\Paired (uZ K H) m us
theorem uZ.same {K:Ç}{H H':Hp}{row:List (Nat×Bool)}{u:V} (h:uZ K H row u) (s:aE H H'):uZ K H' row u:=by
 obtain⟨a,vs,e,h1,h2⟩:=h;exact⟨a,vs,e,s _ _ h1,ì h2 λ _ _ ⟨q,e,z⟩=>⟨q,e,s.tup z⟩⟩
theorem jZ.same {K:Ç}{H H':Hp}{ml:Á}{m:iK} (h:jZ K H ml m) (s:aE H H'):jZ K H' ml m:=by
 obtain⟨us,h1,h2⟩:=h;exact⟨us,s _ _ h1,ì h2 λ _ _ z=>z.same s⟩
structure MachOk (m:iK) (wd:Nat):Prop where
 len:m.length<=1000
 wid:∀ row∈m,row.length=wd
 wd:wd<=1001
 lt:∀ row∈m,∀ p∈row,p.1 < m.length
theorem tZ (xs:List Int):(L2.D.tup (xs.map L2.D.int)).depth=1:=by
 rw[L2.D.depth,jD _ hU]
theorem wW (xs:List Bool):(L2.D.tup (xs.map L2.D.bl)).depth=1:=by
 rw[L2.D.depth,jD _ yX]
theorem yQ {K:Ç}{H:Hp}:∀ xs:List Int,IsL K H (xs.map L2.D.int) (xs.map V.int)
 | []=>by rw[û,L2.IsL];rfl
 | x::xs=>by rw[ã,ã,L2.IsL];exact (aX _ _ rfl ⟨by rw[L2.Is],yQ xs⟩)
theorem BM {K:Ç}{H:Hp}:∀ xs:List Bool,IsL K H (xs.map L2.D.bl) (xs.map V.bl)
 | []=>by rw[û,L2.IsL];rfl
 | x::xs=>by rw[ã,ã,L2.IsL];exact (aX _ _ rfl ⟨by rw[L2.Is],BM xs⟩)
def AC (row:List Bool):L2.D:=.tup (row.map L2.D.bl)
def yO (z:Nat×List Nat):L2.D:=.tup [.int (z.1:Int),.tup ((z.2.map λ (n:Nat)=>(n:Int)).map L2.D.int)]
theorem KR {K:Ç}{H:Hp}{a:Á}{row:List Bool}{wd:Nat} (h:bC K H a (row.map V.bl)) (hw:row.length=wd):KeyD K H (.tup (List.replicate wd (.bl false))) (AC row) (.ref a):=by
 refine⟨?_,?_,?_,?_,a,rfl⟩
 ·show sh (.tup (row.map L2.D.bl))=_;rw[sh,vR,hw]
 ·show (L2.D.tup (row.map L2.D.bl)).depth<=7;rw[wW];decide
 ·show dF (.tup (row.map L2.D.bl));rw[dF];exact mY _
 ·show Is K H (.tup (row.map L2.D.bl)) _;rw[L2.Is];exact (aX a _ rfl ⟨h,BM row⟩)
theorem KQ {K:Ç}{H:Hp}{a b:Á}{z:Nat×List Nat}{wd:Nat} (h:bC K H a [gN z.1,.ref b]) (hb:bC K H b (z.2.map gN)) (hw:z.2.length=wd):KeyD K H (.tup [.int 0,.tup (List.replicate wd (.int 0))]) (yO z) (.ref a):=by
 refine⟨?_,?_,?_,?_,a,rfl⟩
 ·show sh (.tup [.int (z.1:Int),.tup ((z.2.map λ (n:Nat)=>(n:Int)).map L2.D.int)])=_;rw[sh,gZ,gZ,gZ,sh,sh,nU,Ê,hw]
 ·show (L2.D.tup [.int (z.1:Int),.tup ((z.2.map λ (n:Nat)=>(n:Int)).map L2.D.int)]).depth<=7;rw[L2.D.depth,bV,bV,bV,hU,tZ];decide
 ·show dF (.tup [.int (z.1:Int),.tup ((z.2.map λ (n:Nat)=>(n:Int)).map L2.D.int)]);rw[dF,cQ,cQ,cQ,dF,dF];exact⟨trivial,iR _,trivial⟩
 ·show Is K H (.tup [.int (z.1:Int),.tup ((z.2.map λ (n:Nat)=>(n:Int)).map L2.D.int)]) _;refine Ô (ds:=[.int (z.1:Int),.tup ((z.2.map λ (n:Nat)=>(n:Int)).map L2.D.int)]) h (.cons (by rw[L2.Is];rfl) (.cons (by
   rw[L2.Is];exact⟨b,_,rfl,hb,by have:=yQ (K:=K) (H:=H) (z.2.map λ (n:Nat)=>(n:Int));rw[ú (g:=V.int)] at this;exact this⟩) .nil))
theorem HF {a b:List Bool} (h:AC a=AC b):a=b:=by
 injection h with h;exact (Œ λ x y e=>by injection e).mp h
theorem HE {a b:Nat×List Nat} (h:yO a=yO b):a=b:=by
 injection h with h;injection h with h1 h;injection h with h2 _;injection h1 with h1;injection h2 with h2;have h2:=(Œ λ x y (e:L2.D.int x=L2.D.int y)=>by injection e).mp h2;have h2:=(Œ λ (x y:Nat) (e:(x:Int)=(y:Int))=>by lia).mp h2;exact Prod.ext (by lia) h2
def vK (K:Ç):Sp:=λ vs H Q _=>∃ (ml:Á) (m:iK) (wd:Nat),vs=[.ref ml]/\jZ K H ml m/\MachOk m wd/\
 ∀ n r H',aE H H'->H' r=some (.lst ((aM m n).map gN))->jW m (aM m n)=aM m n->H r=none->Q (.ref r) H'
theorem pV:FnScope ["machine","rooms","finer"] ["machine"] (aL (bW 26)):={}
theorem yG {f f1:Á}{fd ue:FuncData} (F:Fun K "rooms_of" "rooms_of" (bW 26) f fd) (T:Txt mg) (nu:Callee P w K mg base "numbered" ["signs"] 1 (zT K) f1 ue):FnOk P w K mg base kA 2 f fd ["machine"] (vK K):=by
 refine F.ok pV (λ vs H Q E h=>?_) (λ ja A outer s H vs Q E hr h=>?_)
 ·obtain⟨ml,m,wd,rfl,_⟩:=h;rfl
 ·refine ĸ λ _ ŉ=>?_;obtain⟨ml,m,wd,rfl,⟨us,As,pr⟩,zn,k⟩:=h;refine ŉ ?_;have sc:=pV;have vd:us.length=m.length:=(å pr).symm;have hm:=zn.len;have Pm:=zn.wd;refine⟨_,(aD (eF (i:=1) sc.nd rfl (Or.inr rfl) (eX nu hr (aA (eW (λ _ _ h=>h) rfl (LcOk.mk (N':=["pairs"]) (fr:=[none]) rfl trivial rfl rfl rfl rfl rfl trivial) (cL (K:=K) rfl (pv 0)) (λ _ _ _=>(gC 0 ["pairs"])) (λ _ _ _=>bS) (λ _ _ _=>(aW (bI (K:=K) rfl) rfl T.b_tuple bQ (aA (eW (λ _ _ h=>h) rfl (LcOk.mk (N':=["behind","tips"]) (fr:=[none,none]) rfl trivial rfl rfl rfl rfl rfl trivial) (cL (K:=K) rfl (pv 0)) (λ _ _ _=>(bA (K:=K) (n:=2) rfl rfl (aG (gC 0 ["behind","tips"]) (aG (gC 1 ["behind","tips"]) aZ)))) (λ _ _ _=>bS) (λ _ _ _=>(pv 1))) aC)))) aC)))
   (aI (kW ï (eU eA) (aD (pL 2 sc.nd (eX nu hr (aA (eW (λ _ _ h=>h) rfl (LcOk.mk (N':=["state","pairs","rooms"]) (fr:=[none,none,some 1]) rfl ⟨rfl,trivial⟩ rfl rfl rfl rfl rfl ⟨⟨_,rfl,rfl,rfl,rfl⟩,trivial⟩) (rS (K:=K) rfl rfl T.b_enumerate (aA (pv 0) aC)) (λ _ _ _=>(bA (K:=K) (n:=2) rfl rfl (aG (gC 0 ["state","pairs","rooms"]) (aG (gC 1 ["state","pairs","rooms"]) aZ)))) (λ _ _ _=>bS) (λ _ _ _=>(aU (aA (px K (pv 2) (pv 0)) (aA (aW (bI (K:=K) rfl) rfl T.b_tuple bQ (aA (eW (λ _ _ h=>h) rfl (LcOk.mk (N':=["behind","tips","rooms"]) (fr:=[none,none,some 2]) rfl ⟨rfl,trivial⟩ rfl rfl rfl rfl rfl ⟨⟨_,rfl,rfl,rfl,rfl⟩,trivial⟩) (cL (K:=K) rfl (pv 1)) (λ _ _ _=>(bA (K:=K) (n:=2) rfl rfl (aG (gC 0 ["behind","tips","rooms"]) (aG (gC 1 ["behind","tips","rooms"]) aZ)))) (λ _ _ _=>bS) (λ _ _ _=>(px K (pv 2) (pv 0)))) aC)) aC))))) aC)))
   (aD (dA (bF (A2 (K:=K) rfl hr.units) (pv 2) (pv 1) (bH _)) (aI (bG (pv 1))) bK)
   (aI (eF (i:=1) sc.nd rfl (Or.inr rfl) (pv 2)))))))),?_⟩
  refine⟨_,rfl,ml,rfl,⟨_,Ë As⟩,fY (K:=K) (a:=ml) (xs:=us) (λ D i r ad H'=>H D=none/\aE H H'/\H' D=some (.lst r)/\Paired (λ d v=>KeyD K H' (.tup (List.replicate wd (.bl false))) d v) ((m.take i).map λ row=>AC (row.map (·.2))) r/\∃ u,ad=[u])
   (λ D i r ad H' p=>Ë (p.2.1 _ _ As)) (λ D hD=>⟨hD,È hD,aB,.nil,none,rfl⟩) ?_ ?_⟩
  rotate_left
  ·rintro D i u r ad H1 hu ⟨jx,sm,iw,iA,v,rfl⟩;obtain⟨row,pf,ra⟩:=ď pr hu;have hi:=(Ò.mp hu).1;obtain⟨a,vs,rfl,ha,Bk⟩:=ra.same sm;have Io:vs.length=row.length:=(å Bk).symm;have Qn:=zn.wid row (Ú pf);have lf:r.length=(m.take i).length:=by rw[<- å iA,Ê]
   refine eO ?_;refine⟨_,rfl,a,rfl,⟨_,Ë ha⟩,fY (K:=K) (a:=a) (xs:=vs) (λ D2 j r2 ad H'=>H1 D2=none/\aE H1 H'/\H' D2=some (.lst r2)/\r2=((row.take j).map (·.2)).map V.bl/\∃ x y,ad=[x,y])
    (λ D2 j r2 ad H' p=>Ë (p.2.1 _ _ ha)) (λ D2 rb=>⟨rb,È rb,aB,rfl,none,none,rfl⟩) ?_ ?_⟩
   rotate_left
   ·rintro D2 j y r2 ad H2 hy zF;refine ĸ λ _ ŉ=>?_;obtain⟨rb,jb,mw,rfl,v1,v2,rfl⟩:=zF;refine ŉ ?_;obtain⟨p,hp,q,rfl,qq⟩:=ď Bk hy;have hj:=(Ò.mp hy).1;refine (aX q _ rfl ⟨jb.tup qq,rfl,(aX _ _ rfl (aX _ _ rfl ⟨rfl,?_⟩))⟩);refine fI ⟨_,rfl,mw,bU (by rw[Ê,Ê,Ø];lia),rb,jb.put rb,aB,?_,_,_,rfl⟩;rw[aO hp];simp
   ·rintro D2 r2 ad H2 ⟨rb,jb,mw,rfl,_⟩;rw[Io,Ù] at mw;refine (aX D2 _ rfl (.inl ⟨Ë mw,λ tp uc=>?_⟩));have s3:=È (o:=HO.tup ((row.map (·.2)).map V.bl)) uc;refine⟨s3 _ _ (jb _ _ iw),bU (by rw[lf,Ø];lia),jx,((sm.trans jb).trans s3).put jx,aB,?_,_,rfl⟩;have ts:bJ K H1 (upd (upd H2 tp (.tup ((row.map (·.2)).map V.bl))) D (.lst (r++[.ref tp]))):=(jb.trans s3).ts.trans (ö (K:=K) (H:=upd H2 tp (.tup ((row.map (·.2)).map V.bl))) (t:=D) ç (by rw[s3 _ _ (jb _ _ iw)];exact trivial));rw[aO pf,Ó];refine ğ (ì iA λ _ _ h=>h.mono ts) (KR ?_ (by rw[Ê];exact Qn));exact (ö (K:=K) (H:=upd H2 tp (.tup ((row.map (·.2)).map V.bl))) (t:=D) ç (by rw[s3 _ _ (jb _ _ iw)];exact trivial)) _ _ (Ì aB)
  ·rintro D r ad H1 ⟨jx,sm,iw,iA,_⟩;rw[vd,Ù] at iA;refine⟨D,r,_,_,rfl,iw,iA,by rw[Ê];exact hm,λ rl H2 s2 lf Bl=>?_⟩;have e0:dI (m.map λ row=>AC (row.map (·.2)))=aM m 0:=by
    show _=dI (m.map λ r=>r.map (·.2));rw[show (m.map λ row=>AC (row.map (·.2)))=(m.map λ r=>r.map (·.2)).map AC by rw[ú];rfl];exact oC λ a _ b _ e=>HF e
   rw[e0] at lf;refine⟨λ q ad H'=>aE H H'/\∃ (n:Nat) (rl:Á) (v2:Option V),q=m.length - (aQ (aM m n)).length/\H' rl=some (.lst ((aM m n).map gN))/\H rl=none/\ad=[some (.ref ml),some (.ref rl),v2],⟨_,sm.trans s2,(uS 0 rl _ rfl ⟨lf,sm.free Bl,rfl⟩)⟩,?_⟩;clear lf Bl iw iA jx e0 sm s2;rintro q ad H3 zF;refine ĸ λ _ ŉ=>?_;obtain⟨s3,n,rl,v2,rfl,lf,Bl,rfl⟩:=zF;refine ŉ ?_;refine (aK _ rfl (iC ?_));refine⟨λ ad H'=>aE H H'/\∃ (rl:Á) (v2:Option V),H' rl=some (.lst ((aM m (n+1)).map gN))/\aM m (n+1)≠aM m n/\H rl=none/\ad=[some (.ref ml),some (.ref rl),v2],?_,?_⟩
   ·rintro ad H' zF;refine ĸ λ _ ŉ=>?_;obtain⟨h1,YR,YS,h2,h3,h4,h5⟩:=zF;refine ŉ ?_;have h6:=AG (m:=m) (n:=n) h3;have h7:=D5 m (n+1);have h6:(aQ (aM m n)).length < (aQ (aM m (n+1))).length:=h6;exact⟨m.length - (aQ (aM m (n+1))).length,by lia,h1,n+1,(aX YR YS rfl ⟨h2,h4,h5⟩)⟩
   have Ip:=s3 _ _ As;refine⟨_,rfl,false,ml,rfl,⟨_,Ë Ip⟩,GW (K:=K) (t:=false) (a:=ml) (xs:=us) (λ D i r ad H'=>H3 D=none/\aE H3 H'/\H' D=some (.lst r)/\Paired (λ d v=>KeyD K H' (.tup [.int 0,.tup (List.replicate wd (.int 0))]) d v) (((dG m (aM m n)).take i).map yO) r/\∃ u1 u2,ad=[u1,u2,some (.ref rl)])
    (λ D i r ad H' p=>Ë (p.2.1 _ _ Ip)) (λ D hD=>⟨hD,È hD,aB,.nil,none,none,rfl⟩) ?_ ?_⟩
   rotate_left
   ·rintro D i u r ad H4 tt hu ⟨jx,sm,iw,iA,w1,w2,rfl⟩ Iq;obtain⟨row,pf,ra⟩:=ď pr hu;have hi:=(Ò.mp hu).1;have s5:=È (o:=HO.tup [.int (i:Int),u]) Iq;obtain⟨a,vs,rfl,ha,Bk⟩:=ra.same ((s3.trans sm).trans s5);have Io:vs.length=row.length:=(å Bk).symm;have Qn:=zn.wid row (Ú pf);have Ir:=Ú pf;have xb:=(sm.trans s5) _ _ lf;have hln:=cA m n;obtain⟨ri,At⟩:∃ ri,(aM m n)[i]? = some ri:=⟨_,ä (by lia)⟩;have YT:=g7 At pf;have Cv:r.length=((dG m (aM m n)).take i).length:=by rw[<- å iA,Ê]
    refine (aX tt _ rfl ⟨Ì aB,rfl,(aX _ _ rfl (aX _ _ rfl ⟨rfl,?_⟩))⟩);refine fI ?_;generalize upd H4 tt (.tup [.int (i:Int),.ref a])=H5 at s5 ha Bk xb ⊢;refine⟨_,rfl,_,rfl,.inl ⟨rl,_,(i:Int),gN ri,rfl,rfl,Ë xb,bN (by rw[Ð,At];rfl),?_⟩⟩;refine⟨_,rfl,a,rfl,⟨_,Ë ha⟩,fY (K:=K) (a:=a) (xs:=vs) (λ D2 j r2 ad H'=>H5 D2=none/\aE H5 H'/\H' D2=some (.lst r2)/\r2=((row.take j).map λ q=>(aM m n).getD q.1 0).map gN/\∃ x y,ad=[x,y,some (.ref rl)])
     (λ D2 j r2 ad H' p=>Ë (p.2.1 _ _ ha)) (λ D2 rb=>⟨rb,È rb,aB,rfl,none,none,rfl⟩) ?_ ?_⟩
    rotate_left
    ·rintro D2 j y r2 ad H6 hy zF;refine ĸ λ _ ŉ=>?_;obtain⟨rb,jb,mw,rfl,v1,v3,rfl⟩:=zF;refine ŉ ?_;obtain⟨p,hp,q,rfl,qq⟩:=ď Bk hy;have hj:=(Ò.mp hy).1;have kc:=zn.lt row Ir p (Ú hp);obtain⟨rp,Iu⟩:∃ rp,(aM m n)[p.1]? = some rp:=⟨_,ä (by lia)⟩;refine (aX q _ rfl ⟨jb.tup qq,rfl,(aX _ _ rfl (aX _ _ rfl ⟨rfl,?_⟩))⟩);refine fI ⟨_,rfl,_,rfl,.inl ⟨rl,_,(p.1:Int),gN rp,rfl,rfl,Ë (jb _ _ xb),bN (by rw[Ð,Iu];rfl),mw,bU (by rw[Ê,Ê,Ø];lia),rb,jb.put rb,aB,?_,_,_,rfl⟩⟩;rw[aO hp,Ó,Ó,ū,ū,Ē,Iu];rfl
    ·rintro D2 r2 ad H6 ⟨rb,jb,mw,rfl,_⟩;rw[Io,Ù] at mw;refine (aX D2 _ rfl (.inl ⟨Ë mw,λ tp uc=>⟨(show 2<=sizeLine by decide),λ t2 uu=>?_⟩⟩));have s7:=È (o:=HO.tup ((row.map λ q=>(aM m n).getD q.1 0).map gN)) uc;have s8:=È (o:=HO.tup [gN ri,.ref tp]) uu;have g8:upd (upd H6 tp (.tup ((row.map λ q=>(aM m n).getD q.1 0).map gN))) t2 (.tup [gN ri,.ref tp]) D=some (.lst r):=s8 _ _ (s7 _ _ (jb _ _ (s5 _ _ iw)));have k1:bC K (upd (upd H6 tp (.tup ((row.map λ q=>(aM m n).getD q.1 0).map gN))) t2 (.tup [gN ri,.ref tp])) t2 [gN ri,.ref tp]:=Ì aB;have k2:bC K (upd (upd H6 tp (.tup ((row.map λ q=>(aM m n).getD q.1 0).map gN))) t2 (.tup [gN ri,.ref tp])) tp ((row.map λ q=>(aM m n).getD q.1 0).map gN):=s8.tup (Ì aB);have om:=s7.trans s8;generalize upd (upd H6 tp (.tup ((row.map λ q=>(aM m n).getD q.1 0).map gN))) t2 (.tup [gN ri,.ref tp])=H8 at om g8 k1 k2 ⊢;have b9:bJ K H8 (upd H8 D (.lst (r++[.ref t2]))):=ö (t:=D) ç (by rw[g8];exact trivial);refine⟨g8,bU (by rw[Cv,Ø,j4 (cA m n)];lia),jx,(((sm.trans s5).trans jb).trans om).put jx,aB,?_,_,_,rfl⟩;rw[aO YT,Ó];refine ğ (ì iA λ _ _ h=>h.mono (((s5.trans jb).trans om).ts.trans b9)) (KQ (z:=(ri,row.map λ q=>(aM m n).getD q.1 0)) (b9 _ _ k1) (b9 _ _ k2) (by rw[Ê];exact Qn))
   ·rintro D r ad H4 ⟨jx,sm,iw,iA,_⟩;rw[vd,<- j4 (cA m n),Ù] at iA;refine⟨D,r,_,_,rfl,iw,iA,by rw[Ê,j4 (cA m n)];exact hm,λ fl H5 s5 mf Qo=>?_⟩;have e1:dI ((dG m (aM m n)).map yO)=aM m (n+1):=oC λ a _ b _ e=>HE e;rw[e1] at mf;have xb:=(sm.trans s5) _ _ lf;refine⟨_,rfl,_,rfl,fl,rl,(aM m (n+1)).map λ (n:Nat)=>(n:Int),(aM m n).map λ (n:Nat)=>(n:Int),rfl,rfl,Ë (by rw[ú];exact mf),Ë (by rw[ú];exact xb),by rw[Ê,Ê,cA,cA],_,rfl,?_⟩;refine gX (λ hT=>?_) λ hN=>?_
    ·have hT:aM m (n+1)=aM m n:=(Œ λ (x y:Nat) (e:(x:Int)=(y:Int))=>by lia).mp (ĕ hT);refine (aK _ rfl ?_);exact k n rl H5 ((s3.trans sm).trans s5) xb hT Bl
    ·have hN:aM m (n+1)≠aM m n:=λ z=>hN (ò (by rw[z]));refine (aK _ rfl ?_);exact⟨(s3.trans sm).trans s5,fl,_,mf,hN,(s3.trans sm).free Qo,rfl⟩
end Tw
namespace L2
open PySem PySem.Spec PyProof.Rows TwZ
section
variable {X:Cx}{gi:List (Á×Obj)}{σ:St}{H:Hp}{s:Â}
end
section
variable {H:Hp}
end
section
variable {X:Cx}
def Pl (H:Hp) (a:Á) (xs:List V):Prop:=∃ o:Obj,H a=some (.frz o (.tup xs))/\o.dict=none
theorem Pl.sq {H:Hp}{a:Á}{xs:List V} (h:Pl H a xs):bC K H a xs:=by obtain⟨o,h,_⟩:=h;exact .inl (.inr ⟨o,h⟩)
def LM (K:Ç):List V->Hp->VK->Prop:=λ xs H Q=>∃ p ys,xs=[.ref p]/\bD K H p ys/\∀ (l:Á) (o:Obj),H l=none->o.dict=none->Q (.ref l) (upd H l (.frz o (.tup ys)))
theorem EE:dZ X (.type "tuple") (LM X.K):=by
 intro gi s σ H xs us Q I r h;obtain⟨p,ys,rfl,hq,q⟩:=h;obtain⟨u,rfl,rx⟩:=pU r;cases rx;obtain⟨its,r',pl,hz⟩:=I.list hq;have gy:=r'.length;refine call_tuple_list pl.isList (λ h' kp=>?_) (by simp only [ê] <;> lia);have I1:Inv X gi σ H { s with heap:=h' }:=I.kept (t':=s.toks) kp;have I2:Inv X gi σ (upd H h'.objs.size (.frz { cls:=.type "tuple",data:=.seq its.toArray } (.tup ys))) { s with heap:=h'.push { cls:=.type "tuple",data:=.seq its.toArray } }:=
  I1.laid (t':=s.toks) (λ b o e=>Í _ e) (Î _) (show cG X.prog X.w _ _ _ (.frz _ (.tup ys)) from ⟨ß _ rfl,hz,its,r',IsTup.new _ _⟩)
 exact⟨.ref h'.objs.size,_,I2,rfl,q _ _ (I1.hok.fresh (Î _)) rfl⟩
theorem AK (hK:X.K=K):dZ X (.type "tuple") (LM K):=by subst hK;exact EE
end
end L2
namespace Tw
open PySem L2
def PV (K:Ç) (H:Hp) (t:Tick) (v:V):Prop:=∃ (f:Á) (st:V) (tp:Á),v=.ref f/\bC K H f [st,.ref tp,.int t.ground]/\Is K H (J3 t.held t.coming t.doors) st/\Pl H tp (t.tip.map λ (j:Nat)=>V.int (j:Int))
def vF (K:Ç):Sp:=λ args H Q _=>∃ (x y:V) (z:Á) (gk:Net) (gw gm gp:List Int) (gn:List Bool),args=[x,y,.ref z]/\Is K H (iG gk) x/\Is K H (J3 gw gm gn) y/\bC K H z (gp.map V.int)/\
 NetOk gk/\StOk gk gw gm gn/\gp.length=gk.vs.length/\∀ (v:V) H',aE H H'->PV K H' (mX gk gw gm gp gn) v->Q v H'
theorem qF {f fF fS fD:Á}{fd Qp Hm Dy:FuncData} (F:Fun K "tick_behind" "tick_behind" (bW 13) f fd) (T:Txt mg) (zo:Callee P w K mg base "filled" ["spouts","state","poured"] 1 (rJ K) fF Qp)
  (zp:Callee P w K mg base "settle" ["vessel","has","sent"] 3 (rG K) fS Hm) (nv:Callee P w K mg base "doors_behind" ["vessels","doors","tipped"] 1 (vN K) fD Dy):FnOk P w K mg base kA 4 f fd ["net","state","poured"] (vF K):=by
 refine F.ok kN (λ vs H Q E h=>?_) (λ ja A outer s H vs Q E hr h=>?_)
 ·refine ĸ λ _ ŉ=>?_;obtain⟨x,y,z,gk,gw,gm,gp,gn,rfl,_⟩:=h;refine ŉ ?_;rfl
 ·refine ĸ λ _ ŉ=>?_;obtain⟨x,y,z,gk,gw,gm,gp,gn,rfl,hx,hy,qz,il,mh,lp,k⟩:=h;refine ŉ ?_;have sc:=kN;have hu:=M8 hr;refine⟨_,(aD (dU (pv 0) (bA (K:=K) (n:=2) rfl rfl (aG (gL 3 sc.nd) (aG (gL 4 sc.nd) aZ))))
   (aD (dU (aU (aA (bM aC) (aA (bM aC) (aA rT aC)))) (bA (K:=K) (n:=3) rfl rfl (aG (gL 5 sc.nd) (aG (gL 6 sc.nd) (aG (oA (i:=7) sc.nd rfl (Or.inr rfl)) aZ)))))
   (aD (cX ï rfl (rS (K:=K) rfl rfl T.b_enumerate (aA (eX zo hr (aA (pv 4) (aA (pv 1) (aA (pv 2) aC)))) aC)) (bA (K:=K) (n:=2) rfl rfl (aG (gL 8 sc.nd) (aG (gL 9 sc.nd) aZ))) (aD (dU (eX zp hr (aA (px K (pv 3) (pv 8)) (aA (pv 9) (aA (pv 7) aC)))) (bA (K:=K) (n:=2) rfl rfl (aG (gL 10 sc.nd) (aG (gL 11 sc.nd) aZ))))
   (aD (cZ (eJ (K:=K) rfl ù Ċ ċ cE (pv 5) (aA (pv 10) aC)))
   (aI (dA (eU (pv 11)) (aI (cZ (eJ (K:=K) rfl ù Ċ ċ cE (pv 6) (aA (pv 8) aC)))) bK)))))
   (aD (h9 (i:=12) sc.nd rfl rfl (λ _ _ h=>h) rfl (LcOk.mk (N':=["number","sent"]) (fr:=[none,some 7]) rfl ⟨rfl,trivial⟩ rfl rfl rfl rfl rfl ⟨⟨_,rfl,rfl,rfl,rfl⟩,trivial⟩) (cD rfl T.b_range (aA (pC K T.b_len (pv 3)) aC)) (λ _ _ _=>(gC 0 ["number","sent"])) (λ _ _ _=>bS) (λ _ _ _=>(rU hu (pv 1) (pv 0) aF ⟨rfl,rfl,rfl,rfl⟩)))
   (aD (pL 13 sc.nd (eX nv hr (aA (pv 3) (aA (px K (pv 1) aF) (aA (pv 6) aC)))))
   (aI (bG (aU (aA (aU (aA (aW (bI (K:=K) rfl) rfl T.b_tuple bQ (aA (pv 5) aC)) (aA (aW (bI (K:=K) rfl) rfl T.b_tuple bQ (aA (pv 12) aC)) (aA (pv 13) aC)))) (aA (aW (AK (K:=K) rfl) rfl T.b_tuple bQ (aA (pv 6) aC)) (aA (rU hu (pv 7) fU aF ⟨rfl,rfl,rfl,rfl⟩) aC))))))))))),?_⟩
  refine ĸ λ _ ŉ=>?_;obtain⟨ax,av,as,xs,ys,rfl,qx,qv,lv,qs,ls⟩:=gO hx;refine ŉ ?_;refine ĸ λ _ ŉ=>?_;obtain⟨ay,b1,b2,b3,rfl,qy,q1,q2,q3⟩:=AY hy;refine ŉ ?_;have nt:xs.length=gk.vs.length:=by rw[lv.length,Ê]
  refine⟨_,rfl,ax,_,rfl,qx,rfl,_,_,rfl,_,_,rfl,rfl,?_⟩;refine⟨æ _,λ hl Mp=>⟨æ _,λ tl ve=>λ sd qw=>⟨(show 3<=sizeLine by decide),λ tp uc=>(aX tp _ rfl ⟨Ì aB,rfl,(aX _ _ rfl (aX _ _ rfl (aX _ _ rfl ⟨rfl,?_⟩)))⟩)⟩⟩⟩;have n1:hl≠tl:=aH (show upd H hl (.lst []) hl=_ from aB) ve;have fh:H hl=none:=Mp;have ft:H tl=none:=aE.free (È Mp) ve;have fs:H sd=none:=aE.free ((È Mp).trans (È ve)) qw;have n2:hl≠sd:=aH (by rw[aJ n1];exact aB) qw;have n3:tl≠sd:=aH (show upd (upd H hl (.lst [])) tl (.lst []) tl=_ from aB) qw;have Eg:aE H (upd (upd (upd (upd H hl (.lst [])) tl (.lst [])) sd (.dK [])) tp (.tup [.ref hl,.ref tl,.ref sd])):=(((È Mp).trans (È ve)).trans (È qw)).trans (È uc);have g1:upd (upd (upd (upd H hl (.lst [])) tl (.lst [])) sd (.dK [])) tp (.tup [.ref hl,.ref tl,.ref sd]) hl=some (.lst []):=È uc _ _ (by rw[aJ n2,aJ n1];exact aB);have g2:upd (upd (upd (upd H hl (.lst [])) tl (.lst [])) sd (.dK [])) tp (.tup [.ref hl,.ref tl,.ref sd]) tl=some (.lst []):=È uc _ _ (by rw[aJ n3];exact aB);have g3:upd (upd (upd (upd H hl (.lst [])) tl (.lst [])) sd (.dK [])) tp (.tup [.ref hl,.ref tl,.ref sd]) sd=some (.dK []):=È uc _ _ aB;generalize upd (upd (upd (upd H hl (.lst [])) tl (.lst [])) sd (.dK [])) tp (.tup [.ref hl,.ref tl,.ref sd])=H0 at Eg g1 g2 g3 ⊢;refine (aK _ rfl (aK _ rfl (aK _ rfl ⟨.ref as,.ref ay,z,gk.sps,gw,gm,gp,gn,gk.vs.length,rfl,Ô (Eg.tup qs) (Ö Eg.ts _ _ ls),Ï Eg.ts _ _ hy,Eg.tup qz,mh.h,mh.c,lp,mh.d,il.hi,il.sps,λ ha H1 oz Mq Vv=>?_⟩)));have qr:(aP gk gw gm gp gn).length=gk.vs.length:=by
   unfold aP;rw[hR,jG mh.h mh.c lp]
  have YU:=oz _ _ g1;have Ly:=oz _ _ g2;have YV:=oz _ _ g3;have Vw:hl≠ha:=aH g1 Mq;have Vx:tl≠ha:=aH g2 Mq;have Vy:sd≠ha:=aH g3 Mq;have fa:H ha=none:=Eg.free Mq;refine⟨false,ha,rfl,⟨_,Ë Vv⟩,IA (K:=K) (t:=false) (a:=ha) (xs:=(aP gk gw gm gp gn).map V.int)
   (λ i ad H'=>aE H H'/\H' ha=some (.lst ((aP gk gw gm gp gn).map V.int))/\H' hl=some (.lst ((eE (gk.vs.take i) ((aP gk gw gm gp gn).take i)).map V.int))/\
    H' tl=some (.lst ((bP 0 (gk.vs.take i) ((aP gk gw gm gp gn).take i)).map λ (j:Nat)=>V.int (j:Int)))/\kD H' sd (cO (gk.vs.take i) ((aP gk gw gm gp gn).take i))/\
    ∃ v8 v9 jr ju,ad=[some (.ref ax),some (.ref ay),some (.ref z),some (.ref av),some (.ref as),some (.ref hl),some (.ref tl),some (.ref sd),v8,v9,jr,ju,none,none])
   (λ i ad H' p=>Ë p.2.1) ⟨Eg.trans oz,Vv,by simpa [eE] using YU,by simpa [bP] using Ly,⟨[],YV,by simp,λ k=>rfl⟩,none,none,none,none,rfl⟩ ?_ ?_⟩
  rotate_left
  ·rintro i x0 ad H2 Tt zc ⟨jb,p1,p2,p3,p4,v8,v9,jr,ju,rfl⟩ hT;rw[Ð] at zc;obtain⟨hi,wz,rfl⟩:=ó.mp zc;have hil:i < gk.vs.length:=by rw[<- qr];exact (Ò.mp wz).1
   have hv:gk.vs[i]? = some gk.vs[i]:=by simp [hil]
   have sv:=il.vs _ (ĳ hil);obtain⟨xv,ya,Cj⟩:=lv.get (i:=i) (d:=qK gk.vs[i]) (by rw[Ð,hv];rfl);have Iv:=È (o:=HO.tup [.int (i:Int),.int hi]) hT;refine (aX Tt _ rfl ⟨Ì aB,rfl,(aX _ _ rfl (aX _ _ rfl ⟨rfl,?_⟩))⟩);have jv:aE H (upd H2 Tt (.tup [.int (i:Int),.int hi])):=jb.trans Iv;obtain⟨gu,d1,d2,d3⟩:=p4;have Eh:=lW (gk.vs.take i) ((aP gk gw gm gp gn).take i) λ v Ct=>il.vs v (Ĺ Ct);have Ls:(gk.vs.take i).length<=12:=by rw[Ø];have:=il.hi;lia
   refine (aK _ rfl (aK _ rfl (.inr (.inl (iF av xs i _ rfl ⟨rfl,jv.tup qv,bN ya,(aK _ rfl (aK _ rfl (eA7 xv sd hi gk.vs[i] _ _ _ rfl ⟨Ï jv.ts _ _ Cj,⟨gu,Iv _ _ d1,d2,d3⟩,by lia,sv,λ p H3 bt dg qp=>?_⟩)))⟩)))));refine⟨p,_,rfl,qp,rfl,_,_,rfl,_,_,rfl,rfl,?_⟩;have e1:=bt hl _ n2 (Iv _ _ p2);have e2:=bt tl _ n3 (Iv _ _ p3);have e3:=bt ha _ (Ne.symm Vy) (Iv _ _ p1);have ka:aE H H3:=λ b o e=>bt b o (aH e fs) (jv b o e);have stl:(eE (gk.vs.take i) ((aP gk gw gm gp gn).take i)).length<=12:=by
    rw[jK _ _ (by rw[Ø,Ø,qr])];exact Ls
   have tpl:=lM (gk.vs.take i) ((aP gk gw gm gp gn).take i) 0;refine⟨_,rfl,.inl ⟨rfl,_,Ë e1⟩,_,rfl,hl,_,_,rfl,rfl,e1,aY (by simp;lia),?_⟩;have f1:upd H3 hl (.lst ((eE (gk.vs.take i) ((aP gk gw gm gp gn).take i)).map V.int++[.int (gD gk.vs[i] hi)])) tl=some (.lst ((bP 0 (gk.vs.take i) ((aP gk gw gm gp gn).take i)).map λ (j:Nat)=>V.int (j:Int))):=by rw[aJ (Ne.symm n1)];exact e2
   have s1:=kL gk.vs (aP gk gw gm gp gn) i _ _ hv wz;have s2:=mW gk.vs (aP gk gw gm gp gn) i 0 _ _ hv wz;have s3:=nC gk.vs (aP gk gw gm gp gn) i _ _ hv wz;have Vz:∀ {Hx:Hp},Hx sd=H3 sd->kD Hx sd (cO (gk.vs.take (i+1)) ((aP gk gw gm gp gn).take (i+1))):=λ {Hx} e=>by
    obtain⟨kv,a1,a2,a3⟩:=dg;rw[s3];exact⟨kv,e.trans a1,a2,a3⟩
   refine (aK _ rfl (aK _ rfl ?_));cases ht:kJ gk.vs[i] hi with
   | false=>
    refine fL ?_;rw[ht] at s2;refine⟨ka.put fh,by rw[aJ (Ne.symm Vw)];exact e3,by rw[aB,s1,Ó];rfl,by rw[s2];simpa using f1,Vz (by rw[aJ (Ne.symm n2)]),_,_,_,_,rfl⟩
   | true=>
    refine iC ?_;rw[ht] at s2;refine⟨_,rfl,.inl ⟨rfl,_,Ë f1⟩,_,rfl,tl,_,_,rfl,rfl,f1,aY (by simp;lia),?_⟩;refine⟨(ka.put fh).put ft,by rw[aJ (Ne.symm Vx),aJ (Ne.symm Vw)];exact e3,by rw[aJ n1,aB,s1,Ó];rfl,?_,Vz (by rw[aJ (Ne.symm n3),aJ (Ne.symm n2)]),_,_,_,_,rfl⟩;rw[aB,s2];simp
  ·rintro ad H2 zF;refine ĸ λ _ ŉ=>?_;obtain⟨jb,p1,p2,p3,p4,v8,v9,jr,ju,rfl⟩:=zF;refine ŉ ?_;rw[Ê,qr] at p2 p3 p4;have ek:gk.vs.take gk.vs.length=gk.vs:=Ù;have Qq:(aP gk gw gm gp gn).take gk.vs.length=aP gk gw gm gp gn:=by rw[<- qr,Ù]
   rw[ek,Qq] at p2 p3 p4;obtain⟨gu,d1,d2,d3⟩:=p4;refine⟨_,rfl,av,xs,rfl,.inr (jb.tup qv),_,rfl,by lia,by have:=il.hi;lia,?_⟩;have hn:((xs.length:Nat):Int).toNat=gk.vs.length:=by rw[nt];simp
   rw[hn];refine j9 (n:=gk.vs.length) (λ D i r ad H'=>H2 D=none/\aE H2 H'/\H' D=some (.lst r)/\r=((fA gk.vs.length (cO gk.vs (aP gk gw gm gp gn))).take i).map V.int/\∃ v,ad=[v,some (.ref sd)])
    (λ D hD=>⟨hD,È hD,aB,by simp,none,rfl⟩) ?_ ?_
   rotate_left
   ·rintro D i r ad H' hi ⟨hD,sm,iw,rfl,v,rfl⟩;refine eO ?_;have hg:=AT.k (k:=oJ (some (i:Int))) (sm _ _ d1);refine⟨_,rfl,sd,rfl,.inl ⟨gu,.inl (sm _ _ d1)⟩,_,rfl,_,hg,iw,aY (by simp [fA];have:=il.hi;lia),hD,sm.put hD,aB,?_,_,rfl⟩;have e:(fA gk.vs.length (cO gk.vs (aP gk gw gm gp gn)))[i]? = some (dO (some (i:Int)) (cO gk.vs (aP gk gw gm gp gn))):=by
     unfold fA;simp [hi]
    rw[aO e,Ó];show _++[(cI gu (oJ (some (i:Int)))).getD (.int 0)]=_;rw[d3];rfl
   ·rintro D r ad H3 ⟨hD,sm,iw,rfl,_⟩;have ll:(fA gk.vs.length (cO gk.vs (aP gk gw gm gp gn))).length=gk.vs.length:=by unfold fA;simp
    rw[Ġ (ś ll)] at iw;have jv:aE H H3:=jb.trans sm;refine⟨_,rfl,_,rfl,.inr (.inl ⟨ay,_,2,_,rfl,rfl,jv.tup qy,rfl,_,rfl,.ref av,.ref b3,tl,gk.vs,gn,bP 0 gk.vs (aP gk gw gm gp gn),gk.vs.length,rfl,Ô (jv.tup qv) (Ö jv.ts _ _ lv),Ô (jv.tup q3) (IsL.of_bools _),Ë (sm _ _ p3),λ j hj=>by have:=rD _ _ _ _ hj;lia,λ v hv=>by rw[mh.d];exact il.vs v hv,by rw[mh.d];exact il.sp,λ dp H4 ka Mr=>?_⟩)⟩;obtain⟨da,dxs,rfl,qd,ld⟩:=Mr.un;have c1:=ka _ _ (sm _ _ p2);have c2:=ka _ _ iw;have c3:=ka _ _ (sm _ _ p3);have c4:=ka _ _ (sm _ _ d1);refine (aK _ rfl (aX hl _ rfl (.inl ⟨Ë c1,λ t1 Qr=>?_⟩)));have m1:=È (o:=HO.tup ((eE gk.vs (aP gk gw gm gp gn)).map V.int)) Qr;refine (aK _ rfl (aX D _ rfl (.inl ⟨Ë (m1 _ _ c2),λ t2 uu=>?_⟩)));have m2:=È (o:=HO.tup ((fA gk.vs.length (cO gk.vs (aP gk gw gm gp gn))).map V.int)) uu;refine (aK _ rfl ⟨(show 3<=sizeLine by decide),λ t3 Ei=>?_⟩);have m3:=È (o:=HO.tup [.ref t1,.ref t2,.ref da]) Ei;refine (aK _ rfl (aX tl _ rfl ⟨Ë (m3 _ _ (m2 _ _ (m1 _ _ c3))),λ t4 ob Iw Fu=>?_⟩));have m4:=È (o:=HO.frz ob (.tup ((bP 0 gk.vs (aP gk gw gm gp gn)).map λ (j:Nat)=>V.int (j:Int)))) Iw;have VA:=m4 _ _ (m3 _ _ (m2 _ _ (m1 _ _ c4)));have hg:=AT.k (k:=oJ none) VA;refine (aK _ rfl (aK sd rfl ⟨.inl ⟨gu,.inl VA⟩,_,hg,(show 3<=sizeLine by decide),λ t5 Fy=>?_⟩));have m5:aE _ _:=È (o:=HO.tup [.ref t3,.ref t4,(cI gu (oJ none)).getD (.int 0)]) Fy;have eg:(cI gu (oJ none)).getD (.int 0)=.int (dO none (cO gk.vs (aP gk gw gm gp gn))):=d3 none;rw[eg] at m5 ⊢;have e1:((bP 0 gk.vs (aP gk gw gm gp gn)).map λ (i:Nat)=>L2.D.int (i:Int))=((bP 0 gk.vs (aP gk gw gm gp gn)).map λ (i:Nat)=>(i:Int)).map L2.D.int:=by rw[ú];rfl
    refine k _ _ ((((((jv.trans ka).trans m1).trans m2).trans m3).trans m4).trans m5) ⟨t5,.ref t3,t4,rfl,Ì aB,?_,ob,m5 _ _ aB,Fu⟩;exact Ï m5.ts _ _ (Ï m4.ts _ _ (AZ (Ì aB) (m3.tup (m2.tup (Ì aB))) (m3.tup (Ì aB)) (by
      have:=ld.bools;rw[this] at qd;exact m3.tup (m2.tup (m1.tup qd)))))
def OE (K:Ç) (H:Hp) (a:Á) (xs:List V):Prop:=bC K H a xs\/bD K H a xs
theorem OE.same {H H':Hp}{a:Á}{xs:List V} (h:OE K H a xs) (s:aE H H'):OE K H' a xs:=h.elim (λ h=>.inl (s.tup h)) λ h=>.inr (s.seq h)
theorem P8 {H:Hp}{z:Á}{xs:List V}{i:Int}{v:V}{Q:VK} (h:OE K H z xs) (e:JB xs i=some v) (k:Q v H):zJ K (.ref z) (.int i) H Q:=h.elim (λ h=>.inr (.inl ⟨z,xs,i,v,rfl,rfl,h,e,k⟩)) λ h=>.inl ⟨z,xs,i,v,rfl,rfl,h,e,k⟩
def p9 (K:Ç):Sp:=λ args H Q _=>∃ (x y:V) (z:Á) (gk:Net) (gw gm gp:List Int) (gn:List Bool),args=[x,y,.ref z]/\Is K H (iG gk) x/\Is K H (J3 gw gm gn) y/\OE K H z (gp.map V.int)/\
 NetOk gk/\StOk gk gw gm gn/\gp.length=gk.vs.length/\∀ p H',aE H H'->H p=none->H' p=some (.lst ((aP gk gw gm gp gn).map V.int))->Q (.ref p) H'
theorem kS:FnScope ["net","state","poured","has","k"] ["net","state","poured"] (aL (bW 36)):={}
theorem sD {f:Á}{fd:FuncData} (F:Fun K "_law_filled" "_law_filled" (bW 36) f fd) (T:Txt mg):FnOk P w K mg base kA 1 f fd ["net","state","poured"] (p9 K):=by
 refine F.ok kS (λ vs H Q E h=>?_) (λ ja A outer s H vs Q E hr h=>?_)
 ·refine ĸ λ _ ŉ=>?_;obtain⟨x,y,z,gk,gw,gm,gp,gn,rfl,_⟩:=h;refine ŉ ?_;rfl
 ·refine ĸ λ _ ŉ=>?_;obtain⟨x,y,z,gk,gw,gm,gp,gn,rfl,hx,hy,qz,il,mh,kc,k⟩:=h;refine ŉ ?_;have sc:=kS;refine⟨_,(aD (h9 (i:=3) sc.nd rfl rfl (λ _ _ h=>h) rfl (LcOk.mk (N':=["k","poured","state"]) (fr:=[none,some 2,some 1]) rfl ⟨rfl,rfl,trivial⟩ rfl rfl rfl rfl rfl ⟨⟨_,rfl,rfl,rfl,rfl⟩,⟨_,rfl,rfl,rfl,rfl⟩,trivial⟩) (cD rfl T.b_range (aA (pC K T.b_len (px K (pv 0) aF)) aC)) (λ _ _ _=>(gC 0 ["k","poured","state"])) (λ _ _ _=>bS) (λ _ _ _=>(aS cB (aS cB (px K (px K (pv 2) aF) (pv 0)) (px K (px K (pv 2) aF) (pv 0))) (px K (pv 1) (pv 0)))))
   (aD (cX ï rfl (cD rfl T.b_range (aA (pC K T.b_len (px K (pv 0) aF)) aC)) (gL 4 sc.nd) (aI (dA (eU (px K (px K (pv 1) aF) (pv 4))) (aI (dU (aS cB (px K (pv 3) (px K (px K (px K (pv 0) aF) (pv 4)) aF)) (px K (px K (px K (pv 0) aF) (pv 4)) aF)) (pD (pv 3) (px K (px K (px K (pv 0) aF) (pv 4)) aF) i7))) bK)))
   (aI (bG (pv 3))))),?_⟩
  refine ĸ λ _ ŉ=>?_;obtain⟨a,b,c,xs,ys,rfl,q,q1,l1,q2,l2⟩:=gO hx;refine ŉ ?_;refine ĸ λ _ ŉ=>?_;obtain⟨ay,a1,a2,a3,rfl,qy,p1,p2,p3⟩:=AY hy;refine ŉ ?_;have nt:xs.length=gk.vs.length:=by rw[l1.length,Ê]
  have An:ys.length=gk.sps.length:=by rw[l2.length,Ê]
  have n1:=il.lo;have n2:=il.hi;have n3:=il.sp;have la:=jG mh.h mh.c kc;refine⟨_,rfl,.inr (.inl ⟨a,_,0,_,rfl,rfl,q,rfl,b,xs,rfl,.inr q1,_,rfl,by lia,by lia,?_⟩)⟩;have hn:((xs.length:Nat):Int).toNat=gk.vs.length:=by rw[nt];simp
  rw[hn];refine j9 (n:=gk.vs.length) (λ D i r ad H'=>H D=none/\aE H H'/\H' D=some (.lst r)/\r=((iJ gw gm gp).take i).map V.int/\∃ v,ad=[v,some (.ref z),some (.ref ay)])
   (λ D hD=>⟨hD,È hD,aB,by simp,none,rfl⟩) ?_ ?_
  rotate_left
  ·rintro D i r ad H' hi ⟨hD,sm,iw,rfl,v,rfl⟩;refine eO ?_;have g1:gw[i]? = some (gw[i]'(by rw[mh.h];exact hi)):=by simp
   have g2:gm[i]? = some (gm[i]'(by rw[mh.c];exact hi)):=by simp
   have g3:gp[i]? = some (gp[i]'(by rw[kc];exact hi)):=by simp
   have g4:=tH g1 g2 g3;have m1:∀ {l:List Int}{u:Int},l[i]? = some u->(l.map V.int)[i]? = some (.int u):=λ e=>by rw[Ð,e];rfl
   refine (aK _ rfl (.inr (.inl (iF ay _ 0 _ rfl ⟨rfl,sm.tup qy,rfl,(aK _ rfl (.inr (.inl (iF a1 _ (i:Int) _ rfl ⟨rfl,sm.tup p1,bN (m1 g1),?_⟩))))⟩))));refine (aK _ rfl (.inr (.inl (iF ay _ 1 _ rfl ⟨rfl,sm.tup qy,rfl,(aK _ rfl (.inr (.inl (iF a2 _ (i:Int) _ rfl ⟨rfl,sm.tup p2,bN (m1 g2),?_⟩))))⟩))));refine⟨_,_,rfl,rfl,_,rfl,_,rfl,P8 (qz.same sm) (bN (m1 g3)) ⟨_,_,rfl,rfl,iw,aY (by simp;lia),hD,sm.put hD,aB,?_,_,rfl⟩⟩;rw[aO g4,Ó];rfl
  rintro D r ad H1 ⟨hD,sm,iw,rfl,_⟩;rw[<- la,Ù] at iw;refine (aK _ rfl (.inr (.inl (iF a _ 1 _ rfl ⟨rfl,sm.tup q,rfl,(aX c ys rfl ⟨.inr (sm.tup q2),(aK _ rfl ⟨by lia,by lia,?_⟩)⟩)⟩))));have hm:((ys.length:Nat):Int).toNat=gk.sps.length:=by rw[An];simp
  rw[hm];refine lX (lo:=0) (n:=gk.sps.length) (λ i ad H'=>aE H H'/\H' D=some (.lst ((fT (iJ gw gm gp) (gk.sps.take i) (gn.take i)).map V.int))/\
   ∃ v4,ad=[some (.ref a),some (.ref ay),some (.ref z),some (.ref D),v4]) ⟨sm,by cases gk.sps <;> exact iw,none,rfl⟩ ?_ ?_
  ·rintro i ad H2 hi ⟨jb,h2,v4,rfl⟩;rw[į];have yb:gk.sps[i]? = some gk.sps[i]:=by simp [hi]
   have Md:gn[i]? = some (gn[i]'(by rw[mh.d];exact hi)):=by simp
   obtain⟨xv,ya,Cj⟩:=l2.get (i:=i) (d:=xN gk.sps[i]) (by rw[Ð,yb];rfl);obtain⟨sp,Ix,sa,rfl,qs⟩:=oY l2 ya;rw[yb] at Ix;cases Ix;have snoc:=nF gk.sps gn i (iJ gw gm gp) _ _ yb Md;have hs:=il.sps gk.sps[i] (ĳ hi);have Fz:(gn.map V.bl)[i]? = some (.bl (gn[i]'(by rw[mh.d];exact hi))):=by rw[Ð,Md];rfl
   refine (aK _ rfl (.inr (.inl (iF ay _ 2 _ rfl ⟨rfl,jb.tup qy,rfl,(aK _ rfl (.inr (.inl (iF a3 _ (i:Int) _ rfl ⟨rfl,jb.tup p3,bN Fz,(aK _ rfl ?_)⟩))))⟩))));cases hdr:(gn[i]'(by rw[mh.d];exact hi)) with
   | false=>
    rw[hdr] at snoc;refine fL ?_;exact⟨jb,by rw[snoc];exact h2,_,rfl⟩
   | true=>
    rw[hdr] at snoc;refine iC ?_;have gy:(fT (iJ gw gm gp) (gk.sps.take i) (gn.take i)).length=gk.vs.length:=by rw[hR,la]
    have jk:gk.sps[i].1.toNat < (fT (iJ gw gm gp) (gk.sps.take i) (gn.take i)).length:=by rw[gy];lia
    have hg:((fT (iJ gw gm gp) (gk.sps.take i) (gn.take i)).map V.int)[gk.sps[i].1.toNat]? = some (.int ((fT (iJ gw gm gp) (gk.sps.take i) (gn.take i)).getD gk.sps[i].1.toNat 0)):=by
     rw[Ð,Ē];simp [jk]
    refine (aK _ rfl (aK _ rfl (.inr (.inl (iF a _ 1 _ rfl ⟨rfl,jb.tup q,rfl,(aK _ rfl (.inr (.inl (iF c ys (i:Int) _ rfl ⟨rfl,jb.tup q2,bN ya,.inr (.inl (iF sa _ 0 _ rfl ⟨rfl,jb.tup qs,rfl,.inl (iF D _ _ _ rfl ⟨rfl,Ë h2,qW hs.1 hg,?_⟩)⟩))⟩))))⟩)))));refine (aK _ rfl (.inr (.inl (iF a _ 1 _ rfl ⟨rfl,jb.tup q,rfl,(aK _ rfl (.inr (.inl (iF c ys (i:Int) _ rfl ⟨rfl,jb.tup q2,bN ya,.inr (.inl (iF sa _ 1 _ rfl ⟨rfl,jb.tup qs,rfl,(aX _ _ rfl ⟨rfl,?_⟩)⟩))⟩))))⟩))));refine⟨_,rfl,_,rfl,.inr (.inl ⟨a,_,1,_,rfl,rfl,jb.tup q,rfl,_,rfl,.inr (.inl ⟨c,ys,(i:Int),_,rfl,rfl,jb.tup q2,bN ya,.inr (.inl ⟨sa,_,0,_,rfl,rfl,jb.tup qs,rfl,D,_,_,gk.sps[i].1.toNat,rfl,rfl,h2,qQ hs.1 (by rw[Ê,gy];lia),?_⟩)⟩)⟩)⟩;refine⟨jb.put hD,?_,_,rfl⟩;rw[aB,snoc,sV,Å rfl,aho]
  ·rintro ad H2 ⟨jb,h2,v4,rfl⟩;rw[<- mh.d,Ù,mh.d,Ù] at h2;exact (aK _ rfl (k D H2 jb hD h2))
end Tw
namespace L2
open PySem PySem.Spec PyProof.Rows
theorem IP:∀ (names:List (Str×NameKind)) (h:Heap) (jh:List (Str×Á)) (x:Str) (c:Á),(cellsFrom h.objs.size names jh).lookup x=some c->
  (h.objs.size<=c/\(x,NameKind.cell)∈names/\(pushCells h names).IsCell c none)\/jh.lookup x=some c
 | [],h,jh,x,c,e=>.inr e
 | (name,kind)::r,h,jh,x,c,e=>by
  unfold cellsFrom at e;unfold pushCells;cases hk:kind == NameKind.cell with
  | true=>
   rw[hk,Å rfl] at e;rw[Å rfl];have ql:kind=.cell:=by simpa using hk
   have ih:=IP r (h.push { cls:=.type "cell",data:=.cell none }) ((name,h.objs.size)::jh) x c (by rw[ø];exact e);rw[ø] at ih;rcases ih with ⟨a,b,d⟩ | ih
   ·exact .inl ⟨Nat.le_of_succ_le a,ô _ b,d⟩
   ·cases hx:x == name with
    | true=>
     simp only [č,hx] at ih;cases ih;have e':x=name:=by simpa using hx
     subst e' ql;exact .inl ⟨Î _,ą,_,agp _ _ _ _ (ß _ rfl),rfl⟩
    | false=>
     simp only [č,hx] at ih;exact .inr ih
  | false=>
   rw[hk,Ä Û] at e;rw[Ä Û];rcases IP r h jh x c e with ⟨a,b,d⟩ | ih
   ·exact .inl ⟨a,ô _ b,d⟩
   ·exact .inr ih
theorem xB:∀ (names:List (Str×NameKind)) (n m:Nat) (jh:List (Str×Á)) (x:Str),m<=n->((x,NameKind.cell)∈names\/∃ c,m<=c/\jh.lookup x=some c)->∃ c,m<=c/\(cellsFrom n names jh).lookup x=some c
 | [],n,m,jh,x,_,h=>by
  rcases h with h | h
  ·simp at h
  ·exact h
 | (name,kind)::r,n,m,jh,x,hm,h=>by
  unfold cellsFrom;cases hk:kind == NameKind.cell with
  | true=>
   rw[Å rfl];have ql:kind=.cell:=by simpa using hk
   refine xB r (n+1) m _ x (by lia) ?_;cases hx:x == name with
   | true=>exact .inr ⟨n,hm,by simp only [č,hx]⟩
   | false=>
    have ne:x≠name:=λ z=>by rw[z] at hx;simp at hx
    rcases h with h | ⟨c,h1,h2⟩
    ·rcases Ý.mp h with h | h
     ·exact absurd (by injection h) ne
     ·exact .inl h
    ·exact .inr ⟨c,h1,by simp only [č,hx];exact h2⟩
  | false=>
   rw[Ä Û];refine xB r n m _ x hm ?_;rcases h with h | h
   ·rcases Ý.mp h with h | h
    ·injection h with h1 h2;rw[<- h2] at hk;simp at hk
    ·exact .inl h
   ·exact .inr h
theorem xC:∀ (names:List (Str×NameKind)) (n:Nat) (jh:List (Str×Á)) (x:Str),(x,NameKind.cell)∉names->(cellsFrom n names jh).lookup x=jh.lookup x
 | [],_,_,_,_=>rfl
 | (name,kind)::r,n,jh,x,h=>by
  unfold cellsFrom;have hr:(x,NameKind.cell)∉r:=λ z=>h (ô _ z);cases hk:kind == NameKind.cell with
  | true=>
   rw[Å rfl,xC r (n+1) _ x hr];have ql:kind=.cell:=by simpa using hk
   have hx:(x == name)=false:=by
    cases hx:x == name with
    | false=>rfl
    | true=>
     have e':x=name:=by simpa using hx
     subst e' ql;exact absurd ą h
   simp only [č,hx]
  | false=>rw[Ä Û,xC r n _ x hr]
theorem AJ:∀ (names:List (Str×NameKind)) (n:Nat) (jh:List (Str×Á)),(∀ x y c,jh.lookup x=some c->jh.lookup y=some c->x=y)->(∀ x c,jh.lookup x=some c->c < n)->
  ∀ x y c,(cellsFrom n names jh).lookup x=some c->(cellsFrom n names jh).lookup y=some c->x=y
 | [],_,_,h,_=>h
 | (name,kind)::r,n,jh,h,hb=>by
  unfold cellsFrom
  split
  ·refine AJ r (n+1) _ (λ x y c e1 e2=>?_) λ x c e=>?_
   ·cases hx:x == name <;> cases hy:y == name <;> simp only [č,hx,hy] at e1 e2
    ·exact h x y c e1 e2
    ·cases e2;exact absurd (hb x _ e1) (ā _)
    ·cases e1;exact absurd (hb y _ e2) (ā _)
    ·have a:x=name:=by simpa using hx
     have b:y=name:=by simpa using hy
     rw[a,b]
   ·cases hx:x == name <;> simp only [č,hx] at e
    ·exact Ļ (hb x c e)
    ·cases e;exact Nat.lt_succ_self _
  ·exact AJ r n jh h hb
section
variable {M:Model}{A:Around}{E:À->Â->Prop}{s:Â}
theorem tL {scope:Scope}{globals:Á}{cl:List (Str×Á)}{qual:Str}{func:Option Á}{code:À}{env:Env}{builtins:Á}{Q:Env->Â->Prop}
  (h:Q { scope,locals:=s.heap.objs.size,globals,cells:=cellsFrom (s.heap.objs.size+1) scope.names cl,qual,func,code:=env.code,frame:=env.frame,builtins:=env.builtins }
   { s with heap:=pushCells (s.heap.push { cls:=.type "dict",data:=.dict #[] }) scope.names }):wpAny M A (newFunctionEnv scope globals cl [] qual func code (some env) builtins) Q E s:=by
 simp only [newFunctionEnv,agt,if_true];refine Æ (wpAny_alloc ?_);refine Æ (wpAny_layCells _ (λ name kind cells=>by cases hkc:kind == NameKind.cell <;> simp [hkc]) _ _ _ _ ?_);rw[show ({ s with heap:=s.heap.push { cls:=.type "dict",data:=.dict #[] } }:Â).heap.objs.size=s.heap.objs.size+1 from ø ..];rw[ĥ];exact Æ (É (É h))
end
structure LcOk2 (X:Cx) (scope:Scope) (cl:List (Str×Á)) (N':List Str) (fr:List (Option Nat)):Prop where
 clos:closureFor scope X.env=pure cl
 cls:EU X.env cl
 kind:scope.kind=.function
 owns:(scope.names.all λ p=>p.2 != NameKind.cell || scope.names.lookup p.1 == some NameKind.cell)=true
 locs:(scope.names.all λ p=>p.2 != NameKind.local || scope.names.lookup p.1 == some NameKind.local)=true
 frees:(scope.names.all λ p=>p.2 != NameKind.free || (cl.lookup p.1).isSome)=true
 len:fr.length=N'.length
 fr:xL X scope N' fr 0
def AI (X:Cx) (N':List Str) (scope:Scope) (cl:List (Str×Á)) (fp:List Á) (s:Â) (H:Hp):Cx:=
 { X with N:=N',s₀:=s,H₀:=H,env:=compEnvC scope (cellsFrom (s.heap.objs.size+1) scope.names cl) s.heap.objs.size X.env,outer:=X.stack,ex:=fp,fn:=λ x=>scope.names.lookup x == some .cell,pn:=[] }
section
variable {X:Cx}
theorem LcOk2.cells {scope:Scope}{cl:List (Str×Á)}{N':List Str}{fr:List (Option Nat)} (S:LcOk2 X scope cl N' fr) {s:Â}{o:Obj}{x:Str}{c:Á} (e:(cellsFrom (s.heap.objs.size+1) scope.names cl).lookup x=some c) :
  (s.heap.objs.size < c/\(x,NameKind.cell)∈scope.names/\(pushCells (s.heap.push o) scope.names).IsCell c none)\/X.env.cells.lookup x=some c:=by
 have:=IP scope.names (s.heap.push o) cl x c (by rw[ø];exact e);rw[ø] at this;rcases this with ⟨a,b,d⟩ | h
 ·exact .inl ⟨a,b,d⟩
 ·exact .inr (S.cls.get x c h)
set_option tactic.hygienic true in
theorem LcOk2.invC {scope:Scope}{cl:List (Str×Á)}{N':List Str}{fr:List (Option Nat)}{gi:List (Á×Obj)}{σ:St}{H:Hp}{s:Â}{o:Obj}{fp:List Á}{m1:Str->Option À}{tk:Nat}
  (S:LcOk2 X scope cl N' fr) (I:Inv X gi σ H s) (hf:∀ b∈fp,gQ X gi H b) (rh:∀ b∈fp,b < s.heap.objs.size)
  (hn:(pushCells (s.heap.push o) scope.names).Ns s.heap.objs.size m1):Inv (AI X N' scope cl fp s H) [] (tX fr σ) H { s with heap:=pushCells (s.heap.push o) scope.names,toks:=tk }:=by
 have jz:=S.frees;have Iy:=S.owns;rw[Č] at jz Iy;have k:∀ b o',s.heap.get? b=some o'->(pushCells (s.heap.push o) scope.names).get? b=some o':=λ b o' e=>agp _ _ b o' (Í _ e);have fresh:H s.heap.objs.size=none:=I.hok.fresh (Î _);have yq:=S.cls.get;have cg:=λ x c e=>S.cells (s:=s) (o:=o) (x:=x) (c:=c) e;have YW:∀ x c,cl.lookup x=some c->c < s.heap.objs.size:=λ x c e=>by
  obtain⟨v,oc,rg,hd⟩:=I.cell x c (yq x c e);exact Ñ rg
 have Ej:∀ x,scope.names.lookup x=some .free->(x,NameKind.cell)∉scope.names:=λ x e hm=>by
  have:=Iy _ hm;simp only [ń,ř,Ŏ] at this;rw[e] at this;cases this
 refine⟨⟨I.ok.mod,S.kind,I.ok.glob,I.ok.blt,Î _,AJ scope.names _ cl (λ x y c e1 e2=>I.ok.inj x y c (yq x c e1) (yq y c e2)) (λ x c e=>Ļ (YW x c e)),λ x hx=>?_,λ x c e1 e2=>?_,I.ok.hd,I.ok.frames,.inl rfl,λ b hb=>⟨Þ (rh b hb),λ x c e=>?_⟩,
  I.bs,Ĉ I.ok.bsz I.sz,λ b o e hb=>?_,λ b hb hz=>?_,I.stack,I.stkFree⟩,rfl,I.bare,Un.kept k,⟨m1,hn,λ i x v e1 e2 e3=>?_⟩,λ x c e=>?_,fresh,λ x c e=>?_,λ p hp=>absurd (show p∈([]:List (Á×Obj)) from hp) (by simp),I.hok.kept k,?_⟩
 ·
  have hm:∃ k',(x,k')∈scope.names/\(k'=NameKind.free\/k'=NameKind.cell):=by
   have kz:(relabel scope X.env).names.lookup x=some .cell\/(relabel scope X.env).names.lookup x=some .free:=hx;obtain⟨k',e,ql⟩:∃ k',(relabel scope X.env).names.lookup x=some k'/\(k'=.cell\/k'=.free):=by
    rcases kz with e | e
    ·exact⟨_,e,.inl rfl⟩
    ·exact⟨_,e,.inr rfl⟩
   have Dm:=ÿ e;obtain⟨⟨n,kn⟩,hp,he⟩:=Õ.mp Dm;dsimp only at he
   split at he
   ·rename_i hc
    cases he;have:kn=.free:=by
     simp only [ņ,Ŏ] at hc;exact hc.1.1
    exact⟨kn,hp,.inl this⟩
   ·cases he;rcases ql with e' | e'
    ·exact⟨_,hp,.inr e'⟩
    ·exact⟨_,hp,.inl e'⟩
  obtain⟨k',hp,ql⟩:=hm
  by_cases hc:(x,NameKind.cell)∈scope.names
  ·obtain⟨c,_,e⟩:=xB scope.names (s.heap.objs.size+1) 0 cl x (æ _) (.inl hc);exact⟨c,e⟩
  ·rcases ql with rfl | rfl
   ·have:=jz _ hp;simp only [ń,ř] at this;obtain⟨c,e⟩:=Option.isSome_iff_exists.mp this;exact⟨c,by show (cellsFrom _ _ _).lookup x=_;rw[xC _ _ _ _ hc];exact e⟩
   ·exact absurd hp hc
 ·have YX:scope.names.lookup x=some .cell:=by simpa using (show (scope.names.lookup x == some NameKind.cell)=true from e1)
  obtain⟨c',lz,e'⟩:=xB scope.names (s.heap.objs.size+1) (s.heap.objs.size+1) cl x (Î _) (.inl (ÿ YX));have vy:(cellsFrom (s.heap.objs.size+1) scope.names cl).lookup x=some c:=e2;rw[e'] at vy;cases vy;exact Nat.le_of_succ_le lz
 ·rcases cg x c e with ⟨a,_⟩ | e'
  ·exact Ne.symm (Þ (Nat.lt_trans (rh b hb) a))
  ·exact (hf b hb).2.2.2.2.1 x c e'
 ·rcases (hf b hb).2.2.2.1 with z | z
  ·exact I.ok.noex b o e z
  ·have:=Ñ e;exact absurd (í this (Ĉ I.ok.bsz z)) (ā _)
 ·obtain⟨_,f1,f2,_⟩:=hf b hb;rcases Ý.mp (I.stkSub b hz) with e | e
  ·exact f1 e
  ·exact f2 e
 ·
  unfold tX at e2;rw[Ð] at e2;cases ef:fr[i]? with
  | none=>rw[ef] at e2;cases e2
  | some o=>
   rw[ef] at e2;cases o with
   | none=>simp at e2
   | some j=>
    have vy:(σ[j]?).join=some v:=by simpa using e2
    obtain⟨x',Aj,Ak,yt,Dn⟩:=S.fr.get i j ef;rw[Į] at Aj;have ex:x'=x:=by
     have:N'[i]? = some x:=e1;rw[Aj] at this;exact â this
    subst ex;have Do:σ[j]? = some (some v):=by
     cases q:σ[j]? with
     | none=>rw[q] at vy;cases vy
     | some z=>rw[q] at vy;simp at vy;rw[vy]
    obtain⟨m,hm,hl⟩:=I.loc;obtain⟨u,r,lk⟩:=hl j x' v Ak Do (.inr (.inl Dn));refine⟨u,r,?_⟩;rcases lk with ⟨q,_⟩ | ⟨_,c,hc,z⟩
    ·rw[Dn] at q;cases q
    ·have mj:∃ c',cl.lookup x'=some c':=by
      have:=jz _ (ÿ yt);simp only [ń,ř] at this;exact Option.isSome_iff_exists.mp this
     obtain⟨c',lz⟩:=mj;have e':=yq x' c' lz;rw[hc] at e';cases e';obtain⟨oc,rg,hd⟩:=z;refine .inr ⟨.inl ?_,c,?_,oc,k c oc rg,hd⟩
     ·exact fJ I.ok.kind yt Dn
     ·show (cellsFrom _ _ _).lookup x'=_;rw[xC _ _ _ _ (Ej x' yt)];exact lz
 ·rcases cg x c e with ⟨_,_,z⟩ | e'
  ·exact⟨_,z⟩
  ·obtain⟨v,oc,rg,hd⟩:=I.cell x c e';exact⟨v,oc,k c oc rg,hd⟩
 ·rcases cg x c e with ⟨a,_⟩ | e'
  ·exact I.hok.fresh (Ķ a)
  ·exact I.freeC x c e'
 ·show (tX fr σ).length=N'.length;unfold tX;rw[Ê,S.len]
theorem Inv.outD {scope:Scope}{cl:List (Str×Á)}{N':List Str}{gi qh:List (Á×Obj)}{σ ad:St}{H H':Hp}{s s':Â}{fp:List Á} (I:Inv X gi σ H s) (J:Inv (AI X N' scope cl fp s H) qh ad H' s')
  (hf:∀ b∈fp,gQ X gi H b):Inv X gi σ H' s':=
 I.call' (ch:=fp) J.os J.base J.hok J.bare λ b hb=>by
  obtain⟨_,f1,_,f3,f4,f5⟩:=hf b hb;exact⟨f3,f1,f4,f5⟩
theorem DQ {elt tg iter:Expr}{ifs:List Expr}{scope:Scope}{pos:Pos}{N':List Str}{fr:List (Option Nat)}{cl:List (Str×Á)}{g:TG}{tc:TT}{te:TE}
  {gi:List (Á×Obj)}{σ:St}{H:Hp}{s:Â}{J:It}{fp:List Á}{it:Á}{tn:Nat->Heap->Prop}{Q:Á->Hp->Prop}{RR:À->Á->Result->Â->Prop}{E:À->Â->Prop}
  (hx:∀ e s,¬ X.xe e s) (hc:X.calm=true) (S:LcOk2 X scope cl N' fr)
  (hg:∀ fp s H,PG (AI X N' scope cl fp s H) tg g) (ht:∀ fp s H,JC (AI X N' scope cl fp s H) ifs tc) (he:∀ fp s H,PE (AI X N' scope cl fp s H) elt te)
  (I:Inv X gi σ H s) (T:Turn X.prog X.w X.K tg J fp it tn) (st:tn 0 s.heap) (hf:∀ b∈fp,gQ X gi H b) (h:iX J g tc te fr σ H Q)
  (Gw:∀ D C H' s' m',Inv X gi σ H' s'->Q D H'->s'.heap.Ns C m'->gQ X gi H' C->RR (.ref D) C (.ok .next) s') :
  wpAny (model X.prog X.w) X.A (newList []) (λ jh bo=>wpAny (model X.prog X.w) X.A (newFunctionEnv scope X.env.globals cl [] X.env.qual none .none (some X.env)) (λ sx cj=>
   codeAny (model X.prog X.w) X.A (.compStart (.ListComp elt [⟨tg,iter,ifs,0⟩] scope pos) 0 (.ref it) jh { sx with scope:=relabel scope X.env }) (RR jh sx.locals) cj) E bo) E s:=by
 refine Đ (tL ?_);dsimp only;have fresh:H s.heap.objs.size=none:=I.hok.fresh (Î _);have I3:Inv X gi σ (upd H s.heap.objs.size (.lst [])) { s with heap:=s.heap.push { cls:=.type "list",data:=.seq ([]:List À).toArray },toks:=s.toks }:=I.lnew (ys:=[]) (its:=[]) .nil (æ _);have yu:∀ b∈fp,gQ X gi (upd H s.heap.objs.size (.lst [])) b:=λ b hb=>by
  obtain⟨o,ho,_⟩:=T.obj _ _ st b hb;exact⟨by rw[aJ (Þ (Ñ ho))];exact (hf b hb).1,(hf b hb).2⟩
 generalize xu:({ s with heap:=s.heap.push { cls:=.type "list",data:=.seq ([]:List À).toArray },toks:=s.toks }:Â)=s3 at I3;have e3:s3.heap=s.heap.push { cls:=.type "list",dict:=none,data:=.seq ([]:List À).toArray }:=by rw[<- xu]
 have Cg:({ s with heap:=s.heap.push { cls:=.type "list",dict:=none,data:=.seq ([]:List À).toArray } }:Â)=s3:=xu;have yw:s3.heap.objs.size=s.heap.objs.size+1:=by rw[e3,ø]
 have rh:∀ b∈fp,b < s3.heap.objs.size:=λ b hb=>by
  obtain⟨o,ho,_⟩:=T.obj _ _ st b hb;rw[yw];exact Ļ (Ñ ho)
 rw[<- e3];generalize hh1:pushCells (s3.heap.push { cls:=.type "dict",data:=.dict #[] }) scope.names=h₁;have bp:(pushCells (s3.heap.push { cls:=.type "dict",data:=.dict #[] }) scope.names).Ns s3.heap.objs.size (λ _=>none):=(Heap.Ns.new s3.heap (.type "dict")).keeps (agp _ _);have ou:∀ b o,s3.heap.get? b=some o->h₁.get? b=some o:=λ b o e=>by rw[<- hh1];exact agp _ _ b o (Í _ e)
 have jn:∀ b o,s.heap.get? b=some o->s3.heap.get? b=some o:=λ b o e=>by rw[e3];exact Í _ e
 have I4:=S.invC (tk:=s3.toks) I3 yu rh bp;rw[hh1] at I4;obtain⟨W,⟨m0,w0⟩,turn⟩:=h s.heap.objs.size fresh;have ko:∀ {H':Hp},(∀ b∈fp,H' b=none)->∀ b∈fp,gQ (AI X N' scope cl fp s3 (upd H s.heap.objs.size (.lst []))) [] H' b:=λ hn b hb=>by
  refine⟨hn b hb,Þ (rh b hb),?_,.inl hb,λ x c e=>?_,λ p hp=>absurd (show p∈([]:List (Á×Obj)) from hp) (by simp)⟩
  ·intro hz;obtain⟨_,f1,f2,_⟩:=hf b hb;rcases Ý.mp (I.stkSub b hz) with e | e
   ·exact f1 e
   ·exact f2 e
  ·rcases S.cells (s:=s3) (o:={ cls:=.type "dict",data:=.dict #[] }) e with ⟨a,_⟩ | e'
   ·exact Ne.symm (Þ (Nat.lt_trans (rh b hb) a))
   ·exact (hf b hb).2.2.2.2.1 x c e'
 have loop:∀ s4:Â,s4={ s3 with heap:=h₁,toks:=s3.toks }->
   codeAny (model X.prog X.w) X.A (.compLoop (.ListComp elt [⟨tg,iter,ifs,0⟩] scope pos) 0 (.ref it) (.ref s.heap.objs.size) (compEnvC scope (cellsFrom (s3.heap.objs.size+1) scope.names cl) s3.heap.objs.size X.env)) (RR (.ref s.heap.objs.size) s3.heap.objs.size) s4:=by
  intro s4 sy;refine oQ (λ n s'=>∃ i ys ad H',Inv (AI X N' scope cl fp s3 (upd H s.heap.objs.size (.lst []))) [] ad H' s'/\tn i s'.heap/\(∀ b∈fp,H' b=none)/\W i n ys ad H') ?_ m0
   ⟨0,[],tX fr σ,_,by rw[sy];exact I4,by rw[sy];exact T.keep _ _ _ st λ b _ o e=>ou b o (jn b o e),λ b hb=>(yu b hb).1,w0⟩
  rintro n s5 ⟨i,ys,cn,H5,I5,wn,Ah,w5⟩;rcases turn i n ys cn H5 w5 with ⟨stop,qn⟩ | ⟨go,N,hN,step⟩
  ·refine cY (T.done (AI X N' scope cl fp s3 (upd H s.heap.objs.size (.lst []))) rfl rfl rfl hc i [] s5 cn H5 _ I5 (ko Ah) wn stop) λ r s6 ⟨hr,I6⟩=>?_;subst hr;obtain⟨m',Al,_⟩:=I6.loc;exact Gw _ _ H5 s6 m' (I3.outD I6 yu) qn Al (I3.fpOk (Î _) I6.free)
  ·refine cY (T.item (AI X N' scope cl fp s3 (upd H s.heap.objs.size (.lst []))) rfl rfl rfl hc i [] s5 cn H5 _ I5 (ko Ah) wn go) λ r s6 ⟨u,hr,h6⟩=>?_;subst hr;refine cY h6 λ _ s7 ⟨x,H7,I7,r7,y7,yx,Gx⟩=>?_;have Gy:=I7.pinned (ko Gx) (T.obj _ _ yx);refine á (hg fp s3 _ _ s7 cn H7 x u _ Gy r7 (step x H7 y7)) (λ _ s8 ⟨bg,H8,I8,q8⟩=>?_) λ e s' z=>(hx e s' z).elim;refine á (ht fp s3 _ _ s8 bg H8 _ I8 q8) (λ ok s9 ⟨H9,I9,q9⟩=>?_) λ e s' z=>(hx e s' z).elim;have again:∀ {kh:Â}{kf:Hp}{wu:List V},Inv (AI X N' scope cl fp s3 (upd H s.heap.objs.size (.lst []))) ([]++mZ fp s7.heap) bg kf kh->N wu bg kf->
     ∃ m,m < n/\∃ i ys ad H',Inv (AI X N' scope cl fp s3 (upd H s.heap.objs.size (.lst []))) [] ad H' kh/\tn i kh.heap/\(∀ b∈fp,H' b=none)/\W i m ys ad H':=λ {kh kf wu} tj Gz=>by
    obtain⟨m',hm,ww⟩:=hN wu bg kf Gz;refine⟨m',hm,i+1,wu,bg,kf,tj.unpinned,T.keep _ _ _ yx λ b hb o e=>(tj.pin (b,o) (ü _ (ü _ (eY hb e)))).1,λ b hb=>?_,ww⟩;obtain⟨o,e,d⟩:=T.obj _ _ yx b hb;exact (tj.pin (b,o) (ü _ (ü _ (eY hb e)))).2.1
   cases ok with
   | false=>
    rw[Ä Û] at q9 ⊢;exact again I9 q9
   | true=>
    rw[Å rfl] at q9 ⊢;refine á (he fp s3 _ _ s9 bg H9 _ I9 q9) (λ y kh ⟨yv,kf,tj,Ha,hD,gy,Dp⟩=>?_) λ e s' z=>(hx e s' z).elim;refine á (cE (X:=AI X N' scope cl fp s3 (upd H s.heap.objs.size (.lst []))) _ kh bg kf (.ref s.heap.objs.size) [yv] (.ref s.heap.objs.size) [y] (λ _ ow=>ow=upd kf s.heap.objs.size (.lst (ys++[yv]))) tj rfl (.cons Ha .nil)
     ⟨_,ys,yv,rfl,rfl,hD,gy,rfl⟩) (λ _ Ba ⟨_,ow,Hb,_,Op⟩=>?_) λ e s' z=>(hx e s' z).elim
    subst Op;exact again Hb Dp
 exact codeAny_compStart_list (loop _ (by rw[<- Cg])) (T.self X.A 0 _ _ _ (T.keep _ _ _ st λ b _ o e=>ou b o (jn b o e)) (loop _ (by rw[<- Cg])))
set_option tactic.hygienic true in
theorem zW {i:Nat}{y:Str}{py:Pos}{yy:Pos}{elt tg iter:Expr}{ifs:List Expr}{scope:Scope}{pos:Pos}{N':List Str}{fr:List (Option Nat)}{cl:List (Str×Á)}{wi:TI}{g:TG}{tc:TT}{te:TE}
  (hN:X.N.Nodup) (hy:X.N[i]? = some y) (hk:X.env.scope.names.lookup y=some .local)
  (hx:∀ e s,¬ X.xe e s) (hc:X.calm=true) (S:LcOk2 X scope cl N' fr) (hi:PI X tg iter wi)
  (hg:∀ fp s H,PG (AI X N' scope cl fp s H) tg g) (ht:∀ fp s H,JC (AI X N' scope cl fp s H) ifs tc) (he:∀ fp s H,PE (AI X N' scope cl fp s H) elt te)
  (Oq:swapsWith (.ListComp elt [⟨tg,iter,ifs,0⟩] scope pos) (some (.Name y py)) yy.line X.env=pure true:=by with_unfolding_all rfl)
  (hs:∀ x,foldedSetIterable iter X.env x=pure x:=by intro _;with_unfolding_all rfl):PS X (.Assign [.Name y py] (.ListComp elt [⟨tg,iter,ifs,0⟩] scope pos) yy) (kK (tLC wi fr g tc te) (eB i)):=by
 intro gi s σ H D I h;have nr:=S.locs;rw[Č] at nr;rw[exec_Assign_Name_used _ _ _ _ Oq];refine Æ (ŀ (Æ ?_));show wpAny _ X.A (do let _ <- comprehension (.ListComp elt [⟨tg,iter,ifs,0⟩] scope pos) scope X.env _ (newList []) false (eval iter X.env) (some (assign (.Name y py) X.env))) _ _ s;refine Æ (á (ž (use:=some (assign (.Name y py) X.env)) (Q:=λ _ s'=>SP X gi D .next s') rfl hs S.clos S.kind (λ x kz hl=>by have:=nr x kz;rw[hl] at this;simpa using this)
  (cY (hi gi s σ H _ I h) λ v s1 h1=>cY h1 λ Fo s2 h2=>?_)) (λ _ s' hq=>É (É hq)) λ _ _ e=>e)
 obtain⟨it,fp,tn,J,H2,e,I2,T,ki,f2,jc⟩:=h2;subst e;refine DQ (RR:=λ jh C=>compPost (model X.prog X.w) X.A X.xe (some (assign (.Name y py) X.env)) (λ _ s'=>SP X gi D .next s') jh C) hx hc S hg ht he I2 T ki f2 jc ?_;intro Da C H' s' m' I' q hn f;show wpAny _ X.A (assign (.Name y py) X.env (.ref Da)) _ _ _;refine agz (oX I' hN hy (.inl hk) (v:=.ref Da) rfl (λ wo Os vt=>?_) (.inr hk));obtain⟨a,qm,ha⟩:=vt;have Ot:a≠C:=by
  rcases ha with e | e
  ·rw[e];exact Ne.symm f.2.1
  ·exact f.2.2.2.2.1 _ _ e
 exact⟨m',hn.sameBut qm (Ne.symm Ot),λ h' sr=>⟨_,H',Os.letgo f sr,q⟩⟩
end
end L2
namespace Tw
open PySem L2
def tG (k:Option Int) (gs:List (Option Int×Int)):List Int:=(gs.filter λ g=>decide (g.1=k)).map (·.2)
theorem tF (k:Option Int):∀ gs:List (Option Int×Int),(tG k gs).sum=dO k gs
 | []=>rfl
 | g::r=>by
  have ih:=tF k r;unfold tG at ih ⊢;unfold dO
  by_cases h:g.1=k
  ·simp [h,<- ih]
  ·simp [h,<- ih]
theorem mF (k:Option Int) (gs:List (Option Int×Int)) (g:Option Int×Int):tG k (gs++[g])=tG k gs++(if g.1=k then [g.2] else []):=by
 unfold tG;rw[agw,Ó]
 by_cases h:g.1=k <;> simp [h]
theorem zD (k:Option Int) (gs:List (Option Int×Int)):(tG k gs).length<=gs.length:=by
 unfold tG;rw[Ê];exact List.length_filter_le _ _
theorem JG {wd:Str} (h:wd = "open" \/ wd = "shut" \/ wd = "turn"):∃ j:Nat,j < 3/\(∀ z,[V.str "turn",V.str "open",V.str "shut"][j]? = some z->zK z (.str wd)=true)/\(∀ i z,i < j->[V.str "turn",V.str "open",V.str "shut"][i]? = some z->zK z (.str wd)=false)/\
  ∀ jn:Bool,[V.bl (!old),V.bl true,V.bl false][j]? = some (.bl (if wd = "open" then true else if wd = "turn" then !old else false)):=by
 rcases h with rfl | rfl | rfl
 ·refine⟨1,by decide,λ z hz=>by cases hz;rfl,λ i z hi hz=>?_,λ jn=>rfl⟩;have:i=0:=by lia
  subst this;cases hz;rfl
 ·refine⟨2,by decide,λ z hz=>by cases hz;rfl,λ i z hi hz=>?_,λ jn=>rfl⟩;rcases (show i=0\/i=1 by lia) with rfl | rfl <;> cases hz <;> rfl
 ·exact⟨0,by decide,λ z hz=>by cases hz;rfl,λ i z hi hz=>absurd hi (ī _),λ jn=>rfl⟩
theorem IsL.append {H:Hp}:∀ {ds es:List L2.D}{xs ys:List V},L2.IsL K H ds xs->L2.IsL K H es ys->L2.IsL K H (ds++es) (xs++ys)
 | [],es,xs,ys,h1,h2=>by rw[h1.un0];exact h2
 | d::ds,es,xs,ys,h1,h2=>by
  obtain⟨x,r,rfl,hx,hr⟩:=h1.un;exact .cons hx (IsL.append hr h2)
theorem yS {H1 H2:Hp}{gl gq:Á}{gs:List (Option Int×Int)}{kj:List V} (sm:aE H1 H2) (fg:H1 gl=none) (hg:H2 gl=some (.lst kj)) (ig:L2.IsL K H2 (gs.map outD) kj) (hq:H2 gq=none) (t:Option Int) (n:Int) :
  aE H1 (upd (upd H2 gq (.tup [iN t,.int n])) gl (.lst (kj++[.ref gq])))/\upd (upd H2 gq (.tup [iN t,.int n])) gl (.lst (kj++[.ref gq])) gl=some (.lst (kj++[.ref gq]))/\
  L2.IsL K (upd (upd H2 gq (.tup [iN t,.int n])) gl (.lst (kj++[.ref gq]))) ((gs++[(t,n)]).map outD) (kj++[.ref gq])/\∀ p o,p≠gl->H2 p=some o->upd (upd H2 gq (.tup [iN t,.int n])) gl (.lst (kj++[.ref gq])) p=some o:=by
 have nq:gl≠gq:=aH hg hq;have mt:mH (upd H2 gq (.tup [iN t,.int n]) gl):=by rw[aJ nq,hg];exact trivial
 refine⟨λ b o e=>by rw[aJ (aH e fg)];exact È hq b o (sm b o e),aB,?_,λ p o hp e=>by rw[aJ hp];exact È hq p o e⟩;rw[Ó];exact ė (Ô (ds:=[EV t,.int n]) (đ (Ł _) (.inr mt) _ _ (Ì aB)) (.cons (Ő _) (.cons (è _) .nil))) (Ö (đ (È hq).ts (.inr mt)) _ _ ig)
def vG (K:Ç):Sp:=λ args H Q _=>∃ (x y:V) (z:Á) (gk:Net) (gw gm gp:List Int) (gn:List Bool),args=[x,y,.ref z,.non]/\Is K H (iG gk) x/\Is K H (J3 gw gm gn) y/\OE K H z (gp.map V.int)/\
 NetOk gk/\StOk gk gw gm gn/\gp.length=gk.vs.length/\∀ (l:Á) (p1 p2:V) H',aE H H'->H' l=some (.lst [p1,p2,.int (mX gk gw gm gp gn).ground])->
  Is K H' (J3 (mX gk gw gm gp gn).held (mX gk gw gm gp gn).coming (mX gk gw gm gp gn).doors) p1->
  Is K H' (.tup ((mX gk gw gm gp gn).tip.map λ (i:Nat)=>D.int (i:Int))) p2->Q (.ref l) H'
theorem nY:FnScope ["net","state","poured","fast","has","goes","tipped","stays","number","size","brim","outs","holds","spill","acts","here","whole","doors","word","spout","later","ground"] ["net","state","poured","fast"] (aL (bW 37)):={}
theorem wE {f fF:Á}{fd Qp:FuncData} (F:Fun K "_law_tick" "_law_tick" (bW 37) f fd) (T:Txt mg) (ph:Callee P w K mg base "_law_filled" ["net","state","poured"] 1 (p9 K) fF Qp):FnOk P w K mg base kA 2 f fd ["net","state","poured","fast"] (vG K):=by
 refine F.ok nY (λ vs H Q E h=>?_) (λ ja A outer s H vs Q E hr h=>?_)
 ·refine ĸ λ _ ŉ=>?_;obtain⟨x,y,z,gk,gw,gm,gp,gn,rfl,_⟩:=h;refine ŉ ?_;rfl
 ·refine ĸ λ _ ŉ=>?_;obtain⟨x,y,z,gk,gw,gm,gp,gn,rfl,hx,hy,qz,il,mh,kc,k⟩:=h;refine ŉ ?_;have sc:=nY;refine⟨_,(aD (pL 4 sc.nd (eX ph hr (aA (pv 0) (aA (pv 1) (aA (pv 2) aC)))))
   (aD (eF (i:=5) sc.nd rfl (Or.inr rfl) (bM aC))
   (aD (pL 6 sc.nd (bM aC))
   (aD (pL 7 sc.nd (bM aC))
   (aD (cX ï rfl (cD rfl T.b_range (aA (pC K T.b_len (px K (pv 0) aF)) aC)) (gL 8 sc.nd) (aD (dU (px K (px K (pv 0) aF) (pv 8)) (bA (K:=K) (n:=6) rfl rfl (aG (gL 9 sc.nd) (aG (gL 10 sc.nd) (aG (gL 11 sc.nd) (aG (gL 12 sc.nd) (aG (gL 13 sc.nd) (aG (gL 14 sc.nd) aZ))))))))
   (aD (eF (i:=15) sc.nd rfl (Or.inr rfl) (bB (mB rfl) rfl T.b_min aez (aA (px K (pv 4) (pv 8)) (aA (pv 10) aC))))
   (aD (cZ (eJ (K:=K) rfl ù Ċ ċ cE (pv 5) (aA (aU (aA (pv 13) (aA (aS iB (px K (pv 4) (pv 8)) (pv 15)) aC))) aC)))
   (aD (dA (PW.pt (vV (bF BE (pv 15) (pv 9) (bH _)) (qN (bF yE (pv 8) (pv 3) (bH _))))) (aD (eF (i:=16) sc.nd rfl (Or.inr rfl) (bB (jE (K:=K) rfl rfl) rfl T.b_sum Ť (aA (eW (λ _ _ h=>h) rfl (LcOk.mk (N':=["target","parts"]) (fr:=[none,none]) rfl trivial rfl rfl rfl rfl rfl trivial) (eG (K:=K) rfl (pv 11)) (λ _ _ _=>(bA (K:=K) (n:=2) rfl rfl (aG (gC 0 ["target","parts"]) (aG (gC 1 ["target","parts"]) aZ)))) (λ _ _ _=>bS) (λ _ _ _=>(pv 1))) aC)))
   (aD (eF (i:=5) sc.nd rfl (Or.inr rfl) (aS rX (pv 5) (eW (λ _ _ h=>h) rfl (LcOk.mk (N':=["target","parts","here","whole"]) (fr:=[none,none,some 15,some 16]) rfl ⟨rfl,rfl,trivial⟩ rfl rfl rfl rfl rfl ⟨⟨_,rfl,rfl,rfl,rfl⟩,⟨_,rfl,rfl,rfl,rfl⟩,trivial⟩) (eG (K:=K) rfl (pv 11)) (λ _ _ _=>(bA (K:=K) (n:=2) rfl rfl (aG (gC 0 ["target","parts","here","whole"]) (aG (gC 1 ["target","parts","here","whole"]) aZ)))) (λ _ _ _=>bS) (λ _ _ _=>(aU (aA (pv 0) (aA (aS jS (aS jT (pv 2) (pv 3)) (pv 1)) aC)))))))
   (aD (eF (i:=15) sc.nd rfl (Or.inr rfl) (aS kZ (pv 15) (pv 16)))
   (aD (cZ (eJ (K:=K) rfl ù Ċ ċ cE (pv 6) (aA (pv 8) aC)))
   (aI (dA (jP (eU (pv 12))) (aD (cZ (eJ (K:=K) rfl ù Ċ ċ cE (pv 5) (aA (aU (aA fU (aA (pv 15) aC))) aC)))
   (aI (eF (i:=15) sc.nd rfl (Or.inr rfl) aF))) bK)))))) bK)
   (aI (cZ (eJ (K:=K) rfl ù Ċ ċ cE (pv 7) (aA (pv 15) aC)))))))))
   (aD (pL 17 sc.nd (aW (pP (K:=K) rfl) rfl T.b_list oR (aA (px K (pv 1) aF) aC)))
   (aD (cX ï rfl (cL (K:=K) rfl (pv 6)) (gL 8 sc.nd) (aI (cX ï rfl (eG (K:=K) rfl (px K (px K (px K (pv 0) aF) (pv 8)) aF)) (bA (K:=K) (n:=2) rfl rfl (aG (gL 18 sc.nd) (aG (gL 19 sc.nd) aZ))) (aI (dU (px K (bM (aA (vY (px K (pv 17) (pv 19))) (aA eA (aA eA aC)))) (eJ (K:=K) rfl ù afs aft sG (bM (aA eI (aA eI (aA eI aC)))) (aA (pv 18) aC))) (pD (pv 17) (pv 19) i7))))))
   (aD (zW (i:=20) sc.nd rfl rfl (λ _ _ h=>h) rfl (LcOk2.mk (N':=["k","goes"]) (fr:=[none,some 5]) rfl ⟨rfl,trivial⟩ rfl rfl rfl rfl rfl ⟨⟨_,rfl,rfl,rfl,rfl⟩,trivial⟩) (cD rfl T.b_range (aA (pC K T.b_len (px K (pv 0) aF)) aC)) (λ _ _ _=>(oA (i:=0) (show (["k","goes"]:List Str).Nodup by decide +kernel) rfl (Or.inr rfl) (Or.inl rfl))) (λ _ _ _=>bS) (λ _ _ _=>(bB (jE (K:=K) rfl rfl) rfl T.b_sum Ť (aA (eW (λ _ _ h=>h) rfl (LcOk.mk (N':=["target","amount","k"]) (fr:=[none,none,some 0]) rfl ⟨rfl,trivial⟩ rfl rfl rfl rfl rfl ⟨⟨_,rfl,rfl,rfl,rfl⟩,trivial⟩) (cL (K:=K) rfl (pv 1)) (λ _ _ _=>(bA (K:=K) (n:=2) rfl rfl (aG (gC 0 ["target","amount","k"]) (aG (gC 1 ["target","amount","k"]) aZ)))) (λ _ _ _=>vX (bF mR (pv 0) (pv 2) (bH _))) (λ _ _ _=>(pv 1))) aC))))
   (aD (pL 21 sc.nd (bB (jE (K:=K) rfl rfl) rfl T.b_sum Ť (aA (eW (λ _ _ h=>h) rfl (LcOk.mk (N':=["target","amount"]) (fr:=[none,none]) rfl trivial rfl rfl rfl rfl rfl trivial) (cL (K:=K) rfl (pv 5)) (λ _ _ _=>(bA (K:=K) (n:=2) rfl rfl (aG (gC 0 ["target","amount"]) (aG (gC 1 ["target","amount"]) aZ)))) (λ _ _ _=>vX (bF A0 (pv 0) fU (bH _))) (λ _ _ _=>(pv 1))) aC)))
   (aI (bG (bM (aA (aU (aA (aW (bI (K:=K) rfl) rfl T.b_tuple bQ (aA (pv 7) aC)) (aA (aW (bI (K:=K) rfl) rfl T.b_tuple bQ (aA (pv 20) aC)) (aA (aW (bI (K:=K) rfl) rfl T.b_tuple bQ (aA (pv 17) aC)) aC)))) (aA (aW (bI (K:=K) rfl) rfl T.b_tuple bQ (aA (pv 6) aC)) (aA (pv 21) aC))))))))))))))),?_⟩
  refine ĸ λ _ ŉ=>?_;obtain⟨a,b,c,xs,ys,rfl,q,q1,l1,q2,l2⟩:=gO hx;refine ŉ ?_;refine ĸ λ _ ŉ=>?_;obtain⟨ay,a1,a2,a3,rfl,qy,p1,p2,p3⟩:=AY hy;refine ŉ ?_;have nt:xs.length=gk.vs.length:=by rw[l1.length,Ê]
  have n1:=il.lo;have n2:=il.hi;have n3:=il.sp;have hn:((xs.length:Nat):Int).toNat=gk.vs.length:=by rw[nt];simp
  have qr:(aP gk gw gm gp gn).length=gk.vs.length:=by
   unfold aP;rw[hR,jG mh.h mh.c kc]
  have VB:(cO gk.vs (aP gk gw gm gp gn)).length<=60:=by
   have:=lW gk.vs (aP gk gw gm gp gn) il.vs;lia
  have xc:∀ i,(cO (gk.vs.take i) ((aP gk gw gm gp gn).take i)).length<=60:=λ i=>by
   have h1:=lW (gk.vs.take i) ((aP gk gw gm gp gn).take i) λ v hv=>il.vs v (Ĺ hv);have h2:(gk.vs.take i).length<=12:=by rw[Ø];lia
   lia
  have Iq:∀ i,(bP 0 (gk.vs.take i) ((aP gk gw gm gp gn).take i)).length<=12:=λ i=>by
   have h1:=lM (gk.vs.take i) ((aP gk gw gm gp gn).take i) 0;have h2:(gk.vs.take i).length<=12:=by rw[Ø];lia
   lia
  have qi:∀ i,(eE (gk.vs.take i) ((aP gk gw gm gp gn).take i)).length<=12:=λ i=>by
   rw[jK _ _ (by rw[Ø,Ø,qr]),Ø];lia
  refine⟨_,rfl,_,rfl,_,rfl,.ref a,.ref ay,z,gk,gw,gm,gp,gn,rfl,hx,hy,qz,il,mh,kc,λ hl H1 oz fr1 VC=>?_⟩;refine⟨æ _,λ gl Eh=>⟨æ _,λ tl ve=>⟨æ _,λ sl xf=>?_⟩⟩⟩;have ft:H1 tl=none:=aE.free (È Eh) ve;have fs:H1 sl=none:=aE.free (È Eh) (aE.free (È ve) xf);have Qs:tl≠sl:=aH (show upd _ tl (.lst []) tl=_ from aB) xf;have Bm:gl≠tl:=aH (show upd H1 gl (.lst []) gl=_ from aB) ve;have Bn:gl≠sl:=aH (show upd (upd H1 gl (.lst [])) tl (.lst []) gl=some (.lst []) by rw[aJ Bm];exact aB) xf;refine (aK _ rfl (.inr (.inl (iF a _ 0 _ rfl ⟨rfl,((((oz.trans (È Eh)).trans (È ve)).trans (È xf)).tup q),rfl,(aX b xs rfl ⟨.inr ((((oz.trans (È Eh)).trans (È ve)).trans (È xf)).tup q1),(aK _ rfl ⟨by lia,by lia,?_⟩)⟩)⟩))));rw[hn];refine fC (lo:=0) (n:=gk.vs.length) (λ i ad H'=>aE H1 H'/\H' tl=some (.lst ((bP 0 (gk.vs.take i) ((aP gk gw gm gp gn).take i)).map λ (j:Nat)=>V.int (j:Int)))/\
   H' sl=some (.lst ((eE (gk.vs.take i) ((aP gk gw gm gp gn).take i)).map V.int))/\∃ (gl:Á) (kj:List V),H1 gl=none/\gl≠tl/\gl≠sl/\H' gl=some (.lst kj)/\L2.IsL K H' ((cO (gk.vs.take i) ((aP gk gw gm gp gn).take i)).map outD) kj/\
   ∃ v8 v9 jr ju me we wf zq wg,ad=[some (.ref a),some (.ref ay),some (.ref z),some .non,some (.ref hl),some (.ref gl),some (.ref tl),some (.ref sl),v8,v9,jr,ju,me,we,wf,zq,wg,none,none,none,none,none]) ?_ ?_ ?_
  ·refine⟨((È Eh).trans (È ve)).trans (È xf),by rw[aJ Qs,aB];simp [bP],by rw[aB];simp [eE],gl,[],Eh,Bm,Bn,by rw[aJ Bn,aJ Bm,aB],?_,none,none,none,none,none,none,none,none,none,rfl⟩;simp only [Ř,cO,û];exact .nil
  ·rintro DD i - lq ad H2 hi zF;refine ĸ λ _ ŉ=>?_;obtain⟨sm,uu,ur,gl,kj,fg,Bm,Bn,Ga,Gb,v8,v9,jr,ju,me,we,wf,zq,wg,rfl⟩:=zF;refine ŉ ?_;rw[į];have hv:gk.vs[i]? = some gk.vs[i]:=by simp [hi]
   have sv:=il.vs gk.vs[i] (ĳ hi);have hil:i < (aP gk gw gm gp gn).length:=by rw[qr];exact hi
   have wz:(aP gk gw gm gp gn)[i]? = some ((aP gk gw gm gp gn)[i]'hil):=by simp
   generalize hh:(aP gk gw gm gp gn)[i]'hil=h at wz;have VD:((aP gk gw gm gp gn).map V.int)[i]? = some (.int h):=by rw[Ð,wz];rfl
   have sA:aE H H2:=oz.trans sm;have s1:=kL gk.vs (aP gk gw gm gp gn) i _ _ hv wz;have s2:=mW gk.vs (aP gk gw gm gp gn) i 0 _ _ hv wz;have s3:=nC gk.vs (aP gk gw gm gp gn) i _ _ hv wz;generalize hvv:gk.vs[i]=v at hv sv s1 s2 s3;obtain⟨xv,ya,Cj⟩:=l1.get (i:=i) (d:=qK v) (by rw[Ð,hv];rfl);refine ĸ λ _ ŉ=>?_;obtain⟨va,o,cc,rfl,qv,ho,hc⟩:=uB Cj;refine ŉ ?_;obtain⟨oa,os,rfl,qo,lo⟩:=ho.un;have Iz:os.length=v.outs.length:=by rw[lo.length,Ê]
   have Pd:=uA sv.ne sv.outs;have Lz:=qZ sv.outs;have Qt:=sv.o3;refine (aK _ rfl (.inr (.inl (iF a _ 0 _ rfl ⟨rfl,sA.tup q,rfl,(aK _ rfl (.inr (.inl (iF b xs (i:Int) _ rfl ⟨rfl,sA.tup q1,bN ya,(aX va _ rfl ⟨sA.tup qv,rfl,(aX _ _ rfl (aX _ _ rfl (aX _ _ rfl (aX _ _ rfl (aX _ _ rfl (aX _ _ rfl ⟨rfl,?_⟩))))))⟩)⟩))))⟩))));refine (aK _ rfl (aK _ rfl (.inl (iF hl _ (i:Int) _ rfl ⟨rfl,Ë (sm _ _ VC),bN VD,(aK _ rfl (aX _ _ rfl ?_))⟩))));have eh:(if v.brim < h then v.brim else h)=bT v h:=by unfold bT;split <;> lia
   rw[eh];refine (aK _ rfl ⟨.inl ⟨rfl,_,Ë Ga⟩,(aK _ rfl (aK _ rfl (aK _ rfl (.inl (iF hl _ (i:Int) _ rfl ⟨rfl,Ë (sm _ _ VC),bN VD,(aK _ rfl (aX _ _ rfl ⟨rfl,(show 2<=sizeLine by decide),λ gq VE=>?_⟩))⟩)))))⟩);have YY:gl≠gq:=aH Ga VE;have Ek:kj.length=(cO (gk.vs.take i) ((aP gk gw gm gp gn).take i)).length:=by rw[Gb.length,Ê]
   have YZ:=xc i;refine⟨gl,kj,_,rfl,rfl,by rw[aJ YY];exact Ga,aY (by lia),?_⟩;obtain⟨jv,Cw,Gc,Qu⟩:=yS sm fg Ga Gb VE v.spill (h - bT v h);have Ei:=Qu tl _ (Ne.symm Bm) uu;have xu:=Qu sl _ (Ne.symm Bn) ur;generalize upd (upd H2 gq (.tup [iN v.spill,.int (h - bT v h)])) gl (.lst (kj++[.ref gq]))=H3 at jv Cw Gc Qu Ei xu ⊢;have xg:aE H H3:=oz.trans jv;dsimp only [iZ,kK,tC,eB];refine BN (λ ad H'=>aE H1 H'/\H' tl=some (.lst ((bP 0 (gk.vs.take (i+1)) ((aP gk gw gm gp gn).take (i+1))).map λ (j:Nat)=>V.int (j:Int)))/\
    H' sl=some (.lst ((eE (gk.vs.take i) ((aP gk gw gm gp gn).take i)).map V.int))/\∃ (gl:Á) (kj:List V),H1 gl=none/\gl≠tl/\gl≠sl/\H' gl=some (.lst kj)/\L2.IsL K H' ((cO (gk.vs.take (i+1)) ((aP gk gw gm gp gn).take (i+1))).map outD) kj/\
    ∃ v8 v9 jr ju me we wf wg,ad=[some (.ref a),some (.ref ay),some (.ref z),some .non,some (.ref hl),some (.ref gl),some (.ref tl),some (.ref sl),v8,v9,jr,ju,me,we,wf,some (.int (gD v h)),wg,none,none,none,none,none]) (λ D' hD=>?_) ?_
   ·refine (aK _ rfl (aK _ rfl (aX _ _ rfl ⟨rfl,(aK _ rfl ?_)⟩)));refine gX (λ mr=>?_) (λ jk=>fL ?_)
    ·have se:kJ v h=true:=mr;refine (aK _ rfl (aK _ rfl ⟨rfl,(aK _ rfl ?_)⟩));refine gX (λ _=>?_) (λ vb=>absurd (by simp) vb);refine⟨_,rfl,oa,rfl,⟨_,xg.tup qo⟩,iW (K:=K) (a:=oa) (xs:=os) (λ D j ys ad H'=>H3 D=none/\aE H3 H'/\H' D=some (.lst ys)/\ys=(v.outs.take j).map (λ x=>V.int x.2)/\∃ x y,ad=[x,y])
      (λ D j ys ad H' p=>p.2.1.tup (xg.tup qo)) (λ D hD=>⟨hD,È hD,aB,by simp,none,none,rfl⟩) ?_ ?_⟩
     rotate_left
     ·rintro D j x ys ad H' hx zF;refine ĸ λ _ ŉ=>?_;obtain⟨hD,Ja,iw,rfl,v1,v2,rfl⟩:=zF;refine ŉ ?_;obtain⟨ot,wy,oq,rfl,qa⟩:=jR lo hx;have Jb:=(Ò.mp wy).1;refine (aX oq _ rfl ⟨Ja.tup (xg.tup qa),rfl,(aX _ _ rfl (aX _ _ rfl ⟨rfl,?_⟩))⟩);refine fI ⟨_,rfl,iw,aY (by simp;lia),hD,Ja.put hD,aB,?_,_,_,rfl⟩;rw[aO wy];simp
     rintro D ys ad H4 ⟨hD4,ka,iw,rfl,_⟩;rw[Iz,Ù] at iw;refine⟨false,D,v.outs.map (·.2),rfl,Ë (by rw[ú];exact iw),?_⟩;have ew:(v.outs.map (·.2)).sum=whole v.outs:=rfl;rw[ew];have Qv:aE H H4:=xg.trans ka;refine⟨_,rfl,_,rfl,oa,rfl,⟨_,Qv.tup qo⟩,iW (K:=K) (a:=oa) (xs:=os) (λ D j ys ad H'=>H4 D=none/\aE H4 H'/\H' D=some (.lst ys)/\L2.IsL K H' (((g9 v (bT v h)).take j).map outD) ys/\∃ x y,ad=[x,y,some (.int (bT v h)),some (.int (whole v.outs))])
      (λ D j ys ad H' p=>p.2.1.tup (Qv.tup qo)) (λ D hD=>⟨hD,È hD,aB,by simp only [Ř,û];exact .nil,none,none,rfl⟩) ?_ ?_⟩
     rotate_left
     ·rintro D j x ys ad H' hx zF;refine ĸ λ _ ŉ=>?_;obtain⟨hD,Ja,iw,Gd,v1,v2,rfl⟩:=zF;refine ŉ ?_;obtain⟨ot,wy,oq,rfl,qa⟩:=jR lo hx;have Jb:=(Ò.mp wy).1;have Hn:=sv.outs ot (Ú wy);refine (aX oq _ rfl ⟨Ja.tup (Qv.tup qa),rfl,(aX _ _ rfl (aX _ _ rfl ⟨rfl,?_⟩))⟩);refine fI ⟨_,rfl,_,rfl,_,rfl,_,_,rfl,rfl,⟨by lia,by lia⟩,_,rfl,_,_,rfl,rfl,.inr ⟨by have:=Hn.lo;lia,by have:=Hn.hi;lia⟩,(show 2<=sizeLine by decide),λ tq Qw=>?_⟩;have nD:D≠tq:=aH iw Qw;have Qx:ys.length<=3:=by rw[Gd.length,Ê,Ø];unfold g9;rw[Ê];lia
      have mt:mH (upd H' tq (.tup [iN ot.1,.int (bT v h / whole v.outs * ot.2)]) D):=by rw[aJ nD,iw];exact trivial
      have ma:(g9 v (bT v h))[j]? = some (ot.1,bT v h / whole v.outs * ot.2):=by unfold g9;rw[Ð,wy];rfl
      refine⟨by rw[aJ nD];exact iw,aY (by lia),hD,λ b o e=>by rw[aJ (aH e hD)];exact È Qw b o (Ja b o e),aB,?_,_,_,rfl⟩;rw[aO ma,Ó];exact ė (Ô (ds:=[EV ot.1,.int (bT v h / whole v.outs * ot.2)]) (đ (Ł _) (.inr mt) _ _ (Ì aB)) (.cons (Ő _) (.cons (è _) .nil))) (Ö (đ (È Qw).ts (.inr mt)) _ _ Gd)
     rintro D2 ys ad H5 ⟨Qy,nw,Qz,Gd,_⟩;have VF:(g9 v (bT v h)).length=os.length:=by unfold g9;rw[Ê,Iz]
     rw[Ġ (ś VF)] at Gd;have Qx:ys.length<=3:=by rw[Gd.length,Ê,VF,Iz];exact Qt
     have Y0:=nw _ _ (ka _ _ Cw);refine⟨gl,D2,kj++[.ref gq],ys,rfl,rfl,Y0,Qz,Ķ (aY (by simp;lia)),λ wj Bo=>?_⟩;have QA:H1 wj=none:=aE.free (jv.trans (ka.trans nw)) Bo;have Fy:=nw _ _ (ka _ _ Ei);have VG:=nw _ _ (ka _ _ xu);have Bp:wj≠tl:=Ne.symm (aH Fy Bo);have El:wj≠sl:=Ne.symm (aH VG Bo);have m6:aE H5 (upd H5 wj (.lst (kj++[.ref gq]++ys))):=È Bo;have VH:L2.IsL K (upd H5 wj (.lst (kj++[.ref gq]++ys))) ((cO (gk.vs.take i) ((aP gk gw gm gp gn).take i)++[(v.spill,h - bT v h)]++g9 v (bT v h)).map outD) (kj++[.ref gq]++ys):=by
      rw[Ó];exact IsL.append (Ö m6.ts _ _ (Ö nw.ts _ _ (Ö ka.ts _ _ Gc))) (Ö m6.ts _ _ Gd)
     have VI:upd H5 wj (.lst (kj++[.ref gq]++ys)) wj=some (.lst (kj++[.ref gq]++ys)):=aB;have VJ:aE H1 (upd H5 wj (.lst (kj++[.ref gq]++ys))):=(jv.trans (ka.trans nw)).trans m6;have Ge:=m6 _ _ Fy;have VL:=m6 _ _ VG;generalize upd H5 wj (.lst (kj++[.ref gq]++ys))=H6 at VJ VI VH Ge VL ⊢;refine (aK _ rfl (aK _ rfl (aX _ _ rfl ⟨rfl,(show 0 < whole v.outs by lia),?_⟩)));have ve:=Iq i;refine⟨_,rfl,.inl ⟨rfl,_,Ë Ge⟩,_,rfl,tl,_,_,rfl,rfl,Ge,aY (by rw[Ê];lia),?_⟩;have Y1:mH (H6 tl):=by rw[Ge];exact trivial
     rw[se,Å rfl,Į] at s2;have Gf:upd H6 tl (.lst (((bP 0 (gk.vs.take i) ((aP gk gw gm gp gn).take i)).map λ (j:Nat)=>V.int (j:Int))++[.int (i:Int)])) wj=some (.lst (kj++[.ref gq]++ys)):=by rw[aJ Bp];exact VI
     have QB:=Ö (đ (o:=HO.lst (((bP 0 (gk.vs.take i) ((aP gk gw gm gp gn).take i)).map λ (j:Nat)=>V.int (j:Int))++[.int (i:Int)])) (Ł H6) (.inr Y1)) _ _ VH;have Bq:aE H1 (upd H6 tl (.lst (((bP 0 (gk.vs.take i) ((aP gk gw gm gp gn).take i)).map λ (j:Nat)=>V.int (j:Int))++[.int (i:Int)]))):=VJ.put ft;have QC:upd H6 tl (.lst (((bP 0 (gk.vs.take i) ((aP gk gw gm gp gn).take i)).map λ (j:Nat)=>V.int (j:Int))++[.int (i:Int)])) tl=some (.lst ((bP 0 (gk.vs.take (i+1)) ((aP gk gw gm gp gn).take (i+1))).map λ (j:Nat)=>V.int (j:Int))):=by
      rw[aB,s2,Ó];rfl
     have QD:upd H6 tl (.lst (((bP 0 (gk.vs.take i) ((aP gk gw gm gp gn).take i)).map λ (j:Nat)=>V.int (j:Int))++[.int (i:Int)])) sl=_:=(aJ (Ne.symm Qs)).trans VL;generalize upd H6 tl (.lst (((bP 0 (gk.vs.take i) ((aP gk gw gm gp gn).take i)).map λ (j:Nat)=>V.int (j:Int))++[.int (i:Int)]))=H7 at Gf QB Bq QC QD ⊢;refine (aK _ rfl (aK _ rfl ?_));cases hhd:v.holds with
     | true=>
      refine fL ?_;have es:bT v h % whole v.outs=gD v h:=by unfold gD;rw[se,hhd];rfl
      refine hD _ _ ⟨Bq,QC,QD,wj,_,QA,Bp,El,Gf,?_,_,_,_,_,_,_,_,_,by rw[<- es];rfl⟩;have eg:gE v h=[(v.spill,h - bT v h)]++g9 v (bT v h):=by unfold gE;rw[se,hhd];simp
      rw[s3,eg,<- ý];exact QB
     | false=>
      refine iC ?_;refine (aK _ rfl ⟨.inl ⟨rfl,_,Ë Gf⟩,(aK _ rfl ⟨(show 2<=sizeLine by decide),λ Y2 Jc=>?_⟩)⟩);have QE:wj≠Y2:=aH Gf Jc;refine⟨wj,_,_,rfl,rfl,by rw[aJ QE];exact Gf,aY (by simp;lia),?_⟩;obtain⟨Y3,Y4,Y5,VM⟩:=yS Bq QA Gf QB Jc none (bT v h % whole v.outs);have es:gD v h=0:=by unfold gD;rw[se,hhd];rfl
      refine hD _ _ ⟨Y3,VM tl _ (Ne.symm Bp) QC,VM sl _ (Ne.symm El) QD,wj,_,QA,Bp,El,Y4,?_,_,_,_,_,_,_,_,_,by rw[es];rfl⟩;have eg:gE v h=[(v.spill,h - bT v h)]++g9 v (bT v h)++[(none,bT v h % whole v.outs)]:=by unfold gE;rw[se,hhd];simp
      rw[s3,eg,<- ý,<- ý];exact Y5
    ·have se:kJ v h=false:=by
      cases e:kJ v h with
      | false=>rfl
      | true=>exact absurd e jk
     have es:bT v h=gD v h:=by unfold gD;rw[se];rfl
     have eg:gE v h=[(v.spill,h - bT v h)]:=by unfold gE;rw[se];rfl
     rw[se,Ä Û,Ģ] at s2;refine hD _ _ ⟨jv,by rw[s2];exact Ei,xu,gl,_,fg,Bm,Bn,Cw,by rw[s3,eg];exact Gc,_,_,_,_,_,_,_,_,by rw[<- es];rfl⟩
   rintro ak H4 zF;refine ĸ λ _ ŉ=>?_;obtain⟨ka,Iw,sy,gl,kj,fg,Bm,Bn,Y6,Y7,v8,v9,jr,ju,me,we,wf,wg,rfl⟩:=zF;refine ŉ ?_;have Y8:=qi i;refine⟨_,rfl,.inl ⟨rfl,_,Ë sy⟩,_,rfl,sl,_,_,rfl,rfl,sy,aY (by rw[Ê];lia),?_⟩;refine lq _ _ ⟨ka.put fs,by rw[aJ Qs];exact Iw,by rw[aB,s1,Ó];rfl,gl,kj,fg,Bm,Bn,by rw[aJ Bn];exact Y6,Ö (đ (Ł _) (.inr (by rw[sy];exact trivial))) _ _ Y7,_,_,_,_,_,_,_,_,_,rfl⟩
  ·rintro ad H2 zF;refine ĸ λ _ ŉ=>?_;obtain⟨sm,uu,ur,gl,kj,fg,Bm,Bn,Ga,Gb,v8,v9,jr,ju,me,we,wf,zq,wg,rfl⟩:=zF;refine ŉ ?_;have ek:gk.vs.take gk.vs.length=gk.vs:=Ù;have Qq:(aP gk gw gm gp gn).take gk.vs.length=aP gk gw gm gp gn:=by rw[<- qr,Ù]
   rw[ek,Qq] at uu ur Gb;have sA:aE H H2:=oz.trans sm;have etl:(bP 0 gk.vs (aP gk gw gm gp gn)).length<=12:=by have:=lM gk.vs (aP gk gw gm gp gn) 0;lia
   refine (aK _ rfl (.inr (.inl (iF ay _ 2 _ rfl ⟨rfl,sA.tup qy,rfl,(aX a3 _ rfl ⟨.inr (sA.tup p3),λ dl Ci=>?_⟩)⟩))));have m3:aE H2 (upd H2 dl (.lst (gn.map V.bl))):=È Ci;refine⟨_,rfl,tl,rfl,⟨_,Ë (m3 _ _ uu)⟩,pJ (K:=K) (a:=tl) (xs:=(bP 0 gk.vs (aP gk gw gm gp gn)).map λ (j:Nat)=>V.int (j:Int))
    (λ i ad H'=>aE H2 H'/\H' dl=some (.lst ((cU gk.vs gn ((bP 0 gk.vs (aP gk gw gm gp gn)).take i)).map V.bl))/\
     ∃ v8 v9 jr ju me we wf zq wg Em En,ad=[some (.ref a),some (.ref ay),some (.ref z),some .non,some (.ref hl),some (.ref gl),some (.ref tl),some (.ref sl),v8,v9,jr,ju,me,we,wf,zq,wg,some (.ref dl),Em,En,none,none])
    ⟨m3,aB,_,_,_,_,_,_,_,_,_,_,_,rfl⟩ (λ i ad H' _ p=>Ë (p.1 _ _ uu)) ?_ ?_⟩
   ·rintro DD i - lq x ad H3 kz zF;refine ĸ λ _ ŉ=>?_;obtain⟨jv,Ms,v8,v9,jr,ju,me,we,wf,zq,wg,Em,En,rfl⟩:=zF;refine ŉ ?_;rw[Ð] at kz;obtain⟨j,hj,rfl⟩:=ó.mp kz;have Ho:j < gk.vs.length:=by have:=rD _ _ _ _ (Ú hj);lia
    have hv:gk.vs[j]? = some gk.vs[j]:=by simp [Ho]
    have sv:=il.vs gk.vs[j] (ĳ Ho);have VN:=qC gk.vs gn ((bP 0 gk.vs (aP gk gw gm gp gn)).take i) j gk.vs[j] hv;generalize hvv:gk.vs[j]=v at hv sv VN;obtain⟨xv,ya,Cj⟩:=l1.get (i:=j) (d:=qK v) (by rw[Ð,hv];rfl);refine ĸ λ _ ŉ=>?_;obtain⟨va,o,cc,rfl,qv,ho,hc⟩:=uB Cj;refine ŉ ?_;obtain⟨ca,cs,rfl,qc,lc⟩:=hc.un;have Pk:cs.length=v.acts.length:=by rw[lc.length,Ê]
    have xg:aE H H3:=sA.trans jv;refine⟨_,rfl,.inr (.inl ⟨a,_,0,_,rfl,rfl,xg.tup q,rfl,_,rfl,.inr (.inl ⟨b,xs,(j:Int),_,rfl,rfl,xg.tup q1,bN ya,.inr (.inl ⟨va,_,5,_,rfl,rfl,xg.tup qv,rfl,ca,rfl,⟨_,xg.tup qc⟩,oO (K:=K) (a:=ca) (xs:=cs)
     (λ l ad H'=>aE H2 H'/\H' dl=some (.lst ((fH (cU gk.vs gn ((bP 0 gk.vs (aP gk gw gm gp gn)).take i)) (v.acts.take l)).map V.bl))/\
      ∃ v8 v9 jr ju me we wf zq wg Em En,ad=[some (.ref a),some (.ref ay),some (.ref z),some .non,some (.ref hl),some (.ref gl),some (.ref tl),some (.ref sl),v8,v9,jr,ju,me,we,wf,zq,wg,some (.ref dl),Em,En,none,none])
     ⟨jv,Ms,_,_,_,_,_,_,_,_,_,_,_,rfl⟩ (λ l ad H' _ p=>(sA.trans p.1).tup qc) ?_ ?_⟩)⟩)⟩)⟩
    ·rintro D1 l - QF x ad H4 Hz zF;refine ĸ λ _ ŉ=>?_;obtain⟨ka,Gg,v8,v9,jr,ju,me,we,wf,zq,wg,Em,En,rfl⟩:=zF;refine ŉ ?_;obtain⟨at',Hr,aa,rfl,qa⟩:=qX lc Hz;have vz:=sv.acts at' (Ú Hr);refine (aX aa _ rfl ⟨(sA.trans ka).tup qa,rfl,(aX _ _ rfl (aX _ _ rfl ⟨rfl,?_⟩))⟩);have VO:=tI (cU gk.vs gn ((bP 0 gk.vs (aP gk gw gm gp gn)).take i)) (v.acts.take l) at';have Jd:(fH (cU gk.vs gn ((bP 0 gk.vs (aP gk gw gm gp gn)).take i)) (v.acts.take l)).length=gn.length:=by rw[mG,jY]
     generalize fH (cU gk.vs gn ((bP 0 gk.vs (aP gk gw gm gp gn)).take i)) (v.acts.take l)=DS at Gg VO Jd;have ke:at'.2.toNat < DS.length:=by rw[Jd,mh.d];have:=vz.lo;have:=vz.hi;lia
     have hg:(DS.map V.bl)[at'.2.toNat]? = some (.bl (DS.getD at'.2.toNat false)):=by
      rw[Ð,Ē];simp [ke]
     obtain⟨jj,Y9,w1,w2,w3⟩:=JG vz.word;refine (aK _ rfl (aK _ rfl (.inl ⟨dl,_,at'.2,(aK _ rfl ⟨rfl,Ë Gg,qW vz.lo hg,(aK _ rfl ⟨(show 3<=sizeLine by decide),λ b1 ze=>⟨(show 3<=sizeLine by decide),λ b2 oj=>⟨.inl ⟨rfl,_,Ë aB⟩,(aK _ rfl ?_)⟩⟩⟩)⟩)⟩)));have m5:aE H4 (upd H4 b1 (.lst [.bl (!DS.getD at'.2.toNat false),.bl true,.bl false])):=È ze;have m6:aE (upd H4 b1 (.lst [.bl (!DS.getD at'.2.toNat false),.bl true,.bl false])) (upd (upd H4 b1 (.lst [.bl (!DS.getD at'.2.toNat false),.bl true,.bl false])) b2 (.lst [.str "turn",.str "open",.str "shut"])):=È oj;refine⟨b2,_,_,jj,rfl,rfl,aB,rfl,rfl,Y9,w1,w2,.inl ⟨b1,_,(jj:Int),_,rfl,rfl,Ë (m6 _ _ aB),bN (w3 (DS.getD at'.2.toNat false)),?_⟩⟩;refine⟨_,rfl,_,rfl,dl,_,at'.2,at'.2.toNat,rfl,rfl,m6 _ _ (m5 _ _ Gg),qQ vz.lo (by rw[Ê];have:=vz.lo;lia),?_⟩;refine QF _ _ ⟨((ka.trans m5).trans m6).put Ci,?_,_,_,_,_,_,_,_,_,_,_,_,rfl⟩;rw[aB,aO Hr,VO,AQ,aho]
    ·rintro ad H4 zF;refine ĸ λ _ ŉ=>?_;obtain⟨ka,Gg,v8,v9,jr,ju,me,we,wf,zq,wg,Em,En,rfl⟩:=zF;refine ŉ ?_;rw[Pk,Ù] at Gg;refine lq _ _ ⟨ka,?_,_,_,_,_,_,_,_,_,_,_,_,rfl⟩;rw[aO hj,VN];exact Gg
   ·rintro ad H3 zF;refine ĸ λ _ ŉ=>?_;obtain⟨jv,Ms,v8,v9,jr,ju,me,we,wf,zq,wg,Em,En,rfl⟩:=zF;refine ŉ ?_;rw[Ê,Ù] at Ms;have xg:aE H H3:=sA.trans jv;have Cw:=jv _ _ Ga;have Gc:=Ö jv.ts _ _ Gb;have Ek:kj.length=(cO gk.vs (aP gk gw gm gp gn)).length:=by rw[Gb.length,Ê]
    refine (aK _ rfl (.inr (.inl (iF a _ 0 _ rfl ⟨rfl,xg.tup q,rfl,(aX b xs rfl ⟨.inr (xg.tup q1),(aK _ rfl ⟨by lia,by lia,?_⟩)⟩)⟩))));rw[hn];refine j9 (n:=gk.vs.length) (λ D i r ad H'=>H3 D=none/\aE H3 H'/\H' D=some (.lst r)/\r=((fA gk.vs.length (cO gk.vs (aP gk gw gm gp gn))).take i).map V.int/\∃ v,ad=[v,some (.ref gl)])
     (λ D hD=>⟨hD,È hD,aB,by simp,none,rfl⟩) ?_ ?_
    rotate_left
    ·rintro D i r ad H4 hi ⟨hD,ka,iw,rfl,v,rfl⟩;refine eO ?_;refine⟨_,rfl,gl,rfl,⟨_,Ë (ka _ _ Cw)⟩,fY (K:=K) (a:=gl) (xs:=kj) (λ D' j r' ad H'=>H4 D'=none/\aE H4 H'/\H' D'=some (.lst r')/\r'=(tG (some (i:Int)) ((cO gk.vs (aP gk gw gm gp gn)).take j)).map V.int/\∃ u1 u2,ad=[u1,u2,some (.int (i:Int))])
      (λ D' j r' ad H' p=>Ë (p.2.1 _ _ (ka _ _ Cw))) (λ D' vf=>⟨vf,È vf,aB,by simp [tG],none,none,rfl⟩) ?_ ?_⟩
     rotate_left
     ·rintro D' j x r' ad H5 kz zF;refine ĸ λ _ ŉ=>?_;obtain⟨vf,nw,ny,rfl,u1,u2,rfl⟩:=zF;refine ŉ ?_;obtain⟨g,hg,ga,rfl,qg⟩:=jR (Ö ka.ts _ _ Gc) kz;refine (aX ga _ rfl ⟨nw.tup qg,rfl,(aX _ _ rfl (aX _ _ rfl ⟨rfl,?_⟩))⟩);have Za:MW (iN g.1) (.int (i:Int))=true:=by cases g.1 <;> rfl
      have zr:iN g.1=.int (i:Int)↔g.1=some (i:Int):=by cases g.1 <;> simp [iN]
      have zf:=zD (some (i:Int)) ((cO gk.vs (aP gk gw gm gp gn)).take j);rw[Ø] at zf;refine⟨_,rfl,_,rfl,Za,_,rfl,?_⟩;refine gX (λ ht=>?_) (λ hf=>?_)
      ·refine⟨_,rfl,ny,aY (by rw[Ê];lia),vf,nw.put vf,aB,?_,_,_,rfl⟩;rw[aO hg,mF,Å (zr.mp (ĕ ht)),Ó];rfl
      ·refine⟨vf,nw,ny,?_,_,_,rfl⟩;rw[aO hg,mF,Ä (λ e=>hf (ò (zr.mpr e))),Ģ]
     rintro D' r' ad H5 ⟨vf,nw,ny,rfl,_⟩;rw[Ek,Ù] at ny;refine⟨false,D',_,rfl,Ë ny,nw _ _ iw,aY (by simp [fA];lia),hD,(ka.trans nw).put hD,aB,?_,_,rfl⟩;have e:(fA gk.vs.length (cO gk.vs (aP gk gw gm gp gn)))[i]? = some (dO (some (i:Int)) (cO gk.vs (aP gk gw gm gp gn))):=by
      unfold fA;simp [hi]
     rw[aO e,Ó,tF];rfl
    rintro D r ad H4 ⟨hD,ka,iw,rfl,_⟩;have ll:(fA gk.vs.length (cO gk.vs (aP gk gw gm gp gn))).length=gk.vs.length:=by unfold fA;simp
    rw[Ġ (ś ll)] at iw;refine⟨_,rfl,gl,rfl,⟨_,Ë (ka _ _ Cw)⟩,fY (K:=K) (a:=gl) (xs:=kj) (λ D' j r' ad H'=>H4 D'=none/\aE H4 H'/\H' D'=some (.lst r')/\r'=(tG none ((cO gk.vs (aP gk gw gm gp gn)).take j)).map V.int/\∃ u1 u2,ad=[u1,u2])
     (λ D' j r' ad H' p=>Ë (p.2.1 _ _ (ka _ _ Cw))) (λ D' vf=>⟨vf,È vf,aB,by simp [tG],none,none,rfl⟩) ?_ ?_⟩
    rotate_left
    ·rintro D' j x r' ad H5 kz zF;refine ĸ λ _ ŉ=>?_;obtain⟨vf,nw,ny,rfl,u1,u2,rfl⟩:=zF;refine ŉ ?_;obtain⟨g,hg,ga,rfl,qg⟩:=jR (Ö ka.ts _ _ Gc) kz;refine (aX ga _ rfl ⟨nw.tup qg,rfl,(aX _ _ rfl (aX _ _ rfl ⟨rfl,?_⟩))⟩);have zr:iN g.1=.non↔g.1=none:=by cases g.1 <;> simp [iN]
     have zf:=zD none ((cO gk.vs (aP gk gw gm gp gn)).take j);rw[Ø] at zf;refine (aK _ rfl ⟨rfl,(aK _ rfl ?_)⟩);refine gX (λ ht=>?_) (λ hf=>?_)
     ·refine⟨_,rfl,ny,aY (by rw[Ê];lia),vf,nw.put vf,aB,?_,_,_,rfl⟩;rw[aO hg,mF,Å (zr.mp (ĕ ht)),Ó];rfl
     ·refine⟨vf,nw,ny,?_,_,_,rfl⟩;rw[aO hg,mF,Ä (λ e=>hf (ò (zr.mpr e))),Ģ]
    rintro D' r' ad H5 ⟨vf,nw,ny,rfl,_⟩;rw[Ek,Ù] at ny;refine (uS false D' _ rfl ⟨Ë ny,?_⟩);rw[tF];have c1:=nw _ _ (ka _ _ (jv _ _ ur));have c2:=nw _ _ iw;have c3:=nw _ _ (ka _ _ Ms);have c4:=nw _ _ (ka _ _ (jv _ _ uu));refine (aK _ rfl (aX sl _ rfl (.inl ⟨Ë c1,λ t1 Qr=>?_⟩)));have m1:=È (o:=HO.tup ((eE gk.vs (aP gk gw gm gp gn)).map V.int)) Qr;refine (aK _ rfl (aX D _ rfl (.inl ⟨Ë (m1 _ _ c2),λ t2 uu=>?_⟩)));have m2:=È (o:=HO.tup ((fA gk.vs.length (cO gk.vs (aP gk gw gm gp gn))).map V.int)) uu;refine (aK _ rfl (aX dl _ rfl (.inl ⟨Ë (m2 _ _ (m1 _ _ c3)),λ t3 Ei=>?_⟩)));have m3:=È (o:=HO.tup ((cU gk.vs gn (bP 0 gk.vs (aP gk gw gm gp gn))).map V.bl)) Ei;refine⟨(show 3<=sizeLine by decide),λ t4 Iw=>?_⟩;have m4:=È (o:=HO.tup [.ref t1,.ref t2,.ref t3]) Iw;refine (aK _ rfl (aX tl _ rfl (.inl ⟨Ë (m4 _ _ (m3 _ _ (m2 _ _ (m1 _ _ c4)))),λ t5 Fy=>?_⟩)));have m5:=È (o:=HO.tup ((bP 0 gk.vs (aP gk gw gm gp gn)).map λ (j:Nat)=>V.int (j:Int))) Fy;refine (aK _ rfl ⟨(show 3<=sizeLine by decide),λ t6 Ge=>?_⟩);have m6:aE _ _:=È (o:=HO.lst [.ref t4,.ref t5,.int (dO none (cO gk.vs (aP gk gw gm gp gn)))]) Ge;refine k t6 (.ref t4) (.ref t5) _ (((((((((xg.trans ka).trans nw).trans m1).trans m2).trans m3).trans m4).trans m5)).trans m6) aB ?_ ?_
    ·exact Ï m6.ts _ _ (Ï m5.ts _ _ (AZ (Ì aB) (m4.tup (m3.tup (m2.tup (Ì aB)))) (m4.tup (m3.tup (Ì aB))) (m4.tup (Ì aB))))
    ·refine Ï m6.ts _ _ (Ô (Ì aB) ?_);show L2.IsL K _ ((bP 0 gk.vs (aP gk gw gm gp gn)).map λ (i:Nat)=>L2.D.int (i:Int)) _;have e1:((bP 0 gk.vs (aP gk gw gm gp gn)).map λ (i:Nat)=>L2.D.int (i:Int))=((bP 0 gk.vs (aP gk gw gm gp gn)).map λ (i:Nat)=>(i:Int)).map L2.D.int:=by rw[ú];rfl
     have e2:((bP 0 gk.vs (aP gk gw gm gp gn)).map λ (i:Nat)=>V.int (i:Int))=((bP 0 gk.vs (aP gk gw gm gp gn)).map λ (i:Nat)=>(i:Int)).map V.int:=by rw[ú];rfl
     rw[e1,e2];exact L2.IsL.of_ints _
end Tw
namespace L2
open PySem PySem.Spec PyProof.Rows TwZ
section
variable {X:Cx}
end
end L2
namespace Tw
open PySem L2
theorem yV (l:List Nat):(l.map λ (i:Nat)=>V.int (i:Int)).all jC=true:=by
 rw[Č];intro z hz;obtain⟨i,_,rfl⟩:=Õ.1 hz;rfl
def Sta.tkA (gk:Net) (s:Sta) (a:Int):Tick:=mX gk s.held s.coming (a::iM (gk.vs.length - 1)) s.doors
def Sta.nxA (gk:Net) (s:Sta) (a:Int):Sta:=⟨(s.tkA gk a).held,(s.tkA gk a).coming,(s.tkA gk a).doors⟩
def gM (gk:Net) (v:Int) (s:Sta) (a:Int):Bool:=inV (.int v) ((s.tkA gk a).tip.map λ (j:Nat)=>V.int (j:Int))
def jH (gk:Net) (s:Sta):Prop:=StOk gk s.held s.coming s.doors
theorem rP {gk:Net} (il:NetOk gk) (a:Int):(a::iM (gk.vs.length - 1)).length=gk.vs.length:=by
 rw[ë,vA];have:=il.lo;lia
theorem nR (gk:Net):jH gk (kF gk):=⟨vA _,vA _,by show (gk.sps.map _).length=_;rw[Ê]⟩
theorem wJ {gk:Net} (il:NetOk gk) {s:Sta} (ih:jH gk s) (a:Int):jH gk (s.nxA gk a):=by
 have hs:(aP gk s.held s.coming (a::iM (gk.vs.length - 1)) s.doors).length=gk.vs.length:=by
  unfold aP;rw[hR,jG ih.h ih.c (rP il a)]
 exact⟨jK _ _ hs.symm,by show (fA _ _).length=_;unfold fA;simp,by show (cU _ _ _).length=_;rw[jY];exact ih.d⟩
def vD (K:Ç):Sp:=λ vs H Q _=>∃ (x y:V) (gk:Net) (s:Sta) (v a:Int),vs=[x,y,.int v,.int a]/\Is K H (iG gk) x/\Is K H (cV s) y/\NetOk gk/\jH gk s/\
 ∀ p b H',aE H H'->bC K H' p [b,.bl (gM gk v s a)]->Is K H' (cV (s.nxA gk a)) b->Q (.ref p) H'
theorem xZ:FnScope ["net","state","vessel","amount","behind","tipped","grounded"] ["net","state","vessel","amount"] (aL (bW 20)):={}
theorem GP {f f2 f3:Á}{fd zt Eo:FuncData} (F:Fun K "watch" "watch" (bW 20) f fd) (T:Txt mg)
  (xh:Callee P w K mg base "pouring" ["net","amount"] 1 (oZ K) f2 zt) (pi:Callee P w K mg base "tick_behind" ["net","state","poured"] 4 (vF K) f3 Eo) :
  FnOk P w K mg base kA 5 f fd ["net","state","vessel","amount"] (vD K):=by
 refine F.ok xZ (λ vs H Q E h=>?_) (λ ja A outer s H vs Q E hr h=>?_)
 ·obtain⟨x,y,gk,s,v,a,rfl,_⟩:=h;rfl
 ·obtain⟨x,y,gk,st,v,a,rfl,hx,hy,il,mh,k⟩:=h;have sc:=xZ;refine⟨_,(aD (dU (eX pi hr (aA (pv 0) (aA (pv 1) (aA (eX xh hr (aA (pv 0) (aA (pv 3) aC))) aC)))) (bA (K:=K) (n:=3) rfl rfl (aG (gL 4 sc.nd) (aG (gL 5 sc.nd) (aG (gL 6 sc.nd) aZ)))))
   (aI (bG (aU (aA (pv 4) (aA (fN (GL (K:=K) rfl) (pv 2) (pv 5) (by rfl)) aC)))))),?_⟩
  refine (aK _ rfl (aK _ rfl (aK _ rfl (aK _ rfl (uS x gk a rfl ⟨hx,il,λ z H1 s1 qz=>?_⟩)))));refine⟨x,y,z,gk,st.held,st.coming,a::iM (gk.vs.length - 1),st.doors,rfl,Ï s1.ts _ _ hx,Ï s1.ts _ _ hy,qz,il,mh,rP il a,λ r H2 s2 tp=>?_⟩;obtain⟨f,y1,Zb,rfl,qf,j1,Zc⟩:=tp;refine⟨f,_,rfl,qf,rfl,_,_,rfl,_,_,rfl,_,_,rfl,rfl,?_⟩;refine⟨_,rfl,_,rfl,_,rfl,Zb,_,rfl,.inr Zc.sq,rfl,yV _,(show 2<=sizeLine by decide),λ p hp=>?_⟩;have s3:=È (o:=HO.tup [y1,.bl (gM gk v st a)]) hp;exact k p y1 _ ((s1.trans s2).trans s3) (Ì aB) (Ï s3.ts _ _ j1)
def P7 (i:Nat) (st:Stmt):Pos:=match (fZ st)[i]? with
 | some (.Assign _ (.Call _ [_,.Lambda _ _ _ p,_,_] _ _) _)=>p
 | _=>⟨0,0,0,0⟩
structure SmT (Pt:Á) (pos:Pos) (q:Str) (H H':Hp):Prop where
 but:Q1 Pt H H'
 t1:fE H Pt pos q
 t2:fE H' Pt pos q
theorem fE.of {H H':Hp}{Pt:Á}{pos:Pos}{q:Str} (h:fE H Pt pos q) (s:aE H H'):SmT Pt pos q H H':=⟨λ b o _ e=>s b o e,h,h.same s⟩
theorem SmT.trans {H H' uq:Hp}{Pt:Á}{pos:Pos}{q:Str} (a:SmT Pt pos q H H') (b:SmT Pt pos q H' uq):SmT Pt pos q H uq:=⟨λ c o n e=>b.but c o n (a.but c o n e),a.t1,b.t2⟩
theorem SmT.step {H H' uq:Hp}{Pt:Á}{pos:Pos}{q:Str} (a:SmT Pt pos q H H') (b:aE H' uq):SmT Pt pos q H uq:=a.trans (fE.of a.t2 b)
theorem SmT.get {H H':Hp}{Pt:Á}{pos:Pos}{q:Str} (a:SmT Pt pos q H H') {b:Á}{o:HO} (e:H b=some o) (hn:∀ ps,o≠.tbl ps):H' b=some o:=a.but b o (λ z=>by
 obtain⟨ps,h⟩:=a.t1.some;rw[z,h] at e;exact hn ps (â e).symm) e
theorem SmT.free {H H':Hp}{Pt:Á}{pos:Pos}{q:Str} (a:SmT Pt pos q H H') {b:Á} (h:H' b=none):H b=none:=by
 cases e:H b with
 | none=>rfl
 | some o=>
  by_cases hb:b=Pt
  ·obtain⟨ps,h2⟩:=a.t2.some;rw[hb,h2] at h;cases h
  ·rw[a.but b o hb e] at h;cases h
theorem SmT.ts {K:Ç}{H H':Hp}{Pt:Á}{pos:Pos}{q:Str} (a:SmT Pt pos q H H'):bJ K H H':=λ b xs h=>by
 rcases h with (h | ⟨o,h⟩) | h
 ·exact .inl (.inl (a.get h λ ps z=>by cases z))
 ·exact .inl (.inr ⟨o,a.get h λ ps z=>by cases z⟩)
 ·exact .inr h
theorem Fun.okRC {x qual:Str}{st:Stmt}{f c:Á}{fd:FuncData}{N ps:List Str}{k:Nat}{sp:Sp} (F:Fun K x qual st f fd) (hc:fd.code=.ref c) (S:FnScope N ps (aL st)) (len:∀ vs H Q E,sp vs H Q E->vs.length=ps.length)
  (jt:∀ (A:Around) (outer:List Env) (s:Â) (H:Hp) (vs:List V) (Q:VK) (E:XK),Room k (A.deeper (PyProof.Rows.envOfC qual (aL st) s.heap.objs.size f (.ref c)))->sp vs H Q E->
   Leaves (lI (u9 P w) P w K mg base N qual (aL st) f (.ref c) A outer s H E) E->
   ∃ t,xK (lI (u9 P w) P w K mg base N qual (aL st) f (.ref c) A outer s H E) (fZ st) t/\t { nx:=λ _ H'=>Q .non H',rt:=Q } (iP N vs) H):FnOk P w K mg base (u9 P w) (k+1) f fd ps sp:=by
 obtain⟨oc,od,kV,doc,pm,an,ja,ct,wq,rfl,lk,nj⟩:=F.ex;obtain rfl:ja=.ref c:=hc;exact IB lk nj S len λ A outer s H vs Q E hr ke=>jt A outer s H vs Q E hr ke ⟨rfl,rfl,rfl,λ _ _ h=>h⟩
theorem iO {H H':Hp}{t Pt:Á}{pos:Pos}{q:Str} (h:fE H Pt pos q) (b:cK t H H') (hm:mH (H t)):fE H' Pt pos q:=by
 rcases h with h | ⟨c,oc,vs,tk,h1,h2,h3⟩
 ·exact .inl (b _ _ (λ z=>by rw[<- z,h] at hm;exact hm) h)
 ·exact .inr ⟨c,oc,vs,tk,b _ _ (λ z=>by rw[<- z,h1] at hm;exact hm) h1,b _ _ (λ z=>by rw[<- z,h2] at hm;exact hm) h2,h3⟩
section
variable {α:Type}{dD:α->L2.D}{nxt:α->Int->α}{fin:α->Int->Bool}{gj im:Nat}
theorem pQ (hf:∀ d a,fin d a=false) {d:α}{r:List Int}:∀ (l:Nat) (a:Int) (fs:Fs α) (row:List Int) (f:Fs α),oU dD nxt fin im d r l a fs≠.ends row f
 | 0,a,fs,row,f=>by intro h;cases h
 | l+1,a,fs,row,f=>by
  cases hv:(dS dD fs (dD (nxt d a))).isSome with
  | true=>rw[mD (hf d a) hv];exact pQ hf l _ _ _ _
  | false=>
   by_cases hl:im<=fs.length
   ·rw[lK (hf d a) hv hl];intro h;cases h
   ·rw[mE (hf d a) hv (by lia)];exact pQ hf l _ _ _ _
theorem sY (hf:∀ d a,fin d a=false):∀ (n p:Nat) (fs:Fs α) (row:List Int) (f:Fs α),iH dD nxt fin gj im n p fs≠.ends row f
 | 0,p,fs,row,f=>by intro h;cases h
 | n+1,p,fs,row,f=>by
  rw[iH];cases hd:fs[p]? with
  | none=>intro h;cases h
  | some d=>
   dsimp only;cases hb:oU dD nxt fin im d.1 ((dS dD fs (dD d.1)).getD []) (gj+1) 0 fs with
   | many=>intro h;cases h
   | ends row f=>exact absurd hb (pQ hf _ _ _ _ _)
   | on fs1=>exact sY hf n _ _ _ _
theorem pR {d:α}{r:List Int}:∀ (l:Nat) (a:Int) (fs ji:Fs α),(fs.map λ q=>dD q.1).Nodup->oU dD nxt fin im d r l a fs=.on ji->(ji.map λ q=>dD q.1).Nodup
 | 0,a,fs,ji,hn,h=>by cases h;exact hn
 | l+1,a,fs,ji,hn,h=>by
  cases hf:fin d a with
  | true=>rw[oT hf] at h;cases h
  | false=>
   cases hv:(dS dD fs (dD (nxt d a))).isSome with
   | true=>rw[mD hf hv] at h;exact pR l _ _ _ hn h
   | false=>
    by_cases hl:im<=fs.length
    ·rw[lK hf hv hl] at h;cases h
    ·rw[mE hf hv (by lia)] at h;refine pR l _ _ _ ?_ h;rw[Ó,ļ];refine⟨hn,by simp,λ x hx y hy e=>?_⟩;obtain⟨q,hq,rfl⟩:=Õ.mp hx;have hy:y=dD (nxt d a):=by simpa using hy
     have:=hX (dD:=dD) (d:=q.1) (r:=q.2) hq;rw[e,hy,hv] at this;cases this
theorem sZ:∀ (n p:Nat) (fs ji:Fs α),(fs.map λ q=>dD q.1).Nodup->iH dD nxt fin gj im n p fs=.on ji->(ji.map λ q=>dD q.1).Nodup
 | 0,p,fs,ji,hn,h=>by cases h;exact hn
 | n+1,p,fs,ji,hn,h=>by
  rw[iH] at h;cases hd:fs[p]? with
  | none=>rw[hd] at h;cases h;exact hn
  | some d=>
   rw[hd] at h;dsimp only at h;cases hb:oU dD nxt fin im d.1 ((dS dD fs (dD d.1)).getD []) (gj+1) 0 fs with
   | many=>rw[hb] at h;cases h
   | ends row f=>rw[hb] at h;cases h
   | on fs1=>rw[hb] at h;exact sZ n _ _ _ (pR _ _ _ _ hn hb) h
end
abbrev g0 (gk:Net) (gj:Nat):BRes Sta:=JA cV (λ s a=>s.nxA gk a) (λ _ _=>false) gj 200 (kF gk)
theorem xT {gk:Net}{gj:Nat}{row:List Int}{f:Fs Sta}:g0 gk gj≠.ends row f:=sY (λ _ _=>rfl) _ _ _ _ _
theorem xU {gk:Net}{gj:Nat}{fs:Fs Sta} (h:g0 gk gj=.on fs):(fs.map λ q=>cV q.1).Nodup:=sZ _ _ _ _ (by simp) h
theorem i4 {gk:Net}{gj:Nat}{fs:Fs Sta} (h:g0 gk gj=.on fs):∀ q∈fs,∀ a:Nat,a<=gj->∃ q'∈fs,q'.1=q.1.nxA gk a:=λ q hq a ha=>by
 have:=((oS (by decide) h).2 q hq a ha).2;obtain⟨q',h1,h2⟩:=lL this;exact⟨q',h1,gF _ _ h2⟩
def jU (gk:Net) (v:Int) (fs:Fs Sta) (s:Sta) (n:Nat):List (Nat×Bool):=(List.range n).map λ (a:Nat)=>(aR (fs.map (·.1)) (s.nxA gk a),gM gk v s a)
def cJ (gk:Net) (v:Int) (gj:Nat) (fs:Fs Sta):iK:=fs.map λ q=>jU gk v fs q.1 (gj+1)
theorem GA (fs:Fs Sta) (s:Sta):aR (fs.map λ q=>cV q.1) (cV s)=aR (fs.map (·.1)) s:=by
 rw[show (fs.map λ q=>cV q.1)=(fs.map (·.1)).map cV by rw[ú];rfl];exact rQ λ x _ h=>gF _ _ h
theorem DH {ds:List L2.D}{n:Nat}{d:L2.D} (hn:ds.Nodup) (h:ds[n]? = some d):eT (gJ 0 (ds.take n)) d (.int (n:Int))=gJ 0 (ds.take (n+1)):=by
 have hl:=(Ò.mp h).1;rw[aO h,n8,kU]
 ·rw[Ø,Į,ų (by lia)]
 ·refine n9 0 _ λ z=>?_;obtain⟨i,hi⟩:=ĩ.1 z;have Mt:=(Ò.mp hi).1;rw[Ø] at Mt;rw[Ž (by lia)] at hi;have e1:=lN hn hi;have e2:=lN hn h;lia
structure TxtL (mg:Str->Option À):Prop where
 g_MOST_STATES:∃ u,mg "MOST_STATES" = some u/\bE (.int 200) u
def kX:Pos:=P7 0 (bW 25)
def y8:Str:=(("whole_machine" : Str)++(".<locals>." : Str))++("<lambda>" : Str)
def zU (K:Ç) (Pt:Á) (cM:Á):Sp:=λ vs H Q E=>∃ (x:V) (gk:Net) (v:Int) (gj:Nat),vs=[x,.int v,.int gj]/\Is K H (iG gk) x/\NetOk gk/\gj<=1000/\fE H Pt kX y8/\
 (g0 gk gj=.many->∀ H',SmT Pt kX y8 H H'->E (.ref cM) none H')/\
 (∀ fs,g0 gk gj=.on fs->∀ ml H',SmT Pt kX y8 H H'->jZ K H' ml (cJ gk v gj fs)->H ml=none->fs.length<=200->Q (.ref ml) H')
theorem j5:FnScope ["net","watched","most","row","states","places","machine","state","told"] ["net","watched","most"] (aL (bW 25)):={}
theorem pF {f f2 f3 f4 c Pt:Á}{fd zt Eo QG:FuncData} (F:Fun K "whole_machine" "whole_machine" (bW 25) f fd) (T:Txt mg) (wb:fd.code=.ref c) (jl:NestB mg base c Pt) (U:TxtL mg)
  (pk:Callee P w K mg base "first_state" ["net"] 1 (jL K) f2 zt)
  (wk:Callee P w K mg base "watch" ["net","state","vessel","amount"] 5 (vD K) f3 Eo) (jm:CalleeS P w K mg base "go_through" ["first","step","most","limit"] 7 (FK P w K mg base gr cV) f4 QG) :
  FnOk P w K mg base (u9 P w) 8 f fd ["net","watched","most"] (zU K Pt gr):=by
 refine Fun.okRC F wb j5 (λ vs H Q E h=>?_) (λ A outer s H vs Q E hr h L=>?_)
 ·obtain⟨x,gk,v,gj,rfl,_⟩:=h;rfl
 ·refine ĸ λ _ ŉ=>?_;obtain⟨x,gk,v,gj,rfl,hx,il,hm,tab,kM,kO⟩:=h;refine ŉ ?_;have sc:=j5;refine⟨_,(aD (dU (GI jm.ok (hr.mono (by decide)) rfl jm.mg jm.kp jm.bd (BC L) rfl rfl (λ _=>rfl) (aA (eX pk hr (aA (pv 0) aC)) (aA (N8 rfl rfl rfl jl) (aA (pv 2) (aA (fW rfl U.g_MOST_STATES) aC))))) (bA (K:=K) (n:=2) rfl rfl (aG (gL 3 sc.nd) (aG (gL 4 sc.nd) aZ))))
   (aD (qO λ pn=>(eF (i:=5) sc.nd rfl (Or.inr rfl) (K8 (P:=P) (w:=w) (K:=K) rfl rfl rfl hr.units (λ _ _ h=>h) rfl (LcOk.mk (N':=["place","state"]) (fr:=[none,none]) rfl trivial rfl rfl rfl rfl rfl trivial) (rS (K:=K) rfl rfl T.b_enumerate (aA (pv 4) aC)) (λ _ _ _=>(bA (K:=K) (n:=2) rfl rfl (aG (gC 0 ["place","state"]) (aG (gC 1 ["place","state"]) aZ)))) (λ _ _ _=>bS) (λ _ _ _=>(pv 1)) (λ _ _ _=>(pv 0)))))
   (aD (pL 6 sc.nd (bM aC))
   (aD (qO λ pn=>(cX ï rfl (cL (K:=K) rfl (pv 4)) (oA (i:=7) sc.nd rfl (Or.inr rfl)) (aD (h9 (i:=8) sc.nd rfl rfl (λ _ _ h=>h) rfl (LcOk.mk (N':=["amount","net","state","watched"]) (fr:=[none,some 0,some 7,some 1]) rfl ⟨rfl,rfl,rfl,trivial⟩ rfl rfl rfl rfl rfl ⟨⟨_,rfl,rfl,rfl,rfl⟩,⟨_,rfl,rfl,rfl,rfl⟩,⟨_,rfl,rfl,rfl,rfl⟩,trivial⟩) (cD rfl T.b_range (aA (aS cB (pv 2) aF) aC)) (λ _ _ _=>(gC 0 ["amount","net","state","watched"])) (λ _ _ _=>bS) (λ _ _ _=>(eX wk hr (aA (pv 1) (aA (pv 2) (aA (pv 3) (aA (pv 0) aC)))))))
   (aI (cZ (eJ (K:=K) rfl ù Ċ ċ cE (pv 6) (aA (eW (λ _ _ h=>h) rfl (LcOk.mk (N':=["behind","tips","places"]) (fr:=[none,none,some 5]) rfl ⟨rfl,trivial⟩ rfl rfl rfl rfl rfl ⟨⟨_,rfl,rfl,rfl,rfl⟩,trivial⟩) (cL (K:=K) rfl (pv 8)) (λ _ _ _=>(bA (K:=K) (n:=2) rfl rfl (aG (gC 0 ["behind","tips","places"]) (aG (gC 1 ["behind","tips","places"]) aZ)))) (λ _ _ _=>bS) (λ _ _ _=>(aU (aA (qA (uN (P:=P) (w:=w) (K:=K) rfl rfl rfl hr.units) (pv 2) (pv 0) (λ _ _=>rfl)) (aA (pv 1) aC))))) aC)))))))
   (aI (bG (pv 6))))))),?_⟩
  refine (aK _ rfl (aX x gk rfl ⟨hx,il,λ st H1 s1 qi=>⟨tab.same s1,λ fa ca oc wa H2 VP bt Je Zd rg=>(aK _ rfl (λ s1' cf=>?_))⟩⟩));have sT:SmT Pt kX y8 H H2:=(fE.of tab s1).trans ⟨bt,tab.same s1,Je⟩;have cN:(lI (u9 P w) P w K mg base ["net","watched","most","row","states","places","machine","state","told"] "whole_machine" (aL (bW 25)) f (.ref c) A outer s H E).env.cells.lookup ("net" : Str)=some (s.heap.objs.size+1):=rfl;have cW:(lI (u9 P w) P w K mg base ["net","watched","most","row","states","places","machine","state","told"] "whole_machine" (aL (bW 25)) f (.ref c) A outer s H E).env.cells.lookup ("watched" : Str)=some (s.heap.objs.size+1+1):=rfl;refine⟨λ s a=>s.nxA gk a,λ _ _=>false,jH gk,λ H=>Is K H (iG gk) x,xO gk,st,fa,ca,_,oc,[("watched",s.heap.objs.size+1+1),("net",s.heap.objs.size+1)],gj,200,kF gk,rfl,by decide,by decide,hm,?_,nR gk,⟨λ d a h _=>wJ il h a,λ d h H v e=>oI h e,λ H H' t h=>Ï t _ _ h⟩,Ï sT.ts _ _ hx,Zd,⟨_,_,_,_,rfl⟩,?_,?_,?_,?_,?_⟩
  ·exact Ï (SmT.ts ⟨bt,tab.same s1,Je⟩) _ _ qi
  ·have two:∀ (y:Str) (c:Á),List.lookup y [(("watched" : Str),s.heap.objs.size+1+1),(("net" : Str),s.heap.objs.size+1)]=some c->(y = "watched" /\ c=s.heap.objs.size+1+1)\/(y = "net" /\ c=s.heap.objs.size+1):=λ y c h=>by
    have:=ÿ h;rcases Ý.1 this with z | z
    ·injection z with z1 z2;exact .inl ⟨z1,z2⟩
    ·rw[é] at z;injection z with z1 z2;exact .inr ⟨z1,z2⟩
   refine GX (N:=["state","amount","net","watched"]) (ps:=["state","amount"]) (fv:=[x,.int v]) ⟨rfl,rfl,rfl,by decide +kernel,rfl,by decide +kernel,by decide +kernel,?_,?_⟩ ?_ rfl rg ?_ ?_ ?_ ?_
   ·intro y hy;have:=ÿ hy;simp only [Ý,Prod.mk.injEq,reduceCtorEq,and_false,and_true,false_or,or_false,ŷ] at this;rcases this with rfl | rfl
    ·exact⟨_,rfl⟩
    ·exact⟨_,rfl⟩
   ·refine List.Pairwise.cons (λ y hy=>?_) (List.pairwise_singleton _ _);rw[é] at hy;subst hy;show s.heap.objs.size+1+1≠s.heap.objs.size+1;lia
   ·rintro vs H' Q' ⟨x',d,a,rfl,_⟩;rfl
   ·intro us nz;obtain⟨u1,u2,rfl⟩:∃ u1 u2,us=[u1,u2]:=by
     match us,nz with
     | [u1,u2],_=>exact⟨u1,u2,rfl⟩
    rfl
   ·intro y c' h;rcases two y c' h with ⟨rfl,rfl⟩ | ⟨rfl,rfl⟩
    ·exact cf.cell _ _ cW
    ·exact cf.cell _ _ cN
   ·intro i y u h1 h2
    match i,h1,h2 with
    | 0,h1,h2=>
     cases h1;cases h2;obtain⟨c',u,h3,h4,h5⟩:=cf.val 0 "net" x rfl rfl rfl;rw[cN] at h3;cases h3;exact⟨rfl,(aX _ u rfl ⟨h4,h5⟩)⟩
    | 1,h1,h2=>
     cases h1;cases h2;obtain⟨c',u,h3,h4,h5⟩:=cf.val 1 "watched" (.int v) rfl rfl rfl;rw[cW] at h3;cases h3;exact⟨rfl,(aX _ u rfl ⟨h4,h5⟩)⟩
    | i+2,h1,h2=>simp at h2
   ·rintro A' QH s' H' vs Q' Ck zF;refine ĸ λ _ ŉ=>?_;obtain⟨y,d,a,rfl,hy,Ar,ha,hG,kk⟩:=zF;refine ŉ ?_;refine⟨_,aU (aA (qA (BK (K:=K) rfl) (eX wk Ck (aA (pv 2) (aA (pv 0) (aA (pv 3) (aA (pv 1) aC))))) aF (λ _ _=>rfl)) (aA eA aC)),?_⟩;refine (aK _ rfl (aK _ rfl (aK _ rfl (aK _ rfl (eA6 x y gk d v a rfl ⟨hG,hy,il,Ar,λ p b uq wo q1 q2=>?_⟩)))));refine .inr (.inl ⟨p,_,0,_,rfl,rfl,q1,rfl,(show 2<=sizeLine by decide),λ tp uc=>?_⟩);have s3:=È (o:=HO.tup [b,.bl false]) uc;exact kk tp b _ (wo.trans s3) (Ì aB) (Ï s3.ts _ _ q2)
  ·intro c' lz;have Ce:c'=s.heap.objs.size+1+1\/c'=s.heap.objs.size+1:=by simpa using lz
   rcases Ce with rfl | rfl
   ·obtain⟨h1,h2,h3⟩:=cf.out _ _ cW;obtain⟨u,o,h4,_⟩:=cf.cell _ _ cW;exact⟨h1,h2,h3,o,h4⟩
   ·obtain⟨h1,h2,h3⟩:=cf.out _ _ cN;obtain⟨u,o,h4,_⟩:=cf.cell _ _ cN;exact⟨h1,h2,h3,o,h4⟩
  ·intro row fs e;exact absurd e xT
  ·intro e H3 s3;exact kM e H3 (sT.step s3)
  ·intro fs e p fl us H3 s3 qp mf Qo pr Ze gy;have e:g0 gk gj=.on fs:=e;have Jf:=xU e;have ma:=i4 e;have vd:us.length=fs.length:=(å pr).symm;have QI:=sT.step s3;have Zf:=Ï QI.ts _ _ hx;refine⟨p,_,rfl,qp,rfl,_,_,rfl,_,_,rfl,rfl,?_⟩;refine⟨_,rfl,false,fl,rfl,⟨_,Ë mf⟩,IH (K:=K) (P:=P) (w:=w) (t:=false) (a:=fl) (xs:=us) (λ D i ad H'=>H3 D=none/\aE H3 H'/\bR P w K H' D (xO gk) (gJ 0 ((fs.map λ q=>cV q.1).take i))/\∃ u1 u2,ad=[u1,u2])
    (λ D i ad H' p=>Ë (p.2.1 _ _ mf)) (λ D hD=>⟨hD,È hD,bR.new aB,none,none,rfl⟩) ?_ ?_⟩
   rotate_left
   ·rintro D i u ad H4 tt hu ⟨jx,sm,dd,w1,w2,rfl⟩ Iq;obtain⟨q,hq,kq⟩:=ď pr hu;have hi:=(Ò.mp hu).1;have s5:=È (o:=HO.tup [.int (i:Int),u]) Iq;refine (aX tt _ rfl ⟨Ì aB,rfl,(aX _ _ rfl (aX _ _ rfl ⟨rfl,?_⟩))⟩);refine fI ⟨_,rfl,_,rfl,xO gk,_,cV q.1,dd.same s5,kq.mono (sm.trans s5).ts,bU (by rw[lR,Ø,Ê];lia),λ H7 b7 d7=>?_⟩;refine⟨jx,λ b o e=>b7 b o (aH e jx) ((sm.trans s5) b o e),?_,_,_,rfl⟩;rw[DH Jf (by rw[Ð,hq];rfl)] at d7;exact d7
   rintro sd ad H4 ⟨Cr,s4,dd,_⟩;rw[vd,show fs.length=(fs.map λ q=>cV q.1).length by rw[Ê],Ù] at dd;refine⟨æ _,λ ml As=>?_⟩;have s5:=È (o:=HO.lst []) As;have g5:upd H4 ml (.lst []) ml=some (.lst []):=aB;have Jg:H3 ml=none:=s4.free As;have Zg:sd≠ml:=λ z=>by obtain⟨o,e⟩:=dd.some;rw[z,As] at e;cases e
   have Mu:=dd.same s5;have Jh:=s4.trans s5;generalize upd H4 ml (.lst [])=H5 at s5 g5 Mu Jh ⊢;refine⟨_,rfl,fl,rfl,⟨_,Ë (Jh _ _ mf)⟩,pJ (K:=K) (a:=fl) (xs:=us) (λ j ad H'=>aE H3 H'/\bR P w K H' sd (xO gk) (gJ 0 (fs.map λ q=>cV q.1))/\(∃ ms,H' ml=some (.lst ms)/\Paired (λ row u=>∃ a,u=.ref a/\a≠ml/\uZ K H' row u) ((cJ gk v gj fs).take j) ms)/\
    ∃ v7 v8,ad=[some x,some (.int v),some (.int gj),some .non,some (.ref fl),some (.ref sd),some (.ref ml),v7,v8]) ?_ ?_ ?_ ?_⟩
   ·exact⟨Jh,Mu,⟨[],g5,.nil⟩,_,_,rfl⟩
   ·rintro i ad H' _ ⟨s6,_⟩;exact Ë (s6 _ _ mf)
   ·rintro DD j - lq u ad H6 hu zF;refine ĸ λ _ ŉ=>?_;obtain⟨s6,QJ,⟨ms,Mv,Ji⟩,v7,v8,rfl⟩:=zF;refine ŉ ?_;obtain⟨q,hq,kq⟩:=ď pr hu;have VQ:=Ú hq;have VR:=Ze q VQ;have hj:=(Ò.mp hu).1;have Zh:ms.length<=fs.length:=by rw[<- å Ji,Ø];unfold cJ;rw[Ê];lia
    dsimp only [eB,AX];refine (aK _ rfl (aX _ _ rfl ⟨rfl,(aK _ rfl ⟨by lia,by lia,?_⟩)⟩));rw[show ((gj:Int)+1).toNat=gj+1 by lia];refine j9 (n:=gj+1) (λ D i r ad H'=>H6 D=none/\aE H6 H'/\H' D=some (.lst r)/\Paired (λ (a:Nat) y=>∃ p b,y=.ref p/\bC K H' p [b,.bl (gM gk v q.1 a)]/\Is K H' (cV (q.1.nxA gk a)) b) (List.range i) r/\∃ u1,ad=[u1,some x,some u,some (.int v)]) (λ D hD=>⟨hD,È hD,aB,.nil,none,rfl⟩) ?_ ?_;rotate_left
    ·rintro D i r ad H7 hi ⟨jx,sm,iw,iA,w1,rfl⟩;have lf:r.length=i:=by rw[<- å iA,Ć]
     refine eO ?_;refine (aK _ rfl (aK _ rfl (aK _ rfl (aK _ rfl ⟨x,u,gk,q.1,(aX v i rfl ⟨Ï (s6.trans sm).ts _ _ Zf,(kq.mono (s6.trans sm).ts).is,il,VR,λ pp b H8 s8 q8 i8=>?_⟩)⟩))));have VS:=s8 _ _ iw;have t9:bJ K H8 (upd H8 D (.lst (r++[.ref pp]))):=ö (t:=D) ç (by rw[VS];exact trivial);refine⟨VS,bU (by lia),jx,(sm.trans s8).put jx,aB,?_,_,rfl⟩;rw[Ÿ];refine ğ (ì iA λ a y ⟨p,b,h1,h2,h3⟩=>⟨p,b,h1,(s8.ts.trans t9) _ _ h2,Ï (s8.ts.trans t9) _ _ h3⟩) (aX pp b rfl ⟨t9 _ _ q8,Ï t9 _ _ i8⟩)
    rintro D r ad H7 ⟨jx,sm,iw,iA,_⟩;have lf:r.length=gj+1:=by rw[<- å iA,Ć]
    have Ep:=sm _ _ Mv;have nDm:D≠ml:=λ z=>by rw[z,Mv] at jx;cases jx
    refine⟨_,rfl,.inl ⟨rfl,_,Ë Ep⟩,_,rfl,D,rfl,⟨_,Ë iw⟩,fY (K:=K) (a:=D) (xs:=r) (λ D2 i r2 ad H'=>H7 D2=none/\aE H7 H'/\H' D2=some (.lst r2)/\Paired (λ (p:Nat×Bool) y=>∃ q,y=.ref q/\bC K H' q [gN p.1,.bl p.2]) (jU gk v fs q.1 i) r2/\∃ u1 u2,ad=[u1,u2,some (.ref sd)])
     (λ D2 i r2 ad H' p=>Ë (p.2.1 _ _ iw)) (λ D2 rb=>⟨rb,È rb,aB,.nil,none,none,rfl⟩) ?_ ?_⟩
    rotate_left
    ·rintro D2 i y r2 ad H8 hy zF;refine ĸ λ _ ŉ=>?_;obtain⟨oh,jb,sf,oi,w1,w2,rfl⟩:=zF;refine ŉ ?_;refine ĸ λ _ ŉ=>?_;obtain⟨a,ha,pp,b,rfl,qp,ib⟩:=ď iA hy;refine ŉ ?_;have hi:=(Ò.mp hy).1;have ea:a=i:=by rw[ģ (by lia)] at ha;exact (â ha).symm
     subst ea;have Zi:r2.length=a:=by rw[<- å oi];unfold jU;rw[Ê,Ć]
     obtain⟨q',QK,xa⟩:=ma q VQ a (by lia);have Zj:cV (q.1.nxA gk a)∈fs.map λ q=>cV q.1:=Õ.mpr ⟨q',QK,by rw[xa]⟩;refine (aX pp _ rfl ⟨jb.tup qp,rfl,(aX _ _ rfl (aX _ _ rfl ⟨rfl,?_⟩))⟩);refine fI (aK _ rfl (aK _ rfl ⟨sd,xO gk,_,cV (q.1.nxA gk a),(aK _ rfl ⟨QJ.same (sm.trans jb),oI (wJ il VR a) (Ï jb.ts _ _ ib),lQ 0 _ Zj,(aK _ rfl ⟨(show 2<=sizeLine by decide),λ t2 uu=>?_⟩)⟩)⟩));rw[GA,Į];have s9:=È (o:=HO.tup [gN (aR (fs.map (·.1)) (q.1.nxA gk a)),.bl (gM gk v q.1 a)]) uu;have Jj:=s9 _ _ sf;have t9:bJ K (upd H8 t2 (.tup [gN (aR (fs.map (·.1)) (q.1.nxA gk a)),.bl (gM gk v q.1 a)])) (upd (upd H8 t2 (.tup [gN (aR (fs.map (·.1)) (q.1.nxA gk a)),.bl (gM gk v q.1 a)])) D2 (.lst (r2++[.ref t2]))):=ö (t:=D2) ç (by rw[Jj];exact trivial);refine⟨Jj,bU (by lia),oh,(jb.trans s9).put oh,aB,?_,_,_,rfl⟩;have em:jU gk v fs q.1 (a+1)=jU gk v fs q.1 a++[(aR (fs.map (·.1)) (q.1.nxA gk a),gM gk v q.1 a)]:=by unfold jU;rw[Ÿ,Ó];rfl
     rw[em];exact ğ (ì oi λ _ _ ⟨z,h1,h2⟩=>⟨z,h1,(s9.ts.trans t9) _ _ h2⟩) (aK t2 rfl (t9 _ _ (Ì aB)))
    ·rintro D2 r2 ad H8 ⟨oh,jb,sf,oi,_⟩;rw[lf] at oi;have Jk:=jb _ _ Ep;refine (uS ml ms _ rfl ⟨rfl,Jk,bU (by lia),?_⟩);have b9:cK ml H8 (upd H8 ml (.lst (ms++[.ref D2]))):=ç;have Fx:mH (H8 ml):=by rw[Jk];exact trivial
     have t9:=b9.ts (K:=K) Fx;have Jl:D2≠ml:=λ z=>by rw[z,Ep] at oh;cases oh
     have om:=(s6.trans sm).trans jb;refine lq _ _ ⟨λ b o e=>b9 b o (aH e Jg) (om b o e),(QJ.same (sm.trans jb)).mono t9 (λ o e=>b9 _ _ Zg e),⟨_,aB,?_⟩,_,_,rfl⟩;rw[aO (xs:=cJ gk v gj fs) (by unfold cJ;rw[Ð,hq];rfl)];refine ğ (ì Ji λ row u ⟨a,h1,h2,h3⟩=>⟨a,h1,h2,?_⟩) ⟨D2,rfl,Jl,D2,r2,rfl,b9 _ _ Jl sf,ì oi λ _ _ ⟨z,h4,h5⟩=>⟨z,h4,t9 _ _ h5⟩⟩;obtain⟨a',vs,h4,h5,h6⟩:=h3.same (sm.trans jb);rw[h1] at h4;cases h4;exact⟨a,vs,h1,b9 _ _ h2 h5,ì h6 λ _ _ ⟨z,h7,h8⟩=>⟨z,h7,t9 _ _ h8⟩⟩
   ·
    rintro ad H6 zF;refine ĸ λ _ ŉ=>?_;obtain⟨s6,QJ,⟨ms,Mv,Ji⟩,v7,v8,rfl⟩:=zF;refine ŉ ?_;refine (aK _ rfl ?_);rw[vd,show fs.length=(cJ gk v gj fs).length by unfold cJ;rw[Ê],Ù] at Ji;exact kO fs e ml H6 (QI.step s6) ⟨ms,Mv,ì Ji λ _ _ ⟨_,_,_,h⟩=>h⟩ (QI.free Jg) gy
def lB (m:iK) (rs:List Nat) (i:Nat):List (Nat×Bool):=(m.getD i []).map λ p=>(rs.getD p.1 0,p.2)
def fP (m:iK) (rs:List Nat):iK:=(List.range (aQ rs).length).map λ r=>lB m rs (aR rs r)
theorem KM {ds:List Nat} (hd:dI ds=ds) {M:Int} (h1:M∈ds.map λ (n:Nat)=>(n:Int)) (h2:∀ a∈ds.map λ (n:Nat)=>(n:Int),a<=M):M+1=((aQ ds).length:Int):=by
 obtain⟨x,hx,rfl⟩:=Õ.mp h1;have kz:x∈dI ds:=by rw[hd];exact hx
 unfold dI at kz;obtain⟨d,Fz,e⟩:=Õ.mp kz;have jk:=gT (bY.mpr Fz);have Dx:0 < (aQ ds).length:=by lia
 obtain⟨z,hz⟩:∃ z,(aQ ds)[(aQ ds).length - 1]? = some z:=⟨_,ä (by lia)⟩;have QL:=lN (gG ds) hz;have Ig:z∈ds:=bY.mp (Ú hz);have Co:aR (aQ ds) z∈dI ds:=ę Ig;rw[hd] at Co;have:=h2 _ (ę (f:=λ (n:Nat)=>(n:Int)) Co);rw[QL] at this;lia
theorem wK {ds:List Nat} (hd:dI ds=ds) {r:Nat} (h:r < (aQ ds).length):r∈ds:=by
 obtain⟨z,hz⟩:∃ z,(aQ ds)[r]? = some z:=⟨_,ä h⟩;have QL:=lN (gG ds) hz;have Ig:z∈ds:=bY.mp (Ú hz);have Co:aR (aQ ds) z∈dI ds:=ę Ig;rw[hd,QL] at Co;exact Co
theorem rR {α:Type}{d:α}:∀ {xs:List α}{i:Nat}{z:α},i < aR xs d->xs[i]? = some z->z≠d
 | [],i,z,h,_=>absurd h (ī _)
 | x::xs,i,z,h,e=>by
  by_cases c:x=d
  ·rw[aR,Å c] at h;exact absurd h (ī _)
  ·rw[aR,Ä c] at h;cases i with
   | zero=>cases e;exact c
   | succ i=>exact rR (xs:=xs) (i:=i) (by lia) (by simpa using e)
theorem E3 (ns:List Nat):(ns.map gN).all jC=true:=by
 rw[Č];intro z hz;obtain⟨n,_,rfl⟩:=Õ.mp hz;rfl
def vM (K:Ç) (Pt:Á) (cM:Á):Sp:=λ vs H Q E=>∃ (x:V) (gk:Net) (v:Int) (gj:Nat),vs=[x,.int v,.int gj]/\Is K H (iG gk) x/\NetOk gk/\gj<=1000/\fE H Pt kX y8/\
 (g0 gk gj=.many->∀ H',SmT Pt kX y8 H H'->E (.ref cM) none H')/\
 (∀ fs,g0 gk gj=.on fs->∀ n rl H',SmT Pt kX y8 H H'->jW (cJ gk v gj fs) (aM (cJ gk v gj fs) n)=aM (cJ gk v gj fs) n->jZ K H' rl (fP (cJ gk v gj fs) (aM (cJ gk v gj fs) n))->H rl=none->fs.length<=200->Q (.ref rl) H')
theorem DJ {gk:Net}{v:Int}{gj:Nat}{fs:Fs Sta} (h:g0 gk gj=.on fs) (hl:fs.length<=200) (hm:gj<=1000):MachOk (cJ gk v gj fs) (gj+1):=by
 refine⟨by unfold cJ;rw[Ê];lia,λ row hr=>?_,by lia,λ row hr p hp=>?_⟩
 ·obtain⟨q,_,rfl⟩:=Õ.mp hr;unfold jU;rw[Ê,Ć]
 ·obtain⟨q,hq,rfl⟩:=Õ.mp hr;obtain⟨a,ha,rfl⟩:=Õ.mp hp;rw[ć] at ha;obtain⟨q',h1,h2⟩:=i4 h q hq a (by lia);have:=gT (xs:=fs.map (·.1)) (d:=q.1.nxA gk a) (Õ.mpr ⟨q',h1,h2⟩);rw[Ê] at this;show aR (fs.map (·.1)) (q.1.nxA gk a) < _;unfold cJ;rw[Ê];exact this
theorem y2:FnScope ["net","watched","most","machine","rooms","firsts"] ["net","watched","most"] (aL (bW 24)):={}
theorem GQ {f f2 f3 Pt:Á}{fd zt Eo:FuncData} (F:Fun K "least" "least" (bW 24) f fd) (T:Txt mg)
  (jf:CalleeR P w K mg base "whole_machine" ["net","watched","most"] 8 (zU K Pt gr) f2 zt) (vg:Callee P w K mg base "rooms_of" ["machine"] 2 (vK K) f3 Eo) :
  FnOk P w K mg base (u9 P w) 9 f fd ["net","watched","most"] (vM K Pt gr):=by
 refine F.okR y2 (λ vs H Q E h=>?_) (λ ja A outer s H vs Q E hr h L=>?_)
 ·obtain⟨x,gk,v,gj,rfl,_⟩:=h;rfl
 ·refine ĸ λ _ ŉ=>?_;obtain⟨x,gk,v,gj,rfl,hx,il,hm,tab,kM,kO⟩:=h;refine ŉ ?_;have sc:=y2;refine⟨_,(aD (eF (i:=3) sc.nd rfl (Or.inr rfl) (vZ jf.ok (hr.mono (by decide)) rfl jf.mg jf.kp jf.bd .nil (BC L) (aA (pv 0) (aA (pv 1) (aA (pv 2) aC)))))
   (aD (eF (i:=4) sc.nd rfl (Or.inr rfl) (eX vg hr (aA (pv 3) aC)))
   (aD (qO λ pn=>(h9 (i:=5) sc.nd rfl rfl (λ _ _ h=>h) rfl (LcOk.mk (N':=["room","rooms"]) (fr:=[none,some 4]) rfl ⟨rfl,trivial⟩ rfl rfl rfl rfl rfl ⟨⟨_,rfl,rfl,rfl,rfl⟩,trivial⟩) (cD rfl T.b_range (aA (aS cB (bB (AL (K:=K) rfl rfl) rfl T.b_max ť (aA (pv 4) aC)) aF) aC)) (λ _ _ _=>(gC 0 ["room","rooms"])) (λ _ _ _=>bS) (λ _ _ _=>(eJ (K:=K) rfl ù afs aft sG (pv 1) (aA (pv 0) aC)))))
   (aI (qO λ pn=>(bG (eW (λ _ _ h=>h) rfl (LcOk.mk (N':=["state","rooms","machine"]) (fr:=[none,some 4,some 3]) rfl ⟨rfl,rfl,trivial⟩ rfl rfl rfl rfl rfl ⟨⟨_,rfl,rfl,rfl,rfl⟩,⟨_,rfl,rfl,rfl,rfl⟩,trivial⟩) (cL (K:=K) rfl (pv 5)) (λ _ _ _=>(gC 0 ["state","rooms","machine"])) (λ _ _ _=>bS) (λ _ _ _=>(eW (λ _ _ h=>h) rfl (LcOk.mk (N':=["behind","tips","rooms"]) (fr:=[none,none,some 1]) rfl ⟨rfl,trivial⟩ rfl rfl rfl rfl rfl ⟨⟨_,rfl,rfl,rfl,rfl⟩,trivial⟩) (cL (K:=K) rfl (px K (pv 2) (pv 0))) (λ _ _ _=>(bA (K:=K) (n:=2) rfl rfl (aG (gC 0 ["behind","tips","rooms"]) (aG (gC 1 ["behind","tips","rooms"]) aZ)))) (λ _ _ _=>bS) (λ _ _ _=>(aU (aA (px K (pv 2) (pv 0)) (aA (pv 1) aC))))))))))))),?_⟩
  refine (aK _ rfl (aK _ rfl (aK _ rfl (iF x gk v gj rfl ⟨hx,il,hm,tab,kM,λ fs e ml H1 sT yf fml gy=>?_⟩))));have zn:=DJ (v:=v) e gy hm;refine (aK _ rfl ⟨ml,cJ gk v gj fs,gj+1,rfl,yf,zn,λ n rl H2 s2 lf qi Bl=>?_⟩);have ln:=cA (cJ gk v gj fs) n;have nn:=jM (cJ gk v gj fs) n;have QM:=λ rl H'=>kO fs e n rl H';obtain⟨us,As,pr⟩:=yf.same s2;have lm:=zn.len;have Jm:=zn.lt;have VT:=zn.wid;have QN:0 < (cJ gk v gj fs).length:=by
   obtain⟨q,hq,_⟩:=(oS (by decide) e).1;unfold cJ;rw[Ê];exact List.length_pos_of_mem hq
  generalize cJ gk v gj fs=m at ln nn QM pr Jm VT qi lf QN lm;generalize aM m n=rs at ln nn QM qi lf;have VU:=sT.step s2;have vd:us.length=m.length:=(å pr).symm;have mj:(aQ rs).length<=rs.length:=gR rs;refine⟨_,rfl,rl,rs.map λ (n:Nat)=>(n:Int),rfl,Ë (by rw[ú];exact lf),by rw[Ê];lia,λ M QO Zk=>?_⟩;have eM:=KM nn QO Zk;refine (aX _ _ rfl ⟨rfl,(aK _ rfl ⟨by lia,by lia,?_⟩)⟩);rw[show (M+1).toNat=(aQ rs).length by lia];refine j9 (n:=(aQ rs).length) (λ D i r ad H'=>H2 D=none/\aE H2 H'/\H' D=some (.lst r)/\r=((List.range i).map λ z=>aR rs z).map gN/\∃ u1,ad=[u1,some (.ref rl)]) (λ D hD=>⟨hD,È hD,aB,rfl,none,rfl⟩) ?_ ?_;rotate_left
  ·rintro D i r ad H3 hi ⟨jx,sm,iw,rfl,u1,rfl⟩;have Er:=wK nn hi;have kc:=gT Er;refine eO ?_;refine⟨_,rfl,.inl ⟨rfl,_,Ë (sm _ _ lf)⟩,_,rfl,rl,_,.int (i:Int),aR rs i,rfl,rfl,sm _ _ lf,rfl,E3 _,by rw[Ê];exact kc,λ z hz=>?_,λ j z hj hz=>?_,iw,bU (by rw[Ê,Ê,Ć];lia),jx,sm.put jx,aB,?_,_,rfl⟩
   ·rw[Ð,fK Er] at hz;cases hz;show zK (.int (i:Int)) (.int (i:Int))=true;simp [zK]
   ·rw[Ð] at hz;obtain⟨y,hy,rfl⟩:=ó.mp hz;have:=rR hj hy;show zK (.int (y:Int)) (.int (i:Int))=false;simp [zK];lia
   ·rw[Ÿ,Ó,Ó];rfl
  rintro fl r ad H3 ⟨Qo,s3,mf,rfl,_⟩;refine⟨_,rfl,fl,rfl,⟨_,Ë mf⟩,fY (K:=K) (a:=fl) (xs:=((List.range (aQ rs).length).map λ z=>aR rs z).map gN) (λ D i r ad H'=>H3 D=none/\aE H3 H'/\H' D=some (.lst r)/\Paired (λ row u=>∃ a,u=.ref a/\a≠D/\uZ K H' row u) ((fP m rs).take i) r/\∃ u1,ad=[u1,some (.ref rl),some (.ref ml)])
   (λ D i r ad H' p=>Ë (p.2.1 _ _ mf)) (λ D hD=>⟨hD,È hD,aB,.nil,none,rfl⟩) ?_ ?_⟩
  ·rintro D r ad H4 ⟨jx,sm,iw,iA,_⟩;rw[Ê,Ê,Ć,show (aQ rs).length=(fP m rs).length by unfold fP;rw[Ê,Ć],Ù] at iA;exact QM D H4 (VU.step (s3.trans sm)) qi ⟨r,iw,ì iA λ _ _ ⟨_,_,_,h⟩=>h⟩ (VU.free (s3.free jx)) gy
  ·rintro D i y r ad H4 hy ⟨jx,sm,iw,iA,u1,rfl⟩;rw[Ð,Ð] at hy;obtain⟨z,hz,rfl⟩:=ó.mp hy;obtain⟨i',md,rfl⟩:=ó.mp hz;have hil:=(Ò.mp md).1;rw[Ć] at hil;have ei:i'=i:=by rw[ģ hil] at md;exact (â md).symm
   subst ei;have Er:=wK nn hil;have kc:=gT Er;have QP:=(s3.trans sm) _ _ lf;obtain⟨row,pf⟩:∃ row,m[aR rs i']? = some row:=⟨_,ä (by lia)⟩;have Cy:=Ú pf;obtain⟨u,hu,ra⟩:=Ĩ pr pf;obtain⟨a,vs,rfl,ha,Bk⟩:=ra.same (s3.trans sm);have Io:vs.length=row.length:=(å Bk).symm;have Pm:=VT row Cy;have Cv:r.length<=(fP m rs).length:=by rw[<- å iA,Ø];lia
   have hll:(fP m rs).length=(aQ rs).length:=by unfold fP;rw[Ê,Ć]
   refine eO ?_;refine⟨_,rfl,_,rfl,.inl ⟨ml,us,(aR rs i':Int),.ref a,rfl,rfl,Ë ((s3.trans sm) _ _ As),bN hu,?_⟩⟩;refine⟨a,rfl,⟨_,Ë ha⟩,fY (K:=K) (a:=a) (xs:=vs) (λ D2 j r2 ad H'=>H4 D2=none/\aE H4 H'/\H' D2=some (.lst r2)/\Paired (λ (p:Nat×Bool) y=>∃ q,y=.ref q/\bC K H' q [gN p.1,.bl p.2]) ((row.take j).map λ p=>(rs.getD p.1 0,p.2)) r2/\∃ u1 u2,ad=[u1,u2,some (.ref rl)])
    (λ D2 j r2 ad H' p=>Ë (p.2.1 _ _ ha)) (λ D2 rb=>⟨rb,È rb,aB,.nil,none,none,rfl⟩) ?_ ?_⟩
   rotate_left
   ·rintro D2 j y r2 ad H5 QQ zF;refine ĸ λ _ ŉ=>?_;obtain⟨oh,jb,sf,oi,w1,w2,rfl⟩:=zF;refine ŉ ?_;obtain⟨p,hp,q,rfl,qq⟩:=ď Bk QQ;have hj:=(Ò.mp QQ).1;have Zl:=Jm row Cy p (Ú hp);obtain⟨rp,Iu⟩:∃ rp,rs[p.1]? = some rp:=⟨_,ä (by lia)⟩;have Zi:r2.length<=row.length:=by rw[<- å oi,Ê,Ø];lia
    refine (aX q _ rfl ⟨jb.tup qq,rfl,(aX _ _ rfl (aX _ _ rfl ⟨rfl,?_⟩))⟩);refine fI ⟨_,rfl,_,rfl,.inl ⟨rl,_,(p.1:Int),gN rp,rfl,rfl,Ë (jb _ _ QP),bN (by rw[Ð,Iu];rfl),_,rfl,(show 2<=sizeLine by decide),λ t2 uu=>?_⟩⟩;have s9:=È (o:=HO.tup [gN rp,.bl p.2]) uu;have Jj:=s9 _ _ sf;have t9:bJ K (upd H5 t2 (.tup [gN rp,.bl p.2])) (upd (upd H5 t2 (.tup [gN rp,.bl p.2])) D2 (.lst (r2++[.ref t2]))):=ö (t:=D2) ç (by rw[Jj];exact trivial);refine⟨Jj,bU (by have:=zn.wd;lia),oh,(jb.trans s9).put oh,aB,?_,_,_,rfl⟩;rw[aO hp,Ó];refine ğ (ì oi λ _ _ ⟨z,h1,h2⟩=>⟨z,h1,(s9.ts.trans t9) _ _ h2⟩) (aK t2 rfl ?_);dsimp only;rw[show (rs.getD p.1 0)=rp by rw[Ē,Iu];rfl];exact t9 _ _ (Ì aB)
   ·rintro D2 r2 ad H5 ⟨oh,jb,sf,oi,_⟩;rw[Io,Ù] at oi;have Qy:=jb _ _ iw;have b9:cK D H5 (upd H5 D (.lst (r++[.ref D2]))):=ç;have mu:mH (H5 D):=by rw[Qy];exact trivial
    have t9:=b9.ts (K:=K) mu;have nD:D2≠D:=λ z=>by rw[z,iw] at oh;cases oh
    refine⟨Qy,bU (by lia),jx,(sm.trans jb).put jx,aB,?_,_,rfl⟩;rw[aO (xs:=fP m rs) (x:=lB m rs (aR rs i')) (by unfold fP;rw[Ð,ģ hil];rfl)];refine ğ (ì iA λ row u ⟨a,h1,h2,h3⟩=>⟨a,h1,h2,?_⟩) ⟨D2,rfl,nD,D2,r2,rfl,b9 _ _ nD sf,?_⟩
    ·obtain⟨a',Qe,h4,h5,h6⟩:=h3.same jb;rw[h1] at h4;cases h4;exact⟨a,Qe,h1,b9 _ _ h2 h5,ì h6 λ _ _ ⟨z,h7,h8⟩=>⟨z,h7,t9 _ _ h8⟩⟩
    ·unfold lB;rw[Ē,pf];exact ì oi λ _ _ ⟨z,h4,h5⟩=>⟨z,h4,t9 _ _ h5⟩
abbrev iL:=List Nat->Bool
section
variable {α:Type}(nxt:α->Int->α)(out:α->Int->Bool)(gj:Nat)
def bh:α->iL
 | _,[]=>false
 | s,a::w=>if a<=gj then (if w=[] then out s a else bh (nxt s a) w) else false
def eC (b:iL) (a:Nat):iL:=λ w=>if w=[] then false else b (a::w)
variable {nxt out gj}
theorem xF {s:α}{a:Nat} (h:a<=gj):bh nxt out gj s [a]=out s a:=by rw[bh,Å h,Å rfl]
theorem nJ {s:α}{a:Nat} (h:a<=gj):bh nxt out gj (nxt s a)=eC (bh nxt out gj s) a:=by
 funext w;unfold eC
 by_cases hw:w=[]
 ·rw[Å hw,hw,bh]
 ·rw[Ä hw];conv=>rhs;rw[bh,Å h,Ä hw]
theorem PR {s t:α} (R:α->α->Prop) (h0:R s t) (ho:∀ s t,R s t->∀ a:Nat,a<=gj->out s a=out t a) (hn:∀ s t,R s t->∀ a:Nat,a<=gj->R (nxt s a) (nxt t a)):bh nxt out gj s=bh nxt out gj t:=by
 funext w
 induction w generalizing s t with
 | nil=>rw[bh,bh]
 | cons a w ih=>
  rw[bh,bh]
  by_cases h:a<=gj
  ·rw[Å h,Å h,ho s t h0 a h,ih (hn s t h0 a h)]
  ·rw[Ä h,Ä h]
end
section
variable {α:Type}{nxt:α->Int->α}{out:α->Int->Bool}{gj:Nat}{L:List α}
def wL (nxt:α->Int->α) (out:α->Int->Bool) (L:List α) (s:α) (n:Nat):List (Nat×Bool):=(List.range n).map λ (a:Nat)=>(aR L (nxt s a),out s a)
def kC (nxt:α->Int->α) (out:α->Int->Bool) (gj:Nat) (L:List α):iK:=L.map λ s=>wL nxt out L s (gj+1)
theorem gW {i:Nat}{s:α} (h:L[i]? = some s):(kC nxt out gj L)[i]? = some (wL nxt out L s (gj+1)):=by unfold kC;rw[Ð,h];rfl
theorem oG:(kC nxt out gj L).length=L.length:=by unfold kC;rw[Ê]
theorem fX {bj:Type} (f:Nat×Bool->bj) (s:α) (n:Nat):(wL nxt out L s n).map f=(List.range n).map λ (a:Nat)=>f (aR L (nxt s a),out s a):=by unfold wL;rw[ú];rfl
theorem fG {bj:Type}{f g:Nat->bj}{n:Nat}:(List.range n).map f=(List.range n).map g↔∀ a,a < n->f a=g a:=by
 rw[List.map_inj_left];exact⟨λ h a ha=>h a (ć.mpr ha),λ h a ha=>h a (ć.mp ha)⟩
theorem nS (ma:∀ s∈L,∀ a:Nat,a<=gj->nxt s a∈L) {i:Nat}{s:α} (h:L[i]? = some s) {a:Nat} (ha:a<=gj):L[aR L (nxt s a)]? = some (nxt s a):=fK (ma s (Ú h) a ha)
theorem o6 (ma:∀ s∈L,∀ a:Nat,a<=gj->nxt s a∈L):∀ (n:Nat) (i j:Nat) (s t:α),L[i]? = some s->L[j]? = some t->bh nxt out gj s=bh nxt out gj t->(aM (kC nxt out gj L) n)[i]? = (aM (kC nxt out gj L) n)[j]?
 | 0,i,j,s,t,hi,hj,e=>by
  show (dI ((kC nxt out gj L).map λ r=>r.map (·.2)))[i]? = (dI ((kC nxt out gj L).map λ r=>r.map (·.2)))[j]?;rw[gI (a:=(wL nxt out L s (gj+1)).map (·.2)) (b:=(wL nxt out L t (gj+1)).map (·.2)) (by rw[Ð,gW hi];rfl) (by rw[Ð,gW hj];rfl),fX,fX,fG];intro a ha;show out s a=out t a;rw[<- xF (nxt:=nxt) (out:=out) (gj:=gj) (by lia),e,xF (by lia)]
 | n+1,i,j,s,t,hi,hj,e=>by
  have ih:=o6 ma n;have ln:=cA (kC nxt out gj L) n;rw[oG] at ln;have li:=(Ò.mp hi).1;have lj:=(Ò.mp hj).1;obtain⟨ri,At⟩:∃ r,(aM (kC nxt out gj L) n)[i]? = some r:=⟨_,ä (by lia)⟩;obtain⟨rj,Es⟩:∃ r,(aM (kC nxt out gj L) n)[j]? = some r:=⟨_,ä (by lia)⟩;show (dI (dG _ _))[i]? = (dI (dG _ _))[j]?;rw[gI (g7 At (gW hi)) (g7 Es (gW hj))];have e1:ri=rj:=by
   have:=ih i j s t hi hj e;rw[At,Es] at this;exact â this
  rw[e1,fX,fX];refine congrArg (Prod.mk rj) (fG.mpr λ a ha=>?_);have h1:=nS ma hi (show a<=gj by lia);have h2:=nS ma hj (show a<=gj by lia);have:=ih _ _ _ _ h1 h2 (by rw[nJ (by lia),nJ (by lia),e]);show (aM _ n).getD (aR L (nxt s a)) 0=(aM _ n).getD (aR L (nxt t a)) 0;rw[Ē,Ē,this]
theorem rO:∀ (n:Nat) {m:iK} (i j:Nat),i < m.length->j < m.length->(aM m n)[i]? = (aM m n)[j]?->(zV m)[i]? = (zV m)[j]?
 | 0,m,i,j,_,_,h=>h
 | n+1,m,i,j,hi,hj,h=>by
  have ln:=cA m n;obtain⟨ri,At⟩:∃ r,(aM m n)[i]? = some r:=⟨_,ä (by lia)⟩;obtain⟨rj,Es⟩:∃ r,(aM m n)[j]? = some r:=⟨_,ä (by lia)⟩;have h':(dI (dG m (aM m n)))[i]? = (dI (dG m (aM m n)))[j]?:=h;rw[gI (g7 At (ä hi)) (g7 Es (ä hj))] at h';have e:=(Prod.mk.inj h').1;exact rO n i j hi hj (by rw[At,Es,e])
theorem xG (ma:∀ s∈L,∀ a:Nat,a<=gj->nxt s a∈L) {n:Nat} (hf:jW (kC nxt out gj L) (aM (kC nxt out gj L) n)=aM (kC nxt out gj L) n) {i j:Nat}{s t:α} (hi:L[i]? = some s) (hj:L[j]? = some t)
  (h:(aM (kC nxt out gj L) n)[i]? = (aM (kC nxt out gj L) n)[j]?):bh nxt out gj s=bh nxt out gj t:=by
 have ln:=cA (kC nxt out gj L) n;rw[oG] at ln;refine PR (λ s t=>∃ i j:Nat,L[i]? = some s/\L[j]? = some t/\(aM (kC nxt out gj L) n)[i]? = (aM (kC nxt out gj L) n)[j]?) ⟨i,j,hi,hj,h⟩ ?_ ?_
 ·rintro s t ⟨i,j,hi,hj,h⟩ a ha;have li:=(Ò.mp hi).1;have lj:=(Ò.mp hj).1;have h0:=rO n i j (by rw[oG];exact li) (by rw[oG];exact lj) h;have h0:(dI ((kC nxt out gj L).map λ r=>r.map (·.2)))[i]? = (dI ((kC nxt out gj L).map λ r=>r.map (·.2)))[j]?:=h0;rw[gI (a:=(wL nxt out L s (gj+1)).map (·.2)) (b:=(wL nxt out L t (gj+1)).map (·.2)) (by rw[Ð,gW hi];rfl) (by rw[Ð,gW hj];rfl),fX,fX,fG] at h0;exact h0 a (by lia)
 ·rintro s t ⟨i,j,hi,hj,h⟩ a ha;have li:=(Ò.mp hi).1;have lj:=(Ò.mp hj).1;obtain⟨ri,At⟩:∃ r,(aM (kC nxt out gj L) n)[i]? = some r:=⟨_,ä (by lia)⟩;obtain⟨rj,Es⟩:∃ r,(aM (kC nxt out gj L) n)[j]? = some r:=⟨_,ä (by lia)⟩;have h':=h;rw[<- hf] at h';have h':(dI (dG _ _))[i]? = (dI (dG _ _))[j]?:=h';rw[gI (g7 At (gW hi)) (g7 Es (gW hj)),fX,fX] at h';have e:=fG.mp (Prod.mk.inj h').2 a (by lia);have h1:=nS ma hi ha;have h2:=nS ma hj ha;refine⟨_,_,h1,h2,?_⟩;have l1:=(Ò.mp h1).1;have l2:=(Ò.mp h2).1;have e:(aM _ n).getD (aR L (nxt s a)) 0=(aM _ n).getD (aR L (nxt t a)) 0:=e;rw[Ē,Ē] at e;rw[ä (by lia),ä (by lia)] at e ⊢;exact congrArg some e
theorem D4 (ma:∀ s∈L,∀ a:Nat,a<=gj->nxt s a∈L) {n:Nat} (hf:jW (kC nxt out gj L) (aM (kC nxt out gj L) n)=aM (kC nxt out gj L) n):aM (kC nxt out gj L) n=dI (L.map (bh nxt out gj)):=by
 have ln:=cA (kC nxt out gj L) n;rw[oG] at ln;rw[<- jM];refine pH (by rw[ln,Ê]) λ i j a b c d ha hb hc hd=>?_;rw[Ð] at hc hd;obtain⟨s,hs,rfl⟩:=ó.mp hc;obtain⟨t,ht,rfl⟩:=ó.mp hd;refine⟨λ e=>xG ma hf hs ht (by rw[ha,hb,e]),λ e=>?_⟩;have:=o6 ma n i j s t hs ht e;rw[ha,hb] at this;exact â this
def iV (M:List iL) (gj:Nat):iK:=M.map λ b=>(List.range (gj+1)).map λ a=>(aR M (eC b a),b [a])
theorem DO (ma:∀ s∈L,∀ a:Nat,a<=gj->nxt s a∈L) {n:Nat} (hf:jW (kC nxt out gj L) (aM (kC nxt out gj L) n)=aM (kC nxt out gj L) n):fP (kC nxt out gj L) (aM (kC nxt out gj L) n)=iV (aQ (L.map (bh nxt out gj))) gj:=by
 have e:=D4 ma hf;have nn:=jM (kC nxt out gj L) n;generalize aM (kC nxt out gj L) n=rs at e nn;have ec:(aQ rs).length=(aQ (L.map (bh nxt out gj))).length:=by rw[e,CB]
 unfold fP iV;refine List.ext_getElem? λ r=>?_;rcases ō r (aQ rs).length with h | h
 ·rw[Ð,Ð,ģ h];have Er:=wK nn h;have hg:=fK Er;have kc:=gT Er;have hlr:rs.length=L.length:=by rw[e,gH,Ê]
  obtain⟨s,hs⟩:∃ s,L[aR rs r]? = some s:=⟨_,ä (by lia)⟩;have hb:(L.map (bh nxt out gj))[aR rs r]? = some (bh nxt out gj s):=by rw[Ð,hs];rfl
  have hM:(aQ (L.map (bh nxt out gj)))[r]? = some (bh nxt out gj s):=by
   have q:=lA hb;rw[<- e,hg] at q;have q:=â q;rw[q];exact fK (bY.mpr (Ú hb))
  rw[hM];show some (lB (kC nxt out gj L) rs (aR rs r))=some _;congr 1;unfold lB;rw[Ē,gW hs];show (wL nxt out L s (gj+1)).map _=_;rw[fX,fG];intro a ha;have h1:=nS ma hs (show a<=gj by lia);have ze:(L.map (bh nxt out gj))[aR L (nxt s a)]? = some (bh nxt out gj (nxt s a)):=by rw[Ð,h1];rfl
  show (rs.getD (aR L (nxt s a)) 0,out s a)=_;rw[Ē];have q:=lA ze;rw[<- e] at q;rw[q,nJ (by lia),xF (by lia)];rfl
 ·rw[ş (by rw[Ê,Ć];exact h),ş (by rw[Ê,<- ec];exact h)]
end
def mK (gj:Nat) (M:List iL) (k:Nat):List iL:=match M[k]? with
 | none=>M
 | some b=>((List.range (gj+1)).map (eC b)).foldl gY M
def gS (gj:Nat) (b0:iL):Nat->List iL
 | 0=>[b0]
 | k+1=>mK gj (gS gj b0 k) k
theorem CY (gj:Nat) (M:List iL) (k:Nat):∃ m,mK gj M k=M++m:=by
 unfold mK;cases M[k]? with
 | none=>exact⟨[],by simp⟩
 | some b=>exact pM _ _
theorem o5 {gj:Nat}{b0:iL}{q:Nat} (h:(gS gj b0 q).length<=q):∀ d,gS gj b0 (q+d)=gS gj b0 q
 | 0=>rfl
 | d+1=>by
  have ih:=o5 h d;show mK gj (gS gj b0 (q+d)) (q+d)=_;rw[ih];unfold mK;rw[ş (by lia)]
theorem uR {α bj:Type} (f:α->bj):∀ (ds L:List α),aQ ((ds.foldl gY L).map f)=(ds.map f).foldl gY (aQ (L.map f))
 | [],L=>rfl
 | d::ds,L=>by
  rw[Ĵ,uR f ds,ã,Ĵ]
  by_cases c:d∈L
  ·rw[dW c,dW (bY.mpr (ę c))]
  ·rw[dX c,Ó,ū,fQ]
section
variable {α:Type}{dD:α->L2.D}{nxt:α->Int->α}{fin out:α->Int->Bool}{gj im:Nat}
theorem tE (pe:∀ x y,dD x=dD y->x=y) {d:α}{r:List Int}:∀ (l a:Nat) (fs ji:Fs α),oU dD nxt fin im d r l (a:Nat) fs=.on ji->ji.map (·.1)=((List.range l).map λ i=>nxt d ((a+i:Nat):Int)).foldl gY (fs.map (·.1))
 | 0,a,fs,ji,h=>by cases h;rfl
 | l+1,a,fs,ji,h=>by
  rw[af2,ã,Ĵ,ú];have em:((λ i=>nxt d ((a+i:Nat):Int)) ∘ Nat.succ)=λ i=>nxt d ((a+1+i:Nat):Int):=by
   funext i;show nxt d ((a+(i+1):Nat):Int)=_;rw[show a+(i+1)=a+1+i by lia]
  rw[em,ahp];cases hf:fin d a with
  | true=>rw[oT hf] at h;cases h
  | false=>
   cases hv:(dS dD fs (dD (nxt d a))).isSome with
   | true=>
    rw[mD hf hv] at h;obtain⟨q,hq,e⟩:=lL hv;rw[dW (by rw[<- pe _ _ e];exact ę (f:=(·.1)) hq)];exact tE pe l (a+1) fs ji h
   | false=>
    by_cases hl:im<=fs.length
    ·rw[lK hf hv hl] at h;cases h
    ·rw[mE hf hv (by lia)] at h;rw[dX]
     ·have:=tE pe l (a+1) _ ji h;rw[Ó] at this;exact this
     ·intro z;obtain⟨q,hq,e⟩:=Õ.mp z;have:=hX (dD:=dD) (d:=q.1) (r:=q.2) hq;rw[e,hv] at this;cases this
theorem FO {xs ys:List iL}:∃ m,aQ (xs++ys)=aQ xs++m:=by unfold aQ;rw[ŭ];exact pM _ _
theorem zC (pe:∀ x y,dD x=dD y->x=y) {b0:iL}:∀ (n p:Nat) (fs ji:Fs α),im < p+n->p<=fs.length->fs.length<=im->(∀ (i:Nat) q,i < p->fs[i]? = some q->∀ a:Nat,a<=gj->nxt q.1 a∈fs.map (·.1))->
  gS gj b0 (aQ (((fs.map (·.1)).take p).map (bh nxt out gj))).length=aQ ((fs.map (·.1)).map (bh nxt out gj))->iH dD nxt fin gj im n p fs=.on ji->
  gS gj b0 (aQ ((ji.map (·.1)).map (bh nxt out gj))).length=aQ ((ji.map (·.1)).map (bh nxt out gj))
 | 0,p,fs,ji,h1,h2,h3,_,_,_=>by lia
 | n+1,p,fs,ji,h1,h2,h3,hi,hM,h=>by
  rw[iH] at h;cases hd:fs[p]? with
  | none=>
   rw[hd] at h;cases h;have hp:=List.getElem?_eq_none_iff.mp hd;rw[Ġ (by rw[Ê];exact hp)] at hM;exact hM
  | some d=>
   rw[hd] at h;dsimp only at h;cases hb:oU dD nxt fin im d.1 ((dS dD fs (dD d.1)).getD []) (gj+1) 0 fs with
   | many=>rw[hb] at h;cases h
   | ends row f=>rw[hb] at h;cases h
   | on fs1=>
    rw[hb] at h;obtain⟨⟨jp,m⟩,hl,_⟩:=IR (gj+1) 0 fs fs1 hb;have kc:=(Ò.mp hd).1;have rh:=tE pe (gj+1) 0 fs fs1 hb;have rh:fs1.map (·.1)=((List.range (gj+1)).map λ (i:Nat)=>nxt d.1 i).foldl gY (fs.map (·.1)):=by
     rw[rh];congr 1;refine ago λ i _=>?_;rw[Į]
    have QR:∀ x∈fs.map (·.1),x∈fs1.map (·.1):=λ x hx=>by rw[m,Ó];exact Ī _ hx
    have Zm:∀ a:Nat,a<=gj->nxt d.1 a∈fs1.map (·.1):=λ a ha=>by
     rw[rh,pN];exact .inr (Õ.mpr ⟨a,ć.mpr (by lia),rfl⟩)
    have Zn:aQ ((fs1.map (·.1)).map (bh nxt out gj))=((List.range (gj+1)).map (eC (bh nxt out gj d.1))).foldl gY (aQ ((fs.map (·.1)).map (bh nxt out gj))):=by
     rw[rh,uR];congr 1;rw[ú];refine ago λ a ha=>?_;exact nJ (by have:=ć.mp ha;lia)
    have Mr:(fs.map (·.1))[p]? = some d.1:=by rw[Ð,hd];rfl
    refine zC pe n (p+1) fs1 ji (by lia) (by rw[m,à];lia) (hl h3) (λ i q h4 h5 a ha=>?_) ?_ h
    ·rcases (show i < p\/i=p by lia) with h6 | rfl
     ·rw[m,ě (by lia)] at h5;exact QR _ (hi i q h6 h5 a ha)
     ·rw[m,ě kc,hd] at h5;cases h5;exact Zm a ha
    ·
     have ht:(fs1.map (·.1)).take (p+1)=(fs.map (·.1)).take p++[d.1]:=by
      rw[m,Ó,List.take_append_of_le_length (by rw[Ê];lia),aO Mr]
     rw[ht,Ó,ū,fQ,Zn]
     by_cases c:bh nxt out gj d.1∈aQ (((fs.map (·.1)).take p).map (bh nxt out gj))
     ·rw[dW c,hM];refine (uQ _ _ λ b hb=>?_).symm;obtain⟨a,ha,rfl⟩:=Õ.mp hb;have ha:=ć.mp ha;obtain⟨s,hs,e⟩:=Õ.mp (bY.mp c);obtain⟨i,md⟩:=ĩ.1 hs;have hil:=(Ò.mp md).1;rw[Ø] at hil;rw[Ž (by lia),Ð] at md;obtain⟨q,hq,e2⟩:=ó.mp md;have:=hi i q (by lia) hq a (by lia);rw[e2] at this;rw[bY,<- e,<- nJ (by lia)];exact ę this
     ·rw[dX c,à,ē];show mK gj (gS gj b0 _) _=_;rw[hM];unfold mK;have Zo:(aQ ((fs.map (·.1)).map (bh nxt out gj)))[(aQ (((fs.map (·.1)).take p).map (bh nxt out gj))).length]? = some (bh nxt out gj d.1):=by
       have e1:(fs.map (·.1)).map (bh nxt out gj)=((fs.map (·.1)).take p).map (bh nxt out gj)++[bh nxt out gj d.1]++((fs.map (·.1)).drop (p+1)).map (bh nxt out gj):=by
        rw[<- ū,<- Ó,<- Ó,<- aO Mr,ae0]
       obtain⟨mm,em⟩:=FO (xs:=((fs.map (·.1)).take p).map (bh nxt out gj)++[bh nxt out gj d.1]) (ys:=((fs.map (·.1)).drop (p+1)).map (bh nxt out gj));rw[e1,em,fQ,dX c,ý,ŝ (Î _),ahq];rfl
      rw[Zo]
theorem L9 (pe:∀ x y,dD x=dD y->x=y) {first:α}{fs:Fs α} (h1:1<=im) (h:JA dD nxt fin gj im first=.on fs):∃ q,∀ k,q<=k->gS gj (bh nxt out gj first) k=aQ ((fs.map (·.1)).map (bh nxt out gj)):=by
 have e:=zC (out:=out) pe (b0:=bh nxt out gj first) (im+1) 0 [(first,[])] fs (by lia) (by simp) (by simpa using h1) (λ i q h=>absurd h (ī _)) (by
  show [bh nxt out gj first]=aQ [bh nxt out gj first];show _=gY [] _;rw[dX (by simp)];rfl) h
 refine⟨(aQ ((fs.map (·.1)).map (bh nxt out gj))).length,λ k hk=>?_⟩;obtain⟨d,rfl⟩:=Nat.exists_eq_add_of_le hk;rw[o5 (by rw[e];exact Î _) d,e]
end
theorem DK (gk:Net) (v:Int) (gj:Nat) (fs:Fs Sta):cJ gk v gj fs=kC (λ s a=>s.nxA gk a) (gM gk v) gj (fs.map (·.1)):=by
 unfold cJ kC;rw[ú];rfl
def O4 (gk:Net) (v:Int) (gj:Nat):iL:=bh (λ s a=>s.nxA gk a) (gM gk v) gj (kF gk)
end Tw
namespace TwS
open PySem PyProof.Rows
def oN:Bool->Keyed->Array Keyed->Nat->Nat->Nat->StateT SortSt Sem (Option Nat):=sortPriv% PySem.Builtin.gallop
section
variable {prog:Ã}{A:Around}{E:À->Â->Prop}{s:Â}{kd:SortKind}{a₀:Array Keyed}
def J1 (prog:Ã) (w:World) (A:Around) (s:Â) (kd:SortKind) (a₀:Array Keyed):Prop:=∀ x∈a₀.toList,∀ y∈a₀.toList,∀ (E:À->Â->Prop) (Q:Bool->Â->Prop),(∀ b,Q b s)->wpAny (model prog w) A (keyLt' kd x.1 y.1) Q E s
theorem lG {bj:Type}{a b:Nat}{f:Nat->bj->StateT SortSt Sem (ForInStep bj)} (I:bj->SortSt->Prop) {Q:bj->SortSt->Prop}
  (Jn:∀ i c st,I c st->wpS (model prog w) A E s (f i c) (λ r gx=>match r with | .done c'=>I c' gx | .yield c'=>I c' gx) st) {c:bj}{st:SortSt} (h:I c st) (hq:∀ c st,I c st->Q c st):wpS (model prog w) A E s (forIn [a:b] c f) Q st:=by
 refine wpS_mono (ĝ (I:=λ _ c st=>I c st) (Q:=I) (λ i c st _ _ hi=>Jn i c st hi) (λ c st h=>h) h) hq
theorem yK (hC:J1 prog w A s kd a₀) {x y:Keyed} (hx:x∈a₀.toList) (hy:y∈a₀.toList) {st:SortSt} (hk:kindOf st=kd) {Q:Option Bool->SortSt->Prop} (h:∀ b,Q (some b) st):wpS (model prog w) A E s (lt' x y) Q st:=by
 rw[lt'_eq];refine wpS_bind (wpS_get ?_);rw[hk];refine wpS_bind (wpS_lift (Ō (hC x hx y hy _ _ λ b=>⟨rfl,?_⟩)));exact wpS_pure (h b)
theorem cH {arr:Array Keyed}{i:Nat}{p:Keyed} (hi:arr[i]? = some p) {st:SortSt}{Q:Keyed->SortSt->Prop} (h:Q p st):wpS (model prog w) A E s (elem' arr i) Q st:=by
 rw[elem'_eq,hi];exact wpS_pure h
theorem hJ (hC:J1 prog w A s kd a₀) {st:SortSt} (hk:kindOf st=kd) {left:Bool}{key:Keyed} (mi:key∈a₀.toList) {arr:Array Keyed}{base n hint:Nat} (mq:∀ i,i < n->∃ p,arr[base+i]? = some p/\p∈a₀.toList) (hh:hint < n)
  {Q:Option Nat->SortSt->Prop} (h:∀ r,r<=n->Q (some r) st):wpS (model prog w) A E s (oN left key arr base n hint) Q st:=by
 have hb:∀ {i:Nat}{Q:Option Bool->SortSt->Prop},i < n->(∀ b,Q (some b) st)->wpS (model prog w) A E s (do
   let x <- elem' arr (base+i)
   if left=true then lt' x key else return (<- lt' key x).map (!·)) Q st:=λ {i Q} hi hq=>by
  obtain⟨p,hp,hm⟩:=mq i hi;refine wpS_bind (cH hp ?_);cases left with
  | true=>rw[Å rfl];exact yK hC hm mi hk hq
  | false=>
   rw[Ä (by decide)];exact wpS_bind (yK hC mi hm hk λ b=>wpS_pure (hq _))
 refine wpS_bind (hb hh λ right=>?_);dsimp only;cases right with
 | true=>
  rw[Å rfl];refine wpS_bind (lG (I:=λ c gx=>st=gx/\∃ l o,c=(none,l,o)) ?_ ⟨rfl,0,1,rfl⟩ ?_)
  ·rintro i c _ ⟨rfl,l,o,rfl⟩;dsimp only
   by_cases mr:o ≥ n - hint
   ·rw[Å mr];exact wpS_pure ⟨rfl,l,o,rfl⟩
   ·rw[Ä mr];refine wpS_bind (hb (by lia) λ b=>?_);cases b <;> exact wpS_pure ⟨rfl,_,_,rfl⟩
  ·rintro c _ ⟨rfl,l,o,rfl⟩;refine wpS_bind (lG (I:=λ c gx=>st=gx/\∃ l o,c=(none,l,o)/\o<=n) ?_ ⟨rfl,_,_,rfl,by dsimp only;lia⟩ ?_)
   ·rintro i c _ ⟨rfl,l,o,rfl,ho⟩;dsimp only
    by_cases mr:l ≥ o
    ·rw[Å mr];exact wpS_pure ⟨rfl,l,o,rfl,ho⟩
    ·rw[Ä mr];refine wpS_bind (hb (by lia) λ b=>?_);cases b
     ·exact wpS_pure ⟨rfl,_,_,rfl,by lia⟩
     ·exact wpS_pure ⟨rfl,_,_,rfl,ho⟩
   ·rintro c _ ⟨rfl,l,o,rfl,ho⟩;exact wpS_pure (h o ho)
 | false=>
  rw[Ä (by decide)];refine wpS_bind (lG (I:=λ c gx=>st=gx/\∃ l o,c=(none,l,o)) ?_ ⟨rfl,0,1,rfl⟩ ?_)
  ·rintro i c _ ⟨rfl,l,o,rfl⟩;dsimp only
   by_cases mr:o ≥ hint+1
   ·rw[Å mr];exact wpS_pure ⟨rfl,l,o,rfl⟩
   ·rw[Ä mr];refine wpS_bind (hb (by lia) λ b=>?_);cases b <;> exact wpS_pure ⟨rfl,_,_,rfl⟩
  ·rintro c _ ⟨rfl,l,o,rfl⟩;refine wpS_bind (lG (I:=λ c gx=>st=gx/\∃ l o,c=(none,l,o)/\o<=n) ?_ ⟨rfl,_,_,rfl,by dsimp only;lia⟩ ?_)
   ·rintro i c _ ⟨rfl,l,o,rfl,ho⟩;dsimp only
    by_cases mr:l ≥ o
    ·rw[Å mr];exact wpS_pure ⟨rfl,l,o,rfl,ho⟩
    ·rw[Ä mr];refine wpS_bind (hb (by lia) λ b=>?_);cases b
     ·exact wpS_pure ⟨rfl,_,_,rfl,by lia⟩
     ·exact wpS_pure ⟨rfl,_,_,rfl,ho⟩
   ·rintro c _ ⟨rfl,l,o,rfl,ho⟩;exact wpS_pure (h o ho)
end
def iU:Nat->StateT SortSt Sem Unit:=sortPriv% PySem.Builtin.setMinGallop
abbrev MV (st:SortSt) (g:Nat):SortSt:=SortSt.mk' (kindOf st) (arrOf st) (pendingOf st) g (failedOf st)
theorem qM {prog:Ã}{w:World}{A:Around}{E:À->Â->Prop}{s:Â}{g:Nat}{st:SortSt}{Q:Unit->SortSt->Prop} (h:Q () (MV st g)):wpS (model prog w) A E s (iU g) Q st:=ŏ (f:=λ s=>MV s g) h
def GT:Array Keyed->Array Keyed->StateT SortSt Sem (Array Keyed):=sortPriv% PySem.Builtin.mergeLo
abbrev MM:=StateT SortSt Sem
abbrev LD:=Option (Array Keyed)×Array Keyed×Nat×Nat×Nat×Nat×Nat
abbrev zH:=Option (Array Keyed)×Array Keyed×Nat×Nat×Nat×Nat
def KN (a b out:Array Keyed) (ia ib g ac bc:Nat):MM (ForInStep LD):=do
 let x <- elem' a ia
 if (ia+1+1 == a.size)=true then pure (.done (some (out.push x++b.extract ib b.size++a.extract (ia+1) a.size),out.push x,ia+1,ib,g,ac,bc))
 else if (decide (ac < 7) && decide (bc < 7))=true then pure (.done (none,out.push x,ia+1,ib,g,ac,bc)) else pure (.yield (none,out.push x,ia+1,ib,g,ac,bc))
def KO (a b out:Array Keyed) (ia ib g ac bc:Nat):MM (ForInStep LD):=do
 let y <- elem' b ib
 if (ib+1 == b.size)=true then pure (.done (some (out.push y++a.extract ia a.size++b.extract (ib+1) b.size),out.push y,ia,ib+1,g,ac,bc))
 else do
  let x <- elem' a ia;let r <- oN true x b (ib+1) (b.size - (ib+1)) 0
  match r with
  | some k=>if k > 0 then (if (ib+1+k == b.size)=true then pure (.done (some (out.push y++b.extract (ib+1) (ib+1+k)++a.extract ia a.size++b.extract (ib+1+k) b.size),out.push y++b.extract (ib+1) (ib+1+k),ia,ib+1+k,g,ac,k)) else KN a b (out.push y++b.extract (ib+1) (ib+1+k)) ia (ib+1+k) g ac k) else KN a b (out.push y) ia (ib+1) g ac k
  | _=>pure (.done (some (out.push y++a.extract ia a.size++b.extract (ib+1) b.size),out.push y,ia,ib+1,g,ac,bc))
def P6 (a b out:Array Keyed) (ia ib g ac bc:Nat):MM (ForInStep LD):=do
 iU g
 let y <- elem' b ib;let r <- oN false y a ia (a.size - ia) 0
 match r with
 | some k=>if k > 0 then (if (ia+k+1 == a.size)=true then pure (.done (some (out++a.extract ia (ia+k)++b.extract ib b.size++a.extract (ia+k) a.size),out++a.extract ia (ia+k),ia+k,ib,g,k,bc)) else if (ia+k == a.size)=true then pure (.done (some (out++a.extract ia (ia+k)++a.extract (ia+k) a.size++b.extract ib b.size),out++a.extract ia (ia+k),ia+k,ib,g,k,bc)) else KO a b (out++a.extract ia (ia+k)) (ia+k) ib g k bc) else KO a b out ia ib g k bc
 | _=>pure (.done (some (out++a.extract ia a.size++b.extract ib b.size),out,ia,ib,g,ac,bc))
def P4 (a b:Array Keyed) (g:Nat) (c:zH):MM (ForInStep zH):=do
 let y <- elem' b c.2.2.2.1
 if (c.2.2.2.1+1 == b.size)=true then pure (.done (some (c.2.1.push y++a.extract c.2.2.1 a.size++b.extract (c.2.2.2.1+1) b.size),c.2.1.push y,c.2.2.1,c.2.2.2.1+1,0,c.2.2.2.2.2+1))
 else if c.2.2.2.2.2+1 ≥ g then pure (.done (none,c.2.1.push y,c.2.2.1,c.2.2.2.1+1,0,c.2.2.2.2.2+1)) else pure (.yield (none,c.2.1.push y,c.2.2.1,c.2.2.2.1+1,0,c.2.2.2.2.2+1))
def P5 (a b:Array Keyed) (g:Nat) (c:zH):MM (ForInStep zH):=do
 let x <- elem' a c.2.2.1
 if (c.2.2.1+1+1 == a.size)=true then pure (.done (some (c.2.1.push x++b.extract c.2.2.2.1 b.size++a.extract (c.2.2.1+1) a.size),c.2.1.push x,c.2.2.1+1,c.2.2.2.1,c.2.2.2.2.1+1,0))
 else if c.2.2.2.2.1+1 ≥ g then pure (.done (none,c.2.1.push x,c.2.2.1+1,c.2.2.2.1,c.2.2.2.2.1+1,0)) else pure (.yield (none,c.2.1.push x,c.2.2.1+1,c.2.2.2.1,c.2.2.2.2.1+1,0))
def loI (a b:Array Keyed) (g:Nat) (c:zH):MM (ForInStep zH):=do
 let y <- elem' b c.2.2.2.1;let x <- elem' a c.2.2.1;let r <- lt' y x
 match r with
 | some bw=>if bw=true then P4 a b g c else P5 a b g c
 | _=>pure (.done (some (c.2.1++a.extract c.2.2.1 a.size++b.extract c.2.2.2.1 b.size),c.2.1,c.2.2.1,c.2.2.2.1,c.2.2.2.2.1,c.2.2.2.2.2))
section
variable {prog:Ã}{A:Around}{E:À->Â->Prop}{s:Â}{kd:SortKind}{a₀:Array Keyed}
structure SmM (st st':SortSt):Prop where
 a:arrOf st'=arrOf st
 k:kindOf st'=kindOf st
 p:pendingOf st'=pendingOf st
 f:failedOf st'=failedOf st
open Classical in
def ct (l:List Keyed) (p:Keyed):Nat:=(l.filter λ q=>decide (q=p)).length
theorem dC (l m:List Keyed) (p:Keyed):ct (l++m) p=ct l p+ct m p:=by unfold ct;rw[agw,à]
theorem wX (l:List Keyed) (p:Keyed):ct l.reverse p=ct l p:=by unfold ct;rw[List.filter_reverse,List.length_reverse]
open Classical in
theorem qP {l m:List Keyed} (h:∀ p,ct l p=ct m p):l.Perm m:=by
 refine List.perm_iff_count.mpr λ p=>?_;have e:∀ l:List Keyed,List.count p l=ct l p:=λ l=>by
  unfold ct;rw[List.count_eq_length_filter];congr 1;refine List.filter_congr λ x _=>?_
  by_cases h:x=p <;> simp [h]
 rw[e,e,h]
theorem wU (a:Array Keyed) (i:Nat):(a.extract i a.size).toList=a.toList.drop i:=by
 rw[Ŧ,Ţ,Ġ (by rw[Ņ,Ĕ];exact Î _)]
theorem wT (a:Array Keyed) (i k:Nat):(a.extract i (i+k)).toList=(a.toList.drop i).take k:=by
 rw[Ŧ,Ţ,Nat.add_sub_cancel_left]
theorem gP (l:List Keyed) (i:Nat) (p:Keyed):ct l p=ct (l.take i) p+ct (l.drop i) p:=by rw[<- dC,ae0]
theorem wZ (l:List Keyed) (i k:Nat) (p:Keyed):ct (l.take (i+k)) p=ct (l.take i) p+ct ((l.drop i).take k) p:=by rw[<- dC,List.take_add]
theorem wY {a:Array Keyed}{i:Nat}{x:Keyed} (h:a[i]? = some x) (p:Keyed):ct (a.toList.take (i+1)) p=ct (a.toList.take i) p+ct [x] p:=by
 rw[<- dC,Ŕ,adc,h];rfl
theorem cP {a:Array Keyed}{i:Nat} (h:i < a.size):∃ x,a[i]? = some x/\x∈a.toList:=⟨a[i],ı h,by simp⟩
structure LO (a b out:Array Keyed) (ia ib:Nat):Prop where
 ha:ia<=a.size
 hb:ib<=b.size
 ct:∀ p,ct out.toList p=TwS.ct (a.toList.take ia) p+TwS.ct (b.toList.take ib) p
section
variable {a b out:Array Keyed}{ia ib:Nat}
theorem yL {a:Array Keyed}{i:Nat}{x:Keyed} (h:a[i]? = some x):i < a.size:=(Array.getElem?_eq_some_iff.mp h).1
theorem LO.pushA (L:LO a b out ia ib) {x:Keyed} (h:a[ia]? = some x):LO a b (out.push x) (ia+1) ib:=⟨yL h,L.hb,λ p=>by
 rw[Ů,dC,L.ct,wY h];lia⟩
theorem LO.pushB (L:LO a b out ia ib) {x:Keyed} (h:b[ib]? = some x):LO a b (out.push x) ia (ib+1):=⟨L.ha,yL h,λ p=>by
 rw[Ů,dC,L.ct,wY h];lia⟩
theorem LO.appA (L:LO a b out ia ib) {k:Nat} (h:ia+k<=a.size):LO a b (out++a.extract ia (ia+k)) (ia+k) ib:=⟨h,L.hb,λ p=>by
 rw[Ě,dC,L.ct,wT,wZ];lia⟩
theorem LO.appB (L:LO a b out ia ib) {k:Nat} (h:ib+k<=b.size):LO a b (out++b.extract ib (ib+k)) ia (ib+k):=⟨L.ha,h,λ p=>by
 rw[Ě,dC,L.ct,wT,wZ];lia⟩
theorem LO.done (L:LO a b out ia ib):(out++a.extract ia a.size++b.extract ib b.size).toList.Perm (a.toList++b.toList):=qP λ p=>by
 rw[Ě,Ě,dC,dC,dC,L.ct,wU,wU,gP a.toList ia,gP b.toList ib];lia
theorem LO.last (L:LO a b out ia ib):(out++b.extract ib b.size++a.extract ia a.size).toList.Perm (a.toList++b.toList):=qP λ p=>by
 rw[Ě,Ě,dC,dC,dC,L.ct,wU,wU,gP a.toList ia,gP b.toList ib];lia
end
theorem SmM.refl (st:SortSt):SmM st st:=⟨rfl,rfl,rfl,rfl⟩
def Ŝ:=@SmM.refl
theorem SmM.g {st gx:SortSt} (h:SmM st gx) (g:Nat):SmM st (MV gx g):=⟨h.a,h.k,h.p,h.f⟩
section
variable {a b:Array Keyed}{st:SortSt}{n:Nat}
def MD (a b:Array Keyed) (st:SortSt) (n:Nat) (r:Option (Array Keyed)) (out:Array Keyed) (ia ib:Nat) (gx:SortSt):Prop:=
 SmM st gx/\((∃ z,r=some z/\z.toList.Perm (a.toList++b.toList))\/(r=none/\LO a b out ia ib/\ia+1 < a.size/\ib < b.size/\n<=ia+ib))
abbrev NY (a b:Array Keyed) (st:SortSt) (n:Nat):ForInStep LD->SortSt->Prop
 | .done c,gx=>MD a b st n c.1 c.2.1 c.2.2.1 c.2.2.2.1 gx
 | .yield c,gx=>c.1=none/\MD a b st n c.1 c.2.1 c.2.2.1 c.2.2.2.1 gx
variable (hC:J1 prog w A s kd a₀)(ha:∀ p∈a.toList,p∈a₀.toList)(hb:∀ p∈b.toList,p∈a₀.toList)
theorem BG {out:Array Keyed}{ia ib g ac bc:Nat}{gx:SortSt} (sm:SmM st gx) (L:LO a b out ia ib) (h1:ia+1 < a.size) (h2:ib < b.size) (hn:n<=ia+ib):wpS (model prog w) A E s (KN a b out ia ib g ac bc) (NY a b st n) gx:=by
 unfold KN;obtain⟨x,hx,_⟩:=cP (show ia < a.size by lia);refine wpS_bind (cH hx ?_);have L4:=L.pushA hx
 by_cases e:ia+1+1=a.size
 ·rw[Å (by simpa using e)];exact wpS_pure ⟨sm,.inl ⟨_,rfl,L4.last⟩⟩
 ·rw[Ä (by simpa using e)]
  split
  ·exact wpS_pure ⟨sm,.inr ⟨rfl,L4,by dsimp only;lia,by dsimp only;lia,by dsimp only;lia⟩⟩
  ·exact wpS_pure ⟨rfl,sm,.inr ⟨rfl,L4,by dsimp only;lia,by dsimp only;lia,by dsimp only;lia⟩⟩
include hC ha hb in
theorem BH {out:Array Keyed}{ia ib g ac bc:Nat}{gx:SortSt} (sm:SmM st gx) (hk:kindOf st=kd) (L:LO a b out ia ib) (h1:ia+1 < a.size) (h2:ib < b.size) (hn:n<=ia+ib):wpS (model prog w) A E s (KO a b out ia ib g ac bc) (NY a b st n) gx:=by
 unfold KO;obtain⟨y,hy,_⟩:=cP h2;obtain⟨x,hx,yg⟩:=cP (show ia < a.size by lia);refine wpS_bind (cH hy ?_);have L2:=L.pushB hy
 by_cases e:ib+1=b.size
 ·rw[Å (by simpa using e)];exact wpS_pure ⟨sm,.inl ⟨_,rfl,L2.done⟩⟩
 ·rw[Ä (by simpa using e)];refine wpS_bind (cH hx ?_);refine wpS_bind (hJ hC (sm.k.trans hk) (ha _ yg) (λ i hi=>?_) (by lia) λ k Zp=>?_)
  ·obtain⟨z,hz,hm⟩:=cP (a:=b) (show ib+1+i < b.size by lia);exact⟨z,hz,hb _ hm⟩
  dsimp only
  by_cases e2:k > 0
  ·rw[Å e2];have L3:=L2.appB (k:=k) (by lia)
   by_cases e3:ib+1+k=b.size
   ·rw[Å (by simpa using e3)];exact wpS_pure ⟨sm,.inl ⟨_,rfl,L3.done⟩⟩
   ·rw[Ä (by simpa using e3)];exact BG sm L3 h1 (by lia) (by lia)
  ·rw[Ä e2];exact BG sm L2 h1 (by lia) (by lia)
include hC ha hb in
theorem BI {out:Array Keyed}{ia ib g ac bc:Nat}{gx:SortSt} (sm:SmM st gx) (hk:kindOf st=kd) (L:LO a b out ia ib) (h1:ia+1 < a.size) (h2:ib < b.size) (hn:n<=ia+ib):wpS (model prog w) A E s (P6 a b out ia ib g ac bc) (NY a b st n) gx:=by
 unfold P6;refine wpS_bind (qM ?_);have sm:=sm.g g;obtain⟨y,hy,yh⟩:=cP h2;refine wpS_bind (cH hy ?_);refine wpS_bind (hJ hC (sm.k.trans hk) (hb _ yh) (λ i hi=>?_) (by lia) λ k Zp=>?_)
 ·obtain⟨z,hz,hm⟩:=cP (a:=a) (show ia+i < a.size by lia);exact⟨z,hz,ha _ hm⟩
 dsimp only
 by_cases e2:k > 0
 ·rw[Å e2];have L3:=L.appA (k:=k) (by lia)
  by_cases e3:ia+k+1=a.size
  ·rw[Å (by simpa using e3)];exact wpS_pure ⟨sm,.inl ⟨_,rfl,L3.last⟩⟩
  ·rw[Ä (by simpa using e3)]
   by_cases e4:ia+k=a.size
   ·rw[Å (by simpa using e4)];exact wpS_pure ⟨sm,.inl ⟨_,rfl,L3.done⟩⟩
   ·rw[Ä (by simpa using e4)];exact BH hC ha hb sm hk L3 (by lia) h2 (by lia)
 ·rw[Ä e2];exact BH hC ha hb sm hk L h1 h2 hn
abbrev PP (a b:Array Keyed) (st:SortSt) (n:Nat):zH->SortSt->Prop:=λ c gx=>MD a b st n c.1 c.2.1 c.2.2.1 c.2.2.2.1 gx
include hC ha hb in
theorem NE {c:zH}{g m:Nat}{gx:SortSt} (sm:SmM st gx) (hk:kindOf st=kd) (L:LO a b c.2.1 c.2.2.1 c.2.2.2.1) (h1:c.2.2.1+1 < a.size) (h2:c.2.2.2.1 < b.size) (hn:m<=c.2.2.1+c.2.2.2.1) :
  wpS (model prog w) A E s (loI a b g c) (λ r gx=>match r with | .done c=>PP a b st (m+1) c gx | .yield c=>c.1=none/\PP a b st (m+1) c gx) gx:=by
 unfold loI;obtain⟨y,hy,yh⟩:=cP h2;obtain⟨x,hx,yg⟩:=cP (show c.2.2.1 < a.size by lia);refine wpS_bind (cH hy (wpS_bind (cH hx ?_)));refine wpS_bind (yK hC (hb _ yh) (ha _ yg) (sm.k.trans hk) λ bw=>?_);dsimp only;cases bw with
 | true=>
  rw[Å rfl];unfold P4;refine wpS_bind (cH hy ?_);have L2:=L.pushB hy
  by_cases e:c.2.2.2.1+1=b.size
  ·rw[Å (by simpa using e)];exact wpS_pure ⟨sm,.inl ⟨_,rfl,L2.done⟩⟩
  ·rw[Ä (by simpa using e)]
   split
   ·exact wpS_pure ⟨sm,.inr ⟨rfl,L2,by dsimp only;lia,by dsimp only;lia,by dsimp only;lia⟩⟩
   ·exact wpS_pure ⟨rfl,sm,.inr ⟨rfl,L2,by dsimp only;lia,by dsimp only;lia,by dsimp only;lia⟩⟩
 | false=>
  rw[Ä (by decide)];unfold P5;refine wpS_bind (cH hx ?_);have L2:=L.pushA hx
  by_cases e:c.2.2.1+1+1=a.size
  ·rw[Å (by simpa using e)];exact wpS_pure ⟨sm,.inl ⟨_,rfl,L2.last⟩⟩
  ·rw[Ä (by simpa using e)]
   split
   ·exact wpS_pure ⟨sm,.inr ⟨rfl,L2,by dsimp only;lia,by dsimp only;lia,by dsimp only;lia⟩⟩
   ·exact wpS_pure ⟨rfl,sm,.inr ⟨rfl,L2,by dsimp only;lia,by dsimp only;lia,by dsimp only;lia⟩⟩
include hC ha hb in
theorem A4 (hk:kindOf st=kd) (VW:1<=a.size) (ze:1<=b.size) {Q:Array Keyed->SortSt->Prop} (h:∀ out gx,SmM st gx->out.toList.Perm (a.toList++b.toList)->Q out gx):wpS (model prog w) A E s (GT a b) Q st:=by
 refine wpS_bind (wpS_lift (õ ⟨rfl,?_⟩));dsimp only;obtain⟨y,hy,yh⟩:=cP (show 0 < b.size by lia);refine wpS_bind (cH hy ?_);have L0:LO a b #[y] 0 1:=⟨æ _,ze,λ p=>by rw[wY hy];show ct [y] p=ct (List.take 0 a.toList) p+(ct (List.take 0 b.toList) p+ct [y] p);rw[Ř,Ř];show _=0+(0+_);lia⟩
 by_cases e1:1=b.size
 ·rw[Å (by simpa using e1)];exact wpS_pure (h _ _ (Ŝ _) L0.done)
 rw[Ä (by simpa using e1)]
 by_cases e2:0+1=a.size
 ·rw[Å (by simpa using e2)];exact wpS_pure (h _ _ (Ŝ _) L0.last)
 rw[Ä (by simpa using e2)];refine wpS_bind (wpS_get ?_);refine wpS_bind (wpS_mono (ĝ (I:=λ i c gx=>c.1=none/\MD a b st (1+i) c.1 c.2.1 c.2.2.1 c.2.2.2.1 gx) (Q:=λ c gx=>SmM st gx/\∃ z,c.1=some z/\z.toList.Perm (a.toList++b.toList)) ?step ?fin ⟨rfl,Ŝ _,.inr ⟨rfl,L0,by dsimp only;lia,by dsimp only;lia,Î _⟩⟩) ?post)
 case fin=>
  rintro c gx ⟨hn,sm,⟨z,e,_⟩ | ⟨_,L,h1,h2,h3⟩⟩
  ·rw[hn] at e;cases e
  ·lia
 case post=>
  rintro⟨r,jc⟩ gx ⟨sm,z,e,p⟩;cases e;exact wpS_pure (h z gx sm p)
 case step=>
  rintro i ⟨r,out,ia,ib,g⟩ gx _ hi ⟨hn,sm,hg⟩;dsimp only at hn hg ⊢;subst hn;rcases hg with ⟨z,e,_⟩ | ⟨_,L,h1,h2,h3⟩
  ·cases e
  refine wpS_bind (wpS_mono (ĝ (I:=λ j c gx=>c.1=none/\MD a b st (1+i+min j 1) c.1 c.2.1 c.2.2.1 c.2.2.2.1 gx) (Q:=λ c gx=>MD a b st (1+(i+1)) c.1 c.2.1 c.2.2.1 c.2.2.2.1 gx) ?s1 ?f1 ⟨rfl,sm,.inr ⟨rfl,L,h1,h2,h3⟩⟩) ?p1)
  case f1=>
   rintro c ki ⟨_,hg⟩;rw[show 1+i+min (max 0 (a.size+b.size)) 1=1+(i+1) by lia] at hg;exact hg
  case s1=>
   rintro j c ki _ _ ⟨hn,jb,⟨z,e,_⟩ | ⟨_,L2,k1,k2,k3⟩⟩
   ·rw[hn] at e;cases e
   refine wpS_mono (NE (m:=1+i) (g:=g) hC ha hb jb hk L2 k1 k2 (by lia)) λ r lh hr=>?_;cases r with
   | done c=>exact hr
   | yield c=>exact⟨hr.1,by rw[show 1+i+min (j+1) 1=1+i+1 by lia];exact hr.2⟩
  case p1=>
   rintro⟨r,out2,ia2,ib2,ac,bc⟩ ki ⟨jb,hg⟩;dsimp only at hg ⊢;rcases hg with ⟨z,rfl,p⟩ | ⟨rfl,L2,k1,k2,k3⟩
   ·exact wpS_pure ⟨jb,z,rfl,p⟩
   dsimp only;refine wpS_bind (wpS_lift (õ ⟨rfl,?_⟩));refine wpS_bind (wpS_mono (ĝ (I:=λ j c gx=>c.1=none/\MD a b st (1+(i+1)) c.1 c.2.1 c.2.2.1 c.2.2.2.1 gx) (Q:=λ c gx=>MD a b st (1+(i+1)) c.1 c.2.1 c.2.2.1 c.2.2.2.1 gx) ?s2 (λ c gx hg=>hg.2) ⟨rfl,jb,.inr ⟨rfl,L2,k1,k2,k3⟩⟩) ?p2)
   case s2=>
    rintro j c lh _ _ ⟨hn,jv,⟨z,e,_⟩ | ⟨_,L3,m1,m2,m3⟩⟩
    ·rw[hn] at e;cases e
    by_cases xc:c.2.2.2.2.1 > 1
    ·rw[Å xc];refine wpS_mono (BI (g:=c.2.2.2.2.1 - 1) (ac:=c.2.2.2.2.2.1) (bc:=c.2.2.2.2.2.2) hC ha hb jv hk L3 m1 m2 m3) λ r wl hr=>?_;cases r <;> exact hr
    ·rw[Ä xc];refine wpS_mono (BI (g:=c.2.2.2.2.1) (ac:=c.2.2.2.2.2.1) (bc:=c.2.2.2.2.2.2) hC ha hb jv hk L3 m1 m2 m3) λ r wl hr=>?_;cases r <;> exact hr
   case p2=>
    rintro⟨r,out3,ia3,ib3,g3,ac3,bc3⟩ lh ⟨jv,hg⟩;dsimp only at hg ⊢;rcases hg with ⟨z,rfl,p⟩ | ⟨rfl,L3,m1,m2,m3⟩
    ·exact wpS_pure ⟨jv,z,rfl,p⟩
    dsimp only;refine wpS_bind (qM ?_);exact wpS_pure ⟨rfl,jv.g _,.inr ⟨rfl,L3,m1,m2,m3⟩⟩
end
end
def GU:Array Keyed->Array Keyed->StateT SortSt Sem (Array Keyed):=sortPriv% PySem.Builtin.mergeHi
abbrev LG:=Option (Array Keyed)×Nat×Nat×Array Keyed×Nat×Nat×Nat
abbrev AS:=Option (Array Keyed)×Nat×Nat×Array Keyed×Nat×Nat
def KY (a b out:Array Keyed) (na nb g ac bc:Nat):MM (ForInStep LG):=do
 let x <- elem' a (na - 1)
 if (na - 1 == 0)=true then pure (.done (some (a.extract 0 (na - 1)++b.extract 0 nb++(out.push x).reverse),na - 1,nb,out.push x,g,ac,bc))
 else if (decide (ac < 7) && decide (bc < 7))=true then pure (.done (none,na - 1,nb,out.push x,g,ac,bc)) else pure (.yield (none,na - 1,nb,out.push x,g,ac,bc))
def KZ (a b out:Array Keyed) (na nb g ac bc:Nat):MM (ForInStep LG):=do
 let y <- elem' b (nb - 1)
 if (nb - 1 == 1)=true then pure (.done (some (b.extract 0 (nb - 1)++a.extract 0 na++(out.push y).reverse),na,nb - 1,out.push y,g,ac,bc))
 else do
  let x <- elem' a (na - 1);let r <- oN true x b 0 (nb - 1) (nb - 1 - 1)
  match r with
  | some t=>if nb - 1 - t > 0 then (if (t == 1)=true then pure (.done (some (b.extract 0 t++a.extract 0 na++(out.push y++(b.extract t (nb - 1)).reverse).reverse),na,t,out.push y++(b.extract t (nb - 1)).reverse,g,ac,nb - 1 - t)) else if (t == 0)=true then pure (.done (some (a.extract 0 na++b.extract 0 t++(out.push y++(b.extract t (nb - 1)).reverse).reverse),na,t,out.push y++(b.extract t (nb - 1)).reverse,g,ac,nb - 1 - t)) else KY a b (out.push y++(b.extract t (nb - 1)).reverse) na t g ac (nb - 1 - t)) else KY a b (out.push y) na (nb - 1) g ac (nb - 1 - t)
  | _=>pure (.done (some (a.extract 0 na++b.extract 0 (nb - 1)++(out.push y).reverse),na,nb - 1,out.push y,g,ac,bc))
def PH (a b out:Array Keyed) (na nb g ac bc:Nat):MM (ForInStep LG):=do
 iU g
 let y <- elem' b (nb - 1);let r <- oN false y a 0 na (na - 1)
 match r with
 | some t=>if na - t > 0 then (if (t == 0)=true then pure (.done (some (a.extract 0 t++b.extract 0 nb++(out++(a.extract t na).reverse).reverse),t,nb,out++(a.extract t na).reverse,g,na - t,bc)) else KZ a b (out++(a.extract t na).reverse) t nb g (na - t) bc) else KZ a b out na nb g (na - t) bc
 | _=>pure (.done (some (a.extract 0 na++b.extract 0 nb++out.reverse),na,nb,out,g,ac,bc))
def PF (a b:Array Keyed) (g:Nat) (c:AS):MM (ForInStep AS):=do
 let x <- elem' a (c.2.1 - 1)
 if (c.2.1 - 1 == 0)=true then pure (.done (some (a.extract 0 (c.2.1 - 1)++b.extract 0 c.2.2.1++(c.2.2.2.1.push x).reverse),c.2.1 - 1,c.2.2.1,c.2.2.2.1.push x,c.2.2.2.2.1+1,0))
 else if c.2.2.2.2.1+1 ≥ g then pure (.done (none,c.2.1 - 1,c.2.2.1,c.2.2.2.1.push x,c.2.2.2.2.1+1,0)) else pure (.yield (none,c.2.1 - 1,c.2.2.1,c.2.2.2.1.push x,c.2.2.2.2.1+1,0))
def PD (a b:Array Keyed) (g:Nat) (c:AS):MM (ForInStep AS):=do
 let y <- elem' b (c.2.2.1 - 1)
 if (c.2.2.1 - 1 == 1)=true then pure (.done (some (b.extract 0 (c.2.2.1 - 1)++a.extract 0 c.2.1++(c.2.2.2.1.push y).reverse),c.2.1,c.2.2.1 - 1,c.2.2.2.1.push y,0,c.2.2.2.2.2+1))
 else if c.2.2.2.2.2+1 ≥ g then pure (.done (none,c.2.1,c.2.2.1 - 1,c.2.2.2.1.push y,0,c.2.2.2.2.2+1)) else pure (.yield (none,c.2.1,c.2.2.1 - 1,c.2.2.2.1.push y,0,c.2.2.2.2.2+1))
def hiI (a b:Array Keyed) (g:Nat) (c:AS):MM (ForInStep AS):=do
 let y <- elem' b (c.2.2.1 - 1);let x <- elem' a (c.2.1 - 1);let r <- lt' y x
 match r with
 | some aw=>if aw=true then PF a b g c else PD a b g c
 | _=>pure (.done (some (a.extract 0 c.2.1++b.extract 0 c.2.2.1++c.2.2.2.1.reverse),c.2.1,c.2.2.1,c.2.2.2.1,c.2.2.2.2.1,c.2.2.2.2.2))
theorem CA {a:Array Keyed}{i:Nat}{x:Keyed} (h:a[i - 1]? = some x) (hi:1<=i) (p:Keyed):ct (a.toList.drop (i - 1)) p=ct (a.toList.drop i) p+ct [x] p:=by
 have e1:=gP a.toList (i - 1) p;have e2:=gP a.toList i p;have e3:=wY h p;rw[show i - 1+1=i by lia] at e3;lia
theorem wS (a:Array Keyed) (i:Nat):(a.extract 0 i).toList=a.toList.take i:=by rw[Ŧ,Ţ,aht,Nat.sub_zero]
theorem yY {a:Array Keyed}{t i:Nat} (h:t<=i) (p:Keyed):ct (a.toList.drop t) p=ct (a.extract t i).toList p+ct (a.toList.drop i) p:=by
 have e1:=gP a.toList t p;have e2:=gP a.toList i p;have e3:=wZ a.toList t (i - t) p;rw[show t+(i - t)=i by lia] at e3;have e4:(a.extract t i).toList=(a.toList.drop t).take (i - t):=by rw[Ŧ,Ţ]
 rw[e4];lia
structure HI (a b out:Array Keyed) (na nb:Nat):Prop where
 ha:na<=a.size
 hb:nb<=b.size
 ct:∀ p,ct out.toList p=TwS.ct (a.toList.drop na) p+TwS.ct (b.toList.drop nb) p
section
variable {a b out:Array Keyed}{na nb:Nat}
theorem HI.pushA (L:HI a b out na nb) {x:Keyed} (h:a[na - 1]? = some x) (h1:1<=na):HI a b (out.push x) (na - 1) nb:=⟨by have:=L.ha;lia,L.hb,λ p=>by
 rw[Ů,dC,L.ct,CA h h1];lia⟩
theorem HI.pushB (L:HI a b out na nb) {x:Keyed} (h:b[nb - 1]? = some x) (h1:1<=nb):HI a b (out.push x) na (nb - 1):=⟨L.ha,by have:=L.hb;lia,λ p=>by
 rw[Ů,dC,L.ct,CA h h1];lia⟩
theorem HI.appA (L:HI a b out na nb) {t:Nat} (h:t<=na):HI a b (out++(a.extract t na).reverse) t nb:=⟨by have:=L.ha;lia,L.hb,λ p=>by
 rw[Ě,ae9,dC,wX,L.ct,yY h];lia⟩
theorem HI.appB (L:HI a b out na nb) {t:Nat} (h:t<=nb):HI a b (out++(b.extract t nb).reverse) na t:=⟨L.ha,by have:=L.hb;lia,λ p=>by
 rw[Ě,ae9,dC,wX,L.ct,yY h];lia⟩
theorem HI.done (L:HI a b out na nb):(a.extract 0 na++b.extract 0 nb++out.reverse).toList.Perm (a.toList++b.toList):=qP λ p=>by
 rw[Ě,Ě,ae9,dC,dC,dC,wX,L.ct,wS,wS,gP a.toList na,gP b.toList nb];lia
theorem HI.first (L:HI a b out na nb):(b.extract 0 nb++a.extract 0 na++out.reverse).toList.Perm (a.toList++b.toList):=qP λ p=>by
 rw[Ě,Ě,ae9,dC,dC,dC,wX,L.ct,wS,wS,gP a.toList na,gP b.toList nb];lia
end
section
variable {prog:Ã}{A:Around}{E:À->Â->Prop}{s:Â}{kd:SortKind}{a₀:Array Keyed}{a b:Array Keyed}{st:SortSt}{n:Nat}
def LH (a b:Array Keyed) (st:SortSt) (n:Nat) (r:Option (Array Keyed)) (na nb:Nat) (out:Array Keyed) (gx:SortSt):Prop:=
 SmM st gx/\((∃ z,r=some z/\z.toList.Perm (a.toList++b.toList))\/(r=none/\HI a b out na nb/\1<=na/\2<=nb/\n+na+nb<=a.size+b.size))
abbrev NZ (a b:Array Keyed) (st:SortSt) (n:Nat):ForInStep LG->SortSt->Prop
 | .done c,gx=>LH a b st n c.1 c.2.1 c.2.2.1 c.2.2.2.1 gx
 | .yield c,gx=>c.1=none/\LH a b st n c.1 c.2.1 c.2.2.1 c.2.2.2.1 gx
variable (hC:J1 prog w A s kd a₀)(ha:∀ p∈a.toList,p∈a₀.toList)(hb:∀ p∈b.toList,p∈a₀.toList)
theorem BO {out:Array Keyed}{na nb g ac bc:Nat}{gx:SortSt} (sm:SmM st gx) (L:HI a b out na nb) (h1:1<=na) (h2:2<=nb) (hn:n+na+nb<=a.size+b.size):wpS (model prog w) A E s (KY a b out na nb g ac bc) (NZ a b st n) gx:=by
 unfold KY;have:=L.ha;obtain⟨x,hx,_⟩:=cP (a:=a) (show na - 1 < a.size by lia);refine wpS_bind (cH hx ?_);have L4:=L.pushA hx h1
 by_cases e:na - 1=0
 ·rw[Å (by simpa using e)];exact wpS_pure ⟨sm,.inl ⟨_,rfl,L4.done⟩⟩
 ·rw[Ä (by simpa using e)]
  split
  ·exact wpS_pure ⟨sm,.inr ⟨rfl,L4,by dsimp only;lia,h2,by dsimp only;lia⟩⟩
  ·exact wpS_pure ⟨rfl,sm,.inr ⟨rfl,L4,by dsimp only;lia,h2,by dsimp only;lia⟩⟩
include hC ha hb in
theorem BP {out:Array Keyed}{na nb g ac bc:Nat}{gx:SortSt} (sm:SmM st gx) (hk:kindOf st=kd) (L:HI a b out na nb) (h1:1<=na) (h2:2<=nb) (hn:n+na+nb<=a.size+b.size):wpS (model prog w) A E s (KZ a b out na nb g ac bc) (NZ a b st n) gx:=by
 unfold KZ;have l1:=L.ha;have l2:=L.hb;obtain⟨y,hy,_⟩:=cP (a:=b) (show nb - 1 < b.size by lia);obtain⟨x,hx,yg⟩:=cP (a:=a) (show na - 1 < a.size by lia);refine wpS_bind (cH hy ?_);have L2:=L.pushB hy (by lia)
 by_cases e:nb - 1=1
 ·rw[Å (by simpa using e)];exact wpS_pure ⟨sm,.inl ⟨_,rfl,L2.first⟩⟩
 ·rw[Ä (by simpa using e)];refine wpS_bind (cH hx ?_);refine wpS_bind (hJ hC (sm.k.trans hk) (ha _ yg) (λ i hi=>?_) (by lia) λ t ht=>?_)
  ·obtain⟨z,hz,hm⟩:=cP (a:=b) (show 0+i < b.size by lia);exact⟨z,hz,hb _ hm⟩
  dsimp only
  by_cases e2:nb - 1 - t > 0
  ·rw[Å e2];have L3:=L2.appB (t:=t) (by lia)
   by_cases e3:t=1
   ·rw[Å (by simpa using e3)];exact wpS_pure ⟨sm,.inl ⟨_,rfl,L3.first⟩⟩
   ·rw[Ä (by simpa using e3)]
    by_cases e4:t=0
    ·rw[Å (by simpa using e4)];exact wpS_pure ⟨sm,.inl ⟨_,rfl,L3.done⟩⟩
    ·rw[Ä (by simpa using e4)];exact BO sm L3 h1 (by lia) (by lia)
  ·rw[Ä e2];exact BO sm L2 h1 (by lia) (by lia)
include hC ha hb in
theorem BQ {out:Array Keyed}{na nb g ac bc:Nat}{gx:SortSt} (sm:SmM st gx) (hk:kindOf st=kd) (L:HI a b out na nb) (h1:1<=na) (h2:2<=nb) (hn:n+na+nb<=a.size+b.size):wpS (model prog w) A E s (PH a b out na nb g ac bc) (NZ a b st n) gx:=by
 unfold PH;refine wpS_bind (qM ?_);have sm:=sm.g g;have l1:=L.ha;have l2:=L.hb;obtain⟨y,hy,yh⟩:=cP (a:=b) (show nb - 1 < b.size by lia);refine wpS_bind (cH hy ?_);refine wpS_bind (hJ hC (sm.k.trans hk) (hb _ yh) (λ i hi=>?_) (by lia) λ t ht=>?_)
 ·obtain⟨z,hz,hm⟩:=cP (a:=a) (show 0+i < a.size by lia);exact⟨z,hz,ha _ hm⟩
 dsimp only
 by_cases e2:na - t > 0
 ·rw[Å e2];have L3:=L.appA (t:=t) (by lia)
  by_cases e3:t=0
  ·rw[Å (by simpa using e3)];exact wpS_pure ⟨sm,.inl ⟨_,rfl,L3.done⟩⟩
  ·rw[Ä (by simpa using e3)];exact BP hC ha hb sm hk L3 (by lia) h2 (by lia)
 ·rw[Ä e2];exact BP hC ha hb sm hk L h1 h2 hn
include hC ha hb in
theorem NR {c:AS}{g m:Nat}{gx:SortSt} (sm:SmM st gx) (hk:kindOf st=kd) (L:HI a b c.2.2.2.1 c.2.1 c.2.2.1) (h1:1<=c.2.1) (h2:2<=c.2.2.1) (hn:m+c.2.1+c.2.2.1<=a.size+b.size) :
  wpS (model prog w) A E s (hiI a b g c) (λ r gx=>match r with | .done c=>LH a b st (m+1) c.1 c.2.1 c.2.2.1 c.2.2.2.1 gx | .yield c=>c.1=none/\LH a b st (m+1) c.1 c.2.1 c.2.2.1 c.2.2.2.1 gx) gx:=by
 unfold hiI;have l1:=L.ha;have l2:=L.hb;obtain⟨y,hy,yh⟩:=cP (a:=b) (show c.2.2.1 - 1 < b.size by lia);obtain⟨x,hx,yg⟩:=cP (a:=a) (show c.2.1 - 1 < a.size by lia);refine wpS_bind (cH hy (wpS_bind (cH hx ?_)));refine wpS_bind (yK hC (hb _ yh) (ha _ yg) (sm.k.trans hk) λ aw=>?_);dsimp only;cases aw with
 | true=>
  rw[Å rfl];unfold PF;refine wpS_bind (cH hx ?_);have L2:=L.pushA hx h1
  by_cases e:c.2.1 - 1=0
  ·rw[Å (by simpa using e)];exact wpS_pure ⟨sm,.inl ⟨_,rfl,L2.done⟩⟩
  ·rw[Ä (by simpa using e)]
   split
   ·exact wpS_pure ⟨sm,.inr ⟨rfl,L2,by dsimp only;lia,h2,by dsimp only;lia⟩⟩
   ·exact wpS_pure ⟨rfl,sm,.inr ⟨rfl,L2,by dsimp only;lia,h2,by dsimp only;lia⟩⟩
 | false=>
  rw[Ä (by decide)];unfold PD;refine wpS_bind (cH hy ?_);have L2:=L.pushB hy (by lia)
  by_cases e:c.2.2.1 - 1=1
  ·rw[Å (by simpa using e)];exact wpS_pure ⟨sm,.inl ⟨_,rfl,L2.first⟩⟩
  ·rw[Ä (by simpa using e)]
   split
   ·exact wpS_pure ⟨sm,.inr ⟨rfl,L2,h1,by dsimp only;lia,by dsimp only;lia⟩⟩
   ·exact wpS_pure ⟨rfl,sm,.inr ⟨rfl,L2,h1,by dsimp only;lia,by dsimp only;lia⟩⟩
include hC ha hb in
theorem A5 (hk:kindOf st=kd) (VW:1<=a.size) (ze:1<=b.size) {Q:Array Keyed->SortSt->Prop} (h:∀ out gx,SmM st gx->out.toList.Perm (a.toList++b.toList)->Q out gx):wpS (model prog w) A E s (GU a b) Q st:=by
 refine wpS_bind (wpS_lift (õ ⟨rfl,?_⟩));dsimp only;obtain⟨x,hx,yg⟩:=cP (a:=a) (show a.size - 1 < a.size by lia);refine wpS_bind (cH hx ?_);have Zq:HI a b #[] a.size b.size:=⟨Î _,Î _,λ p=>by
  rw[show a.toList.drop a.size=[] from ahn (by rw[Ĕ];exact Î _),show b.toList.drop b.size=[] from ahn (by rw[Ĕ];exact Î _)];rfl⟩
 have L0:HI a b #[x] (a.size - 1) b.size:=Zq.pushA hx VW
 by_cases e1:a.size - 1=0
 ·rw[Å (by simpa using e1)];exact wpS_pure (h _ _ (Ŝ _) L0.done)
 rw[Ä (by simpa using e1)]
 by_cases e2:b.size=1
 ·rw[Å (by simpa using e2)];exact wpS_pure (h _ _ (Ŝ _) L0.first)
 rw[Ä (by simpa using e2)];refine wpS_bind (wpS_get ?_);refine wpS_bind (wpS_mono (ĝ (I:=λ i c gx=>c.1=none/\LH a b st (1+i) c.1 c.2.1 c.2.2.1 c.2.2.2.1 gx) (Q:=λ c gx=>SmM st gx/\∃ z,c.1=some z/\z.toList.Perm (a.toList++b.toList)) ?step ?fin ⟨rfl,Ŝ _,.inr ⟨rfl,L0,by dsimp only;lia,by dsimp only;lia,by dsimp only;lia⟩⟩) ?post)
 case fin=>
  rintro c gx ⟨hn,sm,⟨z,e,_⟩ | ⟨_,L,h1,h2,h3⟩⟩
  ·rw[hn] at e;cases e
  ·lia
 case post=>
  rintro⟨r,jc⟩ gx ⟨sm,z,e,p⟩;cases e;exact wpS_pure (h z gx sm p)
 case step=>
  rintro i ⟨r,na,nb,out,g⟩ gx _ hi ⟨hn,sm,hg⟩;dsimp only at hn hg ⊢;subst hn;rcases hg with ⟨z,e,_⟩ | ⟨_,L,h1,h2,h3⟩
  ·cases e
  refine wpS_bind (wpS_mono (ĝ (I:=λ j c gx=>c.1=none/\LH a b st (1+i+min j 1) c.1 c.2.1 c.2.2.1 c.2.2.2.1 gx) (Q:=λ c gx=>LH a b st (1+(i+1)) c.1 c.2.1 c.2.2.1 c.2.2.2.1 gx) ?s1 ?f1 ⟨rfl,sm,.inr ⟨rfl,L,h1,h2,h3⟩⟩) ?p1)
  case f1=>
   rintro c ki ⟨_,hg⟩;rw[show 1+i+min (max 0 (a.size+b.size)) 1=1+(i+1) by lia] at hg;exact hg
  case s1=>
   rintro j c ki _ _ ⟨hn,jb,⟨z,e,_⟩ | ⟨_,L2,k1,k2,k3⟩⟩
   ·rw[hn] at e;cases e
   refine wpS_mono (NR (m:=1+i) (g:=g) hC ha hb jb hk L2 k1 k2 (by lia)) λ r lh hr=>?_;cases r with
   | done c=>exact hr
   | yield c=>exact⟨hr.1,by rw[show 1+i+min (j+1) 1=1+i+1 by lia];exact hr.2⟩
  case p1=>
   rintro⟨r,Vx,nb2,out2,ac,bc⟩ ki ⟨jb,hg⟩;dsimp only at hg ⊢;rcases hg with ⟨z,rfl,p⟩ | ⟨rfl,L2,k1,k2,k3⟩
   ·exact wpS_pure ⟨jb,z,rfl,p⟩
   dsimp only;refine wpS_bind (wpS_lift (õ ⟨rfl,?_⟩));refine wpS_bind (wpS_mono (ĝ (I:=λ j c gx=>c.1=none/\LH a b st (1+(i+1)) c.1 c.2.1 c.2.2.1 c.2.2.2.1 gx) (Q:=λ c gx=>LH a b st (1+(i+1)) c.1 c.2.1 c.2.2.1 c.2.2.2.1 gx) ?s2 (λ c gx hg=>hg.2) ⟨rfl,jb,.inr ⟨rfl,L2,k1,k2,k3⟩⟩) ?p2)
   case s2=>
    rintro j c lh _ _ ⟨hn,jv,⟨z,e,_⟩ | ⟨_,L3,m1,m2,m3⟩⟩
    ·rw[hn] at e;cases e
    by_cases xc:c.2.2.2.2.1 > 1
    ·rw[Å xc];refine wpS_mono (BQ (g:=c.2.2.2.2.1 - 1) (ac:=c.2.2.2.2.2.1) (bc:=c.2.2.2.2.2.2) hC ha hb jv hk L3 m1 m2 m3) λ r wl hr=>?_;cases r <;> exact hr
    ·rw[Ä xc];refine wpS_mono (BQ (g:=c.2.2.2.2.1) (ac:=c.2.2.2.2.2.1) (bc:=c.2.2.2.2.2.2) hC ha hb jv hk L3 m1 m2 m3) λ r wl hr=>?_;cases r <;> exact hr
   case p2=>
    rintro⟨r,Vy,nb3,out3,g3,ac3,bc3⟩ lh ⟨jv,hg⟩;dsimp only at hg ⊢;rcases hg with ⟨z,rfl,p⟩ | ⟨rfl,L3,m1,m2,m3⟩
    ·exact wpS_pure ⟨jv,z,rfl,p⟩
    dsimp only;refine wpS_bind (qM ?_);exact wpS_pure ⟨rfl,jv.g _,.inr ⟨rfl,L3,m1,m2,m3⟩⟩
end
section
variable {prog:Ã}{A:Around}{E:À->Â->Prop}{s:Â}{kd:SortKind}{a₀:Array Keyed}
def nx (p:Array (Nat×Nat×Nat)) (lo i:Nat):Nat:=match p[i]? with
 | some q=>q.1
 | none=>lo
structure PN (p:Array (Nat×Nat×Nat)) (lo:Nat):Prop where
 one:∀ (i:Nat) (q:Nat×Nat×Nat),p[i]? = some q->1<=q.2.1
 nxt:∀ (i:Nat) (q:Nat×Nat×Nat),p[i]? = some q->q.1+q.2.1=nx p lo (i+1)
 le:∀ (i:Nat) (q:Nat×Nat×Nat),p[i]? = some q->q.1+q.2.1<=lo
structure SI (kd:SortKind) (a₀:Array Keyed) (lo:Nat) (st:SortSt):Prop where
 a:(arrOf st).Perm a₀
 k:kindOf st=kd
 f:failedOf st=none
 p:PN (pendingOf st) lo
theorem SI.size {lo:Nat}{st:SortSt} (h:SI kd a₀ lo st):(arrOf st).size=a₀.size:=h.a.size_eq
theorem SI.mem {lo:Nat}{st:SortSt} (h:SI kd a₀ lo st) {p:Keyed} (hp:p∈(arrOf st).toList):p∈a₀.toList:=(Array.perm_iff_toList_perm.mp h.a).mem_iff.mp hp
theorem SI.arr {lo:Nat}{st:SortSt} (h:SI kd a₀ lo st) {xs:Array Keyed} (hp:xs.Perm (arrOf st)):SI kd a₀ lo (setArr st xs):=⟨hp.trans h.a,h.k,h.f,h.p⟩
theorem lU (hC:J1 prog w A s kd a₀) {lo i j:Nat}{st:SortSt} (I:SI kd a₀ lo st) (hi:i < a₀.size) (hj:j < a₀.size) {Q:Option Bool->SortSt->Prop} (h:∀ b,Q (some b) st):wpS (model prog w) A E s (ltAt' i j) Q st:=by
 rw[ltAt'_eq];refine wpS_bind (wpS_get ?_);obtain⟨x,hx,yg⟩:=cP (a:=arrOf st) (i:=i) (by rw[I.size];exact hi);obtain⟨y,hy,yh⟩:=cP (a:=arrOf st) (i:=j) (by rw[I.size];exact hj);exact wpS_bind (cH hx (wpS_bind (cH hy (yK hC (I.mem yg) (I.mem yh) I.k h))))
theorem MU {σ:Type}{M:Model}{Q:PUnit->σ->Prop}{st gx:σ} (h:Q ⟨⟩ gx):wpS M A E s (set gx:StateT σ Sem PUnit) Q st:=by
 unfold wpS;rw[StateT.run_set];exact É ⟨rfl,h⟩
theorem EQ (hC:J1 prog w A s kd a₀) {bz lo n ok:Nat} (hn:lo+n<=a₀.size) {st:SortSt} (I:SI kd a₀ bz st) {Q:Bool->SortSt->Prop} (h:∀ gx,SI kd a₀ bz gx->pendingOf gx=pendingOf st->Q true gx):wpS (model prog w) A E s (binarySort' lo n ok) Q st:=by
 rw[binarySort'_eq];refine wpS_bind (wpS_mono (ĝ (I:=λ _ c gx=>c=(none,())/\SI kd a₀ bz gx/\pendingOf gx=pendingOf st) (Q:=λ c gx=>c=(none,())/\SI kd a₀ bz gx/\pendingOf gx=pendingOf st) ?step (λ _ _ h=>h) ⟨rfl,I,rfl⟩) ?post)
 case post=>
  rintro c gx ⟨rfl,I',hp⟩;exact wpS_pure (h gx I' hp)
 case step=>
  rintro k c gx hak hkn ⟨rfl,I',hp⟩;refine wpS_bind (lG (I:=λ c QS=>gx=QS/\∃ l r,c=(none,l,r)/\r<=k) ?_ ⟨rfl,0,k,rfl,Î _⟩ ?_)
  ·rintro i c _ ⟨rfl,l,r,rfl,hr⟩;dsimp only
   by_cases mr:l ≥ r
   ·rw[Å mr];exact wpS_pure ⟨rfl,l,r,rfl,hr⟩
   ·rw[Ä mr];refine wpS_bind (lU hC I' (by lia) (by lia) λ b=>?_);cases b
    ·exact wpS_pure ⟨rfl,_,_,rfl,hr⟩
    ·exact wpS_pure ⟨rfl,_,_,rfl,by lia⟩
  ·rintro c _ ⟨rfl,l,r,rfl,hr⟩;show wpS _ _ _ _ (do moveDown' (lo+k) (lo+l);pure (ForInStep.yield (none,()))) _ _;rw[moveDown'_eq];exact wpS_bind (ŏ (wpS_pure ⟨rfl,I'.arr (bubble_perm _ _ _),hp⟩))
theorem IM (hC:J1 prog w A s kd a₀) {bz lo n:Nat} (hn:lo+n<=a₀.size) (h1:1<=n) {st:SortSt} (I:SI kd a₀ bz st) {Q:Option Nat->SortSt->Prop} (h:∀ m gx,1<=m->m<=n->SI kd a₀ bz gx->pendingOf gx=pendingOf st->Q (some m) gx):wpS (model prog w) A E s (countRun' lo n) Q st:=by
 rw[countRun'_eq];refine wpS_bind (wpS_mono (ĝ (I:=λ x c gx=>st=gx/\c=(none,x)) (Q:=λ c gx=>st=gx/\∃ m,c=(none,m)/\1<=m/\m<=n) ?step ?fin ⟨rfl,rfl⟩) ?post)
 case step=>
  rintro i c _ QT Mt ⟨rfl,rfl⟩;dsimp only;refine wpS_bind (lU hC I (by lia) (by lia) λ b=>?_);cases b
  ·exact wpS_pure ⟨rfl,rfl⟩
  ·exact wpS_pure ⟨rfl,i,rfl,QT,by lia⟩
 case fin=>
  rintro c _ ⟨rfl,rfl⟩;exact⟨rfl,_,rfl,by lia,by lia⟩
 case post=>
  rintro c _ ⟨rfl,m,rfl,Am,Mg⟩;dsimp only
  by_cases e:m=n
  ·rw[Å (by simpa using e)];exact wpS_pure (h m st Am Mg I rfl)
  rw[Ä (by simpa using e)];have Br:∀ {i j:Nat}{gx:SortSt}{Q:Unit->SortSt->Prop},(SI kd a₀ bz gx/\pendingOf gx=pendingOf st)->(∀ ki,SI kd a₀ bz ki/\pendingOf ki=pendingOf st->Q () ki)->wpS (model prog w) A E s (reverseSlice' i j) Q gx:=λ hs hq=>wpS_reverse (hq _ ⟨hs.1.arr (mirror_perm _ _ _ _),hs.2⟩)
  by_cases xc:m > 1
  all_goals first
   | (rw[Å xc]
      refine wpS_bind (lU hC I (by lia) (by lia) λ b=>?_);dsimp only
      by_cases hb:b=true
      ·rw[Å hb];exact wpS_pure (h m st Am Mg I rfl)
      rw[Ä hb];refine wpS_bind (Br ⟨I,rfl⟩ λ vh I1=>?_))
   | (rw[Ä xc]
      obtain⟨vh,vm⟩:∃ vh,st=vh:=⟨st,rfl⟩;have I1:SI kd a₀ bz vh/\pendingOf vh=pendingOf st:=vm ▸ ⟨I,rfl⟩;rw[vm])
  all_goals (
   refine wpS_bind (wpS_lift (õ ⟨rfl,?_⟩));refine wpS_bind (wpS_mono (ĝ (I:=λ x c gx=>(SI kd a₀ bz gx/\pendingOf gx=pendingOf st)/\∃ q,c=(none,x,q)) (Q:=λ c gx=>(SI kd a₀ bz gx/\pendingOf gx=pendingOf st)/\∃ m q,c=(none,m,q)/\1<=m/\m<=n) ?step ?fin ⟨I1,0,rfl⟩) ?post)
   case step=>
    rintro i c ki QT Mt ⟨I2,q,rfl⟩;dsimp only;refine wpS_bind (lU hC I2.1 (by lia) (by lia) λ b=>?_);cases b
    ·dsimp only;rw[Ä (by decide)];refine wpS_bind (lU hC I2.1 (by lia) (by lia) λ b=>?_);cases b
     ·exact wpS_pure ⟨I2,_,rfl⟩
     ·exact wpS_pure ⟨I2,i,_,rfl,by lia,by lia⟩
    ·dsimp only;rw[Å rfl]
     by_cases hq:q > 0
     ·rw[Å hq];exact wpS_bind (Br I2 λ lh I3=>wpS_pure ⟨I3,_,rfl⟩)
     ·rw[Ä hq];exact wpS_pure ⟨I2,_,rfl⟩
   case fin=>
    rintro c ki ⟨I2,q,rfl⟩;exact⟨I2,_,q,rfl,by lia,by lia⟩
   case post=>
    rintro c ki ⟨I2,m2,q,rfl,h3,h4⟩;dsimp only
    by_cases hq:q > 0
    all_goals first
     | (rw[Å hq];refine wpS_bind (Br I2 λ lh I3=>?_))
     | (rw[Ä hq]
        obtain⟨lh,Jo⟩:∃ lh,ki=lh:=⟨ki,rfl⟩;have I3:SI kd a₀ bz lh/\pendingOf lh=pendingOf st:=Jo ▸ I2;rw[Jo])
    all_goals (
     refine wpS_bind (Br I3 λ wl I4=>?_);refine wpS_bind (wpS_mono (ĝ (I:=λ x c gx=>wl=gx/\c=(none,x)) (Q:=λ c gx=>wl=gx/\∃ m,c=(none,m)/\1<=m/\m<=n) ?step ?fin ⟨rfl,rfl⟩) ?post)
     case step=>
      rintro i c _ QT Mt ⟨rfl,rfl⟩;dsimp only;refine wpS_bind (lU hC I4.1 (by lia) (by lia) λ b=>?_);cases b
      ·exact wpS_pure ⟨rfl,rfl⟩
      ·exact wpS_pure ⟨rfl,i,rfl,by lia,by lia⟩
     case fin=>
      rintro c _ ⟨rfl,rfl⟩;exact⟨rfl,_,rfl,by lia,by lia⟩
     case post=>
      rintro c _ ⟨rfl,m3,rfl,h5,h6⟩;exact wpS_pure (h m3 _ h5 h6 I4.1 I4.2)))
theorem qY (sa:Nat):∀ (l:List Keyed) (k:Nat) (arr:Array Keyed),sa+k+l.length<=arr.size->((l.zipIdx k).foldl (λ a (pj:Keyed×Nat)=>a.setIfInBounds (sa+pj.2) pj.1) arr).toList=arr.toList.take (sa+k)++l++arr.toList.drop (sa+k+l.length)
 | [],k,arr,_=>by simp
 | x::l,k,arr,h=>by
  have hl:sa+k < arr.toList.length:=by rw[ë] at h;rw[Ĕ];lia
  rw[Ű,Ĵ,qY sa l (k+1) _ (by rw[ţ];rw[ë] at h;lia),Array.toList_setIfInBounds];have e1:(arr.toList.set (sa+k) x).take (sa+(k+1))=arr.toList.take (sa+k)++[x]:=by
   rw[List.set_eq_take_append_cons_drop,Å hl,List.take_append,List.take_take,Ø,show min (sa+(k+1)) (sa+k)=sa+k by lia,show sa+(k+1) - min (sa+k) arr.toList.length=1 by lia];rfl
  have e2:(arr.toList.set (sa+k) x).drop (sa+(k+1)+l.length)=arr.toList.drop (sa+k+(x::l).length):=by
   rw[List.drop_set,Å (by lia)];congr 1;rw[ë];lia
  rw[e1,e2,ý,ý,ý];rfl
theorem zL {arr merged:Array Keyed}{sa sb nb:Nat} (h1:sa<=sb) (h2:sb+nb<=arr.size) (hp:merged.toList.Perm ((arr.extract sa sb).toList++(arr.extract sb (sb+nb)).toList)) :
  (merged.toList.zipIdx.foldl (λ a (pj:Keyed×Nat)=>a.setIfInBounds (sa+pj.2) pj.1) arr).Perm arr:=by
 have e0:(arr.extract sa sb).toList++(arr.extract sb (sb+nb)).toList=(arr.toList.drop sa).take (sb+nb - sa):=by
  have e:=wT arr sa (sb - sa);rw[show sa+(sb - sa)=sb by lia] at e;rw[e,wT,show sb+nb - sa=sb - sa+nb by lia,List.take_add,List.drop_drop,show sa+(sb - sa)=sb by lia]
 rw[e0] at hp;have hl:merged.toList.length=sb+nb - sa:=by
  rw[hp.length_eq,Ø,Ņ,Ĕ];lia
 rw[Array.perm_iff_toList_perm,qY sa merged.toList 0 arr (by lia)];have e3:arr.toList=arr.toList.take sa++(arr.toList.drop sa).take (sb+nb - sa)++arr.toList.drop (sa+(sb+nb - sa)):=by
  rw[ý,<- List.drop_drop,ae0,ae0]
 rw[hl,ahp]
 conv=>rhs;rw[e3]
 exact (hp.append_left _).append_right _
set_option tactic.hygienic true in
theorem PN.merge {p:Array (Nat×Nat×Nat)}{lo i:Nat} (P:PN p lo) {x y:Nat×Nat×Nat} (hx:p[i]? = some x) (hy:p[i+1]? = some y):PN ((p.setIfInBounds i (x.1,x.2.1+y.2.1,x.2.2)).eraseIdxIfInBounds (i+1)) lo:=by
 have hi:i+1 < p.size:=(Array.getElem?_eq_some_iff.mp hy).1;have hg:∀ j,((p.setIfInBounds i (x.1,x.2.1+y.2.1,x.2.2)).eraseIdxIfInBounds (i+1))[j]? = if j < i then p[j]? else if j=i then some (x.1,x.2.1+y.2.1,x.2.2) else p[j+1]?:=λ j=>by
  rw[agq];rw[dif_pos (by rw[ţ];exact hi),Array.getElem?_eraseIdx]
  by_cases h1:j < i
  ·rw[Å h1,Å (by lia),aew,Ä (by lia)]
  ·rw[Ä h1]
   by_cases h2:j=i
   ·rw[Å h2,Å (by lia),aew,Å h2.symm,Å (by lia)]
   ·rw[Ä h2,Ä (by lia),aew,Ä (by lia)]
 have hn:∀ j,nx ((p.setIfInBounds i (x.1,x.2.1+y.2.1,x.2.2)).eraseIdxIfInBounds (i+1)) lo j=if j<=i then nx p lo j else nx p lo (j+1):=λ j=>by
  unfold nx;rw[hg]
  by_cases h1:j < i
  ·rw[Å h1,Å (by lia)]
  ·rw[Ä h1]
   by_cases h2:j=i
   ·rw[Å h2,Å (by lia),h2,hx]
   ·rw[Ä h2,Ä (by lia)]
 have Zr:=P.nxt i x hx;have hy1:=P.nxt (i+1) y hy;have Vh:=P.one i x hx;have QQ:=P.le (i+1) y hy;have VX:x.1+x.2.1=y.1:=by rw[Zr];unfold nx;rw[hy]
 refine⟨λ j q hq=>?_,λ j q hq=>?_,λ j q hq=>?_⟩
 ·rw[hg] at hq
  split at hq
  ·exact P.one j q hq
  ·split at hq
   ·cases hq;dsimp only;lia
   ·exact P.one _ q hq
 ·rw[hg] at hq;rw[hn]
  split at hq
  ·rw[Å (by lia)];exact P.nxt j q hq
  ·rw[Ä (by lia)]
   split at hq
   ·next e=>cases hq;subst e;dsimp only;lia
   ·exact P.nxt _ q hq
 ·rw[hg] at hq
  split at hq
  ·exact P.le j q hq
  ·split at hq
   ·cases hq;dsimp only;lia
   ·exact P.le _ q hq
theorem sI (hC:J1 prog w A s kd a₀) {lo i:Nat} (Ai:lo<=a₀.size) {st:SortSt} (I:SI kd a₀ lo st) (hi:i+1 < (pendingOf st).size) {Q:Bool->SortSt->Prop} (h:∀ gx,SI kd a₀ lo gx->(pendingOf gx).size+1=(pendingOf st).size->Q true gx):wpS (model prog w) A E s (mergeAt' i) Q st:=by
 refine wpS_bind (wpS_get ?_);obtain⟨⟨sa,na,pw⟩,hx⟩:∃ x,(pendingOf st)[i]? = some x:=⟨_,ı (by lia)⟩;obtain⟨⟨sb,nb,pv⟩,hy⟩:∃ x,(pendingOf st)[i+1]? = some x:=⟨_,ı hi⟩;rw[hx,hy];have p1:=I.p.one i _ hx;have p2:=I.p.one (i+1) _ hy;have p3:=I.p.le (i+1) _ hy;have p4:sa+na=sb:=by have:=I.p.nxt i _ hx;unfold nx at this;rw[hy] at this;exact this
 have p5:=I.p.merge hx hy;have hsz:=I.size;dsimp only at p1 p2 p3 p5 ⊢;refine wpS_bind (MU ?_);obtain⟨vh,vm⟩:∃ vh,vh=setPending st (((pendingOf st).setIfInBounds i (sa,na+nb,pw)).eraseIdxIfInBounds (i+1)):=⟨_,rfl⟩;have I1:SI kd a₀ lo vh:=vm ▸ ⟨I.a,I.k,I.f,p5⟩;have hz:(pendingOf vh).size+1=(pendingOf st).size:=by
  rw[vm];show (((pendingOf st).setIfInBounds i (sa,na+nb,pw)).eraseIdxIfInBounds (i+1)).size+1=_;rw[agq,dif_pos (by rw[ţ];exact hi),Array.size_eraseIdx,ţ];lia
 show wpS _ _ _ _ _ _ (setPending st (((pendingOf st).setIfInBounds i (sa,na+nb,pw)).eraseIdxIfInBounds (i+1)));rw[<- vm];have QU:arrOf st=arrOf vh:=by rw[vm]
 have Mw:∀ {j:Nat},j < a₀.size->∃ x,(arrOf st)[j]? = some x/\x∈a₀.toList:=λ {j} hj=>by
  obtain⟨x,h1,h2⟩:=cP (a:=arrOf st) (i:=j) (by lia);exact⟨x,h1,I.mem h2⟩
 obtain⟨x,hx,yg⟩:=Mw (j:=sb) (by lia);refine wpS_bind (cH hx ?_);refine wpS_bind (hJ hC I1.k yg (λ j hj=>Mw (by lia)) (by lia) λ k hk=>?_);dsimp only
 by_cases e:na - k=0
 ·rw[Å (by simpa using e)];exact wpS_pure (h _ I1 hz)
 rw[Ä (by simpa using e)];obtain⟨y,hy,yh⟩:=Mw (j:=sa+k+(na - k) - 1) (by lia);refine wpS_bind (cH hy ?_);refine wpS_bind (hJ hC I1.k yh (λ j hj=>Mw (by lia)) (by lia) λ nc hc=>?_);dsimp only
 by_cases e:nc=0
 ·rw[Å (by simpa using e)];exact wpS_pure (h _ I1 hz)
 rw[Ä (by simpa using e)];have fin:∀ (out:Array Keyed) gx,SmM vh gx->out.toList.Perm (((arrOf st).extract (sa+k) sb).toList++((arrOf st).extract sb (sb+nc)).toList)->Q (failedOf (setArr gx (out.toList.zipIdx.foldl (λ a (pj:Keyed×Nat)=>a.setIfInBounds (sa+k+pj.2) pj.1) (arrOf gx)))).isNone (setArr gx (out.toList.zipIdx.foldl (λ a (pj:Keyed×Nat)=>a.setIfInBounds (sa+k+pj.2) pj.1) (arrOf gx))):=λ out gx sm hp=>by
  have e1:(failedOf gx).isNone=true:=by rw[sm.f,I1.f];rfl
  show Q (failedOf gx).isNone _;rw[e1];refine h _ ⟨?_,sm.k.trans I1.k,sm.f.trans I1.f,?_⟩ ?_
  ·show (out.toList.zipIdx.foldl _ (arrOf gx)).Perm a₀;rw[sm.a,<- QU];exact (zL (by lia) (by lia) hp).trans I.a
  ·show PN (pendingOf gx) lo;rw[sm.p];exact I1.p
  ·show (pendingOf gx).size+1=_;rw[sm.p];exact hz
 have mq:∀ (i j:Nat) (p:Keyed),p∈((arrOf st).extract i j).toList->p∈a₀.toList:=λ i j p hp=>by
  rw[Ŧ,Ţ] at hp;exact I.mem (List.mem_of_mem_drop (Ĺ hp))
 by_cases hle:na - k<=nc
 ·rw[Å hle];exact wpS_bind (A4 hC (mq _ _) (mq _ _) I1.k (by rw[afv];lia) (by rw[afv];lia) λ out gx sm hp=>wpS_bind (ŏ (wpS_bind (wpS_get (wpS_pure (fin out gx sm hp))))))
 ·rw[Ä hle];exact wpS_bind (A5 hC (mq _ _) (mq _ _) I1.k (by rw[afv];lia) (by rw[afv];lia) λ out gx sm hp=>wpS_bind (ŏ (wpS_bind (wpS_get (wpS_pure (fin out gx sm hp))))))
theorem KI {p:Array (Nat×Nat×Nat)}{lo n i:Nat} (hi:i<=p.size):nx (p.push (lo,n,0)) (lo+n) i=nx p lo i:=by
 unfold nx;rw[Array.getElem?_push]
 by_cases e:i=p.size
 ·rw[Å e,e,Array.getElem?_size]
 ·rw[Ä e];rw[ı (show i < p.size by lia)]
set_option tactic.hygienic true in
theorem PN.push {p:Array (Nat×Nat×Nat)}{lo n:Nat} (P:PN p lo) (h1:1<=n):PN (p.push (lo,n,0)) (lo+n):=by
 have key:∀ (i:Nat) (q:Nat×Nat×Nat),(p.push (lo,n,0))[i]? = some q->(i=p.size/\q=(lo,n,0))\/(i < p.size/\p[i]? = some q):=λ i q hq=>by
  rw[Array.getElem?_push] at hq
  split at hq
  ·next e=>cases hq;exact .inl ⟨e,rfl⟩
  ·exact .inr ⟨(Array.getElem?_eq_some_iff.mp hq).1,hq⟩
 refine⟨λ i q hq=>?_,λ i q hq=>?_,λ i q hq=>?_⟩ <;> rcases key i q hq with ⟨e,rfl⟩ | ⟨e,hq⟩
 ·exact h1
 ·exact P.one i q hq
 ·unfold nx;rw[af3 (by rw[Array.size_push];lia)]
 ·rw[KI (by lia)];exact P.nxt i q hq
 ·exact Î _
 ·have:=P.le i q hq;lia
theorem PN.power {p:Array (Nat×Nat×Nat)}{lo j pw:Nat} (P:PN p lo):PN (p.modify j λ q=>(q.1,q.2.1,pw)) lo:=by
 have hg:∀ i:Nat,(p.modify j λ q=>(q.1,q.2.1,pw))[i]? = if j=i then p[i]?.map (λ q=>(q.1,q.2.1,pw)) else p[i]?:=λ i=>Array.getElem?_modify ..
 have hn:∀ i,nx (p.modify j λ q=>(q.1,q.2.1,pw)) lo i=nx p lo i:=λ i=>by
  unfold nx;rw[hg]
  by_cases e:j=i
  ·rw[Å e];cases p[i]? <;> rfl
  ·rw[Ä e]
 have key:∀ (i:Nat) (q:Nat×Nat×Nat),(p.modify j λ q=>(q.1,q.2.1,pw))[i]? = some q->∃ q',p[i]? = some q'/\q'.1=q.1/\q'.2.1=q.2.1:=λ i q hq=>by
  rw[hg] at hq
  split at hq
  ·cases h:p[i]? with
   | none=>rw[h] at hq;cases hq
   | some q'=>rw[h] at hq;cases hq;exact⟨q',rfl,rfl,rfl⟩
  ·exact⟨q,hq,rfl,rfl⟩
 refine⟨λ i q hq=>?_,λ i q hq=>?_,λ i q hq=>?_⟩ <;> obtain⟨q',h1,h2,h3⟩:=key i q hq
 ·rw[<- h3];exact P.one i q' h1
 ·rw[hn,<- h2,<- h3];exact P.nxt i q' h1
 ·rw[<- h2,<- h3];exact P.le i q' h1
theorem xW (hC:J1 prog w A s kd a₀) {st:SortSt} (hk:kindOf st=kd) (ha:(arrOf st).Perm a₀) (hf:failedOf st=none) (hp:pendingOf st = #[]) {Q:Unit->SortSt->Prop}
  (h:∀ gx,(arrOf gx).Perm a₀->failedOf gx=none->Q () gx):wpS (model prog w) A E s sortRuns' Q st:=by
 have I0:SI kd a₀ 0 st:=⟨ha,hk,hf,hp ▸ ⟨λ i q hq=>by simp at hq,λ i q hq=>by simp at hq,λ i q hq=>by simp at hq⟩⟩;rw[sortRuns'_eq];refine wpS_bind (wpS_get ?_);dsimp only;have hsz:=I0.size;rw[hsz];refine wpS_bind (lG (I:=λ c gx=>∃ lo,c=(none,lo)/\lo<=a₀.size/\SI kd a₀ lo gx) ?_ ⟨0,rfl,by lia,I0⟩ ?_)
 ·rintro i c vh ⟨lo,rfl,Ai,I1⟩;dsimp only
  by_cases mr:lo ≥ a₀.size
  ·rw[Å mr];exact wpS_pure ⟨lo,rfl,Ai,I1⟩
  rw[Ä mr];refine wpS_bind (IM hC (by lia) (by lia) I1 λ m ki Am Mg I2 _=>?_);dsimp only;have push:∀ (n:Nat) (lh:SortSt),SI kd a₀ lo lh->1<=n->lo+n<=a₀.size->∃ Bg,((none:Option Unit),lo+n)=(none,Bg)/\Bg<=a₀.size/\SI kd a₀ Bg (setPending lh ((pendingOf lh).push (lo,n,0))):=
   λ n lh I3 h1 h2=>⟨lo+n,rfl,h2,I3.a,I3.k,I3.f,I3.p.push h1⟩
  by_cases jk:m < minRun' a₀.size a₀.size 0
  all_goals first
   | (rw[Å jk]
      refine wpS_bind (wpS_lift (õ ⟨rfl,?_⟩));refine wpS_bind (EQ hC (by lia) I2 λ lh I3 _=>?_);simp only [ahc,ĉ,if_false];have Mx:1<=min (a₀.size - lo) (minRun' a₀.size a₀.size 0):=by lia
      have Fw:lo+min (a₀.size - lo) (minRun' a₀.size a₀.size 0)<=a₀.size:=by lia
      generalize min (a₀.size - lo) (minRun' a₀.size a₀.size 0)=n at Mx Fw ⊢)
   | (rw[Ä jk]
      obtain⟨lh,e3⟩:∃ lh,ki=lh:=⟨_,rfl⟩;obtain⟨n,en⟩:∃ n,m=n:=⟨_,rfl⟩;have I3:SI kd a₀ lo lh:=e3 ▸ I2;have Mx:1<=n:=by lia
      have Fw:lo+n<=a₀.size:=by lia
      rw[e3,en])
  all_goals (
   refine wpS_bind (wpS_get ?_);cases hb:(pendingOf lh).back? with
   | none=>
    dsimp only;exact wpS_bind (ŏ (wpS_pure (push n lh I3 Mx Fw)))
   | some q=>
    obtain⟨s1,n1,p1⟩:=q;dsimp only;refine wpS_bind (lG (I:=λ c gx=>c=(none,())/\SI kd a₀ lo gx) ?_ ⟨rfl,I3⟩ ?_)
    ·rintro i c wl ⟨rfl,I4⟩;refine wpS_bind (wpS_get ?_)
     by_cases xc:(pendingOf wl).size > 1
     ·rw[Å xc];obtain⟨⟨sa,na,VY⟩,hx⟩:∃ x,(pendingOf wl)[(pendingOf wl).size - 2]? = some x:=⟨_,ı (by lia)⟩;rw[hx];dsimp only
      split
      ·exact wpS_pure ⟨rfl,I4⟩
      ·exact wpS_bind (sI hC (by lia) I4 (by lia) λ wn I5 _=>wpS_pure ⟨rfl,I5⟩)
     ·rw[Ä xc];exact wpS_pure ⟨rfl,I4⟩
    ·rintro c wl ⟨rfl,I4⟩;dsimp only;refine wpS_bind (ŏ ?_);have I5:=SI.mk (kd:=kd) (a₀:=a₀) (lo:=lo) (st:=setPending wl ((pendingOf wl).modify ((pendingOf wl).size - 1) λ q=>(q.1,q.2.1,power' a₀.size (2 * s1+n1) (2 * s1+n1+n1+n) a₀.size))) I4.a I4.k I4.f I4.p.power;exact wpS_bind (ŏ (wpS_pure (push n _ I5 Mx Fw))))
 ·rintro c vh ⟨lo,rfl,Ai,I1⟩;dsimp only;refine wpS_bind (lG (I:=λ c gx=>c=(none,())/\SI kd a₀ lo gx) ?_ ⟨rfl,I1⟩ ?_)
  ·rintro i c ki ⟨rfl,I2⟩;refine wpS_bind (wpS_get ?_)
   by_cases hle:(pendingOf ki).size<=1
   ·rw[Å hle];exact wpS_pure ⟨rfl,I2⟩
   rw[Ä hle];refine wpS_bind (sI hC Ai I2 ?_ λ lh I3 _=>?_)
   ·have key:∀ (c:Prop) [Decidable c],(if c then (pendingOf ki).size - 2 - 1 else (pendingOf ki).size - 2)+1 < (pendingOf ki).size:=λ c _=>by split <;> lia
    exact key _
   ·exact wpS_pure ⟨rfl,I3⟩
  ·rintro c ki ⟨rfl,I2⟩;exact wpS_pure (h _ I2.a I2.f)
end
section
variable {prog:Ã}{b:Bool}{A:Around}{E:À->Â->Prop}{s:Â}{a:Á}{L:List Int}
end
end TwS
namespace TwS
open PySem PySem.Spec PyProof.Rows
section
variable {prog:Ã}{b:Bool}{A:Around}{R:Result->Â->Prop}{I:Á}{fp wr:List Á}{G:Array GenState->Array GenState->Prop}{n:Nat}{P:Nat->À->Prop}{St:Nat->Â->Prop}
end
section
variable {prog:Ã}{A:Around}{E:À->Â->Prop}{s:Â}
end
section
variable {prog:Ã}{A:Around}{E:À->Â->Prop}{s:Â}{I S:Á}{o:Obj}{es:Array (Int×À)}{ep i:Nat}{t:SetTable}
end
section
variable {prog:Ã}{A:Around}{E:À->Â->Prop}
end
section
variable {prog:Ã}{S I T:Á}{o:Obj}{es:Array (Int×À)}{ep:Nat}{t:SetTable}{L:List Int}
end
section
variable {prog:Ã}{A:Around}{E:À->Â->Prop}{s:Â}{S:Á}{L:List Int}
theorem HH {α:Type}{M:Model}{c:Prop} [Decidable c] {x y:Sem α}{Q:α->Â->Prop} (hc:c) (h:wpAny M A x Q E s):wpAny M A (if c then x else y) Q E s:=by rw[Å hc];exact h
end
end TwS
namespace L2
open PySem PySem.Spec PyProof.Rows TwZ TwS
section
variable {X:Cx}{gi:List (Á×Obj)}{σ:St}{H:Hp}{s:Â}
end
end L2
namespace TwS
open PySem PySem.Spec PyProof.Rows
section
variable {prog:Ã}{A:Around}{E:À->Â->Prop}{s:Â}
theorem uJ (vs:List À):((pairsOf vs).map λ p:Keyed=>p.2).toList=vs:=by
 rw[ahl,pairsOf_toList]
 induction vs with
 | nil=>rfl
 | cons v vs ih=>simpa using ih
theorem tV {kd:SortKind}{a:Á}{vs:List À}{n:Nat}{P:Fin->Â->Prop} (ho:s.heap.get? a=some (seqObj "list" vs.toArray n)) (hl:vs.length<=sizeLine)
  (Zs:2<=vs.length->∀ s':Â,(∀ c q,c≠a->s.heap.get? c=some q->s'.heap.get? c=some q)->∀ Q:SortKind->Â->Prop,Q kd s'->wpAny (model prog w) A (keyKind' vs.toArray) Q E s')
  (hC:∀ s':Â,(∀ c q,c≠a->s.heap.get? c=some q->s'.heap.get? c=some q)->J1 prog w A s' kd (pairsOf vs))
  (h:∀ out:Array À,out.toList.Perm vs->P (.done (.ret .none)) { s with heap:=sortedHeap s.heap a vs out }) :
  wpAny (model prog w) A (Builtin.«list.sort» ⟨[.ref a],[]⟩) P E s:=by
 rw[list_sort_plain];have ha:a < s.heap.objs.size:=Ñ ho;refine Æ (listItems_at ho rfl ?_);refine Æ (listUpdate_at ho rfl ?_ (by simpa using hl) (æ _));obtain⟨e1,VZ⟩:∃ e1,(s.heap.update a (Obj.mapSeq λ _=>#[])).get? a=some (seqObj "list" #[] e1):=⟨_,get?_update_seq ho (λ _=>#[])⟩;refine Æ (seqEpoch_at VZ rfl ?_);refine Æ (ŗ ?_);refine Æ (wpAny_newList ?_);refine ð ?_;have kp:∀ c q,c≠a->s.heap.get? c=some q->(((s.heap.update a (Obj.mapSeq λ _=>#[])).push (seqObj "tuple" vs.toArray 0)).push (seqObj "list" #[] 0)).get? c=some q:=λ c q hc e=>
  Í _ (Í _ ((Ş _ _ (Ne.symm hc)).trans e))
 have My:(((s.heap.update a (Obj.mapSeq λ _=>#[])).push (seqObj "tuple" vs.toArray 0)).push (seqObj "list" #[] 0)).get? a=some (seqObj "list" #[] e1):=
  Í _ (Í _ VZ)
 show wpAny (model prog w) A _ P E { s with heap:=((s.heap.update a (Obj.mapSeq λ _=>#[])).push (seqObj "tuple" vs.toArray 0)).push (seqObj "list" #[] 0) };dsimp only;have hsz:vs.toArray.size=vs.length:=by simp
 by_cases h2:vs.toArray.size < 2
 ·rw[Å h2,Å h2];refine Æ (É ?_);rw[StateT.run_pure];refine Æ (É ?_);dsimp only;refine Æ (seqEpoch_at My rfl ?_);refine Æ (listUpdate_at My rfl ?_ (hsz2:=by rw[Array.size_map];show (pairsOf vs).size<=_;rw[pairsOf_size];lia));simp only [ń,ĉ,if_false];exact É (h ((vs.toArray.zip vs.toArray).map λ p:Keyed=>p.2) (List.Perm.of_eq (uJ vs)))
 ·rw[Ä h2,Ä h2];refine Æ (Zs (by lia) _ kp _ ?_);refine Æ (á (xW (kd:=kd) (a₀:=pairsOf vs) (st:=SortSt.mk' kd (vs.toArray.zip vs.toArray) #[] 7 none)
   (Q:=λ _ gx=>(arrOf gx).Perm (pairsOf vs)/\failedOf gx=none) (hC _ kp) rfl (Array.Perm.refl _) rfl rfl λ gx a1 a2=>⟨a1,a2⟩) ?_ λ _ _ e=>e)
  rintro⟨⟨⟩,gx⟩ s' ⟨rfl,hp,hf⟩;dsimp only;refine Æ (seqEpoch_at My rfl ?_);refine Æ (listUpdate_at My rfl ?_ (hsz2:=by refine Ĉ (ś ((Array.size_map ..).trans (hp.size_eq.trans (pairsOf_size _)))) ?_;lia));rw[hf];simp only [ń,ĉ,if_false];refine É (h ((arrOf gx).map λ p:Keyed=>p.2) ?_);rw[ahl];exact ((Array.perm_iff_toList_perm.mp hp).map _).trans (List.Perm.of_eq (by rw[<- ahl];exact uJ vs))
variable {S:Á}{L:List Int}
end
end TwS
namespace L2
open PySem PySem.Spec PyProof.Rows TwZ TwS
section
variable {X:Cx}{gi:List (Á×Obj)}{σ:St}{H:Hp}{s:Â}
end
end L2
namespace TwS
open PySem PySem.Spec PyProof.Rows
def ET (h:Heap) (a:Á) (es:Array DictEntry) (ep:Nat):Prop:=∃ o,h.get? a=some o/\o.ExactDict/\o.data=.dict es ep
theorem ET.at {h h':Heap}{a:Á}{es:Array DictEntry}{ep:Nat} (x:ET h a es ep) (e:∀ o,h.get? a=some o->h'.get? a=some o):ET h' a es ep:=let ⟨o,ho,r⟩:=x;⟨o,e _ ho,r⟩
theorem DM:typeLookup (.type "dict") "__len__" = pure (some (.builtin "dict.__len__")):=by rw[typeLookup_type,builtinLookup_eq_fast];kernel_rfl
theorem E8:isSubtype (.type "dict") (.type "dict")=pure true:=by rw[isSubtype_type];kernel_rfl
section
variable {prog:Ã}{A:Around}{E:À->Â->Prop}{s:Â}{d it:Á}{es:Array DictEntry}{ep:Nat}
theorem ET.ty (x:ET s.heap d es ep):s.TypeIs (.ref d) "dict" := let ⟨o,ho,hc,_⟩:=x;⟨o,ho,hc.1⟩
theorem P9 {Q:À->Â->Prop} (hd:(d == sysModules)=false) (hm:ET s.heap d es ep)
  (hQ:Q (.ref s.heap.objs.size) { s with heap:=s.heap.push { cls:=.type "dict_keyiterator",data:=.fields #[.ref d,.int 0 0,.int es.size 0,.int ep 0] } }) :
  wpAny (model prog w) A (pyIter (.ref d)) Q E s:=by
 obtain⟨o,ho,hc,Bi⟩:=id hm;refine ag3 hm.ty F.slot_dict_iter (ă F.slot_dict_iter hm.ty F.entry_dict_iter ?_ (F.args_dict_iter_1 _));unfold Builtin.«dict.__iter__»;refine Æ ?_;unfold Builtin.Dict.dictSlotNone;refine Æ (wpAny_notOrdered_dict hm.ty ?_);refine É ?_;show wpAny _ _ (Builtin.Dict.showsAll d >>= _) _ _ s;unfold Builtin.Dict.showsAll;rw[Ä (by rw[hd];exact Û)];refine Æ (É ?_);refine Æ (ů ho Bi ?_);refine Æ (wpAny_dictEpoch ho Bi ?_);refine Æ (Đ (É ⟨_,rfl,"dict_keyiterator",_,⟨_,ß _ rfl,rfl⟩,F.slot_dict_keyiterator_next.lookup,?_⟩));simpa [rawInt] using hQ
theorem P3 {i:Nat}{e:DictEntry}{Q:Option À->Â->Prop} (hit:s.heap.IsKeyIter it d i es.size ep) (hm:ET s.heap d es ep) (hx:es[i]? = some e)
  (hQ:∀ h',h'.IsKeyIter it d (i+1) es.size ep->Heap.SameBut it s.heap h'->Q (some e.key) { s with heap:=h' }):wpAny (model prog w) A (pyNext (.ref it)) Q E s:=by
 obtain⟨o,ho,hc,hd⟩:=id hit;obtain⟨od,Jq,nj,Jr⟩:=id hm;unfold pyNext;refine Æ (Ō (Ĭ (name:=Str.ofString "__next__") hit.typeIs Ż
  (ă Ż hit.typeIs agb ?_ (af9 _))))
 refine Æ (É (Æ (Æ ?_)))
 first | refine Æ (ź hit.typeIs (É ?_)) | refine Æ (aem hit.typeIs (É ?_))
 refine Æ (wpAny_fieldsOf ho hd ?_);simp only [show Builtin.Dict_items.ownsTuple "dict_keyiterator" = false by decide,ĉ,if_false];show wpAny _ _ (if (Value.ref d == Value.none)=true then _ else _) _ _ s;rw[Ä (show ¬ ((Value.ref d == Value.none)=true) from Û)];refine Æ (É (Æ (ů Jq Jr ?_)));rw[Ä (by simp)];refine Æ (É (Æ (wpAny_dictEpoch Jq Jr ?_)));rw[Ä (by simp)];refine É ?_;simp only [show ¬ ((i:Int) < 0) from by lia,if_false,Š,hx];refine Æ ?_
 first | refine Æ (ź hit.typeIs (É ?_)) | refine Æ (aem hit.typeIs (É ?_))
 refine Æ (wpAny_isOneOf_keyiter hit.typeIs ?_);show wpAny _ _ (setField (.ref it) 1 (rawInt ((i:Int)+1)) >>= _) _ _ s;refine Æ (agx ho hd (by simp) ?_);have Bs:(s.heap.update it (Obj.mapFields (·.setIfInBounds 1 (rawInt ((i:Int)+1))))).IsKeyIter it d (i+1) es.size ep:=
  ⟨_,ł _ ho (Obj.isFreed_of_fields (afp hd _)),(Obj.cls_mapFields ..).trans hc,by rw[afp hd];simp [rawInt]⟩
 refine Æ (ð ?_);refine Æ (wpAny_isOneOf_keyiter (s:={ s with heap:=s.heap.update it (Obj.mapFields (·.setIfInBounds 1 (rawInt ((i:Int)+1)))) }) Bs.typeIs ?_);show wpAny _ _ (pure e.key) _ _ _;exact É (É ⟨_,rfl,É (hQ _ Bs (ĺ ..))⟩)
theorem endE {i:Nat}{Q:Option À->Â->Prop} (hh:A.handled=none) (hit:s.heap.IsKeyIter it d i es.size ep) (hm:ET s.heap d es ep) (hx:es[i]? = none)
  (hQ:∀ h',Heap.ExtBut it s.heap h'->Q none { s with heap:=h' }):wpAny (model prog w) A (pyNext (.ref it)) Q E s:=by
 obtain⟨o,ho,hc,hd⟩:=id hit;obtain⟨od,Jq,nj,Jr⟩:=id hm;unfold pyNext;refine Æ (Ō (Ĭ (name:=Str.ofString "__next__") hit.typeIs Ż
  (ă Ż hit.typeIs agb ?_ (af9 _))))
 refine Æ (É (Æ (Æ ?_)))
 first | refine Æ (ź hit.typeIs (É ?_)) | refine Æ (aem hit.typeIs (É ?_))
 refine Æ (wpAny_fieldsOf ho hd ?_);simp only [show Builtin.Dict_items.ownsTuple "dict_keyiterator" = false by decide,ĉ,if_false];show wpAny _ _ (if (Value.ref d == Value.none)=true then _ else _) _ _ s;rw[Ä (show ¬ ((Value.ref d == Value.none)=true) from Û)];refine Æ (É (Æ (ů Jq Jr ?_)));rw[Ä (by simp)];refine Æ (É (Æ (wpAny_dictEpoch Jq Jr ?_)));rw[Ä (by simp)];refine É ?_;simp only [show ¬ ((i:Int) < 0) from by lia,if_false,Š,hx];refine Æ ?_
 first | refine Æ (ź hit.typeIs (É ?_)) | refine Æ (aem hit.typeIs (É ?_))
 show wpAny _ _ (setField (.ref it) 0 .none >>= _) _ _ s;refine Æ (agx ho hd (by simp) ?_);show wpAny _ _ (newExc (.type "StopIteration") [] >>= _) _ _ _;refine Æ ?_;simp only [newExc,newTuple];refine Æ (Đ ?_ (by size_fits));refine Æ (m:=firstArgMember _ _) (wpAny_of_eq (a:=Value.none) (by first | rfl | (simp only [firstArgMember];rfl)) ?_);refine Đ ?_ (by size_fits);simp only [raiseNew];refine Æ (wpAny_handled ?_);rw[show A.in1.handled=none from hh];refine Æ (É (wpAny_throw ?_));refine Æ (ű (T := "StopIteration") (b:=true) ⟨_,ß _ rfl,rfl⟩ isSubtype_stop ?_);exact É (hQ _ (((ĺ ..).extBut.push _).push _))
theorem MG (hh:A.handled=none) (I d:Á) (vb:d≠I) (es:Array DictEntry) (ep:Nat) :
  Walks prog w A I [I,d] [I] es.size (λ i v=>(es[i]?).map (·.key)=some v) (λ i h=>h.IsKeyIter I d i es.size ep/\ET h d es ep) where
 sub:=λ b hb=>by simp at hb;simp [hb]
 frame:=λ _ _ _ st hk=>⟨st.1.at λ o e=>hk I (by simp) o e,st.2.at λ o e=>hk d (by simp) o e⟩
 item:=λ i s Q E hi st hQ=>by
  have hx:es[i]? = some es[i]:=ı hi;refine P3 st.1 st.2 hx λ h' Bs sr=>?_;exact hQ _ h' s.toks (by rw[hx];rfl) ⟨Bs,st.2.at λ o e=>sr.extBut _ o vb e⟩ λ b o hb e=>sr.extBut b o (λ h=>hb (by simp [h])) e
 done:=λ s Q E st hQ=>endE hh st.1 st.2 (by simp) λ h' Hd=>hQ h' s.toks λ b o hb e=>Hd b o (λ h=>hb (by simp [h])) e
 self:=λ _ _ _ _ st hQ=>wpAny_pyIter_keyiter st.1 hQ
theorem DW {Q:Bool->Â->Prop} (ty:s.TypeIs (.ref d) "dict") (k:Q false s):wpAny (model prog w) A (Builtin.List.listLengthHint (.ref d)) Q E s:=by
 unfold Builtin.List.listLengthHint;refine Æ (ľ ty DM ?_);show wpAny _ _ (isInstance (.ref d) (.type "dict") >>= _) _ _ s;refine Æ (ű ty E8 ?_);rw[Ä (by simp)];refine HH (by decide +kernel) ?_;exact Æ (Ś ty (É k))
theorem AD {es:Array DictEntry}{jh:Array À} (h:ItemsOf (λ i v=>(es[i]?).map (·.key)=some v) jh es.size):jh.toList=es.toList.map (·.key):=by
 refine List.ext_getElem? λ i=>?_;rw[adc,Ð,adc];rcases ō i es.size with hi | hi
 ·have md:i < jh.size:=by rw[h.1];exact hi
  rw[h.2 i jh[i] (ı md),ı md]
 ·rw[af3 (by rw[h.1];exact hi),af3 hi];rfl
theorem xA {Q:List À->Â->Prop} (hh:A.handled=none) (hd:(d == sysModules)=false) (hm:ET s.heap d es ep) (hL:es.size<=sizeLine)
  (k:∀ (h':Heap) (tk:Nat),(∀ c q,s.heap.get? c=some q->h'.get? c=some q)->s.heap.objs.size<=h'.objs.size->Q (es.toList.map (·.key)) { s with heap:=h',toks:=tk }) :
  wpAny (model prog w) A (collect (.ref d)) Q E s:=by
 obtain⟨o,g,x,dd⟩:=id hm;have sz:d < s.heap.objs.size:=Ñ g;unfold collect;refine Æ (wpAny_runValue (codeAny_builtin F.entry_proto_collect ?_));rw[Around.under_plainId F.plain_proto_collect _];show wpAny _ A.in1 (newList [] >>= λ l=>again (.builtin "list.__iadd__" ⟨[l,.ref d],[]⟩)) _ _ s;refine Æ (Đ (É ⟨plainId_quiet F.plain_list_iadd _,codeAny_builtin F.entry_list_iadd ?_⟩));rw[Around.under_plainId F.plain_list_iadd _];show wpAny _ A.in1 (Builtin.List.listExtendWith (.ref s.heap.objs.size) (.ref d) (.ref s.heap.objs.size)) _ _ { s with heap:=s.heap.push { cls:=.type "list",data:=.seq ([]:List À).toArray } };have xy:(s.heap.push { cls:=.type "list",data:=.seq ([]:List À).toArray }).get? s.heap.objs.size=some { cls:=.type "list",data:=.seq ([]:List À).toArray }:=ß _ rfl;have Js:∀ c q,s.heap.get? c=some q->(s.heap.push { cls:=.type "list",data:=.seq ([]:List À).toArray }).get? c=some q:=λ c q e=>Í _ e;have zz:(s.heap.push { cls:=.type "list",data:=.seq ([]:List À).toArray }).objs.size=s.heap.objs.size+1:=ø _ _;generalize s.heap.push { cls:=.type "list",data:=.seq ([]:List À).toArray }=h1 at xy Js zz ⊢;have Am:ET h1 d es ep:=hm.at λ q e=>Js d q e;unfold Builtin.List.listExtendWith;refine Æ (Ś (T := "dict") ⟨o,Js d o g,x.1⟩ ?_);have e1:Builtin.List.listSameRef (.ref s.heap.objs.size) (.ref d)=false:=by
  have:s.heap.objs.size≠d:=Nat.ne_of_gt sz;simp [Builtin.List.listSameRef,this]
 have e2:(Value.type "dict" == Value.type "list")=false:=by decide
 have e3:(Value.type "dict" == Value.type "tuple")=false:=by decide
 simp only [e1,e2,e3,Bool.or_false,ĉ,if_false];refine Æ (P9 (s:={ s with heap:=h1 }) hd Am ?_);have hI:(h1.push { cls:=.type "dict_keyiterator",data:=.fields #[.ref d,.int 0 0,.int es.size 0,.int ep 0] }).IsKeyIter h1.objs.size d 0 es.size ep:=⟨_,ß _ rfl,rfl,rfl⟩;have Jt:∀ c q,h1.get? c=some q->(h1.push { cls:=.type "dict_keyiterator",data:=.fields #[.ref d,.int 0 0,.int es.size 0,.int ep 0] }).get? c=some q:=λ c q e=>Í _ e;show wpAny _ _ (holding [.ref h1.objs.size] _ >>= _) _ _ { s with heap:=h1.push { cls:=.type "dict_keyiterator",data:=.fields #[.ref d,.int 0 0,.int es.size 0,.int ep 0] } };generalize h1.push { cls:=.type "dict_keyiterator",data:=.fields #[.ref d,.int 0 0,.int es.size 0,.int ep 0] }=h2 at hI Jt ⊢;refine Æ (ð (DW ⟨o,Jt d o (Js d o g),x.1⟩ ?_));refine HH (by decide +kernel) ?_;refine Æ (õ (Æ ?_));show wpAny _ A.in1 (updateSeq s.heap.objs.size (·.push .none) >>= λ _=>updateSeq s.heap.objs.size (·.pop)) _ _ _;have xq:=Jt _ _ xy;refine Æ (wpAny_updateSeq xq rfl ?_);have Bc:=ł (Obj.mapSeq (·.push Value.none)) xq rfl;refine wpAny_updateSeq Bc rfl ?_;have ut:=ł (Obj.mapSeq (·.pop)) Bc rfl;have V0:∀ c q,c≠s.heap.objs.size->h2.get? c=some q->((h2.update s.heap.objs.size (Obj.mapSeq (·.push Value.none))).update s.heap.objs.size (Obj.mapSeq (·.pop))).get? c=some q:=
  λ c q hc e=>(Ş _ _ (Ne.symm hc)).trans ((Ş _ _ (Ne.symm hc)).trans e)
 have Zt:∀ c,c < s.heap.objs.size->c≠h1.objs.size:=λ c hc e=>by rw[zz] at e;lia
 have off:s.heap.objs.size∉[h1.objs.size,d]:=by
  simp only [Ý,é,ŷ,or_false,not_or];exact⟨by rw[zz];lia,Nat.ne_of_gt sz⟩
 have Zu:h2.IsKeyIter h1.objs.size d 0 es.size ep/\ET h2 d es ep:=⟨hI,Am.at λ q e=>Jt d q e⟩;have Wk:=MG (prog:=prog) (w:=w) (A:=A.in1) hh h1.objs.size d (by rw[zz];exact Þ (Ļ sz)) es ep;refine É ⟨plainId_quiet F.plain_extend_loop _,codeAny_extend_loopS (Wk.toS) hL _ off _ es.size 0 _ _ _ rfl (æ _)
  (Wk.frame 0 h2 _ Zu λ c hc q e=>V0 c q (λ z=>off (z ▸ hc)) e) ut (ItemsOf.nil _) λ s5 jh n5 mv Gh ha=>?_⟩
 obtain⟨h5,g5,d5,Zv,Zw⟩:=s5;obtain rfl:g5=s.gens:=mv.gens;obtain rfl:d5=s.drawn:=mv.drawn;obtain rfl:Zw=s.os:=mv.os;show wpAny _ A (load s.heap.objs.size >>= _) _ _ _;refine Æ (wpAny_load Gh (É ?_));have keep:∀ c q,s.heap.get? c=some q->h5.get? c=some q:=λ c q e=>by
  have hc:=Ñ e;refine mv.heap c q ?_ (V0 c q (Þ hc) (Jt c q (Js c q e)));simp only [Ý,é,ŷ,or_false,not_or];exact⟨Þ hc,Zt c hc⟩
 rw[show jh.toList=es.toList.map (·.key) from AD ha];exact k h5 Zv keep (Ķ (Ñ Gh))
def tJ (h:Heap) (v:À):Prop:=∃ (a:Á) (o:Obj) (n m:Int) (t u:Tok) (e:Nat),v=.ref a/\h.get? a=some o/\o.cls=.type "tuple" /\ o.data=.seq #[.int n t,.int m u] e
theorem tJ.keep {h h':Heap}{v:À} (x:tJ h v) (k:∀ c q,h.get? c=some q->q.cls=.type "tuple" -> h'.get? c=some q):tJ h' v:=let ⟨a,o,n,m,t,u,e,r,g,c,z⟩:=x;⟨a,o,n,m,t,u,e,r,k a o g c,c,z⟩
theorem NV {v:À}{Q:Option À->Â->Prop} (x:tJ s.heap v) (h:∀ n t,Q (some (.int n t)) s):wpAny (model prog w) A (firstOfTuple' v) Q E s:=by
 obtain⟨a,o,n,m,t,u,e,rfl,g,c,z⟩:=x;refine Æ (Ś (T := "tuple") ⟨o,g,c⟩ ?_);rw[Ä (by decide)];exact Æ (listItems_at g z (É (h n t)))
theorem BW:∀ {vs:List À}{Q:List (Option À)->Â->Prop},(∀ v∈vs,tJ s.heap v)->(∀ (ns:List Int) us,IntsAre us ns->us.length=vs.length->Q (us.map some) s)->wpAny (model prog w) A (vs.mapM firstOfTuple') Q E s
 | [],Q,_,k=>by rw[List.mapM_nil];exact É (k [] [] .nil rfl)
 | v::vs,Q,h,k=>by
  rw[List.mapM_cons];refine Æ (NV (h v (by simp)) λ n t=>Æ (BW (λ v hv=>h v (by simp [hv])) λ ns us hI hl=>É ?_));exact k (n::ns) (.int n t::us) (.cons n t hI) (by simp [hl])
theorem HD {vs:List À} (h:∀ v∈vs,tJ s.heap v) (h1:1<=vs.length) {Q:SortKind->Â->Prop} (k:Q (tuples' true) s):wpAny (model prog w) A (keyKind' vs.toArray) Q E s:=by
 rw[keyKind'_eq,List.mapM_toArray];refine Æ ?_;rw[map_eq_pure_bind];refine Æ (BW h λ ns us hI hl=>É ?_);rw[Å (by simp)];refine Æ (õ ?_);rw[oneTypeOnly'_eq,show ((us.map some).toArray.filterMap id)=us.toArray by simp,List.mapM_toArray,mapM_typeOf_ints hI];simp only [map_pure,pure_bind];obtain⟨v,Cs,rfl⟩:∃ v Cs,us=v::Cs:=by
  cases us with
  | nil=>simp at hl;lia
  | cons v Cs=>exact⟨v,Cs,rfl⟩
 have yp:((List.map (λ _=>Value.type "int") (v::Cs)).toArray.all λ x=>x == Value.type "int")=true:=by
  simp only [List.all_toArray,List.all_map,Č];intro _ _;rfl
 have h0:(List.map (λ _=>Value.type "int") (v::Cs)).toArray[0]? = some (Value.type "int"):=by simp
 rw[h0];simp only [yp,if_true,pure_bind];exact É k
theorem GV {n m:Int}{t u:Tok}{b:Bool}{Q:Bool->Â->Prop} (h:∀ b,Q b s):wpAny (model prog w) A (oneLt' b (.int n t) (.int m u)) Q E s:=by
 cases b with
 | true=>exact oneLt_int (h _)
 | false=>
  rw[oneLt'_eq];simp only [ĉ,if_false];refine Æ (wpAny_richCompare_same (op:=.Lt) (İ s n t) (İ s m u) slot_int_lt (call_int_lt ⟨by simp,?_⟩));exact Ń (h _)
theorem cmpE {vs:List À} (h:∀ v∈vs,tJ s.heap v):J1 prog w A s (tuples' true) (pairsOf vs):=λ x hx y hy E Q hq=>by
 rw[pairsOf_toList] at hx hy;obtain⟨a,o,n,m,t,u,e,e1,g,c,z⟩:=h x.1 (ŋ hx).1;obtain⟨a',o',n',m',t',u',e',e2,g',c',z'⟩:=h y.1 (ŋ hy).1;rw[e1,e2];refine Æ (listItems_at g z (Æ (listItems_at g' z' ?_)));refine Æ ?_;show wpAny _ _ (forIn [((Value.int n t,Value.int n' t'),0),((Value.int m u,Value.int m' u'),1)] _ _) _ _ _;rw[Ĥ];refine Æ (Æ (ahh ?_));cases hc1:(n == n') with
 | false=>
  refine Æ (GV λ b=>?_);exact É (É (É (hq b)))
 | true=>
  refine É ?_;dsimp only;rw[Ĥ];refine Æ (Æ (ahh ?_));cases Ce:(m == m') with
  | false=>
   refine Æ (GV λ b=>?_);exact É (É (É (hq b)))
  | true=>
   refine É ?_;dsimp only;rw[ĥ];exact É (É (hq _))
theorem yB {α bj:Type}{f:α->bj}{l m:List bj} (p:l.Perm m):∀ xs:List α,m=xs.map f->∃ V1:List α,V1.Perm xs/\l=V1.map f:=by
 induction p with
 | nil=>intro xs e;cases xs with
  | nil=>exact⟨[],.refl _,rfl⟩
  | cons x xs=>cases e
 | cons x p ih=>intro xs e;cases xs with
  | nil=>cases e
  | cons y ys=>
   injection e with e1 e2;obtain⟨zs,h1,h2⟩:=ih ys e2;exact⟨y::zs,h1.cons y,by rw[ã,e1,h2]⟩
 | swap x y l=>intro xs e;match xs,e with
  | [],e=>cases e
  | [a],e=>injection e with _ e;cases e
  | a::b::c,e=>
   injection e with e1 e;injection e with e2 e3;exact⟨b::a::c,.swap a b c,by rw[ã,ã,e1,e2,e3]⟩
 | trans p1 p2 Zx Zy=>
  intro xs e;obtain⟨ys,h1,h2⟩:=Zy xs e;obtain⟨zs,h3,h4⟩:=Zx ys h2;exact⟨zs,h3.trans h1,h4⟩
theorem xV {Q:À->Â->Prop} (hh:A.handled=none) (hd:(d == sysModules)=false) (hm:ET s.heap d es ep) (hL:es.size<=sizeLine) (hT:∀ v∈es.toList.map (·.key),tJ s.heap v)
  (k:∀ (l:Á) (h':Heap) (tk:Nat) (out:Array À) (e:Nat),out.toList.Perm (es.toList.map (·.key))->s.heap.objs.size<=l->h'.get? l=some (seqObj "list" out e)->
   (∀ c q,s.heap.get? c=some q->h'.get? c=some q)->Q (.ref l) { s with heap:=h',toks:=tk }) :
  wpAny (model prog w) A (call (.builtin "sorted") [.ref d]) Q E s:=by
 refine Calls.call_function_entry kind_sorted plain_sorted entry_sorted (args_sorted1 _) ?_;unfold Builtin.«sorted»;refine Æ (m:=checkCount "sorted" 1 1 _) (É ?_);refine Æ (xA hh hd hm hL λ h1 tk1 keep le=>?_);have hv:(es.toList.map (·.key)).length<=sizeLine:=by rw[Ê,Ĕ];exact hL
 have V2:∀ v∈es.toList.map (·.key),tJ h1 v:=λ v hv=>(hT v hv).keep λ c q e _=>keep c q e;generalize es.toList.map (·.key)=vs at hv V2 k;refine Æ (wpAny_newList (hsz:=hv) ?_);have Fn:(h1.push (seqObj "list" vs.toArray 0)).get? h1.objs.size=some (seqObj "list" vs.toArray 0):=ß _ rfl;have Cu:∀ h':Heap,(∀ c q,c≠h1.objs.size->(h1.push (seqObj "list" vs.toArray 0)).get? c=some q->h'.get? c=some q)->∀ v∈vs,tJ h' v:=λ h' hk v hv=>(V2 v hv).keep λ c q e _=>hk c q (Þ (Ñ e)) (Í _ e);refine Æ (ð (ă slot_list_sort ⟨_,Fn,rfl⟩ entry_list_sort (tV (kd:=tuples' true) Fn hv (λ h2 s' sr Q hq=>HD (Cu _ sr) (by lia) hq) (λ s' sr=>cmpE (Cu _ sr)) λ out hp=>⟨_,rfl,?_⟩) (args_list_sort _)));obtain⟨e,he⟩:=sortedHeap_at (vs:=vs) (out:=out) Fn;refine É ⟨_,rfl,k h1.objs.size _ _ out e hp le he λ c q hc=>?_⟩;have jk:=Ñ (keep c q hc);rw[sortedHeap_old (Þ jk) (by rw[size_push'];exact Ļ jk)];exact Í _ (keep c q hc)
end
end TwS
namespace L2
open PySem PySem.Spec PyProof.Rows TwZ TwS
section
variable {X:Cx}{gi:List (Á×Obj)}{σ:St}{H:Hp}{s:Â}
abbrev JS:D:=.tup [.int 0,.int 0]
theorem MT {d:D} (h:sh d=JS):∃ n m,d=.tup [.int n,.int m]:=by
 match d,h with
 | .tup [.int n,.int m],_=>exact⟨n,m,rfl⟩
 | .tup [],h=>simp [sh,gZ] at h
 | .tup [_],h=>simp [sh,gZ] at h
 | .tup (_::_::_::_),h=>simp [sh,gZ] at h
 | .tup [.int _,.bl _],h=>simp [sh,gZ] at h
 | .tup [.int _,.tup _],h=>simp [sh,gZ] at h
 | .tup [.int _,.non],h=>simp [sh,gZ] at h
 | .tup [.int _,.str _],h=>simp [sh,gZ] at h
 | .tup [.bl _,_],h=>simp [sh,gZ] at h
 | .tup [.tup _,_],h=>simp [sh,gZ] at h
 | .tup [.non,_],h=>simp [sh,gZ] at h
 | .tup [.str _,_],h=>simp [sh,gZ] at h
theorem JL {h:Heap}{n m:Int}{v:À} (x:fR h (.tup [.int n,.int m]) v):tJ h v:=by
 rw[fR] at x;obtain⟨a,o,items,e,rfl,g,c,z,l⟩:=x;rw[dY] at l;obtain⟨v1,r,e1,⟨t,rfl⟩,l⟩:=l;rw[dY] at l;obtain⟨v2,r2,e2,⟨u,rfl⟩,l⟩:=l;rw[dY] at l;subst l;refine⟨a,o,n,m,t,u,e,rfl,g,c,?_⟩;rw[z];congr 1;rw[<- Array.toList_inj,e1,e2]
theorem M1 {K:Ç}{S:D}:∀ {gu:List (D×V)}{xs:List (D×Á×À)},KD K H S gu xs->xs.map (·.1)=gu.map (·.1)/\∀ x∈xs,KeyD K H S x.1 (.ref x.2.1)
 | _,_,.nil=>⟨rfl,λ _ h=>nomatch h⟩
 | _,_,.cons h1 h2=>by
  obtain⟨a,b⟩:=M1 h2;refine⟨by rw[ã,ã,a,h1.1],λ x hx=>?_⟩;rcases Ý.mp hx with rfl | hx
  ·rw[<- h1.1];exact h1.2.1
  ·exact b x hx
theorem uC:∀ zs:List (D×Á×À),bO (zs.map λ x=>V.ref x.2.1) (zs.map λ x=>Value.ref x.2.1)
 | []=>.nil
 | _::zs=>.cons rfl (uC zs)
theorem HK {K:Ç}:∀ {zs:List (D×Á×À)},(∀ x∈zs,Is K H x.1 (.ref x.2.1))->IsL K H (zs.map (·.1)) (zs.map λ x=>V.ref x.2.1)
 | [],_=>.nil
 | z::zs,h=>.cons (h z (by simp)) (HK λ x hx=>h x (by simp [hx]))
def LN (P:Ã) (w:World) (K:Ç):List V->Hp->VK->Prop:=λ xs H Q=>∃ (a:Á) (gu:List (D×V)),xs=[.ref a]/\bR P w K H a JS gu/\
 ∀ (l:Á) (ds:List D) (vs:List V),H l=none->ds.Perm (gu.map (·.1))->IsL K (upd H l (.lst vs)) ds vs->Q (.ref l) (upd H l (.lst vs))
theorem EG (hc:X.calm=true):dZ X (.builtin "sorted") (LN X.prog X.w X.K):=by
 intro gi s σ H xs us Q I r h;obtain⟨a,gu,rfl,g,q⟩:=h;obtain⟨u,rfl,ru⟩:=r.one;cases ru;obtain⟨hd,hl,xs,kd,o,es,ep,h1,h2,h3,h4,h5,h6⟩:=g.at I;have Dv:xs.length=gu.length:=(å kd).symm;have hes:es.size=xs.length:=by rw[<- Ĕ,h4,Ê]
 have hk:es.toList.map (·.key)=xs.map λ x=>Value.ref x.2.1:=by rw[h4,ú];rfl
 refine xV (I.ok.hd hc) hd ⟨o,h1,h2,h3⟩ (by lia) (λ v hv=>?_) λ l h' tk out e hp le Hz keep=>?_
 ·rw[hk] at hv;obtain⟨x,hx,rfl⟩:=Õ.mp hv;obtain⟨z1,z2,z3⟩:=h5 x hx;obtain⟨n,m,e⟩:=MT z1;rw[e] at z3;exact JL z3
 ·rw[hk] at hp;obtain⟨zs,p1,p2⟩:=yB hp xs rfl;obtain⟨k1,k2⟩:=M1 kd;have fr:=I.hok.fresh le;have s1:=È (o:=HO.lst (zs.map λ x=>V.ref x.2.1)) fr;have Zz:zs.length=gu.length:=by rw[p1.length_eq,Dv]
  refine⟨.ref l,upd H l (.lst (zs.map λ x=>V.ref x.2.1)),I.laid keep le (show cG X.prog X.w _ h' _ (.lst (zs.map λ x=>V.ref x.2.1)) from ⟨by rw[Ê,Zz];exact hl,out.toList,e,by rw[p2];exact uC zs,by rw[Array.toArray_toList];exact Hz⟩),rfl,q l (zs.map (·.1)) _ fr (by rw[<- k1];exact p1.map _) (HK λ x hx=>Ï s1.ts _ _ (k2 x (p1.mem_iff.mp hx)).is)⟩
theorem sX {P:Ã}{w:World}{K:Ç} (hP:X.prog=P) (hw:X.w=w) (hK:X.K=K) (hc:X.calm=true):dZ X (.builtin "sorted") (LN P w K):=by
 subst hP hw hK;exact EG hc
end
end L2
namespace Tw
open PySem L2
theorem yN (K:Ç):PySem.W.kitOne K (.type "list") (.type "list")=some true:=by
 unfold PySem.W.kitOne;rw[Å (by decide +kernel)]
theorem GJ {M F m:List iL}{d:iL} (hn:M.Nodup) (h:M=gY F d++m):aR M d<=F.length/\max F.length (aR M d+1)=(gY F d).length:=by
 by_cases c:d∈F
 ·rw[dW c] at h ⊢;have e:aR M d=aR F d:=by rw[h];exact y9 c
  have l:=gT c;lia
 ·rw[dX c] at h ⊢;have e:aR M d=F.length:=lN hn (by rw[h,ý,ŝ (Î _),ahq];rfl);rw[e,à,ē];lia
theorem y3 {gj:Nat}{b0:iL}:∀ (k d:Nat),∃ m,gS gj b0 (k+d)=gS gj b0 k++m
 | k,0=>⟨[],by simp⟩
 | k,d+1=>by
  obtain⟨m,e⟩:=y3 k d;obtain⟨m',e'⟩:=CY gj (gS gj b0 (k+d)) (k+d);exact⟨m++m',by show mK gj (gS gj b0 (k+d)) (k+d)=_;rw[e',e,ý]⟩
structure AllM (most:Nat) (b0:iL) (M:List iL):Prop where
 nd:M.Nodup
 run:∃ q,∀ k,q<=k->gS most b0 k=M
section
variable {gj:Nat}{b0:iL}{M:List iL}
theorem AllM.pre (h:AllM gj b0 M) (k:Nat):∃ m,M=gS gj b0 k++m:=by
 obtain⟨q,hq⟩:=h.run;obtain⟨m,e⟩:=y3 (gj:=gj) (b0:=b0) k q;exact⟨m,by rw[<- hq (k+q) (by lia),e]⟩
theorem AllM.lt (h:AllM gj b0 M) {k:Nat} (hk:k < M.length):k < (gS gj b0 k).length:=by
 rcases ō k (gS gj b0 k).length with z | z
 ·exact z
 ·obtain⟨q,hq⟩:=h.run;have e:=o5 z q;rw[hq (k+q) (by lia)] at e;rw[e] at hk;lia
theorem AllM.len (h:AllM gj b0 M):(gS gj b0 M.length).length=M.length:=by
 obtain⟨m,e⟩:=h.pre M.length;have l:M.length=(gS gj b0 M.length).length+m.length:=by rw[<- à,<- e]
 obtain⟨q,hq⟩:=h.run;have e2:=o5 (gj:=gj) (b0:=b0) (q:=M.length) (by lia) q;rw[hq (M.length+q) (by lia)] at e2;rw[<- e2]
def xM (gj:Nat) (b0 b:iL) (k a:Nat):List iL:=((List.range a).map (eC b)).foldl gY (gS gj b0 k)
theorem r9 (b:iL) (k a:Nat):xM gj b0 b k (a+1)=gY (xM gj b0 b k a) (eC b a):=by
 unfold xM;rw[Ÿ,Ó,ŭ];rfl
theorem AllM.at (h:AllM gj b0 M) {k:Nat}{b:iL} (hb:M[k]? = some b):xM gj b0 b k (gj+1)=gS gj b0 (k+1):=by
 have hk:=(Ò.mp hb).1;have hl:=h.lt hk;obtain⟨m,e⟩:=h.pre k;have jq:(gS gj b0 k)[k]? = some b:=by rw[e,ě hl] at hb;exact hb
 show _=mK gj (gS gj b0 k) k;unfold mK xM;rw[jq]
theorem AV (b:iL) (k a:Nat):∀ d,∃ m,xM gj b0 b k (a+d)=xM gj b0 b k a++m
 | 0=>⟨[],by simp⟩
 | d+1=>by
  obtain⟨m,e⟩:=AV b k a d;obtain⟨m',e'⟩:=zF (xM gj b0 b k (a+d)) (eC b (a+d));exact⟨m++m',by show xM gj b0 b k (a+d+1)=_;rw[r9,e',e,ý]⟩
theorem AllM.step (h:AllM gj b0 M) {k:Nat}{b:iL} (hb:M[k]? = some b) {a:Nat} (ha:a<=gj):aR M (eC b a)<=(xM gj b0 b k a).length/\max (xM gj b0 b k a).length (aR M (eC b a)+1)=(xM gj b0 b k (a+1)).length:=by
 rw[r9];obtain⟨m,e⟩:=h.pre (k+1);rw[<- h.at hb] at e;obtain⟨m',e'⟩:=AV (gj:=gj) (b0:=b0) b k (a+1) (gj - a);rw[show a+1+(gj - a)=gj+1 by lia] at e';refine GJ (m:=m'++m) h.nd ?_;rw[<- r9,<- ý,<- e',e]
end
theorem DP {gk:Net}{v:Int}{gj:Nat}{fs:Fs Sta} (h:g0 gk gj=.on fs) {n:Nat} (hf:jW (cJ gk v gj fs) (aM (cJ gk v gj fs) n)=aM (cJ gk v gj fs) n) :
  fP (cJ gk v gj fs) (aM (cJ gk v gj fs) n)=iV (aQ ((fs.map (·.1)).map (bh (λ s a=>s.nxA gk a) (gM gk v) gj))) gj/\AllM gj (O4 gk v gj) (aQ ((fs.map (·.1)).map (bh (λ s a=>s.nxA gk a) (gM gk v) gj))):=by
 have ma:∀ s∈fs.map (·.1),∀ a:Nat,a<=gj->s.nxA gk a∈fs.map (·.1):=λ s hs a ha=>by
  obtain⟨q,hq,rfl⟩:=Õ.mp hs;obtain⟨q',h1,h2⟩:=i4 h q hq a ha;exact Õ.mpr ⟨q',h1,h2⟩
 rw[DK] at hf ⊢;exact⟨DO (α:=Sta) (nxt:=λ (s:Sta) a=>s.nxA gk a) (out:=gM gk v) (gj:=gj) (L:=fs.map (·.1)) ma hf,gG _,L9 (α:=Sta) (dD:=cV) (nxt:=λ (s:Sta) a=>s.nxA gk a) (fin:=λ _ _=>false) (out:=gM gk v) (gj:=gj) (im:=200) gF (by decide) h⟩
def vE (K:Ç) (Pt:Á):Sp:=λ vs H Q _=>∃ (x:V) (gk:Net) (v:Int) (gj:Nat),vs=[x,.int v,.int gj]/\Is K H (iG gk) x/\NetOk gk/\gj<=1000/\fE H Pt kX y8/\
  (g0 gk gj=.many->∀ p H',SmT Pt kX y8 H H'->bC K H' p [.str "many"]->Q (.ref p) H')/\
  (∀ fs,g0 gk gj=.on fs->∀ M rl H',SmT Pt kX y8 H H'->M=aQ ((fs.map (·.1)).map (bh (λ s a=>s.nxA gk a) (gM gk v) gj))->AllM gj (O4 gk v gj) M->jZ K H' rl (iV M gj)->H rl=none->fs.length<=200->Q (.ref rl) H')
theorem mO:FnScope ["net","watched","most","error","found","e"] ["net","watched","most"] (aL (bW 42)):={}
theorem qH {f f1 f2 Pt:Á}{fd ue zt:FuncData} (F:Fun K "_law_tried" "_law_tried" (bW 42) f fd) (T:Txt mg) (W:TxtW mg iz iq gz ie gr ii ij ik ir)
  (ZA:KindOf K iq gz ie gr ii ij ik ir gr [false,false,false,true,false,false,false,false]) (ZB:PySem.W.exmOne K (.ref gr) (.ref iz)=some true)
  (nh:CalleeR P w K mg base "least" ["net","watched","most"] 9 (vM K Pt gr) f1 ue)
  (uf:Callee P w K mg base "_law_word" ["error"] 1 (zQ K iq gz ie gr ii ij ik ir) f2 zt) :
  FnOk P w K mg base kA 10 f fd ["net","watched","most"] (vE K Pt):=by
 refine F.ok mO (λ vs H Q E h=>?_) (λ ja A outer s H vs Q E hr h=>?_)
 ·obtain⟨x,gk,v,gj,rfl,_⟩:=h;rfl
 ·obtain⟨x,gk,v,gj,rfl,hx,il,hm,tab,kM,kO⟩:=h;have sc:=mO;let EX:XK:=λ cls _ H'=>SmT Pt kX y8 H H'/\cls=.ref gr/\∀ p H',SmT Pt kX y8 H H'->bC K H' p [.str "many"]->Q (.ref p) H';refine⟨_,(aD (pL 3 sc.nd fU)
   (aD (pL 4 sc.nd fU)
   (aD (N4 (EX:=EX) rfl rfl (λ pn xe hx=>(aI (pL 4 sc.nd (vZ nh.ok (hr.mono (by decide)) rfl nh.mg nh.kp nh.bd .nil hx (aA (pv 0) (aA (pv 1) (aA (pv 2) aC))))))) rfl W.m_TipError sc.nd (i:=5) rfl rfl (λ ea=>(aI (pL 3 sc.nd (pv 5)))))
   (aD (dA (bF A0 (pv 3) fU (bH _)) (aI (bG (pv 4))) bK)
   (aI (bG (eX uf hr (aA (pv 3) aC)))))))),?_⟩
  dsimp only [iZ,kK,eB,tC];refine⟨?_,?_⟩
  ·refine⟨_,rfl,_,rfl,_,rfl,x,gk,v,gj,rfl,hx,il,hm,tab,λ e H1 s1=>⟨s1,rfl,kM e⟩,λ fs e n rl H1 s1 hf yf Bl hl=>?_⟩;refine (aK _ rfl ⟨rfl,(aK _ rfl (iC ?_))⟩);obtain⟨e1,e2⟩:=DP (v:=v) e hf;rw[e1] at yf;exact (aK _ rfl (kO fs e _ rl H1 s1 rfl e2 yf Bl hl))
  ·rintro cls H' ea ad ⟨sH,rfl,kk⟩ gy Ao;obtain⟨u0,u1,u2,u3,u4,u5,rfl⟩:∃ u0 u1 u2 u3 u4 u5,ad=[u0,u1,u2,u3,u4,u5]:=by
    match ad,gy with
    | [u0,u1,u2,u3,u4,u5],_=>exact⟨_,_,_,_,_,_,rfl⟩
   have s1:=È (o:=E6 ea (.ref gr)) Ao;refine⟨ZB,(aK _ rfl ?_)⟩;refine (aK _ rfl ⟨rfl,(aK _ rfl (fL ?_))⟩);refine⟨_,rfl,ea,gr,_,3,"many",rfl,aB,ZA,rfl,rfl,λ i b hi hb=>?_,rfl,λ p H2 jb qp=>kk p H2 (sH.step (s1.trans jb)) qp⟩
   match i,hi with
   | 0,_=>simpa using hb.symm
   | 1,_=>simpa using hb.symm
   | 2,_=>simpa using hb.symm
def FI (K:Ç):Sp:=λ vs H Q _=>∃ (rl:Á) (gj:Nat) (b0:iL) (M:List iL),vs=[.ref rl,.int (gj:Int)]/\jZ K H rl (iV M gj)/\AllM gj b0 M/\gj<=1000/\1<=M.length/\M.length<=200/\Q (.bl true) H
theorem gA {M:List iL}{gj k:Nat}{b:iL} (h:M[k]? = some b):(iV M gj)[k]? = some ((List.range (gj+1)).map λ a=>(aR M (eC b a),b [a])):=by unfold iV;rw[Ð,h];rfl
theorem sM (M:List iL) (gj:Nat):(iV M gj).length=M.length:=by unfold iV;rw[Ê]
theorem j6:FnScope ["rooms","most","up","k","room","way","tips"] ["rooms","most"] (aL (bW 44)):={}
theorem pG {f f1:Á}{fd ue:FuncData} (F:Fun K "_law_in_order" "_law_in_order" (bW 44) f fd) (T:Txt mg)
  (sg:Callee P w K mg base "_law_whole" ["thing","low","high"] 1 vC f1 ue):FnOk P w K mg base kA 2 f fd ["rooms","most"] (FI K):=by
 refine F.ok j6 (λ vs H Q E h=>?_) (λ ja A outer s H vs Q E hr h=>?_)
 ·obtain⟨rl,gj,b0,M,rfl,_⟩:=h;rfl
 ·obtain⟨rl,gj,b0,M,rfl,yf,hM,hm,m1,m2,k⟩:=h;have sc:=j6;refine⟨_,(aD (pL 2 sc.nd aF)
   (aD (cX ï rfl (cD rfl T.b_range (aA (pC K T.b_len (pv 0)) aC)) (gL 3 sc.nd) (aD (pL 4 sc.nd (px K (pv 0) (pv 3)))
   (aD (dA (PW.pt (q0 (bF BE (pv 3) (pv 2) (bH _)) (q0 (jP (eU (bB (jF (K:=K) rfl) rfl T.b_isinstance dN (aA (pv 4) (aA (lO (v:=.ty "list") rfl T.b_list oR rfl) aC))))) (pB (bF yE (pC K T.b_len (pv 4)) (aS cB (pv 1) aF) (bH _)))))) (aI (bG eA)) bK)
   (aI (cX ï rfl (cL (K:=K) rfl (pv 4)) (bA (K:=K) (n:=2) rfl rfl (aG (gL 5 sc.nd) (aG (gL 6 sc.nd) aZ))) (aD (dA (PW.pt (q0 (jP (eU (eX sg hr (aA (pv 5) (aA aF (aA (pv 2) aC)))))) (pB (jP (eU (bB (jF (K:=K) rfl) rfl T.b_isinstance dN (aA (pv 6) (aA (lO (v:=.ty "bool") rfl T.b_bool CD rfl) aC)))))))) (aI (bG eA)) bK)
   (aI (pL 2 sc.nd (bB (mC rfl) rfl T.b_max ť (aA (pv 2) (aA (aS cB (pv 5) aF) aC)))))))))))
   (aI (bG (fN mR (pv 2) (pC K T.b_len (pv 0)) (bH _)))))),?_⟩
  obtain⟨us,nz,pr⟩:=yf;have Ib:us.length=M.length:=by rw[<- å pr,sM]
  refine (aK _ rfl (aX rl _ rfl ⟨.inl (Ë nz),(aK _ rfl ⟨by lia,by lia,?_⟩)⟩));rw[show ((us.length:Nat):Int).toNat=us.length from by simp];refine lX (lo:=0) (n:=us.length) (λ i ad H'=>H=H'/\∃ v3 v4 v5 v6,ad=[some (.ref rl),some (.int (gj:Int)),some (.int ((gS gj b0 i).length:Int)),v3,v4,v5,v6]) ⟨rfl,_,_,_,_,rfl⟩ ?_ ?_
  ·rintro i ad _ hi ⟨rfl,v3,v4,v5,v6,rfl⟩;rw[į];obtain⟨b,hb⟩:∃ b,M[i]? = some b:=⟨_,ä (by lia)⟩;obtain⟨u,hu,ru,vs,rfl,Gi,pv⟩:=Ĩ pr (gA hb);have yc:vs.length=gj+1:=by rw[<- å pv,Ê,Ć]
   have jk:=hM.lt (k:=i) (by lia);dsimp only [eB];refine⟨_,rfl,_,rfl,.inl ⟨rl,us,(i:Int),.ref ru,rfl,rfl,Ë nz,bN hu,?_⟩⟩;refine (aK _ rfl (aK _ rfl (aX _ _ rfl ⟨rfl,(aK _ rfl ?_)⟩)));rw[þ (by lia)];refine fL ?_;refine (aK _ rfl (iF _ "list" _ true rfl ⟨.inl (.lst Gi),yN K,(aK _ rfl (fL ?_))⟩));refine (aK _ rfl (aX ru _ rfl ⟨.inl (Ë Gi),(aK _ rfl (aX _ _ rfl ⟨rfl,rfl,(aK _ rfl ?_)⟩))⟩));rw[yc];refine M3 (by congr 1) ?_;refine⟨_,rfl,ru,rfl,⟨_,Ë Gi⟩,oP (K:=K) (a:=ru) (xs:=vs) (λ a ad H'=>H=H'/\∃ v5 v6,ad=[some (.ref rl),some (.int (gj:Int)),some (.int ((xM gj b0 b i a).length:Int)),some (.int (i:Int)),some (.ref ru),v5,v6])
    ⟨rfl,_,_,rfl⟩ (λ m ad H' _ p=>by rw[<- p.1];exact Ë Gi) ?_ ?_⟩
   ·rintro a y ad _ hy ⟨rfl,v5,v6,rfl⟩;have zf:=(Ò.mp hy).1;obtain⟨z,hz,q,rfl,hq⟩:=ď pv hy;rw[Ð,ģ (by lia)] at hz;have lw:z=(aR M (eC b a),b [a]):=(â hz).symm;subst lw;obtain⟨vh,ki⟩:=hM.step hb (show a<=gj by lia);refine⟨q,_,rfl,hq,rfl,_,_,rfl,_,_,rfl,rfl,?_⟩;refine (aK _ rfl (aK _ rfl (uS _ _ _ rfl ⟨by lia,by lia,(aK _ rfl (fL ?_))⟩)));refine (aK _ rfl (iF _ "bool" _ true rfl ⟨.inl (.bl _),NH K,(aK _ rfl (fL ?_))⟩));have ZC:(if ((aR M (eC b a):Nat):Int)+1 > ((xM gj b0 b i a).length:Int) then ((aR M (eC b a):Nat):Int)+1 else ((xM gj b0 b i a).length:Int))=((xM gj b0 b i (a+1)).length:Int):=by
     split <;> lia
    refine (aK _ rfl (aK _ rfl (aX _ _ rfl ⟨rfl,(aX _ _ rfl ⟨rfl,some (gN (aR M (eC b a))),some (.bl (b [a])),?_⟩)⟩)));show [some (V.ref rl),some (V.int (gj:Int)),some (V.int (if ((aR M (eC b a):Nat):Int)+1 > ((xM gj b0 b i a).length:Int) then ((aR M (eC b a):Nat):Int)+1 else ((xM gj b0 b i a).length:Int))),some (V.int (i:Int)),some (V.ref ru),some (gN (aR M (eC b a))),some (.bl (b [a]))]=_;rw[ZC]
   ·rintro ad _ ⟨rfl,v5,v6,rfl⟩;rw[yc,hM.at hb];exact⟨rfl,_,_,_,_,rfl⟩
  ·rintro ad _ ⟨rfl,v3,v4,v5,v6,rfl⟩;rw[Ib,hM.len];refine (aK _ rfl (aK _ rfl (aX rl _ rfl ⟨.inl (Ë nz),rfl,?_⟩)));rw[Ib,ò rfl];exact k
section
variable {α:Type}{dD:α->L2.D}{nxt:α->Int->α}{fin:α->Int->Bool}{gj im:Nat}{L:List α}
structure In12 (L:List α) (fs:Fs α):Prop where
 mem:∀ q∈fs,q.1∈L
 nd:(fs.map (·.1)).Nodup
theorem In12.len {fs:Fs α} (h:In12 L fs):fs.length<=L.length:=by
 have:=lT h.nd (ys:=L) λ x hx=>by
  obtain⟨q,hq,rfl⟩:=Õ.mp hx;exact h.mem q hq
 rwa [Ê] at this
theorem In12.snoc {fs:Fs α}{x:α}{r:List Int} (h:In12 L fs) (hx:x∈L) (hn:x∉fs.map (·.1)):In12 L (fs++[(x,r)]):=by
 refine⟨λ q hq=>?_,?_⟩
 ·rcases ñ.mp hq with hq | hq
  ·exact h.mem q hq
  ·rw[é.mp hq];exact hx
 ·rw[Ó,ļ];refine⟨h.nd,by simp,λ a ha b hb=>?_⟩;have:=é.mp hb;rw[this];intro e;exact hn (by rw[show a=x from e] at ha;exact ha)
theorem tD (hL:L.length<=im) {d:α}{r:List Int}:∀ (l a:Nat) (fs:Fs α),(∀ b:Nat,b < a+l->nxt d b∈L)->In12 L fs->oU dD nxt fin im d r l (a:Nat) fs≠.many/\∀ ji,oU dD nxt fin im d r l (a:Nat) fs=.on ji->In12 L ji
 | 0,a,fs,_,h=>⟨(by intro e;unfold oU at e;cases e),(by intro ji e;unfold oU at e;cases e;exact h)⟩
 | l+1,a,fs,hc,h=>by
  cases hf:fin d a with
  | true=>rw[oT hf];exact⟨λ e=>(by cases e),λ ji e=>(by cases e)⟩
  | false=>
   cases hv:(dS dD fs (dD (nxt d a))).isSome with
   | true=>rw[mD hf hv];exact tD hL l (a+1) fs (λ b hb=>hc b (by lia)) h
   | false=>
    have hn:nxt d a∉fs.map (·.1):=λ z=>by
     obtain⟨q,hq,e⟩:=Õ.mp z;have:=hX (dD:=dD) (d:=q.1) (r:=q.2) hq;rw[e,hv] at this;cases this
    have h2:=h.snoc (r:=r++[(a:Int)]) (hc a (by lia)) hn;have hl:=h2.len;rw[à,ē] at hl;rw[mE hf hv (by lia)];exact tD hL l (a+1) _ (λ b hb=>hc b (by lia)) h2
theorem uY (hL:L.length<=im) (hc:∀ s∈L,∀ a:Nat,a<=gj->nxt s a∈L):∀ (n p:Nat) (fs:Fs α),In12 L fs->iH dD nxt fin gj im n p fs≠.many
 | 0,p,fs,_=>by intro e;unfold iH at e;cases e
 | n+1,p,fs,h=>by
  rw[iH];cases hd:fs[p]? with
  | none=>exact λ e=>by cases e
  | some d=>
   dsimp only;obtain⟨h1,h2⟩:=tD (dD:=dD) (nxt:=nxt) (fin:=fin) (im:=im) hL (d:=d.1) (r:=(dS dD fs (dD d.1)).getD []) (gj+1) 0 fs (λ b hb=>hc _ (h.mem d (Ú hd)) b (by lia)) h;have e0:((0:Nat):Int)=0:=rfl;rw[e0] at h1 h2;cases hb:oU dD nxt fin im d.1 ((dS dD fs (dD d.1)).getD []) (gj+1) 0 fs with
   | on ji=>exact uY hL hc n (p+1) ji (h2 ji hb)
   | many=>exact absurd hb h1
   | ends row f=>exact λ e=>by cases e
end
theorem CZ {gk:Net}{gj:Nat}{L:List Sta} (h0:kF gk∈L) (hl:L.length<=200) (hc:∀ s∈L,∀ a:Nat,a<=gj->s.nxA gk a∈L):g0 gk gj≠.many:=
 uY (nxt:=λ (s:Sta) a=>s.nxA gk a) hl hc _ _ _ ⟨λ q hq=>by rw[é.mp hq];exact h0,by simp⟩
structure St12 (P:Ã) (w:World) (K:Ç) (net:Net) (H:Hp) (sl sd:Á) (L:List Sta):Prop where
 ls:∃ us,H sl=some (.lst us)/\Paired (λ (s:Sta) u=>Is K H (cV s) u) L us
 dd:∃ gu,bR P w K H sd (xO net) gu/\gu.length=L.length/\∀ s,(cI gu (cV s)).isSome=true↔s∈L
 ok:∀ s∈L,jH net s
 nd:L.Nodup
 ne:sl≠sd
def rF (K:Ç):Sp:=λ vs H Q _=>∃ (x:V) (gk:Net) (v:Int) (gj:Nat),vs=[x,.int v,.int gj]/\Is K H (iG gk) x/\NetOk gk/\gj<=1000/\
 ∀ (n:Nat) H',aE H H'->(g0 gk gj=.many->200 < n)->(∀ fs,g0 gk gj=.on fs->n<=fs.length)->Q (.int (n:Int)) H'
theorem kR:FnScope ["net","watched","most","states","there","at","amount","later"] ["net","watched","most"] (aL (bW 43)):={}
theorem St12.same {gk:Net}{H H':Hp}{sl sd:Á}{L:List Sta} (h:St12 P w K gk H sl sd L) (s:aE H H'):St12 P w K gk H' sl sd L:=by
 obtain⟨us,h1,h2⟩:=h.ls;obtain⟨gu,h3,h4⟩:=h.dd;exact⟨⟨us,s _ _ h1,ì h2 λ _ _ z=>Ï s.ts _ _ z⟩,⟨gu,h3.same s,h4⟩,h.ok,h.nd,h.ne⟩
structure Go12 (net:Net) (most p:Nat) (L:List Sta):Prop where
 fst:kF net∈L
 le:p<=L.length
 clo:∀ (i:Nat) s,i < p->L[i]? = some s->∀ a:Nat,a<=most->s.nxA net a∈L
 sub:∀ fs,g0 net most=.on fs->∀ s∈L,s∈fs.map (·.1)
theorem Go12.nxt {gk:Net}{gj p:Nat}{L:List Sta} (h:Go12 gk gj p L) {s:Sta} (hs:s∈L) {a:Nat} (ha:a<=gj):Go12 gk gj p (L++[s.nxA gk a]):=by
 refine⟨Ī _ h.fst,by have:=h.le;rw[à];lia,λ i z hi hz b hb=>?_,λ fs e z hz=>?_⟩
 ·rw[ě (by have:=h.le;lia)] at hz;exact Ī _ (h.clo i z hi hz b hb)
 ·rcases ñ.mp hz with hz | hz
  ·exact h.sub fs e z hz
  ·rw[é.mp hz];obtain⟨q,hq,e1⟩:=Õ.mp (h.sub fs e s hs);obtain⟨q',h1,h2⟩:=i4 e q hq a ha;rw[<- e1,<- h2];exact Õ.mpr ⟨q',h1,rfl⟩
theorem Go12.most_ {gk:Net}{gj p:Nat}{L:List Sta} (h:Go12 gk gj p L) (hp:L.length<=p) (hl:L.length<=200):g0 gk gj≠.many:=
 CZ h.fst hl λ s hs a ha=>by
  obtain⟨i,hi⟩:=ĩ.1 hs;exact h.clo i s (by have:=(Ò.mp hi).1;lia) hi a ha
def qL (K:Ç):Sp:=λ vs H Q _=>∃ (x y:V) (gk:Net) (s:Sta) (v a:Int),vs=[x,y,.int a,.int v]/\Is K H (iG gk) x/\Is K H (cV s) y/\NetOk gk/\jH gk s/\
 ∀ p b H',aE H H'->bC K H' p [b,.bl (gM gk v s a)]->Is K H' (cV (s.nxA gk a)) b->Q (.ref p) H'
theorem nZ:FnScope ["net","state","amount","watched","later","tipped","ground"] ["net","state","amount","watched"] (aL (bW 38)):={}
theorem wF {f f1:Á}{fd ue:FuncData} (F:Fun K "_law_step" "_law_step" (bW 38) f fd) (T:Txt mg) (ug:Callee P w K mg base "_law_tick" ["net","state","poured","fast"] 2 (vG K) f1 ue) :
  FnOk P w K mg base kA 3 f fd ["net","state","amount","watched"] (qL K):=by
 refine F.ok nZ (λ vs H Q E h=>?_) (λ ja A outer s H vs Q E hr h=>?_)
 ·obtain⟨x,y,gk,s,v,a,rfl,_⟩:=h;rfl
 ·obtain⟨x,y,gk,st,v,a,rfl,hx,hy,il,mh,k⟩:=h;have sc:=nZ;refine⟨_,(aD (dU (eX ug hr (aA (pv 0) (aA (pv 1) (aA (aS rX (bM (aA (pv 2) aC)) (aS NA (bM (aA aF aC)) (aS iB (pC K T.b_len (px K (pv 0) aF)) aF))) (aA fU aC))))) (K5 (K:=K) (n:=3) rfl rfl (aG (gL 4 sc.nd) (aG (gL 5 sc.nd) (aG (gL 6 sc.nd) aZ)))))
   (aI (bG (aU (aA (pv 4) (aA (fN (GL (K:=K) rfl) (pv 3) (pv 5) (by rfl)) aC)))))),?_⟩
  obtain⟨ax,av,as,xs,ys,rfl,qx,qv,lv,qs,ls⟩:=gO hx;have nt:xs.length=gk.vs.length:=by rw[lv.length,Ê]
  have nlo:=il.lo;have ZD:=il.hi;refine (aK _ rfl (aK _ rfl (aK _ rfl ⟨(show 1<=sizeLine by decide),λ l1 h1=>⟨(show 1<=sizeLine by decide),λ l2 h2=>?_⟩⟩)));have s2:aE H (upd (upd H l1 (.lst [.int a])) l2 (.lst [.int 0])):=(È h1).trans (È h2);have Qh:l1≠l2:=aH (show upd H l1 (.lst [.int a]) l1=_ from aB) h2;have g1:upd (upd H l1 (.lst [.int a])) l2 (.lst [.int 0]) l1=some (.lst [.int a]):=by rw[aJ Qh];exact aB
  have g2:upd (upd H l1 (.lst [.int a])) l2 (.lst [.int 0]) l2=some (.lst [.int 0]):=aB;generalize upd (upd H l1 (.lst [.int a])) l2 (.lst [.int 0])=H2 at s2 g1 g2 ⊢;refine (aK _ rfl (.inr (.inl (iF ax _ 0 _ rfl ⟨rfl,s2.tup qx,rfl,(aX av xs rfl ⟨.inr (s2.tup qv),(aX _ _ rfl ⟨rfl,(uS l2 _ [.int 0] rfl ⟨rfl,g2,by lia,by lia,?_,λ l3 h3=>?_⟩)⟩)⟩)⟩))))
  ·rw[Ď];show 1 * _<=_;lia
  ·have en:((xs.length:Int) - 1).toNat=gk.vs.length - 1:=by lia
   rw[en,FR];have s3:aE H2 (upd H2 l3 (.lst ((List.replicate (gk.vs.length - 1) (0:Int)).map V.int))):=È h3;refine (iF l1 l3 _ _ rfl ⟨rfl,s3 _ _ g1,aB,?_,λ l4 h4=>?_⟩)
   ·rw[Ê,Ĳ,Ď];show 1+_<=_;lia
   ·have s4:=s3.trans (È (o:=HO.lst ([.int a]++(List.replicate (gk.vs.length - 1) (0:Int)).map V.int)) h4);have g4:upd (upd H2 l3 (.lst ((List.replicate (gk.vs.length - 1) (0:Int)).map V.int))) l4 (.lst ([.int a]++(List.replicate (gk.vs.length - 1) (0:Int)).map V.int)) l4=some (.lst ((a::iM (gk.vs.length - 1)).map V.int)):=aB;generalize upd (upd H2 l3 (.lst ((List.replicate (gk.vs.length - 1) (0:Int)).map V.int))) l4 (.lst ([.int a]++(List.replicate (gk.vs.length - 1) (0:Int)).map V.int))=H4 at s4 g4 ⊢;have QV:=s2.trans s4;refine⟨.ref ax,y,l4,gk,st.held,st.coming,a::iM (gk.vs.length - 1),st.doors,rfl,Ï QV.ts _ _ hx,Ï QV.ts _ _ hy,.inr (Ë g4),il,mh,rP il a,λ l p1 p2 H5 s5 hl i1 i2=>?_⟩;refine (aX l _ rfl ⟨Ë hl,rfl,(aX _ _ rfl (aX _ _ rfl (aX _ _ rfl ⟨rfl,?_⟩)))⟩);obtain⟨tp,V3,rfl,qt,lt⟩:=i2.un;have et:V3=(st.tkA gk a).tip.map λ (j:Nat)=>V.int (j:Int):=by
     have e1:((st.tkA gk a).tip.map λ (i:Nat)=>L2.D.int (i:Int))=((st.tkA gk a).tip.map λ (i:Nat)=>(i:Int)).map L2.D.int:=by rw[ú];rfl
     have e2:((st.tkA gk a).tip.map λ (i:Nat)=>V.int (i:Int))=((st.tkA gk a).tip.map λ (i:Nat)=>(i:Int)).map V.int:=by rw[ú];rfl
     have lt':L2.IsL K H5 ((st.tkA gk a).tip.map λ (i:Nat)=>L2.D.int (i:Int)) V3:=lt;rw[e1] at lt';rw[e2];exact lt'.ints
    subst et;refine⟨_,rfl,_,rfl,_,rfl,tp,_,rfl,.inr qt,rfl,yV _,(show 2<=sizeLine by decide),λ p hp=>?_⟩;have s6:=È (o:=HO.tup [p1,.bl (gM gk v st a)]) hp;exact k p p1 _ ((QV.trans s5).trans s6) (Ì aB) (Ï s6.ts _ _ i1)
theorem St12.snoc {gk:Net}{H H9:Hp}{sl sd:Á}{L:List Sta}{us:List V}{gu:List (L2.D×V)}{s:Sta}{y:V} (h:St12 P w K gk H sl sd L) (hn:s∉L) (ok:jH gk s) (h1:H sl=some (.lst us)) (h2:Paired (λ (s:Sta) u=>Is K H (cV s) u) L us)
  (hl:gu.length=L.length) (hv:∀ s,(cI gu (cV s)).isSome=true↔s∈L) (iy:Is K H (cV s) y) (ts:bJ K H H9) (b:H9 sl=some (.lst us)) (d:bR P w K H9 sd (xO gk) (eT gu (cV s) (.bl true))) :
  St12 P w K gk (upd H9 sl (.lst (us++[y]))) sl sd (L++[s]):=by
 have zu:cI gu (cV s)=none:=by
  cases e:cI gu (cV s) with
  | none=>rfl
  | some z=>exact absurd ((hv s).mp (by rw[e];rfl)) hn
 have mu:mH (H9 sl):=by rw[b];exact trivial
 have zl:bJ K H9 (upd H9 sl (.lst (us++[y]))):=(ç (t:=sl) (H:=H9) (o:=HO.lst (us++[y]))).ts mu;refine⟨⟨_,aB,?_⟩,⟨_,d.mono zl λ o e=>by rw[aJ (Ne.symm h.ne)];exact e,?_,λ z=>?_⟩,λ z hz=>?_,?_,h.ne⟩
 ·exact ğ (ì h2 λ _ _ z=>Ï (ts.trans zl) _ _ z) (Ï (ts.trans zl) _ _ iy)
 ·rw[kU _ zu,à,à,hl];rfl
 ·rw[nP]
  by_cases c:cV z=cV s
  ·rw[Å c,gF _ _ c];simp
  ·rw[Ä c,hv z,ñ,é];exact⟨.inl,λ h=>h.resolve_right λ e=>c (by rw[e])⟩
 ·rcases ñ.mp hz with hz | hz
  ·exact h.ok z hz
  ·rw[é.mp hz];exact ok
 ·rw[ļ];exact⟨h.nd,by simp,λ a ha b hb=>by rw[é.mp hb];exact λ e=>hn (e ▸ ha)⟩
theorem sB {f f1 f2:Á}{fd ue zt:FuncData} (F:Fun K "_law_states" "_law_states" (bW 43) f fd) (T:Txt mg) (jy:Callee P w K mg base "_law_first" ["net"] 1 (jL K) f1 ue)
  (kg:Callee P w K mg base "_law_step" ["net","state","amount","watched"] 3 (qL K) f2 zt):FnOk P w K mg base kA 4 f fd ["net","watched","most"] (rF K):=by
 refine F.ok kR (λ vs H Q E h=>?_) (λ ja A outer s H vs Q E hr h=>?_)
 ·obtain⟨x,gk,v,gj,rfl,_⟩:=h;rfl
 ·refine ĸ λ _ ŉ=>?_;obtain⟨x,gk,v,gj,rfl,hx,il,hm,k⟩:=h;refine ŉ ?_;have sc:=kR;refine⟨_,(aD (pL 3 sc.nd (bM (aA (eX jy hr (aA (pv 0) aC)) aC)))
   (aD (pL 4 sc.nd (pE (P:=P) (w:=w) (K:=K) rfl rfl rfl hr.units (px K (pv 3) aF) eA))
   (aD (pL 5 sc.nd aF)
   (aD (kW ï (PW.pt (vV (bF oB (pv 5) (pC K T.b_len (pv 3)) (bH _)) (qN (bF oB (pC K T.b_len (pv 3)) aF (bH _))))) (aD (cX ï rfl (cD rfl T.b_range (aA (aS cB (pv 2) aF) aC)) (gL 6 sc.nd) (aD (pL 7 sc.nd (px K (eX kg hr (aA (pv 0) (aA (px K (pv 3) (pv 5)) (aA (pv 6) (aA (pv 1) aC))))) aF))
   (aI (dA (bF (rW (P:=P) (w:=w) (K:=K) rfl rfl rfl hr.units) (pv 7) (pv 4) (by rfl)) (aD (j7 (P:=P) (w:=w) (K:=K) rfl rfl rfl hr.units (pv 4) (pv 7) eA rfl)
   (aI (cZ (eJ (K:=K) rfl ù Ċ ċ cE (pv 3) (aA (pv 7) aC))))) bK))))
   (aI (pL 5 sc.nd (aS cB (pv 5) aF)))))
   (aI (bG (pC K T.b_len (pv 3)))))))),?_⟩
  refine (aK _ rfl (aX x gk rfl ⟨hx,il,λ st H0 s0 qi=>⟨(show 1<=sizeLine by decide),λ fl mf=>?_⟩⟩));refine λ sd qw=>(aK _ rfl (.inl (iF fl [st] 0 st rfl ⟨rfl,Ë (È qw _ _ aB),rfl,?_⟩)));have Aq:fl≠sd:=aH (show upd H0 fl (.lst [st]) fl=_ from aB) qw;have s1:aE H0 (upd (upd H0 fl (.lst [st])) sd (.dK [])):=(È mf).trans (È qw);have ff:H fl=none:=s0.free mf;have Cr:H sd=none:=(s0.trans (È mf)).free qw;have g1:upd (upd H0 fl (.lst [st])) sd (.dK []) fl=some (.lst [st]):=by rw[aJ Aq];exact aB
  have g2:upd (upd H0 fl (.lst [st])) sd (.dK []) sd=some (.dK []):=aB;generalize upd (upd H0 fl (.lst [st])) sd (.dK [])=H1 at s1 g1 g2 ⊢;have V4:=Ï s1.ts _ _ qi;refine⟨g2,xO gk,cV (kF gk),oI (nR gk) V4,λ H3 b3 d3=>?_⟩;have Ec:mH (H1 sd):=by rw[g2];exact trivial
  have Mn:=b3.ts (K:=K) Ec;have B3:St12 P w K gk H3 fl sd [kF gk]:=⟨⟨_,b3 _ _ Aq g1,.cons (Ï Mn _ _ V4) .nil⟩,⟨_,d3,rfl,λ z=>by
   rw[é]
   by_cases c:cV (kF gk)=cV z
   ·rw[d0 c];exact⟨λ _=>(gF _ _ c).symm,λ _=>rfl⟩
   ·rw[cR c,xR];exact⟨λ h=>(by cases h),λ e=>absurd (congrArg cV e.symm) c⟩⟩,λ z hz=>by rw[é.mp hz];exact nR gk,by simp,Aq⟩
  have s3:aE H H3:=λ b o e=>b3 b o (aH e Cr) (s1 b o (s0 b o e));have G3:Go12 gk gj 0 [kF gk]:=⟨by simp,æ _,λ i _ h=>absurd h (ī _),λ fs e z hz=>by
   rw[é.mp hz];obtain⟨q,hq,e1⟩:=(oS (by decide) e).1;exact Õ.mpr ⟨q,hq,gF _ _ e1⟩⟩
  refine⟨λ m ad H'=>aE H H'/\∃ (p:Nat) (L:List Sta) (v6 v7:Option V),m=300 - p/\St12 P w K gk H' fl sd L/\Go12 gk gj p L/\p<=201/\L.length<=1300/\
    ad=[some x,some (.int v),some (.int gj),some (.ref fl),some (.ref sd),some (.int (p:Int)),v6,v7],
   ⟨_,s3,0,_,_,_,rfl,B3,G3,by lia,by show 1<=1300;decide,rfl⟩,?_⟩
  rintro m ad H4 zF;refine ĸ λ _ ŉ=>?_;obtain⟨s4,p,L,v6,v7,rfl,B4,G4,hp,hl,rfl⟩:=zF;refine ŉ ?_;obtain⟨us,nz,Gj⟩:=B4.ls;have vd:us.length=L.length:=(å Gj).symm;have hle:=G4.le;have V5:∀ fs,g0 gk gj=.on fs->us.length<=fs.length:=λ fs e=>by
   rw[vd];have:=lT B4.nd (G4.sub fs e)
   rwa [Ê] at this
  refine (aK _ rfl (aK _ rfl (aX fl us rfl ⟨.inl (Ë nz),(aX _ _ rfl ⟨rfl,(aK _ rfl ?_)⟩)⟩)));refine gX (λ hT=>?_) (λ hN=>fL ?_);rotate_left
  ·have hN:¬ (p:Int) < us.length:=by simpa using hN
   refine (aK _ rfl (aX fl us rfl ⟨.inl (Ë nz),k us.length H4 s4 (λ e=>?_) V5⟩));rcases ō 200 us.length with z | z
   ·exact z
   ·exact absurd e (G4.most_ (by lia) (by lia))
  have hT:(p:Int) < us.length:=by simpa using hT
  refine (aK _ rfl (aX fl us rfl ⟨.inl (Ë nz),(aX _ _ rfl ⟨rfl,(aK _ rfl ?_)⟩)⟩));refine gX (λ Cu=>?_) (λ Il=>?_);rotate_left
  ·have Il:¬ (us.length:Int) < 201:=by simpa using Il
   exact (aK _ rfl (aX fl us rfl ⟨.inl (Ë nz),k us.length H4 s4 (λ _=>by lia) V5⟩))
  have Cu:(us.length:Int) < 201:=by simpa using Cu
  refine⟨λ ad H'=>aE H H'/\∃ (p':Nat) (L:List Sta) (v6 v7:Option V),p'=p+1/\St12 P w K gk H' fl sd L/\Go12 gk gj p' L/\p'<=201/\L.length<=1300/\
   ad=[some x,some (.int v),some (.int gj),some (.ref fl),some (.ref sd),some (.int (p':Int)),v6,v7],λ ad H' ⟨h1,p',L',w6,w7,h2,h⟩=>⟨300 - p',by lia,h1,p',L',w6,w7,rfl,h⟩,?_⟩
  obtain⟨d,hd⟩:∃ d,L[p]? = some d:=⟨_,ä (by lia)⟩;refine (aK _ rfl (aX _ _ rfl ⟨rfl,(aK _ rfl ⟨by lia,by lia,?_⟩)⟩));rw[show ((gj:Int)+1).toNat=gj+1 by lia];refine lX (lo:=0) (n:=gj+1) (λ i ad H'=>aE H H'/\∃ (L:List Sta) (v6 v7:Option V),St12 P w K gk H' fl sd L/\L[p]? = some d/\Go12 gk gj p L/\L.length<=200+i/\(∀ a:Nat,a < i->d.nxA gk a∈L)/\
   ad=[some x,some (.int v),some (.int gj),some (.ref fl),some (.ref sd),some (.int (p:Int)),v6,v7]) ⟨s4,L,_,_,B4,hd,G4,by lia,λ a h=>absurd h (ī _),rfl⟩ ?_ ?_
  ·rintro i ad H5 hi zF;refine ĸ λ _ ŉ=>?_;obtain⟨s5,L5,w6,w7,B5,Bt,G5,Gh,Mz,rfl⟩:=zF;refine ŉ ?_;rw[į];obtain⟨QW,Et,Eu⟩:=B5.ls;obtain⟨u,hu,iu⟩:=Ĩ Eu Bt;have Ar:=B5.ok d (Ú Bt);have Ev:=(Ò.mp Bt).1;dsimp only [iZ,eB];refine (aK _ rfl (aK _ rfl (aK _ rfl (.inl (iF fl QW (p:Int) u rfl ⟨rfl,Ë Et,bN hu,(aK _ rfl (aK _ rfl (eA6 x u gk d v i rfl ⟨Ï s5.ts _ _ hx,iu,il,Ar,λ pp y H7 s7 qp iy=>?_⟩)))⟩)))));refine .inr (.inl ⟨pp,_,0,_,rfl,rfl,qp,rfl,?_⟩);have B7:=B5.same s7;have sw:jH gk (d.nxA gk i):=wJ il Ar i;obtain⟨gu,dd,Ju,Ew⟩:=B7.dd;refine (aK _ rfl (aK _ rfl ⟨sd,xO gk,gu,cV (d.nxA gk i),rfl,dd,oI sw iy,(aK _ rfl ?_)⟩))
   by_cases c:d.nxA gk i∈L5
   ·rw[(Ew _).mpr c];refine fL ?_;refine⟨s5.trans s7,L5,_,_,B7,Bt,G5,by lia,λ a ha=>?_,rfl⟩;rcases (show a < i\/a=i by lia) with h | rfl
    ·exact Mz a h
    ·exact c
   ·have QX:(cI gu (cV (d.nxA gk i))).isSome=false:=by
     cases e:(cI gu (cV (d.nxA gk i))).isSome with
     | false=>rfl
     | true=>exact absurd ((Ew _).mp e) c
    rw[QX];refine iC ?_;have ZE:=(å Eu).symm;refine⟨_,rfl,_,rfl,sd,xO gk,gu,cV (d.nxA gk i),rfl,dd,oI sw iy,bU (by rw[Ju];lia),λ H9 b9 d9=>?_⟩;have Ex:H9 fl=some (.lst QW):=b9 _ _ B7.ne (s7 _ _ Et);refine (aK _ rfl ⟨.inl ⟨rfl,_,Ë Ex⟩,(aK _ rfl (uS fl QW _ rfl ⟨rfl,Ex,bU (by lia),?_⟩))⟩);have s9:aE H H9:=λ b o e=>b9 b o (aH e Cr) ((s5.trans s7) b o e);refine⟨s9.put ff,L5++[d.nxA gk i],_,_,B7.snoc c sw (s7 _ _ Et) (ì Eu λ _ _ z=>Ï s7.ts _ _ z) Ju Ew iy (b9.ts dd.mut) Ex d9,by rw[ě Ev];exact Bt,G5.nxt (Ú Bt) (by lia),by rw[à,ē];lia,λ a ha=>?_,rfl⟩;rcases (show a < i\/a=i by lia) with h | rfl
    ·exact Ī _ (Mz a h)
    ·simp
  ·rintro ad H5 zF;refine ĸ λ _ ŉ=>?_;obtain⟨s5,L5,w6,w7,B5,Bt,G5,Gh,Mz,rfl⟩:=zF;refine ŉ ?_;have Ev:=(Ò.mp Bt).1;refine (aK _ rfl (aX _ _ rfl ⟨rfl,s5,p+1,(uS L5 _ _ rfl ⟨B5,⟨G5.fst,Ev,λ i z hi hz a ha=>?_,G5.sub⟩,by lia,by lia,rfl⟩)⟩));rcases (show i < p\/i=p by lia) with h | rfl
   ·exact G5.clo i z h hz a ha
   ·rw[Bt] at hz;cases hz;exact Mz a (by lia)
theorem zZ {M:List iL}{gj:Nat} (Jf:M.Nodup) (mj:∀ b∈M,∀ a:Nat,a<=gj->eC b a∈M) (h0:∀ b∈M,b []=false/\∀ (a:Nat) w,gj < a->b (a::w)=false) (p:Nat->Nat->Bool)
  (hp:∀ (k j:Nat) b c,k < j->M[k]? = some b->M[j]? = some c->p k j=false->∀ a:Nat,a<=gj->b [a]=c [a]/\(aR M (eC b a)=aR M (eC c a)\/p (min (aR M (eC b a)) (aR M (eC c a))) (max (aR M (eC b a)) (aR M (eC c a)))=false))
  {k j:Nat} (Nb:k < j) (hj:j < M.length):p k j=true:=by
 cases e:p k j with
 | true=>rfl
 | false=>
  have key:∀ (w:List Nat) (k j:Nat) (b c:iL),k < j->M[k]? = some b->M[j]? = some c->p k j=false->b w=c w:=by
   intro w
   induction w with
   | nil=>intro k j b c _ hb hc _;rw[(h0 b (Ú hb)).1,(h0 c (Ú hc)).1]
   | cons a w ih=>
    intro k j b c jk hb hc hf;have mb:=Ú hb;have mc:=Ú hc
    by_cases ha:a<=gj
    ·obtain⟨h1,h2⟩:=hp k j b c jk hb hc hf a ha
     by_cases hw:w=[]
     ·rw[hw];exact h1
     ·have db:b (a::w)=eC b a w:=by unfold eC;rw[Ä hw]
      have dc:c (a::w)=eC c a w:=by unfold eC;rw[Ä hw]
      have gb:=fK (mj b mb a ha);have gc:=fK (mj c mc a ha);rw[db,dc]
      by_cases hx:aR M (eC b a)=aR M (eC c a)
      ·rw[hx,gc] at gb;rw[â gb]
      ·have h2:=h2.resolve_left hx;rcases ō (aR M (eC b a)) (aR M (eC c a)) with z | z
       ·rw[ų (by lia),Nat.max_eq_right (by lia)] at h2;exact ih _ _ _ _ z gb gc h2
       ·rw[agc (by lia),Nat.max_eq_left (by lia)] at h2;exact (ih _ _ _ _ (by lia) gc gb h2).symm
    ·rw[(h0 b mb).2 a w (by lia),(h0 c mc).2 a w (by lia)]
  have hb:M[k]? = some M[k]:=ä (by lia);have hc:M[j]? = some M[j]:=ä hj;have eq:M[k]=M[j]:=funext λ w=>key w k j _ _ Nb hb hc e;have:=(List.getElem?_inj (by lia) Jf).mp (show M[k]? = M[j]? by rw[hb,hc,eq]);lia
end Tw
namespace L2
open PySem PySem.Spec PyProof.Rows TwZ
section
variable {X:Cx}{gi:List (Á×Obj)}{σ:St}{H:Hp}{s:Â}
theorem CF:∀ (ns ms:List Bool),ns.length=ms.length->(List.range ns.length).all (λ j=>decide (ns[j]? = ms[j]?))=decide (ns=ms)
 | [],[],_=>rfl
 | [],_::_,h=>by simp at h
 | _::_,[],h=>by simp at h
 | n::ns,m::ms,h=>by
  have ih:=CF ns ms (by simpa using h);rw[ë,af2,ag9,List.all_map];have e:((λ j=>decide ((n::ns)[j]? = (m::ms)[j]?)) ∘ Nat.succ)=λ j=>decide (ns[j]? = ms[j]?):=by funext j;simp
  rw[e,ih]
  by_cases h1:n=m <;> by_cases h2:ns=ms <;> simp [h1,h2]
def FW (K:Ç):R2:=λ x y H Q=>∃ (a b:Á) (ns ms:List Bool),x=.ref a/\y=.ref b/\bD K H a (ns.map V.bl)/\bD K H b (ms.map V.bl)/\ns.length=ms.length/\Q (.bl (!decide (ns=ms))) H
theorem GK (hu:X.A.units+64 < cLine):jJ X (compareOp .NotEq) (FW X.K):=by
 intro gi s σ H x y v u Q I rx ry h;obtain⟨a,b,ns,ms,rfl,rfl,q1,q2,hl,q⟩:=h;cases rx;cases ry;obtain⟨us,r1,p1,_⟩:=I.list q1;obtain⟨vs,r2,p2,_⟩:=I.list q2;have e1:=r1.length;have e2:=r2.length;rw[Ê] at e1 e2;refine SeqAt.RcNeAt.lists (A:=X.A) (s:=s) (e:=λ j=>decide (ns[j]? = ms[j]?)) p1.isList p2.isList (by simp;lia) (by lia) (λ j h1 h2=>?_) X.prog X.w X.xe _ ?_
 ·have j1:j < ns.length:=by rw[e1];simpa using h1
  have j2:j < ms.length:=by rw[e2];simpa using h2
  obtain⟨w1,g1,rfl⟩:=r1.get (i:=j) (x:=.bl ns[j]) (by simp);obtain⟨w2,g2,rfl⟩:=r2.get (i:=j) (x:=.bl ms[j]) (by simp);rw[xI h1 g1,xI h2 g2];have:decide (ns[j]? = ms[j]?)=(ns[j] == ms[j]):=by rw[ä j1,ä j2];by_cases h:ns[j]=ms[j] <;> simp [h]
  rw[this];exact ae7 _ _
 ·rw[ê,<- e1,CF ns ms hl];exact⟨.bl _,H,I,rfl,q⟩
theorem D8 {K:Ç} (hK:X.K=K) (hu:X.A.units+64 < cLine):jJ X (compareOp .NotEq) (FW K):=by subst hK;exact GK hu
end
end L2
namespace Tw
open PySem L2
def iA (k j:Nat):L2.D:=.tup [.int (k:Int),.int (j:Int)]
theorem vW {k j k' j':Nat} (h:iA k j=iA k' j'):k=k'/\j=j':=by
 unfold iA at h;injection h with h;injection h with h1 h;injection h1 with h1;injection h with h2;injection h2 with h2;exact⟨by lia,by lia⟩
theorem sO {K:Ç}{H:Hp}{p:Á}{k j:Nat} (h:bC K H p [.int (k:Int),.int (j:Int)]):KeyD K H JS (iA k j) (.ref p):=by
 refine⟨?_,?_,?_,Ô h (.cons (è _) (.cons (è _) .nil)),_,rfl⟩
 ·unfold iA;simp [sh,gZ]
 ·unfold iA;rw[L2.D.depth,bV,bV,bV,hU,hU];decide
 ·unfold iA;simp [dF,cQ]
theorem D6 {gu:List (L2.D×V)}{k d:L2.D}{v:V} (h:d∈(eT gu k v).map (·.1)):d=k\/d∈gu.map (·.1):=by
 unfold eT at h
 split at h
 ·obtain⟨q,hq,rfl⟩:=Õ.mp h;obtain⟨z,hz,rfl⟩:=Õ.mp hq;right
  split <;> exact ę (f:=(·.1)) hz
 ·rw[Ó,ñ] at h;exact h.elim .inr λ z=>.inl (by simpa using z)
theorem FZ {gu:List (L2.D×V)}{k:L2.D}{v:V} (h:(cI gu k).isSome=true):(eT gu k v).length=gu.length:=by
 unfold eT;rw[Å (by rw[hW];exact h),Ê]
theorem sJ {k:L2.D}{v:V}:∀ {gu:List (L2.D×V)},cI gu k=some v->k∈gu.map (·.1)
 | [],h=>by cases h
 | p::r,h=>by
  by_cases e:p.1=k
  ·rw[ã,e];exact ą
  ·rw[cR e] at h;rw[ã];exact ô _ (sJ h)
structure Kv12 (n:Nat) (S:Nat->Nat->Prop) (p:Nat->Nat->Bool) (gu:List (L2.D×V)):Prop where
 val:∀ k j,S k j->cI gu (iA k j)=some (.bl (p k j))
 key:∀ d∈gu.map (·.1),∃ k j,S k j/\d=iA k j
 len:gu.length<=n
theorem Kv12.put {n:Nat}{S S':Nat->Nat->Prop}{p p':Nat->Nat->Bool}{gu:List (L2.D×V)} (h:Kv12 n S p gu) {k j:Nat}{b:Bool} (hk:S' k j) (hb:p' k j=b) (hs:∀ x y,S x y->S' x y)
  (ho:∀ x y,S' x y->¬ (x=k/\y=j)->S x y/\p' x y=p x y) {m:Nat} (hm:(eT gu (iA k j) (.bl b)).length<=m):Kv12 m S' p' (eT gu (iA k j) (.bl b)):=by
 refine⟨λ x y VX=>?_,λ d hd=>?_,hm⟩
 ·rw[nP]
  by_cases c:x=k/\y=j
  ·obtain⟨rfl,rfl⟩:=c;rw[Å rfl,hb]
  ·obtain⟨h1,h2⟩:=ho x y VX c;rw[Ä (λ e=>c (vW e)),h.val x y h1,h2]
 ·rcases D6 hd with rfl | hd
  ·exact⟨k,j,hk,rfl⟩
  ·obtain⟨x,y,h1,h2⟩:=h.key d hd;exact⟨x,y,hs x y h1,h2⟩
def CQ (p:Nat->Nat->Bool) (k j:Nat):Nat->Nat->Bool:=λ x y=>if x=k/\y=j then true else p x y
def prs (n:Nat):List (Nat×Nat):=(List.range n).flatMap λ j=>(List.range j).map λ k=>(k,j)
theorem KJ {n k j:Nat}:(k,j)∈prs n↔k < j/\j < n:=by
 unfold prs;rw[List.mem_flatMap];constructor
 ·rintro⟨y,h1,h2⟩;obtain⟨x,h3,h4⟩:=Õ.mp h2;injection h4 with e1 e2;subst e1 e2;exact⟨ć.mp h3,ć.mp h1⟩
 ·rintro⟨h1,h2⟩;exact⟨j,ć.mpr h2,Õ.mpr ⟨k,ć.mpr h1,rfl⟩⟩
theorem IN {α:Type}{f g:α->Bool}:∀ {l:List α},(∀ x∈l,f x=true->g x=true)->∀ {x:α},x∈l->f x=false->g x=true->l.countP f < l.countP g
 | y::l,h,x,hx,h1,h2=>by
  have le:l.countP f<=l.countP g:=List.countP_mono_left λ z hz=>h z (ô _ hz);rw[List.countP_cons,List.countP_cons];rcases Ý.mp hx with rfl | hx
  ·rw[h1,h2];simp;lia
  ·have ih:=IN (λ z hz=>h z (ô _ hz)) hx h1 h2;have:=h y ą;cases e:f y with
   | false=>simp;split <;> lia
   | true=>rw[this e];simp;exact ih
def L7 (n:Nat) (p:Nat->Nat->Bool):Nat:=(prs n).countP λ q=>!p q.1 q.2
theorem NW {n:Nat}{p p':Nat->Nat->Bool} (h:∀ x y,p x y=true->p' x y=true) {k j:Nat} (h1:k < j) (h2:j < n) (h3:p k j=false) (h4:p' k j=true):L7 n p' < L7 n p:=by
 unfold L7;refine IN (x:=(k,j)) (λ q _ hq=>?_) (KJ.mpr ⟨h1,h2⟩) (by simp [h4]) (by simp [h3]);cases e:p q.1 q.2 with
 | false=>rfl
 | true=>rw[h _ _ e] at hq;exact hq
def zG (M:List iL) (gj:Nat) (p:Nat->Nat->Bool):Prop:=∀ (k j:Nat) b c,k < j->M[k]? = some b->M[j]? = some c->p k j=false->∀ a:Nat,a<=gj->b [a]=c [a]
def tK (M:List iL) (p:Nat->Nat->Bool) (k j a:Nat):Prop:=∀ b c,M[k]? = some b->M[j]? = some c->aR M (eC b a)=aR M (eC c a)\/p (min (aR M (eC b a)) (aR M (eC c a))) (max (aR M (eC b a)) (aR M (eC c a)))=false
def dH (gj:Nat) (b:iL):List Bool:=(List.range (gj+1)).map λ a=>b [a]
def tO (M:List iL) (gj:Nat) (k j:Nat):Bool:=!decide ((M[j]?).map (dH gj)=(M[k]?).map (dH gj))
theorem tip0 (M:List iL) (gj:Nat):zG M gj (tO M gj):=by
 intro k j b c _ hb hc h a ha;unfold tO at h;rw[hb,hc] at h;have h':dH gj c=dH gj b:=by
  have:=ĕ (Bool.not_eq_false' .. ▸ h);exact â this
 unfold dH at h';exact (fG.mp h' a (by lia)).symm
theorem zG.mono {M:List iL}{gj:Nat}{p p':Nat->Nat->Bool} (h:zG M gj p) (hp:∀ x y,p x y=true->p' x y=true):zG M gj p':=λ k j b c h1 h2 h3 h4=>h k j b c h1 h2 h3 (by
 cases e:p k j with
 | false=>rfl
 | true=>rw[hp _ _ e] at h4;exact h4)
structure Kv3 (P:Ã) (w:World) (K:Ç) (H:Hp) (sd:Á) (n:Nat) (S:Nat->Nat->Prop) (p:Nat->Nat->Bool):Prop where
 ex:∃ gu,bR P w K H sd JS gu/\Kv12 n S p gu
theorem Kv3.same {P:Ã}{w:World}{K:Ç}{H H':Hp}{sd:Á}{n:Nat}{S:Nat->Nat->Prop}{p:Nat->Nat->Bool} (h:Kv3 P w K H sd n S p) (s:aE H H'):Kv3 P w K H' sd n S p:=let ⟨gu,d,x⟩:=h.ex;⟨gu,d.same s,x⟩
abbrev Sn (M:List iL):Nat->Nat->Prop:=λ x y=>x < y/\y < M.length
abbrev Jw (P:Ã) (w:World) (K:Ç) (H:Hp) (rl sd:Á) (M:List iL) (gj:Nat) (C:(Nat->Nat->Bool)->Bool->Prop) (ad:St) (H':Hp):Prop:=∃ (p:Nat->Nat->Bool) (ag:Bool) (v2 v3 v5 v6:Option V),aE H H'/\Kv3 P w K H' sd 40000 (Sn M) p/\zG M gj p/\(ag=false->∀ k j a,k < j->j < M.length->a<=gj->p k j=false->tK M p k j a)/\
 C p ag/\ad=[some (.ref rl),some (.ref sd),v2,v3,some (.bl ag),v5,v6]
abbrev Jp (P:Ã) (w:World) (K:Ç) (H:Hp) (sd l:Á) (vs:List V) (ds:List L2.D) (M:List iL) (p p':Nat->Nat->Bool) (ag:Bool) (C:Prop) (H':Hp):Prop:=aE H H'/\H' l=some (.lst vs)/\L2.IsL K H' ds vs/\Kv3 P w K H' sd 40000 (Sn M) p'/\(∀ x y,p x y=true->p' x y=true)/\
 (ag=true->∃ k j,k < j/\j < M.length/\p k j=false/\p' k j=true)/\(ag=false->p'=p/\C)
def rH (K:Ç):Sp:=λ vs H Q _=>∃ (rl:Á) (gj:Nat) (M:List iL),vs=[.ref rl]/\jZ K H rl (iV M gj)/\M.Nodup/\(∀ b∈M,∀ a:Nat,a<=gj->eC b a∈M)/\(∀ b∈M,b []=false/\∀ (a:Nat) w,gj < a->b (a::w)=false)/\
 gj<=1000/\M.length<=200/\∀ H',aE H H'->Q (.bl true) H'
theorem BJ {H:Hp}{gj:Nat}{b:iL}{M:List iL}{ra:Á}{vs:List V}{σ:St}{Q:Á->Hp->Prop} (hv:H ra=some (.lst vs)) (pv:Paired (λ (p:Nat×Bool) v=>∃ q,v=.ref q/\bC K H q [gN p.1,.bl p.2]) ((List.range (gj+1)).map λ a=>(aR M (eC b a),b [a])) vs)
  (hm:gj<=1000) (k:∀ D H',H D=none->aE H H'->H' D=some (.lst ((dH gj b).map V.bl))->Q D H'):iX (JE K ra) (NT K 2 (HZ (eB 0) (HZ (eB 1) PK))) JM (eD 1) [none,none] σ H Q:=by
 have yc:vs.length=gj+1:=by rw[<- å pv,Ê,Ć]
 have ve:(dH gj b).length=gj+1:=by unfold dH;rw[Ê,Ć]
 refine fY (K:=K) (a:=ra) (xs:=vs) (λ D i ys ad H'=>H D=none/\aE H H'/\H' D=some (.lst ys)/\ys=((dH gj b).take i).map V.bl/\∃ u v,ad=[u,v])
  (λ D i r ad H' p=>Ë (p.2.1 _ _ hv)) (λ D hD=>⟨hD,È hD,aB,rfl,none,none,rfl⟩) ?_ ?_
 ·rintro D r ad H3 ⟨jx,sm,iw,rfl,_⟩;rw[yc,<- ve,Ù] at iw;exact k D H3 jx sm iw
 ·rintro D i y r ad H3 hy ⟨jx,sm,iw,rfl,u,v,rfl⟩;have zf:=(Ò.mp hy).1;obtain⟨z,hz,q,rfl,hq⟩:=ď pv hy;rw[Ð,ģ (by lia)] at hz;have lw:z=(aR M (eC b i),b [i]):=(â hz).symm;subst lw;have hg:(dH gj b)[i]? = some (b [i]):=by unfold dH;rw[Ð,ģ (by lia)];rfl
  refine (aX q _ rfl ⟨sm.tup hq,rfl,(aX _ _ rfl (aX _ _ rfl ⟨rfl,?_⟩))⟩);refine fI ?_;refine⟨_,rfl,iw,bU (by rw[Ê,Ø];lia),jx,sm.put jx,aB,?_,_,_,rfl⟩;rw[Ŕ,hg,Ó];rfl
theorem i9:FnScope ["rooms","parted","j","k","again","one","two"] ["rooms"] (aL (bW 45)):={}
theorem n6 {f:Á}{fd:FuncData} (F:Fun K "_law_all_parted" "_law_all_parted" (bW 45) f fd) (T:Txt mg):FnOk P w K mg base kA 1 f fd ["rooms"] (rH K):=by
 refine F.ok i9 (λ vs H Q E h=>?_) (λ ja A outer s H vs Q E hr h=>?_)
 ·obtain⟨rl,gj,M,rfl,_⟩:=h;rfl
 ·refine ĸ λ _ ŉ=>?_;obtain⟨rl,gj,M,rfl,yf,Jf,mj,h0,hm,hM,k⟩:=h;refine ŉ ?_;have sc:=i9;refine⟨_,(aD (eF (i:=1) sc.nd rfl (Or.inr rfl) rT)
   (aD (cX ï rfl (cD rfl T.b_range (aA (pC K T.b_len (pv 0)) aC)) (gL 2 sc.nd) (aI (cX ï rfl (cD rfl T.b_range (aA (pv 2) aC)) (gL 3 sc.nd) (aI (j7 (P:=P) (w:=w) (K:=K) rfl rfl rfl hr.units (pv 1) (aU (aA (pv 3) (aA (pv 2) aC))) (fN (D8 (K:=K) rfl hr.units) (eW (λ _ _ h=>h) rfl (LcOk.mk (N':=["way","tips"]) (fr:=[none,none]) rfl trivial rfl rfl rfl rfl rfl trivial) (cL (K:=K) rfl (px K (pv 0) (pv 2))) (λ _ _ _=>(bA (K:=K) (n:=2) rfl rfl (aG (gC 0 ["way","tips"]) (aG (gC 1 ["way","tips"]) aZ)))) (λ _ _ _=>bS) (λ _ _ _=>(pv 1))) (eW (λ _ _ h=>h) rfl (LcOk.mk (N':=["way","tips"]) (fr:=[none,none]) rfl trivial rfl rfl rfl rfl rfl trivial) (cL (K:=K) rfl (px K (pv 0) (pv 3))) (λ _ _ _=>(bA (K:=K) (n:=2) rfl rfl (aG (gC 0 ["way","tips"]) (aG (gC 1 ["way","tips"]) aZ)))) (λ _ _ _=>bS) (λ _ _ _=>(pv 1))) (bH _)) rfl)))))
   (aD (pL 4 sc.nd eA)
   (aD (kW ï (eU (pv 4)) (aD (pL 4 sc.nd eA)
   (aI (cX ï rfl (cL (K:=K) rfl (bB (sX (P:=P) (w:=w) (K:=K) rfl rfl rfl rfl) rfl T.b_sorted ag7 (aA (pv 1) aC))) (bA (K:=K) (n:=2) rfl rfl (aG (gL 3 sc.nd) (aG (gL 2 sc.nd) aZ))) (aI (dA (jP (eU (qA (uN (P:=P) (w:=w) (K:=K) rfl rfl rfl hr.units) (pv 1) (aU (aA (pv 3) (aA (pv 2) aC))) (λ _ _=>rfl)))) (aI (cX ï rfl (yA (K:=K) rfl rfl T.b_zip (aA (px K (pv 0) (pv 3)) (aA (px K (pv 0) (pv 2)) aC))) (bA (K:=K) (n:=2) rfl rfl (aG (gL 5 sc.nd) (aG (gL 6 sc.nd) aZ))) (aI (dA (PW.pt (vV (bF yE (px K (pv 5) aF) (px K (pv 6) aF) (bH _)) (qN (eU (qA (uN (P:=P) (w:=w) (K:=K) rfl rfl rfl hr.units) (pv 1) (aU (aA (bB (mB rfl) rfl T.b_min aez (aA (px K (pv 5) aF) (aA (px K (pv 6) aF) aC))) (aA (bB (mC rfl) rfl T.b_max ť (aA (px K (pv 5) aF) (aA (px K (pv 6) aF) aC))) aC))) (λ _ _=>rfl)))))) (aD (pL 4 sc.nd eA)
   (aI (j7 (P:=P) (w:=w) (K:=K) rfl rfl rfl hr.units (pv 1) (aU (aA (pv 3) (aA (pv 2) aC))) eA rfl))) bK)))) bK))))))
   (aI (bG (bB (EM (K:=K) rfl rfl) rfl T.b_all PyProof.Rows.boot_all (aA (eW (λ _ _ h=>h) rfl (LcOk.mk (N':=["pair","parted"]) (fr:=[none,some 1]) rfl ⟨rfl,trivial⟩ rfl rfl rfl rfl rfl ⟨⟨_,rfl,rfl,rfl,rfl⟩,trivial⟩) (cL (K:=K) rfl (bB (sX (P:=P) (w:=w) (K:=K) rfl rfl rfl rfl) rfl T.b_sorted ag7 (aA (pv 1) aC))) (λ _ _ _=>(gC 0 ["pair","parted"])) (λ _ _ _=>bS) (λ _ _ _=>(qA (uN (P:=P) (w:=w) (K:=K) rfl rfl rfl hr.units) (pv 1) (pv 0) (λ _ _=>rfl)))) aC)))))))),?_⟩
  obtain⟨us,nz,pr⟩:=yf;have Ib:us.length=M.length:=by rw[<- å pr,sM]
  refine λ sd qw=>?_;have s1:aE H (upd H sd (.dK [])):=È qw;have g1:upd H sd (.dK []) sd=some (.dK []):=aB;generalize upd H sd (.dK [])=H1 at s1 g1 ⊢;have Jv:∀ {H2 H3},aE H H2->cK sd H2 H3->aE H H3:=λ s2 b3 b o e=>b3 b o (aH e qw) (s2 b o e);have nrs:rl≠sd:=aH nz qw;refine (aK _ rfl (aX rl _ rfl ⟨.inl (Ë (s1 _ _ nz)),(aK _ rfl ⟨by lia,by lia,?_⟩)⟩));rw[show ((us.length:Nat):Int).toNat=us.length from by simp];refine fC (lo:=0) (n:=us.length) (λ j ad H'=>aE H H'/\Kv3 P w K H' sd (200 * j) (λ x y=>x < y/\y < j) (tO M gj)/\∃ v2 v3 v4 v5 v6,ad=[some (.ref rl),some (.ref sd),v2,v3,v4,v5,v6]) ⟨s1,⟨_,bR.new g1,λ k j h=>by lia,λ d hd=>by simp at hd,æ _⟩,_,_,_,_,_,rfl⟩ ?_ ?_
  ·rintro DD j - lq ad H2 hj zF;refine ĸ λ _ ŉ=>?_;obtain⟨s2,d2,v2,v3,v4,v5,v6,rfl⟩:=zF;refine ŉ ?_;rw[į];dsimp only [eB];obtain⟨c,hc⟩:∃ b,M[j]? = some b:=⟨_,ä (by lia)⟩;refine (aK _ rfl (aK _ rfl ⟨by lia,by lia,?_⟩));rw[show ((j:Nat):Int).toNat=j from by simp];refine fC (lo:=0) (n:=j) (λ i ad H'=>aE H H'/\Kv3 P w K H' sd (200 * j+i) (λ x y=>x < y/\y < j\/y=j/\x < i) (tO M gj)/\∃ v3 v4 v5 v6,ad=[some (.ref rl),some (.ref sd),some (.int (j:Int)),v3,v4,v5,v6]) ?_ ?_ ?_
   ·obtain⟨gu,d,x⟩:=d2.ex;exact⟨s2,⟨gu,d,⟨λ k y h=>x.val k y (by lia),λ d hd=>by obtain⟨a,b,h1,h2⟩:=x.key d hd;exact⟨a,b,.inl h1,h2⟩,x.len⟩⟩,_,_,_,_,rfl⟩
   ·rintro DE i - ZF ad H3 hi zF;refine ĸ λ _ ŉ=>?_;obtain⟨s3,d3,v3,v4,v5,v6,rfl⟩:=zF;refine ŉ ?_;rw[į];dsimp only [eB];obtain⟨b,hb⟩:∃ b,M[i]? = some b:=⟨_,ä (by lia)⟩;refine ĸ λ _ ŉ=>?_;obtain⟨uj,QY,rj,vj,rfl,Jx,Nc⟩:=Ĩ pr (gA hc);refine ŉ ?_;refine ĸ λ _ ŉ=>?_;obtain⟨ui,ZG,ri,vi,rfl,V6,ZH⟩:=Ĩ pr (gA hb);refine ŉ ?_;refine⟨_,rfl,_,rfl,.inl ⟨rl,us,(j:Int),.ref rj,rfl,rfl,Ë (s3 _ _ nz),bN QY,rj,rfl,⟨_,Ë (s3 _ _ Jx)⟩,?_⟩⟩;refine BJ (b:=c) (s3 _ _ Jx) (ì Nc λ _ _ ⟨q,e,z⟩=>⟨q,e,s3.tup z⟩) hm λ D1 H4 QF s4 QZ=>?_;refine⟨_,rfl,_,rfl,.inl ⟨rl,us,(i:Int),.ref ri,rfl,rfl,Ë (s4 _ _ (s3 _ _ nz)),bN ZG,ri,rfl,⟨_,Ë (s4 _ _ (s3 _ _ V6))⟩,?_⟩⟩;refine BJ (b:=b) (s4 _ _ (s3 _ _ V6)) (ì ZH λ _ _ ⟨q,e,z⟩=>⟨q,e,(s3.trans s4).tup z⟩) hm λ D2 H5 rb s5 sf=>?_;refine⟨D1,D2,dH gj c,dH gj b,rfl,rfl,Ë (s5 _ _ QZ),Ë sf,by unfold dH;rw[Ê,Ê],?_⟩;have Jh:=s3.trans (s4.trans s5);refine (aK _ rfl (aK _ rfl (aK _ rfl ⟨(show 2<=sizeLine by decide),λ pt Cz=>?_⟩)));have s6:aE H (upd H5 pt (.tup [.int (i:Int),.int (j:Int)])):=Jh.trans (È Cz);have d6:=(d3.same (s4.trans s5)).same (È (o:=HO.tup [.int (i:Int),.int (j:Int)]) Cz);obtain⟨gu,dd,x⟩:=d6.ex;have xl:=x.len;refine⟨sd,JS,gu,iA i j,rfl,dd,sO (Ì aB),bU (by lia),λ H7 b7 d7=>?_⟩;have pv:(!decide (dH gj c=dH gj b))=tO M gj i j:=by
     unfold tO;rw[hb,hc];congr 1
     by_cases e:dH gj c=dH gj b
     ·rw[ò e];exact (ò (show some (dH gj c)=some (dH gj b) by rw[e])).symm
     ·rw[þ e];exact (þ (λ (z:some (dH gj c)=some (dH gj b))=>e (â z))).symm
    rw[pv] at d7;refine ZF _ _ ⟨Jv s6 b7,⟨_,d7,x.put (S':=λ x y=>x < y/\y < j\/y=j/\x < i+1) (p':=tO M gj) (.inr ⟨rfl,by lia⟩) rfl (λ x y h=>by lia) (λ x y h hn=>⟨by lia,rfl⟩) (by have:=eZ gu (iA i j) (.bl (tO M gj i j));lia)⟩,_,_,_,_,rfl⟩
   ·rintro ad H3 zF;refine ĸ λ _ ŉ=>?_;obtain⟨s3,d3,v3,v4,v5,v6,rfl⟩:=zF;refine ŉ ?_;obtain⟨gu,d,x⟩:=d3.ex;refine lq _ _ ⟨s3,⟨gu,d,⟨λ k y h=>x.val k y (by lia),λ d hd=>by obtain⟨a,b,h1,h2⟩:=x.key d hd;exact⟨a,b,by lia,h2⟩,by have:=x.len;lia⟩⟩,_,_,_,_,_,rfl⟩
  ·rintro ad H2 zF;refine ĸ λ _ ŉ=>?_;obtain⟨s2,d2,v2,v3,v4,v5,v6,rfl⟩:=zF;refine ŉ ?_;have ZI:Kv3 P w K H2 sd 40000 (Sn M) (tO M gj):=by
    obtain⟨gu,d,x⟩:=d2.ex;exact⟨gu,d,⟨λ k y h=>x.val k y (by lia),λ d hd=>by obtain⟨a,b,h1,h2⟩:=x.key d hd;exact⟨a,b,by lia,h2⟩,by have:=x.len;lia⟩⟩
   clear d2 g1 s1;refine⟨λ m ad H'=>Jw P w K H rl sd M gj (λ p ag=>m=L7 M.length p+(if ag=true then 1 else 0)) ad H',⟨_,tO M gj,true,_,_,_,_,s2,ZI,tip0 M gj,λ z=>(by cases z),rfl,rfl⟩,?_⟩;rintro m ad H3 zF;refine ĸ λ _ ŉ=>?_;obtain⟨p,ag,v2,v3,v5,v6,s3,d3,t3,c3,rfl,rfl⟩:=zF;refine ŉ ?_;refine (aK _ rfl (aK ag rfl ?_));cases ag with
   | false=>
    refine fL ?_;have all1:∀ k j,k < j->j < M.length->p k j=true:=λ k j h1 h2=>zZ Jf mj h0 p (λ k j b c Nb hb hc hf a ha=>⟨t3 k j b c Nb hb hc hf a ha,c3 rfl k j a Nb (Ò.mp hc).1 ha hf b c hb hc⟩) h1 h2;obtain⟨gu,dd,x⟩:=d3.ex;have xl:=x.len;refine (aK _ rfl (aX sd gu rfl ⟨dd,λ l ds vs hl hp zm=>?_⟩));have s4:aE H3 (upd H3 l (.lst vs)):=È hl;have ut:upd H3 l (.lst vs) l=some (.lst vs):=aB;have V7:=dd.same s4;generalize upd H3 l (.lst vs)=H4 at s4 ut zm V7 ⊢;have yc:vs.length=gu.length:=by rw[zm.length,hp.length_eq,Ê]
    refine⟨l,rfl,⟨_,Ë ut⟩,fY (K:=K) (a:=l) (xs:=vs) (λ D i ys ad H'=>H4 D=none/\aE H4 H'/\H' D=some (.lst ys)/\ys=(List.replicate i true).map V.bl/\∃ u,ad=[u,some (.ref sd)])
     (λ D i r ad H' q=>Ë (q.2.1 _ _ ut)) (λ D hD=>⟨hD,È hD,aB,rfl,none,rfl⟩) ?_ ?_⟩
    ·rintro D r ad H5 ⟨jx,sm,iw,rfl,_⟩;refine (uS false D _ rfl ⟨Ë iw,?_⟩);rw[show (List.replicate vs.length true).all id=true by simp];exact k _ ((s3.trans s4).trans sm)
    ·rintro D i u r ad H5 hu ⟨jx,sm,iw,rfl,v,rfl⟩;have hi:=(Ò.mp hu).1;obtain⟨d,hd,Q2⟩:=zm.get' hu;obtain⟨k',j',⟨h1,h2⟩,rfl⟩:=x.key d (hp.mem_iff.mp (Ú hd));obtain⟨pa,zs,rfl,qp,lp⟩:=Q2.un;obtain⟨z1,r1,rfl,Q3,lp⟩:=lp.un;obtain⟨z2,r2,rfl,Be,lp⟩:=lp.un;have:=lp.un0;subst this;obtain rfl:=Q3.ui;obtain rfl:=Be.ui;refine eO ?_;refine⟨_,rfl,_,rfl,sd,JS,gu,iA k' j',_,rfl,V7.same sm,sO (sm.tup qp),x.val k' j' ⟨h1,h2⟩,iw,bU (by rw[Ê,Ĳ];lia),jx,sm.put jx,aB,?_,_,rfl⟩;rw[all1 k' j' h1 h2,List.replicate_succ',Ó];rfl
   | true=>
    refine iC ?_;refine⟨Jw P w K H rl sd M gj λ p' ag=>L7 M.length p'+(if ag=true then 1 else 0) < L7 M.length p+1,λ ad H' ⟨p',ag,w2,w3,w5,w6,h1,h2,h3,h4,h5,h6⟩=>⟨_,h5,p',ag,w2,w3,w5,w6,h1,h2,h3,h4,rfl,h6⟩,?_⟩;clear c3;obtain⟨gu,dd,x⟩:=d3.ex;refine (aK _ rfl (aX sd gu rfl ⟨dd,λ l ds vs hl hp zm=>?_⟩));have s4:aE H3 (upd H3 l (.lst vs)):=È hl;have ut:upd H3 l (.lst vs) l=some (.lst vs):=aB;have d4:=d3.same s4;have ZJ:l≠sd:=λ e=>by obtain⟨o,ho⟩:=dd.some;rw[<- e,hl] at ho;cases ho
    have mi:∀ d∈ds,∃ k j,(k < j/\j < M.length)/\d=iA k j:=λ d hd=>x.key d (hp.mem_iff.mp hd);have yp:∀ k j,k < j->j < M.length->iA k j∈ds:=λ k j h1 h2=>hp.mem_iff.mpr (sJ (x.val k j ⟨h1,h2⟩));clear x dd hp;have V8:=s3.trans s4;generalize upd H3 l (.lst vs)=H4 at s4 ut zm d4 V8 ⊢;have yc:vs.length=ds.length:=zm.length;refine⟨l,rfl,⟨_,Ë ut⟩,pJ (K:=K) (a:=l) (xs:=vs) (λ i ad H'=>∃ (p':Nat->Nat->Bool) (ag:Bool) (v2 v3 v5 v6:Option V),Jp P w K H sd l vs ds M p p' ag (∀ i' k j,i' < i->ds[i']? = some (iA k j)->p k j=false->∀ a,a<=gj->tK M p k j a) H'/\ad=[some (.ref rl),some (.ref sd),v2,v3,some (.bl ag),v5,v6])
     ⟨p,false,_,_,_,_,⟨V8,ut,zm,d4,λ _ _ h=>h,λ h=>(by cases h),λ _=>⟨rfl,λ i' k j h=>absurd h (ī _)⟩⟩,rfl⟩ (λ i ad H' _ h=>by obtain⟨_,_,_,_,_,_,⟨_,h,_⟩,_⟩:=h;exact Ë h) ?_ ?_⟩
    rotate_left
    ·rintro ad H5 zF;refine ĸ λ _ ŉ=>?_;obtain⟨p',ag,w2,w3,w5,w6,⟨s5,h1,h2,d5,mo,c1,c2⟩,rfl⟩:=zF;refine ŉ ?_;refine⟨p',ag,_,_,_,_,s5,d5,t3.mono mo,λ e k j a h1 h2 h3 h4=>?_,?_,rfl⟩
     ·obtain⟨rfl,c⟩:=c2 e;obtain⟨i',md⟩:=ĩ.1 (yp k j h1 h2);exact c i' k j (by have:=(Ò.mp md).1;lia) md h4 a h3
     ·cases ag with
      | false=>rw[(c2 rfl).1];simp
      | true=>
       obtain⟨k,j,z1,z2,z3,z4⟩:=c1 rfl;have:=NW mo z1 z2 z3 z4;simp;exact this
    rintro DD i - lq u ad H5 hu zF;refine ĸ λ _ ŉ=>?_;obtain⟨p',ag,w2,w3,w5,w6,⟨s5,Gh,Jy,d5,mo,c1,c2⟩,rfl⟩:=zF;refine ŉ ?_;have hi:=(Ò.mp hu).1;obtain⟨d,hd,Q2⟩:=Jy.get' hu;obtain⟨k',j',⟨h1,h2⟩,rfl⟩:=mi d (Ú hd);obtain⟨pa,zs,rfl,qp,lp⟩:=Q2.un;obtain⟨z1,r1,rfl,Q3,lp⟩:=lp.un;obtain⟨z2,r2,rfl,Be,lp⟩:=lp.un;have:=lp.un0;subst this;obtain rfl:=Q3.ui;obtain rfl:=Be.ui;refine⟨pa,_,rfl,qp,rfl,_,_,rfl,_,_,rfl,rfl,?_⟩;obtain⟨Q4,Mu,x5⟩:=d5.ex;refine (aK _ rfl (aK _ rfl (aK _ rfl ⟨(show 2<=sizeLine by decide),λ pt Cz=>?_⟩)));have s6:=È (o:=HO.tup [.int (k':Int),.int (j':Int)]) Cz;refine⟨sd,JS,Q4,iA k' j',(aK _ rfl ⟨Mu.same s6,sO (Ì aB),x5.val k' j' ⟨h1,h2⟩,(aK _ rfl ?_)⟩)⟩;have Ey:=Jy.mono s6.ts;have Q5:=s6 _ _ Gh;have d6:=d5.same s6;have xi:=s5.trans s6;generalize upd H5 pt (HO.tup [.int (k':Int),.int (j':Int)])=H6 at s6 Ey Q5 d6 xi ⊢;cases hpk:p' k' j' with
    | true=>
     refine fL ?_;refine lq _ _ ⟨p',ag,_,_,_,_,⟨xi,Q5,Ey,d6,mo,c1,λ e=>?_⟩,rfl⟩;obtain⟨rfl,c⟩:=c2 e;refine⟨rfl,λ i' k j md hk hf a ha=>?_⟩;rcases (show i' < i\/i'=i by lia) with z | rfl
     ·exact c i' k j z hk hf a ha
     ·rw[hd] at hk;obtain⟨rfl,rfl⟩:=vW (â hk);rw[hpk] at hf;cases hf
    | false=>
     refine iC ?_;have Q6:p k' j'=false:=by
      cases e:p k' j' with
      | false=>rfl
      | true=>rw[mo _ _ e] at hpk;cases hpk
     obtain⟨b,hb⟩:∃ b,M[k']? = some b:=⟨_,ä (by lia)⟩;obtain⟨c,hc⟩:∃ b,M[j']? = some b:=⟨_,ä (by lia)⟩;refine ĸ λ _ ŉ=>?_;obtain⟨uj,QY,rj,vj,rfl,Jx,Nc⟩:=Ĩ pr (gA hc);refine ŉ ?_;refine ĸ λ _ ŉ=>?_;obtain⟨uk,ZK,rk,vk,rfl,V9,Wa⟩:=Ĩ pr (gA hb);refine ŉ ?_;have ZL:vj.length=gj+1:=by rw[<- å Nc,Ê,Ć]
     have ZM:vk.length=gj+1:=by rw[<- å Wa,Ê,Ć]
     refine⟨_,rfl,_,rfl,.inl ⟨rl,us,(k':Int),.ref rk,rfl,rfl,Ë (xi _ _ nz),bN ZK,_,rfl,_,rfl,.inl ⟨rl,us,(j':Int),.ref rj,rfl,rfl,Ë (xi _ _ nz),bN QY,false,false,rk,rj,rfl,⟨_,Ë (xi _ _ V9)⟩,⟨_,Ë (xi _ _ Jx)⟩,?_⟩⟩⟩;refine yU (K:=K) (xs:=vk) (ys:=vj) (n:=gj+1) ZM ZL (λ t ad H'=>∃ (p':Nat->Nat->Bool) (ag:Bool) (v5 v6:Option V),Jp P w K H sd l vs ds M p p' ag ((∀ i' k j,i' < i->ds[i']? = some (iA k j)->p k j=false->∀ a,a<=gj->tK M p k j a)/\∀ a,a < t->tK M p k' j' a) H'/\ad=[some (.ref rl),some (.ref sd),some (.int (j':Int)),some (.int (k':Int)),some (.bl ag),v5,v6])
      (λ t ad H' h=>by obtain⟨_,_,_,_,⟨h,_⟩,_⟩:=h;exact⟨Ë (h _ _ V9),Ë (h _ _ Jx)⟩) ⟨p',ag,_,_,⟨xi,Q5,Ey,d6,mo,c1,λ e=>⟨(c2 e).1,(c2 e).2,λ a ha=>absurd ha (ī _)⟩⟩,rfl⟩ ?_ ?_
     ·rintro ad H7 zF;refine ĸ λ _ ŉ=>?_;obtain⟨p',ag,w5,w6,⟨s7,Ft,Ez,d7,mo,c1,c2⟩,rfl⟩:=zF;refine ŉ ?_;refine lq _ _ ⟨p',ag,_,_,_,_,⟨s7,Ft,Ez,d7,mo,c1,λ e=>?_⟩,rfl⟩;obtain⟨rfl,c,c'⟩:=c2 e;refine⟨rfl,λ i' k j md hk hf a ha=>?_⟩;rcases (show i' < i\/i'=i by lia) with z | rfl
      ·exact c i' k j z hk hf a ha
      ·rw[hd] at hk;obtain⟨rfl,rfl⟩:=vW (â hk);exact c' a (by lia)
     ·rintro t xk xj ad H7 Tt Wb ZN ⟨p',ag,w5,w6,⟨s7,Ft,Ez,d7,mo,c1,c2⟩,rfl⟩ ZO;have ve:=(Ò.mp Wb).1;obtain⟨z,hz,qk,rfl,Jz⟩:=ď Wa Wb;rw[Ð,ģ (by lia)] at hz;have lw:z=(aR M (eC b t),b [t]):=(â hz).symm;subst lw;clear hz;obtain⟨z,hz,qj,rfl,Ka⟩:=ď Nc ZN;rw[Ð,ģ (by lia)] at hz;have lw:z=(aR M (eC c t),c [t]):=(â hz).symm;subst lw;refine (aX Tt _ rfl ⟨Ì aB,rfl,(aX _ _ rfl (aX _ _ rfl ⟨rfl,?_⟩))⟩);have s8:=È (o:=HO.tup [.ref qk,.ref qj]) ZO;have Q7:=s8 _ _ Ft;have Fa:=Ez.mono s8.ts;have d8:=d7.same s8;have Kb:=s7.trans s8;generalize upd H7 Tt (HO.tup [.ref qk,.ref qj])=H8 at s8 Q7 Fa d8 Kb ⊢;have Jz:=Kb.tup Jz;have Ka:=Kb.tup Ka;have lk:=gT (mj b (Ú hb) t (by lia));have lj:=gT (mj c (Ú hc) t (by lia));refine⟨_,rfl,.inr (.inl ⟨qk,_,0,_,rfl,rfl,Jz,rfl,_,rfl,.inr (.inl ⟨qj,_,0,_,rfl,rfl,Ka,rfl,?_⟩)⟩)⟩;have Cn:∀ (Wc Wd:Option V) (H9:Hp),aE H H9->H9 l=some (.lst vs)->L2.IsL K H9 ds vs->Kv3 P w K H9 sd 40000 (Sn M) p'->tK M p' k' j' t->∃ (p':Nat->Nat->Bool) (We:Bool) (v5 v6:Option V),Jp P w K H sd l vs ds M p p' We ((∀ i' k j,i' < i->ds[i']? = some (iA k j)->p k j=false->∀ a,a<=gj->tK M p k j a)/\∀ a,a < t+1->tK M p k' j' a) H9/\[some (V.ref rl),some (.ref sd),some (.int (j':Int)),some (.int (k':Int)),some (.bl ag),Wc,Wd]=[some (.ref rl),some (.ref sd),some (.int (j':Int)),some (.int (k':Int)),some (.bl We),v5,v6]:=λ Wc Wd H9 q1 q2 q3 q4 q5=>by
       refine⟨p',ag,_,_,⟨q1,q2,q3,q4,mo,c1,λ e=>?_⟩,rfl⟩;obtain⟨rfl,c,c'⟩:=c2 e;refine⟨rfl,c,λ a ha=>?_⟩;rcases (show a < t\/a=t by lia) with z | rfl
       ·exact c' a z
       ·exact q5
      refine⟨rfl,(aK _ rfl ?_)⟩
      by_cases e:aR M (eC b t)=aR M (eC c t)
      ·rw[show (!decide (gN (aR M (eC b t),b [t]).fst=gN (aR M (eC c t),c [t]).fst))=false by rw[Bool.not_eq_false',decide_eq_true_iff];show gN _=gN _;rw[e]];refine fL (fL ?_);exact Cn _ _ _ Kb Q7 Fa d8 λ b' c' jq lz=>by rw[hb] at jq;rw[hc] at lz;cases jq;cases lz;exact .inl e
      rw[show (!decide (gN (aR M (eC b t),b [t]).fst=gN (aR M (eC c t),c [t]).fst))=true by rw[Bool.not_eq_true',decide_eq_false_iff_not];intro z;exact e (by have z:V.int _=V.int _:=z;injection z with z;lia)];refine iC ?_;obtain⟨Q8,ZP,x8⟩:=d8.ex;refine⟨_,rfl,_,rfl,.inr (.inl ⟨qk,_,0,_,rfl,rfl,Jz,rfl,_,rfl,.inr (.inl ⟨qj,_,0,_,rfl,rfl,Ka,rfl,_,_,rfl,?_⟩)⟩)⟩;refine⟨_,rfl,.inr (.inl ⟨qk,_,0,_,rfl,rfl,Jz,rfl,_,rfl,.inr (.inl ⟨qj,_,0,_,rfl,rfl,Ka,rfl,_,_,rfl,?_⟩)⟩)⟩;have mn:(if (aR M (eC c t):Int) < (aR M (eC b t):Int) then (aR M (eC c t):Int) else (aR M (eC b t):Int))=((min (aR M (eC b t)) (aR M (eC c t)):Nat):Int):=by split <;> lia
      have mx:(if (aR M (eC c t):Int) > (aR M (eC b t):Int) then (aR M (eC c t):Int) else (aR M (eC b t):Int))=((max (aR M (eC b t)) (aR M (eC c t)):Nat):Int):=by split <;> lia
      dsimp only;rw[mn,mx];refine⟨(show 2<=sizeLine by decide),λ pt Cz=>?_⟩;have s9:=È (o:=HO.tup [.int ((min (aR M (eC b t)) (aR M (eC c t)):Nat):Int),.int ((max (aR M (eC b t)) (aR M (eC c t)):Nat):Int)]) Cz;have ZQ:min (aR M (eC b t)) (aR M (eC c t)) < max (aR M (eC b t)) (aR M (eC c t))/\max (aR M (eC b t)) (aR M (eC c t)) < M.length:=by lia
      refine⟨sd,JS,Q8,iA (min (aR M (eC b t)) (aR M (eC c t))) (max (aR M (eC b t)) (aR M (eC c t))),(aK _ rfl ⟨ZP.same s9,sO (Ì aB),x8.val _ _ ZQ,(aK _ rfl ?_)⟩)⟩;have Q9:=s9 _ _ Q7;have Fb:=Fa.mono s9.ts;have d9:=d8.same s9;have Ra:=Kb.trans s9;generalize upd H8 pt _=H9 at s9 Q9 Fb d9 Ra ⊢;cases hpm:p' (min (aR M (eC b t)) (aR M (eC c t))) (max (aR M (eC b t)) (aR M (eC c t))) with
      | false=>
       refine fL ?_;exact Cn _ _ _ Ra Q9 Fb d9 λ b' c' jq lz=>by rw[hb] at jq;rw[hc] at lz;cases jq;cases lz;exact .inr hpm
      | true=>
       refine iC ?_;obtain⟨Rb,Wf,x9⟩:=d9.ex;refine (aK _ rfl (aK _ rfl (aK _ rfl ⟨(show 2<=sizeLine by decide),λ pu ZR=>?_⟩)));have kh:=È (o:=HO.tup [.int (k':Int),.int (j':Int)]) ZR;have l9:=x9.len;refine⟨sd,JS,Rb,iA k' j',rfl,Wf.same kh,sO (Ì aB),bU (by lia),λ ow Rc ZS=>?_⟩;have dm:=(Wf.same kh).mut;refine⟨CQ p' k' j',true,_,_,⟨Jv (Ra.trans kh) Rc,Rc _ _ ZJ (kh _ _ Q9),(Fb.mono kh.ts).mono (Rc.ts dm),⟨_,ZS,x9.put (p':=CQ p' k' j') ⟨h1,h2⟩ (by unfold CQ;rw[Å ⟨rfl,rfl⟩]) (λ _ _ h=>h) (λ x y h hn=>⟨h,by unfold CQ;rw[Ä hn]⟩) (by rw[FZ (by rw[x9.val k' j' ⟨h1,h2⟩];rfl)];exact l9)⟩,
        λ x y h=>?_,λ _=>⟨k',j',h1,h2,Q6,by unfold CQ;rw[Å ⟨rfl,rfl⟩]⟩,λ z=>(by cases z)⟩,rfl⟩
       unfold CQ
       split
       ·rfl
       ·exact mo x y h
end Tw
namespace HT
open PySem PySem.Spec PyProof.Rows L2
section
variable {prog:Ã}{A:Around}{E:À->Â->Prop}{s:Â}
theorem getItem_tuple_whole {t sl:Á}{items:Array À}{vl vu:À}{lo hi:Option Int}{Q:À->Â->Prop} (ht:IsTup s.heap t items) (hs:s.heap.IsSliceOf sl vl vu .none) (pl:IsPart vl lo) (pu:IsPart vu hi)
  (hw:sIx items.size 0 lo=0/\sIx items.size items.size hi=items.size) (h:Q (.ref t) s):wpAny (model prog w) A (getItem (.ref t) (.ref sl)) Q E s:=by
 obtain⟨os,Di,Lw,Gr⟩:=id hs;have Oj:s.TypeIs (.ref sl) "slice" := ⟨os,Di,Lw⟩;unfold getItem
 try with_reducible refine ð ?_
 first | refine Æ (É ?_) | skip
 refine Æ (wpAny_sequenceKey ht.typeIs (by decide) ?_);refine Æ (Ĭ (name:=Str.ofString "__getitem__") ht.typeIs Ź
  (ă Ź ht.typeIs entry_tuple_getitem ?_ (args_tuple_getitem _ _)))
 show wpAny _ _ (Builtin.Tuple.tupleItemsOf (.ref t) >>= _) _ _ s;refine Æ (tupleItemsOf_ ht ?_);refine Æ (Ś Oj ?_);rw[Å (by decide)];refine Æ (j3 hs pl pu ?_);have Re:(((sIx items.size 0 lo:Nat):Int) == 0 && (1:Int) == 1 && (sIx items.size items.size hi - sIx items.size 0 lo) == items.size)=true:=by
  rw[hw.1,hw.2];simp
 show wpAny _ _ (if (((sIx items.size 0 lo:Nat):Int) == 0 && (1:Int) == 1 && (sIx items.size items.size hi - sIx items.size 0 lo) == items.size)=true then _ else _) _ _ s;rw[Å Re];refine Æ ?_;refine Æ (m:=Builtin.Tuple.tupleIsExact (.ref t)) ?_;unfold Builtin.Tuple.tupleIsExact;refine Æ (Ś ht.typeIs (É ?_));refine É ?_;rw[Å (by decide)];refine Æ (õ ?_);refine É ?_;refine⟨_,rfl,É ?_⟩;exact h
end
end HT
namespace L2
open PySem
section
variable {X:Cx}
def LP (K:Ç):V->Option Int->Option Int->Hp->VK->Prop:=λ x lo hi H Q=>∃ a xs,x=.ref a/\bC K H a xs/\
 ((HT.sIx xs.length 0 lo=0/\HT.sIx xs.length xs.length hi=xs.length)->Q (.ref a) H)/\
 (¬ (HT.sIx xs.length 0 lo=0/\HT.sIx xs.length xs.length hi=xs.length)->∀ p,H p=none->Q (.ref p) (upd H p (.tup (nH xs lo hi))))
theorem vP (hK:X.K=K):PX X (LP K):=by
 subst hK;intro gi s σ H x v vl vu lo hi sl Q I rx hs pl pu h;obtain⟨a,xs,rfl,hx,q1,q2⟩:=h
 by_cases hw:HT.sIx xs.length 0 lo=0/\HT.sIx xs.length xs.length hi=xs.length
 ·have q1:=q1 hw;cases rx;obtain⟨its,r,ht,hz⟩:=I.tuple hx;have gy:its.toArray.size=xs.length:=by rw[ê];exact r.length.symm
  refine⟨"tuple",_,PyProof.Rows.slot_tuple_getitem.lookup,ht.typeIs,?_⟩;exact HT.getItem_tuple_whole ht hs pl pu (by rw[gy];exact hw) ⟨.ref a,H,I,rfl,q1⟩
 ·exact MS gi s σ H _ v vl vu lo hi sl Q I rx hs pl pu ⟨a,xs,rfl,hx,hw,q2 hw⟩
end
end L2
namespace Tw
open PySem L2
theorem Ext.sm {t sl:Á}{H H1 H2:Hp} (e:Ext t sl H H1) (s:aE H1 H2):Ext t sl H H2:=⟨e.bt.trans s.but,e.tp.same s⟩
theorem lC {K:Ç}{H:Hp}:∀ (n:Nat) {ds:List L2.D}{xs:List V},L2.IsL K H ds xs->L2.IsL K H (ds.take n) (xs.take n)
 | 0,_,_,_=>.nil
 | n+1,[],xs,h=>by
  have:=h.length;cases xs with
  | nil=>exact .nil
  | cons _ _=>simp at this
 | n+1,d::ds,xs,h=>by
  cases xs with
  | nil=>have:=h.length;simp at this
  | cons x xs=>
   rw[L2.IsL] at h;obtain⟨x1,r,e,h1,h2⟩:=h;cases e;exact .cons h1 (lC n h2)
theorem rL {K:Ç}{H:Hp}{a:Á}{xs:List V}{n:Nat}{Q:VK} (q:bC K H a xs) (k:∀ b H',aE H H'->bC K H' b (xs.take n)->Q (.ref b) H'):LP K (.ref a) none (some (n:Int)) H Q:=by
 refine (aX a xs rfl ⟨q,λ h=>?_,λ h p hp=>?_⟩)
 ·have h2:=h.2;rw[HT.sIx_nat] at h2;have e:xs.take n=xs:=Ġ (by lia);exact k a H (aE.refl H) (by rw[e];exact q)
 ·have e:nH xs none (some (n:Int))=xs.take n:=by
   unfold nH;rw[HT.sIx_none,HT.sIx_nat,aht,Nat.sub_zero];rcases Nat.le_total n xs.length with h | h
   ·rw[ų h]
   ·rw[agc h,Ù,Ġ h]
  rw[e];exact k p _ (È hp) (Ì aB)
def mI (s:xP):xP:=(s.1,s.2.1 % 2,s.2.2)
def pA (m:Nat) (as:List (Str×Int)):List (Str×Int):=as.filter λ a=>decide (a.2 < m)
theorem D0 {m:Nat}{as:List (Str×Int)}{j:Nat}{t':Str×Int} (si:as[j]? = some t'):pA m (as.take (j+1))=pA m (as.take j)++(if t'.2 < m then [t'] else []):=by
 unfold pA;rw[ĵ,si,agw];show _++List.filter _ [t']=_
 by_cases c:t'.2 < m
 ·rw[Å c,List.filter_cons_of_pos (by exact ò c)];rfl
 ·rw[Ä c,List.filter_cons_of_neg (by simpa using c)];rfl
def OO (m:Nat) (v:Vs):Vs:=⟨if 3 < v.size then 3 else v.size,(if 3 < v.size then 3 else v.size)+v.brim % 2,v.outs.take 2,v.holds,v.spill,(pA m v.acts).take 1⟩
def FM (gk:Net):Net:=⟨gk.vs.map (OO ((gk.sps.take 2).map mI).length),(gk.sps.take 2).map mI⟩
theorem JQ {gk:Net} (il:NetOk gk):NetOk (FM gk):=by
 refine⟨by show 1<=(gk.vs.map _).length;rw[Ê];exact il.lo,by show (gk.vs.map _).length<=12;rw[Ê];exact il.hi,?_,λ v hv=>?_,λ s hs=>?_⟩
 ·show ((gk.sps.take 2).map mI).length<=12;rw[Ê,Ø];lia
 ·obtain⟨u,hu,rfl⟩:=Õ.1 hv;have ok:=il.vs u hu;have el:(FM gk).vs.length=gk.vs.length:=by show (gk.vs.map _).length=_;rw[Ê]
  rw[el];have Qt:=ok.o3;have Wg:=ok.a3;refine⟨?_,?_,?_,λ o ho=>ok.outs o (Ĺ ho),ok.spill,?_,λ a ha=>?_⟩
  ·show 1<=if 3 < u.size then 3 else u.size
   have:=ok.size
   split <;> lia
  ·show u.outs.take 2≠[];have:=ok.ne;cases hq:u.outs with
   | nil=>exact absurd hq this
   | cons x r=>simp
  ·show (u.outs.take 2).length<=3;rw[Ø];lia
  ·show ((pA _ u.acts).take 1).length<=3;rw[Ø];lia
  ·have su:a∈pA ((gk.sps.take 2).map mI).length u.acts:=Ĺ ha;unfold pA at su;rw[List.mem_filter] at su;have vz:=ok.acts a su.1;exact⟨vz.word,vz.lo,ĕ su.2⟩
 ·obtain⟨u,hu,rfl⟩:=Õ.1 hs;have:=il.sps u (Ĺ hu);show 0<=u.1/\u.1 < ((gk.vs.map _).length:Int);rw[Ê];exact this
def vH (K:Ç):Sp:=λ args H Q _=>∃ (t sl:Á),args=[.ref t]/\fM H t sl/\∀ (gk:Net) p H',Ext t sl H H'->NetOk gk->gk.vs.length<=2->Is K H' (iG gk) p->Q p H'
def FH (K:Ç):Sp:=λ args H Q _=>∃ (t sl:Á),args=[.ref t]/\fM H t sl/\∀ (gk:Net) p H',Ext t sl H H'->NetOk gk->gk.vs.length<=2->gk.sps.length<=2->Is K H' (iG gk) p->Q p H'
theorem mP:FnScope ["tape","net","spouts","vessels","size","brim","outs","holds","spill","acts"] ["tape"] (aL (bW 39)):={}
theorem sC {f f1:Á}{fd ue:FuncData} (F:Fun K "_law_small" "_law_small" (bW 39) f fd) (T:Txt mg) (kw:Callee P w K mg base "_law_net" ["tape","most","small"] 4 (vL K) f1 ue) :
  FnOk P w K mg base kA 5 f fd ["tape"] (FH K):=by
 refine F.ok mP (λ vs H Q E h=>?_) (λ ja A outer s H vs Q E hr h=>?_)
 ·obtain⟨t,sl,rfl,_⟩:=h;rfl
 ·obtain⟨t,sl,rfl,tp,k⟩:=h;have sc:=mP;refine⟨_,(aD (pL 1 sc.nd (eX kw hr (aA (pv 0) (aA aF (aA eA aC)))))
   (aD (eF (i:=2) sc.nd rfl (Or.inr rfl) (aW (bI (K:=K) rfl) rfl T.b_tuple bQ (aA (eW (λ _ _ h=>h) rfl (LcOk.mk (N':=["target","flow","is_open"]) (fr:=[none,none,none]) rfl trivial rfl rfl rfl rfl rfl trivial) (eG (K:=K) rfl (kY (vP (K:=K) rfl) (px K (pv 1) aF) o9 (o8 aF))) (λ _ _ _=>(bA (K:=K) (n:=3) rfl rfl (aG (gC 0 ["target","flow","is_open"]) (aG (gC 1 ["target","flow","is_open"]) (aG (gC 2 ["target","flow","is_open"]) aZ))))) (λ _ _ _=>bS) (λ _ _ _=>(aU (aA (pv 0) (aA (aS kZ (pv 1) aF) (aA (pv 2) aC)))))) aC)))
   (aD (pL 3 sc.nd (bM aC))
   (aD (cX ï rfl (eG (K:=K) rfl (px K (pv 1) aF)) (bA (K:=K) (n:=6) rfl rfl (aG (gL 4 sc.nd) (aG (gL 5 sc.nd) (aG (gL 6 sc.nd) (aG (gL 7 sc.nd) (aG (gL 8 sc.nd) (aG (gL 9 sc.nd) aZ))))))) (aD (pL 9 sc.nd (aW (bI (K:=K) rfl) rfl T.b_tuple bQ (aA (eW (λ _ _ h=>h) rfl (LcOk.mk (N':=["act","spouts"]) (fr:=[none,some 2]) rfl ⟨rfl,trivial⟩ rfl rfl rfl rfl rfl ⟨⟨_,rfl,rfl,rfl,rfl⟩,trivial⟩) (eG (K:=K) rfl (pv 9)) (λ _ _ _=>(gC 0 ["act","spouts"])) (λ _ _ _=>vX (bF oB (px K (pv 0) aF) (pC K T.b_len (pv 1)) (bH _))) (λ _ _ _=>(pv 0))) aC)))
   (aI (cZ (eJ (K:=K) rfl ù Ċ ċ cE (pv 3) (aA (aU (aA (bB (mB rfl) rfl T.b_min aez (aA (pv 4) (aA aF aC))) (aA (aS cB (bB (mB rfl) rfl T.b_min aez (aA (pv 4) (aA aF aC))) (aS kZ (pv 5) aF)) (aA (kY (vP (K:=K) rfl) (pv 6) o9 (o8 aF)) (aA (pv 7) (aA (pv 8) (aA (kY (vP (K:=K) rfl) (pv 9) o9 (o8 aF)) aC))))))) aC))))))
   (aI (bG (aU (aA (aW (bI (K:=K) rfl) rfl T.b_tuple bQ (aA (pv 3) aC)) (aA (pv 2) aC))))))))),?_⟩
  refine (aK _ rfl (iF t sl 2 true rfl ⟨by decide,by decide,tp,λ gk x H1 e1 il nfu As hx=>?_⟩));refine ĸ λ _ ŉ=>?_;obtain⟨ax,av,as,xs,ys,rfl,qx,qv,lv,qs,ls⟩:=gO hx;refine ŉ ?_;have nt:xs.length=gk.vs.length:=by rw[lv.length,Ê]
  have An:ys.length=gk.sps.length:=by rw[ls.length,Ê]
  have n2:gk.vs.length<=2:=by lia
  refine⟨_,rfl,.inr (.inl ⟨ax,_,1,_,rfl,rfl,qx,rfl,_,rfl,rL (n:=2) qs λ b H2 s2 q2=>?_⟩)⟩;have l2:L2.IsL K H2 ((gk.sps.take 2).map xN) (ys.take 2):=by
   rw[ahf];exact lC 2 (Ö s2.ts _ _ ls)
  refine⟨b,rfl,⟨_,q2⟩,iW (K:=K) (a:=b) (xs:=ys.take 2) (λ D i r ad H'=>H2 D=none/\aE H2 H'/\H' D=some (.lst r)/\L2.IsL K H' ((((gk.sps.take 2).take i).map mI).map xN) r/\∃ u1 u2 u3,ad=[u1,u2,u3])
   (λ D i r ad H' p=>p.2.1.tup q2) (λ D hD=>⟨hD,È hD,aB,.nil,none,none,none,rfl⟩) ?_ ?_⟩
  rotate_left
  ·rintro D i y r ad H3 hy zF;refine ĸ λ _ ŉ=>?_;obtain⟨hD,sm,iw,lr,u1,u2,u3,rfl⟩:=zF;refine ŉ ?_;obtain⟨sp,ke,sa,rfl,ZT⟩:=oY l2 hy;have hil:=(Ò.mp ke).1;refine (aX sa _ rfl ⟨sm.tup ZT,rfl,(aX _ _ rfl (aX _ _ rfl (aX _ _ rfl ⟨rfl,?_⟩)))⟩);refine fI ?_;refine (aK _ rfl (aK _ rfl (aX _ _ rfl ⟨rfl,(show (0:Int) < 2 by decide),(aK _ rfl ⟨(show 3<=sizeLine by decide),λ e he=>?_⟩)⟩)));have m1:=È (o:=HO.tup [.int sp.1,.int (sp.2.1 % 2),.bl sp.2.2]) he;have i1:Is K (upd H3 e (.tup [.int sp.1,.int (sp.2.1 % 2),.bl sp.2.2])) (xN (mI sp)) (.ref e):=Ô (ds:=[.int sp.1,.int (sp.2.1 % 2),.bl sp.2.2]) (Ì aB) (.cons (è _) (.cons (è _) (.cons (Is.b _) .nil)));generalize upd H3 e (.tup [.int sp.1,.int (sp.2.1 % 2),.bl sp.2.2])=H4 at m1 i1 ⊢;have mw:=m1 _ _ iw;have Db:mH (H4 D):=by rw[mw];exact trivial
   have lf:r.length<=12:=by rw[lr.length,Ê,Ê,Ø,Ø];lia
   refine⟨mw,aY (by lia),hD,(sm.trans m1).put hD,aB,?_,_,_,_,rfl⟩;rw[ĵ,ke,Ó,Ó];exact ė (Ï (ö ç Db) _ _ i1) (Ö (m1.ts.trans (ö ç Db)) _ _ lr)
  rintro D1 r1 ad H3 ⟨QF,oz,Rf,Au,_⟩;rw[show (ys.take 2).length=(gk.sps.take 2).length by rw[Ø,Ø,An],Ù] at Au;refine (aX D1 _ rfl (.inl ⟨Ë Rf,λ p1 Rg=>?_⟩));have m3:=È (o:=HO.tup r1) Rg;have t3:bC K (upd H3 p1 (.tup r1)) p1 r1:=Ì aB;generalize upd H3 p1 (.tup r1)=H4 at m3 t3 ⊢;have sj:=(s2.trans oz).trans m3;have ZU:=Ö m3.ts _ _ Au;have Rh:r1.length=((gk.sps.take 2).map mI).length:=by rw[Au.length,Ê]
  refine⟨æ _,λ D hD=>?_⟩;have s5:=È (o:=HO.lst []) hD;have g5:upd H4 D (.lst []) D=some (.lst []):=aB;have fD:H4 D=none:=hD;generalize upd H4 D (.lst [])=H5 at s5 g5 ⊢;have fD1:H1 D=none:=sj.free fD;refine⟨_,rfl,.inr (.inl ⟨ax,_,0,_,rfl,rfl,(sj.trans s5).tup qx,rfl,av,rfl,⟨_,(sj.trans s5).tup qv⟩,oO (K:=K) (a:=av) (xs:=xs) (λ i ad H'=>aE H4 H'/\(∃ rr,H' D=some (.lst rr)/\L2.IsL K H' (((gk.vs.take i).map (OO ((gk.sps.take 2).map mI).length)).map qK) rr)/\
   ∃ v4 v5 v6 v7 v8 v9,ad=[some (.ref t),some (.ref ax),some (.ref p1),some (.ref D),v4,v5,v6,v7,v8,v9]) ?_ ?_ ?_ ?_⟩)⟩
  ·exact⟨s5,⟨[],g5,.nil⟩,_,_,_,_,_,_,rfl⟩
  ·rintro i ad H' _ ⟨s6,_⟩;exact (sj.trans s6).tup qv
  ·rintro DD i - lq y ad H6 hy zF;refine ĸ λ _ ŉ=>?_;obtain⟨s6,⟨rr,iw,yi⟩,v4,v5,v6,v7,v8,v9,rfl⟩:=zF;refine ŉ ?_;obtain⟨dv,Kc,Ri⟩:=lv.get' hy;rw[Ð] at Kc;obtain⟨v,hv,rfl⟩:=ó.mp Kc;have sv:=il.vs v (Ú hv);have hil:=(Ò.mp hv).1;have zw:=sj.trans s6;refine ĸ λ _ ŉ=>?_;obtain⟨a,o,c,rfl,q,io,ic⟩:=uB (Ï zw.ts _ _ Ri);refine ŉ ?_;obtain⟨oa,os,rfl,qo,lo⟩:=io.un;obtain⟨ca,cs,rfl,qc,lc⟩:=ic.un;have Rj:cs.length=v.acts.length:=by rw[lc.length,Ê]
   have Wg:=sv.a3;refine⟨a,_,rfl,q,rfl,_,_,rfl,_,_,rfl,_,_,rfl,_,_,rfl,_,_,rfl,_,_,rfl,rfl,?_⟩;dsimp only [iZ];refine⟨_,rfl,ca,rfl,⟨_,qc⟩,iW (K:=K) (a:=ca) (xs:=cs) (λ E i r ad H'=>H6 E=none/\aE H6 H'/\H' E=some (.lst r)/\L2.IsL K H' ((pA ((gk.sps.take 2).map mI).length (v.acts.take i)).map qJ) r/\∃ u1,ad=[u1,some (.ref p1)])
    (λ E i r ad H' p=>p.2.1.tup qc) (λ E hE=>⟨hE,È hE,aB,.nil,none,rfl⟩) ?_ ?_⟩
   rotate_left
   ·rintro E j z r ad H7 hz ⟨hE,sm,Av,lr,u1,rfl⟩;obtain⟨t',si,ta,rfl,qt⟩:=qX lc hz;have Jb:=(Ò.mp si).1;have Wh:pA ((gk.sps.take 2).map mI).length (v.acts.take (j+1))=pA ((gk.sps.take 2).map mI).length (v.acts.take j)++(if t'.2 < ((gk.sps.take 2).map mI).length then [t'] else []):=D0 si;have lf:r.length<=12:=by
     rw[lr.length,Ê];have:=List.length_filter_le (λ a:Str×Int=>decide (a.2 < ((gk.sps.take 2).map mI).length)) (v.acts.take j);unfold pA;rw[Ø] at this;lia
    refine (aK _ rfl (.inr (.inl (iF ta _ 1 _ rfl ⟨rfl,sm.tup qt,rfl,(aK _ rfl (aX p1 r1 rfl ⟨.inr ((s6.trans sm).tup t3),(aX _ _ rfl ⟨rfl,(aK _ rfl (gX (λ hT=>?_) λ hN=>?_))⟩)⟩))⟩))))
    ·have hT:t'.2 < (r1.length:Int):=by simpa using hT
     rw[Rh] at hT;refine (aK _ rfl ⟨Av,aY (by lia),hE,sm.put hE,aB,?_,_,rfl⟩);have zx:mH (H7 E):=by rw[Av];exact trivial
     rw[Wh,Å hT,Ó];refine ė (Ï (ö ç zx) _ _ ?_) (Ö (ö ç zx) _ _ lr);exact Ô (ds:=[.str t'.1,.int t'.2]) (sm.tup qt) (.cons (Is.s _) (.cons (è _) .nil))
    ·have hN:¬ t'.2 < (r1.length:Int):=by simpa using hN
     rw[Rh] at hN;refine⟨hE,sm,Av,?_,_,rfl⟩;rw[Wh,Ä hN,Ģ];exact lr
   rintro E1 r2 ad H7 ⟨Wi,Bq,zy,Kd,_⟩;rw[Rj,Ù] at Kd;refine (aX E1 _ rfl (.inl ⟨Ë zy,λ p2 Cq=>?_⟩));have m8:=È (o:=HO.tup r2) Cq;have t8:bC K (upd H7 p2 (.tup r2)) p2 r2:=Ì aB;generalize upd H7 p2 (.tup r2)=H8 at m8 t8 ⊢;have om:=Bq.trans m8;have Aa:=om _ _ iw;refine (aK _ rfl ⟨.inl ⟨rfl,_,Ë Aa⟩,?_⟩);refine (aK _ rfl (aX _ _ rfl (aK _ rfl (aX _ _ rfl (aK _ rfl (aX _ _ rfl ⟨rfl,(show (0:Int) < 2 by decide),(aX _ _ rfl ⟨rfl,(aK _ rfl (aK _ rfl (rL (n:=2) (om.tup qo) λ b9 H9 s9 q9=>?_)))⟩)⟩))))));refine (aK _ rfl (aK _ rfl (aK _ rfl (aK _ rfl (rL (n:=1) (s9.tup t8) λ Rk kf kh Dp=>⟨(show 6<=sizeLine by decide),λ p hp=>?_⟩)))));have yj:=È (o:=HO.tup [.int (if 3 < v.size then 3 else v.size),.int ((if 3 < v.size then 3 else v.size)+v.brim % 2),.ref b9,.bl v.holds,iN v.spill,.ref Rk]) hp;have Wj:bC K (upd kf p (.tup [.int (if 3 < v.size then 3 else v.size),.int ((if 3 < v.size then 3 else v.size)+v.brim % 2),.ref b9,.bl v.holds,iN v.spill,.ref Rk])) p _:=Ì aB;generalize upd kf p (.tup [.int (if 3 < v.size then 3 else v.size),.int ((if 3 < v.size then 3 else v.size)+v.brim % 2),.ref b9,.bl v.holds,iN v.spill,.ref Rk])=ow at yj Wj ⊢;have uh:=(s9.trans kh).trans yj;have ul:=uh _ _ Aa;have lf:rr.length<=12:=by
    rw[yi.length,Ê,Ê,Ø];have:=il.hi;lia
   refine (uS D rr _ rfl ⟨rfl,ul,aY (by lia),?_⟩);have Db:mH (ow D):=by rw[ul];exact trivial
   refine lq _ _ ⟨((s6.trans om).trans uh).put fD,⟨_,aB,?_⟩,_,_,_,_,_,_,rfl⟩;rw[show gk.vs.take (i+1)=gk.vs.take i++[v] by rw[ĵ,hv];rfl,Ó,Ó];refine ė (Ï (ö ç Db) _ _ ?_) (Ö ((om.trans uh).ts.trans (ö ç Db)) _ _ yi);have ZV:L2.IsL K ow ((v.outs.take 2).map outD) (os.take 2):=by
    rw[ahf];exact lC 2 (Ö (om.trans uh).ts _ _ lo)
   have ZW:L2.IsL K ow (((pA ((gk.sps.take 2).map mI).length v.acts).take 1).map qJ) (r2.take 1):=by
    rw[ahf];exact lC 1 (Ö (m8.trans uh).ts _ _ Kd)
   exact Ô (ds:=[.int (if 3 < v.size then 3 else v.size),.int ((if 3 < v.size then 3 else v.size)+v.brim % 2),.tup ((v.outs.take 2).map outD),.bl v.holds,EV v.spill,.tup (((pA ((gk.sps.take 2).map mI).length v.acts).take 1).map qJ)]) Wj
    (.cons (è _) (.cons (è _) (.cons (Ô ((kh.trans yj).tup q9) ZV) (.cons (Is.b _) (.cons (Ő _) (.cons (Ô (yj.tup Dp) ZW) .nil))))))
  ·rintro ad H6 zF;refine ĸ λ _ ŉ=>?_;obtain⟨s6,⟨rr,iw,yi⟩,v4,v5,v6,v7,v8,v9,rfl⟩:=zF;refine ŉ ?_;rw[nt,Ù] at yi;refine (aK _ rfl (aX D _ rfl (.inl ⟨Ë iw,λ p2 Cq=>(aK _ rfl ⟨(show 2<=sizeLine by decide),λ p hp=>?_⟩)⟩)));have m7:=È (o:=HO.tup rr) Cq;have t7:bC K (upd H6 p2 (.tup rr)) p2 rr:=Ì aB;generalize upd H6 p2 (.tup rr)=H7 at m7 t7 hp ⊢;have m8:=È (o:=HO.tup [.ref p2,.ref p1]) hp;refine k (FM gk) _ _ (e1.sm (((sj.trans s6).trans m7).trans m8)) (JQ il) (by show (gk.vs.map _).length<=2;rw[Ê];exact n2) (by show ((gk.sps.take 2).map mI).length<=2;rw[Ê,Ø];lia) ?_;exact Ô (ds:=[.tup ((FM gk).vs.map qK),.tup ((FM gk).sps.map xN)]) (Ì aB) (.cons (Ô (m8.tup t7) (Ö (m7.trans m8).ts _ _ yi)) (.cons (Ô (((s6.trans m7).trans m8).tup t3) (Ö ((s6.trans m7).trans m8).ts _ _ ZU)) .nil))
theorem tR {f f1:Á}{fd ue:FuncData} (F:Fun K "_law_small" "_law_small" (bW 39) f fd) (T:Txt mg) (kw:Callee P w K mg base "_law_net" ["tape","most","small"] 4 (vL K) f1 ue) :
  FnOk P w K mg base kA 5 f fd ["tape"] (vH K):=
 (sC F T kw).imp λ vs H Q E ⟨t,sl,e,tp,k⟩=>⟨t,sl,e,tp,λ gk p H' e n1 n2 _ i=>k gk p H' e n1 n2 i⟩
theorem yR {K:Ç}{H:Hp}:∀ (n:Nat) {ds:List L2.D}{xs:List V},L2.IsL K H ds xs->L2.IsL K H (ds.drop n) (xs.drop n)
 | 0,_,_,h=>h
 | n+1,[],xs,h=>by
  have:=h.length;cases xs with
  | nil=>exact .nil
  | cons _ _=>simp at this
 | n+1,d::ds,xs,h=>by
  cases xs with
  | nil=>have:=h.length;simp at this
  | cons x xs=>
   rw[L2.IsL] at h;obtain⟨x1,r,e,h1,h2⟩:=h;cases e;exact yR n h2
theorem oK {K:Ç}{H:Hp}:∀ {ds es:List L2.D}{xs ys:List V},L2.IsL K H ds xs->L2.IsL K H es ys->L2.IsL K H (ds++es) (xs++ys)
 | [],es,xs,ys,h,h2=>by
  have:=h.length;cases xs with
  | nil=>exact h2
  | cons _ _=>simp at this
 | d::ds,es,xs,ys,h,h2=>by
  cases xs with
  | nil=>have:=h.length;simp at this
  | cons x xs=>
   rw[L2.IsL] at h;obtain⟨x1,r,e,h1,h3⟩:=h;cases e;exact .cons h1 (oK h3 h2)
theorem wO {K:Ç}{H:Hp}{d:L2.D}{x:V}:∀ (n:Nat),Is K H d x->L2.IsL K H (List.replicate n d) (List.replicate n x)
 | 0,_=>.nil
 | n+1,h=>.cons h (wO n h)
theorem sU (v:V):∀ n:Nat,(List.replicate n [v]).flatten=List.replicate n v
 | 0=>rfl
 | n+1=>by rw[ĭ,ĭ,œ,sU v n];rfl
theorem IK (xs:List V) (n:Nat):nH xs none (some (n:Int))=xs.take n:=by
 unfold nH;rw[HT.sIx_none,HT.sIx_nat,aht,Nat.sub_zero];rcases Nat.le_total n xs.length with h | h
 ·rw[ų h]
 ·rw[agc h,Ù,Ġ h]
theorem IL (xs:List V) (n:Nat):nH xs (some (n:Int)) none=xs.drop n:=by
 unfold nH;rw[HT.sIx_none,HT.sIx_nat];rcases Nat.le_total n xs.length with h | h
 ·rw[ų h,Ġ (by rw[Ņ];lia)]
 ·rw[agc h,ahq,Ř,List.drop_of_length_le h]
def tY (t sh:Int):Int:=if t=0 then 0 else t+sh
def jX (t:Option Int) (sh:Int):Option Int:=t.map λ t=>tY t sh
def JI (sh:Int) (o:Option Int×Int):Option Int×Int:=(jX o.1 sh,o.2)
def JK (sp:Int) (a:Str×Int):Str×Int:=(a.1,a.2+sp)
def JH (sh sp:Int) (v:Vs):Vs:=⟨v.size,v.brim,v.outs.map (JI sh),v.holds,jX v.spill sh,v.acts.map (JK sp)⟩
def CN (sh:Int) (s:xP):xP:=(tY s.1 sh,s.2)
def iD:Vs:=⟨2,3,[(some 0,1)],false,none,[]⟩
def kI (gk:Net):List Vs:=gk.vs.map (JH (12 - gk.vs.length) (12 - gk.sps.length))
def vB (gk:Net):Net:=⟨(kI gk).take 1++List.replicate (12 - gk.vs.length) iD++(kI gk).drop 1,List.replicate (12 - gk.sps.length) (0,0,true)++gk.sps.map (CN (12 - gk.vs.length))⟩
theorem nO {gk:Net} (il:NetOk gk):(vB gk).vs.length=12:=by
 have:=il.lo;have:=il.hi;show (_++_++_:List Vs).length=12;rw[à,à,Ø,Ņ,Ĳ];unfold kI;rw[Ê];lia
theorem xQ {gk:Net} (il:NetOk gk):(vB gk).sps.length=12:=by
 have:=il.sp;show (_++_:List xP).length=12;rw[à,Ĳ,Ê];lia
theorem wR {t sh:Int}{n:Nat} (hn:n<=12) (h0:0<=t) (h1:t < n) (hs:sh=12 - n):0<=tY t sh/\tY t sh < 12:=by
 unfold tY
 split <;> lia
theorem JJ {gk:Net} (il:NetOk gk):NetOk (vB gk):=by
 have hi:=il.hi;have lo:=il.lo;have hs:=il.sp;refine⟨by rw[nO il];decide,by rw[nO il];decide,by rw[xQ il];decide,λ v hv=>?_,λ s sr=>?_⟩
 ·rw[nO il,xQ il];have Ct:v∈kI gk\/v=iD:=by
   have ZX:v∈(kI gk).take 1++List.replicate (12 - gk.vs.length) iD++(kI gk).drop 1:=hv;rcases ñ.1 ZX with h | h
   ·rcases ñ.1 h with h | h
    ·exact .inl (Ĺ h)
    ·exact .inr (ag8 h)
   ·exact .inl (List.mem_of_mem_drop h)
  rcases Ct with h | rfl
  ·unfold kI at h;obtain⟨u,hu,rfl⟩:=Õ.1 h;have ok:=il.vs u hu;refine⟨ok.size,λ z=>ok.ne (List.map_eq_nil_iff.1 z),by show (u.outs.map _).length<=3;rw[Ê];exact ok.o3,λ o ho=>?_,λ t ht=>?_,by show (u.acts.map _).length<=3;rw[Ê];exact ok.a3,λ a ha=>?_⟩
   ·obtain⟨o',ni,rfl⟩:=Õ.1 ho;have sw:=ok.outs o' ni;refine⟨λ t ht=>?_,sw.lo,sw.hi⟩;have si:jX o'.1 (12 - gk.vs.length)=some t:=ht;unfold jX at si;obtain⟨t0,e1,rfl⟩:=ó.mp si;obtain⟨h0,h1⟩:=sw.tg t0 e1;exact wR hi h0 h1 rfl
   ·have si:jX u.spill (12 - gk.vs.length)=some t:=ht;unfold jX at si;obtain⟨t0,e1,rfl⟩:=ó.mp si;obtain⟨h0,h1⟩:=ok.spill t0 e1;exact wR hi h0 h1 rfl
   ·obtain⟨a',su,rfl⟩:=Õ.1 ha;have sw:=ok.acts a' su;have h0:=sw.lo;have h1:=sw.hi;refine⟨sw.word,?_,?_⟩
    ·show 0<=a'.2+(12 - (gk.sps.length:Int));lia
    ·show a'.2+(12 - (gk.sps.length:Int)) < 12;lia
  ·refine⟨by decide,by decide,by decide,λ o ho=>?_,(λ t ht=>by cases ht),by decide,(λ a ha=>by cases ha)⟩;have:o=(some 0,1):=by simpa [iD] using ho
   subst this;exact⟨λ t ht=>by cases ht;exact⟨by decide,by decide⟩,by decide,by decide⟩
 ·rw[nO il];have ur:s∈List.replicate (12 - gk.sps.length) ((0,0,true):xP)++gk.sps.map (CN (12 - gk.vs.length)):=sr;rcases ñ.1 ur with h | h
  ·rw[ag8 h];exact⟨by decide,by decide⟩
  ·obtain⟨u,hu,rfl⟩:=Õ.1 h;obtain⟨h0,h1⟩:=il.sps u hu;exact wR hi h0 h1 rfl
def FL (K:Ç):Sp:=λ args H Q _=>∃ (t:Option Int) (sh:Int),args=[iN t,.int sh]/\Q (iN (jX t sh)) H
theorem kT:FnScope ["target","shift"] ["target","shift"] (aL (bW 40)):={}
theorem sE {f:Á}{fd:FuncData} (F:Fun K "_law_far_on" "_law_far_on" (bW 40) f fd) (T:Txt mg):FnOk P w K mg base kA 1 f fd ["target","shift"] (FL K):=by
 refine F.ok kT (λ vs H Q E h=>?_) (λ ja A outer s H vs Q E hr h=>?_)
 ·obtain⟨t,sh,rfl,_⟩:=h;rfl
 ·obtain⟨t,sh,rfl,k⟩:=h;have sc:=kT;refine⟨_,(aD (dA (PW.pt (q0 (bF A0 (pv 0) fU (bH _)) (pB (bF mR (pv 0) aF (bH _))))) (aI (bG (pv 0))) bK)
   (aI (bG (aS cB (pv 0) (pv 1))))),?_⟩
  cases t with
  | none=>
   refine (aK _ rfl ⟨rfl,(aK _ rfl (iC (iC (aK _ rfl k))))⟩)
  | some t=>
   refine (aK _ rfl ⟨rfl,(aK _ rfl (fL ?_))⟩)
   by_cases c:t=0
   ·subst c;refine (aK _ rfl ⟨rfl,(aK _ rfl (gX (λ _=>(aK _ rfl k)) λ h=>absurd (by decide) h))⟩)
   ·refine (aK _ rfl ⟨rfl,(aK _ rfl (gX (λ h=>absurd h ?_) λ _=>(aK _ rfl (aK _ rfl (aX _ _ rfl ⟨rfl,?_⟩)))))⟩)
    ·intro z;have:V.int t=V.int 0:=ĕ z;injection this with z;exact c z
    ·have e:jX (some t) sh=some (t+sh):=by show some (tY t sh)=_;unfold tY;rw[Ä c]
     rw[e] at k;exact k
def zR (K:Ç):Sp:=λ args H Q _=>∃ (x:V) (gk:Net),args=[x]/\Is K H (iG gk) x/\NetOk gk/\∀ p H',aE H H'->Is K H' (iG (vB gk)) p->Q p H'
theorem nX:FnScope ["net","shift","spouts","idle","vessels","size","brim","outs","holds","spill","acts","flows"] ["net"] (aL (bW 41)):={}
theorem wD {f f1:Á}{fd ue:FuncData} (F:Fun K "_law_wide" "_law_wide" (bW 41) f fd) (T:Txt mg) (js:Callee P w K mg base "_law_far_on" ["target","shift"] 1 (FL K) f1 ue) :
  FnOk P w K mg base kA 2 f fd ["net"] (zR K):=by
 refine F.ok nX (λ vs H Q E h=>?_) (λ ja A outer s H vs Q E hr h=>?_)
 ·obtain⟨x,gk,rfl,_⟩:=h;rfl
 ·obtain⟨x,gk,rfl,hx,il,k⟩:=h;have sc:=nX;refine⟨_,(aD (eF (i:=1) sc.nd rfl (Or.inr rfl) (aS iB aF (pC K T.b_len (px K (pv 0) aF))))
   (aD (eF (i:=2) sc.nd rfl (Or.inr rfl) (aS iB aF (pC K T.b_len (px K (pv 0) aF))))
   (aD (pL 3 sc.nd (aU (aA aF (aA aF (aA (aU (aA (aU (aA aF (aA aF aC))) aC)) (aA eA (aA fU (aA (aU aC) aC))))))))
   (aD (pL 4 sc.nd (bM aC))
   (aD (cX ï rfl (eG (K:=K) rfl (px K (pv 0) aF)) (bA (K:=K) (n:=6) rfl rfl (aG (gL 5 sc.nd) (aG (gL 6 sc.nd) (aG (gL 7 sc.nd) (aG (gL 8 sc.nd) (aG (gL 9 sc.nd) (aG (gL 10 sc.nd) aZ))))))) (aD (pL 7 sc.nd (aW (bI (K:=K) rfl) rfl T.b_tuple bQ (aA (eW (λ _ _ h=>h) rfl (LcOk.mk (N':=["target","parts","shift"]) (fr:=[none,none,some 1]) rfl ⟨rfl,trivial⟩ rfl rfl rfl rfl rfl ⟨⟨_,rfl,rfl,rfl,rfl⟩,trivial⟩) (eG (K:=K) rfl (pv 7)) (λ _ _ _=>(bA (K:=K) (n:=2) rfl rfl (aG (gC 0 ["target","parts","shift"]) (aG (gC 1 ["target","parts","shift"]) aZ)))) (λ _ _ _=>bS) (λ _ _ _=>(aU (aA (eX js hr (aA (pv 0) (aA (pv 2) aC))) (aA (pv 1) aC))))) aC)))
   (aD (pL 10 sc.nd (aW (bI (K:=K) rfl) rfl T.b_tuple bQ (aA (eW (λ _ _ h=>h) rfl (LcOk.mk (N':=["word","spout","spouts"]) (fr:=[none,none,some 2]) rfl ⟨rfl,trivial⟩ rfl rfl rfl rfl rfl ⟨⟨_,rfl,rfl,rfl,rfl⟩,trivial⟩) (eG (K:=K) rfl (pv 10)) (λ _ _ _=>(bA (K:=K) (n:=2) rfl rfl (aG (gC 0 ["word","spout","spouts"]) (aG (gC 1 ["word","spout","spouts"]) aZ)))) (λ _ _ _=>bS) (λ _ _ _=>(aU (aA (pv 0) (aA (aS cB (pv 1) (pv 2)) aC))))) aC)))
   (aI (cZ (eJ (K:=K) rfl ù Ċ ċ cE (pv 4) (aA (aU (aA (pv 5) (aA (pv 6) (aA (pv 7) (aA (pv 8) (aA (eX js hr (aA (pv 9) (aA (pv 1) aC))) (aA (pv 10) aC))))))) aC)))))))
   (aD (pL 11 sc.nd (aW (bI (K:=K) rfl) rfl T.b_tuple bQ (aA (eW (λ _ _ h=>h) rfl (LcOk.mk (N':=["target","flow","is_open","shift"]) (fr:=[none,none,none,some 1]) rfl ⟨rfl,trivial⟩ rfl rfl rfl rfl rfl ⟨⟨_,rfl,rfl,rfl,rfl⟩,trivial⟩) (eG (K:=K) rfl (px K (pv 0) aF)) (λ _ _ _=>(bA (K:=K) (n:=3) rfl rfl (aG (gC 0 ["target","flow","is_open","shift"]) (aG (gC 1 ["target","flow","is_open","shift"]) (aG (gC 2 ["target","flow","is_open","shift"]) aZ))))) (λ _ _ _=>bS) (λ _ _ _=>(aU (aA (eX js hr (aA (pv 0) (aA (pv 3) aC))) (aA (pv 1) (aA (pv 2) aC)))))) aC)))
   (aI (bG (aU (aA (aS (lP (K:=K) rfl) (aS (lP (K:=K) rfl) (aW (bI (K:=K) rfl) rfl T.b_tuple bQ (aA (kY (xX (K:=K) rfl) (pv 4) o9 (o8 aF)) aC)) (aS (rV (K:=K) rfl) (aU (aA (pv 3) aC)) (pv 1))) (aW (bI (K:=K) rfl) rfl T.b_tuple bQ (aA (kY (xX (K:=K) rfl) (pv 4) (o8 aF) o9) aC))) (aA (aS (lP (K:=K) rfl) (aS (rV (K:=K) rfl) (aU (aA (aU (aA aF (aA aF (aA eA aC)))) aC)) (pv 2)) (pv 11)) aC))))))))))),?_⟩
  refine ĸ λ _ ŉ=>?_;obtain⟨ax,av,as,xs,ys,rfl,qx,qv,lv,qs,ls⟩:=gO hx;refine ŉ ?_;have nt:xs.length=gk.vs.length:=by rw[lv.length,Ê]
  have An:ys.length=gk.sps.length:=by rw[ls.length,Ê]
  have hi:=il.hi;have lo:=il.lo;have hs:=il.sp;refine⟨_,rfl,.inr (.inl ⟨ax,_,0,_,rfl,rfl,qx,rfl,av,xs,rfl,.inr qv,_,_,rfl,rfl,?_⟩)⟩;refine⟨_,rfl,.inr (.inl ⟨ax,_,1,_,rfl,rfl,qx,rfl,as,ys,rfl,.inr qs,_,_,rfl,rfl,?_⟩)⟩;rw[nt,An];obtain⟨km,ma⟩:∃ z:Int,z=12 - (gk.vs.length:Int):=⟨_,rfl⟩;obtain⟨vn,ke⟩:∃ z:Int,z=12 - (gk.sps.length:Int):=⟨_,rfl⟩;refine⟨(show 2<=sizeLine by decide),λ p1 h1=>⟨(show 1<=sizeLine by decide),λ p2 h2=>⟨(show 0<=sizeLine by decide),λ p3 h3=>⟨(show 6<=sizeLine by decide),λ p4 h4=>?_⟩⟩⟩⟩;have t1:bC K (upd H p1 (.tup [.int 0,.int 1])) p1 [.int 0,.int 1]:=Ì aB;have m1:=È (o:=HO.tup [.int 0,.int 1]) h1;generalize upd H p1 (.tup [.int 0,.int 1])=H1 at t1 m1 h2 h3 h4 ⊢;have t2:bC K (upd H1 p2 (.tup [.ref p1])) p2 [.ref p1]:=Ì aB;have m2:=È (o:=HO.tup [.ref p1]) h2;generalize upd H1 p2 (.tup [.ref p1])=H2 at t2 m2 h3 h4 ⊢;have t3:bC K (upd H2 p3 (.tup [])) p3 []:=Ì aB;have m3:=È (o:=HO.tup []) h3;generalize upd H2 p3 (.tup [])=H3 at t3 m3 h4 ⊢;have t4:bC K (upd H3 p4 (.tup [.int 2,.int 3,.ref p2,.bl false,.non,.ref p3])) p4 [.int 2,.int 3,.ref p2,.bl false,.non,.ref p3]:=Ì aB;have m4:=È (o:=HO.tup [.int 2,.int 3,.ref p2,.bl false,.non,.ref p3]) h4;generalize upd H3 p4 (.tup [.int 2,.int 3,.ref p2,.bl false,.non,.ref p3])=H4 at t4 m4 ⊢;have s4:=((m1.trans m2).trans m3).trans m4;have iI:Is K H4 (qK iD) (.ref p4):=by
   refine Ô (ds:=[.int 2,.int 3,.tup [outD (some 0,1)],.bl false,.non,.tup []]) t4 (.cons (è _) (.cons (è _) (.cons (Ô ((m3.trans m4).tup t2) (.cons (Ô (ds:=[.int 0,.int 1]) (((m2.trans m3).trans m4).tup t1) (.cons (è _) (.cons (è _) .nil))) .nil)) (.cons (Is.b _) (.cons Is.n (.cons (Ô (m4.tup t3) .nil) .nil))))))
  clear h1 h2 h3 h4;refine⟨æ _,λ D hD=>?_⟩;have s5:=È (o:=HO.lst []) hD;have g5:upd H4 D (.lst []) D=some (.lst []):=aB;have fD:H4 D=none:=hD;generalize upd H4 D (.lst [])=H5 at s5 g5 ⊢;refine⟨_,rfl,.inr (.inl ⟨ax,_,0,_,rfl,rfl,(s4.trans s5).tup qx,rfl,av,rfl,⟨_,(s4.trans s5).tup qv⟩,oO (K:=K) (a:=av) (xs:=xs) (λ i ad H'=>aE H4 H'/\(∃ rr,H' D=some (.lst rr)/\L2.IsL K H' (((gk.vs.take i).map (JH km vn)).map qK) rr)/\
   ∃ v5 v6 v7 v8 v9 jr ju,ad=[some (.ref ax),some (.int km),some (.int vn),some (.ref p4),some (.ref D),v5,v6,v7,v8,v9,jr,ju]) ?_ ?_ ?_ ?_⟩)⟩
  ·exact⟨s5,⟨[],g5,.nil⟩,none,none,none,none,none,none,none,by rw[ma,ke];rfl⟩
  ·rintro i ad H' _ ⟨s6,_⟩;exact (s4.trans s6).tup qv
  ·rintro DD i - lq y ad H6 hy zF;refine ĸ λ _ ŉ=>?_;obtain⟨s6,⟨rr,iw,yi⟩,v5,v6,v7,v8,v9,jr,ju,rfl⟩:=zF;refine ŉ ?_;obtain⟨dv,Kc,Ri⟩:=lv.get' hy;rw[Ð] at Kc;obtain⟨v,hv,rfl⟩:=ó.mp Kc;have sv:=il.vs v (Ú hv);have hil:=(Ò.mp hv).1;have zw:=s4.trans s6;refine ĸ λ _ ŉ=>?_;obtain⟨a,o,c,rfl,q,io,ic⟩:=uB (Ï zw.ts _ _ Ri);refine ŉ ?_;obtain⟨oa,os,rfl,qo,Bg⟩:=io.un;obtain⟨ca,cs,rfl,qc,lc⟩:=ic.un;have Iz:os.length=v.outs.length:=by rw[Bg.length,Ê]
   have Rj:cs.length=v.acts.length:=by rw[lc.length,Ê]
   have Wg:=sv.a3;have Qt:=sv.o3;refine⟨a,_,rfl,q,rfl,_,_,rfl,_,_,rfl,_,_,rfl,_,_,rfl,_,_,rfl,_,_,rfl,rfl,?_⟩;dsimp only [iZ];refine⟨_,rfl,oa,rfl,⟨_,qo⟩,iW (K:=K) (a:=oa) (xs:=os) (λ E i r ad H'=>H6 E=none/\aE H6 H'/\H' E=some (.lst r)/\L2.IsL K H' (((v.outs.take i).map (JI km)).map outD) r/\∃ u1 u2,ad=[u1,u2,some (.int km)])
    (λ E i r ad H' p=>p.2.1.tup qo) (λ E hE=>⟨hE,È hE,aB,.nil,none,none,rfl⟩) ?_ ?_⟩
   rotate_left
   ·rintro E j z r ad H7 hz zF;refine ĸ λ _ ŉ=>?_;obtain⟨hE,sm,Av,lr,u1,u2,rfl⟩:=zF;refine ŉ ?_;obtain⟨t',si,ta,rfl,qt⟩:=jR Bg hz;have Jb:=(Ò.mp si).1;refine (aX ta _ rfl ⟨sm.tup qt,rfl,(aX _ _ rfl (aX _ _ rfl ⟨rfl,?_⟩))⟩);refine fI ?_;refine (aK _ rfl (aK _ rfl ⟨t'.1,(aK km rfl (aK _ rfl ⟨(show 2<=sizeLine by decide),λ e he=>?_⟩))⟩));have m8:=È (o:=HO.tup [iN (jX t'.1 km),.int t'.2]) he;have i8:Is K (upd H7 e (.tup [iN (jX t'.1 km),.int t'.2])) (outD (JI km t')) (.ref e):=Ô (ds:=[EV (jX t'.1 km),.int t'.2]) (Ì aB) (.cons (Ő _) (.cons (è _) .nil));generalize upd H7 e (.tup [iN (jX t'.1 km),.int t'.2])=H8 at m8 i8 ⊢;have vo:=m8 _ _ Av;have zx:mH (H8 E):=by rw[vo];exact trivial
    have lf:r.length<=12:=by rw[lr.length,Ê,Ê,Ø];lia
    refine⟨vo,aY (by lia),hE,(sm.trans m8).put hE,aB,?_,_,_,rfl⟩;rw[ĵ,si,Ó,Ó];exact ė (Ï (ö ç zx) _ _ i8) (Ö (m8.ts.trans (ö ç zx)) _ _ lr)
   rintro E1 r1 ad H7 ⟨Wi,Bq,zy,Au,_⟩;rw[Iz,Ù] at Au;refine (aX E1 _ rfl (.inl ⟨Ë zy,λ p5 Rl=>?_⟩));have m8:=È (o:=HO.tup r1) Rl;have t8:bC K (upd H7 p5 (.tup r1)) p5 r1:=Ì aB;generalize upd H7 p5 (.tup r1)=H8 at m8 t8 ⊢;have om:=Bq.trans m8;have Rm:=Ö m8.ts _ _ Au;refine⟨_,rfl,ca,rfl,⟨_,om.tup qc⟩,iW (K:=K) (a:=ca) (xs:=cs) (λ E i r ad H'=>H8 E=none/\aE H8 H'/\H' E=some (.lst r)/\L2.IsL K H' (((v.acts.take i).map (JK vn)).map qJ) r/\∃ u1 u2,ad=[u1,u2,some (.int vn)])
    (λ E i r ad H' p=>p.2.1.tup (om.tup qc)) (λ E hE=>⟨hE,È hE,aB,.nil,none,none,rfl⟩) ?_ ?_⟩
   rotate_left
   ·rintro E j z r ad H9 hz zF;refine ĸ λ _ ŉ=>?_;obtain⟨hE,sm,Av,lr,u1,u2,rfl⟩:=zF;refine ŉ ?_;obtain⟨t',si,ta,rfl,qt⟩:=qX lc hz;have Jb:=(Ò.mp si).1;refine (aX ta _ rfl ⟨(om.trans sm).tup qt,rfl,(aX _ _ rfl (aX _ _ rfl ⟨rfl,?_⟩))⟩);refine fI ?_;refine (aK _ rfl (aK _ rfl (aK _ rfl (aX _ _ rfl ⟨rfl,(show 2<=sizeLine by decide),λ e he=>?_⟩))));have Dc:=È (o:=HO.tup [.str t'.1,.int (t'.2+vn)]) he;have Wl:Is K (upd H9 e (.tup [.str t'.1,.int (t'.2+vn)])) (qJ (JK vn t')) (.ref e):=Ô (ds:=[.str t'.1,.int (t'.2+vn)]) (Ì aB) (.cons (Is.s _) (.cons (è _) .nil));generalize upd H9 e (.tup [.str t'.1,.int (t'.2+vn)])=kf at Dc Wl ⊢;have vo:=Dc _ _ Av;have zx:mH (kf E):=by rw[vo];exact trivial
    have lf:r.length<=12:=by rw[lr.length,Ê,Ê,Ø];lia
    refine⟨vo,aY (by lia),hE,(sm.trans Dc).put hE,aB,?_,_,_,rfl⟩;rw[ĵ,si,Ó,Ó];exact ė (Ï (ö ç zx) _ _ Wl) (Ö (Dc.ts.trans (ö ç zx)) _ _ lr)
   rintro E2 r2 ad H9 ⟨hE2,ZY,Rn,Kd,_⟩;rw[Rj,Ù] at Kd;refine (aX E2 _ rfl (.inl ⟨Ë Rn,λ p6 ZZ=>?_⟩));have Dc:=È (o:=HO.tup r2) ZZ;have Wm:bC K (upd H9 p6 (.tup r2)) p6 r2:=Ì aB;generalize upd H9 p6 (.tup r2)=kf at Dc Wm ⊢;have Bu:=ZY.trans Dc;have Ro:=Ö Dc.ts _ _ Kd;have Dd:=(om.trans Bu) _ _ iw;refine (aK _ rfl ⟨.inl ⟨rfl,_,Ë Dd⟩,?_⟩);refine (aK _ rfl (aK _ rfl (aK _ rfl (aK _ rfl (aK _ rfl (aK _ rfl ⟨v.spill,(aK km rfl (aK _ rfl ⟨(show 6<=sizeLine by decide),λ p hp=>?_⟩))⟩))))));have yj:=È (o:=HO.tup [.int v.size,.int v.brim,.ref p5,.bl v.holds,iN (jX v.spill km),.ref p6]) hp;have Wn:Is K (upd kf p (.tup [.int v.size,.int v.brim,.ref p5,.bl v.holds,iN (jX v.spill km),.ref p6])) (qK (JH km vn v)) (.ref p):=
    Ô (ds:=[.int v.size,.int v.brim,.tup ((v.outs.map (JI km)).map outD),.bl v.holds,EV (jX v.spill km),.tup ((v.acts.map (JK vn)).map qJ)]) (Ì aB)
     (.cons (è _) (.cons (è _) (.cons (Ô ((Bu.trans yj).tup t8) (Ö (Bu.trans yj).ts _ _ Rm)) (.cons (Is.b _) (.cons (Ő _) (.cons (Ô (yj.tup Wm) (Ö yj.ts _ _ Ro)) .nil))))))
   generalize upd kf p (.tup [.int v.size,.int v.brim,.ref p5,.bl v.holds,iN (jX v.spill km),.ref p6])=ow at yj Wn ⊢;have ul:=yj _ _ Dd;have lf:rr.length<=12:=by
    rw[yi.length,Ê,Ê,Ø];lia
   refine (uS D rr _ rfl ⟨rfl,ul,aY (by lia),?_⟩);have Db:mH (ow D):=by rw[ul];exact trivial
   have Ke:=(om.trans Bu).trans yj;refine lq _ _ ⟨(s6.trans Ke).put fD,⟨_,aB,?_⟩,_,_,_,_,_,_,_,rfl⟩;rw[ĵ,hv,Ó,Ó];exact ė (Ï (ö ç Db) _ _ Wn) (Ö (Ke.ts.trans (ö ç Db)) _ _ yi)
  ·rintro ad H6 zF;refine ĸ λ _ ŉ=>?_;obtain⟨s6,⟨rr,iw,yi⟩,v5,v6,v7,v8,v9,jr,ju,rfl⟩:=zF;refine ŉ ?_;rw[nt,Ù] at yi;have xi:=s4.trans s6;refine⟨_,rfl,.inr (.inl ⟨ax,_,1,_,rfl,rfl,xi.tup qx,rfl,as,rfl,⟨_,xi.tup qs⟩,iW (K:=K) (a:=as) (xs:=ys) (λ E i r ad H'=>H6 E=none/\aE H6 H'/\H' E=some (.lst r)/\L2.IsL K H' (((gk.sps.take i).map (CN km)).map xN) r/\∃ u1 u2 u3,ad=[u1,u2,u3,some (.int km)])
    (λ E i r ad H' p=>(xi.trans p.2.1).tup qs) (λ E hE=>⟨hE,È hE,aB,.nil,none,none,none,rfl⟩) ?_ ?_⟩)⟩
   rotate_left
   ·rintro E j z r ad H7 hz zF;refine ĸ λ _ ŉ=>?_;obtain⟨hE,sm,Av,lr,u1,u2,u3,rfl⟩:=zF;refine ŉ ?_;obtain⟨t',si,ta,rfl,qt⟩:=oY ls hz;have Jb:=(Ò.mp si).1;refine (aX ta _ rfl ⟨(xi.trans sm).tup qt,rfl,(aX _ _ rfl (aX _ _ rfl (aX _ _ rfl ⟨rfl,?_⟩)))⟩);refine fI ?_;refine (aK _ rfl (aK _ rfl ⟨some t'.1,(aK km rfl (aK _ rfl (aK _ rfl ⟨(show 3<=sizeLine by decide),λ e he=>?_⟩)))⟩));have m8:=È (o:=HO.tup [.int (tY t'.1 km),.int t'.2.1,.bl t'.2.2]) he;have i8:Is K (upd H7 e (.tup [.int (tY t'.1 km),.int t'.2.1,.bl t'.2.2])) (xN (CN km t')) (.ref e):=Ô (ds:=[.int (tY t'.1 km),.int t'.2.1,.bl t'.2.2]) (Ì aB) (.cons (è _) (.cons (è _) (.cons (Is.b _) .nil)));have vo:=m8 _ _ Av;have Wo:Is K (upd H7 e (.tup [iN (jX (some t'.1) km),.int t'.2.1,.bl t'.2.2])) (xN (CN km t')) (.ref e):=i8;have Nd:aE H7 (upd H7 e (.tup [iN (jX (some t'.1) km),.int t'.2.1,.bl t'.2.2])):=m8;have Ab:=Nd _ _ Av;clear i8 m8 vo;generalize upd H7 e (.tup [iN (jX (some t'.1) km),.int t'.2.1,.bl t'.2.2])=H8 at Nd Wo Ab ⊢;have zx:mH (H8 E):=by rw[Ab];exact trivial
    have lf:r.length<=12:=by rw[lr.length,Ê,Ê,Ø];lia
    refine⟨Ab,aY (by lia),hE,(sm.trans Nd).put hE,aB,?_,_,_,_,rfl⟩;rw[ĵ,si,Ó,Ó];exact ė (Ï (ö ç zx) _ _ Wo) (Ö (Nd.ts.trans (ö ç zx)) _ _ lr)
   rintro E1 r1 ad H7 ⟨Wi,Bq,zy,Au,_⟩;rw[An,Ù] at Au;refine (aX E1 _ rfl (.inl ⟨Ë zy,λ p5 Rl=>?_⟩));have m8:=È (o:=HO.tup r1) Rl;have t8:bC K (upd H7 p5 (.tup r1)) p5 r1:=Ì aB;generalize upd H7 p5 (.tup r1)=H8 at m8 t8 ⊢;have om:=Bq.trans m8;have Rm:=Ö m8.ts _ _ Au;have Aa:=om _ _ iw;have Rp:=Ö om.ts _ _ yi;have Rq:nH rr none (some 1)=rr.take 1:=IK rr 1;have Rr:nH rr (some 1) none=rr.drop 1:=IL rr 1;have erl:rr.length=gk.vs.length:=by rw[yi.length,Ê,Ê]
   refine (aK _ rfl (aK _ rfl (aX D rr rfl ⟨Ë Aa,λ q1 za=>(aX q1 _ rfl (.inl ⟨Ë aB,λ q2 zb=>?_⟩))⟩)));rw[Rq] at zb ⊢;have m9:aE H8 (upd (upd H8 q1 (.lst (rr.take 1))) q2 (.tup (rr.take 1))):=(È za).trans (È zb);have t9:bC K (upd (upd H8 q1 (.lst (rr.take 1))) q2 (.tup (rr.take 1))) q2 (rr.take 1):=Ì aB;generalize upd (upd H8 q1 (.lst (rr.take 1))) q2 (.tup (rr.take 1))=H9 at m9 t9 ⊢;refine (aK _ rfl ⟨(show 1<=sizeLine by decide),λ q3 Fq=>(aK _ rfl (uS q3 km [.ref p4] rfl ⟨rfl,Ì aB,by lia,by lia,by simp,(show 1<=10 by decide),λ q4 kf kh Wp=>?_⟩))⟩);have Kf:=(È Fq).trans kh;have Z0:(List.replicate km.toNat [V.ref p4]).flatten=List.replicate (12 - gk.vs.length) (.ref p4):=by
    rw[show km.toNat=12 - gk.vs.length by lia];exact sU _ _
   rw[Z0] at Wp;refine⟨q2,q4,_,_,rfl,rfl,Kf.tup t9,Wp,by rw[Ø,Ĳ,Ď];lia,λ q5 ow Ba Dw=>?_⟩;have uh:=(m9.trans Kf).trans Ba;refine (aK _ rfl (aK _ rfl (aX D rr rfl ⟨Ë (uh _ _ Aa),λ q6 Z1=>(aX q6 _ rfl (.inl ⟨Ë aB,λ q7 Wq=>?_⟩))⟩)));rw[Rr] at Wq ⊢;have Rs:aE ow (upd (upd ow q6 (.lst (rr.drop 1))) q7 (.tup (rr.drop 1))):=(È Z1).trans (È Wq);have Wr:bC K (upd (upd ow q6 (.lst (rr.drop 1))) q7 (.tup (rr.drop 1))) q7 (rr.drop 1):=Ì aB;generalize upd (upd ow q6 (.lst (rr.drop 1))) q7 (.tup (rr.drop 1))=Mm at Rs Wr ⊢;refine⟨q5,q7,_,_,rfl,rfl,Rs.tup Dw,Wr,by rw[à,Ø,Ĳ,Ņ,Ď];lia,λ q8 Rt uv Z2=>?_⟩;have Ru:=(uh.trans Rs).trans uv;refine⟨(show 3<=sizeLine by decide),λ w1 Pd=>⟨(show 1<=sizeLine by decide),λ w2 Lz=>(aK _ rfl (uS w2 vn [.ref w1] rfl ⟨rfl,Ì aB,by lia,by lia,by simp,(show 1<=10 by decide),λ w3 Z3 sj Ws=>?_⟩))⟩⟩;have tw1:bC K (upd Rt w1 (.tup [.int 0,.int 0,.bl true])) w1 [.int 0,.int 0,.bl true]:=Ì aB;have Kg:=((È (o:=HO.tup [.int 0,.int 0,.bl true]) Pd).trans (È Lz)).trans sj;have tw14:=((È Lz).trans sj).tup tw1;have Z4:(List.replicate vn.toNat [V.ref w1]).flatten=List.replicate (12 - gk.sps.length) (.ref w1):=by
    rw[show vn.toNat=12 - gk.sps.length by lia];exact sU _ _
   rw[Z4] at Ws;have Kh:=Ru.trans Kg;have Rh:r1.length=gk.sps.length:=by rw[Au.length,Ê,Ê]
   refine⟨_,rfl,w3,p5,_,r1,rfl,rfl,Ws,Kh.tup t8,by rw[Ĳ,Ď];lia,λ w4 Fc Bv Z5=>⟨(show 2<=sizeLine by decide),λ p hp=>?_⟩⟩;have Nf:=È (o:=HO.tup [.ref q8,.ref w4]) hp;have Rv:=Kh.trans Bv;have Bw:=Rv.trans Nf;refine k _ _ ((xi.trans om).trans Bw) ?_;have hI:Is K (upd Fc p (.tup [.ref q8,.ref w4])) (qK iD) (.ref p4):=Ï ((s6.trans om).trans Bw).ts _ _ iI;have hL:=Ö Bw.ts _ _ Rp;have eV:kI gk=gk.vs.map (JH km vn):=by unfold kI;rw[<- ma,<- ke]
   have lV:L2.IsL K (upd Fc p (.tup [.ref q8,.ref w4])) ((vB gk).vs.map qK) (rr.take 1++List.replicate (12 - gk.vs.length) (.ref p4)++rr.drop 1):=by
    show L2.IsL K _ (((kI gk).take 1++List.replicate (12 - gk.vs.length) iD++(kI gk).drop 1).map qK) _;rw[Ó,Ó,ahf,List.map_drop,eV,List.map_replicate];exact oK (oK (lC 1 hL) (wO _ hI)) (yR 1 hL)
   have lS:L2.IsL K (upd Fc p (.tup [.ref q8,.ref w4])) ((vB gk).sps.map xN) (List.replicate (12 - gk.sps.length) (.ref w1)++r1):=by
    show L2.IsL K _ ((List.replicate (12 - gk.sps.length) ((0,0,true):xP)++gk.sps.map (CN (12 - gk.vs.length))).map xN) _;rw[Ó,List.map_replicate,<- ma];refine oK (wO _ ?_) (Ö Bw.ts _ _ Rm);exact Ô (ds:=[.int 0,.int 0,.bl true]) ((Bv.trans Nf).tup tw14) (.cons (è _) (.cons (è _) (.cons (Is.b _) .nil)))
   exact Ô (ds:=[.tup ((vB gk).vs.map qK),.tup ((vB gk).sps.map xN)]) (Ì aB) (.cons (Ô (((Kg.trans Bv).trans Nf).tup Z2) lV) (.cons (Ô (Nf.tup Z5) lS) .nil))
end Tw
namespace HT
open PySem PySem.Spec PyProof.Rows L2
section
variable {prog:Ã}{A:Around}{E:À->Â->Prop}{s:Â}
end
end HT
namespace L2
open PySem PySem.Spec PyProof.Rows
section
variable {X:Cx}{e st:Expr}{te:TE}{pos p2:Pos}
end
end L2
namespace Tw
open PySem L2
theorem MI {gk:Net} (il:NetOk gk) (h2:gk.vs.length<=2):NetOk ⟨gk.vs++[iD],gk.sps⟩:=by
 refine⟨by simp,by simp;lia,il.sp,λ v hv=>?_,λ s hs=>?_⟩
 ·have el:(gk.vs++[iD]).length=gk.vs.length+1:=by simp
  show VOk (gk.vs++[iD]).length gk.sps.length v;rw[el];rcases ñ.1 hv with h | h
  ·have ok:=il.vs v h;exact⟨ok.size,ok.ne,ok.o3,λ o ho=>⟨λ t ht=>by have:=(ok.outs o ho).tg t ht;lia,(ok.outs o ho).lo,(ok.outs o ho).hi⟩,λ t ht=>by have:=ok.spill t ht;lia,ok.a3,ok.acts⟩
  ·rw[é] at h;subst h;refine⟨by decide,by decide,by decide,λ o ho=>?_,(λ t ht=>by cases ht),by decide,(λ a ha=>by cases ha)⟩;have:o=(some 0,1):=by simpa [iD] using ho
   subst this;exact⟨(λ t ht=>by cases ht;exact⟨by decide,by lia⟩),by decide,by decide⟩
 ·have:=il.sps s hs;show 0<=s.1/\s.1 < (((gk.vs++[iD]).length:Nat):Int);rw[à,ē];lia
section
variable {aw:Á}
theorem mM:FnScope ["thing","low","high"] ["thing","low","high"] (aL (bW 30)):={}
theorem tQ {f:Á}{fd:FuncData} (F:Fun K "_law_whole" "_law_whole" (bW 30) f fd) (T:Txt mg):FnOk P w K mg base kA 1 f fd ["thing","low","high"] vC:=by
 refine F.ok mM (λ vs H Q E h=>?_) (λ ja A outer s H vs Q E hr h=>?_)
 ·obtain⟨n,lo,hi,rfl,_⟩:=h;rfl
 ·obtain⟨n,lo,hi,rfl,h1,h2,k⟩:=h;have sc:=mM;refine⟨_,(aI (bG (wA (bB (jF (K:=K) rfl) rfl T.b_isinstance dN (aA (pv 0) (aA (lO (v:=.ty "int") rfl T.b_int nI rfl) aC))) (wA (vY (bB (jF (K:=K) rfl) rfl T.b_isinstance dN (aA (pv 0) (aA (lO (v:=.ty "bool") rfl T.b_bool CD rfl) aC)))) (wA (fN LZ (pv 1) (pv 0) (bH _)) (zY (fN LZ (pv 0) (pv 2) (bH _)))))))),?_⟩;refine (aK _ rfl (iF _ "int" _ true rfl ⟨.inl (.int _),NF K,(aK _ rfl (iC ?_))⟩));refine (aK _ rfl (iF _ "bool" _ false rfl ⟨.inl (.int _),NG K,(aK _ rfl (aK _ rfl (iC ?_)))⟩));refine (aK _ rfl (aK _ rfl (aX _ _ rfl ⟨rfl,(aK _ rfl (iteD h1 (aK _ rfl (aK _ rfl (aX _ _ rfl ⟨rfl,?_⟩)))))⟩)));show Q (.bl (decide _)) H;rw[ò h2];exact k
end
def oW (rm:Sta->Nat) (s:Sta):L2.D:=.tup [cV s,.int (rm s:Int)]
theorem BB {rm:Sta->Nat}{s t:Sta} (h:oW rm s=oW rm t):s=t:=by
 unfold oW at h;injection h with h;injection h with h1 h;exact gF _ _ h1
theorem wN {K:Ç}{H:Hp}{gk:Net}{rm:Sta->Nat}{s:Sta}{v:V} (ok:jH gk s) (h:Is K H (oW rm s) v):KeyD K H (.tup [xO gk,.int 0]) (oW rm s) v:=by
 refine⟨?_,?_,?_,h,?_⟩
 ·unfold oW;rw[sh,gZ,gZ,gZ,FN ok,sh]
 ·have e1:(cV s).depth<=2:=by
   show (L2.D.tup [.tup (s.held.map L2.D.int),.tup (s.coming.map L2.D.int),.tup (s.doors.map L2.D.bl)]).depth<=2;rw[L2.D.depth,yW];decide
  unfold oW;rw[L2.D.depth,bV,bV,bV,hU];lia
 ·unfold oW;rw[dF,cQ,cQ,cQ,dF];exact⟨uI _,trivial,trivial⟩
 ·obtain⟨a,xs,rfl,_⟩:=(show Is K H (.tup [cV s,.int (rm s:Int)]) v from h).un;exact⟨a,rfl⟩
structure Pr12 (P:Ã) (w:World) (K:Ç) (net:Net) (rm:Sta->Nat) (H:Hp) (sl sd:Á) (L:List Sta):Prop where
 ls:∃ us,H sl=some (.lst us)/\Paired (λ (s:Sta) u=>Is K H (oW rm s) u) L us
 dd:∃ gu,bR P w K H sd (.tup [xO net,.int 0]) gu/\gu.length=L.length/\∀ s,(cI gu (oW rm s)).isSome=true↔s∈L
 ok:∀ s∈L,jH net s
 nd:L.Nodup
 ne:sl≠sd
theorem Pr12.same {gk:Net}{rm:Sta->Nat}{H H':Hp}{sl sd:Á}{L:List Sta} (h:Pr12 P w K gk rm H sl sd L) (s:aE H H'):Pr12 P w K gk rm H' sl sd L:=by
 obtain⟨us,h1,h2⟩:=h.ls;obtain⟨gu,h3,h4⟩:=h.dd;exact⟨⟨us,s _ _ h1,ì h2 λ _ _ z=>Ï s.ts _ _ z⟩,⟨gu,h3.same s,h4⟩,h.ok,h.nd,h.ne⟩
theorem Pr12.snoc {gk:Net}{rm:Sta->Nat}{H H9:Hp}{sl sd:Á}{L:List Sta}{us:List V}{gu:List (L2.D×V)}{s:Sta}{y:V} (h:Pr12 P w K gk rm H sl sd L) (hn:s∉L) (ok:jH gk s) (h1:H9 sl=some (.lst us)) (h2:Paired (λ (s:Sta) u=>Is K H9 (oW rm s) u) L us)
  (hl:gu.length=L.length) (hv:∀ s,(cI gu (oW rm s)).isSome=true↔s∈L) (iy:Is K H9 (oW rm s) y) (d:bR P w K H9 sd (.tup [xO gk,.int 0]) (eT gu (oW rm s) (.bl true))) :
  Pr12 P w K gk rm (upd H9 sl (.lst (us++[y]))) sl sd (L++[s]):=by
 have zu:cI gu (oW rm s)=none:=by
  cases e:cI gu (oW rm s) with
  | none=>rfl
  | some z=>exact absurd ((hv s).mp (by rw[e];rfl)) hn
 have mu:mH (H9 sl):=by rw[h1];exact trivial
 have zl:bJ K H9 (upd H9 sl (.lst (us++[y]))):=(ç (t:=sl) (H:=H9) (o:=HO.lst (us++[y]))).ts mu;refine⟨⟨_,aB,?_⟩,⟨_,d.mono zl λ o e=>by rw[aJ (Ne.symm h.ne)];exact e,?_,λ z=>?_⟩,λ z hz=>?_,?_,h.ne⟩
 ·exact ğ (ì h2 λ _ _ z=>Ï zl _ _ z) (Ï zl _ _ iy)
 ·rw[kU _ zu,à,à,hl];rfl
 ·rw[nP]
  by_cases c:oW rm z=oW rm s
  ·rw[Å c,BB c];simp
  ·rw[Ä c,hv z,ñ,é];exact⟨.inl,λ h=>h.resolve_right λ e=>c (by rw[e])⟩
 ·rcases ñ.mp hz with hz | hz
  ·exact h.ok z hz
  ·rw[é.mp hz];exact ok
 ·rw[ļ];exact⟨h.nd,by simp,λ a ha b hb=>by rw[é.mp hb];exact λ e=>hn (e ▸ ha)⟩
def FJ (K:Ç) (Pt:Á):Sp:=λ vs H Q _=>∃ (a:Á) (ns:List Int),vs=[.ref a]/\bD K H a (ns.map V.int)/\ns.length<=63/\fE H Pt kX y8/\∀ H',Q (.bl true) H'
def spT (K:Ç):List (Á×Á)->Sp
 | [q]=>FJ K q.2
 | _=>λ vs _ _ _=>vs.length=1
theorem FG (K:Ç):∀ (ip:List (Á×Á)) (H:Hp) (a:Á) (ns:List Int),ns.length<=63->CI ip H->bD K H a (ns.map V.int)->(∀ q∈ip,H q.2=some (.tbl #[]))->spT K ip [.ref a] H (λ v _=>v=.bl true) λ _ _ _=>False
 | [],_,_,_,_,_,_,_=>rfl
 | [q],H,a,ns,hl,_,hS,hT=>⟨a,ns,rfl,hS,hl,.inl (hT q (by simp)),λ _=>rfl⟩
 | _::_::_,_,_,_,_,_,_,_=>rfl
theorem FP:FnScope ["script","tape","net","watched","most","rooms","pairs","there","at","amount","later","way","tips"] ["script"] (aL (bW 46)):={}
theorem ND {f f1 f2 f3 f4 f5 f6 f7 f8 f9 Pt:Á}{fd ue zt Eo QG Z6 Z7 Z8 Z9 a_:FuncData} (F:Fun K "law" "law" (bW 46) f fd) (T:Txt mg)
  (gv:Callee P w K mg base "_law_draw" ["tape","many"] 1 iT f1 ue)
  (sk:Callee P w K mg base "_law_small" ["tape"] 5 (vH K) f2 zt)
  (uo:Callee P w K mg base "_law_wide" ["net"] 2 (zR K) f3 Eo)
  (so:Callee P w K mg base "_law_tried" ["net","watched","most"] 10 (vE K Pt) f4 QG)
  (pq:Callee P w K mg base "_law_states" ["net","watched","most"] 4 (rF K) f5 Z6)
  (my:Callee P w K mg base "_law_in_order" ["rooms","most"] 2 (FI K) f6 Z7)
  (lg:Callee P w K mg base "_law_all_parted" ["rooms"] 1 (rH K) f7 Z8)
  (jy:Callee P w K mg base "_law_first" ["net"] 1 (jL K) f8 Z9)
  (kg:Callee P w K mg base "_law_step" ["net","state","amount","watched"] 3 (qL K) f9 a_):FnOk P w K mg base kA 11 f fd ["script"] (FJ K Pt):=by
 refine F.ok FP (λ vs H Q E h=>?_) (λ ja A outer s H vs Q E hr h=>?_)
 ·obtain⟨a,ns,rfl,_⟩:=h;rfl
 ·refine ĸ λ _ ŉ=>?_;obtain⟨a,ns,rfl,hS,gy,tab,k⟩:=h;refine ŉ ?_;have sc:=FP;refine⟨_,(aD (pL 1 sc.nd (bM (aA (aW (pP (K:=K) rfl) rfl T.b_list oR (aA (pv 0) aC)) (aA aF (aA aF aC)))))
   (aD (pL 2 sc.nd (eX sk hr (aA (pv 1) aC)))
   (aD (dA (bF mR (eX gv hr (aA (pv 1) (aA aF aC))) aF (bH _)) (aI (pL 2 sc.nd (aU (aA (aS (lP (K:=K) rfl) (px K (pv 2) aF) (aU (aA (aU (aA aF (aA aF (aA (aU (aA (aU (aA aF (aA aF aC))) aC)) (aA eA (aA fU (aA (aU aC) aC))))))) aC))) (aA (px K (pv 2) aF) aC))))) bK)
   (aD (pL 3 sc.nd (eX gv hr (aA (pv 1) (aA (pC K T.b_len (px K (pv 2) aF)) aC))))
   (aD (pL 4 sc.nd (px K (bM (aA aF (aA aF (aA (eX gv hr (aA (pv 1) (aA aF aC))) aC)))) (eX gv hr (aA (pv 1) (aA aF aC)))))
   (aD (dA (bF mR (eX gv hr (aA (pv 1) (aA aF aC))) aF (bH _)) (aD (pL 3 sc.nd (aS cB (pv 3) (aS jS (aS iB aF (pC K T.b_len (px K (pv 2) aF))) (aW hV rfl T.b_int nI (aA (fN yF (pv 3) aF (bH _)) aC)))))
   (aI (pL 2 sc.nd (eX uo hr (aA (pv 2) aC))))) bK)
   (aD (pL 5 sc.nd (eX so hr (aA (pv 2) (aA (pv 3) (aA (pv 4) aC)))))
   (aD (dA (bF yF (eX pq hr (aA (pv 2) (aA (pv 3) (aA (pv 4) aC)))) aF (bH _)) (aI (bG (fN (A1 (K:=K) rfl hr.units) (pv 5) (aU (aA eI aC)) (bH _)))) bK)
   (aD (dA (PW.pt (q0 (jP (eU (bB (jF (K:=K) rfl) rfl T.b_isinstance dN (aA (pv 5) (aA (lO (v:=.ty "list") rfl T.b_list oR rfl) aC))))) (q0 (jP (eU (eX my hr (aA (pv 5) (aA (pv 4) aC))))) (pB (jP (eU (eX lg hr (aA (pv 5) aC)))))))) (aI (bG eA)) bK)
   (aD (pL 6 sc.nd (bM (aA (aU (aA (eX jy hr (aA (pv 2) aC)) (aA aF aC))) aC)))
   (aD (pL 7 sc.nd (pE (P:=P) (w:=w) (K:=K) rfl rfl rfl hr.units (px K (pv 6) aF) eA))
   (aD (pL 8 sc.nd aF)
   (aD (kW ï (bF oB (pv 8) (pC K T.b_len (pv 6)) (bH _)) (aD (cX ï rfl (cD rfl T.b_range (aA (aS cB (pv 4) aF) aC)) (gL 9 sc.nd) (aD (pL 10 sc.nd (eX kg hr (aA (pv 2) (aA (px K (px K (pv 6) (pv 8)) aF) (aA (pv 9) (aA (pv 3) aC))))))
   (aD (dU (px K (px K (pv 5) (px K (px K (pv 6) (pv 8)) aF)) (pv 9)) (bA (K:=K) (n:=2) rfl rfl (aG (gL 11 sc.nd) (aG (gL 12 sc.nd) aZ))))
   (aD (dA (bF yE (pv 12) (px K (pv 10) aF) (bH _)) (aI (bG eA)) bK)
   (aI (dA (bF (rW (P:=P) (w:=w) (K:=K) rfl rfl rfl hr.units) (aU (aA (px K (pv 10) aF) (aA (pv 11) aC))) (pv 7) (by rfl)) (aD (j7 (P:=P) (w:=w) (K:=K) rfl rfl rfl hr.units (pv 7) (aU (aA (px K (pv 10) aF) (aA (pv 11) aC))) eA rfl)
   (aI (cZ (eJ (K:=K) rfl ù Ċ ċ cE (pv 6) (aA (aU (aA (px K (pv 10) aF) (aA (pv 11) aC))) aC))))) bK))))))
   (aI (pL 8 sc.nd (aS cB (pv 8) aF)))))
   (aI (bG eA))))))))))))))),?_⟩
  refine⟨_,rfl,a,_,rfl,.inl hS,λ sl qr=>⟨(show 3<=sizeLine by decide),λ t ht=>?_⟩⟩;have Me:sl≠t:=aH (show upd H sl (.lst (ns.map V.int)) sl=_ from aB) ht;have Ng:fM (upd (upd H sl (.lst (ns.map V.int))) t (.lst [.ref sl,.int 0,.int 0])) t sl:=⟨ns,0,0,aB,by rw[aJ Me];exact aB,by lia⟩;have Fd:=tab.same ((È (o:=HO.lst (ns.map V.int)) qr).trans (È (o:=HO.lst [.ref sl,.int 0,.int 0]) ht));generalize upd (upd H sl (.lst (ns.map V.int))) t (.lst [.ref sl,.int 0,.int 0])=H0 at Ng Fd;refine⟨_,rfl,t,sl,rfl,Ng,λ xm x0 H1 e1 Fe Wt zc=>?_⟩;have mz:=e1.tp;have kl:=iO Fd e1.bt Ng.mut;dsimp only [eB,AX];refine vS (λ ad H'=>fM H' t sl/\fE H' Pt kX y8/\∃ (x:V) (gk:Net),NetOk gk/\gk.vs.length<=3/\Is K H' (iG gk) x/\ad=[some (.ref a),some (.ref t),some x,none,none,none,none,none,none,none,none,none,none]) (λ D' hD=>?_) ?_
  ·refine⟨_,rfl,t,sl,3,rfl,mz,by decide,by decide,λ r H4 b4 t4 r0 r1=>⟨rfl,_,rfl,gX (λ hT=>?_) λ hN=>?_⟩⟩;rotate_left
   ·exact hD _ _ ⟨t4,iO kl b4 mz.mut,x0,xm,Fe,by lia,Ï (b4.ts mz.mut) _ _ zc,rfl⟩
   have Ff:=Ï (b4.ts (K:=K) mz.mut) _ _ zc;refine ĸ λ _ ŉ=>?_;obtain⟨na,nb,nc,xs,ys,rfl,q,q1,l1,q2,l2⟩:=gO Ff;refine ŉ ?_;have nt:xs.length=xm.vs.length:=by rw[l1.length,Ê]
   have Fg:=iO kl b4 mz.mut;refine⟨_,rfl,.inr (.inl ⟨na,_,0,_,rfl,rfl,q,rfl,(show 2<=sizeLine by decide),λ p1 h1=>⟨(show 1<=sizeLine by decide),λ p2 h2=>⟨(show 0<=sizeLine by decide),λ p3 h3=>⟨(show 6<=sizeLine by decide),λ p4 h4=>⟨(show 1<=sizeLine by decide),λ p5 h5=>?_⟩⟩⟩⟩⟩)⟩;have u1:bC K (upd H4 p1 (.tup [.int 0,.int 1])) p1 [.int 0,.int 1]:=Ì aB;have m1:=È (o:=HO.tup [.int 0,.int 1]) h1;generalize upd H4 p1 (.tup [.int 0,.int 1])=G1 at u1 m1 h2 h3 h4 h5 ⊢;have u2:bC K (upd G1 p2 (.tup [.ref p1])) p2 [.ref p1]:=Ì aB;have m2:=È (o:=HO.tup [.ref p1]) h2;generalize upd G1 p2 (.tup [.ref p1])=G2 at u2 m2 h3 h4 h5 ⊢;have u3:bC K (upd G2 p3 (.tup [])) p3 []:=Ì aB;have m3:=È (o:=HO.tup []) h3;generalize upd G2 p3 (.tup [])=G3 at u3 m3 h4 h5 ⊢;have u4:bC K (upd G3 p4 (.tup [.int 2,.int 3,.ref p2,.bl false,.non,.ref p3])) p4 [.int 2,.int 3,.ref p2,.bl false,.non,.ref p3]:=Ì aB;have m4:=È (o:=HO.tup [.int 2,.int 3,.ref p2,.bl false,.non,.ref p3]) h4;generalize upd G3 p4 (.tup [.int 2,.int 3,.ref p2,.bl false,.non,.ref p3])=G4 at u4 m4 h5 ⊢;have u5:bC K (upd G4 p5 (.tup [.ref p4])) p5 [.ref p4]:=Ì aB;have m5:=È (o:=HO.tup [.ref p4]) h5;generalize upd G4 p5 (.tup [.ref p4])=G5 at u5 m5 ⊢;have iI:Is K G5 (qK iD) (.ref p4):=by
    refine Ô (ds:=[.int 2,.int 3,.tup [outD (some 0,1)],.bl false,.non,.tup []]) (m5.tup u4) (.cons (è _) (.cons (è _) (.cons (Ô (((m3.trans m4).trans m5).tup u2) (.cons (Ô (ds:=[.int 0,.int 1]) ((((m2.trans m3).trans m4).trans m5).tup u1) (.cons (è _) (.cons (è _) .nil))) .nil)) (.cons (Is.b _) (.cons Is.n (.cons (Ô ((m4.trans m5).tup u3) .nil) .nil))))))
   have Bv:=(((m1.trans m2).trans m3).trans m4).trans m5;refine⟨nb,p5,xs,[.ref p4],rfl,rfl,Bv.tup q1,u5,by rw[Ď];show xs.length+1<=_;lia,λ p6 G6 m6 q6=>⟨_,rfl,.inr (.inl ⟨na,_,1,_,rfl,rfl,(Bv.trans m6).tup q,rfl,(show 2<=sizeLine by decide),λ p hp=>?_⟩)⟩⟩;have m7:=È (o:=HO.tup [.ref p6,.ref nc]) hp;have Ki:=(Bv.trans m6).trans m7;refine hD _ _ ⟨t4.same Ki,Fg.same Ki,_,⟨xm.vs++[iD],xm.sps⟩,MI Fe Wt,by rw[à,ē];lia,?_,rfl⟩;refine Ô (ds:=[.tup ((xm.vs++[iD]).map qK),.tup (xm.sps.map xN)]) (Ì aB) (.cons (Ô (m7.tup q6) ?_) (.cons (Ô (Ki.tup q2) (Ö Ki.ts _ _ l2)) .nil));rw[Ó];exact oK (Ö Ki.ts _ _ l1) (.cons (Ï (m6.trans m7).ts _ _ iI) .nil)
  clear mz kl zc Wt Fe e1 Fd Ng;rintro ad H1 zF;refine ĸ λ _ ŉ=>?_;obtain⟨mz,kl,x,gk,il,n4,hx,rfl⟩:=zF;refine ŉ ?_;refine vS (λ ad H'=>fM H' t sl/\fE H' Pt kX y8/\∃ v:Int,0<=v/\v < gk.vs.length/\Is K H' (iG gk) x/\ad=[some (.ref a),some (.ref t),some x,some (.int v),none,none,none,none,none,none,none,none,none]) (λ D' hD=>?_) ?_
  ·refine ĸ λ _ ŉ=>?_;obtain⟨na,nb,nc,xs,ys,rfl,q,q1,l1,q2,l2⟩:=gO hx;refine ŉ ?_;have nt:xs.length=gk.vs.length:=by rw[l1.length,Ê]
   have:=il.lo;refine⟨_,rfl,_,rfl,.inr (.inl ⟨na,_,0,_,rfl,rfl,q,rfl,nb,xs,rfl,.inr q1,t,sl,_,rfl,mz,by lia,by lia,λ r H4 b4 t4 r0 r1=>?_⟩)⟩;exact hD _ _ ⟨t4,iO kl b4 mz.mut,r,r0,by lia,Ï (b4.ts mz.mut) _ _ hx,rfl⟩
  clear mz kl hx;rintro ad H1 zF;refine ĸ λ _ ŉ=>?_;obtain⟨mz,kl,v,Ic,Rw,hx,rfl⟩:=zF;refine ŉ ?_;refine vS (λ ad H'=>fM H' t sl/\fE H' Pt kX y8/\∃ gj:Nat,gj<=10/\Is K H' (iG gk) x/\ad=[some (.ref a),some (.ref t),some x,some (.int v),some (.int (gj:Int)),none,none,none,none,none,none,none,none]) (λ D' hD=>?_) ?_
  ·refine⟨_,rfl,t,sl,6,rfl,mz,by decide,by decide,λ r H4 b4 t4 r0 r1=>⟨(show 3<=sizeLine by decide),λ l3 Bc=>?_⟩⟩;have s5:=È (o:=HO.lst [.int 1,.int 2,.int r]) Bc;have Rx:=t4.same s5;refine⟨_,rfl,t,sl,3,rfl,Rx,by decide,by decide,λ r2 H6 b6 t6 r20 r21=>?_⟩;have n3:l3≠t:=λ z=>by obtain⟨o,e⟩:=t4.some;rw[<- z,Bc] at e;cases e
   have h6:H6 l3=some (.lst [.int 1,.int 2,.int r]):=b6 l3 _ n3 aB;have Ry:=iO ((iO kl b4 mz.mut).same s5) b6 Rx.mut;have b_:=Ï (((b4.ts (K:=K) mz.mut).trans s5.ts).trans (b6.ts Rx.mut)) _ _ hx;obtain⟨m,hm,Am⟩:∃ m:Nat,JB [V.int 1,.int 2,.int r] r2=some (.int (m:Int))/\m<=10:=by
    rcases (show r2=0\/r2=1\/r2=2 by lia) with e | e | e <;> subst e
    ·exact⟨1,rfl,by decide⟩
    ·exact⟨2,rfl,by decide⟩
    ·exact⟨r.toNat,by show some (V.int r)=_;congr 2;lia,by lia⟩
   exact .inl ⟨l3,_,r2,_,rfl,rfl,Ë h6,hm,hD _ _ ⟨t6,Ry,m,Am,b_,rfl⟩⟩
  clear mz kl hx;rintro ad H1 ⟨mz,kl,gj,hm,hx,rfl⟩;refine vS (λ ad H'=>fM H' t sl/\fE H' Pt kX y8/\∃ (x:V) (gk:Net) (v:Int),NetOk gk/\0<=v/\v < gk.vs.length/\Is K H' (iG gk) x/\ad=[some (.ref a),some (.ref t),some x,some (.int v),some (.int (gj:Int)),none,none,none,none,none,none,none,none]) (λ D' hD=>?_) ?_
  ·refine⟨_,rfl,t,sl,4,rfl,mz,by decide,by decide,λ r H4 b4 t4 r0 r1=>⟨rfl,_,rfl,gX (λ hT=>?_) λ hN=>?_⟩⟩
   ·have Ff:=Ï (b4.ts (K:=K) mz.mut) _ _ hx;refine ĸ λ _ ŉ=>?_;obtain⟨na,nb,nc,xs,ys,rfl,q,q1,l1,q2,l2⟩:=gO Ff;refine ŉ ?_;have nt:xs.length=gk.vs.length:=by rw[l1.length,Ê]
    have Fg:=iO kl b4 mz.mut;have ZD:=il.hi;refine⟨_,rfl,_,rfl,.inr (.inl ⟨na,_,0,_,rfl,rfl,q,rfl,nb,xs,rfl,.inr q1,_,_,rfl,rfl,_,rfl,_,_,rfl,rfl,.inr ⟨_,rfl,_,_,rfl,rfl,.inl ⟨by lia,by lia⟩,_,_,rfl,rfl,?_⟩⟩)⟩;refine⟨_,rfl,.ref na,gk,rfl,Ff,il,λ x2 H5 s5 i5=>hD _ _ ⟨t4.same s5,Fg.same s5,x2,vB gk,_,JJ il,?_,?_,i5,rfl⟩⟩
    ·by_cases c:0 < v
     ·rw[ò c,Å rfl];lia
     ·rw[þ c,Ä (by decide)];lia
    ·rw[nO il]
     by_cases c:0 < v
     ·rw[ò c,Å rfl];lia
     ·rw[þ c,Ä (by decide)];lia
   ·exact hD _ _ ⟨t4,iO kl b4 mz.mut,x,gk,v,il,Ic,Rw,Ï (b4.ts mz.mut) _ _ hx,rfl⟩
  clear mz kl hx Ic Rw il n4;rintro ad H1 zF;refine ĸ λ _ ŉ=>?_;obtain⟨mz,kl,x,gk,v,il,Ic,Rw,hx,rfl⟩:=zF;refine ŉ ?_;refine⟨_,rfl,_,rfl,_,rfl,x,gk,v,gj,rfl,hx,il,by lia,kl,λ e p H2 s2 qp=>?_,λ fs e M rl H2 s2 eM Fh yf Bl mf=>?_⟩
  ·
   refine⟨_,rfl,_,rfl,_,rfl,x,gk,v,gj,rfl,Ï s2.ts _ _ hx,il,by lia,λ n H3 s3 hn _=>?_⟩;have hn:=hn e;refine⟨_,_,rfl,rfl,_,rfl,?_⟩;rw[ò (by lia)];refine iC ?_;refine⟨_,rfl,(show 1<=sizeLine by decide),λ e1 Fv=>?_⟩;have s4:=È (o:=HO.tup [.str "many"]) Fv;exact⟨_,by rw[bV,bV,E9];decide,Ô (ds:=[.str "many"]) ((s3.trans s4).tup qp) (.cons (Is.s _) .nil),Ô (Ì aB) (.cons (Is.s _) .nil),k _⟩
  ·refine⟨_,rfl,_,rfl,_,rfl,x,gk,v,gj,rfl,Ï s2.ts _ _ hx,il,by lia,λ n H3 s3 _ hn=>?_⟩;have hn:=hn fs e;refine⟨_,_,rfl,rfl,_,rfl,?_⟩;rw[þ (by lia)];refine fL ?_;have Kj:∀ s∈fs.map (·.1),∀ a:Nat,a<=gj->s.nxA gk a∈fs.map (·.1):=λ s hs a ha=>by
    obtain⟨q,hq,rfl⟩:=Õ.mp hs;obtain⟨q',h1,h2⟩:=i4 e q hq a ha;exact Õ.mpr ⟨q',h1,h2⟩
   have Wu:∀ s∈fs.map (·.1),bh (λ s a=>s.nxA gk a) (gM gk v) gj s∈M:=λ s hs=>by rw[eM];exact bY.mpr (ę hs)
   have Wv:∀ b∈M,∃ s∈fs.map (·.1),b=bh (λ s a=>s.nxA gk a) (gM gk v) gj s:=λ b hb=>by
    rw[eM,bY] at hb;obtain⟨s,h1,h2⟩:=Õ.mp hb;exact⟨s,h1,h2.symm⟩
   have Ww:M.length<=200:=by
    have:=gR ((fs.map (·.1)).map (bh (λ s a=>s.nxA gk a) (gM gk v) gj));rw[<- eM,Ê,Ê] at this;lia
   have Rz:kF gk∈fs.map (·.1):=by
    obtain⟨q,hq,e1⟩:=(oS (by decide) e).1;exact Õ.mpr ⟨q,hq,gF _ _ e1⟩
   obtain⟨m0,c_⟩:=Fh.pre 0;have Wx:M=O4 gk v gj::m0:=c_;have QO:1<=M.length:=by rw[Wx,ë];lia
   have Ac:=yf.same s3;obtain⟨RA,Bx,RB⟩:=id Ac;refine⟨_,rfl,_,"list",_,true,rfl,.inl (.lst Bx),yN K,_,rfl,fL ?_⟩;refine⟨_,rfl,_,rfl,rl,gj,_,M,rfl,Ac,Fh,by lia,QO,Ww,_,rfl,fL ?_⟩;refine⟨_,rfl,rl,gj,M,rfl,Ac,Fh.nd,λ b hb a ha=>?_,λ b hb=>?_,by lia,Ww,λ H4 s4=>⟨_,rfl,fL ?_⟩⟩
   ·obtain⟨s,hs,rfl⟩:=Wv b hb;rw[<- nJ ha];exact Wu _ (Kj s hs a ha)
   ·obtain⟨s,hs,rfl⟩:=Wv b hb;exact⟨by rw[bh],λ a w h=>by rw[bh,Ä (by lia)]⟩
   have Ff:=Ï (s2.ts.trans (s3.trans s4).ts) _ _ hx;have RD:=Ac.same s4;clear hx yf Ac Bx RB RA kl mz s3 s2 Bl;obtain⟨rm,RE⟩:∃ rm:Sta->Nat,∀ s,rm s=aR M (bh (λ s a=>s.nxA gk a) (gM gk v) gj s):=⟨_,λ _=>rfl⟩;have d_:rm (kF gk)=0:=by rw[RE,Wx,aR];exact Å rfl
   refine⟨_,rfl,x,gk,rfl,Ff,il,λ st H5 s5 qi=>⟨(show 2<=sizeLine by decide),λ p0 Wy=>⟨(show 1<=sizeLine by decide),λ pl kc=>?_⟩⟩⟩;have s6:aE H5 (upd H5 p0 (.tup [st,.int 0])):=È Wy;have i6:Is K (upd H5 p0 (.tup [st,.int 0])) (oW rm (kF gk)) (.ref p0):=by
    refine Ô (ds:=[cV (kF gk),.int (rm (kF gk):Int)]) (Ì aB) (.cons (Ï s6.ts _ _ qi) (.cons ?_ .nil));rw[d_];exact è _
   generalize upd H5 p0 (.tup [st,.int 0])=H6 at s6 i6 kc ⊢;have s7:aE H6 (upd H6 pl (.lst [.ref p0])):=È kc;have Ad:upd H6 pl (.lst [.ref p0]) pl=some (.lst [.ref p0]):=aB;have e_:H4 pl=none:=(s5.trans s6).free kc;generalize upd H6 pl (.lst [.ref p0])=H7 at s7 Ad ⊢;refine λ pd Kk=>⟨_,rfl,.inl ⟨pl,[.ref p0],0,.ref p0,rfl,rfl,Ë (È Kk _ _ Ad),rfl,?_⟩⟩;have Aq:pl≠pd:=aH Ad Kk;have s8:aE H7 (upd H7 pd (.dK [])):=È Kk;have g8:upd H7 pd (.dK []) pd=some (.dK []):=aB;have RG:aE H4 (upd H7 pd (.dK [])):=((s5.trans s6).trans s7).trans s8;have Wz:H4 pd=none:=((s5.trans s6).trans s7).free Kk;generalize upd H7 pd (.dK [])=H8 at s8 g8 RG ⊢;have i8:=Ï (s7.trans s8).ts _ _ i6;refine⟨g8,.tup [xO gk,.int 0],oW rm (kF gk),wN (nR gk) i8,λ H9 b9 d9=>?_⟩;have Fx:mH (H8 pd):=by rw[g8];exact trivial
   have WA:=b9.ts (K:=K) Fx;have B9:Pr12 P w K gk rm H9 pl pd [kF gk]:=⟨⟨_,b9 _ _ Aq (s8 _ _ Ad),.cons (Ï WA _ _ i8) .nil⟩,⟨_,d9,rfl,λ z=>by
    rw[é]
    by_cases c:oW rm (kF gk)=oW rm z
    ·rw[d0 c];exact⟨λ _=>(BB c).symm,λ _=>rfl⟩
    ·rw[cR c,xR];exact⟨λ h=>(by cases h),λ e=>absurd (congrArg (oW rm) e.symm) c⟩⟩,λ z hz=>by rw[é.mp hz];exact nR gk,by simp,Aq⟩
   have WB:aE H4 H9:=λ b o e=>b9 b o (aH e Wz) (RG b o e);clear b9 d9 i8 i6 WA Fx s8 g8 RG Ad s7 s6 s5 qi Wy kc Kk;refine⟨λ m ad H'=>aE H4 H'/\∃ (p:Nat) (L:List Sta) (v9 jr ju me:Option V),m=300 - p/\p<=L.length/\Pr12 P w K gk rm H' pl pd L/\(∀ s∈L,s∈fs.map (·.1))/\
     ad=[some (.ref a),some (.ref t),some x,some (.int v),some (.int (gj:Int)),some (.ref rl),some (.ref pl),some (.ref pd),some (.int (p:Int)),v9,jr,ju,me],
    ⟨_,WB,0,_,_,_,_,_,rfl,æ _,B9,λ s hs=>by rw[é.mp hs];exact Rz,rfl⟩,?_⟩
   rintro m ad kf zF;refine ĸ λ _ ŉ=>?_;obtain⟨kh,p,L,v9,jr,ju,me,rfl,f_,Nh,sub,rfl⟩:=zF;refine ŉ ?_;obtain⟨us,nz,Gj⟩:=Nh.ls;have vd:us.length=L.length:=(å Gj).symm;have hL:∀ {H' L},Pr12 P w K gk rm H' pl pd L->(∀ s∈L,s∈fs.map (·.1))->L.length<=200:=λ B h=>by
    have:=lT B.nd h;rw[Ê] at this;lia
   have hl:=hL Nh sub;refine⟨_,rfl,_,rfl,pl,us,rfl,.inl (Ë nz),_,_,rfl,rfl,_,rfl,?_⟩;refine gX (λ hT=>?_) (λ hN=>k _);have hT:(p:Int) < us.length:=by simpa using hT
   refine⟨λ ad H'=>aE H4 H'/\∃ (p':Nat) (L:List Sta) (v9 jr ju me:Option V),p'=p+1/\p'<=L.length/\Pr12 P w K gk rm H' pl pd L/\(∀ s∈L,s∈fs.map (·.1))/\
     ad=[some (.ref a),some (.ref t),some x,some (.int v),some (.int (gj:Int)),some (.ref rl),some (.ref pl),some (.ref pd),some (.int (p':Int)),v9,jr,ju,me],
    λ ad H' ⟨h1,p',L',w9,ww,Ed,RH,h2,h⟩=>⟨300 - p',by lia,h1,p',L',w9,ww,Ed,RH,rfl,h⟩,?_⟩
   obtain⟨d,hd⟩:∃ d,L[p]? = some d:=⟨_,ä (by lia)⟩;refine⟨_,rfl,_,_,rfl,rfl,_,rfl,by lia,by lia,?_⟩;rw[show ((gj:Int)+1).toNat=gj+1 by lia];refine fC (lo:=0) (n:=gj+1) (λ i ad H'=>aE H4 H'/\∃ (L:List Sta) (v9 jr ju me:Option V),L[p]? = some d/\Pr12 P w K gk rm H' pl pd L/\(∀ s∈L,s∈fs.map (·.1))/\
     ad=[some (.ref a),some (.ref t),some x,some (.int v),some (.int (gj:Int)),some (.ref rl),some (.ref pl),some (.ref pd),some (.int (p:Int)),v9,jr,ju,me]) ⟨kh,L,_,_,_,_,hd,Nh,sub,rfl⟩ ?_ ?_
   rotate_left
   ·rintro ad ow zF;refine ĸ λ _ ŉ=>?_;obtain⟨Ba,L',w9,ww,Ed,RH,Gp,Kl,RI,rfl⟩:=zF;refine ŉ ?_;have:=(Ò.mp Gp).1;exact⟨_,rfl,_,_,rfl,rfl,Ba,p+1,L',_,_,_,_,rfl,by lia,Kl,RI,rfl⟩
   clear hd Nh nz Gj vd sub hl f_ WB B9 kh;rintro DD i - lq ad ow hi zF;refine ĸ λ _ ŉ=>?_;obtain⟨Ba,L',w9,ww,Ed,RH,hd,Kl,sub,rfl⟩:=zF;refine ŉ ?_;rw[į];dsimp only [eB];obtain⟨us,nz,Gj⟩:=Kl.ls;obtain⟨u,hu,iu⟩:=Ĩ Gj hd;have Fz:=Ú hd;have Ar:=Kl.ok d Fz;have Cf:=sub d Fz;obtain⟨ua,uz,rfl,qu,lu⟩:=(show Is K ow (.tup [cV d,.int (rm d:Int)]) u from iu).un;obtain⟨b,r1,rfl,hb,lu⟩:=lu.un;obtain⟨z2,r2,rfl,Be,lu⟩:=lu.un;have:=lu.un0;subst this;obtain rfl:=Be.ui;refine⟨_,rfl,_,rfl,_,rfl,.inl ⟨pl,us,(p:Int),.ref ua,rfl,rfl,Ë nz,bN hu,.inr (.inl ⟨ua,_,0,b,rfl,rfl,qu,rfl,_,rfl,_,rfl,x,b,gk,d,v,i,rfl,Ï Ba.ts _ _ Ff,hb,il,Ar,λ pp y Mm Ih qp iy=>?_⟩)⟩⟩;have Gk:=Kl.same Ih;have Fi:=Ba.trans Ih;have Ae:=Ih _ _ nz;have RJ:=Ih.tup qu;obtain⟨RA,Bx,RB⟩:=RD.same Fi;have g_:=Wu d Cf;refine ĸ λ _ ŉ=>?_;obtain⟨ru,WC,WD,vs,rfl,Gi,pv⟩:=Ĩ RB (gA (fK g_));refine ŉ ?_;rw[<- RE] at WC;have yc:vs.length=gj+1:=by rw[<- å pv,Ê,Ć]
   obtain⟨yv,WE⟩:∃ yv,vs[i]? = some yv:=⟨_,ä (by lia)⟩;obtain⟨z,hz,q,rfl,hq⟩:=ď pv WE;rw[Ð,ģ (by lia)] at hz;have lw:z=(rm (d.nxA gk i),gM gk v d i):=by
    rw[RE,nJ (nxt:=λ s a=>Sta.nxA gk s a) (by lia),<- xF (nxt:=λ s a=>Sta.nxA gk s a) (out:=gM gk v) (gj:=gj) (by lia)];exact (â hz).symm
   subst lw;clear hz;refine⟨_,rfl,_,rfl,_,rfl,.inl ⟨pl,us,(p:Int),.ref ua,rfl,rfl,Ë Ae,bN hu,.inr (.inl ⟨ua,_,1,_,rfl,rfl,RJ,rfl,.inl ⟨rl,RA,(rm d:Int),.ref WD,rfl,rfl,Ë Bx,bN WC,_,rfl,.inl ⟨WD,vs,(i:Int),.ref q,rfl,rfl,Ë Gi,bN WE,?_⟩⟩⟩)⟩⟩;refine⟨q,_,rfl,hq,rfl,_,_,rfl,_,_,rfl,rfl,?_⟩;refine⟨_,rfl,_,rfl,.inr (.inl ⟨pp,_,1,_,rfl,rfl,qp,rfl,rfl,_,rfl,?_⟩)⟩;rw[show (!decide (V.bl (rm (d.nxA gk i),gM gk v d i).snd=V.bl (gM gk v d i)))=false by simp];refine fL ?_;have sw:jH gk (d.nxA gk i):=wJ il Ar i;have RK:d.nxA gk i∈fs.map (·.1):=Kj d Cf i (by lia);obtain⟨gu,dd,Ju,Ew⟩:=Gk.dd;obtain⟨us2,Km,Kn⟩:=Gk.ls;rw[Ae] at Km;cases Km;have vd:=(å Kn).symm;have hl:=hL Gk sub;have RL:∀ (H:Hp) (pt:Á),bJ K Mm H->H pt=some (.tup [y,gN (rm (d.nxA gk i))])->Is K H (oW rm (d.nxA gk i)) (.ref pt):=λ H pt ts Cz=>Ô (ds:=[cV (d.nxA gk i),.int (rm (d.nxA gk i):Int)]) (Ì Cz) (.cons (Ï ts _ _ iy) (.cons (è _) .nil));refine⟨_,rfl,.inr (.inl ⟨pp,_,0,_,rfl,rfl,qp,rfl,_,rfl,(show 2<=sizeLine by decide),λ p1 Rg=>?_⟩)⟩;have uv:=È (o:=HO.tup [y,gN (rm (d.nxA gk i))]) Rg;refine⟨_,rfl,pd,.tup [xO gk,.int 0],gu,oW rm (d.nxA gk i),rfl,dd.same uv,wN sw (RL _ _ uv.ts aB),_,rfl,?_⟩
   by_cases c:d.nxA gk i∈L'
   ·rw[(Ew _).mpr c];refine fL ?_;exact lq _ _ ⟨Fi.trans uv,L',_,_,_,_,hd,Gk.same uv,sub,rfl⟩
   ·have QX:(cI gu (oW rm (d.nxA gk i))).isSome=false:=by
     cases e:(cI gu (oW rm (d.nxA gk i))).isSome with
     | false=>rfl
     | true=>exact absurd ((Ew _).mp e) c
    rw[QX];refine iC ?_;generalize upd Mm p1 (.tup [y,gN (rm (d.nxA gk i))])=Rt at uv ⊢;refine⟨_,rfl,_,rfl,.inr (.inl ⟨pp,_,0,_,rfl,rfl,uv.tup qp,rfl,_,rfl,(show 2<=sizeLine by decide),λ p2 Cq=>?_⟩)⟩;have sj:=È (o:=HO.tup [y,gN (rm (d.nxA gk i))]) Cq;have WF:=RL _ p2 (uv.trans sj).ts aB;generalize upd Rt p2 (.tup [y,gN (rm (d.nxA gk i))])=Z3 at sj WF ⊢;refine⟨pd,.tup [xO gk,.int 0],gu,oW rm (d.nxA gk i),rfl,dd.same (uv.trans sj),wN sw WF,bU (by rw[Ju];lia),λ Fc RM h_=>?_⟩;have Fj:=RM.ts (K:=K) (dd.same (uv.trans sj)).mut;have Af:Fc pl=some (.lst us):=RM _ _ Gk.ne ((uv.trans sj) _ _ Ae);have Bv:aE H4 Fc:=λ b o e=>RM b o (aH e Wz) (((Fi.trans uv).trans sj) b o e);refine⟨_,rfl,.inl ⟨rfl,_,Ë Af⟩,_,rfl,.inr (.inl ⟨pp,_,0,_,rfl,rfl,Fj _ _ ((uv.trans sj).tup qp),rfl,_,rfl,(show 2<=sizeLine by decide),λ p3 i_=>?_⟩)⟩;have zw:=È (o:=HO.tup [y,gN (rm (d.nxA gk i))]) i_;have WG:=RL _ p3 (((uv.trans sj).ts.trans Fj).trans zw.ts) aB;generalize upd Fc p3 (.tup [y,gN (rm (d.nxA gk i))])=H16 at zw WG ⊢;refine⟨pl,us,_,rfl,rfl,zw _ _ Af,bU (by lia),?_⟩;refine lq _ _ ⟨(Bv.trans zw).put e_,L'++[d.nxA gk i],_,_,_,_,by rw[ě (Ò.mp hd).1];exact hd,Gk.snoc c sw (zw _ _ Af) (ì Kn λ _ _ z=>Ï (((uv.trans sj).ts.trans Fj).trans zw.ts) _ _ z) Ju Ew WG (h_.same zw),λ s hs=>?_,rfl⟩;rcases ñ.mp hs with hs | hs
    ·exact sub s hs
    ·rw[é.mp hs];exact RK
theorem iS {α:Type}{p:List α->Prop} (h:∀ a0,p [a0]):∀ us:List α,us.length=1->p us
 | [a0],_=>h a0
theorem qV {α:Type}{p:List α->Prop} (h:∀ a0 a1,p [a0,a1]):∀ us:List α,us.length=2->p us
 | [a0,a1],_=>h a0 a1
theorem eR {α:Type}{p:List α->Prop} (h:∀ a0 a1 a2,p [a0,a1,a2]):∀ us:List α,us.length=3->p us
 | [a0,a1,a2],_=>h a0 a1 a2
theorem qU {α:Type}{p:List α->Prop} (h:∀ a0 a1 a2 a3,p [a0,a1,a2,a3]):∀ us:List α,us.length=4->p us
 | [a0,a1,a2,a3],_=>h a0 a1 a2 a3
theorem L8 {α:Type}{p:List α->Prop} (h:∀ a0 a1 a2 a3 a4,p [a0,a1,a2,a3,a4]):∀ us:List α,us.length=5->p us
 | [a0,a1,a2,a3,a4],_=>h a0 a1 a2 a3 a4
abbrev Na (K:Ç) (x:Str) (f:Á):Prop:=PySem.W.nsIn K mainGlobals x=some (some (.ref f))
abbrev Nn (K:Ç) (x:Str):Prop:=PySem.W.nsIn K mainGlobals x=some none
abbrev Kp (K:Ç) (f:Á):Prop:=PySem.W.keepIn K (.ref f)=true
abbrev Cd (K:Ç) (c:À) (q:Str):Prop:=PySem.W.codeIn K c q=true
abbrev Lk (K:Ç) (f:Á) (m q:Str) (s:Stmt) (oc:À) (od:Option Á) (kV dc pm:À) (an:Option Á) (cd ct:À) (sl:Array (Option À)):Prop:=K.lookup f=some ⟨oc,od,.func (PySem.W.fnOf m q (lY s) (fZ s) (aL s) .none kV dc pm an cd ct),sl⟩
theorem all_mk {l:PySem.W.OpenLaw}{w:World}{K:Ç}{h:Heap}{mg:Str->Option À}{fa f0 f1 f2 f3 f4 f5 f6 f7 f8 f9 Ni Nj Nk Nl Nm No Np Nq Nr Nt Nu Nv Nw Nx Ny Nz Oa Ob Oc Od Oe RN iz iq gz ie gr ii ij ik ir:Á} (X:K.In h) (G:h.Ns mainGlobals mg) (VP:mg "law" = some (.ref fa))
  {j_ k_ l_ m_ n_ o_ p_ q_ r_ s_ t_ u_ v_ w_ x_ y_ z_ A_ B_ C_ RO RP RQ RT RU RV RW RX RY RZ R0 R1 R3 R4 R5 R6 R7 R8 R9 Sa Sb Sc Sd Se Sf Sg Sh Si Sj Sk Sl Sm So Sq Ss Su Sv Sw Sx Sy Sz SA SB Ko:Option Á}{D_ E_ Fp F_ G_ H_ I_ J_ K_ L_ SC SD SE SF SG SH SJ SK SL SM SN SO SQ SR SS ST SU SV SW SX SY SZ:Array (Option À)}{M_ N_ O_ P_ Q_ WH R_ S_ T_ U_ Rq WI V_ W_ X_ Y_ Rr WJ Z_ l' y' B' F' WK G' J' K' M' O' WL R' T' U' V' W' WM X' Y' Z' pm6 ct6 WN oc7 kV7 dc7 pm7 ct7 WO oc8 kV8 dc8 pm8 ct8 WP oc9 kV9 dc9 pm9 ct9 WQ S0 S2 S3 S4 S5 Kq S6 S7 S8 S9 Ta Kr Tb Tc Td Te Tf Ks Tg Th Ti Tj Tk Kt Tl Tm Tn To Tp Ku Tq Tr Ts Tu Tv Kv Tx Ty Tz TB TC Kw TD TF TH TJ TK TL TM TN TQ TR Kx TU TV TW TX TY Ky TZ T8 T9 Ua Ub Kz Uc Ud Ue Uf Ug La Uh Ui Uj Uk Ul Lb Um Uo Up Uq Ur Lc Us Ut Uu Uv Uw Ld Ux Uy Uz UA UB Le UC UD UE UF UG Lf UH UI UJ UK UM Lg UN UO UP UQ UR Lh US UT UU UV UW Li UX UY UZ U0 U1 Lj U2 Ll Lm Ln Lo Fk:À}
  {tkL:Tok}
  {ts:List Á}
  {Gm By:Á}{U3:Option Á}{Lp:Array À}{U4:Array (Option À)}
  {qcM:À}{qdM:Option Á}{qkM:ClassData}{qsM:Array (Option À)}
  (a0:Na K "_law_draw" f0)
  (l0:Lk K f0 "_law_draw" "_law_draw" (bW 29) M_ j_ N_ O_ P_ k_ WH Q_ D_)
  (c0:Cd K WH "_law_draw")
  (k0:Kp K f0)
  (a1:Na K "_law_outs" f1)
  (l1:Lk K f1 "_law_outs" "_law_outs" (bW 32) R_ l_ S_ T_ U_ m_ WI Rq E_)
  (c1:Cd K WI "_law_outs")
  (k1:Kp K f1)
  (a2:Na K "_law_vessel" f2)
  (l2:Lk K f2 "_law_vessel" "_law_vessel" (bW 33) V_ n_ W_ X_ Y_ o_ WJ Rr Fp)
  (c2:Cd K WJ "_law_vessel")
  (k2:Kp K f2)
  (a3:Na K "_law_net" f3)
  (l3:Lk K f3 "_law_net" "_law_net" (bW 34) Z_ p_ l' y' B' q_ WK F' F_)
  (c3:Cd K WK "_law_net")
  (k3:Kp K f3)
  (a4:Na K "_law_small" f4)
  (l4:Lk K f4 "_law_small" "_law_small" (bW 39) G' r_ J' K' M' s_ WL O' G_)
  (c4:Cd K WL "_law_small")
  (k4:Kp K f4)
  (a5:Na K "_law_far_on" f5)
  (l5:Lk K f5 "_law_far_on" "_law_far_on" (bW 40) R' t_ T' U' V' u_ WM W' H_)
  (c5:Cd K WM "_law_far_on")
  (k5:Kp K f5)
  (a6:Na K "_law_wide" f6)
  (l6:Lk K f6 "_law_wide" "_law_wide" (bW 41) X' v_ Y' Z' pm6 w_ WN ct6 I_)
  (c6:Cd K WN "_law_wide")
  (k6:Kp K f6)
  (a7:Na K "first_state" f7)
  (l7:Lk K f7 "first_state" "first_state" (bW 11) oc7 x_ kV7 dc7 pm7 y_ WO ct7 J_)
  (c7:Cd K WO "first_state")
  (k7:Kp K f7)
  (a8:Na K "pouring" f8)
  (l8:Lk K f8 "pouring" "pouring" (bW 12) oc8 z_ kV8 dc8 pm8 A_ WP ct8 K_)
  (c8:Cd K WP "pouring")
  (k8:Kp K f8)
  (a9:Na K "filled" f9)
  (l9:Lk K f9 "filled" "filled" (bW 14) oc9 B_ kV9 dc9 pm9 C_ WQ ct9 L_)
  (c9:Cd K WQ "filled")
  (k9:Kp K f9)
  (a10:Na K "send" Ni)
  (l10:Lk K Ni "send" "send" (bW 17) S0 RO S2 S3 S4 RP Kq S5 SC)
  (c10:Cd K Kq "send")
  (WR:Kp K Ni)
  (a11:Na K "share_out" Nj)
  (l11:Lk K Nj "share_out" "share_out" (bW 16) S6 RQ S7 S8 S9 RT Kr Ta SD)
  (c11:Cd K Kr "share_out")
  (WS:Kp K Nj)
  (a12:Na K "settle" Nk)
  (l12:Lk K Nk "settle" "settle" (bW 15) Tb RU Tc Td Te RV Ks Tf SE)
  (c12:Cd K Ks "settle")
  (WT:Kp K Nk)
  (a13:Na K "doors_behind" Nl)
  (l13:Lk K Nl "doors_behind" "doors_behind" (bW 18) Tg RW Th Ti Tj RX Kt Tk SF)
  (c13:Cd K Kt "doors_behind")
  (WU:Kp K Nl)
  (a14:Na K "tick_behind" Nm)
  (l14:Lk K Nm "tick_behind" "tick_behind" (bW 13) Tl RY Tm Tn To RZ Ku Tp SG)
  (c14:Cd K Ku "tick_behind")
  (WV:Kp K Nm)
  (a15:Na K "watch" No)
  (l15:Lk K No "watch" "watch" (bW 20) Tq R0 Tr Ts Tu R1 Kv Tv SH)
  (c15:Cd K Kv "watch")
  (WW:Kp K No)
  (a16:Na K "go_through" Np)
  (l16:Lk K Np "go_through" "go_through" (bW 21) Tx R3 Ty Tz TB R4 Kw TC SJ)
  (c16:Cd K Kw "go_through")
  (WX:Kp K Np)
  (a17:Na K "whole_machine" Nq)
  (l17:Lk K Nq "whole_machine" "whole_machine" (bW 25) TD R5 TF TH TJ R6 (.ref Gm) TK SK)
  (c17:Cd K (.ref Gm) "whole_machine")
  (WY:Kp K Nq)
  (a18:Na K "numbered" Nr)
  (l18:Lk K Nr "numbered" "numbered" (bW 27) TL R7 TM TN TQ R8 Kx TR SL)
  (c18:Cd K Kx "numbered")
  (WZ:Kp K Nr)
  (a19:Na K "rooms_of" Nt)
  (l19:Lk K Nt "rooms_of" "rooms_of" (bW 26) TU R9 TV TW TX Sa Ky TY SM)
  (c19:Cd K Ky "rooms_of")
  (W0:Kp K Nt)
  (a20:Na K "least" Nu)
  (l20:Lk K Nu "least" "least" (bW 24) TZ Sb T8 T9 Ua Sc Kz Ub SN)
  (c20:Cd K Kz "least")
  (W1:Kp K Nu)
  (a21:Na K "_law_word" Nv)
  (l21:Lk K Nv "_law_word" "_law_word" (bW 31) Uc Sd Ud Ue Uf Se La Ug SO)
  (c21:Cd K La "_law_word")
  (W2:Kp K Nv)
  (a22:Na K "_law_tried" Nw)
  (l22:Lk K Nw "_law_tried" "_law_tried" (bW 42) Uh Sf Ui Uj Uk Sg Lb Ul SQ)
  (c22:Cd K Lb "_law_tried")
  (W3:Kp K Nw)
  (a23:Na K "_law_first" Nx)
  (l23:Lk K Nx "_law_first" "_law_first" (bW 35) Um Sh Uo Up Uq Si Lc Ur SR)
  (c23:Cd K Lc "_law_first")
  (W4:Kp K Nx)
  (a24:Na K "_law_filled" Ny)
  (l24:Lk K Ny "_law_filled" "_law_filled" (bW 36) Us Sj Ut Uu Uv Sk Ld Uw SS)
  (c24:Cd K Ld "_law_filled")
  (W5:Kp K Ny)
  (a25:Na K "_law_tick" Nz)
  (l25:Lk K Nz "_law_tick" "_law_tick" (bW 37) Ux Sl Uy Uz UA Sm Le UB ST)
  (c25:Cd K Le "_law_tick")
  (W6:Kp K Nz)
  (a26:Na K "_law_step" Oa)
  (l26:Lk K Oa "_law_step" "_law_step" (bW 38) UC So UD UE UF Sq Lf UG SU)
  (c26:Cd K Lf "_law_step")
  (W7:Kp K Oa)
  (a27:Na K "_law_states" Ob)
  (l27:Lk K Ob "_law_states" "_law_states" (bW 43) UH Ss UI UJ UK Su Lg UM SV)
  (c27:Cd K Lg "_law_states")
  (W8:Kp K Ob)
  (a28:Na K "_law_whole" Oc)
  (l28:Lk K Oc "_law_whole" "_law_whole" (bW 30) UN Sv UO UP UQ Sw Lh UR SW)
  (c28:Cd K Lh "_law_whole")
  (W9:Kp K Oc)
  (a29:Na K "_law_in_order" Od)
  (l29:Lk K Od "_law_in_order" "_law_in_order" (bW 44) US Sx UT UU UV Sy Li UW SX)
  (c29:Cd K Li "_law_in_order")
  (Xa:Kp K Od)
  (a30:Na K "_law_all_parted" Oe)
  (l30:Lk K Oe "_law_all_parted" "_law_all_parted" (bW 45) UX Sz UY UZ U0 SA Lj U1 SY)
  (c30:Cd K Lj "_law_all_parted")
  (Xb:Kp K Oe)
  (a31:Na K "law" RN)
  (l31:Lk K RN "law" "law" (bW 46) U2 SB Ll Lm Ln Ko Fk Lo SZ)
  (c31:Cd K Fk "law")
  (k31:Kp K RN)
  (mcL:PySem.W.nsIn K mainGlobals "MOST_STATES" = some (some (.int 200 tkL)))
  (yl17:K.lookup Gm=some ⟨.type "code",U3,.fields Lp,U4⟩)
  (vp:Na K "TipError" iz)
  (Bz:Na K "NoNet" iq)
  (vq:Na K "NoVessel" gz)
  (xn:Na K "TooLong" ie)
  (re:Na K "TooMany" gr)
  (xo:Na K "TooMuch" ii)
  (xp:Na K "Nothing" ij)
  (Ag:Na K "NoText" ik)
  (Ca:Na K "NoRow" ir)
  (xv:Nn K "ValueError")
  (gaM:PySem.W.findIn K (.ref gr) "__getattribute__" = some (some (.builtin "BaseException.__getattribute__")))
  (gtM:PySem.W.findIn K (.ref gr) "__getattr__" = some none)
  (caM:PySem.W.findIn K (.ref gr) "__class__" = some (some (.builtin "object.__class__")))
  (gg:PySem.W.specialIn K (.builtin "object.__class__") "__get__" = some (some (.builtin "getset_descriptor.__get__")))
  (tk:PySem.W.takesIn K (.builtin "object.__class__")=some true)
  (moM:PySem.W.mroIn K gr (.type "object")=some true)
  (mbM:PySem.W.mroIn K gr (.type "BaseException")=some true)
  (clM:K.lookup gr=some ⟨qcM,qdM,.cls qkM,qsM⟩)
  (z0:Nn K "len")
  (z1:Nn K "sum")
  (z2:Nn K "all")
  (z3:Nn K "max")
  (z4:Nn K "min")
  (z5:Nn K "int")
  (z6:Nn K "tuple")
  (z7:Nn K "list")
  (z8:Nn K "bool")
  (z9:Nn K "range")
  (z10:Nn K "zip")
  (z11:Nn K "enumerate")
  (z12:Nn K "isinstance")
  (z13:Nn K "divmod")
  (z14:Nn K "set")
  (z15:Nn K "sorted")
  (yp17:Lp[11]? = some (.ref By))
  (yn17:K.lookup By=none)
  (yt17:By∈ts)
  (yh17:PySem.W.codeHdIn K Gm By=true)
  (exM:PySem.W.excIn K gr [.type "ValueError",.type "Exception",.type "BaseException",.type "object"] "ValueError.__new__" = true)
  (vaM:PySem.W.kitOne K (.ref gr) (.type "ValueError")=some true)
  (kkM0:PySem.W.kitOne K (.ref gr) (.ref iq)=some false)
  (kkM1:PySem.W.kitOne K (.ref gr) (.ref gz)=some false)
  (kkM2:PySem.W.kitOne K (.ref gr) (.ref ie)=some false)
  (kkM3:PySem.W.kitOne K (.ref gr) (.ref gr)=some true)
  (kkM4:PySem.W.kitOne K (.ref gr) (.ref ii)=some false)
  (kkM5:PySem.W.kitOne K (.ref gr) (.ref ij)=some false)
  (kkM6:PySem.W.kitOne K (.ref gr) (.ref ik)=some false)
  (kkM7:PySem.W.kitOne K (.ref gr) (.ref ir)=some false)
  (hmMh:PySem.W.exmOne K (.ref gr) (.ref iz)=some true) :
  ∃ (fd:FuncData) (ip:List (Á×Á)),(∀ q∈ip,q.2∈ts/\K.lookup q.2=none/\PySem.W.codeHdIn K q.1 q.2=true)/\(∀ (s:Â) (v:À),BindsTo s fd ⟨[v],[]⟩ [("script",v)])/\∀ base:Heap,K.In base->base.Ns mainGlobals mg->(∀ q∈ip,NestB mg base q.1 q.2)->FnOk l.prog w K mg base kA 11 fa fd ["script"] (spT K ip):=by
 have e:=VP.symm.trans (Ü X G a31);cases e;have T:Txt mg:=⟨Ā X G z0,Ā X G z1,Ā X G z2,Ā X G z3,Ā X G z4,Ā X G z5,Ā X G z6,Ā X G z7,Ā X G z8,Ā X G z9,Ā X G z10,Ā X G z11,Ā X G z12,Ā X G z13,Ā X G z14,Ā X G z15⟩;have UL:TxtL mg:=⟨⟨_,Ü X G mcL,_,rfl⟩⟩;have W:TxtW mg iz iq gz ie gr ii ij ik ir:=⟨Ü X G vp,Ü X G Bz,Ü X G vq,Ü X G xn,Ü X G re,Ü X G xo,Ü X G xp,Ü X G Ag,Ü X G Ca,Ā X G xv⟩;have jw:ExC K "TooMany" gr:=⟨re,exM⟩;have kdM:KindOf K iq gz ie gr ii ij ik ir gr [false,false,false,true,false,false,false,false]:=⟨⟨gaM,gtM,caM,gg,tk,moM,mbM⟩,⟨_,_,_,_,clM⟩,vaM,⟨_,_,_,_,_,_,_,_,rfl,kkM0,kkM1,kkM2,kkM3,kkM4,kkM5,kkM6,kkM7⟩⟩;have hmM:=hmMh;have F0:=bZ (st:=(bW 29)) l0 c0 k0;have F1:=bZ (st:=(bW 32)) l1 c1 k1;have F2:=bZ (st:=(bW 33)) l2 c2 k2;have F3:=bZ (st:=(bW 34)) l3 c3 k3;have F4:=bZ (st:=(bW 39)) l4 c4 k4;have F5:=bZ (st:=(bW 40)) l5 c5 k5;have F6:=bZ (st:=(bW 41)) l6 c6 k6;have F7:=bZ (st:=(bW 11)) l7 c7 k7;have F8:=bZ (st:=(bW 12)) l8 c8 k8;have F9:=bZ (st:=(bW 14)) l9 c9 k9;have Xc:=bZ (st:=(bW 17)) l10 c10 WR;have Xd:=bZ (st:=(bW 16)) l11 c11 WS;have Xe:=bZ (st:=(bW 15)) l12 c12 WT;have Xf:=bZ (st:=(bW 18)) l13 c13 WU;have Xg:=bZ (st:=(bW 13)) l14 c14 WV;have Xh:=bZ (st:=(bW 20)) l15 c15 WW;have Xi:=bZ (st:=(bW 21)) l16 c16 WX;have Xj:=bZ (st:=(bW 25)) l17 c17 WY;have Xk:=bZ (st:=(bW 27)) l18 c18 WZ;have Xl:=bZ (st:=(bW 26)) l19 c19 W0;have Xm:=bZ (st:=(bW 24)) l20 c20 W1;have Xn:=bZ (st:=(bW 31)) l21 c21 W2;have Xo:=bZ (st:=(bW 42)) l22 c22 W3;have Xp:=bZ (st:=(bW 35)) l23 c23 W4;have Xq:=bZ (st:=(bW 36)) l24 c24 W5;have Xr:=bZ (st:=(bW 37)) l25 c25 W6;have Xs:=bZ (st:=(bW 38)) l26 c26 W7;have Xt:=bZ (st:=(bW 43)) l27 c27 W8;have Xu:=bZ (st:=(bW 30)) l28 c28 W9;have Xv:=bZ (st:=(bW 44)) l29 c29 Xa;have Xw:=bZ (st:=(bW 45)) l30 c30 Xb;have F31:=bZ (st:=(bW 46)) l31 c31 k31;refine⟨PySem.W.fnOf "law" "law" (lY (bW 46)) (fZ (bW 46)) (aL (bW 46)) .none Ll Lm Ln Ko Fk Lo,[(Gm,By)],λ q hq=>?_,λ s v=>.of_eq rfl,λ base _ _ hN=>?_⟩
 ·simp only [Ý,ŷ,or_false] at hq;rcases hq with rfl
  ·exact⟨yt17,yn17,yh17⟩
 have jl:=hN (Gm,By) (by simp);have C0:Callee l.prog w K mg base "_law_draw" ["tape","many"] 1 iT f0 _:=⟨wI F0 T,Ü X G a0,k0,F0.binds λ _ _ _ _ _ _=>qV λ _ _=>rfl⟩;have C1:Callee l.prog w K mg base "_law_outs" ["tape","many","small"] 2 (zS K) f1 _:=⟨wG F1 T C0,Ü X G a1,k1,F1.binds λ _ _ _ _ _ _=>eR λ _ _ _=>rfl⟩;have C2:Callee l.prog w K mg base "_law_vessel" ["tape","number","many","spouts","small"] 3 (rE K) f2 _:=⟨rZ F2 T C0 C1,Ü X G a2,k2,F2.binds λ _ _ _ _ _ _=>L8 λ _ _ _ _ _=>rfl⟩;have C3:Callee l.prog w K mg base "_law_net" ["tape","most","small"] 4 (vL K) f3 _:=⟨wH F3 T C0 C2,Ü X G a3,k3,F3.binds λ _ _ _ _ _ _=>eR λ _ _ _=>rfl⟩;have C4:Callee l.prog w K mg base "_law_small" ["tape"] 5 (vH K) f4 _:=⟨tR F4 T C3,Ü X G a4,k4,F4.binds λ _ _ _ _ _ _=>iS λ _=>rfl⟩;have C5:Callee l.prog w K mg base "_law_far_on" ["target","shift"] 1 (FL K) f5 _:=⟨sE F5 T,Ü X G a5,k5,F5.binds λ _ _ _ _ _ _=>qV λ _ _=>rfl⟩;have C6:Callee l.prog w K mg base "_law_wide" ["net"] 2 (zR K) f6 _:=⟨wD F6 T C5,Ü X G a6,k6,F6.binds λ _ _ _ _ _ _=>iS λ _=>rfl⟩;have C7:Callee l.prog w K mg base "first_state" ["net"] 1 (jL K) f7 _:=⟨rY F7 T,Ü X G a7,k7,F7.binds λ _ _ _ _ _ _=>iS λ _=>rfl⟩;have C8:Callee l.prog w K mg base "pouring" ["net","amount"] 1 (oZ K) f8 _:=⟨A3 F8 T,Ü X G a8,k8,F8.binds λ _ _ _ _ _ _=>qV λ _ _=>rfl⟩;have C9:Callee l.prog w K mg base "filled" ["spouts","state","poured"] 1 (rJ K) f9 _:=⟨DF F9 T,Ü X G a9,k9,F9.binds λ _ _ _ _ _ _=>eR λ _ _ _=>rfl⟩;have Xx:Callee l.prog w K mg base "send" ["sent","target","amount"] 1 vJ Ni _:=⟨KG Xc T,Ü X G a10,WR,Xc.binds λ _ _ _ _ _ _=>eR λ _ _ _=>rfl⟩;have C11:Callee l.prog w K mg base "share_out" ["outs","has","sent"] 2 (vI K) Nj _:=⟨wB Xd T Xx,Ü X G a11,WS,Xd.binds λ _ _ _ _ _ _=>eR λ _ _ _=>rfl⟩;have C12:Callee l.prog w K mg base "settle" ["vessel","has","sent"] 3 (rG K) Nk _:=⟨DC Xe T Xx C11,Ü X G a12,WT,Xe.binds λ _ _ _ _ _ _=>eR λ _ _ _=>rfl⟩;have C13:Callee l.prog w K mg base "doors_behind" ["vessels","doors","tipped"] 1 (vN K) Nl _:=⟨qG Xf T,Ü X G a13,WU,Xf.binds λ _ _ _ _ _ _=>eR λ _ _ _=>rfl⟩;have C14:Callee l.prog w K mg base "tick_behind" ["net","state","poured"] 4 (vF K) Nm _:=⟨qF Xg T C9 C12 C13,Ü X G a14,WV,Xg.binds λ _ _ _ _ _ _=>eR λ _ _ _=>rfl⟩;have C15:Callee l.prog w K mg base "watch" ["net","state","vessel","amount"] 5 (vD K) No _:=⟨GP Xh T C8 C14,Ü X G a15,WW,Xh.binds λ _ _ _ _ _ _=>qU λ _ _ _ _=>rfl⟩;have C16:CalleeS l.prog w K mg base "go_through" ["first","step","most","limit"] 7 (FK l.prog w K mg base gr cV) Np _:=⟨tP Xi T jw,Ü X G a16,WX,Xi.binds λ _ _ _ _ _ _=>qU λ _ _ _ _=>rfl⟩;have C17:CalleeR l.prog w K mg base "whole_machine" ["net","watched","most"] 8 (zU K By gr) Nq _:=⟨pF Xj T rfl jl UL C7 C15 C16,Ü X G a17,WY,Xj.binds λ _ _ _ _ _ _=>eR λ _ _ _=>rfl⟩;have C18:Callee l.prog w K mg base "numbered" ["signs"] 1 (zT K) Nr _:=⟨yH Xk T,Ü X G a18,WZ,Xk.binds λ _ _ _ _ _ _=>iS λ _=>rfl⟩;have C19:Callee l.prog w K mg base "rooms_of" ["machine"] 2 (vK K) Nt _:=⟨yG Xl T C18,Ü X G a19,W0,Xl.binds λ _ _ _ _ _ _=>iS λ _=>rfl⟩;have C20:CalleeR l.prog w K mg base "least" ["net","watched","most"] 9 (vM K By gr) Nu _:=⟨GQ Xm T C17 C19,Ü X G a20,W1,Xm.binds λ _ _ _ _ _ _=>eR λ _ _ _=>rfl⟩;have C21:Callee l.prog w K mg base "_law_word" ["error"] 1 (zQ K iq gz ie gr ii ij ik ir) Nv _:=⟨wC Xn T W,Ü X G a21,W2,Xn.binds λ _ _ _ _ _ _=>iS λ _=>rfl⟩;have C22:Callee l.prog w K mg base "_law_tried" ["net","watched","most"] 10 (vE K By) Nw _:=⟨qH Xo T W kdM hmM C20 C21,Ü X G a22,W3,Xo.binds λ _ _ _ _ _ _=>eR λ _ _ _=>rfl⟩;have Xy:Callee l.prog w K mg base "_law_first" ["net"] 1 (jL K) Nx _:=⟨tS Xp T,Ü X G a23,W4,Xp.binds λ _ _ _ _ _ _=>iS λ _=>rfl⟩;have C24:Callee l.prog w K mg base "_law_filled" ["net","state","poured"] 1 (p9 K) Ny _:=⟨sD Xq T,Ü X G a24,W5,Xq.binds λ _ _ _ _ _ _=>eR λ _ _ _=>rfl⟩;have C25:Callee l.prog w K mg base "_law_tick" ["net","state","poured","fast"] 2 (vG K) Nz _:=⟨wE Xr T C24,Ü X G a25,W6,Xr.binds λ _ _ _ _ _ _=>qU λ _ _ _ _=>rfl⟩;have Xz:Callee l.prog w K mg base "_law_step" ["net","state","amount","watched"] 3 (qL K) Oa _:=⟨wF Xs T C25,Ü X G a26,W7,Xs.binds λ _ _ _ _ _ _=>qU λ _ _ _ _=>rfl⟩;have C27:Callee l.prog w K mg base "_law_states" ["net","watched","most"] 4 (rF K) Ob _:=⟨sB Xt T Xy Xz,Ü X G a27,W8,Xt.binds λ _ _ _ _ _ _=>eR λ _ _ _=>rfl⟩;have C28:Callee l.prog w K mg base "_law_whole" ["thing","low","high"] 1 vC Oc _:=⟨tQ Xu T,Ü X G a28,W9,Xu.binds λ _ _ _ _ _ _=>eR λ _ _ _=>rfl⟩;have C29:Callee l.prog w K mg base "_law_in_order" ["rooms","most"] 2 (FI K) Od _:=⟨pG Xv T C28,Ü X G a29,Xa,Xv.binds λ _ _ _ _ _ _=>qV λ _ _=>rfl⟩;have C30:Callee l.prog w K mg base "_law_all_parted" ["rooms"] 1 (rH K) Oe _:=⟨n6 Xw T,Ü X G a30,Xb,Xw.binds λ _ _ _ _ _ _=>iS λ _=>rfl⟩;exact ND F31 T C0 C4 C6 C22 C27 C29 C30 Xy Xz
theorem walk {l:PySem.W.OpenLaw}{q:Ã}{loose:List Str}{XP:(Str->Option À)->Heap->Prop}{YP:World->Heap->Prop}{d:DefRec}{K:Params->Ç}{ts:List Á} (hn:l.most=some 63) (Cf:d.params.defaults=[])
  (hY:∀ (w:World) (h:Heap),YP w h->(K w.params).In h) (Qg:∀ (w:World) (h:Heap),YP w h->∀ P∈ts,h.get? P=some (PySem.W.tabObj #[]))
  (F:∀ (w:World) (mg:Str->Option À) (fa:Á) (h:Heap),(K w.params).In h->h.Ns mainGlobals mg->mg d.name=some (.ref fa)->
   ∃ (fd:FuncData) (ip:List (Á×Á)),(∀ q∈ip,q.2∈ts/\(K w.params).lookup q.2=none/\PySem.W.codeHdIn (K w.params) q.1 q.2=true)/\(∀ (s:Â) (u:À),BindsTo s fd ⟨[u],[]⟩ [("script",u)])/\∀ base:Heap,(K w.params).In base->base.Ns mainGlobals mg->(∀ q∈ip,NestB mg base q.1 q.2)->FnOk l.prog w (K w.params) mg base kA 11 fa fd ["script"] (spT (K w.params) ip)) :
  PySem.W.WalkO q loose XP YP l.row.toRowW d [] (λ f vs=>PySem.call f vs):=
 L2.walk_ofT (n:=63) (k:=11) (x := "script") (sp:=spT) hn (by decide) Cf ⟨rfl,by decide,by decide⟩ hY Qg F FG
end Tw
def PySem.W.Fast.tw1261265872097961355:Nat:=0
theorem PySem.W.Fast.te1261265872097961355:PySem.W.Fast.tw1261265872097961355=PySem.W.Fast.tw1261265872097961355:=rfl
def PySem.W.Fast.tw2604508669017534687:PySem.Program:=PySem.Challenge.pw_tipwell_k12_whole_least_machines
theorem PySem.W.Fast.te2604508669017534687:PySem.Challenge.pw_tipwell_k12_whole_least_machines=PySem.W.Fast.tw2604508669017534687:=rfl
namespace PySem.W.Fast
def tw16643300545882606818:=0
def tw18093478269425090635:=0
def tw11531533663172755469:=0
def tw8477346088776438428:=0
def tw11461072016396155708:=0
def tw378100217438167302:=0
def tw17715723242532953311:=0
def tw9730606147475173858:=0
def tw1576679048573952823:=0
def tw14186861711904613838:=0
def tw15379156646968592832:=0
def tw2540869819476604347:=0
def tw5220544600605343104:=0
def tw4209754120626287711:=0
def tw14501521795846214299:=0
def tw12276782134673785302:=0
def tw17411109193456277664:=0
def tw9994892804270869086:=0
def tw5604309236566723148:=0
def tw5997994321423341351:=0
def tw1477934489709528964:=0
def tw17845138144274304533:=0
def tw16151389066925236769:=0
def tw6877582365396966728:=0
def tw6965276721167798655:=0
def tw1953271211458164919:=0
def tw15823351851148374926:=0
def tw6148382338146972397:=0
def tw12174494669391815124:=0
def tw12743800087633033974:=0
def tw15215757798136997136:=0
def tw7173998876990099754:=0
def tw6461854577655066524:=0
def tw5887358117762808182:=0
def tw7996297841186086440:=0
def tw255649339545676904:=0
def tw6917135390420348994:=0
def tw12692148009438509027:=0
def tw2779049176316302439:=0
def tw808877150065075348:=0
def tw11861871771394484637:=0
def tw15090696073170426643:=0
def tw12966971244257912768:=0
def tw2461522530024703652:=0
def tw13532820419607936104:=0
def tw10934801540547728336:=0
def tw16166032221972296774:=0
def tw2190988595594966548:=0
def tw3382333282379366632:=0
def tw8821803472338339061:=0
def tw9277666529953781581:=0
def tw9479838011313028259:=0
def tw17306718207178450413:=0
def tw10791771182699549563:=0
def tw18188623914560731373:=0
def tw11563381959936380196:=0
def tw9607564069888722735:=0
def tw7711571918906184494:=0
def tw14988395729617198089:=0
def tw13366525778294774265:=0
def tw13547627148734894508:=0
def tw8676614116196088652:=0
def tw4794172799223553433:=0
def tw2574465030629020840:=0
def tw3448088048003823744:=0
def tw17523580831552470094:=0
def tw16131586861271382540:=0
def tw5983045618044847541:=0
def tw17388906653172107209:=0
def tw15899043932952798054:=0
def tw16639278865220236519:=0
def tw2418427674761140232:=0
def tw12858163627061669698:=0
def tw12611377211592952290:=0
def tw7241404830748047551:=0
def tw16867364387734295429:=0
def tw12616479531908748449:=0
def tw3117657339588734847:=0
def tw14274033803379802708:=0
def tw2679798728354397509:=0
def tw1537877846525298837:=0
def tw8642195188167875297:=0
def tw7923631199101707497:=0
def tw9314220010292405058:=0
def tw15007698720037601282:=0
def tw13340221710316416747:=0
def tw265085390980636511:=0
def tw12383946234682320022:=0
def tw2286191307044076212:=0
def tw6694080800250166526:=0
def tw10785291130974842012:=0
def tw2294336202759053769:=0
def tw16551511556432317814:=0
end PySem.W.Fast
open PySem PySem.W PyProof.Rows
set_option maxRecDepth 100000 in
set_option maxHeartbeats 0 in
theorem PySem.Challenge.cw_tipwell_k12_whole_least_machines_holds : PySem.Challenge.rw_tipwell_k12_whole_least_machines.Holds := by
 w_on;o_law;km_head;(case hw=>w_witness2)
 k_fill
 refine Tw.walk (l:=PySem.Challenge.rw_tipwell_k12_whole_least_machines) rfl rfl (λ w h Y=>PySem.W.km_in_of Y) (λ w h Y=>PySem.W.km_tabs_of Y) ?F
 case F=>
  intro w mg fa h KX G Gv;refine' Tw.all_mk KX G Gv ?_ ?_ ?_ ?_ ?_ ?_ ?_ ?_ ?_ ?_ ?_ ?_ ?_ ?_ ?_ ?_ ?_ ?_ ?_ ?_ ?_ ?_ ?_ ?_ ?_ ?_ ?_ ?_ ?_ ?_ ?_ ?_ ?_ ?_ ?_ ?_ ?_ ?_ ?_ ?_ ?_ ?_ ?_ ?_ ?_ ?_ ?_ ?_ ?_ ?_ ?_ ?_ ?_ ?_ ?_ ?_ ?_ ?_ ?_ ?_ ?_ ?_ ?_ ?_ ?_ ?_ ?_ ?_ ?_ ?_ ?_ ?_ ?_ ?_ ?_ ?_ ?_ ?_ ?_ ?_ ?_ ?_ ?_ ?_ ?_ ?_ ?_ ?_ ?_ ?_ ?_ ?_ ?_ ?_ ?_ ?_ ?_ ?_ ?_ ?_ ?_ ?_ ?_ ?_ ?_ ?_ ?_ ?_ ?_ ?_ ?_ ?_ ?_ ?_ ?_ ?_ ?_ ?_ ?_ ?_ ?_ ?_ ?_ ?_ ?_ ?_ ?_ ?_ ?_ ?_ ?_ ?_ ?_ ?_ ?_ ?_ ?_ ?_ ?_ ?_ ?_ ?_ ?_ ?_ ?_ ?_ ?_ ?_ ?_ ?_ ?_ ?_ ?_ ?_ ?_ ?_ ?_ ?_ ?_ ?_ ?_ ?_ ?_ ?_ ?yp17 ?yn17 ?yt17 ?yh17 ?exM ?vaM ?kkM0 ?kkM1 ?kkM2 ?kkM3 ?kkM4 ?kkM5 ?kkM6 ?kkM7 ?hmMh
  all_goals (try delta Tw.Na)
  all_goals (try delta Tw.Nn)
  all_goals (try delta Tw.Kp)
  all_goals (try delta Tw.Cd)
  all_goals (try delta Tw.Lk)
  all_goals try k_is
  (case yp17=>exact rfl)
  (case yn17=>first | k_is | exact rfl)
  (case yt17=>decide)
  (case yh17=>first | k_is | exact rfl)
  (case exM=>k_exc)
  (case vaM=>kit_is)
  (case kkM0=>kit_is)
  (case kkM1=>kit_is)
  (case kkM2=>kit_is)
  (case kkM3=>kit_is)
  (case kkM4=>kit_is)
  (case kkM5=>kit_is)
  (case kkM6=>kit_is)
  (case kkM7=>kit_is)
  (case hmMh=>kts_exm)
#print axioms PySem.Challenge.cw_tipwell_k12_whole_least_machines_holds