import PyProof.Rows.All
import Wide.All
import OpenK.AllK
import Wide.FinOn
import Lean
import PyProof.EqAt
import PyProof.EqKinds
import PyProof.TupleCall
import PyProof.FactsAll.NoneType
import PyProof.ZipIter
import PyProof.EnumMake
import KE.KUnpack
import KE.KTryMore
import PyProof.NsDelKeeps
import KE.KIntText
import PyProof.StrCalls2
import PyProof.CollectIter
import PyProof.Walks
import PyProof.Rows.StrPartPair
import PyProof.Rows.StrSplit
import PyProof.ListStr
import PyProof.StrWalks
import PyProof.TupleKey
import PyProof.FactsAll.bool_1
import PyProof.NeKinds
import KE.KIsAll
import PyProof.Rows.IntBool
import KE.RegKIsAll
import KE.RegKTryMore
import PySem.Challenge.RW_tipwell_k16_whole_desks
set_option Elab.async false
set_option linter.all false
set_option maxRecDepth 100000
set_option compiler.extract_closed false
noncomputable section
open PySem renaming wpAny_bind->Æ,wpAny_pure->Ë,wpAny_field->ì,wpAny_holding->ô,wpAny_mono->ò,mem_of_lookup->İ,wpAny_rule->Ĝ,boot_len->ļ,sizeLine_eq->à,wpAny_setField_rec->Ą,wpAny_seqItems->ÿ,call_meets->ą,wpAny_truthy_bool->ĩ,wpAny_onRaise->ę,wpAny_call_entry->Ī,wpAny_callSpecial?_slot->ň,wpAny_letGo->ğ,wpAny_Call_Name_kw->Ŏ,wpAny_binaryOp_repeat_ref->ų,wpAny_specialOf->œ,wpAny_standAt->ł,wpAny_pyIter_tuple->ţ,wpAny_passesOwn->Ŕ,wpAny_newObj_type->Ŧ,wpAny_pyIter_list->ŧ,wpAny_newTuple->ŕ,typeIs_int->Ĺ,typeIs_str->Ń,wpAny_attempt->Ů,codeAny_mono->ů
open List renaming length_map->Ê,mem_of_getElem?->Ó,mem_cons_of_mem->Ô,map_append->Ð,getElem?_eq_some_iff->æ,mem_cons->Ñ,getElem?_map->Ø,size_toArray->Ú,mem_cons_self->Þ,length_append->â,mem_singleton->ã,map_cons->Ù,length_cons->á,mem_append->ß,take_of_length_le->õ,length_take->î,mem_map->ä,getElem?_eq_getElem->Ċ,mem_append_right->Ĉ,take_length->ø,getD_eq_getElem?_getD->ĕ,not_mem_nil->Ă,nodup_cons->ă,mem_append_left->Ě,map_map->ü,length_singleton->ģ,length_set->Ė,all_eq_true->ě,sum_cons->đ,map_nil->ė,take_succ->Ĥ,append_assoc->Ļ,append_nil->ı,getElem?_set_self->Ř,getElem?_append_right->ű,getElem?_set_ne->ř,getElem?_append_left->Ų,getElem_mem->ń,mem_range->Ņ,eq_nil_of_length_eq_zero->ý,mem_or_eq_of_mem_set->ĥ,filterMap_cons->Ġ,replicate_succ->ġ,any_cons->ē,eq_of_mem_replicate->Ň,forIn_cons->Ĭ,take_succ_cons->Ľ,sum_append->ĭ,exists_cons_of_ne_nil->ś,lookup_cons->Ĵ,forIn_nil->Į,nil_append->Ŀ,find?_cons->Ł,map_set->į,flatten_cons->Ő,replicate_succ'->Š,length_drop->Œ,eraseIdx_cons_succ->ŵ,getElem?_cons_zero->Ŷ,cons_append->ũ,zipIdx_cons->Ū,all_cons->Ŗ,zipIdx_nil->Ŭ,takeWhile_cons->Ž,set_cons_zero->afp,foldl_append->afw,mem_of_mem_eraseIdx->af2,any_eq_true->agg,drop_of_length_le->agj,of_mem_zip->agm,range_succ->agn,take_zero->ago
open PySem.Heap renaming get?_push_of_some->Î,get?_push_size->Ü,lt_size->Ö,size_push->ċ,get?_update_self->Ÿ
open PySem.W renaming mg_of->Ì,mg_none_of->û,kia_one->ĉ,looks_findIn->Ş,hideAll_get->š,callWith_K->Ť,plainGet_of->Ź,kitx_tuple->ž,kitx_list->afq,cellsFrom_some->agh
open Nat renaming le_refl->Í,lt_of_lt_of_le->í,ne_of_lt->é,le_trans->ë,zero_le->ê,lt_irrefl->Ē,le_of_lt->Ĳ,le_add_right->ī,le_of_eq->ķ,mul_le_mul_left->ż,lt_of_le_of_lt->afk,lt_succ_self->aga
open PySem.F renaming plainAttrs_list->ó,slot_list_append->Ā,type_list_append->ā,slot_str_join->Č,type_str_join->č,excBase_ValueError->ĝ,slot_str_split->ħ,type_str_split->Ĩ,slot_tuple_iterator_next->Ś,slot_dict_get->Ŋ,slot_int_rmul->ŀ,args_dict_get_3->Ŵ,entry_dict_get->ŷ,args_tuple_iterator_next_1->ae3,slot_str_partition->afe,type_str_partition->aff,args_tuple_mul_2->afl,args_str_split_2->afm,args_tuple_add_2->afs,args_int_rmul_2->afu,entry_tuple_mul->afv,entry_str_split->af0,entry_tuple_add->af4,plainAttrs_dict->af5,slot_list_index->af7,type_list_index->af8,entry_int_rmul->agc,slot_tuple_mul->age,slot_str_split->agf,slot_tuple_add->agi
open Option renaming map_eq_some_iff->ð,map_some->Ķ,getD_none->agb
open Bool renaming false_ne_true->ç,false_eq_true->Ę,and_eq_true->Ğ,eq_iff_iff->ľ,not_eq_true'->afx,eq_false_iff->afy,false_or->agp
open Option.some renaming inj->ï,injEq->ő
open Int renaming toNat_natCast->ĺ,eq_ofNat_of_zero_le->ú,le_refl->ö,emod_nonneg->Ģ,emod_lt_of_pos->ĳ,fdiv_eq_ediv_of_nonneg->afd
open PySem.Str renaming length_append->ù,empty_append->ū
open PySem.PassesOwn renaming never->þ,leaving->af1
open PyProof.Rows renaming part_short->Ħ,callWith_type1->ņ,boot_all->ŋ,boot_sum->ŝ,assignInOrder_cons->Ţ,toString_length_le->aew,fact_partition->afb,joinOk_of->agk
open Prod.mk renaming inj->Ĕ
open PySem.W.KIN renaming signs_num->Ō
open PySem.SeqAt.EqAt renaming same->ĵ,int_int->afh,str_str->afi
open PySem.Calls renaming callWith_builtin->Ŝ,spliced_cons->ō,evalArgs_plain->ş,spliced_nil->afr
open PySem.StrLaws renaming join_split->ŏ,split_free->afn
open Array renaming forIn_toList->ť,all_eq_true'->afo
open PySem.Heap.SameBut renaming refl->Ũ,update->ź
open List.cons renaming inj->ŗ
open PySem.W.KFB renaming if_not->afj
open PySem.Paired renaming length->ŭ
abbrev À:=PySem.Value
abbrev Á:=PySem.Addr
abbrev Â:=PySem.Shared
abbrev Ã:=PySem.Program
def Ä:=@if_neg
def Å:=@if_pos
abbrev Ç:=PySem.W.Frag
def Û:=@decide_eq_true
def è:=@of_decide_eq_true
def ñ:=@decide_eq_false
variable {P:PySem.Program}{w:PySem.World}{K:Ç}{mg:PySem.Str->Option PySem.Value}{base:PySem.Heap}{C c_TipError c_NoNet c_NoVessel c_TooLong c_TooMany c_TooMuch c_Nothing c_NoText c_NoRow:PySem.Addr}
def Ż:=@ne_true_of_eq_false
def afz:=@decide_eq_true_eq
def af9:=@decide_eq_false_iff_not
def agd:=@beq_self_eq_true
theorem sz0 (n:Nat) (h:n<=1000:=by decide):n<=PySem.sizeLine:=Nat.le_trans h (by decide)
theorem wr0 {p:Prop} (h:p:=by with_unfolding_all rfl):p:=h
namespace L2
open PySem PySem.Spec PyProof.Rows
theorem bU {T0:Sort _}{B:Sort _}{l r:T0->B}{p:T0->Prop} (a:T0) (qq:l a=r a) (hh:p a):∃ x0,l x0=r x0/\p x0:=⟨a,qq,hh⟩
theorem eB {T0 T1:Sort _}{B:Sort _}{l r:T0->T1->B}{p:T0->T1->Prop} (a:T0) (b:T1) (qq:l a b=r a b) (hh:p a b):∃ x0 x1,l x0 x1=r x0 x1/\p x0 x1:=⟨a,b,qq,hh⟩
theorem VN {T0 T1 T2:Sort _}{B:Sort _}{l r:T0->T1->T2->B}{p:T0->T1->T2->Prop} (a:T0) (b:T1) (c:T2) (qq:l a b c=r a b c) (hh:p a b c):∃ x0 x1 x2,l x0 x1 x2=r x0 x1 x2/\p x0 x1 x2:=⟨a,b,c,qq,hh⟩
theorem JP {T0 T1 T2 T3:Sort _}{B:Sort _}{l r:T0->T1->T2->T3->B}{p:T0->T1->T2->T3->Prop} (a:T0) (b:T1) (c:T2) (d:T3) (qq:l a b c d=r a b c d) (hh:p a b c d):∃ x0 x1 x2 x3,l x0 x1 x2 x3=r x0 x1 x2 x3/\p x0 x1 x2 x3:=⟨a,b,c,d,qq,hh⟩
theorem NU {T0 T1 T2 T3 T4:Sort _}{B:Sort _}{l r:T0->T1->T2->T3->T4->B}{p:T0->T1->T2->T3->T4->Prop} (a:T0) (b:T1) (c:T2) (d:T3) (e:T4) (qq:l a b c d e=r a b c d e) (hh:p a b c d e):∃ x0 x1 x2 x3 x4,l x0 x1 x2 x3 x4=r x0 x1 x2 x3 x4/\p x0 x1 x2 x3 x4:=⟨a,b,c,d,e,qq,hh⟩
theorem eA6 {T0 T1 T2 T3 T4 T5:Sort _}{B:Sort _}{l r:T0->T1->T2->T3->T4->T5->B}{p:T0->T1->T2->T3->T4->T5->Prop} (a:T0) (b:T1) (c:T2) (d:T3) (e:T4) (f:T5) (qq:l a b c d e f=r a b c d e f) (hh:p a b c d e f):∃ x0 x1 x2 x3 x4 x5,l x0 x1 x2 x3 x4 x5=r x0 x1 x2 x3 x4 x5/\p x0 x1 x2 x3 x4 x5:=⟨a,b,c,d,e,f,qq,hh⟩
theorem eA7 {T0 T1 T2 T3 T4 T5 T6:Sort _}{B:Sort _}{l r:T0->T1->T2->T3->T4->T5->T6->B}{p:T0->T1->T2->T3->T4->T5->T6->Prop} (a:T0) (b:T1) (c:T2) (d:T3) (e:T4) (f:T5) (g:T6) (qq:l a b c d e f g=r a b c d e f g) (hh:p a b c d e f g):∃ x0 x1 x2 x3 x4 x5 x6,l x0 x1 x2 x3 x4 x5 x6=r x0 x1 x2 x3 x4 x5 x6/\p x0 x1 x2 x3 x4 x5 x6:=⟨a,b,c,d,e,f,g,qq,hh⟩
abbrev fT:=Sum Int (Option Str)
def MS:À->Bool
 | .none=>true
 | _=>false
theorem CB {v:À} (h:MS v=true):v=Value.none:=by
 cases v <;> simp_all [MS]
def oG:fT->À->Bool
 | .inl k,v=>Value.isInt k v
 | .inr (some x),v=>Value.isStrOf x v
 | .inr none,v=>MS v
def qY:Int:=0xFCA86420
def keyH (w:World):fT->Int
 | .inl k=>hashInt k
 | .inr (some x)=>hashStr w x
 | .inr none=>qY
theorem cW:∀ {k:fT}{v:À},oG k v=true->(∃ i t,k=Sum.inl i/\v=Value.int i t)\/(∃ x t,k=Sum.inr (some x)/\v=Value.str x t)\/(k=Sum.inr none/\v=Value.none)
 | .inl i,v,h=>by
  obtain⟨t,e⟩:=Value.isInt_shape (k:=i) (v:=v) h;exact .inl ⟨i,t,rfl,e⟩
 | .inr (some x),v,h=>by
  obtain⟨t,e⟩:=Value.isStrOf_shape (x:=x) (v:=v) h;exact .inr (.inl ⟨x,t,rfl,e⟩)
 | .inr none,v,h=>.inr (.inr ⟨rfl,CB h⟩)
theorem IK (i:Int) (t:Tok):oG (.inl i) (.int i t)=true:=by simp [oG,Value.isInt]
theorem IJ (x:Str) (t:Tok):oG (.inr (some x)) (.str x t)=true:=by simp [oG,Value.isStrOf]
theorem SV (a b:Int):decide ((Sum.inl a:fT)=Sum.inl b)=(a == b):=by
 by_cases e:a=b
 ·subst e;simp
 ·have h:¬ (Sum.inl a:fT)=Sum.inl b:=λ q=>e (Sum.inl.inj q);rw[ñ h];exact (beq_eq_false_iff_ne.mpr e).symm
theorem ST (a b:Str):decide ((Sum.inr (some a):fT)=Sum.inr (some b))=decide (a=b):=by
 by_cases e:a=b
 ·subst e;simp
 ·have h:¬ (Sum.inr (some a):fT)=Sum.inr (some b):=λ q=>e (ï (Sum.inr.inj q));rw[ñ h,ñ e]
theorem MM (i:Int) (o:Option Str):decide ((Sum.inl i:fT)=Sum.inr o)=false:=ñ (λ q=>nomatch q)
theorem MN (i:Int) (o:Option Str):decide ((Sum.inr o:fT)=Sum.inl i)=false:=ñ (λ q=>nomatch q)
theorem SS (x:Str):decide ((Sum.inr (some x):fT)=Sum.inr none)=false:=ñ (λ q=>nomatch (Sum.inr.inj q))
theorem SU (x:Str):decide ((Sum.inr none:fT)=Sum.inr (some x))=false:=ñ (λ q=>nomatch (Sum.inr.inj q))
theorem MY {prog:Ã}{w:World}{A:Around}{E:À->Â->Prop}{s:Â}{Q:Int->Â->Prop} (h:Q qY { s with toks:=s.toks+1 }) :
  wpAny (model prog w) A (pyHash .none) Q E s:=by
 have hT:s.TypeIs .none "NoneType" := rfl;unfold pyHash;have hv:[Value.none].any Value.onHeap=false:=rfl;refine Æ ?_;rw[cRoomFor,Ä (by rw[hv];exact ç)];refine Ë ?_;refine Æ (œ hT F.slot_NoneType_hash.lookup ?_);show wpAny _ _ (if (some (Value.builtin "NoneType.__hash__") == some Value.none)=true then _ else _) Q E s;rw[Ä (by rw[beq_builtin_none];exact ç)];refine Æ (œ hT F.slot_NoneType_hash.lookup ?_);show wpAny _ _ (callSpecialIfBoundUnlessNone? .none "__hash__" _ >>= _) Q E s;refine Æ (wpAny_callSpecialIfBoundUnlessNone?_slot hT F.slot_NoneType_hash
  (Ī F.slot_NoneType_hash hT F.entry_NoneType_hash
   (show wpAny _ _ (do ret (<- mkInt qY)) _ _ s from wpAny_ret_mkInt ?_) (F.args_NoneType_hash_1 _)))
 show wpAny _ _ (if (decide (-(2:Int) ^ 63<=qY) && decide (qY < 2 ^ 63))=true then _ else _) Q E _;rw[Å (by decide)];exact Ë h
def dM (prog:Ã) (w:World):PySem.KeyKind prog w fT where
 is:=oG
 hash:=keyH w
 inj:=λ v a b ha hb=>by
  rcases cW ha with ⟨i,t,rfl,rfl⟩ | ⟨x,t,rfl,rfl⟩ | ⟨rfl,rfl⟩
  ·rcases cW hb with ⟨j,u,rfl,e⟩ | ⟨y,u,rfl,e⟩ | ⟨rfl,e⟩
   ·injection e with e1 _;rw[e1]
   ·exact nomatch e
   ·exact nomatch e
  ·rcases cW hb with ⟨j,u,rfl,e⟩ | ⟨y,u,rfl,e⟩ | ⟨rfl,e⟩
   ·exact nomatch e
   ·injection e with e1 _;rw[e1]
   ·exact nomatch e
  ·rcases cW hb with ⟨j,u,rfl,e⟩ | ⟨y,u,rfl,e⟩ | ⟨rfl,e⟩
   ·exact nomatch e
   ·exact nomatch e
   ·rfl
 byValue:=λ k v h=>by
  rcases cW h with ⟨i,t,rfl,rfl⟩ | ⟨x,t,rfl,rfl⟩ | ⟨rfl,rfl⟩ <;> rfl
 pyHash:=λ hv h=>by
  rcases cW hv with ⟨i,t,rfl,rfl⟩ | ⟨x,t,rfl,rfl⟩ | ⟨rfl,rfl⟩
  ·exact wpAny_pyHash_int h
  ·exact wpAny_pyHash_str h
  ·exact MY h
 eqBool:=λ hu hv h=>by
  rcases cW hu with ⟨i,t,rfl,rfl⟩ | ⟨x,t,rfl,rfl⟩ | ⟨rfl,rfl⟩
  ·rcases cW hv with ⟨j,u,rfl,rfl⟩ | ⟨y,u,rfl,rfl⟩ | ⟨rfl,rfl⟩
   ·rw[SV] at h;exact wpAny_eqBool_int h
   ·rw[MM] at h;exact SeqAt.EqAt.int_str i t y u _ _ _ _ h
   ·rw[MM] at h;exact SeqAt.EqAt.int_none i t _ _ _ _ h
  ·rcases cW hv with ⟨j,u,rfl,rfl⟩ | ⟨y,u,rfl,rfl⟩ | ⟨rfl,rfl⟩
   ·rw[MN] at h;exact SeqAt.EqAt.str_int x t j u _ _ _ _ h
   ·rw[ST] at h;exact wpAny_eqBool_str h
   ·rw[SS] at h;exact SeqAt.EqAt.str_none x t _ _ _ _ h
  ·rcases cW hv with ⟨j,u,rfl,rfl⟩ | ⟨y,u,rfl,rfl⟩ | ⟨rfl,rfl⟩
   ·rw[MN] at h;exact SeqAt.EqAt.none_int j u _ _ _ _ h
   ·rw[SU] at h;exact SeqAt.EqAt.none_str y u _ _ _ _ h
   ·rw[Û rfl] at h;exact ĵ Value.none _ _ _ _ h
 «strs»:=λ k x t v h=>by
  rcases cW h with ⟨i,u,rfl,e⟩ | ⟨y,u,rfl,e⟩ | ⟨rfl,e⟩
  ·exact nomatch e
  ·injection e with e1 _;subst e1;cases v <;> rfl
  ·exact nomatch e
theorem BQ (prog:Ã) (w:World) (i:Int) (t:Tok):(dM prog w).is (.inl i) (.int i t)=true:=IK i t
theorem BP (prog:Ã) (w:World) (x:Str) (t:Tok):(dM prog w).is (.inr (some x)) (.str x t)=true:=IJ x t
inductive V where
 | non | bl (b:Bool) | int (i:Int) | str (x:Str) | byt (b:Array UInt8) | flt (b:UInt64) | ref (a:Á) | ty (n:String)
 deriving DecidableEq
def bH:V->À->Prop
 | .non,u=>u=Value.none
 | .bl b,u=>u=Value.bool b
 | .int i,u=>∃ t,u=Value.int i t
 | .str x,u=>∃ t,u=Value.str x t
 | .byt b,u=>∃ t,u=Value.bytes b t
 | .flt b,u=>∃ t,u=Value.float b t
 | .ref a,u=>u=Value.ref a
 | .ty n,u=>u=Value.type n
abbrev bG:List V->List À->Prop:=Paired bH
theorem bG.length {xs:List V}{us:List À} (r:bG xs us):xs.length=us.length:=ŭ r
theorem bG.get:∀ {xs:List V}{us:List À}{i:Nat}{x:V},bG xs us->xs[i]? = some x->∃ u,us[i]? = some u/\bH x u
 | _,_,_,_,.nil,e=>by simp at e
 | _,_,0,_,.cons r _,e=>by simp at e;subst e;exact⟨_,rfl,r⟩
 | _,_,i+1,x,.cons _ t,e=>by
  obtain⟨u,h1,h2⟩:=bG.get (i:=i) (x:=x) t (by simpa using e);exact⟨u,by simpa using h1,h2⟩
theorem bG.set {x:V}{u:À} (r:bH x u):∀ {xs:List V}{us:List À} (i:Nat),bG xs us->bG (xs.set i x) (us.set i u)
 | _,_,_,.nil=>.nil
 | _,_,0,.cons _ t=>.cons r t
 | _,_,i+1,.cons q t=>.cons q (bG.set r i t)
theorem bG.append:∀ {xs ys:List V}{us ws:List À},bG xs us->bG ys ws->bG (xs++ys) (us++ws)
 | _,_,_,_,.nil,s=>s
 | _,_,_,_,.cons r t,s=>.cons r (bG.append t s)
theorem bG.take:∀ {xs:List V}{us:List À} (n:Nat),bG xs us->bG (xs.take n) (us.take n)
 | _,_,0,_=>.nil
 | _,_,_+1,.nil=>.nil
 | _,_,n+1,.cons r t=>.cons r (bG.take n t)
theorem bG.drop:∀ {xs:List V}{us:List À} (n:Nat),bG xs us->bG (xs.drop n) (us.drop n)
 | _,_,0,r=>r
 | _,_,_+1,.nil=>.nil
 | _,_,n+1,.cons _ t=>bG.drop n t
def nF:Option V->Option À->Prop
 | some v,some u=>bH v u
 | none,none=>True
 | _,_=>False
def KV {be:Type}:List (be×V)->List (be×À)->Prop:=Paired λ (p:be×V) (q:be×À)=>p.1=q.1/\bH p.2 q.2
def kV:fT->V
 | .inl i=>.int i
 | .inr (some x)=>.str x
 | .inr none=>.non
inductive HO where
 | lst (xs:List V)
 | tup (xs:List V)
 | dK (gy:List (fT×V)) | dT (gy:List (List fT×V))
 | set (S:Int->Bool) (n:Nat)
 | ins (C dx:Á) (fs:List (Str×V))
 | own (x:Á)
 | xd (fs:List (Str×V))
 | met (f x:Á)
 | rng (lo hi:Int)
 | frz (o:Obj) (u:HO)
 | tbl (ps:Array À)
 | ext (cx:Heap->Prop)
abbrev Hp:=Á->Option HO
def upd (H:Hp) (a:Á) (o:HO):Hp:=λ b=>if b=a then some o else H b
theorem aE {H:Hp}{a:Á}{o:HO}:upd H a o a=some o:=by unfold upd;rw[Å rfl]
theorem aM {H:Hp}{a b:Á}{o:HO} (h:b≠a):upd H a o b=H b:=by unfold upd;rw[Ä h]
theorem O0 {H:Hp}{a:Á}{o u:HO}:upd (upd H a o) a u=upd H a u:=by
 funext b;unfold upd;split <;> rfl
theorem QV {H:Hp}{a b:Á}{o u:HO} (h:H a=some o) (h':H b=some u) (d:o≠u):a≠b:=by
 intro e;subst e;rw[h] at h';exact d (ï h')
theorem aP {H:Hp}{a b:Á}{o:HO} (h:H a=some o) (h':H b=none):a≠b:=by
 intro e;subst e;rw[h] at h';cases h'
section
variable (P:Ã)(w:World)
def dP (H:Hp) (h:Heap) (a:Á):HO->Prop
 | .lst xs=>xs.length<=sizeLine/\∃ (gx:List À) (n:Nat),bG xs gx/\h.get? a=some { cls:=.type "list",data:=.seq gx.toArray n }
 | .tup xs=>xs.length<=sizeLine/\∃ gx:List À,bG xs gx/\IsTup h a gx.toArray
 | .dK gy=>gy.length<=sizeLine/\(a == sysModules)=false/\∃ vs,KV gy vs/\h.DictOf (dM P w) a vs
 | .dT gy=>gy.length<=sizeLine/\(a == sysModules)=false/\∃ xs:List (List fT×Á×À),
   Paired (λ (p:List fT×V) (q:List fT×Á×À)=>p.1=q.1/\H q.2.1=some (.tup (p.1.map kV))/\bH p.2 q.2.2) gy xs/\
   ∃ o es ep,h.get? a=some o/\o.ExactDict/\o.data=.dict es ep/\es.toList=xs.map (entryOfKey (tupleKind (dM P w)))/\(xs.map (·.1)).Nodup
 | .set S n=>h.SetOf (intKind P w) a S n
 | .ins C dx fs=>H dx=some (.own a)/\fs.length<=1000/\dx≠a/\h.get? a=some (PySem.W.instObj C dx)/\
   ∃ mA,h.Ns1 dx mA/\(∀ f,nF (fs.lookup f) (mA f))/\PySem.Within mA (fs.map (·.1))
 | .own _=>∃ o,h.get? a=some o
 | .xd fs=>∃ mA,h.Ns1 a mA/\∀ f,nF (fs.lookup f) (mA f)
 | .rng lo hi=>∃ t u v,h.get? a=some { cls:=.type "range",data:=.fields #[.int lo t,.int hi u,.int 1 v] }
 | .frz o u=>h.get? a=some o/\dP H h a u
 | .tbl ps=>h.get? a=some { cls:=.none,data:=.fields ps }
 | .met f x=>h.get? a=some (PySem.W.methodObj (.ref f) (.ref x))
 | .ext cx=>cx h/\(∃ o,h.get? a=some o)/\∀ h1 h2:Heap,cx h1->(∀ o,h1.get? a=some o->h2.get? a=some o)->cx h2
def pC (H:Hp) (h:Heap):Prop:=∀ a o,H a=some o->dP P w H h a o
end
section
variable {H H':Hp}{h h':Heap}{a:Á}{o:HO}
theorem dP.lt (x:dP P w H h a o):a < h.objs.size:=by
 cases o with
 | lst xs=>obtain⟨_,_,_,_,e⟩:=x;exact Ö e
 | tup xs=>obtain⟨_,_,_,p⟩:=x;exact p.lt
 | dK gy=>obtain⟨_,_,_,_,o,_,_,e,_⟩:=x;exact Ö e
 | dT gy=>obtain⟨_,_,_,_,o,_,_,e,_⟩:=x;exact Ö e
 | set S n=>obtain⟨o,_,_,_,e,_⟩:=x;exact Ö e
 | ins C dx fs=>obtain⟨_,_,_,e,_⟩:=x;exact Ö e
 | own y=>obtain⟨_,e⟩:=x;exact Ö e
 | xd fs=>obtain⟨_,⟨_,_,_,e,_⟩,_⟩:=x;exact Ö e
 | rng lo hi=>obtain⟨_,_,_,e⟩:=x;exact Ö e
 | frz ob u=>obtain⟨e,_⟩:=x;exact Ö e
 | tbl ps=>exact Ö (show h.get? a=some _ from x)
 | met f y=>exact Ö (show h.get? a=some _ from x)
 | ext cx=>obtain⟨_,⟨_,e⟩,_⟩:=x;exact Ö e
theorem Paired.mapP {ak gc:Type}{F G:ak->gc->Prop}:∀ {gd:List ak}{ge:List gc},Paired F gd ge->(∀ a b,F a b->G a b)->Paired G gd ge
 | _,_,.nil,_=>.nil
 | _,_,.cons r t,f=>.cons (f _ _ r) (Paired.mapP t f)
theorem dP.stay (x:dP P w H h a o) (k:∀ b u,(b=a\/H b=some (.own a))->h.get? b=some u->h'.get? b=some u)
  (ho:∀ b,H b=some (.own a)->H' b=some (.own a)) (ht:∀ b xs,H b=some (.tup xs)->H' b=some (.tup xs)):dP P w H' h' a o:=by
 induction o with
 | lst xs=>obtain⟨z,gx,n,r,e⟩:=x;exact⟨z,gx,n,r,k _ _ (.inl rfl) e⟩
 | tup xs=>obtain⟨z,gx,r,ob,e,c⟩:=x;exact⟨z,gx,r,ob,k _ _ (.inl rfl) e,c⟩
 | dK gy=>obtain⟨z,y,vs,r,ob,es,ep,e,c⟩:=x;exact⟨z,y,vs,r,ob,es,ep,k _ _ (.inl rfl) e,c⟩
 | dT gy=>
  obtain⟨z,y,xs,r,ob,es,ep,e,c⟩:=x;exact⟨z,y,xs,Paired.mapP r λ p q z=>⟨z.1,ht _ _ z.2.1,z.2.2⟩,ob,es,ep,k _ _ (.inl rfl) e,c⟩
 | set S n=>obtain⟨ob,es,ep,t,e,c⟩:=x;exact⟨ob,es,ep,t,k _ _ (.inl rfl) e,c⟩
 | ins C dx fs=>
  obtain⟨d,z,ne,e,mA,⟨od,es,ep,e2,c⟩,r⟩:=x;exact⟨ho _ d,z,ne,k _ _ (.inl rfl) e,mA,⟨od,es,ep,k _ _ (.inr d) e2,c⟩,r⟩
 | own y=>obtain⟨ob,e⟩:=x;exact⟨ob,k _ _ (.inl rfl) e⟩
 | xd fs=>obtain⟨mA,⟨od,es,ep,e,c⟩,r⟩:=x;exact⟨mA,⟨od,es,ep,k _ _ (.inl rfl) e,c⟩,r⟩
 | rng lo hi=>obtain⟨t,u,v,e⟩:=x;exact⟨t,u,v,k _ _ (.inl rfl) e⟩
 | frz ob u ih=>obtain⟨e,q⟩:=x;exact⟨k _ _ (.inl rfl) e,ih q⟩
 | tbl ps=>
  have e:h.get? a=some { cls:=.none,data:=.fields ps }:=x;show h'.get? a=some { cls:=.none,data:=.fields ps };exact k a _ (.inl rfl) e
 | met f y=>
  have e:h.get? a=some (PySem.W.methodObj (.ref f) (.ref y)):=x;show h'.get? a=some (PySem.W.methodObj (.ref f) (.ref y));exact k a _ (.inl rfl) e
 | ext cx=>obtain⟨p,⟨o,e⟩,st⟩:=x;exact⟨st _ _ p λ o q=>k _ _ (.inl rfl) q,⟨o,k _ _ (.inl rfl) e⟩,st⟩
theorem pC.lt (x:pC P w H h) (e:H a=some o):a < h.objs.size:=(x a o e).lt
theorem pC.fresh (x:pC P w H h) (e:h.objs.size<=a):H a=none:=by
 cases q:H a with
 | none=>rfl
 | some u=>exact absurd (í (x.lt q) e) (Ē _)
theorem pC.kept (x:pC P w H h) (k:∀ b u,h.get? b=some u->h'.get? b=some u):pC P w H h':=λ a o e=>
 (x a o e).stay (λ b u _ q=>k b u q) (λ _ q=>q) λ _ _ q=>q
theorem pC.laid (x:pC P w H h) (k:∀ b u,h.get? b=some u->h'.get? b=some u) (hp:h.objs.size<=a) (new:dP P w (upd H a o) h' a o):pC P w (upd H a o) h':=λ b u e=>by
 have hn:=x.fresh hp
 by_cases hb:b=a
 ·subst hb;rw[aE] at e;cases e;exact new
 ·rw[aM hb] at e;exact (x b u e).stay (λ c v _ q=>k c v q) (λ c q=>by rw[aM (aP q hn)];exact q) λ c xs q=>by rw[aM (aP q hn)];exact q
end
def Rd (H:Hp) (a:Á) (u:HO):Prop:=H a=some u\/∃ o,H a=some (.frz o u)
theorem Rd.ok {P:Ã}{w:World}{H:Hp}{h:Heap}{a:Á}{u:HO} (r:Rd H a u) (x:pC P w H h):dP P w H h a u:=by
 rcases r with r | ⟨o,r⟩
 ·exact x a u r
 ·obtain⟨_,q⟩:=x a _ r;exact q
def lS:Option HO->Prop
 | some (.lst _)=>True
 | some (.dK _)=>True
 | some (.dT _)=>True
 | some (.set _ _)=>True
 | some (.ins _ _ _)=>True
 | some (.ext _)=>True
 | _=>False
section
variable {H:Hp}{h h':Heap}{x e:Á}{o':HO}
theorem pC.write (ok:pC P w H h) (mu:lS (H x)) (he:e=x\/H e=some (.own x)) (k:∀ b u,b≠e->h.get? b=some u->h'.get? b=some u) (Ca:∃ u,h'.get? e=some u)
  (new:dP P w (upd H x o') h' x o'):pC P w (upd H x o') h':=λ b u q=>by
 have Dh:∀ c y,H c=some (.own y)->c≠x:=λ c y r z=>by subst z;rw[r] at mu;exact mu
 have Oq:∀ c xs,H c=some (.tup xs)->c≠x:=λ c xs r z=>by subst z;rw[r] at mu;exact mu
 by_cases hb:b=x
 ·subst hb;rw[aE] at q;cases q;exact new
 ·rw[aM hb] at q
  by_cases Aj:b=e
  ·have q':H b=some (.own x):=by
    rcases he with z | z
    ·exact absurd (Aj.trans z) hb
    ·rw[Aj];exact z
   rw[q] at q';cases q';obtain⟨v,hv⟩:=Ca;exact⟨v,by rw[Aj];exact hv⟩
  ·refine (ok b u q).stay (λ c v hc r=>k c v ?_ r) (λ c r=>by rw[aM (Dh c b r)];exact r) λ c xs r=>by rw[aM (Oq c xs r)];exact r
   rcases hc with rfl | hc
   ·exact Aj
   ·rintro rfl;rcases he with z | z
    ·exact Dh c b hc z
    ·rw[hc] at z;cases z;exact hb rfl
end
structure Un (fs ex:List Á) (H H':Hp) (h h':Heap):Prop where
 keep:∀ b o,h.get? b=some o->H b=none->b∉fs->b∉ex->h'.get? b=some o
 slot:∀ b o,h.get? b=some o->H b=none->b∈fs->b∉ex->∃ sl,h'.get? b=some { o with slots:=sl }
 free:∀ b o,h.get? b=some o->H b=none->b∉ex->H' b=none
 there:∀ b o,h.get? b=some o->b∉ex->∃ o',h'.get? b=some o'
 tups:∀ b xs,H b=some (.tup xs)->H' b=some (.tup xs)
 frzs:∀ b o u,H b=some (.frz o u)->H' b=some (.frz o u)
 tbls:∀ b ps,H b=some (.tbl ps)->∃ more,H' b=some (.tbl (ps++more))
section
variable {fs fs' ex ex':List Á}{H H1 H2:Hp}{h h1 h2 h':Heap}{a x e:Á}{o:HO}
theorem Un.any (u:Un fs ex H H1 h h1) {b:Á}{ob:Obj} (q:h.get? b=some ob) (n:H b=none) (hx:b∉ex):∃ sl,h1.get? b=some { ob with slots:=sl }:=by
 by_cases hb:b∈fs
 ·exact u.slot b ob q n hb hx
 ·exact⟨ob.slots,u.keep b ob q n hb hx⟩
theorem Un.kept (k:∀ b u,h.get? b=some u->h'.get? b=some u):Un fs ex H H h h':=
 ⟨λ b ob q _ _ _=>k b ob q,λ b ob q _ _ _=>⟨ob.slots,k b ob q⟩,λ _ _ _ n _=>n,λ b ob q _=>⟨ob,k b ob q⟩,λ _ _ q=>q,λ _ _ _ q=>q,λ _ ps q=>⟨#[],by rw[q];simp⟩⟩
theorem Un.refl:Un fs ex H H h h:=Un.kept λ _ _ q=>q
theorem Un.laid (k:∀ b u,h.get? b=some u->h'.get? b=some u) (hp:h.objs.size<=a) (hn:H a=none):Un fs ex H (upd H a o) h h' where
 keep:=λ b u q _ _ _=>k b u q
 slot:=λ b u q _ _ _=>⟨u.slots,k b u q⟩
 free:=λ b u q n _=>by rw[aM (é (í (Ö q) hp))];exact n
 there:=λ b u q _=>⟨u,k b u q⟩
 tups:=λ b xs q=>by rw[aM (aP q hn)];exact q
 frzs:=λ b u xs q=>by rw[aM (aP q hn)];exact q
 tbls:=λ b ps q=>⟨#[],by rw[aM (aP q hn),q];simp⟩
theorem Un.write (mu:lS (H x)) (he:e=x\/H e=some (.own x)) (k:∀ b u,b≠e->h.get? b=some u->h'.get? b=some u) (Ca:∃ u,h'.get? e=some u):Un fs ex H (upd H x o) h h':=by
 have hx:∀ b,H b=none->b≠x:=λ b n z=>by subst z;rw[n] at mu;exact mu
 have hb:∀ b,H b=none->b≠e:=λ b n z=>by
  subst z;rcases he with r | r
  ·exact hx b n r
  ·rw[n] at r;cases r
 have hm:∀ b u,H b=some u->¬ lS (some u)->b≠x:=λ b u q nm z=>by subst z;rw[q] at mu;exact nm mu
 refine⟨λ b u q n _ _=>k b u (hb b n) q,λ b u q n _ _=>⟨u.slots,k b u (hb b n) q⟩,λ b u q n _=>by rw[aM (hx b n)];exact n,λ b u q _=>?_,
  λ b xs q=>by rw[aM (hm b _ q λ z=>z)];exact q,λ b u xs q=>by rw[aM (hm b _ q λ z=>z)];exact q,λ b ps q=>⟨#[],by rw[aM (hm b _ q λ z=>z),q];simp⟩⟩
 by_cases Aj:b=e
 ·subst Aj;exact Ca
 ·exact⟨u,k b u Aj q⟩
end
def trk (h:Heap) (H:Hp):List Á:=(List.range h.objs.size).filter λ a=>(H a).isSome
def A9 (h:Heap) (H:Hp):Heap:=PySem.W.hideAll h (trk h H)
theorem IP (h:Heap) (H:Hp):(A9 h H).objs.size=h.objs.size:=PySem.W.hideAll_size _ _
theorem MW {h:Heap}{H:Hp}{b:Á}{o:Obj} (e:h.get? b=some o) (n:H b=none):(A9 h H).get? b=some o:=
 š _ e λ hm=>by
  have q:(H b).isSome=true:=(List.mem_filter.mp hm).2;rw[n] at q;simp at q
theorem P5 {h:Heap}{H:Hp}{b:Á}{o:Obj} (e:(A9 h H).get? b=some o):h.get? b=some o/\H b=none:=by
 have e':h.get? b=some o:=PySem.W.of_hideAll (trk h H) e;refine⟨e',?_⟩;cases q:H b with
 | none=>rfl
 | some x=>
  have hm:b∈trk h H:=List.mem_filter.mpr ⟨Ņ.mpr (Ö e'),by simp [q]⟩;have z:(A9 h H).get? b=none:=PySem.W.hideAll_none (trk h H) hm;rw[z] at e;cases e
structure Mod (K:Ç) (mg:Str->Option À) (base:Heap):Prop where
 kin:K.In base
 glob:base.Ns mainGlobals mg
 blt:∃ mb,base.Ns builtinsNs mb/\∀ x:Str,x ≠ "__name__" -> mb x=bootBuiltins x
 nolimit:base.NoLimit
structure Cx where
 prog:Ã
 w:World
 K:Ç
 mg:Str->Option À
 base:Heap
 A:Around
 N:List Str
 s₀:Â
 H₀:Hp
 env:Env
 outer:List Env
 stack:List Env
 ex:List Á
 fn:Str->Bool
 calm:Bool
 pn:List (Á×Obj)
 xe:À->Â->Prop
def pE (l:List Env):List Á:=l.filterMap (·.frame)
abbrev Cx.fs (X:Cx):List Á:=pE X.outer
def VT (sc:Scope) (x:Str):Prop:=sc.names.lookup x=some .local\/sc.names.lookup x=some .cell\/sc.names.lookup x=some .free
def R8 (sc:Scope) (x:Str):Prop:=sc.names.lookup x=some .local\/sc.names.lookup x=some .cell
def Look (env:Env) (h:Heap) (m:Str->Option À) (x:Str) (u:À):Prop:=
 (env.kindOf x=some .local/\m x=some u)\/((env.kindOf x=some .cell\/env.kindOf x=some .free)/\∃ c,env.cells.lookup x=some c/\h.IsCell c (some u))
structure Cx.Ok (X:Cx):Prop where
 mod:Mod X.K X.mg X.base
 kind:X.env.scope.kind=.function
 glob:X.env.globals=mainGlobals
 blt:X.env.builtins=builtinsNs
 above:X.s₀.heap.objs.size<=X.env.locals
 inj:∀ x y c,X.env.cells.lookup x=some c->X.env.cells.lookup y=some c->x=y
 has:∀ x,(X.env.kindOf x=some .cell\/X.env.kindOf x=some .free)->∃ c,X.env.cells.lookup x=some c
 cab:∀ x c,X.fn x=true->X.env.cells.lookup x=some c->X.s₀.heap.objs.size<=c
 hd:X.calm=true->X.A.handled=none
 frames:X.A.frames=some X.stack
 stk:X.stack=X.outer\/(X.stack=X.env::X.outer/\X.env.frame=some X.env.locals)
 exf:∀ b∈X.ex,b≠X.env.locals/\∀ x c,X.env.cells.lookup x=some c->c≠b
 bs:∀ b o,X.base.get? b=some o->X.s₀.heap.get? b=some o/\X.H₀ b=none
 bsz:X.base.objs.size<=X.s₀.heap.objs.size
 noex:∀ b o,X.base.get? b=some o->b∉X.ex
 exfs:∀ b∈X.ex,b∉X.fs
 funs:X.s₀.heap.FunFrames X.base X.outer
 frf:∀ b∈X.fs,X.H₀ b=none
structure Inv (X:Cx) (gn:List (Á×Obj)) (σ:List (Option V)) (H:Hp) (s:Â):Prop where
 ok:X.Ok
 os:s.os=X.s₀.os
 bare:AllBare s.gens
 base:Un X.fs X.ex X.H₀ H X.s₀.heap s.heap
 loc:∃ m,s.heap.Ns X.env.locals m/\∀ (i:Nat) (x:Str) (v:V),X.N[i]? = some x->σ[i]? = some (some v)->VT X.env.scope x->∃ u,bH v u/\Look X.env s.heap m x u
 cell:∀ x c,X.env.cells.lookup x=some c->∃ v,s.heap.IsCell c v
 free:H X.env.locals=none
 freeC:∀ x c,X.env.cells.lookup x=some c->H c=none
 pin:∀ p∈X.pn++gn,s.heap.get? p.1=some p.2/\H p.1=none/\p.1≠X.env.locals/\p.1∉X.fs/\∀ v,p.2.data≠.cell v
 hok:pC X.prog X.w H s.heap
 len:σ.length=X.N.length
section
variable {X:Cx}{gn:List (Á×Obj)}{σ:List (Option V)}{H H':Hp}{s:Â}{h':Heap}
theorem Cx.Ok.nofr (ok:X.Ok) {b:Á}{o:Obj} (e:X.base.get? b=some o):b∉X.fs:=λ hb=>by
 have:=(ok.funs.mem hb).1;rw[e] at this;cases this
theorem Inv.bs (I:Inv X gn σ H s):∀ b o,X.base.get? b=some o->s.heap.get? b=some o/\H b=none:=λ b o e=>
 ⟨I.base.keep b o (I.ok.bs b o e).1 (I.ok.bs b o e).2 (I.ok.nofr e) (I.ok.noex b o e),I.base.free b o (I.ok.bs b o e).1 (I.ok.bs b o e).2 (I.ok.noex b o e)⟩
theorem Inv.bk (I:Inv X gn σ H s):∀ b o,X.base.get? b=some o->s.heap.get? b=some o:=λ b o e=>(I.bs b o e).1
theorem Inv.mod (I:Inv X gn σ H s):Mod X.K X.mg X.base:=I.ok.mod
theorem Inv.kIn (I:Inv X gn σ H s):X.K.In s.heap:=I.ok.mod.kin.keeps I.bk
theorem Inv.lt (I:Inv X gn σ H s):X.env.locals < s.heap.objs.size:=let ⟨_,hn,_⟩:=I.loc;hn.lt
theorem Inv.sz (I:Inv X gn σ H s):X.s₀.heap.objs.size<=s.heap.objs.size:=ë I.ok.above (Ĳ I.lt)
theorem Inv.nofs (I:Inv X gn σ H s) {a:Á} (h:s.heap.objs.size<=a):a∉X.fs:=λ hb=>by
 obtain⟨_,o,ho,_⟩:=I.ok.funs.mem hb;exact absurd (í (Ö ho) (ë I.sz h)) (Ē _)
theorem Inv.cne (I:Inv X gn σ H s):∀ x c,X.env.cells.lookup x=some c->c≠X.env.locals:=λ x c e z=>by
 obtain⟨v,o,ho,hd⟩:=I.cell x c e;obtain⟨m,⟨o',es,ep,mw,Di,_⟩,_⟩:=I.loc;rw[z,mw] at ho;cases ho;rw[Di] at hd;cases hd
theorem Inv.funs (I:Inv X gn σ H s):s.heap.FunFrames X.base X.outer:=by
 have all:∀ (l:List Env),(∀ b∈pE l,b∈X.fs)->X.s₀.heap.FunFrames X.base l->s.heap.FunFrames X.base l:=by
  intro l
  induction l with
  | nil=>intro _ _;trivial
  | cons env r ih=>
   intro hs hl;obtain⟨hk,⟨L,o,hf,hn,ho,hd⟩,hr⟩:=hl;have hL:L∈X.fs:=hs L (by unfold pE;rw[Ġ,hf];exact Þ);obtain⟨sl,e⟩:=I.base.slot L o ho (I.ok.frf L hL) hL λ z=>I.ok.exfs L z hL;exact⟨hk,⟨L,_,hf,hn,e,hd⟩,ih (λ b hb=>hs b (by unfold pE;rw[Ġ,hf];exact Ô _ hb)) hr⟩
 exact all X.outer (λ _ hb=>hb) I.ok.funs
theorem Inv.stack (I:Inv X gn σ H s):s.heap.FunFrames X.base X.stack:=by
 rcases I.ok.stk with e | ⟨e,hf⟩
 ·rw[e];exact I.funs
 ·rw[e];obtain⟨m,hn,_⟩:=I.loc;refine .cons (by rw[I.ok.kind];decide) hf hn ?_ I.funs;exact Heap.get?_none_of_le (ë I.ok.bsz I.ok.above)
theorem Inv.stkSub (I:Inv X gn σ H s):∀ b∈pE X.stack,b∈X.env.locals::X.fs:=λ b hb=>by
 rcases I.ok.stk with e | ⟨e,hf⟩
 ·rw[e] at hb;exact Ô _ hb
 ·rw[e] at hb;unfold pE at hb;rw[Ġ,hf] at hb;exact hb
theorem Inv.stkFree (I:Inv X gn σ H s):∀ b∈pE X.stack,H b=none:=λ b hb=>by
 rcases Ñ.mp (I.stkSub b hb) with e | hb
 ·rw[e];exact I.free
 ·obtain⟨_,o,ho,_⟩:=I.ok.funs.mem hb;exact I.base.free b o ho (I.ok.frf b hb) λ z=>I.ok.exfs b z hb
theorem Inv.step {g':Array GenState}{t':Nat}{d':Drawn}{ch:List Á} (I:Inv X gn σ H s)
  (tz:∀ b∈ch,(b∈X.ex\/X.s₀.heap.objs.size<=b)/\b≠X.env.locals/\(∀ x c,X.env.cells.lookup x=some c->c≠b)/\∀ p∈X.pn++gn,p.1≠b)
  (keep:∀ b o,b≠X.env.locals->b∉X.fs->b∉ch->s.heap.get? b=some o->H b=none->h'.get? b=some o)
  (slot:∀ b o,b≠X.env.locals->b∈X.fs->b∉ch->s.heap.get? b=some o->H b=none->∃ sl,h'.get? b=some { o with slots:=sl }) (free:∀ b o,b∉ch->s.heap.get? b=some o->H b=none->H' b=none)
  (there:∀ b o,b∉ch->s.heap.get? b=some o->∃ o',h'.get? b=some o')
  (tups:∀ b xs,H b=some (.tup xs)->H' b=some (.tup xs)) (frzs:∀ b o u,H b=some (.frz o u)->H' b=some (.frz o u)) (tbls:∀ b ps,H b=some (.tbl ps)->∃ wf,H' b=some (.tbl (ps++wf)))
  (ns:∀ m,s.heap.Ns X.env.locals m->h'.Ns X.env.locals m) (hok:pC X.prog X.w H' h') (hg:AllBare g') :
  Inv X gn σ H' { s with heap:=h',gens:=g',drawn:=d',toks:=t' }:=by
 have neL:∀ b o,X.s₀.heap.get? b=some o->b≠X.env.locals:=λ b o e=>é (í (Ö e) I.ok.above);have Kg:∀ b o,X.s₀.heap.get? b=some o->b∉X.ex->b∉ch:=λ b o e hx hb=>by
  rcases (tz b hb).1 with z | z
  ·exact hx z
  ·exact absurd (í (Ö e) z) (Ē _)
 have cellK:∀ x c,X.env.cells.lookup x=some c->∀ v,s.heap.IsCell c v->h'.IsCell c v:=λ x c e v ⟨o,ho,hd⟩=>by
  have Dk:c∉ch:=λ z=>(tz c z).2.2.1 x c e rfl
  by_cases hc:c∈X.fs
  ·obtain⟨sl,q⟩:=slot c o (I.cne x c e) hc Dk ho (I.freeC x c e);exact⟨_,q,hd⟩
  ·exact⟨o,keep c o (I.cne x c e) hc Dk ho (I.freeC x c e),hd⟩
 refine⟨I.ok,I.os,hg,⟨λ b o e n hb hx=>?_,λ b o e n hb hx=>?_,λ b o e n hx=>?_,λ b o e hx=>?_,λ b xs e=>tups b xs (I.base.tups b xs e),λ b o xs e=>frzs b o xs (I.base.frzs b o xs e),λ b ps e=>?_⟩,?_,λ x c e=>?_,?_,λ x c e=>?_,λ p hp=>?_,hok,I.len⟩
 ·exact keep b o (neL b o e) hb (Kg b o e hx) (I.base.keep b o e n hb hx) (I.base.free b o e n hx)
 ·obtain⟨sl,e1⟩:=I.base.slot b o e n hb hx;obtain⟨zq,e2⟩:=slot b _ (neL b o e) hb (Kg b o e hx) e1 (I.base.free b o e n hx);exact⟨zq,e2⟩
 ·obtain⟨o',e1⟩:=I.base.there b o e hx;exact free b o' (Kg b o e hx) e1 (I.base.free b o e n hx)
 ·obtain⟨o',e1⟩:=I.base.there b o e hx;exact there b o' (Kg b o e hx) e1
 ·obtain⟨m1,e1⟩:=I.base.tbls b ps e;obtain⟨m2,e2⟩:=tbls b _ e1;exact⟨m1++m2,by rw[e2,Array.append_assoc]⟩
 ·obtain⟨m,hn,hl⟩:=I.loc;refine⟨m,ns m hn,λ i x v e1 e2 e3=>?_⟩;obtain⟨u,r,l⟩:=hl i x v e1 e2 e3;refine⟨u,r,?_⟩;rcases l with l | ⟨k,c,e,z⟩
  ·exact .inl l
  ·exact .inr ⟨k,c,e,cellK x c e _ z⟩
 ·obtain⟨v,z⟩:=I.cell x c e;exact⟨v,cellK x c e v z⟩
 ·obtain⟨m,⟨o,_,_,ho,_⟩,_⟩:=I.loc;exact free _ o (λ z=>(tz _ z).2.1 rfl) ho I.free
 ·obtain⟨v,o,ho,hd⟩:=I.cell x c e;exact free c o (λ z=>(tz c z).2.2.1 x c e rfl) ho (I.freeC x c e)
 ·obtain⟨e,n,ne,nf,d⟩:=I.pin p hp;have Dk:p.1∉ch:=λ z=>(tz p.1 z).2.2.2 p hp rfl;exact⟨keep p.1 p.2 ne nf Dk e n,free p.1 p.2 Dk e n,ne,nf,d⟩
theorem Inv.un {t':Nat} (I:Inv X gn σ H s) (u:Un X.fs [] H H' s.heap h') (hok:pC X.prog X.w H' h'):Inv X gn σ H' { s with heap:=h',toks:=t' }:=by
 obtain⟨m,⟨o,es,ep,ho,r⟩,_⟩:=id I.loc;obtain⟨sl,hL⟩:=u.any ho I.free (by simp);exact I.step (g':=s.gens) (d':=s.drawn) (ch:=[]) (λ _ z=>nomatch z) (λ b o _ hb _ e n=>u.keep b o e n hb (by simp)) (λ b o _ hb _ e n=>u.slot b o e n hb (by simp)) (λ b o _ e n=>u.free b o e n (by simp)) (λ b o _ e=>u.there b o e (by simp)) u.tups u.frzs u.tbls (λ m' hm=>by
  obtain⟨o',Os,Ot,mw,r'⟩:=hm;rw[ho] at mw;cases mw;exact⟨_,Os,Ot,hL,r'⟩) hok I.bare
theorem Inv.call {g':Array GenState}{t':Nat}{d':Drawn}{ch:List Á} (I:Inv X gn σ H s) (u:Un (pE X.stack) ch H H' s.heap h') (hok:pC X.prog X.w H' h') (hg:AllBare g')
  (tz:∀ b∈ch,(b∈X.ex\/X.s₀.heap.objs.size<=b)/\b≠X.env.locals/\(∀ x c,X.env.cells.lookup x=some c->c≠b)/\∀ p∈X.pn++gn,p.1≠b) :
  Inv X gn σ H' { s with heap:=h',gens:=g',drawn:=d',toks:=t' }:=by
 obtain⟨m,⟨o,es,ep,ho,r⟩,_⟩:=id I.loc;obtain⟨sl,hL⟩:=u.any ho I.free λ z=>(tz _ z).2.1 rfl;exact I.step (ch:=ch) tz (λ b o hL hb hc e n=>u.keep b o e n (λ z=>(Ñ.mp (I.stkSub b z)).elim hL hb) hc) (λ b o _ _ hc e n=>u.any e n hc) (λ b o hc e n=>u.free b o e n hc) (λ b o hc e=>u.there b o e hc) u.tups u.frzs u.tbls (λ m' hm=>by
  obtain⟨o',Os,Ot,mw,r'⟩:=hm;rw[ho] at mw;cases mw;exact⟨_,Os,Ot,hL,r'⟩) hok hg
theorem Inv.turned {t':Nat}{it:Á} (I:Inv X gn σ H s) (k:∀ b o,b≠it->s.heap.get? b=some o->h'.get? b=some o) (hn:H it=none) (hL:it≠X.env.locals)
  (h1:it∈X.ex\/X.s₀.heap.objs.size<=it) (h2:∀ x c,X.env.cells.lookup x=some c->c≠it) (h3:∀ p∈X.pn++gn,p.1≠it):Inv X gn σ H { s with heap:=h',toks:=t' }:=by
 have nit:∀ b u,H b=some u->b≠it:=λ b u e z=>by rw[z,hn] at e;cases e
 refine I.step (g':=s.gens) (d':=s.drawn) (ch:=[it]) (λ b hb=>?_) (λ b o _ _ hc e _=>k b o (λ z=>hc (by simp [z])) e) (λ b o _ _ hc e _=>⟨o.slots,k b o (λ z=>hc (by simp [z])) e⟩) (λ _ _ _ _ n=>n)
  (λ b o hc e=>⟨o,k b o (λ z=>hc (by simp [z])) e⟩) (λ _ _ e=>e) (λ _ _ _ e=>e) (λ b ps e=>⟨#[],by rw[e];simp⟩) (λ m hm=>?_) (λ b u e=>?_) I.bare
 ·have e:b=it:=by simpa using hb
  subst e;exact⟨h1,hL,h2,h3⟩
 ·obtain⟨o,es,ep,ho,r⟩:=hm;exact⟨o,es,ep,k _ o (Ne.symm hL) ho,r⟩
 ·refine (I.hok b u e).stay (λ c v hc q=>k c v ?_ q) (λ _ q=>q) λ _ _ q=>q;rcases hc with z | z
  ·rw[z];exact nit b u e
  ·exact nit c _ z
theorem Inv.tok (I:Inv X gn σ H s) (t:Nat):Inv X gn σ H { s with toks:=t }:=I.un (h':=s.heap) (t':=t) Un.refl I.hok
theorem Inv.kept {t':Nat} (I:Inv X gn σ H s) (k:∀ b u,s.heap.get? b=some u->h'.get? b=some u):Inv X gn σ H { s with heap:=h',toks:=t' }:=I.un (Un.kept k) (I.hok.kept k)
theorem Inv.laid {a:Á}{o:HO}{t':Nat} (I:Inv X gn σ H s) (k:∀ b u,s.heap.get? b=some u->h'.get? b=some u) (hp:s.heap.objs.size<=a) (new:dP X.prog X.w (upd H a o) h' a o) :
  Inv X gn σ (upd H a o) { s with heap:=h',toks:=t' }:=I.un (Un.laid k hp (I.hok.fresh hp)) (I.hok.laid k hp new)
theorem Inv.write {x e:Á}{o:HO}{t':Nat} (I:Inv X gn σ H s) (mu:lS (H x)) (he:e=x\/H e=some (.own x)) (k:∀ b u,b≠e->s.heap.get? b=some u->h'.get? b=some u) (Ca:∃ u,h'.get? e=some u)
  (new:dP X.prog X.w (upd H x o) h' x o):Inv X gn σ (upd H x o) { s with heap:=h',toks:=t' }:=I.un (Un.write mu he k Ca) (I.hok.write mu he k Ca new)
theorem Inv.pins_of {ua:List (Á×Obj)} (I:Inv X gn σ H s) (h:∀ p∈ua,s.heap.get? p.1=some p.2/\H p.1=none/\p.1≠X.env.locals/\p.1∉X.fs/\∀ v,p.2.data≠.cell v):Inv X ua σ H s:=
 ⟨I.ok,I.os,I.bare,I.base,I.loc,I.cell,I.free,I.freeC,λ p hp=>(ß.mp hp).elim (λ z=>I.pin p (Ě _ z)) (h p),I.hok,I.len⟩
theorem w4 {N:List Str} (hN:N.Nodup) {i j:Nat}{x:Str} (a:N[i]? = some x) (b:N[j]? = some x):i=j:=by
 obtain⟨h1,e1⟩:=æ.mp a;obtain⟨h2,e2⟩:=æ.mp b;exact (List.getElem_inj hN).mp (e1.trans e2.symm)
theorem xD {M:Model}{A:Around}{E:À->Â->Prop}{i:Nat}{x:Str}{v:V}{u:À}{Q:Unit->Â->Prop} (I:Inv X gn σ H s) (hN:X.N.Nodup) (hi:X.N[i]? = some x) (hx:R8 X.env.scope x) (r:bH v u)
  (h:∀ s',Inv X gn (σ.set i (some v)) H s'->(∃ a,Heap.SameBut a s.heap s'.heap/\(a=X.env.locals\/X.env.cells.lookup x=some a))->Q () s') (hf:X.fn x=true\/X.env.scope.names.lookup x=some .local:=by with_unfolding_all first | exact .inl rfl | exact .inr rfl | assumption):wpAny M A (storeName X.env x u) Q E s:=by
 obtain⟨m,hn,hl⟩:=id I.loc;have uh:(X.env.scope.kind == .class || (X.env.scope.kind == .module && X.env.locals != X.env.globals))=false:=by rw[I.ok.kind];rfl
 have cy:i < σ.length:=by rw[I.len];exact (æ.mp hi).1
 have Cb:=I.cne;have tracked:∀ {a:Á}{h':Heap},(∃ o,s.heap.get? a=some o/\H a=none)->Heap.SameBut a s.heap h'->pC X.prog X.w H h':=λ {a h'} ha hs b ob e=>by
  obtain⟨_,_,mh⟩:=ha;refine (I.hok b ob e).stay (λ c w' hc q=>(hs.2 c ?_).trans q) (λ _ q=>q) λ _ _ q=>q;rintro rfl;rcases hc with rfl | hc
  ·rw[mh] at e;cases e
  ·rw[mh] at hc;cases hc
 rcases hx with hk | hk
 ·refine wpAny_storeName_local hk hn (λ h' Ou hs=>?_) uh;obtain⟨oL,_,_,hoL,_⟩:=id hn;refine h _ ⟨I.ok,I.os,I.bare,⟨λ b o e n hb hx=>?_,λ b o e n hb hx=>?_,I.base.free,λ b o e hx=>?_,I.base.tups,I.base.frzs,I.base.tbls⟩,⟨_,Ou,λ j y v' e1 e2 e3=>?_⟩,λ y c e=>?_,I.free,I.freeC,λ p hp=>?_,tracked ⟨oL,hoL,I.free⟩ hs,by simpa using I.len⟩ ⟨_,hs,.inl rfl⟩
  ·exact (hs.2 b (é (í (Ö e) I.ok.above))).trans (I.base.keep b o e n hb hx)
  ·obtain⟨sl,e1⟩:=I.base.slot b o e n hb hx;exact⟨sl,(hs.2 b (é (í (Ö e) I.ok.above))).trans e1⟩
  ·obtain⟨o',e1⟩:=I.base.there b o e hx;exact⟨o',(hs.2 b (é (í (Ö e) I.ok.above))).trans e1⟩
  ·by_cases hj:j=i
   ·subst hj;rw[hi] at e1;cases e1;rw[Ř cy] at e2;cases e2;exact⟨u,r,.inl ⟨hk,by simp⟩⟩
   ·rw[ř (Ne.symm hj)] at e2;obtain⟨u',r',q⟩:=hl j y v' e1 e2 e3;refine⟨u',r',?_⟩;rcases q with ⟨k,e⟩ | ⟨k,c,e,z⟩
    ·refine .inl ⟨k,?_⟩;have:y≠x:=λ e=>hj (w4 hN e1 (e ▸ hi));simp [this,e]
    ·exact .inr ⟨k,c,e,z.sameBut hs (Cb y c e)⟩
  ·obtain⟨w',z⟩:=I.cell y c e;exact⟨w',z.sameBut hs (Cb y c e)⟩
  ·obtain⟨e,n,ne,nf,d⟩:=I.pin p hp;exact⟨(hs.2 p.1 ne).trans e,n,ne,nf,d⟩
 ·have Ov:X.fn x=true:=by
   rcases hf with z | z
   ·exact z
   ·rw[z] at hk;cases hk
  obtain⟨c,hc⟩:=I.ok.has x (.inl hk);obtain⟨w',z⟩:=I.cell x c hc;refine wpAny_storeName_cell I.ok.kind hk hc z (λ h' xl hs=>?_);obtain⟨oc,Ak,Ow⟩:=id z;refine h { s with heap:=h' } ⟨I.ok,I.os,I.bare,⟨λ b o e n hb hx=>?_,λ b o e n hb hx=>?_,I.base.free,λ b o e hx=>?_,I.base.tups,I.base.frzs,I.base.tbls⟩,⟨m,hn.sameBut hs (Ne.symm (Cb x c hc)),λ j y v' e1 e2 e3=>?_⟩,λ y c' e=>?_,I.free,I.freeC,λ p hp=>?_,tracked ⟨oc,Ak,I.freeC x c hc⟩ hs,by simpa using I.len⟩ ⟨c,hs,.inr hc⟩
  ·exact (hs.2 b (é (í (Ö e) (I.ok.cab x c Ov hc)))).trans (I.base.keep b o e n hb hx)
  ·obtain⟨sl,e1⟩:=I.base.slot b o e n hb hx;exact⟨sl,(hs.2 b (é (í (Ö e) (I.ok.cab x c Ov hc)))).trans e1⟩
  ·obtain⟨o',e1⟩:=I.base.there b o e hx;exact⟨o',(hs.2 b (é (í (Ö e) (I.ok.cab x c Ov hc)))).trans e1⟩
  ·by_cases hj:j=i
   ·subst hj;rw[hi] at e1;cases e1;rw[Ř cy] at e2;cases e2;exact⟨u,r,.inr ⟨.inl hk,c,hc,xl⟩⟩
   ·rw[ř (Ne.symm hj)] at e2;obtain⟨u',r',q⟩:=hl j y v' e1 e2 e3;refine⟨u',r',?_⟩;rcases q with q | ⟨k,c',e,z'⟩
    ·exact .inl q
    ·refine .inr ⟨k,c',e,z'.sameBut hs ?_⟩;rintro rfl;exact hj (w4 hN e1 (I.ok.inj _ _ _ e hc ▸ hi))
  ·by_cases hcc:c'=c
   ·subst hcc;exact⟨_,xl⟩
   ·obtain⟨w2,z2⟩:=I.cell y c' e;exact⟨w2,z2.sameBut hs hcc⟩
  ·obtain⟨e,n,ne,nf,d⟩:=I.pin p hp;refine⟨(hs.2 p.1 ?_).trans e,n,ne,nf,d⟩;intro q;rw[q,Ak] at e;have q':oc=p.2:=ï e;exact d w' (by rw[<- q'];exact Ow)
theorem jU {M:Model}{A:Around}{E:À->Â->Prop}{i:Nat}{x:Str}{v:V}{u:À}{Q:Unit->Â->Prop} (I:Inv X gn σ H s) (hN:X.N.Nodup) (hi:X.N[i]? = some x) (hx:R8 X.env.scope x) (r:bH v u)
  (h:∀ s',Inv X gn (σ.set i (some v)) H s'->Q () s') (hf:X.fn x=true\/X.env.scope.names.lookup x=some .local:=by with_unfolding_all first | exact .inl rfl | exact .inr rfl | assumption):wpAny M A (storeName X.env x u) Q E s:=
 xD I hN hi hx r (λ s' I' _=>h s' I') hf
theorem Inv.call' {s':Â}{ch:List Á} (I:Inv X gn σ H s) (ho:s'.os=s.os) (u:Un (pE X.stack) ch H H' s.heap s'.heap) (hok:pC X.prog X.w H' s'.heap) (hg:AllBare s'.gens)
  (tz:∀ b∈ch,(b∈X.ex\/X.s₀.heap.objs.size<=b)/\b≠X.env.locals/\(∀ x c,X.env.cells.lookup x=some c->c≠b)/\∀ p∈X.pn++gn,p.1≠b):Inv X gn σ H' s':=by
 obtain⟨h',g',d',t',o'⟩:=s';have e:o'=s.os:=ho;subst e;exact I.call (g':=g') (t':=t') (d':=d') u hok hg tz
end
abbrev XK:=À->Option Á->Hp->Prop
abbrev St:=List (Option V)
abbrev VK:=V->Hp->Prop
abbrev TE:=St->Hp->VK->Prop
abbrev TT:=St->Hp->(Bool->Hp->Prop)->Prop
abbrev TA:=St->Hp->(List V->Hp->Prop)->Prop
structure Ends where
 nx:St->Hp->Prop
 rt:VK
 bk:St->Hp->Prop:=λ _ _=>False
 ct:St->Hp->Prop:=λ _ _=>False
abbrev TS:=Ends->St->Hp->Prop
def EP (X:Cx) (gn:List (Á×Obj)) (σ:St) (Q:VK) (u:À) (s':Â):Prop:=∃ v H',Inv X gn σ H' s'/\bH v u/\Q v H'
def TP (X:Cx) (gn:List (Á×Obj)) (σ:St) (Q:Bool->Hp->Prop) (b:Bool) (s':Â):Prop:=∃ H',Inv X gn σ H' s'/\Q b H'
def AP (X:Cx) (gn:List (Á×Obj)) (σ:St) (Q:List V->Hp->Prop) (us:List À) (s':Â):Prop:=∃ vs H',Inv X gn σ H' s'/\bG vs us/\Q vs H'
def SP (X:Cx) (gn:List (Á×Obj)) (D:Ends) (f:Flow) (s':Â):Prop:=
 match f with
 | .next=>∃ ac H',Inv X gn ac H' s'/\D.nx ac H'
 | .brk=>∃ ac H',Inv X gn ac H' s'/\D.bk ac H'
 | .cont=>∃ ac H',Inv X gn ac H' s'/\D.ct ac H'
 | .ret u=>∃ v ac H',Inv X gn ac H' s'/\bH v u/\D.rt v H'
def PE (X:Cx) (e:Expr) (t:TE):Prop:=
 ∀ (gn:List (Á×Obj)) (s:Â) (σ:St) (H:Hp) (Q:VK),Inv X gn σ H s->t σ H Q->wpAny (model X.prog X.w) X.A (eval e X.env) (EP X gn σ Q) X.xe s
def PT (X:Cx) (e:Expr) (t:TT):Prop:=
 ∀ (gn:List (Á×Obj)) (s:Â) (σ:St) (H:Hp) (Q:Bool->Hp->Prop),Inv X gn σ H s->t σ H Q->wpAny (model X.prog X.w) X.A (isTrue e X.env (eval e X.env)) (TP X gn σ Q) X.xe s
def PW (X:Cx) (e:Expr) (t:TT):Prop:=
 ∀ (whole:Sem À) (gn:List (Á×Obj)) (s:Â) (σ:St) (H:Hp) (Q:Bool->Hp->Prop),Inv X gn σ H s->t σ H Q->wpAny (model X.prog X.w) X.A (isTrue e X.env whole) (TP X gn σ Q) X.xe s
theorem PW.pt {X:Cx}{e:Expr}{t:TT} (h:PW X e t):PT X e t:=h _
def Ć:=@PW.pt
def PA (X:Cx) (es:List Expr) (t:TA):Prop:=
 ∀ (pos:Pos) (gn:List (Á×Obj)) (s:Â) (σ:St) (H:Hp) (Q:List V->Hp->Prop),Inv X gn σ H s->t σ H Q->wpAny (model X.prog X.w) X.A (spliced (backTo pos (starEach es X.env))) (AP X gn σ Q) X.xe s
def PS (X:Cx) (st:Stmt) (t:TS):Prop:=
 ∀ (gn:List (Á×Obj)) (s:Â) (σ:St) (H:Hp) (D:Ends),Inv X gn σ H s->t D σ H->wpAny (model X.prog X.w) X.A (exec st X.env) (SP X gn D) X.xe s
def ET (X:Cx) (st:List Stmt) (t:TS):Prop:=
 ∀ (gn:List (Á×Obj)) (s:Â) (σ:St) (H:Hp) (D:Ends),Inv X gn σ H s->t D σ H->wpAny (model X.prog X.w) X.A (execs st X.env) (SP X gn D) X.xe s
theorem d8 {ak:Type}{t:Sem ak}{Q Q':ak->Â->Prop}{M:Model}{A:Around}{E:À->Â->Prop}{s:Â} (h:wpAny M A t Q E s) (hQ:∀ a s,Q a s->Q' a s):wpAny M A t Q' E s:=ò h hQ λ _ _ x=>x
section
variable {X:Cx}
def cF (i:Nat):TE:=λ σ H Q=>∃ v,σ[i]? = some (some v)/\Q v H
def tC (v:V):TE:=λ _ H Q=>Q v H
theorem L9 {i:Nat}{x:Str}{pos:Pos} (hN:X.N[i]? = some x) (hv:VT X.env.scope x) (hd:(x == ("__debug__" : Str))=false:=by decide) (sj:(x == ("__classdict__" : Str))=false:=by decide):PE X (.Name x pos) (cF i):=by
 intro gn s σ H Q I h;obtain⟨v,e,h⟩:=h;obtain⟨m,hn,hl⟩:=I.loc;obtain⟨u,r,l⟩:=hl i x v hN e hv;have fin:EP X gn σ Q u s:=⟨v,H,I,r,h⟩;rcases l with ⟨hk,hm⟩ | ⟨hk,c,hc,ku⟩
 ·exact wpAny_Name (wpAny_loadName_local I.ok.kind hk hn hm fin) hd
 ·rcases hk with hk | hk
  ·exact wpAny_Name (wpAny_loadName_cell I.ok.kind hk hc ku fin) hd
  ·exact wpAny_Name (wpAny_loadName_free I.ok.kind hk hc ku fin sj) hd
theorem aG {i j pos}:PE X (.Constant (.int i) j pos) (tC (.int i)):=λ _ _ _ H _ I h=>wpAny_Constant_int ⟨.int i,H,I.tok _,⟨_,rfl⟩,h⟩
theorem fW {b j pos}:PE X (.Constant (.bool b) j pos) (tC (.bl b)):=λ _ _ _ H _ I h=>Constant_bool ⟨.bl b,H,I,rfl,h⟩
theorem fY {j pos}:PE X (.Constant .none j pos) (tC .non):=λ _ _ _ H _ I h=>Constant_none ⟨.non,H,I,rfl,h⟩
theorem aK {x j pos}:PE X (.Constant (.str x) j pos) (tC (.str x)):=λ _ _ _ H _ I h=>Calls.Constant_str ⟨.str x,H,I.tok _,⟨_,rfl⟩,h⟩
def Gl (X:Cx) (x:Str):Prop:=X.env.kindOf x=some .globalImplicit
theorem lE {E:À->Â->Prop}{gn:List (Á×Obj)}{s:Â}{σ:St}{H:Hp}{x:Str}{u:À}{pos:Pos}{Q:À->Â->Prop} (I:Inv X gn σ H s) (hg:Gl X x) (hm:X.mg x=some u) (h:Q u s)
  (hd:(x == ("__debug__" : Str))=false:=by decide):wpAny (model X.prog X.w) X.A (eval (.Name x pos) X.env) Q E s:=
 Calls.Name_function_global I.ok.kind hg (Calls.loadGlobal_global (by rw[I.ok.glob];exact I.mod.glob.keeps I.bk) hm h) hd
theorem oW {E:À->Â->Prop}{gn:List (Á×Obj)}{s:Â}{σ:St}{H:Hp}{x:Str}{u:À}{pos:Pos}{Q:À->Â->Prop} (I:Inv X gn σ H s) (hg:Gl X x) (hm:X.mg x=none) (hv:bootBuiltins x=some u) (h:Q u s)
  (hn:x ≠ "__name__" := by decide) (hd:(x == ("__debug__" : Str))=false:=by decide):wpAny (model X.prog X.w) X.A (eval (.Name x pos) X.env) Q E s:=by
 obtain⟨mb,h1,h2⟩:=I.mod.blt;exact Calls.Name_function_global I.ok.kind hg (Calls.loadGlobal_builtin (by rw[I.ok.glob];exact I.mod.glob.keeps I.bk) hm (by rw[I.ok.blt];exact h1.keeps I.bk) ((h2 x hn).trans hv) h) hd
theorem OV {x:Str}{v:V}{u:À}{pos:Pos} (hg:Gl X x) (hm:X.mg x=some u) (r:bH v u) (hd:(x == ("__debug__" : Str))=false:=by decide):PE X (.Name x pos) (tC v):=
 λ _ _ _ H _ I h=>lE I hg hm ⟨v,H,I,r,h⟩ hd
theorem iB {x:Str}{v:V}{u:À}{pos:Pos} (hg:Gl X x) (hm:X.mg x=none) (hv:bootBuiltins x=some u) (r:bH v u) (hn:x ≠ "__name__" := by decide) (hd:(x == ("__debug__" : Str))=false:=by decide):PE X (.Name x pos) (tC v):=
 λ _ _ _ H _ I h=>oW I hg hm hv ⟨v,H,I,r,h⟩ hn hd
variable {a b:Expr}{ta tb:TE}{pos:Pos}
def tB (t:TE):TT:=λ σ H Q=>t σ H λ x H1=>∃ c,x=.bl c/\Q c H1
theorem cS {e:Expr}{t:TE} (h:PE X e t) (he:∀ whole,isTrue e X.env whole=(do let v <- whole;standAt e.pos;holding [v] (truthy v)):=by intro _;with_unfolding_all rfl):PT X e (tB t):=by
 intro gn s σ H Q I hw;refine isTrue_plain (d8 (h gn s σ H _ I hw) λ v s1 ⟨x,H1,I1,r1,q1⟩=>?_) (he _);obtain⟨d,rfl,q⟩:=q1;cases r1;exact ĩ ⟨H1,I1,q⟩
variable {tA Kh:TT}{jo:List Expr}
def RN (t u:TT):TT:=λ σ H Q=>t σ H λ c H1=>if c=true then u σ H1 Q else Q false H1
def tOr (t u:TT):TT:=λ σ H Q=>t σ H λ c H1=>if c=true then Q true H1 else u σ H1 Q
def tNot (t:TT):TT:=λ σ H Q=>t σ H λ c H1=>Q (!c) H1
theorem nK (ha:PT X a tA):PW X (.BoolOp .And [a] pos) tA:=by
 intro wh gn s σ H Q I h;refine isTrue_and (d8 (ha gn s σ H Q I h) λ c s1 e=>?_);cases c with
 | true=>exact isTrue_and_nil e
 | false=>exact e
theorem jN (ha:PT X a tA):PW X (.BoolOp .Or [a] pos) tA:=by
 intro wh gn s σ H Q I h;refine isTrue_or (d8 (ha gn s σ H Q I h) λ c s1 e=>?_);cases c with
 | false=>exact isTrue_or_nil e
 | true=>exact e
theorem rO (ha:PT X a tA) (hb:PW X (.BoolOp .And (b::jo) pos) Kh):PW X (.BoolOp .And (a::b::jo) pos) (RN tA Kh):=by
 intro wh gn s σ H Q I h;refine isTrue_and (d8 (ha gn s σ H _ I h) λ c s1 ⟨H1,I1,q1⟩=>?_);cases c with
 | true=>exact hb wh gn s1 σ H1 Q I1 q1
 | false=>exact⟨H1,I1,q1⟩
theorem lO (ha:PT X a tA) (hb:PW X (.BoolOp .Or (b::jo) pos) Kh):PW X (.BoolOp .Or (a::b::jo) pos) (tOr tA Kh):=by
 intro wh gn s σ H Q I h;refine isTrue_or (d8 (ha gn s σ H _ I h) λ c s1 ⟨H1,I1,q1⟩=>?_);cases c with
 | true=>exact⟨H1,I1,q1⟩
 | false=>exact hb wh gn s1 σ H1 Q I1 q1
theorem dX (ha:PT X a tA):PT X (.UnaryOp .Not a pos) (tNot tA):=by
 intro gn s σ H Q I h;exact isTrue_not (ha gn s σ H (λ c H1=>Q (!c) H1) I h)
def UM (ta tb:TE):TE:=λ σ H Q=>ta σ H λ x H1=>∃ c,x=.bl c/\if c=true then tb σ H1 Q else Q (.bl false) H1
def tOrV (ta tb:TE):TE:=λ σ H Q=>ta σ H λ x H1=>∃ c,x=.bl c/\if c=true then Q (.bl true) H1 else tb σ H1 Q
def QI (ta:TE):TE:=λ σ H Q=>ta σ H λ x H1=>∃ c,x=.bl c/\Q (.bl (!c)) H1
theorem iK {op}{t:TE} (h:PE X a t):PE X (.BoolOp op [a] pos) t:=λ gn s σ H Q I hw=>BoolOp_one (h gn s σ H Q I hw)
theorem gG (ha:PE X a ta) (hb:PE X (.BoolOp .And (b::jo) pos) tb):PE X (.BoolOp .And (a::b::jo) pos) (UM ta tb):=by
 intro gn s σ H Q I h;refine BoolOp_and (d8 (ha gn s σ H _ I h) λ v s1 ⟨x,H1,I1,r1,q1⟩=>?_);obtain⟨c,rfl,q1⟩:=q1;cases r1;refine ĩ ?_;cases c with
 | true=>exact hb gn s1 σ H1 Q I1 q1
 | false=>exact⟨.bl false,H1,I1,rfl,q1⟩
theorem LC (ha:PE X a ta) (hb:PE X (.BoolOp .Or (b::jo) pos) tb):PE X (.BoolOp .Or (a::b::jo) pos) (tOrV ta tb):=by
 intro gn s σ H Q I h;refine BoolOp_or (d8 (ha gn s σ H _ I h) λ v s1 ⟨x,H1,I1,r1,q1⟩=>?_);obtain⟨c,rfl,q1⟩:=q1;cases r1;refine ĩ ?_;cases c with
 | false=>exact hb gn s1 σ H1 Q I1 q1
 | true=>exact⟨.bl true,H1,I1,rfl,q1⟩
theorem zE (ha:PE X a ta):PE X (.UnaryOp .Not a pos) (QI ta):=by
 intro gn s σ H Q I h;refine UnaryOp_ (d8 (ha gn s σ H _ I h) λ v s1 ⟨x,H1,I1,r1,q1⟩=>?_);obtain⟨c,rfl,q1⟩:=q1;cases r1;exact not_of (ĩ ⟨.bl (!c),H1,I1,rfl,q1⟩)
def tIf (t:TT) (ta tb:TE):TE:=λ σ H Q=>t σ H λ c H1=>if c=true then ta σ H1 Q else tb σ H1 Q
theorem jZ {c:Expr} (hc:PT X c tA) (ha:PE X a ta) (hb:PE X b tb):PE X (.IfExp c a b pos) (tIf tA ta tb):=by
 intro gn s σ H Q I h;refine wpAny_IfExp (d8 (hc gn s σ H _ I h) λ d s1 ⟨H1,I1,q1⟩=>?_);cases d with
 | true=>exact ha gn s1 σ H1 Q I1 q1
 | false=>exact hb gn s1 σ H1 Q I1 q1
end
def aY (K:Ç) (H:Hp) (a:Á) (xs:List V):Prop:=
 Rd H a (.lst xs)\/
  ∃ (o:Obj) (gx:Array À) (n:Nat),K.lookup a=some o/\o.cls=.type "list" /\ o.dict=none/\o.data=.seq gx n/\gx.size<=sizeLine/\bG xs gx.toList
def bS (K:Ç) (H:Hp) (a:Á) (xs:List V):Prop:=
 Rd H a (.tup xs)\/
  ∃ (o:Obj) (gx:Array À) (n:Nat),K.lookup a=some o/\o.cls=.type "tuple" /\ o.data=.seq gx n/\gx.size<=sizeLine/\bG xs gx.toList
def absV:À->Option V
 | .none=>some .non
 | .bool b=>some (.bl b)
 | .int i _=>some (.int i)
 | .str x _=>some (.str x)
 | .bytes b _=>some (.byt b)
 | .float b _=>some (.flt b)
 | .ref a=>some (.ref a)
 | .type n=>some (.ty n)
 | _=>none
theorem bH.abs {x:V}{u:À} (r:bH x u):absV u=some x:=by
 cases x with
 | non=>cases r;rfl
 | bl _=>cases r;rfl
 | int _=>obtain⟨t,rfl⟩:=r;rfl
 | str _=>obtain⟨t,rfl⟩:=r;rfl
 | byt _=>obtain⟨t,rfl⟩:=r;rfl
 | flt _=>obtain⟨t,rfl⟩:=r;rfl
 | ref _=>cases r;rfl
 | ty _=>cases r;rfl
theorem bH.inj {x y:V}{u:À} (r:bH x u) (q:bH y u):x=y:=ï (r.abs.symm.trans q.abs)
theorem bG.inj:∀ {xs ys:List V}{us:List À},bG xs us->bG ys us->xs=ys
 | _,_,_,.nil,.nil=>rfl
 | _,_,_,.cons r t,.cons r' t'=>by rw[r.inj r',bG.inj t t']
section
variable {X:Cx}{gn:List (Á×Obj)}{σ:St}{H:Hp}{s:Â}{a:Á}{xs ys:List V}
theorem aY.of {K:Ç} (h:H a=some (.lst xs)):aY K H a xs:=.inl (.inl h)
def É:=@aY.of
theorem bS.of {K:Ç} (h:H a=some (.tup xs)):bS K H a xs:=.inl (.inl h)
def Ò:=@bS.of
theorem Inv.list (I:Inv X gn σ H s) (h:aY X.K H a xs):∃ gx:List À,bG xs gx/\PlainL s.heap a gx.toArray/\xs.length<=sizeLine:=by
 rcases h with h | ⟨o,gx,n,hk,hc,hd,hs,hz,r⟩
 ·obtain⟨z,gx,n,r,e⟩:=h.ok I.hok;exact⟨gx,r,⟨_,n,e,rfl,rfl,rfl⟩,z⟩
 ·refine⟨gx.toList,r,⟨o,n,I.kIn a o hk,hc,hd,by simpa using hs⟩,?_⟩;have e:=r.length;simp only [Array.length_toList] at e;lia
theorem Inv.tuple (I:Inv X gn σ H s) (h:bS X.K H a xs):∃ gx:List À,bG xs gx/\IsTup s.heap a gx.toArray/\xs.length<=sizeLine:=by
 rcases h with h | ⟨o,gx,n,hk,hc,hs,hz,r⟩
 ·obtain⟨z,gx,r,p⟩:=h.ok I.hok;exact⟨gx,r,p,z⟩
 ·refine⟨gx.toList,r,⟨o,I.kIn a o hk,hc,n,by simpa using hs⟩,?_⟩;have e:=r.length;simp only [Array.length_toList] at e;lia
theorem Inv.list_inj (I:Inv X gn σ H s) (h:aY X.K H a xs) (h':aY X.K H a ys):xs=ys:=by
 obtain⟨gx,r,⟨o,n,e,_,_,d⟩,_⟩:=I.list h;obtain⟨its',r',⟨o',n',e',_,_,d'⟩,_⟩:=I.list h';rw[e] at e';cases e';rw[d] at d';injection d' with d1 _;have:gx=its':=by simpa using congrArg Array.toList d1
 subst this;exact r.inj r'
theorem Inv.tuple_inj (I:Inv X gn σ H s) (h:bS X.K H a xs) (h':bS X.K H a ys):xs=ys:=by
 obtain⟨gx,r,⟨o,e,_,n,d⟩,_⟩:=I.tuple h;obtain⟨its',r',⟨o',e',_,n',d'⟩,_⟩:=I.tuple h';rw[e] at e';cases e';rw[d] at d';injection d' with d1 _;have:gx=its':=by simpa using congrArg Array.toList d1
 subst this;exact r.inj r'
end
abbrev Cx.wish (X:Cx) (E:À->Â->Prop):Cx:={ X with xe:=E }
abbrev Cx.nox (X:Cx):Cx:=X.wish λ _ _=>False
theorem Cx.Ok.wish {X:Cx} (ok:X.Ok) (E:À->Â->Prop):(X.wish E).Ok:=
 ⟨ok.mod,ok.kind,ok.glob,ok.blt,ok.above,ok.inj,ok.has,ok.cab,ok.hd,ok.frames,ok.stk,ok.exf,ok.bs,ok.bsz,ok.noex,ok.exfs,ok.funs,ok.frf⟩
theorem Cx.Ok.unwish {X:Cx}{E:À->Â->Prop} (ok:(X.wish E).Ok):X.Ok:=
 ⟨ok.mod,ok.kind,ok.glob,ok.blt,ok.above,ok.inj,ok.has,ok.cab,ok.hd,ok.frames,ok.stk,ok.exf,ok.bs,ok.bsz,ok.noex,ok.exfs,ok.funs,ok.frf⟩
section
variable {X:Cx}{gn:List (Á×Obj)}{σ:St}{H:Hp}{s:Â}{E:À->Â->Prop}
theorem Inv.wish (I:Inv X gn σ H s) (E:À->Â->Prop):Inv (X.wish E) gn σ H s:=⟨I.ok.wish E,I.os,I.bare,I.base,I.loc,I.cell,I.free,I.freeC,I.pin,I.hok,I.len⟩
theorem Inv.unwish (I:Inv (X.wish E) gn σ H s):Inv X gn σ H s:=⟨I.ok.unwish,I.os,I.bare,I.base,I.loc,I.cell,I.free,I.freeC,I.pin,I.hok,I.len⟩
theorem SP.unwish {D:Ends}{f:Flow}{s':Â} (h:SP (X.wish E) gn D f s'):SP X gn D f s':=by
 cases f with
 | next=>obtain⟨ac,H',I,q⟩:=h;exact⟨ac,H',I.unwish,q⟩
 | brk=>obtain⟨ac,H',I,q⟩:=h;exact⟨ac,H',I.unwish,q⟩
 | cont=>obtain⟨ac,H',I,q⟩:=h;exact⟨ac,H',I.unwish,q⟩
 | ret u=>obtain⟨v,ac,H',I,r,q⟩:=h;exact⟨v,ac,H',I.unwish,r,q⟩
theorem ET.nox {st:List Stmt}{t:TS} (h:ET X.nox st t):ET X st t:=λ gn s σ H D I hw=>
 ò (h gn s σ H D (I.wish _) hw) (λ _ _ q=>q.unwish) λ _ _ z=>False.elim z
end
section
variable {X:Cx}{st:Stmt}{jo:List Stmt}{t u:TS}{e:Expr}{te:TE}{pos:Pos}
def bR:TS:=λ D σ H=>D.nx σ H
def gZ (t u:TS):TS:=λ D σ H=>t { D with nx:=u D } σ H
theorem aT:ET X [] bR:=λ _ _ σ H _ I h=>wpAny_execs_nil ⟨σ,H,I,h⟩
theorem aF (h1:PS X st t) (h2:ET X jo u):ET X (st::jo) (gZ t u):=by
 intro gn s σ H D I h;refine wpAny_execs_cons (d8 (h1 gn s σ H { D with nx:=u D } I h) λ f s1 q=>?_);cases f with
 | next=>
  obtain⟨ac,H',I',q⟩:=q;exact h2 gn s1 ac H' D I' q
 | ret v=>exact q
 | brk=>exact q
 | cont=>exact q
theorem aI (h1:PS X st t):ET X [st] t:=by
 intro gn s σ H D I h;refine wpAny_execs_cons (d8 (h1 gn s σ H D I h) λ f s1 q=>?_);cases f with
 | next=>exact wpAny_execs_nil q
 | ret v=>exact q
 | brk=>exact q
 | cont=>exact q
theorem Inv.quiet {gn:List (Á×Obj)}{σ:St}{H:Hp}{s:Â} (I:Inv X gn σ H s):interactive X.env=false:=by simp [interactive,I.ok.kind]
def K7 (te:TE):TS:=λ D σ H=>te σ H λ _ H1=>D.nx σ H1
theorem bQ (he:PE X e te) (hs:swapsWith e none pos.line X.env=pure false:=by exact wr0):PS X (.Expr e pos) (K7 te):=by
 intro gn s σ H D I h;exact wpAny_Expr_any (d8 (he gn s σ H _ I h) λ v s1 ⟨x,H1,I1,r1,q1⟩=>⟨σ,H1,I1,q1⟩) I.quiet hs
def K2 (te:TE):TS:=λ D σ H=>te σ H D.rt
theorem aO (he:PE X e te):PS X (.Return (some e) pos) (K2 te):=by
 intro gn s σ H D I h;exact wpAny_Return_some (d8 (he gn s σ H _ I h) λ v s1 ⟨x,H1,I1,r1,q1⟩=>⟨x,σ,H1,I1,r1,q1⟩)
def K4 (c:TT) (t u:TS):TS:=λ D σ H=>c σ H λ b H1=>if b=true then t D σ H1 else u D σ H1
theorem bJ {c:Expr}{a b:List Stmt}{tc:TT} (hc:PT X c tc) (ha:ET X a t) (hb:ET X b u):PS X (.If c a b pos) (K4 tc t u):=by
 intro gn s σ H D I h;refine wpAny_If (d8 (hc gn s σ H _ I h) λ d s1 ⟨H1,I1,q1⟩=>?_);cases d with
 | true=>exact ha gn s1 σ H1 D I1 q1
 | false=>exact hb gn s1 σ H1 D I1 q1
end
abbrev TG:=V->St->Hp->(St->Hp->Prop)->Prop
abbrev GS:=List V->St->Hp->(St->Hp->Prop)->Prop
def PG (X:Cx) (target:Expr) (t:TG):Prop:=
 ∀ (gn:List (Á×Obj)) (s:Â) (σ:St) (H:Hp) (v:V) (u:À) (Q:St->Hp->Prop),Inv X gn σ H s->bH v u->t v σ H Q->
  wpAny (model X.prog X.w) X.A (assign target X.env u) (λ _ s'=>∃ ac H',Inv X gn ac H' s'/\Q ac H') X.xe s
def NV (X:Cx) (ts:List Expr) (t:GS):Prop:=
 ∀ (gn:List (Á×Obj)) (s:Â) (σ:St) (H:Hp) (vs:List V) (us:List À) (Q:St->Hp->Prop),Inv X gn σ H s->bG vs us->t vs σ H Q->
  wpAny (model X.prog X.w) X.A (assignInOrder ((assignEach ts X.env).map (·.2)) us) (λ _ s'=>∃ ac H',Inv X gn ac H' s'/\Q ac H') X.xe s
abbrev NQ:=V->V->V->Hp->(Hp->Prop)->Prop
def TR (X:Cx) (t:NQ):Prop:=
 ∀ (gn:List (Á×Obj)) (s:Â) (σ:St) (H:Hp) (o i v:V) (ov iv u:À) (Q:Hp->Prop),Inv X gn σ H s->bH o ov->bH i iv->bH v u->t o i v H Q->
  wpAny (model X.prog X.w) X.A (setItem ov iv u) (λ _ s'=>∃ H',Inv X gn σ H' s'/\Q H') X.xe s
abbrev U4:=V->V->Hp->VK->Prop
def PIp (X:Cx) (op:Operator) (t:U4):Prop:=
 ∀ (gn:List (Á×Obj)) (s:Â) (σ:St) (H:Hp) (x y:V) (v u:À) (Q:VK),Inv X gn σ H s->bH x v->bH y u->t x y H Q->
  wpAny (model X.prog X.w) X.A (inplaceOp op v u) (EP X gn σ Q) X.xe s
section
variable {X:Cx}{pos:Pos}
def bL (i:Nat):TG:=λ v σ H Q=>Q (σ.set i (some v)) H
theorem tV {i:Nat}{x:Str} (hN:X.N.Nodup) (hi:X.N[i]? = some x) (hx:R8 X.env.scope x) (hf:X.fn x=true\/X.env.scope.names.lookup x=some .local:=by with_unfolding_all first | exact .inl rfl | exact .inr rfl | assumption):PG X (.Name x pos) (bL i):=by
 intro gn s σ H v u Q I r h;exact wpAny_assign_Name (jU I hN hi hx r (λ s' I'=>⟨_,H,I',h⟩) hf)
def VJ:GS:=λ vs σ H Q=>vs=[]/\Q σ H
def R1 (t:TG) (u:GS):GS:=λ vs σ H Q=>∃ v r,vs=v::r/\t v σ H λ ac H'=>u r ac H' Q
theorem bA:NV X [] VJ:=by
 intro gn s σ H vs us Q I r h;obtain⟨e,h⟩:=h;subst e;cases r;exact assignInOrder_nil ⟨σ,H,I,h⟩
theorem aH {e:Expr}{es:List Expr}{t:TG}{u:GS} (h1:PG X e t) (h2:NV X es u)
  (hs:(assignEach (e::es) X.env).map (·.2)=assign e X.env::(assignEach es X.env).map (·.2):=by exact wr0):NV X (e::es) (R1 t u):=by
 intro gn s σ H vs us Q I r h;obtain⟨v,vr,e1,h⟩:=h;subst e1;cases r with
 | cons r rr=>
  rw[hs];refine Ţ (d8 (h1 gn s σ H _ _ _ I r h) λ _ s1 ⟨gf,H1,I1,q1⟩=>?_);exact h2 gn s1 gf H1 _ _ Q I1 rr q1
def VI (K:Ç) (n:Nat) (t:GS):TG:=λ v σ H Q=>∃ a xs,v=.ref a/\bS K H a xs/\xs.length=n/\t xs σ H Q
theorem S6 {es:List Expr}{k:Nat}{t:GS}{n:Nat} (hc:X.calm=true) (h:NV X es t)
  (hn:(assignEach es X.env).length=n:=by exact wr0) (sk:(assignEach es X.env).findIdx? (·.1)=none:=by exact wr0):PG X (.Tuple es k pos) (VI X.K n t):=by
 intro gn s σ H v u Q I r hw;obtain⟨a,xs,e1,hq,hl,hw⟩:=hw;subst e1;cases r;obtain⟨gx,rv,ht,hz⟩:=I.tuple hq;refine assign_Tuple_tuple (I.ok.hd hc) ht (by simp [hn,<- hl,rv.length]) sk λ h' hx=>?_;have I1:Inv X gn σ H { s with heap:=h' }:=I.kept (t':=s.toks) λ b o e=>hx b o (é (Ö e)) e;exact h gn _ σ H xs _ Q I1 (by simpa using rv) hw
def N6 (to ti:TE) (t:NQ):TG:=λ v σ H Q=>to σ H λ o H1=>ti σ H1 λ i H2=>t o i v H2 λ H3=>Q σ H3
theorem j4 {o i:Expr}{to ti:TE}{t:NQ} (ho:PE X o to) (hi:PE X i ti) (hs:TR X t)
  (ha:∀ v,assign (.Subscript o i pos) X.env v=(do
   let ov <- holding [v] (eval o X.env);let iv <- holding [v,ov] (eval i X.env)
   standAt pos
   holding [v,ov,iv] (setItem ov iv v)
   release [v,ov,iv] []):=by intro _;with_unfolding_all rfl):PG X (.Subscript o i pos) (N6 to ti t):=by
 intro gn s σ H v u Q I r h;rw[ha];refine Æ (ô (d8 (ho gn s σ H _ I h) λ ov s1 ⟨x,H1,I1,r1,q1⟩=>?_));refine Æ (ô (d8 (hi gn s1 σ H1 _ I1 q1) λ iv s2 ⟨y,H2,I2,r2,q2⟩=>?_));refine Æ (ł (Æ (ô (d8 (hs gn s2 σ H2 x y v ov iv u _ I2 r1 r2 r q2) λ _ s3 ⟨H3,I3,q3⟩=>?_))));exact wpAny_release ⟨σ,H3,I3,q3⟩
def nZ (te:TE) (g:TG):TS:=λ D σ H=>te σ H λ x H1=>g x σ H1 D.nx
theorem bK {tg e:Expr}{te:TE}{g:TG} (he:PE X e te) (hg:PG X tg g) (hs:swapsWithSole [tg] e pos.line X.env=pure false:=by exact wr0) (hw:swappedStores [tg] e X.env=pure none:=by exact wr0)
  (h1:(assignEach [tg] X.env).map (·.2)=[assign tg X.env]:=by exact wr0):PS X (.Assign [tg] e pos) (nZ te g):=by
 intro gn s σ H D I h;refine wpAny_Assign_stores (d8 (he gn s σ H _ I h) λ v s1 ⟨x,H1,I1,r1,q1⟩=>?_) hs hw;rw[h1];exact d8 (hg gn s1 σ H1 x v _ I1 r1 q1) λ _ s2 q=>q
theorem zB {i:Nat}{x:Str}{e:Expr}{te:TE}{pos':Pos} (hN:X.N.Nodup) (hi:X.N[i]? = some x) (hx:R8 X.env.scope x) (he:PE X e te) (hs:swapsWith e (some (.Name x pos')) pos.line X.env=pure false:=by exact wr0) (hf:X.fn x=true\/X.env.scope.names.lookup x=some .local:=by with_unfolding_all first | exact .inl rfl | exact .inr rfl | assumption) :
  PS X (.Assign [.Name x pos'] e pos) (nZ te (bL i)):=by
 intro gn s σ H D I h;refine wpAny_Assign_Name (d8 (he gn s σ H _ I h) λ v s1 ⟨y,H1,I1,r1,q1⟩=>?_) hs;exact jU I1 hN hi hx r1 (λ s2 I2=>⟨_,H1,I2,q1⟩) hf
def tPar (i j:Nat) (ta:TA):TS:=λ D σ H=>ta σ H λ vs H1=>∃ v w,vs=[v,w]/\D.nx ((σ.set i (some v)).set j (some w)) H1
theorem S2 {i j:Nat}{x y:Str}{a b:Expr}{ta:TA}{px py pt:Pos}{kt k2 pt2} (hc:X.calm=true) (hN:X.N.Nodup) (hi:X.N[i]? = some x) (hj:X.N[j]? = some y) (Ki:i≠j)
  (hx:X.env.scope.names.lookup x=some .local) (hy:X.env.scope.names.lookup y=some .local) (ha:PA X [a,b] ta)
  (hw:swappedStores [.Tuple [.Name x px,.Name y py] kt pt] (.Tuple [a,b] k2 pt2) X.env=pure (some [x,y]))
  (hs:swapsWithSole [.Tuple [.Name x px,.Name y py] kt pt] (.Tuple [a,b] k2 pt2) pos.line X.env=pure false:=by exact wr0) :
  PS X (.Assign [.Tuple [.Name x px,.Name y py] kt pt] (.Tuple [a,b] k2 pt2) pos) (tPar i j ta):=by
 intro gn s σ H D I h;rw[exec_Assign_arm];refine Æ (ł ?_);rw[hs];refine Æ (Ë ?_);rw[Ä (by decide)];refine Æ (Tuple_ (d8 (ha _ gn s σ H _ I h) λ us s1 ⟨vs,H1,I1,r1,q1⟩=>?_));obtain⟨v,w,e1,q1⟩:=q1;subst e1;obtain⟨u1,u2,rfl,rv,so⟩:∃ u1 u2,us=[u1,u2]/\bH v u1/\bH w u2:=by
  cases r1 with
  | cons p q=>
   cases q with
   | cons p' q'=>
    cases q';exact⟨_,_,rfl,p,p'⟩
 refine Ŧ ?_ (by show 2<=sizeLine;decide);have I2:Inv X gn σ H1 { s1 with heap:=s1.heap.push { cls:=.type "tuple",data:=.seq [u1,u2].toArray } }:=I1.kept (t':=s1.toks) λ b o e=>Î _ e;rw[hw];refine Æ (Ë ?_);show wpAny (model X.prog X.w) X.A (do rule "assign.swapped-stores";let items <- unpackItems (.ref s1.heap.objs.size) 2 none;assignInOrder [λ v=>bindName X.env y v,λ v=>bindName X.env x v] items.reverse;pure Flow.next) _ _ _;refine Æ (Ĝ (Æ (unpackItems_tuple (items:=#[u1,u2]) (I.ok.hd hc) (IsTup.new s1.heap _) λ h' uc=>?_)));have I3:=I2.kept (h':=h') (t':=s1.toks) λ b o e=>uc b o (é (Ö e)) e;show wpAny _ _ (assignInOrder [λ v=>bindName X.env y v,λ v=>bindName X.env x v] [u2,u1] >>= λ _=>pure Flow.next) _ _ _;refine Æ (Ţ (wpAny_bindName (jU I3 hN hj (.inl hy) so (λ s2 I4=>?_) (.inr hy))));refine Ţ (wpAny_bindName (jU I4 hN hi (.inl hx) rv (λ s3 I5=>assignInOrder_nil (Ë ?_)) (.inr hx)));rw[List.set_comm _ _ (Ne.symm Ki)] at I5;exact⟨_,H1,I5,q1⟩
def tAug (i:Nat) (te:TE) (ti:U4):TS:=λ D σ H=>∃ x,σ[i]? = some (some x)/\te σ H λ y H1=>ti x y H1 λ z H2=>D.nx (σ.set i (some z)) H2
theorem L7 {i:Nat}{x:Str}{e:Expr}{te:TE}{op:Operator}{ti:U4}{pos':Pos} (hN:X.N.Nodup) (hi:X.N[i]? = some x) (hx:R8 X.env.scope x) (he:PE X e te) (ho:PIp X op ti) (hf:X.fn x=true\/X.env.scope.names.lookup x=some .local:=by with_unfolding_all first | exact .inl rfl | exact .inr rfl | assumption) :
  PS X (.AugAssign (.Name x pos') op e pos) (tAug i te ti):=by
 intro gn s σ H D I h;obtain⟨v,e1,h⟩:=h;obtain⟨m,hn,hl⟩:=I.loc;have vis:VT X.env.scope x:=by rcases hx with k | k;exact .inl k;exact .inr (.inl k)
 obtain⟨u,r,l⟩:=hl i x v hi e1 vis;refine wpAny_AugAssign_Name ?_;have go:wpAny (model X.prog X.w) X.A (eval e X.env) (λ w bx=>wpAny (model X.prog X.w) X.A (inplaceOp op u w) (λ r bz=>wpAny (model X.prog X.w) X.A (storeName X.env x r) (λ _=>SP X gn D .next) X.xe bz) X.xe bx) X.xe s:=by
  refine d8 (he gn s σ H _ I h) λ w s1 ⟨y,H1,I1,r1,q1⟩=>?_;refine d8 (ho gn s1 σ H1 v y u w _ I1 r r1 q1) λ z s2 ⟨zv,H2,I2,r2,q2⟩=>?_;exact jU I2 hN hi hx r2 (λ s3 I3=>⟨_,H2,I3,q2⟩) hf
 rcases l with ⟨hk,hm⟩ | ⟨hk,c,hc,ku⟩
 ·exact wpAny_loadName_local I.ok.kind hk hn hm go
 ·rcases hk with hk | hk
  ·exact wpAny_loadName_cell I.ok.kind hk hc ku go
  ·rcases hx with k | k
   ·have:X.env.scope.names.lookup x=some .free:=hk;rw[k] at this;cases this
   ·have:X.env.scope.names.lookup x=some .free:=hk;rw[k] at this;cases this
def UL (to ti te:TE) (yb:V->V->Hp->VK->Prop) (tip:U4) (yc:NQ):TS:=λ D σ H=>to σ H λ o H1=>ti σ H1 λ i H2=>yb o i H2 λ x H3=>te σ H3 λ y H4=>tip x y H4 λ z H5=>yc o i z H5 λ H6=>D.nx σ H6
def TU (X:Cx) (t:V->V->Hp->VK->Prop):Prop:=
 ∀ (gn:List (Á×Obj)) (s:Â) (σ:St) (H:Hp) (o i:V) (ov iv:À) (Q:VK),Inv X gn σ H s->bH o ov->bH i iv->t o i H Q->
  wpAny (model X.prog X.w) X.A (getItem ov iv) (EP X gn σ Q) X.xe s
theorem FQ {o i e:Expr}{to ti te:TE}{yb:V->V->Hp->VK->Prop}{tip:U4}{yc:NQ}{op:Operator}{Al:Pos} (ho:PE X o to) (hi:PE X i ti) (hg:TU X yb) (he:PE X e te) (hp:PIp X op tip) (hs:TR X yc)
  (ha:∀ ov iv new,augStore i ov iv new=(do holding [new,ov,iv] (setItem ov iv new);release [new,ov,iv] [];pure .next):=by intros;with_unfolding_all rfl):PS X (.AugAssign (.Subscript o i Al) op e pos) (UL to ti te yb tip yc):=by
 intro gn s σ H D I h;refine wpAny_AugAssign_SubscriptAny (d8 (ho gn s σ H _ I h) λ ov s1 ⟨x1,H1,I1,r1,q1⟩=>?_) ha;refine d8 (hi gn s1 σ H1 _ I1 q1) λ iv s2 ⟨x2,H2,I2,r2,q2⟩=>?_;refine d8 (hg gn s2 σ H2 x1 x2 ov iv _ I2 r1 r2 q2) λ jz s3 ⟨x3,H3,I3,r3,q3⟩=>?_;refine d8 (he gn s3 σ H3 _ I3 q3) λ v s4 ⟨x4,H4,I4,r4,q4⟩=>?_;refine d8 (hp gn s4 σ H4 x3 x4 jz v _ I4 r3 r4 q4) λ new s5 ⟨x5,H5,I5,r5,q5⟩=>?_;exact d8 (hs gn s5 σ H5 x1 x2 x5 ov iv new _ I5 r1 r2 r5 q5) λ _ s6 ⟨H6,I6,q6⟩=>⟨σ,H6,I6,q6⟩
def ipI (f:Int->Int->Int):U4:=λ x y H Q=>∃ i j,x=.int i/\y=.int j/\Q (.int (f i j)) H
theorem EI:PIp X .Add (ipI λ i j=>i+j):=by
 intro gn s σ H x y v u Q I r1 r2 h;obtain⟨i,j,e1,e2,q⟩:=h;subst e1;subst e2;obtain⟨t,rfl⟩:=r1;obtain⟨t',rfl⟩:=r2;exact iadd_int ⟨.int _,H,I.tok _,⟨_,rfl⟩,q⟩
theorem T8:PIp X .Sub (ipI λ i j=>i - j):=by
 intro gn s σ H x y v u Q I r1 r2 h;obtain⟨i,j,e1,e2,q⟩:=h;subst e1;subst e2;obtain⟨t,rfl⟩:=r1;obtain⟨t',rfl⟩:=r2;exact isub_int ⟨.int _,H,I.tok _,⟨_,rfl⟩,q⟩
end
structure It where
 go:Nat->Hp->Prop
 yld:Nat->Hp->V->Hp->Prop
 stop:Nat->Hp->Prop
def pD (X:Cx) (gn:List (Á×Obj)) (H:Hp) (b:Á):Prop:=
 H b=none/\b≠X.env.locals/\b∉X.fs/\(b∈X.ex\/X.s₀.heap.objs.size<=b)/\(∀ x c,X.env.cells.lookup x=some c->c≠b)/\∀ p∈X.pn++gn,p.1≠b
theorem Inv.fpOk {X:Cx}{gn:List (Á×Obj)}{σ:St}{H H':Hp}{s:Â}{b:Á} (I:Inv X gn σ H s) (hb:s.heap.objs.size<=b) (hn:H' b=none):pD X gn H' b:=by
 refine⟨hn,Nat.ne_of_gt (í I.lt hb),I.nofs hb,.inr (ë I.sz hb),λ x c e z=>?_,λ p hp z=>?_⟩
 ·obtain⟨v,q⟩:=I.cell x c e;exact absurd (í q.lt (by rw[z];exact hb)) (Ē _)
 ·exact absurd (í (Ö (I.pin p hp).1) (by rw[z];exact hb)) (Ē _)
structure Turn (P:Ã) (w:World) (K:Ç) (tg:Expr) (J:It) (fp:List Á) (it:Á) (tn:Nat->Heap->Prop):Prop where
 mem:it∈fp
 obj:∀ i h,tn i h->∀ b∈fp,∃ o,h.get? b=some o/\∀ v,o.data≠.cell v
 keep:∀ i h h',tn i h->(∀ b∈fp,∀ o,h.get? b=some o->h'.get? b=some o)->tn i h'
 item:∀ (X:Cx),X.prog=P->X.w=w->X.K=K->X.calm=true->∀ (i:Nat) (gn:List (Á×Obj)) (s:Â) (σ:St) (H:Hp) (E:À->Â->Prop),Inv X gn σ H s->(∀ b∈fp,pD X gn H b)->tn i s.heap->J.go i H->
  wpAny (model P w) X.A (pyNext (.ref it)) (λ r s1=>∃ u,r=some u/\
   wpAny (model P w) X.A (letOwnedTupleGo tg (.ref it) u) (λ _ s2=>∃ x H',Inv X gn σ H' s2/\bH x u/\J.yld i H x H'/\tn (i+1) s2.heap/\∀ b∈fp,H' b=none) E s1) E s
 done:∀ (X:Cx),X.prog=P->X.w=w->X.K=K->X.calm=true->∀ (i:Nat) (gn:List (Á×Obj)) (s:Â) (σ:St) (H:Hp) (E:À->Â->Prop),Inv X gn σ H s->(∀ b∈fp,pD X gn H b)->tn i s.heap->J.stop i H->
  wpAny (model P w) X.A (pyNext (.ref it)) (λ r s1=>r=none/\Inv X gn σ H s1) E s
 self:∀ (A:Around) (i:Nat) (s:Â) (Q:À->Â->Prop) (E:À->Â->Prop),tn i s.heap->Q (.ref it) s->wpAny (model P w) A (pyIter (.ref it)) Q E s
abbrev TI:=St->Hp->(It->Hp->Prop)->Prop
def PIE (X:Cx) (gn:List (Á×Obj)) (σ:St) (tg:Expr) (R:It->Hp->Prop) (Kj:À) (s2:Â):Prop:=
 ∃ (it:Á) (fp:List Á) (tn:Nat->Heap->Prop) (J:It) (H':Hp),Kj=.ref it/\Inv X gn σ H' s2/\Turn X.prog X.w X.K tg J fp it tn/\tn 0 s2.heap/\(∀ b∈fp,pD X gn H' b)/\R J H'
def PI (X:Cx) (tg iter:Expr) (wi:TI):Prop:=
 ∀ (gn:List (Á×Obj)) (s:Â) (σ:St) (H:Hp) (R:It->Hp->Prop),Inv X gn σ H s->wi σ H R->
  wpAny (model X.prog X.w) X.A (eval iter X.env) (λ v s1=>wpAny (model X.prog X.w) X.A (pyIter v) (PIE X gn σ tg R) X.xe s1) X.xe s
theorem N0 {M:Model}{A:Around}{E:À->Â->Prop}{s:Â}{tg:Expr}{it:Á}{u:À}{o:Obj}{n:String}{vs:Array À}{Q:Unit->Â->Prop} (ho:s.heap.get? it=some o) (hc:o.cls=.type n) (hd:o.data=.fields vs)
  (hn:["enumerate","zip","dict_itemiterator","dict_reverseitemiterator","odict_iterator","itertools.zip_longest","itertools.pairwise"].contains n=false) (hQ:Q () s):wpAny M A (letOwnedTupleGo tg (.ref it) u) Q E s:=by
 unfold letOwnedTupleGo;cases tg <;> first
  | exact Ë hQ
  | (cases u <;> first
    | exact Ë hQ
    | (refine Æ (wpAny_load ho ?_)
       rw[hc,hd];show wpAny M A (if (["enumerate","zip","dict_itemiterator","dict_reverseitemiterator","odict_iterator","itertools.zip_longest","itertools.pairwise"].contains n && vs[0]? == some (rawInt _))=true then _ else _) Q E s;rw[Ä (by intro h;rw[hn,Bool.false_and] at h;cases h)];exact Ë hQ))
def R9 (K:Ç) (a:Á):It:=
 ⟨λ i H=>∃ xs x,aY K H a xs/\xs[i]? = some x,λ i H x H'=>H'=H/\∀ xs,aY K H a xs->xs[i]? = some x,λ i H=>∃ xs,aY K H a xs/\xs.length<=i⟩
def QD (K:Ç) (a:Á):It:=
 ⟨λ i H=>∃ xs x,bS K H a xs/\xs[i]? = some x,λ i H x H'=>H'=H/\∀ xs,bS K H a xs->xs[i]? = some x,λ i H=>∃ xs,bS K H a xs/\xs.length<=i⟩
def NX (lo:Int) (n:Nat):It:=⟨λ i _=>i < n,λ i H x H'=>H'=H/\x=.int (lo+i),λ i _=>n<=i⟩
theorem HF {P:Ã}{w:World}{K:Ç}{tg:Expr} (a it:Á):Turn P w K tg (R9 K a) [it] it (λ i h=>h.IsListIter it a i) where
 mem:=by simp
 obj:=λ i h st b hb=>by
  have e:b=it:=by simpa using hb
  subst e;obtain⟨o,e,c,d⟩:=st;exact⟨o,e,λ v z=>by rw[d] at z;cases z⟩
 keep:=λ i h h' st k=>st.at λ o e=>k it (by simp) o e
 item:=by
  intro X hP hw hK hc i gn s σ H E I hf st hg;subst hP hw hK;obtain⟨xs,x,hq,hx⟩:=hg;obtain⟨gx,rv,p,hz⟩:=I.list hq;obtain⟨u,hu,ru⟩:=rv.get hx;obtain⟨f0,f1,f2,f3,f4,f5⟩:=hf it (by simp);refine wpAny_pyNext_list_item st p.isList (x:=u) (by simpa using hu) λ h' xm sb=>?_;have I1:Inv X gn σ H { s with heap:=h' }:=I.turned (t':=s.toks) (λ b o hb e=>(sb.2 b hb).trans e) f0 f1 f3 f4 f5;obtain⟨o,e,c,d⟩:=id xm;exact⟨u,rfl,N0 (s:={ s with heap:=h' }) e c d (by decide) ⟨x,H,I1,ru,⟨rfl,λ ys hy=>by rw[I.list_inj hy hq];exact hx⟩,xm,λ b hb=>(hf b hb).1⟩⟩
 done:=by
  intro X hP hw hK hc i gn s σ H E I hf st hg;subst hP hw hK;obtain⟨xs,hq,hx⟩:=hg;obtain⟨gx,rv,p,hz⟩:=I.list hq;obtain⟨f0,f1,f2,f3,f4,f5⟩:=hf it (by simp);have hl:=rv.length;exact wpAny_pyNext_list_end (I.ok.hd hc) st p.isList (by simp;lia) λ h' eb=>⟨rfl,I.turned (t':=s.toks) (λ b o hb e=>eb b o hb e) f0 f1 f3 f4 f5⟩
 self:=λ _ _ _ _ _ st h=>wpAny_pyIter_listiter st h
theorem D9 {P:Ã}{w:World}{K:Ç}{tg:Expr} (a it:Á):Turn P w K tg (QD K a) [it] it (λ i h=>h.IsTupleIter it a i) where
 mem:=by simp
 obj:=λ i h st b hb=>by
  have e:b=it:=by simpa using hb
  subst e;obtain⟨o,e,c,d⟩:=st;exact⟨o,e,λ v z=>by rw[d] at z;cases z⟩
 keep:=λ i h h' st k=>st.at λ o e=>k it (by simp) o e
 item:=by
  intro X hP hw hK hc i gn s σ H E I hf st hg;subst hP hw hK;obtain⟨xs,x,hq,hx⟩:=hg;obtain⟨gx,rv,p,hz⟩:=I.tuple hq;obtain⟨u,hu,ru⟩:=rv.get hx;obtain⟨f0,f1,f2,f3,f4,f5⟩:=hf it (by simp);refine wpAny_pyNext_tuple_item st (show s.heap.IsTuple a gx.toArray from p) (x:=u) (by simpa using hu) λ h' xm sb=>?_;have I1:Inv X gn σ H { s with heap:=h' }:=I.turned (t':=s.toks) (λ b o hb e=>(sb.2 b hb).trans e) f0 f1 f3 f4 f5;obtain⟨o,e,c,d⟩:=id xm;exact⟨u,rfl,N0 (s:={ s with heap:=h' }) e c d (by decide) ⟨x,H,I1,ru,⟨rfl,λ ys hy=>by rw[I.tuple_inj hy hq];exact hx⟩,xm,λ b hb=>(hf b hb).1⟩⟩
 done:=by
  intro X hP hw hK hc i gn s σ H E I hf st hg;subst hP hw hK;obtain⟨xs,hq,hx⟩:=hg;obtain⟨gx,rv,p,hz⟩:=I.tuple hq;obtain⟨f0,f1,f2,f3,f4,f5⟩:=hf it (by simp);have hl:=rv.length;exact wpAny_pyNext_tuple_end (I.ok.hd hc) st (show s.heap.IsTuple a gx.toArray from p) (by simp;lia) λ h' eb=>⟨rfl,I.turned (t':=s.toks) (λ b o hb e=>eb b o hb e) f0 f1 f3 f4 f5⟩
 self:=λ _ _ _ _ _ st h=>wpAny_pyIter_tupleiter st h
theorem DA {P:Ã}{w:World}{K:Ç}{tg:Expr} (it:Á) (lo:Int) (n:Nat):Turn P w K tg (NX lo n) [it] it (λ i h=>IsRangeIter h it (lo+(i:Nat) * 1) ((n:Int) - (i:Nat)) 1) where
 mem:=by simp
 obj:=λ i h st b hb=>by
  have e:b=it:=by simpa using hb
  subst e;exact⟨_,st,λ v z=>by
   have z':Data.fields _=Data.cell v:=z;cases z'⟩
 keep:=λ i h h' st k=>k it (by simp) _ st
 item:=by
  intro X hP hw hK hc i gn s σ H E I hf st hg;subst hP hw hK;obtain⟨f0,f1,f2,f3,f4,f5⟩:=hf it (by simp);have W:=Walks.range (prog:=X.prog) (w:=X.w) (I.ok.hd hc) it lo 1 n;refine W.item i s _ _ hg st λ v h' tk hv xm kk=>?_;obtain⟨t,rfl⟩:=hv;have I1:Inv X gn σ H { s with heap:=h',toks:=tk }:=I.turned (λ b o hb e=>kk b o (by simpa using hb) e) f0 f1 f3 f4 f5;refine⟨_,rfl,N0 (s:={ s with heap:=h',toks:=tk }) (n := "range_iterator") xm rfl rfl (by decide) ⟨.int (lo+i),H,I1,⟨t,?_⟩,⟨rfl,rfl⟩,xm,λ b hb=>(hf b hb).1⟩⟩;rw[Int.mul_one]
 done:=by
  intro X hP hw hK hc i gn s σ H E I hf st hg;subst hP hw hK;obtain⟨f0,f1,f2,f3,f4,f5⟩:=hf it (by simp);exact wpAny_pyNext_range_end (I.ok.hd hc) st (by have:n<=i:=hg;lia) λ h' eb=>⟨rfl,I.turned (t':=s.toks) (λ b o hb e=>eb b o hb e) f0 f1 f3 f4 f5⟩
 self:=λ _ _ _ _ _ st h=>wpAny_pyIter_rangeiter st h
section
variable {X:Cx}{tg:Expr}
def CC (K:Ç) (tl:TE):TI:=λ σ H R=>tl σ H λ x H1=>∃ a,x=.ref a/\(∃ xs,aY K H1 a xs)/\R (R9 K a) H1
def T9 (K:Ç) (tl:TE):TI:=λ σ H R=>tl σ H λ x H1=>∃ a,x=.ref a/\(∃ xs,bS K H1 a xs)/\R (QD K a) H1
theorem OR {l:Expr}{tl:TE} (hl:PE X l tl):PI X tg l (CC X.K tl):=by
 intro gn s σ H R I h;refine d8 (hl gn s σ H _ I h) λ v s1 ⟨x,H1,I1,r1,q1⟩=>?_;obtain⟨a,e,⟨xs,hq⟩,q⟩:=q1;subst e;cases r1;obtain⟨gx,rv,p,hz⟩:=I1.list hq;refine ŧ p.isList ?_;refine⟨s1.heap.objs.size,[s1.heap.objs.size],_,_,H1,rfl,I1.kept (t':=s1.toks) λ b o e=>Î _ e,HF a _,⟨_,Ü _ rfl,rfl,rfl⟩,λ b hb=>?_,q⟩;have e:b=s1.heap.objs.size:=by simpa using hb
 subst e;exact I1.fpOk (Í _) (I1.hok.fresh (Í _))
theorem S4 {l:Expr}{tl:TE} (hl:PE X l tl):PI X tg l (T9 X.K tl):=by
 intro gn s σ H R I h;refine d8 (hl gn s σ H _ I h) λ v s1 ⟨x,H1,I1,r1,q1⟩=>?_;obtain⟨a,e,⟨xs,hq⟩,q⟩:=q1;subst e;cases r1;obtain⟨gx,rv,p,hz⟩:=I1.tuple hq;refine ţ (show s1.heap.IsTuple a gx.toArray from p) ?_;refine⟨s1.heap.objs.size,[s1.heap.objs.size],_,_,H1,rfl,I1.kept (t':=s1.toks) λ b o e=>Î _ e,D9 a _,⟨_,Ü _ rfl,rfl,rfl⟩,λ b hb=>?_,q⟩;have e:b=s1.heap.objs.size:=by simpa using hb
 subst e;exact I1.fpOk (Í _) (I1.hok.fresh (Í _))
theorem KO {gn:List (Á×Obj)}{σ:St}{H:Hp}{s:Â}{R:It->Hp->Prop}{E:À->Â->Prop}{lo hi:Int}{t u v:Tok}{tk:Nat} (I:Inv X gn σ H s) (h1 : -(2 ^ 62)<=lo) (h2:lo < 2 ^ 62) (h3 : -(2 ^ 62)<=hi) (h4:hi < 2 ^ 62)
  (q:R (NX lo (hi - lo).toNat) H):wpAny (model X.prog X.w) X.A (pyIter (.ref s.heap.objs.size)) (PIE X gn σ tg R) E { s with heap:=s.heap.push { cls:=.type "range",data:=.fields #[.int lo t,.int hi u,.int 1 v] },toks:=tk }:=by
 refine wpAny_pyIter_range (IsRange.new ..) (small_one h1 h2 h3 h4) ?_;have I1:Inv X gn σ H { s with heap:=s.heap.push { cls:=.type "range",data:=.fields #[.int lo t,.int hi u,.int 1 v] },toks:=tk }:=I.kept λ b o e=>Î _ e;refine⟨(s.heap.push { cls:=.type "range",data:=.fields #[.int lo t,.int hi u,.int 1 v] }).objs.size,[(s.heap.push { cls:=.type "range",data:=.fields #[.int lo t,.int hi u,.int 1 v] }).objs.size],_,_,H,rfl,
  I1.kept (t':=tk) λ b o e=>Î _ e,DA _ lo (hi - lo).toNat,?_,λ b hb=>?_,q⟩
 ·have e1:lo+((0:Nat):Int) * 1=lo:=by simp
  have e2:(((hi - lo).toNat:Nat):Int) - ((0:Nat):Int)=Builtin.Range.rangeSize lo hi 1:=by rw[rangeSize_one];split <;> lia
  show IsRangeIter _ _ (lo+((0:Nat):Int) * 1) ((((hi - lo).toNat:Nat):Int) - ((0:Nat):Int)) 1;rw[e1,e2];exact Ü _ rfl
 ·have e:b=(s.heap.push { cls:=.type "range",data:=.fields #[.int lo t,.int hi u,.int 1 v] }).objs.size:=by simpa using hb
  subst e;exact I1.fpOk (Í _) (I1.hok.fresh (Í _))
def VG (ta:TA):TI:=λ σ H R=>ta σ H λ vs H1=>∃ j:Int,vs=[.int j]/\-(2 ^ 62)<=j/\j < 2 ^ 62/\R (NX 0 j.toNat) H1
theorem gM {a:Expr}{ta:TA}{p pos:Pos} (hg:Gl X "range") (hm:X.mg "range" = none) (ha:PA X [a] ta) (hs:starEach [a] X.env=[(false,eval a X.env)]:=by exact wr0):PI X tg (.Call (.Name "range" p) [a] [] pos) (VG ta):=by
 intro gn s σ H R I h;refine Call_ (oW I hg hm boot_range (ņ (d8 (ha pos gn s σ H _ I h) λ us s1 ⟨vs,H1,I1,r1,q1⟩=>?_) hs rfl));obtain⟨j,e,q1,q2,q⟩:=q1;subst e;cases r1 with
 | cons r rr=>
  cases rr;obtain⟨t,rfl⟩:=r;exact call_range_1 (KO I1 (by lia) (by lia) q1 q2 (by simpa using q))
def K5 (wi:TI) (g:TG) (tb:TS):TS:=λ D σ H=>wi σ H λ J H1=>∃ W:Nat->Nat->St->Hp->Prop,(∃ m,W 0 m σ H1)/\∀ i m σ H,W i m σ H->
 (J.stop i H/\D.nx σ H)\/(J.go i H/\∃ N:St->Hp->Prop,(∀ ac H',N ac H'->∃ m',m' < m/\W (i+1) m' ac H')/\∀ x H',J.yld i H x H'->g x σ H' λ ba H2=>tb { D with nx:=N,ct:=N,bk:=D.nx } ba H2)
def vC (fp:List Á) (h:Heap):List (Á×Obj):=fp.filterMap λ b=>(h.get? b).map λ o=>(b,o)
theorem lD {fp:List Á}{h:Heap}{b:Á}{o:Obj} (hb:b∈fp) (e:h.get? b=some o):(b,o)∈vC fp h:=List.mem_filterMap.mpr ⟨b,hb,by rw[e];rfl⟩
theorem ID {fp:List Á}{h:Heap}{p:Á×Obj} (hp:p∈vC fp h):p.1∈fp/\h.get? p.1=some p.2:=by
 obtain⟨b,hb,e⟩:=List.mem_filterMap.mp hp;cases q:h.get? b with
 | none=>rw[q] at e;cases e
 | some o=>
  rw[q] at e;have e':(b,o)=p:=ï e;subst e';exact⟨hb,q⟩
theorem Inv.pinned {gn:List (Á×Obj)}{σ:St}{H:Hp}{s:Â}{fp:List Á} (I:Inv X gn σ H s) (hf:∀ b∈fp,pD X gn H b) (ho:∀ b∈fp,∃ o,s.heap.get? b=some o/\∀ v,o.data≠.cell v):Inv X (gn++vC fp s.heap) σ H s:=
 I.pins_of λ p hp=>(ß.mp hp).elim (λ z=>I.pin p (Ĉ _ z)) λ z=>by
  obtain⟨hb,e⟩:=ID z;obtain⟨f0,f1,f2,_⟩:=hf p.1 hb;obtain⟨o,e',d⟩:=ho p.1 hb;rw[e] at e';cases e';exact⟨e,f0,f1,f2,d⟩
theorem Inv.unpinned {gn pl:List (Á×Obj)}{σ:St}{H:Hp}{s:Â} (I:Inv X (gn++pl) σ H s):Inv X gn σ H s:=I.pins_of λ p hp=>I.pin p (Ĉ _ (Ě _ hp))
theorem dY {iter:Expr}{body:List Stmt}{wi:TI}{g:TG}{tb:TS}{pos:Pos} (hp:PassesOwn (model X.prog X.w) X.A X.env X.xe) (hc:X.calm=true) (hi:PI X tg iter wi) (hg:PG X tg g) (hb:ET X body tb)
  (hs:∀ x,foldedSetIterable iter X.env x=pure x:=by intro _;with_unfolding_all rfl):PS X (.For tg iter body [] pos) (K5 wi g tb):=by
 intro gn s σ H D I h;refine wpAny_For (d8 (hi gn s σ H _ I h) λ v s1 h1=>d8 h1 λ Kj s2 h2=>?_) hs;obtain⟨it,fp,tn,J,H2,e,I2,T,Dl,f2,W,⟨m0,w0⟩,turn⟩:=h2;subst e;have sq:∀ {H':Hp},(∀ b∈fp,H' b=none)->∀ b∈fp,pD X gn H' b:=λ hn b hb=>⟨hn b hb,(f2 b hb).2⟩;refine codeAny_forLoop_any (λ n s'=>∃ i ac H',Inv X gn ac H' s'/\tn i s'.heap/\(∀ b∈fp,H' b=none)/\W i n ac H') ?_ m0 ⟨0,σ,H2,I2,Dl,λ b hb=>(f2 b hb).1,w0⟩;rintro n s3 ⟨i,aq,H3,I3,st3,fr3,w3⟩;rcases turn i n aq H3 w3 with ⟨stop,qn⟩ | ⟨go,N,hN,step⟩
 ·refine Ŕ hp (d8 (T.done X rfl rfl rfl hc i gn s3 aq H3 X.xe I3 (sq fr3) st3 stop) λ r s4 ⟨hr,I4⟩=>?_);subst hr;exact wpAny_execs_nil ⟨aq,H3,I4,qn⟩
 ·refine Ŕ hp (d8 (T.item X rfl rfl rfl hc i gn s3 aq H3 X.xe I3 (sq fr3) st3 go) λ r s4 ⟨u,hr,h4⟩=>?_);subst hr;refine Ŕ hp (d8 h4 λ _ s5 ⟨x,H5,I5,r5,y5,Cc,Kk⟩=>?_);have I5':=I5.pinned (sq Kk) (T.obj _ _ Cc);refine Ŕ hp (d8 (hg _ s5 aq H5 x u _ I5' r5 (step x H5 y5)) λ _ s6 ⟨σ6,H6,I6,q6⟩=>?_);refine Ŕ hp (d8 (hb _ s6 σ6 H6 _ I6 q6) λ f s7 q7=>?_);have again:∀ {ce:St}{H7:Hp},Inv X (gn++vC fp s5.heap) ce H7 s7->N ce H7->∃ m,m < n/\∃ i ac H',Inv X gn ac H' s7/\tn i s7.heap/\(∀ b∈fp,H' b=none)/\W i m ac H':=λ {ce H7} I7 n7=>by
   obtain⟨m',hm,w7⟩:=hN ce H7 n7;refine⟨m',hm,i+1,ce,H7,I7.unpinned,T.keep _ _ _ Cc λ b hb o e=>(I7.pin (b,o) (Ĉ _ (Ĉ _ (lD hb e)))).1,λ b hb=>?_,w7⟩;obtain⟨o,e,d⟩:=T.obj _ _ Cc b hb;exact (I7.pin (b,o) (Ĉ _ (Ĉ _ (lD hb e)))).2.1
  cases f with
  | next=>obtain⟨ce,H7,I7,n7⟩:=q7;exact again I7 n7
  | cont=>obtain⟨ce,H7,I7,n7⟩:=q7;exact again I7 n7
  | brk=>obtain⟨ce,H7,I7,q7⟩:=q7;exact⟨ce,H7,I7.unpinned,q7⟩
  | ret v=>obtain⟨x7,ce,H7,I7,r7,q7⟩:=q7;exact⟨x7,ce,H7,I7.unpinned,r7,q7⟩
end
theorem j9 {K:Ç}{a:Á}{xs:List V}{g:TG}{tb:TS}{D:Ends}{σ:St}{H:Hp} (Pv:Nat->St->Hp->Prop) (h0:Pv 0 σ H) (hl:∀ i σ H,i<=xs.length->Pv i σ H->aY K H a xs)
  (hs:∀ i x σ H,xs[i]? = some x->Pv i σ H->g x σ H λ ba H2=>tb { D with nx:=Pv (i+1),ct:=Pv (i+1),bk:=D.nx } ba H2) (hd:∀ σ H,Pv xs.length σ H->D.nx σ H) :
  ∃ W:Nat->Nat->St->Hp->Prop,(∃ m,W 0 m σ H)/\∀ i m σ H,W i m σ H->
   ((R9 K a).stop i H/\D.nx σ H)\/((R9 K a).go i H/\∃ N:St->Hp->Prop,(∀ ac H',N ac H'->∃ m',m' < m/\W (i+1) m' ac H')/\∀ x H',(R9 K a).yld i H x H'->g x σ H' λ ba H2=>tb { D with nx:=N,ct:=N,bk:=D.nx } ba H2):=by
 refine⟨λ i m σ H=>m=xs.length - i/\i<=xs.length/\Pv i σ H,⟨xs.length,by simp,ê _,h0⟩,?_⟩;rintro i m σ H ⟨rfl,hi,p⟩;have q:=hl i σ H hi p
 by_cases jr:i < xs.length
 ·refine .inr ⟨⟨xs,xs[i],q,by simp [jr]⟩,Pv (i+1),λ ac H' p'=>⟨xs.length - (i+1),by lia,rfl,jr,p'⟩,λ x H' y=>?_⟩;obtain⟨e,y⟩:=y;subst e;exact hs i x σ _ (y xs q) p
 ·have e:i=xs.length:=by lia
  subst e;exact .inl ⟨⟨xs,q,Í _⟩,hd σ H p⟩
theorem qZ {K:Ç}{a:Á}{xs:List V}{g:TG}{tb:TS}{D:Ends}{σ:St}{H:Hp} (Pv:Nat->St->Hp->Prop) (h0:Pv 0 σ H) (hl:∀ i σ H,i<=xs.length->Pv i σ H->bS K H a xs)
  (hs:∀ i x σ H,xs[i]? = some x->Pv i σ H->g x σ H λ ba H2=>tb { D with nx:=Pv (i+1),ct:=Pv (i+1),bk:=D.nx } ba H2) (hd:∀ σ H,Pv xs.length σ H->D.nx σ H) :
  ∃ W:Nat->Nat->St->Hp->Prop,(∃ m,W 0 m σ H)/\∀ i m σ H,W i m σ H->
   ((QD K a).stop i H/\D.nx σ H)\/((QD K a).go i H/\∃ N:St->Hp->Prop,(∀ ac H',N ac H'->∃ m',m' < m/\W (i+1) m' ac H')/\∀ x H',(QD K a).yld i H x H'->g x σ H' λ ba H2=>tb { D with nx:=N,ct:=N,bk:=D.nx } ba H2):=by
 refine⟨λ i m σ H=>m=xs.length - i/\i<=xs.length/\Pv i σ H,⟨xs.length,by simp,ê _,h0⟩,?_⟩;rintro i m σ H ⟨rfl,hi,p⟩;have q:=hl i σ H hi p
 by_cases jr:i < xs.length
 ·refine .inr ⟨⟨xs,xs[i],q,by simp [jr]⟩,Pv (i+1),λ ac H' p'=>⟨xs.length - (i+1),by lia,rfl,jr,p'⟩,λ x H' y=>?_⟩;obtain⟨e,y⟩:=y;subst e;exact hs i x σ _ (y xs q) p
 ·have e:i=xs.length:=by lia
  subst e;exact .inl ⟨⟨xs,q,Í _⟩,hd σ H p⟩
theorem nQ {lo:Int}{n:Nat}{g:TG}{tb:TS}{D:Ends}{σ:St}{H:Hp} (Pv:Nat->St->Hp->Prop) (h0:Pv 0 σ H)
  (hs:∀ i σ H,i < n->Pv i σ H->g (.int (lo+i)) σ H λ ba H2=>tb { D with nx:=Pv (i+1),ct:=Pv (i+1),bk:=D.nx } ba H2) (hd:∀ σ H,Pv n σ H->D.nx σ H) :
  ∃ W:Nat->Nat->St->Hp->Prop,(∃ m,W 0 m σ H)/\∀ i m σ H,W i m σ H->
   ((NX lo n).stop i H/\D.nx σ H)\/((NX lo n).go i H/\∃ N:St->Hp->Prop,(∀ ac H',N ac H'->∃ m',m' < m/\W (i+1) m' ac H')/\∀ x H',(NX lo n).yld i H x H'->g x σ H' λ ba H2=>tb { D with nx:=N,ct:=N,bk:=D.nx } ba H2):=by
 refine⟨λ i m σ H=>m=n - i/\i<=n/\Pv i σ H,⟨n,by simp,ê _,h0⟩,?_⟩;rintro i m σ H ⟨rfl,hi,p⟩
 by_cases jr:i < n
 ·refine .inr ⟨jr,Pv (i+1),λ ac H' p'=>⟨n - (i+1),by lia,rfl,jr,p'⟩,λ x H' y=>?_⟩;obtain⟨e,y⟩:=y;subst e y;exact hs i σ _ jr p
 ·have e:i=n:=by lia
  subst e;exact .inl ⟨Í _,hd σ H p⟩
abbrev R2:=V->V->Hp->VK->Prop
def iW (X:Cx) (f:À->À->Sem À) (r:R2):Prop:=
 ∀ (gn:List (Á×Obj)) (s:Â) (σ:St) (H:Hp) (x y:V) (v u:À) (Q:VK),Inv X gn σ H s->bH x v->bH y u->r x y H Q->
  wpAny (model X.prog X.w) X.A (f v u) (EP X gn σ Q) X.xe s
def UnR (X:Cx) (f:À->Sem À) (r:V->Hp->VK->Prop):Prop:=
 ∀ (gn:List (Á×Obj)) (s:Â) (σ:St) (H:Hp) (x:V) (v:À) (Q:VK),Inv X gn σ H s->bH x v->r x H Q->
  wpAny (model X.prog X.w) X.A (f v) (EP X gn σ Q) X.xe s
def eY (X:Cx) (f:À) (r:List V->Hp->VK->Prop):Prop:=
 ∀ (gn:List (Á×Obj)) (s:Â) (σ:St) (H:Hp) (xs:List V) (us:List À) (Q:VK),Inv X gn σ H s->bG xs us->r xs H Q->
  wpAny (model X.prog X.w) X.A (call f us) (EP X gn σ Q) X.xe s
def TruR (X:Cx) (r:V->Hp->(Bool->Hp->Prop)->Prop):Prop:=
 ∀ (gn:List (Á×Obj)) (s:Â) (σ:St) (H:Hp) (x:V) (v:À) (Q:Bool->Hp->Prop),Inv X gn σ H s->bH x v->r x H Q->
  wpAny (model X.prog X.w) X.A (truthy v) (TP X gn σ Q) X.xe s
def iJ (r:R2) (ta tb:TE):TE:=λ σ H Q=>ta σ H λ x H1=>tb σ H1 λ y H2=>r x y H2 Q
def tUn (r:V->Hp->VK->Prop) (ta:TE):TE:=λ σ H Q=>ta σ H λ x H1=>r x H1 Q
def rI (C:Int->Int->Prop) (g:Int->Int->V):R2:=λ x y H Q=>∃ i j,x=.int i/\y=.int j/\C i j/\Q (g i j) H
def xN (g:Int->Int->V):R2:=λ x y H Q=>∃ i j,x=.int i/\y=.int j/\Q (g i j) H
def rU (g:Int->V):V->Hp->VK->Prop:=λ x H Q=>∃ i,x=.int i/\Q (g i) H
section
variable {X:Cx}{a b c:Expr}{ta tb tc:TE}{pos:Pos}
theorem TM (ha:PE X a ta) (hb:PE X b tb) {gn:List (Á×Obj)}{s:Â}{σ:St}{H:Hp}{R:V->V->Hp->Prop} (I:Inv X gn σ H s)
  (h:ta σ H λ x H1=>tb σ H1 λ y H2=>R x y H2) {Q:À->Â->Prop}{f:À->À->Sem À}
  (hf:∀ v u s2 x y H2,Inv X gn σ H2 s2->bH x v->bH y u->R x y H2->wpAny (model X.prog X.w) X.A (f v u) Q X.xe s2) :
  wpAny (model X.prog X.w) X.A (eval a X.env) (λ v aj=>wpAny (model X.prog X.w) X.A (eval b X.env) (λ u bx=>wpAny (model X.prog X.w) X.A (f v u) Q X.xe bx) X.xe aj) X.xe s:=by
 refine d8 (ha gn s σ H _ I h) λ v s1 ⟨x,H1,I1,r1,q1⟩=>?_;refine d8 (hb gn s1 σ H1 _ I1 q1) λ u s2 ⟨y,H2,I2,r2,q2⟩=>?_;exact hf v u s2 x y H2 I2 r1 r2 q2
theorem aS {op:Operator}{r:R2} (ho:iW X (binaryOp op) r) (ha:PE X a ta) (hb:PE X b tb):PE X (.BinOp a op b pos) (iJ r ta tb):=by
 intro gn s σ H Q I h;exact wpAny_BinOp (TM ha hb I h λ v u s2 x y H2 I2 rx ry q=>ho gn s2 σ H2 x y v u Q I2 rx ry q)
theorem qI {op:UnaryOp}{r:V->Hp->VK->Prop} (ho:UnR X (unaryOp op) r) (ha:PE X a ta):PE X (.UnaryOp op a pos) (tUn r ta):=by
 intro gn s σ H Q I h;exact UnaryOp_ (d8 (ha gn s σ H _ I h) λ v s1 ⟨x,H1,I1,r1,q1⟩=>ho gn s1 σ H1 x v Q I1 r1 q1)
theorem V9 {f:À->À->Sem À}{C:Int->Int->Prop}{g:Int->Int->Int}
  (rule:∀ (i j:Int) (t u:Tok) (s:Â) (Q:À->Â->Prop) (E:À->Â->Prop),C i j->Q (.int (g i j) s.toks) { s with toks:=s.toks+1 }->wpAny (model X.prog X.w) X.A (f (.int i t) (.int j u)) Q E s) :
  iW X f (rI C λ i j=>.int (g i j)):=by
 intro gn s σ H x y v u Q I rx ry h;obtain⟨i,j,rfl,rfl,hc,q⟩:=h;obtain⟨t,rfl⟩:=rx;obtain⟨t',rfl⟩:=ry;exact rule i j t t' s _ _ hc ⟨.int (g i j),H,I.tok _,⟨_,rfl⟩,q⟩
theorem V8 {f:À->À->Sem À}{g:Int->Int->Int}
  (rule:∀ (i j:Int) (t u:Tok) (s:Â) (Q:À->Â->Prop) (E:À->Â->Prop),Q (.int (g i j) s.toks) { s with toks:=s.toks+1 }->wpAny (model X.prog X.w) X.A (f (.int i t) (.int j u)) Q E s) :
  iW X f (xN λ i j=>.int (g i j)):=by
 intro gn s σ H x y v u Q I rx ry h;obtain⟨i,j,rfl,rfl,q⟩:=h;obtain⟨t,rfl⟩:=rx;obtain⟨t',rfl⟩:=ry;exact rule i j t t' s _ _ ⟨.int (g i j),H,I.tok _,⟨_,rfl⟩,q⟩
theorem P0 {f:À->À->Sem À}{g:Int->Int->Bool}
  (rule:∀ (i j:Int) (t u:Tok) (s:Â) (Q:À->Â->Prop) (E:À->Â->Prop),Q (.bool (g i j)) s->wpAny (model X.prog X.w) X.A (f (.int i t) (.int j u)) Q E s) :
  iW X f (xN λ i j=>.bl (g i j)):=by
 intro gn s σ H x y v u Q I rx ry h;obtain⟨i,j,rfl,rfl,q⟩:=h;obtain⟨t,rfl⟩:=rx;obtain⟨t',rfl⟩:=ry;exact rule i j t t' s _ _ ⟨.bl (g i j),H,I,rfl,q⟩
def QF (i j:Int):Prop:=0 < j/\j < 1073741824
def QE (i j:Int):Prop:=0<=j/\j<=1000000/\i.natAbs < 2 ^ 64
def D3 (i j:Int):Prop:=(-(2 ^ 64) < i/\i < 2 ^ 64)\/(-(2 ^ 64) < j/\j < 2 ^ 64)
theorem D3.ok {i j:Int} (h:D3 i j):IntMulOk i j:=by
 rcases h with ⟨h1,h2⟩ | ⟨h1,h2⟩
 ·exact .of_left (intBits_le_64 h1 h2)
 ·exact .of_right (intBits_le_64 h1 h2)
theorem cG:iW X (binaryOp .Add) (xN λ i j=>.int (i+j)):=V8 λ _ _ _ _ _ _ _ q=>add_int q
theorem gI:iW X (binaryOp .Sub) (xN λ i j=>.int (i - j)):=V8 λ _ _ _ _ _ _ _ q=>sub_int q
theorem oR:iW X (binaryOp .Mult) (rI D3 λ i j=>.int (i * j)):=V9 λ _ _ _ _ _ _ _ hc q=>mul_int q hc.ok
theorem jH:iW X (binaryOp .FloorDiv) (rI QF λ i j=>.int (i / j)):=V9 λ i j _ _ _ _ _ hc q=>by
 have h1:(0:Int) < j:=hc.1;have h2:j < 1073741824:=hc.2;exact floordiv_int (by lia) (by rw[afd i (by lia)];exact q) (.inl (PyProof.noPylong_small (by lia)))
theorem lC:iW X (binaryOp .Mod) (rI (λ _ j=>0 < j) λ i j=>.int (i % j)):=V9 λ i j _ _ _ _ _ hc q=>by
 have h1:(0:Int) < j:=hc;exact mod_int' (by lia) (by rw[Int.fmod_eq_emod_of_nonneg i (by lia)];exact q)
theorem DW:iW X (binaryOp .Pow) (rI QE λ i j=>.int (i ^ j.toNat)):=V9 λ _ _ _ _ _ _ _ hc q=>pow_int_small hc.1 hc.2.1 hc.2.2 q
theorem unI {f:À->Sem À}{g:Int->Int}
  (rule:∀ (i:Int) (t:Tok) (s:Â) (Q:À->Â->Prop) (E:À->Â->Prop),Q (.int (g i) s.toks) { s with toks:=s.toks+1 }->wpAny (model X.prog X.w) X.A (f (.int i t)) Q E s) :
  UnR X f (rU λ i=>.int (g i)):=by
 intro gn s σ H x v Q I rx h;obtain⟨i,rfl,q⟩:=h;obtain⟨t,rfl⟩:=rx;exact rule i t s _ _ ⟨.int (g i),H,I.tok _,⟨_,rfl⟩,q⟩
theorem kP:UnR X (unaryOp .USub) (rU λ i=>.int (-i)):=unI λ _ _ _ _ _ q=>neg_int q
end
def RQ:V->V->Bool
 | .non,.non=>true | .non,.int _=>true | .int _,.non=>true | .non,.bl _=>true | .bl _,.non=>true | .non,.str _=>true | .str _,.non=>true
 | .int _,.int _=>true | .bl _,.bl _=>true | .str _,.str _=>true | .byt _,.byt _=>true
 | .int _,.str _=>true | .str _,.int _=>true | .bl _,.str _=>true | .str _,.bl _=>true
 | _,_=>false
def U2:R2:=λ x y H Q=>RQ x y=true/\Q (.bl (decide (x=y))) H
def rNe:R2:=λ x y H Q=>RQ x y=true/\Q (.bl (!decide (x=y))) H
theorem GK {i j:Int}:decide (V.int i=V.int j)=(i == j):=by
 rw[ľ];simp
theorem NG {i j:Bool}:decide (V.bl i=V.bl j)=(i == j):=by
 rw[ľ];simp
theorem GJ {i j:Str}:decide (V.str i=V.str j)=(i == j):=by
 rw[ľ];simp
theorem GL {i j:Array UInt8}:decide (V.byt i=V.byt j)=(i.toList == j.toList):=by
 rw[ľ];cases i;cases j;simp
section
variable {X:Cx}{a b c:Expr}{ta tb tc:TE}{pos:Pos}
theorem cH {gn:List (Á×Obj)}{σ:St}{H:Hp}{s:Â}{Q:VK}{k k':Bool} (I:Inv X gn σ H s) (q:Q (.bl k) H) (e:k=k'):EP X gn σ Q (.bool k') s:=by
 subst e;exact⟨.bl k,H,I,rfl,q⟩
theorem d9:iW X (compareOp .Eq) U2:=by
 intro gn s σ H x y v u Q I rx ry h;obtain⟨hs,q⟩:=h;cases x with
 | non=>
  cases rx;cases y with
  | non=>cases ry;exact PySem.EqNone.eq_none_none (cH I q (by simp))
  | bl j=>cases ry;exact PySem.EqNone.eq_none_bool (cH I q (by simp))
  | int j=>obtain⟨t',rfl⟩:=ry;exact PySem.EqNone.eq_none_int (cH I q (by simp))
  | str j=>obtain⟨t',rfl⟩:=ry;exact PySem.EqNone.eq_none_str (cH I q (by simp))
  | _=>exact absurd (show false=true from hs) ç
 | bl i=>
  cases rx;cases y with
  | non=>cases ry;exact PySem.EqNone.eq_bool_none (cH I q (by simp))
  | bl j=>cases ry;exact eq_bool (cH I q NG)
  | str j=>obtain⟨t',rfl⟩:=ry;exact PySem.EqMixed.eq_bool_str (cH I q (by simp))
  | _=>exact absurd (show false=true from hs) ç
 | int i=>
  obtain⟨t,rfl⟩:=rx;cases y with
  | non=>cases ry;exact PySem.EqNone.eq_int_none (cH I q (by simp))
  | int j=>obtain⟨t',rfl⟩:=ry;exact eq_int (cH I q GK)
  | str j=>obtain⟨t',rfl⟩:=ry;exact PySem.EqMixed.eq_int_str (cH I q (by simp))
  | _=>exact absurd (show false=true from hs) ç
 | str i=>
  obtain⟨t,rfl⟩:=rx;cases y with
  | non=>cases ry;exact PySem.EqNone.eq_str_none (cH I q (by simp))
  | bl j=>cases ry;exact PySem.EqMixed.eq_str_bool (cH I q (by simp))
  | int j=>obtain⟨t',rfl⟩:=ry;exact PySem.EqMixed.eq_str_int (cH I q (by simp))
  | str j=>obtain⟨t',rfl⟩:=ry;exact eq_str (cH I q GJ)
  | _=>exact absurd (show false=true from hs) ç
 | byt i=>
  obtain⟨t,rfl⟩:=rx;cases y with
  | byt j=>obtain⟨t',rfl⟩:=ry;exact PySem.W.eq_bytes (cH I q GL)
  | _=>exact absurd (show false=true from hs) ç
 | _=>cases y <;> exact absurd (show false=true from hs) ç
theorem qL:iW X (compareOp .NotEq) rNe:=by
 intro gn s σ H x y v u Q I rx ry h;obtain⟨hs,q⟩:=h;cases x with
 | non=>
  cases rx;cases y with
  | non=>cases ry;exact PySem.EqNone.ne_none_none (cH I q (by simp))
  | bl j=>cases ry;exact PySem.EqNone.ne_none_bool (cH I q (by simp))
  | int j=>obtain⟨t',rfl⟩:=ry;exact PySem.EqNone.ne_none_int (cH I q (by simp))
  | str j=>obtain⟨t',rfl⟩:=ry;exact PySem.EqNone.ne_none_str (cH I q (by simp))
  | _=>exact absurd (show false=true from hs) ç
 | bl i=>
  cases rx;cases y with
  | non=>cases ry;exact PySem.EqNone.ne_bool_none (cH I q (by simp))
  | bl j=>cases ry;exact ne_bool (cH I q (congrArg not NG))
  | str j=>obtain⟨t',rfl⟩:=ry;exact PySem.EqMixed.ne_bool_str (cH I q (by simp))
  | _=>exact absurd (show false=true from hs) ç
 | int i=>
  obtain⟨t,rfl⟩:=rx;cases y with
  | non=>cases ry;exact PySem.EqNone.ne_int_none (cH I q (by simp))
  | int j=>obtain⟨t',rfl⟩:=ry;exact ne_int (cH I q (congrArg not GK))
  | str j=>obtain⟨t',rfl⟩:=ry;exact PySem.EqMixed.ne_int_str (cH I q (by simp))
  | _=>exact absurd (show false=true from hs) ç
 | str i=>
  obtain⟨t,rfl⟩:=rx;cases y with
  | non=>cases ry;exact PySem.EqNone.ne_str_none (cH I q (by simp))
  | bl j=>cases ry;exact PySem.EqMixed.ne_str_bool (cH I q (by simp))
  | int j=>obtain⟨t',rfl⟩:=ry;exact PySem.EqMixed.ne_str_int (cH I q (by simp))
  | str j=>obtain⟨t',rfl⟩:=ry;exact ne_str (cH I q (congrArg not GJ))
  | _=>exact absurd (show false=true from hs) ç
 | byt i=>
  obtain⟨t,rfl⟩:=rx;cases y with
  | byt j=>obtain⟨t',rfl⟩:=ry;exact PySem.W.ne_bytes (cH I q (congrArg not GL))
  | _=>exact absurd (show false=true from hs) ç
 | _=>cases y <;> exact absurd (show false=true from hs) ç
theorem FW:iW X (compareOp .Lt) (xN λ i j=>.bl (decide (i < j))):=P0 λ _ _ _ _ _ _ _ q=>lt_int q
theorem vF:iW X (compareOp .LtE) (xN λ i j=>.bl (decide (i<=j))):=P0 λ _ _ _ _ _ _ _ q=>le_int q
theorem oE:iW X (compareOp .Gt) (xN λ i j=>.bl (decide (j < i))):=P0 λ _ _ _ _ _ _ _ q=>gt_int q
theorem QU:iW X (compareOp .GtE) (xN λ i j=>.bl (decide (j<=i))):=P0 λ _ _ _ _ _ _ _ q=>ge_int q
theorem vG:iW X (compareOp .Is) (λ x y H Q=>y=.non/\Q (.bl (decide (x=.non))) H):=by
 intro gn s σ H x y v u Q I rx ry h;obtain⟨rfl,q⟩:=h;cases ry;refine is_none_gen (cH I q ?_);cases x <;> first
  | (cases rx;rfl)
  | (obtain⟨t,rfl⟩:=rx;rfl)
theorem iW.or {f:À->À->Sem À}{r r':R2} (h:iW X f r) (h':iW X f r'):iW X f (λ x y H Q=>r x y H Q\/r' x y H Q):=by
 intro gn s σ H x y v u Q I rx ry q;rcases q with q | q
 ·exact h gn s σ H x y v u Q I rx ry q
 ·exact h' gn s σ H x y v u Q I rx ry q
theorem aX (b:Expr) {op:CmpOp} (h:op≠.In:=by decide) (h2:op≠.NotIn:=by decide):behindInMarks op b=false:=by
 have e1:(op == CmpOp.In)=false:=by cases op <;> first | rfl | exact absurd rfl h
 have e2:(op == CmpOp.NotIn)=false:=by cases op <;> first | rfl | exact absurd rfl h2
 cases b <;> simp [behindInMarks,e1,e2]
theorem fH {op:CmpOp}{r:R2} (ho:iW X (compareOp op) r) (ha:PE X a ta) (hb:PE X b tb) (hm:behindInMarks op b=false):PE X (.Compare a [op] [b] pos) (iJ r ta tb):=by
 intro gn s σ H Q I h;exact wpAny_Compare1 (TM ha hb I h λ v u s2 x y H2 I2 rx ry q=>ho gn s2 σ H2 x y v u Q I2 rx ry q) hm
def sK (t:TE):TT:=λ σ H Q=>t σ H λ x H'=>∃ k,x=.bl k/\Q k H'
theorem aW {op:CmpOp}{r:R2} (ho:iW X (compareOp op) r) (ha:PE X a ta) (hb:PE X b tb) (hm:behindInMarks op b=false):PT X (.Compare a [op] [b] pos) (sK (iJ r ta tb)):=by
 intro gn s σ H Q I h;refine wpAny_isTrue_Compare1 (d8 (ha gn s σ H _ I h) λ v s1 ⟨x,H1,I1,r1,q1⟩=>d8 (hb gn s1 σ H1 _ I1 q1) λ u s2 ⟨y,H2,I2,r2,q2⟩=>
  d8 (ho gn s2 σ H2 x y v u _ I2 r1 r2 q2) λ c s3 ⟨z,H3,I3,r3,k,e,q3⟩=>?_) hm
 subst e;cases r3;exact ĩ ⟨H3,I3,q3⟩
def RL (r r':R2) (ta tb tc:TE):TE:=λ σ H Q=>ta σ H λ x H1=>tb σ H1 λ y H2=>r x y H2 λ z H3=>∃ k,z=.bl k/\
 (if k=true then tc σ H3 λ w' H4=>r' y w' H4 Q else Q (.bl false) H3)
theorem vE {op Ox:CmpOp}{r r':R2} (ho:iW X (compareOp op) r) (mw:iW X (compareOp Ox) r') (ha:PE X a ta) (hb:PE X b tb) (hc:PE X c tc)
  (hm:lastMarks [op,Ox] [b,c]=false:=by exact wr0):PE X (.Compare a [op,Ox] [b,c] pos) (RL r r' ta tb tc):=by
 intro gn s σ H Q I h;refine Compare_chain (d8 (ha gn s σ H _ I h) λ v s1 ⟨x,H1,I1,r1,q1⟩=>chain_link (d8 (hb gn s1 σ H1 _ I1 q1) λ u s2 ⟨y,H2,I2,r2,q2⟩=>
  d8 (ho gn s2 σ H2 x y v u _ I2 r1 r2 q2) λ d s3 ⟨z,H3,I3,r3,k,e,q3⟩=>?_)) hm
 subst e;cases r3;refine ĩ ?_;cases k with
 | false=>exact ite_ff ⟨.bl false,H3,I3,rfl,q3⟩
 | true=>exact ite_tt (chain_last (d8 (hc gn s3 σ H3 _ I3 q3) λ w' s4 ⟨z',H4,I4,r4,q4⟩=>mw gn s4 σ H4 y z' u w' Q I4 r2 r4 q4))
def TQ (K:Ç) (x:V) (H:Hp) (k:Bool):Prop:=
 match x with
 | .non=>k=false
 | .bl b=>k=b
 | .int i=>k=(i != 0)
 | .str y=>y.length<=sizeLine/\k=((y.length:Int) != 0)
 | .byt y=>y.size<=sizeLine/\k=((y.size:Int) != 0)
 | .ref p=>(∃ xs,aY K H p xs/\k = !xs.isEmpty)\/(∃ xs,bS K H p xs/\k = !xs.isEmpty)\/∃ gy,H p=some (.dK gy)/\k = !gy.isEmpty
 | _=>False
theorem EH {be:Type}{gy:List (be×V)}{vs:List (be×À)} (r:KV gy vs):(!vs.isEmpty) = !gy.isEmpty:=by
 cases r <;> rfl
theorem wD {xs:List V}{gx:List À} (r:bG xs gx):(!gx.toArray.isEmpty) = !xs.isEmpty:=by
 cases r <;> simp
theorem oV:(sizeLine:Nat) < 2 ^ 63:=by rw[à];decide
theorem RD:TruR X (λ x H Q=>∃ k,TQ X.K x H k/\Q k H):=by
 intro gn s σ H x v Q I rx h;obtain⟨k,e,q⟩:=h;have hl:=oV;have hs:sizeLine=16777216:=à;cases x with
 | non=>
  cases rx;have e':k=false:=e;subst e';exact truthy_none ⟨H,I,q⟩
 | bl b=>
  cases rx;have e':k=b:=e;subst e';exact ĩ ⟨H,I,q⟩
 | int i=>
  obtain⟨t,rfl⟩:=rx;have e':k=(i != 0):=e;subst e';exact PySem.P.truthy_int ⟨H,I,q⟩
 | str y=>
  obtain⟨t,rfl⟩:=rx;obtain⟨hy,e'⟩:y.length<=sizeLine/\k=((y.length:Int) != 0):=e;subst e';exact PySem.P.truthy_str (by lia) ⟨H,I.tok _,q⟩
 | byt y=>
  obtain⟨t,rfl⟩:=rx;obtain⟨hy,e'⟩:y.size<=sizeLine/\k=((y.size:Int) != 0):=e;subst e';exact PySem.W.truthy_bytes (by lia) ⟨H,I.tok _,q⟩
 | ref p=>
  cases rx;have e':(∃ xs,aY X.K H p xs/\k = !xs.isEmpty)\/(∃ xs,bS X.K H p xs/\k = !xs.isEmpty)\/∃ gy,H p=some (.dK gy)/\k = !gy.isEmpty:=e;rcases e' with ⟨xs,hx,e'⟩ | ⟨xs,hx,e'⟩ | ⟨gy,hx,e'⟩
  ·subst e';obtain⟨gx,r,pl,hz⟩:=I.list hx;have ij:=r.length;exact wpAny_truthy_list pl.isList (by simp only [Ú];lia) ⟨H,I.tok _,by rw[wD r];exact q⟩
  ·subst e';obtain⟨gx,r,pl,hz⟩:=I.tuple hx;have ij:=r.length;exact truthy_tuple pl (by simp only [Ú];lia) ⟨H,I.tok _,by rw[wD r];exact q⟩
  ·subst e';obtain⟨hz,hS,vs,r,m⟩:gy.length<=sizeLine/\(p == sysModules)=false/\∃ vs,KV gy vs/\s.heap.DictOf (dM X.prog X.w) p vs:=I.hok p _ hx;have ij:gy.length=vs.length:=ŭ r;exact wpAny_truthy_dict hS m (by lia) ⟨H,I.tok _,by rw[EH r];exact q⟩
 | _=>exact (show False from e).elim
theorem KY (ha:PE X a ta) (he:∀ whole,isTrue a X.env whole=(do let v <- whole;standAt a.pos;holding [v] (truthy v))) :
  PT X a (λ σ H Q=>ta σ H λ x H'=>∃ k,TQ X.K x H' k/\Q k H'):=by
 intro gn s σ H Q I h;exact isTrue_plain (d8 (ha gn s σ H _ I h) λ v s1 ⟨x,H1,I1,r1,q1⟩=>RD gn s1 σ H1 x v Q I1 r1 q1) (he _)
theorem DY:iW X (binaryOp .Add) (λ x y H Q=>∃ i j,x=.str i/\y=.str j/\i.length+j.length<=sizeLine/\Q (.str (i++j)) H):=by
 intro gn s σ H x y v u Q I rx ry h;obtain⟨i,j,rfl,rfl,hz,q⟩:=h;obtain⟨t,rfl⟩:=rx;obtain⟨t',rfl⟩:=ry;exact add_str (λ t' tk=>⟨.str (i++j),H,I.tok _,⟨_,rfl⟩,q⟩) hz
theorem o6 {x:V}{us:List À} (r:bG [x] us):∃ u,us=[u]/\bH x u:=by
 cases r with
 | cons r1 r2=>cases r2;exact⟨_,rfl,r1⟩
theorem QH {x y:V}{us:List À} (r:bG [x,y] us):∃ u w',us=[u,w']/\bH x u/\bH y w':=by
 cases r with
 | cons r1 r2=>
  cases r2 with
  | cons r3 r4=>cases r4;exact⟨_,_,rfl,r1,r3⟩
theorem y8 (hc:X.calm=true):eY X (.builtin "max") (λ xs H Q=>∃ i j,xs=[.int i,.int j]/\Q (.int (if j > i then j else i)) H):=by
 intro gn s σ H xs us Q I r h;obtain⟨i,j,rfl,q⟩:=h;obtain⟨u,w',rfl,⟨t,rfl⟩,⟨t',rfl⟩⟩:=QH r;refine max_two_ints (I.ok.hd hc) λ h' tk k=>⟨_,H,I.kept k,?_,q⟩
 by_cases hj:j > i
 ·rw[Å hj,Å hj];exact⟨_,rfl⟩
 ·rw[Ä hj,Ä hj];exact⟨_,rfl⟩
theorem fA:eY X (.type "int") (λ xs H Q=>(∃ i,xs=[.int i]/\Q (.int i) H)\/∃ k,xs=[.bl k]/\Q (.int (if k then 1 else 0)) H):=by
 intro gn s σ H xs us Q I r h;rcases h with ⟨i,rfl,q⟩ | ⟨k,rfl,q⟩
 ·obtain⟨u,rfl,t,rfl⟩:=o6 r;exact call_int_int ⟨.int i,H,I,⟨_,rfl⟩,q⟩
 ·obtain⟨u,rfl,r1⟩:=o6 r;cases r1;exact call_int_bool ⟨.int (if k then 1 else 0),H,I.tok _,⟨_,rfl⟩,q⟩
def LenV (K:Ç) (x:V) (H:Hp) (n:Nat):Prop:=
 match x with
 | .str y=>y.length<=sizeLine/\n=y.length
 | .byt y=>y.size<=sizeLine/\n=y.size
 | .ref p=>(∃ xs,aY K H p xs/\n=xs.length)\/∃ xs,bS K H p xs/\n=xs.length
 | _=>False
theorem NK:eY X (.builtin "len") (λ xs H Q=>∃ x n,xs=[x]/\LenV X.K x H n/\Q (.int n) H):=by
 intro gn s σ H xs us Q I r h;obtain⟨x,n,rfl,e,q⟩:=h;obtain⟨u,rfl,rx⟩:=o6 r;have hl:=oV;have hs:sizeLine=16777216:=à;cases x with
 | str y=>
  obtain⟨t,rfl⟩:=rx;obtain⟨hy,e'⟩:y.length<=sizeLine/\n=y.length:=e;subst e';exact len_str (by lia) ⟨.int _,H,I.tok _,⟨_,rfl⟩,q⟩
 | byt y=>
  obtain⟨t,rfl⟩:=rx;obtain⟨hy,e'⟩:y.size<=sizeLine/\n=y.size:=e;subst e';exact PySem.W.len_bytes (by lia) ⟨.int _,H,I.tok _,⟨_,rfl⟩,q⟩
 | ref p=>
  cases rx;have e':(∃ xs,aY X.K H p xs/\n=xs.length)\/∃ xs,bS X.K H p xs/\n=xs.length:=e;rcases e' with ⟨xs,hx,e'⟩ | ⟨xs,hx,e'⟩
  ·subst e';obtain⟨gx,r',pl,hz⟩:=I.list hx;have ij:=r'.length;exact Calls.call_len_list pl.isList (by simp only [Ú];lia) ⟨.int xs.length,H,I.tok _,⟨_,by simp only [Ú];rw[ij]⟩,q⟩
  ·subst e';obtain⟨gx,r',pl,hz⟩:=I.tuple hx;have ij:=r'.length;exact len_tuple pl (by simp only [Ú];lia) ⟨.int xs.length,H,I.tok _,⟨_,by simp only [Ú];rw[ij]⟩,q⟩
 | _=>exact (show False from e).elim
end
structure ObjM (h:Heap) (x dx C:Á) (mA:Str->Option À):Prop where
 obj:h.get? x=some (PySem.W.instObj C dx)
 ns:h.Ns1 dx mA
 ne:dx≠x
theorem II {h:Heap}{dx:Á}{mA:Str->Option À} (n:h.Ns1 dx mA):∃ od,h.get? dx=some od/\∀ name,PySem.W.lookIn name od=some (mA name):=by
 obtain⟨o,es,ep,ho,hd,hk,_,hm⟩:=n;refine⟨o,ho,λ name=>?_⟩;have e:=hm name;unfold nsFind findBy at e;rw[<- Array.find?_toList] at e;unfold PySem.W.lookIn;rw[hd];dsimp only
 split
 ·rename_i y q
  rw[q] at e;exact congrArg some e
 ·rename_i q
  rw[q] at e;have a:es.toList.any (·.refKey)=false:=by
   rw[List.any_eq_false];intro y hy;obtain⟨z,t,Oy⟩:=hk y (Array.mem_toList_iff.mp hy);simp [DictEntry.refKey,Oy]
  have a':¬ es.toList.any (·.refKey)=true:=by rw[a];exact ç
  rw[Ä a'];exact congrArg some e
theorem ObjM.look {h:Heap}{x dx C:Á}{mA:Str->Option À} (I:ObjM h x dx C mA):∃ od,PySem.W.InstAt h x (PySem.W.instObj C dx) C (some od)/\∀ name,PySem.W.lookIn name od=some (mA name):=
 let ⟨od,ho,hl⟩:=II I.ns
 ⟨od,⟨I.obj,rfl,rfl,ho⟩,hl⟩
section
variable {prog:Ã}{A:Around}{E:À->Â->Prop}{s:Â}{x dx f:Á}{mA:Str->Option À}{name:Str}{v:À}
theorem Q0 {expr:Bool}{Q:À->Â->Prop} (X:K.In s.heap) (I:ObjM s.heap x dx C mA) (hg:PySem.W.plainGet K C name=true) (hh:PySem.W.hasDictIn K C=true)
  (ha:PySem.W.findIn K (.ref C) name=some none) (hv:mA name=some v) (Oz:PySem.W.handedIn v=true) (h:Q v { s with toks:=s.toks+1 }) :
  wpAny (model prog w) A (getAttr (.ref x) name expr) Q E s:=by
 obtain⟨od,J,hl⟩:=I.look;exact PySem.W.get_value X J (Ź hg).1 (PySem.W.findObj_own hh ha rfl (by rw[hl,hv])) Oz h
theorem N4 {pl:Sem Bool}{Q:À×List À->Â->Prop} (X:K.In s.heap) (I:ObjM s.heap x dx C mA) (hg:PySem.W.plainGet K C name=true)
  (hf:PySem.W.findIn K (.ref C) name=some (some (.ref f))) (ht:PySem.W.isFn K (.ref f)=true) (hv:mA name=none) (h:Q (.ref f,[.ref x]) s) :
  wpAny (model prog w) A (getMethod (.ref x) name pl) Q E s:=by
 obtain⟨od,J,hl⟩:=I.look;exact PySem.W.method_fn X J (Ź hg).1 (Ź hg).2 hf (beq_iff_eq.mp ht) (by show (PySem.W.lookIn name od).map (·.isSome)=some false;rw[hl,hv];rfl) h
theorem O9 {ns:List Str}{Q:Unit->Â->Prop} (X:K.In s.heap) (I:ObjM s.heap x dx C mA)
  (hs:PySem.W.findIn K (.ref C) "__setattr__" = some (some (.builtin "object.__setattr__"))) (hp:PySem.W.plainOver K C=true) (ht:PySem.W.takerIn K C name=some none) (hh:PySem.W.hasDictIn K C=true)
  (hw:PySem.Within mA ns) (hsz:ns.length<=sizeLine)
  (h:∀ h',ObjM h' x dx C (λ y=>if y=name then some v else mA y)->Heap.SameBut dx s.heap h'->Q () { s with heap:=h',toks:=s.toks+2 }) :
  wpAny (model prog w) A (setAttr (.ref x) name v) Q E s:=by
 obtain⟨od,J,hl⟩:=I.look;refine PySem.W.set_plain X J hs (PySem.W.osa_open (s:={ s with toks:=s.toks+1 }) (r:=none) X J hp ht λ b=>?_);obtain⟨cd,hc,Di⟩:=PySem.W.any_some hh;have hx:s.heap.get? x=some ⟨.ref C,some dx,.plain,#[]⟩:=I.obj;refine Æ (Ë (Æ (Æ (wpAny_loadPart hx (Æ (PySem.W.Looks.here (s:={ s with toks:=s.toks+1 }) (PySem.W.looks_clsIn X hc) ?_))))));rw[Di];refine Ë (a:=some dx) (Æ (Ë (Æ ?_)));refine wpAny_nsSet1 (s:={ s with toks:=s.toks+1 }) I.ns λ h' Kl vg=>?_;obtain⟨oD,esD,epD,hoD,hdD,hcD⟩:=Kl.count (PySem.Within.cons name v hw);refine Æ (wpAny_lookBehind hoD (by rw[hdD];exact pastItsLine_dict (ë hcD (by rw[á];lia))) ?_);exact Ë (h _ ⟨(vg.2 _ (Ne.symm I.ne)).trans I.obj,Kl,I.ne⟩ vg)
theorem MD {R:Result->Â->Prop}{vs:List À}{kw:List (Str×À)} (X:K.In s.heap) (hm:PySem.W.makesIn K C=true)
  (hi:PySem.W.findIn K (.ref C) "__init__" = some (some (.ref f))) (hf:PySem.W.typeIn K (.ref f)=some (.type "function"))
  (h:codeAny (model prog w) (A.under (.builtin "type.__call__" ⟨.ref C::vs,kw⟩)) (.call (.ref f) ⟨.ref (s.heap.objs.size+1)::vs,kw⟩) (PySem.W.InitBack (s.heap.objs.size+1) R)
   { s with heap:=(s.heap.push PySem.W.emptyDict).push (PySem.W.instObj C s.heap.objs.size) }) :
  codeAny (model prog w) A (.call (.ref C) ⟨vs,kw⟩) R s:=by
 obtain⟨hh,g,d,t,os⟩:=s;exact PySem.W.make_core (PySem.W.makes_of X hm) (Ş X hi) (λ self=>PySem.W.bind_fn X self hf) (.inl rfl) h
end
def cL (f:Str) (v:V):List (Str×V)->List (Str×V)
 | []=>[(f,v)]
 | (g,x)::r=>if g=f then (g,v)::r else (g,x)::cL f v r
theorem sX (f g:Str) (v:V):∀ fs:List (Str×V),(cL f v fs).lookup g=if g=f then some v else fs.lookup g
 | []=>by
  show List.lookup g [(f,v)]=_
  by_cases h:g=f
  ·have hb:(g == f)=true:=beq_iff_eq.mpr h;simp only [List.lookup,hb,Å h]
  ·have hb:(g == f)=false:=beq_eq_false_iff_ne.mpr h;simp only [List.lookup,hb,Ä h]
 | (k,x)::r=>by
  have ih:=sX f g v r;rw[show cL f v ((k,x)::r)=(if k=f then (k,v)::r else (k,x)::cL f v r) from rfl]
  by_cases hk:k=f
  ·rw[Å hk]
   by_cases h:g=k
   ·have hb:(g == k)=true:=beq_iff_eq.mpr h;simp only [List.lookup,hb,Å (h.trans hk)]
   ·have hb:(g == k)=false:=beq_eq_false_iff_ne.mpr h;simp only [List.lookup,hb,Ä (λ e:g=f=>h (e.trans hk.symm))]
  ·rw[Ä hk]
   by_cases h:g=k
   ·have hb:(g == k)=true:=beq_iff_eq.mpr h;simp only [List.lookup,hb,Ä (λ e:g=f=>hk (h.symm.trans e))]
   ·have hb:(g == k)=false:=beq_eq_false_iff_ne.mpr h;simp only [List.lookup,hb];exact ih
theorem rZ (f:Str) (v:V):∀ fs:List (Str×V),f∈(cL f v fs).map (·.1)/\∀ g,g∈fs.map (·.1)->g∈(cL f v fs).map (·.1)
 | []=>⟨by simp [cL],λ g h=>by simp at h⟩
 | (k,x)::r=>by
  obtain⟨i1,i2⟩:=rZ f v r;rw[show cL f v ((k,x)::r)=(if k=f then (k,v)::r else (k,x)::cL f v r) from rfl]
  by_cases hk:k=f
  ·rw[Å hk];subst hk;exact⟨by simp,λ g h=>by simpa using h⟩
  ·rw[Ä hk];refine⟨?_,λ g h=>?_⟩
   ·rw[Ù];exact Ô _ i1
   ·rw[Ù] at h ⊢;rcases Ñ.mp h with e | e
    ·exact Ñ.mpr (.inl e)
    ·exact Ô _ (i2 g e)
theorem sY (f:Str) (v:V):∀ fs:List (Str×V),(cL f v fs).length<=fs.length+1
 | []=>by simp [cL]
 | (k,x)::r=>by
  have ih:=sY f v r;rw[show cL f v ((k,x)::r)=(if k=f then (k,v)::r else (k,x)::cL f v r) from rfl]
  by_cases hk:k=f
  ·rw[Å hk,á,á];lia
  ·rw[Ä hk,á,á];lia
theorem nF.some_of {v:V}{o:Option À} (r:nF (some v) o):∃ u,o=some u/\bH v u:=by
 cases o with
 | none=>exact (show False from r).elim
 | some u=>exact⟨u,rfl,r⟩
theorem nF.none_of {o:Option À} (r:nF none o):o=none:=by
 cases o with
 | none=>rfl
 | some u=>exact (show False from r).elim
theorem IQ {v:V}{u:À} (r:bH v u):PySem.W.handedIn u=true:=by
 cases v with
 | non=>cases (show u=Value.none from r);rfl
 | bl b=>cases (show u=Value.bool b from r);rfl
 | int i=>obtain⟨t,e⟩:=(show ∃ t,u=Value.int i t from r);cases e;rfl
 | str x=>obtain⟨t,e⟩:=(show ∃ t,u=Value.str x t from r);cases e;rfl
 | byt b=>obtain⟨t,e⟩:=(show ∃ t,u=Value.bytes b t from r);cases e;rfl
 | flt b=>obtain⟨t,e⟩:=(show ∃ t,u=Value.float b t from r);cases e;rfl
 | ref a=>cases (show u=Value.ref a from r);rfl
 | ty n=>cases (show u=Value.type n from r);rfl
section
variable {H H':Hp}{h h':Heap}{a dx:Á}{fs fs':List (Str×V)}
theorem tX (hok:pC P w H h) (e:H a=some (.ins C dx fs)):∃ mA,ObjM h a dx C mA/\(∀ f,nF (fs.lookup f) (mA f))/\PySem.Within mA (fs.map (·.1))/\fs.length<=1000/\H dx=some (.own a):=by
 obtain⟨d,z,ne,ob,mA,n,r,q⟩:=(show dP P w H h a (.ins C dx fs) from hok a _ e);exact⟨mA,⟨ob,n,ne⟩,r,q,z,d⟩
end
structure Cls (K:Ç) (C:Á):Prop where
 pg:PySem.W.plainGet K C Str.empty=true
 hd:PySem.W.hasDictIn K C=true
 po:PySem.W.plainOver K C=true
 sa:PySem.W.findIn K (.ref C) "__setattr__" = some (some (.builtin "object.__setattr__"))
theorem Cls.get {K:Ç}{C:Á} (c:Cls K C) (f:Str):PySem.W.plainGet K C f=true:=c.pg
def jA (K:Ç) (C:Á) (f:Str):Prop:=PySem.W.findIn K (.ref C) f=some none
theorem jA.taker {K:Ç}{C:Á}{f:Str} (n:jA K C f):PySem.W.takerIn K C f=some none:=by
 unfold PySem.W.takerIn;rw[show PySem.W.findIn K (.ref C) f=some none from n];rfl
structure Meth (K:Ç) (C:Á) (m:Str) (f:Á):Prop where
 at_:PySem.W.findIn K (.ref C) m=some (some (.ref f))
 fn:PySem.W.isFn K (.ref f)=true
 kp:PySem.W.keepIn K (.ref f)=true
section
variable {X:Cx}{gn:List (Á×Obj)}{σ:St}{H:Hp}{s:Â}{a dx:Á}{fs:List (Str×V)}{f:Str}{v:V}{A:Around}{E:À->Â->Prop}
theorem EL {b:Bool}{Q:À->Â->Prop} (I:Inv X gn σ H s) (e:H a=some (.ins C dx fs)) (c:Cls X.K C) (n:jA X.K C f) (l:fs.lookup f=some v)
  (h:∀ u s',Inv X gn σ H s'->bH v u->Q u s'):wpAny (model X.prog X.w) A (getAttr (.ref a) f b) Q E s:=by
 obtain⟨mA,O,r,_,_,_⟩:=tX I.hok e;obtain⟨u,hu,ru⟩:=nF.some_of (v:=v) (o:=mA f) (by rw[<- l];exact r f);exact Q0 I.kIn O (c.get f) c.hd n hu (IQ ru) (h u _ (I.tok _) ru)
theorem wG {m:Str}{g:Á}{pl:Sem Bool}{Q:À×List À->Â->Prop} (I:Inv X gn σ H s) (e:H a=some (.ins C dx fs)) (c:Cls X.K C) (k:Meth X.K C m g) (l:fs.lookup m=none)
  (h:Q (.ref g,[.ref a]) s):wpAny (model X.prog X.w) A (getMethod (.ref a) m pl) Q E s:=by
 obtain⟨mA,O,r,_,_,_⟩:=tX I.hok e;have hn:mA m=none:=nF.none_of (by rw[<- l];exact r m);exact N4 I.kIn O (c.get m) k.at_ k.fn hn h
theorem DQ {y:V}{u:À}{Q:Unit->Â->Prop} (I:Inv X gn σ H s) (e:H a=some (.ins C dx fs)) (c:Cls X.K C) (n:jA X.K C f) (hl:fs.length < 1000) (ry:bH y u)
  (h:∀ s',Inv X gn σ (upd H a (.ins C dx (cL f y fs))) s'->Q () s'):wpAny (model X.prog X.w) A (setAttr (.ref a) f u) Q E s:=by
 obtain⟨mA,O,r,wi,_,ho⟩:=tX I.hok e;have hz:(fs.map (·.1)).length<=sizeLine:=by rw[Ê,à];lia
 refine O9 I.kIn O c.sa c.po n.taker c.hd wi hz λ h' O' sb=>h _ ?_;have hd:∃ o,h'.get? dx=some o:=let ⟨o,_,_,e',_⟩:=O'.ns;⟨o,e'⟩;refine I.write (x:=a) (e:=dx) (by rw[e];exact True.intro) (.inr ho) (λ b q hb z=>(sb.2 b hb).trans z) hd ?_;refine⟨by rw[aM O.ne];exact ho,?_,O.ne,O'.obj,_,O'.ns,λ g=>?_,λ g hg=>?_⟩
 ·have:=sY f y fs;lia
 ·show nF ((cL f y fs).lookup g) (if g=f then some u else mA g);rw[sX]
  by_cases q:g=f
  ·rw[Å q,Å q];exact ry
  ·rw[Ä q,Ä q];exact r g
 ·by_cases q:g=f
  ·rw[q];exact (rZ f y fs).1
  ·refine (rZ f y fs).2 g (wi g λ z=>hg ?_);show (if g=f then some u else mA g)=none;rw[Ä q];exact z
theorem Inv.made (I:Inv X gn σ H s):Inv X gn σ (upd (upd H s.heap.objs.size (.own (s.heap.objs.size+1))) (s.heap.objs.size+1) (.ins C s.heap.objs.size []))
  { s with heap:=(s.heap.push PySem.W.emptyDict).push (PySem.W.instObj C s.heap.objs.size) }:=by
 have e1:(s.heap.push PySem.W.emptyDict).get? s.heap.objs.size=some PySem.W.emptyDict:=Ü s.heap rfl;have e2:((s.heap.push PySem.W.emptyDict).push (PySem.W.instObj C s.heap.objs.size)).get? (s.heap.objs.size+1)=some (PySem.W.instObj C s.heap.objs.size):=by
  have:=Ü (s.heap.push PySem.W.emptyDict) (o:=PySem.W.instObj C s.heap.objs.size) rfl
  rwa [ċ] at this
 have e3:(s.heap.push PySem.W.emptyDict).Ns s.heap.objs.size (λ _=>none):=⟨PySem.W.emptyDict,#[],_,e1,rfl,(λ e he=>absurd he (by simp)),λ _=>rfl⟩;have I1:=I.laid (a:=s.heap.objs.size) (o:=.own (s.heap.objs.size+1)) (h':=s.heap.push PySem.W.emptyDict) (t':=s.toks) (λ b u q=>Î _ q) (Í _) ⟨_,e1⟩;refine I1.laid (a:=s.heap.objs.size+1) (o:=.ins C s.heap.objs.size []) (t':=s.toks) (λ b u q=>Î _ q) (ķ (ċ _ _)) ?_;have ne:s.heap.objs.size≠s.heap.objs.size+1:=é (aga _);refine⟨by rw[aM ne,aE],ê _,ne,e2,λ _=>none,(Heap.Ns1.of_empty e3).at λ o q=>Î _ q,λ _=>True.intro,λ y hy=>absurd rfl hy⟩
theorem Q5 {prog:Ã}{w:World}{env:Env}{e:Expr}{f:Str}{pos:Pos}{s:Â}{Q:À->Â->Prop} (hb:attributeBase e f env (eval e env)=eval e env)
  (h:wpAny (model prog w) A (eval e env) (λ o aj=>wpAny (model prog w) A (getAttr o f true) Q E aj) E s):wpAny (model prog w) A (eval (.Attribute e f pos) env) Q E s:=
 Attribute_any_ h (by rw[arm_eval_Attribute,hb])
end
def UJ (K:Ç) (ta:TE) (f:Str):TE:=λ σ H Q=>ta σ H λ x H1=>∃ a C dx fs v,x=.ref a/\H1 a=some (.ins C dx fs)/\Cls K C/\jA K C f/\fs.lookup f=some v/\Q v H1
def UR (K:Ç) (ta tv:TE) (f:Str):TS:=λ D σ H=>tv σ H λ y H1=>ta σ H1 λ x H2=>∃ a C dx fs,x=.ref a/\H2 a=some (.ins C dx fs)/\Cls K C/\jA K C f/\fs.length < 1000/\
 D.nx σ (upd H2 a (.ins C dx (cL f y fs)))
section
variable {X:Cx}{o e value:Expr}{f:Str}{pos pos' Al:Pos}{ta tv:TE}
theorem S9 (he:PE X e ta) (hb:attributeBase e f X.env (eval e X.env)=eval e X.env):PE X (.Attribute e f pos) (UJ X.K ta f):=by
 intro gn s σ H Q I h;refine Q5 hb (d8 (he gn s σ H _ I h) λ u s1 ⟨x,H1,I1,rx,a,C,dx,fs,v,ex,ea,c,n,l,q⟩=>?_);subst ex;obtain rfl:u=Value.ref a:=rx;exact EL I1 ea c n l λ u' s2 I2 ru=>⟨v,H1,I2,ru,q⟩
theorem S3 (ha:PE X o ta) (hv:PE X value tv) (hs:swapsWith value (some (.Attribute o f pos')) pos.line X.env=pure false):PS X (.Assign [.Attribute o f pos'] value pos) (UR X.K ta tv f):=by
 intro gn s σ H D I h;refine plainObj_wpAny_Assign_Attribute (d8 (hv gn s σ H _ I h) λ u s1 ⟨y,H1,I1,ry,q⟩=>d8 (ha gn s1 σ H1 _ I1 q) λ ov s2 ⟨x,H2,I2,rx,a,C,dx,fs,ex,ea,c,n,l,q2⟩=>?_) hs;subst ex;obtain rfl:ov=Value.ref a:=rx;exact DQ I2 ea c n l ry λ s3 I3=>⟨σ,_,I3,q2⟩
end
section
variable {X:Cx}{gn:List (Á×Obj)}{σ:St}{H:Hp}{s:Â}{A:Around}{E:À->Â->Prop}{Q:À->Â->Prop}{c:À}{b:Bool}
inductive TyOf (K:Ç) (H:Hp):V->À->Prop where
 | non:TyOf K H .non (.type "NoneType")
 | bl (x:Bool):TyOf K H (.bl x) (.type "bool")
 | int (i:Int):TyOf K H (.int i) (.type "int")
 | str (x:Str):TyOf K H (.str x) (.type "str")
 | flt (x:UInt64):TyOf K H (.flt x) (.type "float")
 | lst {a:Á}{xs:List V} (e:H a=some (.lst xs)):TyOf K H (.ref a) (.type "list")
 | frz {a:Á}{o:Obj}{xs:List V} (e:H a=some (.frz o (.lst xs))):TyOf K H (.ref a) (.type "list")
 | tup {a:Á}{xs:List V} (e:H a=some (.tup xs)):TyOf K H (.ref a) (.type "tuple")
 | dK {a:Á}{gy:List (fT×V)} (e:H a=some (.dK gy)):TyOf K H (.ref a) (.type "dict")
 | dT {a:Á}{gy:List (List fT×V)} (e:H a=some (.dT gy)):TyOf K H (.ref a) (.type "dict")
 | ins {a C dx:Á}{fs:List (Str×V)} (e:H a=some (.ins C dx fs)) (cl:Cls K C) (ha:PySem.W.findIn K (.ref C) "__class__" = some (some (.builtin "object.__class__")))
   (hn:PySem.W.specialIn K (.builtin "object.__class__") "__get__" = some (some (.builtin "getset_descriptor.__get__"))) (htk:PySem.W.takesIn K (.builtin "object.__class__")=some true)
   (hm:PySem.W.mroIn K C (.type "object")=some true):TyOf K H (.ref a) (.ref C)
theorem kH {x:V}{u t:À} (I:Inv X gn σ H s) (rx:bH x u) (ty:TyOf X.K H x t) (e:PySem.W.kitOne X.K t c=some b) (h:∀ tk,Q (.bool b) { s with toks:=tk }) :
  wpAny (model X.prog X.w) A (call (.builtin "isinstance") [u,c]) Q E s:=by
 cases ty with
 | non=>cases (show u=Value.none from rx);exact ĉ PySem.W.kitx_none I.kIn True.intro e (λ z=>nomatch z) h
 | bl y=>cases (show u=Value.bool y from rx);exact ĉ PySem.W.kitx_bool I.kIn True.intro e (λ z=>nomatch z) h
 | int i=>obtain⟨t,q⟩:=(show ∃ t,u=Value.int i t from rx);cases q;exact ĉ PySem.W.kitx_int I.kIn True.intro e (λ z=>nomatch z) h
 | str y=>obtain⟨t,q⟩:=(show ∃ t,u=Value.str y t from rx);cases q;exact ĉ PySem.W.kitx_str I.kIn True.intro e (λ z=>nomatch z) h
 | flt y=>obtain⟨t,q⟩:=(show ∃ t,u=Value.float y t from rx);cases q;exact ĉ PySem.W.kitx_float I.kIn True.intro e (λ z=>nomatch z) h
 | @lst a xs ea=>
  cases (show u=Value.ref a from rx);obtain⟨_,_,n,_,h1⟩:=(show dP X.prog X.w H s.heap a (.lst xs) from I.hok a _ ea);exact ĉ afq I.kIn ⟨_,h1,rfl⟩ e (λ z=>nomatch z) h
 | @frz a ob xs ea=>
  cases (show u=Value.ref a from rx);obtain⟨_,_,_,n,_,h1⟩:=(show dP X.prog X.w H s.heap a (.frz ob (.lst xs)) from I.hok a _ ea);exact ĉ afq I.kIn ⟨_,h1,rfl⟩ e (λ z=>nomatch z) h
 | @tup a xs ea=>
  cases (show u=Value.ref a from rx);obtain⟨_,_,_,p⟩:=(show dP X.prog X.w H s.heap a (.tup xs) from I.hok a _ ea);obtain⟨o,h1,h2,_⟩:=p;exact ĉ ž I.kIn ⟨o,h1,h2⟩ e (λ z=>nomatch z) h
 | @dK a gy ea=>
  cases (show u=Value.ref a from rx);obtain⟨_,_,vs,_,p⟩:=(show dP X.prog X.w H s.heap a (.dK gy) from I.hok a _ ea);obtain⟨o,es,ep,h1,h2,_⟩:=p;exact ĉ PySem.W.kitx_dict I.kIn ⟨o,h1,h2.1⟩ e (λ z=>nomatch z) h
 | @dT a gy ea=>
  cases (show u=Value.ref a from rx);obtain⟨_,_,xs,_,o,es,ep,h1,h2,_⟩:=(show dP X.prog X.w H s.heap a (.dT gy) from I.hok a _ ea);exact ĉ PySem.W.kitx_dict I.kIn ⟨o,h1,h2.1⟩ e (λ z=>nomatch z) h
 | @ins a C dx fs ea cl ha hn Dm hm=>
  cases (show u=Value.ref a from rx);obtain⟨mA,O,_⟩:=tX I.hok ea;obtain⟨od,J,_⟩:=O.look;exact ĉ (PySem.W.kitx_own (cl.get _) cl.hd ha hn Dm hm) I.kIn J e (λ z=>nomatch z) h
end
structure Room (k:Nat) (A:Around):Prop where
 hd:A.handled=none
 dp:A.depth+3 * k+5 < recursionLimit
 un:A.units+16 * k+200 < cLine
theorem Room.mono {j k:Nat}{A:Around} (r:Room k A) (h:j<=k):Room j A:=⟨r.hd,by have:=r.dp;lia,by have:=r.un;lia⟩
theorem Room.deeper {k:Nat}{A:Around} (r:Room (k+1) A) (env:Env):Room k (A.deeper env):=
 ⟨r.hd,by have:=r.dp;show A.depth+1+3 * k+5 < _;lia,by have:=r.un;show A.units+3+16 * k+200 < _;lia⟩
theorem EC {A:Around}{C:Á}{us:List À}{kw:List (Str×À)}:(A.under (.builtin "type.__call__" ⟨.ref C::us,kw⟩)).depth=A.depth+1:=by
 first | rfl | simp [Around.under,Code.weight,Code.isCreation,Code.isGuard,Code.isCaller,Code.frames,Code.isFrame,guardIds]
theorem EB {A:Around}{C:Á}{us:List À}{kw:List (Str×À)}:(A.under (.builtin "type.__call__" ⟨.ref C::us,kw⟩)).units=A.units+1:=by
 first | rfl | simp [Around.under,Code.cUnits,Code.frames,Code.isFrame]
theorem Room.make {k:Nat}{A:Around} (r:Room (k+1) A) (C:Á) (us:List À) (kw:List (Str×À)):Room k (A.under (.builtin "type.__call__" ⟨.ref C::us,kw⟩)):=
 ⟨r.hd,by have:=r.dp;rw[EC];lia,by have:=r.un;rw[EB];lia⟩
theorem Room.depth {k:Nat}{A:Around} (r:Room k A):A.depth < recursionLimit:=by have:=r.dp;lia
theorem Room.units {k:Nat}{A:Around} (r:Room k A):A.units+64 < cLine:=by have:=r.un;lia
def fX:TA:=λ _ H Q=>Q [] H
def bM (ta:TE) (tr:TA):TA:=λ σ H Q=>ta σ H λ x H1=>tr σ H1 λ xs H2=>Q (x::xs) H2
section
variable {X:Cx}{e:Expr}{es:List Expr}{te:TE}{t:TA}{pos:Pos}
theorem aD:PA X [] fX:=λ _ _ _ _ H Q I h=>afr ⟨[],H,I,.nil,h⟩
theorem aB (ha:PE X e te) (hr:PA X es t) (hs:starEach (e::es) X.env=(false,eval e X.env)::starEach es X.env:=by exact wr0):PA X (e::es) (bM te t):=by
 intro pos gn s σ H Q I h;rw[hs];show wpAny _ _ (spliced ((false,eval e X.env)::backTo pos (starEach es X.env))) _ _ s;refine ō (d8 (ha gn s σ H _ I h) λ u s1 ⟨x,H1,I1,r1,q1⟩=>?_);exact d8 (hr pos gn s1 σ H1 _ I1 q1) λ us s2 ⟨xs,H2,I2,r2,q2⟩=>⟨x::xs,H2,I2,.cons r1 r2,q2⟩
def UG (t:TA):TE:=λ σ H Q=>t σ H λ xs H1=>xs.length<=sizeLine/\∀ p,H1 p=none->Q (.ref p) (upd H1 p (.tup xs))
def AZ (t:TA):TE:=λ σ H Q=>t σ H λ xs H1=>xs.length<=sizeLine/\∀ p,H1 p=none->Q (.ref p) (upd H1 p (.lst xs))
theorem bN {x1} (h:PA X es t):PE X (.Tuple es x1 pos) (UG t):=by
 intro gn s σ H Q I hq;refine wpAny_Tuple_spliced (d8 (h pos gn s σ H _ I hq) λ us s1 ⟨xs,H1,I1,r,z,q⟩=>⟨by rw[<- r.length];exact z,?_⟩);have hf:H1 s1.heap.objs.size=none:=I1.hok.fresh (Í _);refine⟨.ref s1.heap.objs.size,upd H1 s1.heap.objs.size (.tup xs),I1.laid (t':=s1.toks) (λ b u e=>Î _ e) (Í _) ?_,rfl,q _ hf⟩;exact⟨z,us,r,⟨_,Ü _ rfl,rfl,_,rfl⟩⟩
theorem aZ (h:PA X es t):PE X (.List es pos) (AZ t):=by
 intro gn s σ H Q I hq;refine wpAny_List_spliced (d8 (h pos gn s σ H _ I hq) λ us s1 ⟨xs,H1,I1,r,z,q⟩=>⟨by rw[<- r.length];exact z,?_⟩);have hf:H1 s1.heap.objs.size=none:=I1.hok.fresh (Í _);refine⟨.ref s1.heap.objs.size,upd H1 s1.heap.objs.size (.lst xs),I1.laid (t':=s1.toks) (λ b u e=>Î _ e) (Í _) ?_,rfl,q _ hf⟩;exact⟨z,us,0,r,Ü _ rfl⟩
end
abbrev Sp:=List V->Hp->VK->XK->Prop
abbrev GW:=List Env->Hp->Â->XK->À->Â->Prop
structure Env0 (P:Ã) (w:World) (K:Ç) (mg:Str->Option À) (base:Heap) (A:Around) (outer:List Env) (s:Â) (H:Hp):Prop where
 frames:A.frames=some outer
 mod:Mod K mg base
 bs:∀ b o,base.get? b=some o->s.heap.get? b=some o/\H b=none
 bsz:base.objs.size<=s.heap.objs.size
 funs:s.heap.FunFrames base outer
 frf:∀ b∈pE outer,H b=none
 hok:pC P w H s.heap
 bare:AllBare s.gens
def CE (outer:List Env) (P:Ã) (w:World) (H:Hp) (s:Â) (Q:VK) (u:À) (s':Â):Prop:=
 ∃ v H',s'.os=s.os/\AllBare s'.gens/\Un (pE outer) [] H H' s.heap s'.heap/\pC P w H' s'.heap/\bH v u/\Q v H'
def CR (CX:GW) (outer:List Env) (P:Ã) (w:World) (H:Hp) (s:Â) (Q:VK) (E:XK) (r:Result) (s':Â):Prop:=
 match r with
 | .ok (.ret u)=>CE outer P w H s Q u s'
 | .ok _=>False
 | .error e=>CX outer H s E e s'
structure FnOk (P:Ã) (w:World) (K:Ç) (mg:Str->Option À) (base:Heap) (CX:GW) (k:Nat) (f:Á) (fd:FuncData) (ps:List Str) (sp:Sp):Prop where
 len:∀ vs H Q E,sp vs H Q E->vs.length=ps.length
 run:∀ (A:Around) (outer:List Env) (s:Â) (H:Hp) (args:Args) (us:List À) (vs:List V) (Q:VK) (E:XK),Room k A->Env0 P w K mg base A outer s H->BindsTo s fd args (ps.zip us)->bG vs us->sp vs H Q E->
  codeAny (model P w) A (.call (.ref f) args) (CR CX outer P w H s Q E) s
theorem FnOk.imp {P:Ã}{w:World}{K:Ç}{mg:Str->Option À}{base:Heap}{CX:GW}{k:Nat}{f:Á}{fd:FuncData}{ps:List Str}{sp sp':Sp} (F:FnOk P w K mg base CX k f fd ps sp)
  (h:∀ vs H Q E,sp' vs H Q E->sp vs H Q E):FnOk P w K mg base CX k f fd ps sp':=
 ⟨λ vs H Q E q=>F.len vs H Q E (h _ _ _ _ q),λ A outer s H args us vs Q E hr he hb hv hs=>F.run A outer s H args us vs Q E hr he hb hv (h _ _ _ _ hs)⟩
theorem Env0.make {P:Ã}{w:World}{K:Ç}{mg:Str->Option À}{base:Heap}{A:Around}{outer:List Env}{s:Â}{H:Hp} (e:Env0 P w K mg base A outer s H) (C:Á) (us:List À) (kw:List (Str×À)) :
  Env0 P w K mg base (A.under (.builtin "type.__call__" ⟨.ref C::us,kw⟩)) outer s H:=⟨by first | exact e.frames | (simpa [Around.under,Code.envs,Code.isFrame,pushEnvs] using e.frames),e.mod,e.bs,e.bsz,e.funs,e.frf,e.hok,e.bare⟩
section
variable {X:Cx}{gn:List (Á×Obj)}{σ:St}{H:Hp}{s s':Â}
theorem Inv.env0 (I:Inv X gn σ H s):Env0 X.prog X.w X.K X.mg X.base X.A X.stack s H:=
 ⟨I.ok.frames,I.ok.mod,I.bs,ë I.ok.bsz I.sz,I.stack,I.stkFree,I.hok,I.bare⟩
theorem Inv.after {Q:VK}{u:À} (I:Inv X gn σ H s) (h:CE X.stack X.prog X.w H s Q u s'):EP X gn σ Q u s':=by
 obtain⟨v,H',os,bare,un,hok,r,q⟩:=h;obtain⟨hh,g,d,t,os'⟩:=s';obtain rfl:os'=s.os:=os;exact⟨v,H',I.call (h':=hh) (g':=g) (d':=d) (t':=t) (ch:=[]) un hok bare (λ b z=>absurd z (by simp)),r,q⟩
end
def jC (sp:Sp) (oj:List V) (E:XK) (t:TA):TE:=λ σ H Q=>t σ H λ vs H1=>sp (vs++oj) H1 Q E
def K3 (C:Á) (m:Str) (sp:Sp) (oj:List V) (E:XK) (ta:TE) (t:TA):TE:=λ σ H Q=>ta σ H λ x H1=>∃ a dx fs,x=.ref a/\H1 a=some (.ins C dx fs)/\fs.lookup m=none/\
 t σ H1 λ vs H2=>sp (x::(vs++oj)) H2 Q E
def QJ (C:Á) (sp:Sp) (oj:List V) (E:XK) (t:TA):TE:=λ σ H Q=>t σ H λ vs H1=>∀ x dx,H1 x=none->H1 dx=none->dx≠x->
 sp (.ref x::(vs++oj)) (upd (upd H1 dx (.own x)) x (.ins C dx [])) (λ v H2=>v=.non/\Q (.ref x) H2) E
def gQ (K:Ç) (fd:FuncData) (ps:List Str) (ds:List À):Prop:=
 ∀ (s:Â) (us:List À),K.In s.heap->(us++ds).length=ps.length->BindsTo s fd ⟨us,[]⟩ (ps.zip (us++ds))
theorem gQ.all {K:Ç}{fd:FuncData}{ps:List Str} (h:∀ us:List À,us.length=ps.length->bindArgs fd ⟨us,[]⟩=pure (ps.zip us)):gQ K fd ps []:=λ s us _ hl=>by
 rw[ı] at hl ⊢;exact .of_eq (h us hl)
def iM (CX:GW) (X:Cx) (E:XK):Prop:=∀ (gn:List (Á×Obj)) (σ:St) (H:Hp) (s:Â) (e:À) (s':Â),Inv X gn σ H s->CX X.stack H s E e s'->X.xe e s'
section
variable {X:Cx}{CX:GW}{k:Nat}{f:Á}{fd:FuncData}{ps:List Str}{sp:Sp}{oj:List V}{ds:List À}{E:XK}{x m:Str}{p pos apos:Pos}{e o:Expr}{es:List Expr}{ta:TE}{t:TA}
theorem yW {gn:List (Á×Obj)}{σ:St}{H:Hp}{s:Â}{Q:VK}{us:List À}{vs:List V} (F:FnOk X.prog X.w X.K X.mg X.base CX k f fd ps sp) (hr:Room k X.A) (hb:gQ X.K fd ps ds) (hd:bG oj ds) (hx:iM CX X E)
  (I:Inv X gn σ H s) (r:bG vs us) (h:sp (vs++oj) H Q E):wpAny (model X.prog X.w) X.A (call (.ref f) us) (EP X gn σ Q) X.xe s:=by
 have r2:bG (vs++oj) (us++ds):=r.append hd;have hl:(us++ds).length=ps.length:=by rw[<- r2.length];exact F.len _ _ _ _ h
 refine wpAny_call (ů (F.run X.A X.stack s H ⟨us,[]⟩ (us++ds) (vs++oj) Q E hr I.env0 (hb s us I.kIn hl) r2 h) λ r s' hq=>?_);cases r with
 | error e=>exact hx gn σ H s e s' I hq
 | ok fl=>
  cases fl with
  | ret u=>exact I.after hq
  | next=>exact False.elim hq
  | brk=>exact False.elim hq
  | cont=>exact False.elim hq
theorem dL (F:FnOk X.prog X.w X.K X.mg X.base CX k f fd ps sp) (hr:Room k X.A) (hg:Gl X x) (hm:X.mg x=some (.ref f)) (hk:PySem.W.keepIn X.K (.ref f)=true) (hb:gQ X.K fd ps ds) (hd:bG oj ds) (hx:iM CX X E)
  (ha:PA X (e::es) t) (ye:(x == ("__debug__" : Str))=false:=by decide) (he:starEach (e::es) X.env=(false,eval e X.env)::starEach es X.env:=by exact wr0) (pe:(backTo pos (starEach es X.env)).any (·.1)=false:=by exact wr0) :
  PE X (.Call (.Name x p) (e::es) [] pos) (jC sp oj E t):=by
 intro gn s σ H Q I h;refine Ŏ (lE I hg hm ?_ ye);refine Ť (h₀:=X.base) I.ok.mod.kin hk (d8 (ha pos gn s σ H _ I h) λ us s1 ⟨vs,H1,I1,r,q⟩=>⟨I1.kIn,?_⟩) he pe;exact yW F hr hb hd hx I1 r q
theorem kZ {pl:Sem Bool} (he:PE X o ta) (c:Cls X.K C) (hm:Meth X.K C m f) (F:FnOk X.prog X.w X.K X.mg X.base CX k f fd ps sp) (hr:Room k X.A) (hb:gQ X.K fd ps ds) (hd:bG oj ds) (hx:iM CX X E) (ha:PA X (e::es) t)
  (sk:starEach (e::es) X.env=(false,eval e X.env)::starEach es X.env:=by exact wr0) (pe:(backTo pos (starEach es X.env)).any (·.1)=false:=by exact wr0)
  (ht:eval (.Call (.Attribute o m apos) (e::es) [] pos) X.env=(do
   let ov <- eval o X.env
   standAt apos.atName
   let (f,first) <- holding [ov] (getMethod ov m pl)
   callWith pos f first (backTo pos (starEach (e::es) X.env)) (backToKw pos (keywordEach [] X.env))):=by exact wr0) :
  PE X (.Call (.Attribute o m apos) (e::es) [] pos) (K3 C m sp oj E ta t):=by
 intro gn s σ H Q I h;refine PySem.W.methodCall_KW (pl:=pl) (d8 (he gn s σ H _ I h) λ u s1 ⟨x,H1,I1,rx,a,dx,fs,ex,ea,l,q⟩=>?_) ht;subst ex;obtain rfl:u=Value.ref a:=rx;refine wG I1 ea c hm l ?_;refine Ť (first:=[.ref a]) (h₀:=X.base) I.ok.mod.kin hm.kp (d8 (ha pos gn s1 σ H1 _ I1 q) λ us s2 ⟨vs,H2,I2,r,q2⟩=>⟨I2.kIn,?_⟩) sk pe;exact yW (us:=.ref a::us) (vs:=.ref a::vs) F hr hb hd hx I2 (.cons rfl r) q2
theorem eW {pl:Sem Bool} (he:PE X o ta) (c:Cls X.K C) (hm:Meth X.K C m f) (F:FnOk X.prog X.w X.K X.mg X.base CX k f fd ps sp) (hr:Room k X.A) (hb:gQ X.K fd ps ds) (hd:bG oj ds) (hx:iM CX X E)
  (ht:eval (.Call (.Attribute o m apos) [] [] pos) X.env=(do
   let ov <- eval o X.env
   standAt apos.atName
   let (f,first) <- holding [ov] (getMethod ov m pl)
   callWith pos f first (backTo pos (starEach [] X.env)) (backToKw pos (keywordEach [] X.env))):=by exact wr0) :
  PE X (.Call (.Attribute o m apos) [] [] pos) (K3 C m sp oj E ta fX):=by
 intro gn s σ H Q I h;refine PySem.W.methodCall_KW (pl:=pl) (d8 (he gn s σ H _ I h) λ u s1 ⟨x,H1,I1,rx,a,dx,fs,ex,ea,l,q⟩=>?_) ht;subst ex;obtain rfl:u=Value.ref a:=rx;refine wG I1 ea c hm l ?_;exact PySem.W.callWith_K0 (first:=[.ref a]) I1.kIn hm.kp (yW (us:=[.ref a]) (vs:=[.ref a]) F hr hb hd hx I1 (.cons rfl .nil) q)
structure Mk (K:Ç) (C f:Á):Prop where
 makes:PySem.W.makesIn K C=true
 init:PySem.W.findIn K (.ref C) "__init__" = some (some (.ref f))
 fn:PySem.W.isFn K (.ref f)=true
 kp:PySem.W.keepIn K (.ref C)=true
theorem KH {gn:List (Á×Obj)}{σ:St}{H:Hp}{s:Â}{Q:VK}{us:List À}{vs:List V} (M:Mk X.K C f) (F:FnOk X.prog X.w X.K X.mg X.base CX k f fd ps sp) (hr:Room (k+1) X.A) (hb:gQ X.K fd ps ds) (hd:bG oj ds)
  (hx:iM CX X E) (I:Inv X gn σ H s) (r:bG vs us)
  (h:∀ x dx,H x=none->H dx=none->dx≠x->sp (.ref x::(vs++oj)) (upd (upd H dx (.own x)) x (.ins C dx [])) (λ v H2=>v=.non/\Q (.ref x) H2) E) :
  wpAny (model X.prog X.w) X.A (call (.ref C) us) (EP X gn σ Q) X.xe s:=by
 have hq:=h (s.heap.objs.size+1) s.heap.objs.size (I.hok.fresh (Nat.le_succ _)) (I.hok.fresh (Í _)) (é (aga _));have I2:=Inv.made (C:=C) I;have r2:bG (V.ref (s.heap.objs.size+1)::(vs++oj)) (Value.ref (s.heap.objs.size+1)::(us++ds)):=.cons rfl (r.append hd);have hl:(Value.ref (s.heap.objs.size+1)::us++ds).length=ps.length:=by
  have e:=r2.length;rw[F.len _ _ _ _ hq] at e;exact e.symm
 refine wpAny_call (MD (f:=f) I.kIn M.makes M.init (beq_iff_eq.mp M.fn) (ů (F.run _ X.stack _ _ ⟨Value.ref (s.heap.objs.size+1)::us,[]⟩ (Value.ref (s.heap.objs.size+1)::(us++ds)) _ _ E (hr.make C us [])
  (I2.env0.make C us []) (hb _ (Value.ref (s.heap.objs.size+1)::us) I2.kIn hl) r2 hq) λ r s' Dn=>?_))
 cases r with
 | error e=>exact hx gn σ _ _ e s' I2 Dn
 | ok fl=>
  cases fl with
  | ret u=>
   obtain⟨v,H',I3,rv,ev,q3⟩:=I2.after Dn;subst ev;exact⟨rv,⟨V.ref (s.heap.objs.size+1),H',I3,rfl,q3⟩⟩
  | next=>exact False.elim Dn
  | brk=>exact False.elim Dn
  | cont=>exact False.elim Dn
theorem zF (M:Mk X.K C f) (F:FnOk X.prog X.w X.K X.mg X.base CX k f fd ps sp) (hr:Room (k+1) X.A) (hg:Gl X x) (hm:X.mg x=some (.ref C)) (hb:gQ X.K fd ps ds) (hd:bG oj ds) (hx:iM CX X E)
  (ha:PA X (e::es) t) (ye:(x == ("__debug__" : Str))=false:=by decide) (he:starEach (e::es) X.env=(false,eval e X.env)::starEach es X.env:=by exact wr0) (pe:(backTo pos (starEach es X.env)).any (·.1)=false:=by exact wr0) :
  PE X (.Call (.Name x p) (e::es) [] pos) (QJ C sp oj E t):=by
 intro gn s σ H Q I h;refine Ŏ (lE I hg hm ?_ ye);refine Ť (h₀:=X.base) I.ok.mod.kin M.kp (d8 (ha pos gn s σ H _ I h) λ us s1 ⟨vs,H1,I1,r,q⟩=>⟨I1.kIn,?_⟩) he pe;exact KH M F hr hb hd hx I1 r q
end
section
variable {X:Cx}{CX:GW}{k:Nat}{f:Á}{fd:FuncData}{ps ks:List Str}{sp:Sp}{E:XK}{x m:Str}{p pos apos kpos:Pos}{e o:Expr}{es:List Expr}{kws:List Keyword}{te ta:TE}{t tk:TA}{nm:Option Str}
variable {g:List À->List À->List À}{gV:List V->List V->List V}
end
structure FnScope (N P:List Str) (sc:Scope):Prop where
 kind:sc.kind=.function:=by rfl
 co:sc.isCoroutine=false:=by rfl
 gen:sc.isGenerator=false:=by rfl
 nd:N.Nodup:=by decide +kernel
 pre:N.take P.length=P:=by rfl
 par:∀ x∈P,sc.names.lookup x=some .local\/sc.names.lookup x=some .cell:=by decide +kernel
 nofree:∀ y∈sc.names,y.2≠.free:=by decide +kernel
theorem y9 {kindOf:Str->Option NameKind}{x:Str}:∀ {binds:List (Str×À)}{m:Str->Option À},(∀ v,(x,v)∉binds)->bindL kindOf binds m x=m x
 | [],_,_=>rfl
 | (n,v)::r,m,h=>by
  unfold bindL;rw[y9 λ w hw=>h w (Ô _ hw)]
  split
  ·have:x≠n:=by rintro rfl;exact h v Þ
   simp [this]
  ·rfl
theorem yB {kindOf:Str->Option NameKind}{x:Str}:∀ {binds:List (Str×À)}{m:Str->Option À},(∀ v,(x,v)∉binds)->bindC kindOf binds m x=m x
 | [],_,_=>rfl
 | (n,v)::r,m,h=>by
  unfold bindC;rw[yB λ w hw=>h w (Ô _ hw)]
  split
  ·rfl
  ·have:x≠n:=by rintro rfl;exact h v Þ
   simp [this]
theorem yA {kindOf:Str->Option NameKind}{x:Str}{v:À}:∀ {P:List Str}{vs:List À}{i:Nat}{m:Str->Option À},P.Nodup->P[i]? = some x->vs[i]? = some v->kindOf x=some .local->
  bindL kindOf (P.zip vs) m x=some v
 | [],_,_,_,_,h,_,_=>by simp at h
 | _::_,[],_,_,_,_,h,_=>by simp at h
 | p::P,w::vs,0,m,nd,h1,h2,hk=>by
  simp at h1 h2;subst h1;subst h2;show bindL kindOf ((p,w)::P.zip vs) m p=_;unfold bindL;rw[y9 λ v hv=>(ă.mp nd).1 (agm hv).1,Å hk];simp
 | p::P,w::vs,i+1,m,nd,h1,h2,hk=>by
  show bindL kindOf ((p,w)::P.zip vs) m x=_;unfold bindL;exact yA (i:=i) (ă.mp nd).2 (by simpa using h1) (by simpa using h2) hk
theorem yC {kindOf:Str->Option NameKind}{x:Str}{v:À}:∀ {P:List Str}{vs:List À}{i:Nat}{m:Str->Option À},P.Nodup->P[i]? = some x->vs[i]? = some v->kindOf x≠some .local->
  bindC kindOf (P.zip vs) m x=some v
 | [],_,_,_,_,h,_,_=>by simp at h
 | _::_,[],_,_,_,_,h,_=>by simp at h
 | p::P,w::vs,0,m,nd,h1,h2,hk=>by
  simp at h1 h2;subst h1;subst h2;show bindC kindOf ((p,w)::P.zip vs) m p=_;unfold bindC;rw[yB λ v hv=>(ă.mp nd).1 (agm hv).1,Ä hk];simp
 | p::P,w::vs,i+1,m,nd,h1,h2,hk=>by
  show bindC kindOf ((p,w)::P.zip vs) m x=_;unfold bindC;exact yC (i:=i) (ă.mp nd).2 (by simpa using h1) (by simpa using h2) hk
def pK (N:List Str) (vs:List V):St:=vs.map some++List.replicate (N.length - vs.length) none
def CM (CX:GW) (P:Ã) (w:World) (K:Ç) (mg:Str->Option À) (base:Heap) (N:List Str) (qual:Str) (scope:Scope) (f:Á) (cd:À) (A:Around) (outer:List Env) (s:Â) (H:Hp) (E:XK):Cx where
 prog:=P
 w:=w
 K:=K
 mg:=mg
 base:=base
 A:=A.deeper (envOfC qual scope s.heap.objs.size f cd)
 N:=N
 s₀:=s
 H₀:=H
 env:=envOfC qual scope s.heap.objs.size f cd
 outer:=outer
 stack:=envOfC qual scope s.heap.objs.size f cd::outer
 ex:=[]
 calm:=true
 fn:=λ _=>true
 pn:=[]
 xe:=λ e s'=>wpAny (model P w) (A.deeper (envOfC qual scope s.heap.objs.size f cd)) (leaving (envOfC qual scope s.heap.objs.size f cd) e) (λ _ zr=>CX outer H s E e zr) (λ e' zr=>CX outer H s E e' zr) s'
theorem CO {sc:Scope}{n:Nat}{x:Str} (h:sc.names.lookup x=some .cell):∃ c,(cellsFrom n sc.names []).lookup x=some c:=by
 have q:=agh sc.names n [] (.inl h);exact Option.isSome_iff_exists.mp q
theorem IM {CX:GW}{P:Ã}{w:World}{K:Ç}{mg:Str->Option À}{base:Heap}{N ps:List Str}{qual:Str}{scope:Scope}{f:Á}{cd:À}{A:Around}{outer:List Env}{s s1:Â}{H:Hp}{E:XK}{us:List À}{vs:List V}
  (S:FnScope N ps scope) (hd:A.handled=none) (e0:Env0 P w K mg base A outer s H) (hl:vs.length=ps.length) (r:bG vs us)
  (x:InCallC s s.heap.objs.size (bindL (envOfC qual scope s.heap.objs.size f cd).kindOf (ps.zip us) λ _=>none) (cellsFrom (s.heap.objs.size+1) scope.names []) (bindC (envOfC qual scope s.heap.objs.size f cd).kindOf (ps.zip us) λ _=>none) s1) :
  Inv (CM CX P w K mg base N qual scope f cd A outer s H E) [] (pK N vs) H s1:=by
 have pe:ps.length<=N.length:=by have:=congrArg List.length S.pre;rw[î] at this;lia
 obtain⟨h1,tk,rfl,hk⟩:=x.done;have Do:∀ b:Á,b∉(CM CX P w K mg base N qual scope f cd A outer s H E).ex:=λ b z=>absurd (show b∈([]:List Á) from z) (by simp);refine⟨⟨e0.mod,S.kind,rfl,rfl,Í _,λ y z c h1 h2=>?_,λ y hy=>?_,λ y c _ h=>?_,λ _=>hd,Around.frames_deeper e0.frames,.inr ⟨rfl,rfl⟩,λ b z=>absurd z (Do b),e0.bs,e0.bsz,λ b _ _=>Do b,λ b z=>absurd z (Do b),e0.funs,e0.frf⟩,
  rfl,e0.bare,Un.kept hk,⟨_,x.toInCall.ns,λ i y v h1 h2 h3=>?_⟩,λ y c h=>⟨_,x.cell y c h⟩,e0.hok.fresh (Í _),λ y c h=>?_,λ p hp=>absurd (show p∈([]:List (Á×Obj)) from hp) (by simp),e0.hok.kept hk,?_⟩
 ·exact name_of_addr x.apart (İ h1) (İ h2)
 ·have hy:scope.names.lookup y=some .cell\/scope.names.lookup y=some .free:=hy;rcases hy with hy | hy
  ·exact CO hy
  ·exact absurd rfl (S.nofree _ (İ hy))
 ·exact Ĳ (x.above y c (İ h))
 ·have hi:i < vs.length:=by
   unfold pK at h2
   by_cases hi:i < vs.length
   ·exact hi
   ·rw[ű (by simpa using hi)] at h2;rw[List.getElem?_replicate] at h2
    split at h2 <;> cases h2
  have ha:vs[i]? = some v:=by
   unfold pK at h2;rw[Ų (by simpa using hi),Ø] at h2;cases e:vs[i]? with
   | none=>rw[e] at h2;cases h2
   | some a=>rw[e] at h2;cases h2;rfl
  obtain⟨u,hu,rv⟩:=r.get ha;have hp:ps[i]? = some y:=by
   rw[<- S.pre,List.getElem?_take_of_lt (by lia)];exact h1
  have ndP:ps.Nodup:=by rw[<- S.pre];exact S.nd.sublist (List.take_sublist _ _)
  refine⟨u,rv,?_⟩;rcases S.par y (Ó hp) with k | k
  ·exact .inl ⟨k,yA ndP hp hu k⟩
  ·obtain⟨c,e⟩:=CO (n:=s.heap.objs.size+1) k;refine .inr ⟨.inl k,c,e,?_⟩;have q:=x.cell y c e;rw[yC ndP hp hu (by show scope.names.lookup y≠_;rw[k];decide)] at q;exact q
 ·exact e0.hok.fresh (Ĳ (x.above y c (İ h)))
 ·unfold pK;show _=N.length;rw[â,Ê,List.length_replicate];lia
theorem R3 {CX:GW}{P:Ã}{w:World}{K:Ç}{mg:Str->Option À}{base:Heap}{k:Nat}{f:Á}{name qual:Str}{params:Arguments}{body:List Stmt}{scope:Scope}{dV kV doc pm iu ct oc:À}{an od:Option Á}
  {yf:Array (Option À)}{N ps:List Str}{sp:Sp} (lk:K.lookup f=some ⟨oc,od,.func (PySem.W.fnOf name qual params body scope dV kV doc pm an iu ct),yf⟩) (sj:PySem.W.codeIn K iu qual=true) (S:FnScope N ps scope)
  (len:∀ vs H Q E,sp vs H Q E->vs.length=ps.length)
  (qw:∀ (A:Around) (outer:List Env) (s:Â) (H:Hp) (vs:List V) (Q:VK) (E:XK),Room k (A.deeper (envOfC qual scope s.heap.objs.size f iu))->sp vs H Q E->
   ∃ t,ET (CM CX P w K mg base N qual scope f iu A outer s H E) body t/\t { nx:=λ _ H'=>Q .non H',rt:=Q } (pK N vs) H) :
  FnOk P w K mg base CX (k+1) f (PySem.W.fnOf name qual params body scope dV kV doc pm an iu ct) ps sp:=by
 refine⟨len,λ A outer s H args us vs Q E hr e0 hb r lh=>?_⟩;have hl:=len _ _ _ _ lh;have KX:K.In s.heap:=e0.mod.kin.keeps λ b o e=>(e0.bs b o e).1;have Pa:s.heap.NoLimit:=e0.mod.nolimit.keeps λ b o e=>(e0.bs b o e).1;have Dp:∀ y∈ps.zip us,scope.names.lookup y.1=some .local\/(scope.names.lookup y.1=some .cell/\((cellsFrom (s.heap.objs.size+1) scope.names []).lookup y.1).isSome=true):=λ ⟨n,v⟩ hy=>by
  rcases S.par n (agm hy).1 with q | q
  ·exact .inl q
  ·exact .inr ⟨q,agh _ _ _ (.inl q)⟩
 refine codeAny_call_function hr.depth (KX _ _ lk) rfl S.co S.gen rfl (PySem.W.codeRec_of KX sj) (hb _ _ _ _ ?_);refine wpAny_newFunctionEnv_cells S.kind Dp λ env he s1 x=>?_;subst he;refine⟨Pa.keeps x.toInCall.keep,codeAny_func ?_⟩;obtain⟨t,ht,hq⟩:=qw A outer s H vs Q E (hr.deeper _) lh;have I:Inv (CM CX P w K mg base N qual scope f iu A outer s H E) [] (pK N vs) H s1:=IM S hr.hd e0 hl r x;refine ò (ht [] s1 (pK N vs) H _ I hq) (λ fl s' hs=>?_) λ e s' hs=>hs;have fin:∀ {ac:St}{H':Hp}{v:V}{u:À},Inv (CM CX P w K mg base N qual scope f iu A outer s H E) [] ac H' s'->bH v u->Q v H'->CE outer P w H s Q u s':=
  λ {ac H' v u} J rv q=>⟨v,H',J.os,J.bare,J.base,J.hok,rv,q⟩
 cases fl with
 | ret u=>
  obtain⟨v,ac,H',J,rv,q⟩:=hs;exact fin J rv q
 | next=>
  obtain⟨ac,H',J,q⟩:=hs;exact fin (v:=V.non) (u:=Value.none) J rfl q
 | brk=>
  obtain⟨_,_,_,q⟩:=hs;exact False.elim q
 | cont=>
  obtain⟨_,_,_,q⟩:=hs;exact False.elim q
section
variable {X:Cx}{x:Str}{p pos:Pos}{e:Expr}{es:List Expr}{t:TA}{id T:String}{r:List V->Hp->VK->Prop}
def JN (r:List V->Hp->VK->Prop) (t:TA):TE:=λ σ H Q=>t σ H λ vs H1=>r vs H1 Q
theorem bE (hc:eY X (.builtin id) r) (hg:Gl X x) (hm:X.mg x=none) (hv:bootBuiltins x=some (.builtin id)) (ha:PA X (e::es) t) (hn:x ≠ "__name__" := by decide) (ye:(x == ("__debug__" : Str))=false:=by decide)
  (he:starEach (e::es) X.env=(false,eval e X.env)::starEach es X.env:=by exact wr0) (pe:(backTo pos (starEach es X.env)).any (·.1)=false:=by exact wr0):PE X (.Call (.Name x p) (e::es) [] pos) (JN r t):=by
 intro gn s σ H Q I h;refine Ŏ (oW I hg hm hv ?_ hn ye);exact PyProof.Rows.callWith_builtin1 (d8 (ha pos gn s σ H _ I h) λ us s1 ⟨vs,H1,I1,r1,q1⟩=>hc gn s1 σ H1 vs us Q I1 r1 q1) he pe
theorem aQ (hc:eY X (.type T) r) (hg:Gl X x) (hm:X.mg x=none) (hv:bootBuiltins x=some (.type T)) (ha:PA X (e::es) t) (hn:x ≠ "__name__" := by decide) (ye:(x == ("__debug__" : Str))=false:=by decide)
  (he:starEach (e::es) X.env=(false,eval e X.env)::starEach es X.env:=by exact wr0) (pe:(backTo pos (starEach es X.env)).any (·.1)=false:=by exact wr0):PE X (.Call (.Name x p) (e::es) [] pos) (JN r t):=by
 intro gn s σ H Q I h;refine Ŏ (oW I hg hm hv ?_ hn ye);exact ņ (d8 (ha pos gn s σ H _ I h) λ us s1 ⟨vs,H1,I1,r1,q1⟩=>hc gn s1 σ H1 vs us Q I1 r1 q1) he pe
end
end L2
namespace HT
open PySem PyProof.Rows
section
open PySem.SeqAt
open PySem.AutoSeq1 (wpAny_loadPart')
open PySem.MeetsSeq PySem.MeetsSeq2 PySem.MeetsSeq3
end
section
variable {prog:Ã}{A:Around}{E:À->Â->Prop}{s:Â}
theorem cat_tup {t b:Á}{vs ws:List À}{Q:À->Â->Prop} (ht:IsTup s.heap t vs.toArray) (hb:IsTup s.heap b ws.toArray) (hv:vs≠[])
  (h1:ws=[]->Q (.ref t) s) (h2:ws≠[]->Q (.ref s.heap.objs.size) { s with heap:=s.heap.push { cls:=.type "tuple",data:=.seq (vs++ws).toArray } })
  (hsz:vs.length+ws.length<=sizeLine):wpAny (model prog w) A (binaryOp .Add (.ref t) (.ref b)) Q E s:=by
 obtain⟨⟨cls,dd,data,sl⟩,ho,hc,n,hd⟩:=id ht;obtain⟨⟨Pb,Ce,data2,zt⟩,Am,Dq,n2,hd2⟩:=id hb;simp only at hc hd Dq hd2;subst hc hd Dq hd2;have e:vs.toArray++ws.toArray=(vs++ws).toArray:=by simp
 by_cases hw:ws=[]
 ·exact concat_meets ⟨_,ho,rfl⟩ ⟨_,Am,rfl⟩ noFill_tuple_add seq_tuple_add agi af4 (afs _ _)
   (tuple_addW1 t b vs.toArray ws.toArray n n2 dd Ce sl zt (by simpa using hv) (by simp [hw])) ⟨ho,Am,h1 hw⟩
 ·refine concat_meets ⟨_,ho,rfl⟩ ⟨_,Am,rfl⟩ noFill_tuple_add seq_tuple_add agi af4 (afs _ _)
   (tuple_addW2 t b vs.toArray ws.toArray n n2 dd Ce sl zt (by simpa using hv) (by simpa using hw) (by rw[Ú,Ú];exact hsz)) ⟨ho,Am,?_⟩
  rw[e];exact h2 hw
def sIx (n d:Nat):Option Int->Nat
 | none=>d
 | some v=>if v < 0 then (v+(n:Int)).toNat else min v.toNat n
theorem sIx_none (n d:Nat):sIx n d none=d:=rfl
theorem sIx_nat (n d k:Nat):sIx n d (some (k:Int))=min k n:=by
 show (if (k:Int) < 0 then ((k:Int)+(n:Int)).toNat else min (k:Int).toNat n)=min k n;rw[Ä (by lia),ĺ]
end
end HT
namespace L2
open PySem PySem.Spec PyProof.Rows
abbrev TO:=St->Hp->(Option Int->Hp->Prop)->Prop
def PO (X:Cx) (e:Option Expr) (t:TO):Prop:=
 ∀ (gn:List (Á×Obj)) (s:Â) (σ:St) (H:Hp) (Q:Option Int->Hp->Prop),Inv X gn σ H s->t σ H Q->
  wpAny (model X.prog X.w) X.A (evalPart e X.env) (λ u s'=>∃ o H',Inv X gn σ H' s'/\IsPart u o/\Q o H') X.xe s
def O2:TO:=λ _ H Q=>Q none H
def UH (t:TE):TO:=λ σ H Q=>t σ H λ x H1=>∃ i,x=.int i/\Q (some i) H1
theorem EJ {ns:List Int}:∀ {us:List À},bG (ns.map V.int) us->IntsAre us ns:=by
 induction ns with
 | nil=>intro us r;rw[ė] at r;cases r;exact .nil
 | cons n ns ih=>
  intro us r;rw[Ù] at r;cases r with
  | cons r1 r2=>
   obtain⟨t,e⟩:=r1;subst e;exact .cons n t (ih r2)
section
variable {X:Cx}{e:Expr}{te:TE}{lo hi:Option Expr}{tl th:TO}{pos p2:Pos}
theorem OM:PO X none O2:=by
 intro gn s σ H Q I h;rw[evalPart_none];exact Ë ⟨none,H,I,.none,h⟩
theorem OL (h:PE X e te):PO X (some e) (UH te):=by
 intro gn s σ H Q I hw;rw[evalPart_some];refine d8 (h gn s σ H _ I hw) λ u s1 ⟨x,H1,I1,r1,q1⟩=>?_;obtain⟨i,rfl,q⟩:=q1;obtain⟨t,rfl⟩:=r1;exact⟨some i,H1,I1,.int i t,q⟩
def SlR (X:Cx) (r:V->Option Int->Option Int->Hp->VK->Prop):Prop:=
 ∀ (gn:List (Á×Obj)) (s:Â) (σ:St) (H:Hp) (x:V) (v vl vu:À) (lo hi:Option Int) (sl:Á) (Q:VK),Inv X gn σ H s->bH x v->s.heap.IsSliceOf sl vl vu .none->IsPart vl lo->IsPart vu hi->r x lo hi H Q->
  ∃ T id,typeLookup (.type T) "__getitem__" = pure (some (.builtin id))/\s.TypeIs v T/\wpAny (model X.prog X.w) X.A (getItem v (.ref sl)) (EP X gn σ Q) X.xe s
def tSl (r:V->Option Int->Option Int->Hp->VK->Prop) (te:TE) (tl th:TO):TE:=λ σ H Q=>te σ H λ x H1=>tl σ H1 λ l H2=>th σ H2 λ u H3=>r x l u H3 Q
theorem LA {r:V->Option Int->Option Int->Hp->VK->Prop} (hr:SlR X r) (he:PE X e te) (hl:PO X lo tl) (hu:PO X hi th):PE X (.Subscript e (.Slice lo hi none p2) pos) (tSl r te tl th):=by
 intro gn s σ H Q I h;refine Subscript_ (d8 (he gn s σ H _ I h) λ v s1 ⟨x,H1,I1,r1,q1⟩=>?_);refine wpAny_Slice (d8 (hl gn s1 σ H1 _ I1 q1) λ vl s2 ⟨l,H2,I2,pl,q2⟩=>d8 (hu gn s2 σ H2 _ I2 q2) λ vu s3 ⟨u,H3,I3,pu,q3⟩=>?_);rw[evalPart_none];refine Ë ?_;have I4:Inv X gn σ H3 { s3 with heap:=s3.heap.push { cls:=.type "slice",data:=.fields #[vl,vu,.none] } }:=I3.kept (t':=s3.toks) λ b ob q=>Î _ q;obtain⟨T,id,hT,ht,hg⟩:=hr gn { s3 with heap:=s3.heap.push { cls:=.type "slice",data:=.fields #[vl,vu,.none] } } σ H3 x v vl vu l u s3.heap.objs.size Q I4 r1 (Heap.IsSliceOf.new ..) pl pu q3;show wpAny (model X.prog X.w) X.A (subscriptTail e (.Slice lo hi none p2) v (.ref s3.heap.objs.size)) (EP X gn σ Q) X.xe { s3 with heap:=s3.heap.push { cls:=.type "slice",data:=.fields #[vl,vu,.none] } };exact tail_any (ops:=[.ref s3.heap.objs.size,v]) ht hT hg (by with_unfolding_all rfl)
def EQ (xs:List V) (lo hi:Option Int):List V:=(xs.drop (HT.sIx xs.length 0 lo)).take (HT.sIx xs.length xs.length hi - HT.sIx xs.length 0 lo)
theorem CN (xs:List V) (lo hi:Option Int):(EQ xs lo hi).length<=xs.length:=by
 unfold EQ;rw[î,Œ];lia
def QS (K:Ç):R2:=λ x y H Q=>∃ a b xs ys,x=.ref a/\y=.ref b/\bS K H a xs/\bS K H b ys/\xs≠[]/\xs.length+ys.length<=sizeLine/\
 (ys=[]->Q (.ref a) H)/\(ys≠[]->∀ p,H p=none->Q (.ref p) (upd H p (.tup (xs++ys))))
theorem bG.nil_iff {xs:List V}{us:List À} (r:bG xs us):us=[]↔xs=[]:=by
 cases r with
 | nil=>simp
 | cons _ _=>simp
theorem OZ:iW X (binaryOp .Add) (QS X.K):=by
 intro gn s σ H x y v u Q I rx ry h;obtain⟨a,b,xs,ys,rfl,rfl,ha,hb,hx,hz,q1,q2⟩:=h;cases rx;cases ry;obtain⟨gx,r1,p1,_⟩:=I.tuple ha;obtain⟨kq,r2,p2,_⟩:=I.tuple hb;refine HT.cat_tup p1 p2 (λ z=>hx (r1.nil_iff.mp z)) (λ z=>⟨.ref a,H,I,rfl,q1 (r2.nil_iff.mp z)⟩) (λ z=>?_) (by rw[<- r1.length,<- r2.length];exact hz);refine⟨.ref s.heap.objs.size,_,I.laid (t':=s.toks) (o:=.tup (xs++ys)) (λ b ob q=>Î _ q) (Í _) ?_,rfl,q2 (λ w=>z (r2.nil_iff.mpr w)) _ (I.hok.fresh (Í _))⟩;exact⟨by rw[â];exact hz,_,r1.append r2,IsTup.new _ _⟩
end
def IL (n:Nat) (i:Int):Option Nat:=if 0<=i then (if i < n then some i.toNat else none) else if -(n:Int)<=i then some (i+n).toNat else none
def AO {ak:Type} (xs:List ak) (i:Int):Option ak:=(IL xs.length i).bind λ j=>xs[j]?
theorem GB {n:Nat}{i:Int}{j:Nat} (h:IL n i=some j):seqIndex? i n=some j/\j < n/\-(n:Int)<=i/\i < n:=by
 unfold IL at h
 by_cases h0:0<=i
 ·rw[Å h0] at h
  by_cases h1:i < n
  ·rw[Å h1] at h;have e:i.toNat=j:=ï h;exact⟨by rw[seqIndex_of h0 h1,e],by lia,by lia,h1⟩
  ·rw[Ä h1] at h;cases h
 ·rw[Ä h0] at h
  by_cases h1 : -(n:Int)<=i
  ·rw[Å h1] at h;have e:(i+n).toNat=j:=ï h;exact⟨by rw[seqIndex_neg (by lia) h1,e],by lia,h1,by lia⟩
  ·rw[Ä h1] at h;cases h
theorem AH {ak:Type}{xs:List ak}{i:Int}{v:ak} (h:AO xs i=some v):∃ j,seqIndex? i xs.length=some j/\xs[j]? = some v/\j < xs.length/\-(xs.length:Int)<=i/\i < xs.length:=by
 unfold AO at h;cases e:IL xs.length i with
 | none=>rw[e] at h;cases h
 | some j=>
  rw[e] at h;obtain⟨h1,h2,h3,h4⟩:=GB e;exact⟨j,h1,h,h2,h3,h4⟩
theorem eJ {ak:Type}{xs:List ak}{j:Nat}{v:ak} (h:xs[j]? = some v):AO xs (j:Int)=some v:=by
 have hj:j < xs.length:=(æ.mp h).1;have e:IL xs.length (j:Int)=some j:=by
  unfold IL;rw[Å (by lia),Å (by lia)];simp
 unfold AO;rw[e];exact h
theorem iF {ak:Type} (xs:List ak) (v:ak):AO (xs++[v]) (-1)=some v:=by
 have hl:(xs++[v]).length=xs.length+1:=by simp
 have e:IL (xs++[v]).length (-1)=some xs.length:=by
  unfold IL;rw[hl,Ä (by decide),Å (by lia)];congr 1;lia
 unfold AO;rw[e];show (xs++[v])[xs.length]? = some v;simp
def GT (b:Expr):Prop:=∀ o i,subscripted b false o i=operate [o,i] (getItem o i)
def NW (X:Cx) (r:R2):Prop:=
 ∀ (value slice:Expr) (gn:List (Á×Obj)) (s:Â) (σ:St) (H:Hp) (x y:V) (v u:À) (Q:VK),Inv X gn σ H s->bH x v->bH y u->r x y H Q->
  subscripted slice false v u=operate [v,u] (getItem v u)->wpAny (model X.prog X.w) X.A (subscriptTail value slice v u) (EP X gn σ Q) X.xe s
def NR (X:Cx) (id:String) (r:V->List V->Hp->VK->Prop):Prop:=
 ∀ (gn:List (Á×Obj)) (s:Â) (σ:St) (H:Hp) (x:V) (xs:List V) (v:À) (us:List À) (Q:VK),Inv X gn σ H s->bH x v->bG xs us->r x xs H Q->
  wpAny (model X.prog X.w) X.A (call (.builtin id) (v::us)) (EP X gn σ Q) X.xe s
section
variable {X:Cx}{a b:Expr}{ta tb:TE}{pos:Pos}
theorem NW.or {r r':R2} (h:NW X r) (h':NW X r'):NW X (λ x y H Q=>r x y H Q\/r' x y H Q):=by
 intro value slice gn s σ H x y v u Q I rx ry q hs;rcases q with q | q
 ·exact h value slice gn s σ H x y v u Q I rx ry q hs
 ·exact h' value slice gn s σ H x y v u Q I rx ry q hs
theorem V7 {r:R2} (hr:NW X r) (ha:PE X a ta) (hb:PE X b tb) (hs:GT b):PE X (.Subscript a b pos) (iJ r ta tb):=by
 intro gn s σ H Q I h;exact Subscript_ (TM ha hb I h λ v u s2 x y H2 I2 rx ry q=>hr a b gn s2 σ H2 x y v u Q I2 rx ry q (hs _ _))
def V0 (K:Ç):R2:=λ x y H Q=>∃ p xs i v,x=.ref p/\y=.int i/\aY K H p xs/\AO xs i=some v/\Q v H
def UY (K:Ç):R2:=λ x y H Q=>∃ p xs i v,x=.ref p/\y=.int i/\bS K H p xs/\AO xs i=some v/\Q v H
def UZ:R2:=λ x y H Q=>∃ z i c,x=.str z/\y=.int i/\z.length<=sizeLine/\AO z.cps.toList i=some c/\Q (.str ⟨#[c]⟩) H
theorem PX:NW X (V0 X.K):=by
 intro value slice gn s σ H x y v u Q I rx ry h hs;obtain⟨p,xs,i,z,rfl,rfl,hq,he,q⟩:=h;cases rx;obtain⟨t,rfl⟩:=ry;obtain⟨gx,r,pl,hz⟩:=I.list hq;obtain⟨j,h1,h2,h3,h4,h5⟩:=AH he;obtain⟨w,ew,so⟩:=r.get h2;have hl:=r.length;have hn:=oV;have fin:EP X gn σ Q w s:=⟨z,H,I,so,q⟩
 by_cases h0:0<=i
 ·have hj:i.toNat=j:=by
   rw[seqIndex_of h0 h5] at h1;exact ï h1
  exact item_listR pl.isList h0 (by lia) (by rw[hj];simpa using ew) fin hs
 ·have hj:(i+(gx.toArray.size:Int)).toNat=j:=by
   rw[seqIndex_neg (by lia) h4] at h1;rw[Ú,<- hl];exact ï h1
  exact subscriptTail_builtinR (x:=w) pl.isList.typeIs slot_list_getitem.lookup
   (wpAny_getItem_list_neg (Q:=λ r s'=>r=w/\EP X gn σ Q r s') pl.isList (by lia) (by rw[Ú] <;> lia) (by lia) (by rw[hj];simpa using ew) ⟨rfl,fin⟩) hs
theorem SW:NW X (UY X.K):=by
 intro value slice gn s σ H x y v u Q I rx ry h hs;obtain⟨p,xs,i,z,rfl,rfl,hq,he,q⟩:=h;cases rx;obtain⟨t,rfl⟩:=ry;obtain⟨gx,r,pl,hz⟩:=I.tuple hq;obtain⟨j,h1,h2,h3,h4,h5⟩:=AH he;obtain⟨w,ew,so⟩:=r.get h2;have hl:=r.length;have hn:=oV;have fin:EP X gn σ Q w s:=⟨z,H,I,so,q⟩;exact subscriptTail_builtinR (x:=w) pl.typeIs slot_tuple_getitem.lookup
  (getItem_tuple (j:=j) (Q:=λ r s'=>r=w/\EP X gn σ Q r s') pl (by lia) (by lia) (by rw[Ú,<- hl];exact h1) (by simpa using ew) ⟨rfl,fin⟩) hs
theorem SX:NW X UZ:=by
 intro value slice gn s σ H x y v u Q I rx ry h hs;obtain⟨z,i,c,rfl,rfl,hz,he,q⟩:=h;obtain⟨t,rfl⟩:=rx;obtain⟨t',rfl⟩:=ry;obtain⟨j,h1,h2,h3,h4,h5⟩:=AH he;have hl:z.cps.toList.length=z.length:=by simp [Str.length]
 rw[hl] at h1 h4 h5;have hn:=oV;exact tail_any (Ń s z t) slot_str_getitem.lookup (getItem_str (c:=c) (by
  have e1:decide (i < -(2 ^ 63:Int))=false:=ñ (by lia);have e2:decide (i ≥ 2 ^ 63)=false:=ñ (by lia);rw[e1,e2,Bool.or_false]) (by rw[h1];simpa using h2) ⟨.str ⟨#[c]⟩,H,I.tok _,⟨_,rfl⟩,q⟩) hs
def AM (K:Ç):R2:=λ x y H Q=>V0 K x y H Q\/UY K x y H Q\/UZ x y H Q
theorem SY:NW X (AM X.K):=PX.or (SW.or SX)
theorem EA (gx:List À) (n j:Nat) (u:À):Obj.mapSeq (·.setIfInBounds j u) { cls:=.type "list",data:=.seq gx.toArray n }={ cls:=.type "list",data:=.seq (gx.set j u).toArray n }:=by
 simp [Obj.mapSeq]
theorem Inv.lst {gn:List (Á×Obj)}{σ:St}{H:Hp}{s:Â}{p:Á}{xs:List V} (I:Inv X gn σ H s) (h:H p=some (.lst xs)) :
  ∃ (gx:List À) (n:Nat),bG xs gx/\s.heap.get? p=some { cls:=.type "list",data:=.seq gx.toArray n }/\xs.length<=sizeLine:=by
 obtain⟨z,gx,n,r,e⟩:=I.hok p _ h;exact⟨gx,n,r,e,z⟩
theorem Inv.lstUpd {gn:List (Á×Obj)}{σ:St}{H:Hp}{s:Â}{p:Á}{xs ys:List V}{gx its':List À}{n n':Nat}{f:Obj->Obj} (I:Inv X gn σ H s) (h:H p=some (.lst xs))
  (ho:s.heap.get? p=some { cls:=.type "list",data:=.seq gx.toArray n }) (hf:f { cls:=.type "list",data:=.seq gx.toArray n }={ cls:=.type "list",data:=.seq its'.toArray n' }) (r:bG ys its') (hz:ys.length<=sizeLine) (t:Nat) :
  Inv X gn σ (upd H p (.lst ys)) { s with heap:=s.heap.update p f,toks:=t }:=by
 have e:(s.heap.update p f).get? p=some { cls:=.type "list",data:=.seq its'.toArray n' }:=by
  rw[Ÿ f ho (by rw[hf] <;> rfl),hf]
 refine I.write (x:=p) (e:=p) (by rw[h];trivial) (.inl rfl) (λ b u hb q=>(Heap.get?_update_other _ _ (Ne.symm hb)).trans q) ⟨_,e⟩ ?_;exact⟨hz,its',n',r,e⟩
def B7:V->V->V->Hp->(Hp->Prop)->Prop:=λ o i v H Q=>∃ p xs k j,o=.ref p/\i=.int k/\H p=some (.lst xs)/\IL xs.length k=some j/\Q (upd H p (.lst (xs.set j v)))
theorem eO:TR X B7:=by
 intro gn s σ H o i v ov iv u Q I ro ri rv h;obtain⟨p,xs,k,j,rfl,rfl,hp,hj,q⟩:=h;cases ro;obtain⟨t,rfl⟩:=ri;obtain⟨gx,n,r,ho,hz⟩:=I.lst hp;obtain⟨h1,h2,h3,h4⟩:=GB hj;have hl:=r.length;have hn:=oV;have I':Inv X gn σ (upd H p (.lst (xs.set j v))) { s with heap:=s.heap.update p (Obj.mapSeq (·.setIfInBounds j u)) }:=
  I.lstUpd hp ho (EA gx n j u) (r.set rv j) (by rw[Ė];exact hz) s.toks
 by_cases h0:0<=k
 ·have hk:k.toNat=j:=by
   rw[seqIndex_of h0 h4] at h1;exact ï h1
  exact PySem.W.ki_setAt ho h0 (by lia) (by rw[Ú,<- hl];exact h4) (by rw[hk];exact⟨_,I',q⟩)
 ·have hk:(k+(gx.toArray.size:Int)).toNat=j:=by
   rw[seqIndex_neg (by lia) h3] at h1;rw[Ú,<- hl];exact ï h1
  exact PySem.W.ki_setBack ho (by lia) (by rw[Ú,<- hl];exact h3) (by lia) (by rw[hk];exact⟨_,I',q⟩)
theorem yU (lo hi:Option Int) (n:Nat):(sliceBounds lo hi none n).1=((HT.sIx n 0 lo:Nat):Int)/\(sliceBounds lo hi none n).2.1=((HT.sIx n n hi:Nat):Int)/\(sliceBounds lo hi none n).2.2=1:=by
 refine⟨?_,?_,rfl⟩
 ·cases lo with
  | none=>simp [sliceBounds,HT.sIx]
  | some i=>
   simp only [sliceBounds,HT.sIx,agb,show (1:Int) > 0 by decide,if_true]
   by_cases h:i < 0
   ·simp only [h,if_true] <;> lia
   ·simp only [h,if_false] <;> lia
 ·cases hi with
  | none=>simp [sliceBounds,HT.sIx]
  | some i=>
   simp only [sliceBounds,HT.sIx,agb,show (1:Int) > 0 by decide,if_true]
   by_cases h:i < 0
   ·simp only [h,if_true] <;> lia
   ·simp only [h,if_false] <;> lia
theorem wM (gx:List À) (lo hi:Option Int):slicePick gx.toArray lo hi none=((gx.drop (HT.sIx gx.length 0 lo)).take (HT.sIx gx.length gx.length hi - HT.sIx gx.length 0 lo)).toArray:=by
 obtain⟨h1,h2,h3⟩:=yU lo hi gx.toArray.size;unfold slicePick;rw[h1,h2,h3];simp only [sliceRange_one,pick_run,Ú] <;> rfl
def UU (K:Ç):V->Option Int->Option Int->Hp->VK->Prop:=λ x lo hi H Q=>∃ a xs,x=.ref a/\aY K H a xs/\∀ p,H p=none->Q (.ref p) (upd H p (.lst (EQ xs lo hi)))
theorem O6:SlR X (UU X.K):=by
 intro gn s σ H x v vl vu lo hi sl Q I rx hs pl pu h;obtain⟨a,xs,rfl,hx,q⟩:=h;cases rx;obtain⟨gx,r,ht,hz⟩:=I.list hx;have ij:=r.length;refine⟨"list",_,slot_list_getitem.lookup,ht.isList.typeIs,?_⟩;refine wpAny_getItem_list_slice ht.isList hs pl pu .none (by simp) ?_ (by rw[Ú] <;> lia);rw[wM,<- ij];refine⟨.ref s.heap.objs.size,_,I.laid (t':=s.toks) (o:=.lst (EQ xs lo hi)) (λ b ob q=>Î _ q) (Í _) ?_,rfl,q _ (I.hok.fresh (Í _))⟩;exact⟨ë (CN xs lo hi) hz,_,0,(r.drop (HT.sIx xs.length 0 lo)).take (HT.sIx xs.length xs.length hi - HT.sIx xs.length 0 lo),Ü _ rfl⟩
def lQ:V->Bool
 | .non=>true
 | .bl _=>true
 | .int _=>true
 | .str _=>true
 | _=>false
def D5:V->V->Bool
 | .non,.non=>true
 | .bl a,.bl b=>a == b
 | .bl a,.int b=>(if a then 1 else 0) == b
 | .int a,.bl b=>a == (if b then 1 else 0)
 | .int a,.int b=>a == b
 | .str a,.str b=>a == b
 | _,_=>false
theorem TH {A:Around}{s:Â}{y x:V}{u v:À} (ry:bH y u) (rx:bH x v) (fy:lQ y=true) (fx:lQ x=true):SeqAt.EqAt A s u v (D5 y x):=by
 cases y with
 | non=>
  cases ry;cases x with
  | non=>cases rx;exact ĵ _
  | bl b=>cases rx;exact SeqAt.EqAt.none_bool b
  | int b=>obtain⟨t,rfl⟩:=rx;exact SeqAt.EqAt.none_int b t
  | str b=>obtain⟨t,rfl⟩:=rx;exact SeqAt.EqAt.none_str b t
  | _=>exact absurd (show false=true from fx) ç
 | bl a=>
  cases ry;cases x with
  | non=>cases rx;exact SeqAt.EqAt.bool_none a
  | bl b=>cases rx;exact SeqAt.EqAt.bool_bool a b
  | int b=>obtain⟨t,rfl⟩:=rx;exact SeqAt.EqAt.bool_int a b t
  | str b=>obtain⟨t,rfl⟩:=rx;exact SeqAt.EqAt.bool_str a b t
  | _=>exact absurd (show false=true from fx) ç
 | int a=>
  obtain⟨t',rfl⟩:=ry;cases x with
  | non=>cases rx;exact SeqAt.EqAt.int_none a t'
  | bl b=>cases rx;exact SeqAt.EqAt.int_bool a t' b
  | int b=>obtain⟨t,rfl⟩:=rx;exact afh a t' b t
  | str b=>obtain⟨t,rfl⟩:=rx;exact SeqAt.EqAt.int_str a t' b t
  | _=>exact absurd (show false=true from fx) ç
 | str a=>
  obtain⟨t',rfl⟩:=ry;cases x with
  | non=>cases rx;exact SeqAt.EqAt.str_none a t'
  | bl b=>cases rx;exact SeqAt.EqAt.str_bool a t' b
  | int b=>obtain⟨t,rfl⟩:=rx;exact SeqAt.EqAt.str_int a t' b t
  | str b=>obtain⟨t,rfl⟩:=rx;exact afi a t' b t
  | _=>exact absurd (show false=true from fx) ç
 | _=>exact absurd (show false=true from fy) ç
def JO (x:V) (u:À):Bool:=match u with
 | .none=>D5 .non x
 | .bool b=>D5 (.bl b) x
 | .int i _=>D5 (.int i) x
 | .str z _=>D5 (.str z) x
 | _=>false
theorem AC {x y:V}{u:À} (r:bH y u) (f:lQ y=true):JO x u=D5 y x:=by
 cases y with
 | non=>cases r;rfl
 | bl b=>cases r;rfl
 | int i=>obtain⟨t,rfl⟩:=r;rfl
 | str z=>obtain⟨t,rfl⟩:=r;rfl
 | _=>exact absurd (show false=true from f) ç
theorem AJ {x:V}:∀ {xs:List V}{us:List À},bG xs us->xs.all lQ=true->us.any (JO x)=xs.any λ y=>D5 y x
 | _,_,.nil,_=>rfl
 | y::xs,u::us,.cons r t,f=>by
  rw[Ŗ,Ğ] at f;rw[ē,ē,AC r f.1,AJ t f.2]
theorem qS {A:Around}{s:Â}{x:V}{v:À} (rx:bH x v) (fx:lQ x=true):∀ {xs:List V}{us:List À},bG xs us->xs.all lQ=true->∀ u∈us,SeqAt.EqAt A s u v (JO x u)
 | _,_,.nil,_=>λ u hu=>by cases hu
 | y::xs,u::us,.cons r t,f=>λ u' hu=>by
  rw[Ŗ,Ğ] at f;rcases Ñ.mp hu with rfl | hu
  ·rw[AC r f.1];exact TH r rx f.1 fx
  ·exact qS rx fx t f.2 u' hu
def D4 (x:V) (xs:List V):Bool:=xs.any λ y=>D5 y x
def rIn (K:Ç) (neg:Bool):R2:=λ x y H Q=>∃ p xs,y=.ref p/\(aY K H p xs\/bS K H p xs)/\lQ x=true/\xs.all lQ=true/\Q (.bl (if neg then !D4 x xs else D4 x xs)) H
theorem HW:iW X (compareOp .In) (rIn X.K false):=by
 intro gn s σ H x y v u Q I rx ry h;obtain⟨p,xs,rfl,hq,fx,fs,q⟩:=h;cases ry;rcases hq with hq | hq
 ·obtain⟨gx,r,pl,hz⟩:=I.list hq;refine SeqAt.in_listAt (JO x) pl.isList (λ w hw=>qS rx fx r fs w (by simpa using hw)) ⟨.bl _,H,I,rfl,?_⟩;rw[show gx.toArray.any (JO x)=gx.any (JO x) by simp,AJ r fs];exact q
 ·obtain⟨gx,r,pl,hz⟩:=I.tuple hq;refine SeqAt.in_tupleAt (JO x) pl (λ w hw=>qS rx fx r fs w (by simpa using hw)) ⟨.bl _,H,I,rfl,?_⟩;rw[show gx.toArray.any (JO x)=gx.any (JO x) by simp,AJ r fs];exact q
theorem AF:eY X (.builtin "len") (λ xs H Q=>∃ p ys,xs=[.ref p]/\(aY X.K H p ys\/bS X.K H p ys)/\Q (.int ys.length) H):=by
 intro gn s σ H xs us Q I r h;obtain⟨p,ys,rfl,hq,q⟩:=h;obtain⟨u,rfl,rx⟩:=o6 r;cases rx;have hn:=oV;rcases hq with hq | hq
 ·obtain⟨gx,r',pl,hz⟩:=I.list hq;have ij:=r'.length;exact Calls.call_len_list pl.isList (by simp only [Ú] <;> lia) ⟨.int ys.length,H,I.tok _,⟨s.toks+1,by rw[Ú,ij]⟩,q⟩
 ·obtain⟨gx,r',pl,hz⟩:=I.tuple hq;have ij:=r'.length;exact len_tuple pl (by simp only [Ú] <;> lia) ⟨.int ys.length,H,I.tok _,⟨s.toks+1,by rw[Ú,ij]⟩,q⟩
theorem AE:eY X (.type "list") (λ xs H Q=>∃ p ys,xs=[.ref p]/\(aY X.K H p ys\/bS X.K H p ys)/\∀ l,H l=none->Q (.ref l) (upd H l (.lst ys))):=by
 intro gn s σ H xs us Q I r h;obtain⟨p,ys,rfl,hq,q⟩:=h;obtain⟨u,rfl,rx⟩:=o6 r;cases rx;have fin:∀ (gx:List À),bG ys gx->ys.length<=sizeLine->∀ (h':Heap) (c':Nat),(∀ b o',s.heap.get? b=some o'->h'.get? b=some o')->
   h'.get? s.heap.objs.size=some { cls:=.type "list",dict:=none,data:=.seq gx.toArray c',slots:=#[] }->EP X gn σ Q (.ref s.heap.objs.size) { s with heap:=h' }:=λ gx r' hz h' c' kp e=>
  ⟨.ref s.heap.objs.size,_,I.laid (t':=s.toks) kp (Í _) (show dP X.prog X.w _ h' _ (.lst ys) from ⟨hz,gx,c',r',e⟩),rfl,q _ (I.hok.fresh (Í _))⟩
 rcases hq with hq | hq
 ·obtain⟨gx,r',pl,hz⟩:=I.list hq;have ij:=r'.length;obtain⟨o,ho,hc,n,hd⟩:=pl.isList;exact call_list_seq p (.inl rfl) ho hc hd (λ h' c' kp e=>fin gx r' hz h' c' kp e) (by simp only [Ú] <;> lia)
 ·obtain⟨gx,r',pl,hz⟩:=I.tuple hq;have ij:=r'.length;obtain⟨o,ho,hc,n,hd⟩:=pl;exact call_list_seq p (.inr rfl) ho hc hd (λ h' c' kp e=>fin gx r' hz h' c' kp e) (by simp only [Ú] <;> lia)
theorem wV:eY X (.type "tuple") (λ xs H Q=>∃ p ys,xs=[.ref p]/\((aY X.K H p ys/\∀ l,H l=none->Q (.ref l) (upd H l (.tup ys)))\/(bS X.K H p ys/\Q (.ref p) H))):=by
 intro gn s σ H xs us Q I r h;obtain⟨p,ys,rfl,h⟩:=h;obtain⟨u,rfl,rx⟩:=o6 r;cases rx;rcases h with ⟨hq,q⟩ | ⟨hq,q⟩
 ·obtain⟨gx,r',pl,hz⟩:=I.list hq;have ij:=r'.length;refine call_tuple_list pl.isList (λ h' kp=>?_) (by simp only [Ú] <;> lia);have I1:Inv X gn σ H { s with heap:=h' }:=I.kept (t':=s.toks) kp;have I2:Inv X gn σ (upd H h'.objs.size (.tup ys)) { s with heap:=h'.push { cls:=.type "tuple",data:=.seq gx.toArray } }:=
   I1.laid (t':=s.toks) (λ b o e=>Î _ e) (Í _) (show dP X.prog X.w _ _ _ (.tup ys) from ⟨hz,gx,r',IsTup.new _ _⟩)
  exact⟨.ref h'.objs.size,_,I2,rfl,q _ (I1.hok.fresh (Í _))⟩
 ·obtain⟨gx,r',pl,hz⟩:=I.tuple hq;exact call_tuple_same pl ⟨.ref p,H,I,rfl,q⟩
def tyV (K:Ç) (T:String) (x:V) (H:Hp):Prop:=match x with
 | .str _=>T = "str"
 | .int _=>T = "int"
 | .ref p=>(T = "list" /\ ∃ xs,aY K H p xs)\/(T = "tuple" /\ ∃ o,K.lookup p=some o/\o.cls=.type "tuple" /\ o.dict=none)\/
   (T = "dict" /\ ((∃ gy,H p=some (.dK gy))\/∃ gy,H p=some (.dT gy)))\/(T = "set" /\ ∃ S n,H p=some (.set S n))
 | _=>False
theorem JW {gn:List (Á×Obj)}{σ:St}{H:Hp}{s:Â}{T:String}{x:V}{v:À} (I:Inv X gn σ H s) (r:bH x v) (ty:tyV X.K T x H) :
  s.TypeIs v T/\∀ a,v=.ref a->∃ ob,s.heap.get? a=some ob/\ob.dict=none:=by
 cases x with
 | str z=>
  obtain⟨t,rfl⟩:=r;cases (show T = "str" from ty);exact⟨Ń s z t,λ _ e=>nomatch e⟩
 | int i=>
  obtain⟨t,rfl⟩:=r;cases (show T = "int" from ty);exact⟨Ĺ s i t,λ _ e=>nomatch e⟩
 | ref p=>
  cases r;rcases ty with ⟨rfl,xs,hq⟩ | ⟨rfl,o,hk,hc,hd⟩ | ⟨rfl,hk⟩ | ⟨rfl,S,n,hk⟩
  ·obtain⟨gx,_,pl,_⟩:=I.list hq;refine⟨pl.isList.typeIs,λ a e=>?_⟩;cases e;obtain⟨o,n,e,c,hd,_⟩:=pl;exact⟨o,e,hd⟩
  ·refine⟨⟨o,I.kIn p o hk,hc⟩,λ a e=>?_⟩;cases e;exact⟨o,I.kIn _ o hk,hd⟩
  ·have z:∃ o,s.heap.get? p=some o/\o.ExactDict:=by
    rcases hk with ⟨gy,hk⟩ | ⟨gy,hk⟩
    ·obtain⟨_,_,_,_,o,_,_,e,ex,_⟩:=I.hok p _ hk;exact⟨o,e,ex⟩
    ·obtain⟨_,_,_,_,o,_,_,e,ex,_⟩:=I.hok p _ hk;exact⟨o,e,ex⟩
   obtain⟨o,e,ex⟩:=z;refine⟨⟨o,e,ex.1⟩,λ a e2=>?_⟩;cases e2;exact⟨o,e,ex.2.1⟩
  ·obtain⟨o,_,_,_,e,ex,_⟩:=I.hok p _ hk;refine⟨⟨o,e,ex.1⟩,λ a e2=>?_⟩;cases e2;exact⟨o,e,ex.2.1⟩
 | _=>exact False.elim ty
def UK (K:Ç) (T:String) (r:V->List V->Hp->VK->Prop) (to:TE):TE:=λ σ H Q=>to σ H λ x H1=>tyV K T x H1/\r x [] H1 Q
def tBM (K:Ç) (T:String) (r:V->List V->Hp->VK->Prop) (to:TE) (t:TA):TE:=λ σ H Q=>to σ H λ x H1=>tyV K T x H1/\t σ H1 λ xs H2=>r x xs H2 Q
variable {o e:Expr}{es:List Expr}{to:TE}{t:TA}{name:Str}{apos jd:Pos}{T id:String}{r:V->List V->Hp->VK->Prop}
theorem SB (pa:PlainAttrs T) (slot:Slot T name id) (yg:typeOf (.builtin id)=pure (.type "method_descriptor")) (hm:NR X id r) (ho:PE X o to)
  (lj:attributeBase o name X.env (eval o X.env)=eval o X.env:=by exact wr0) (lw:(apos.endLine == jd.line)=true:=by exact wr0):PE X (.Call (.Attribute o name apos) [] [] jd) (UK X.K T r to):=by
 intro gn s σ H Q I h;refine wpAny_Call_method0_late lj lw (d8 (ho gn s σ H _ I h) λ v s1 ⟨x,H1,I1,r1,ty,q1⟩=>?_);obtain⟨h1,h2⟩:=JW I1 r1 ty;exact⟨T,id,pa,slot,yg,h1,h2,Ŝ rfl (PySem.evalArgs_none (hm gn s1 σ H1 x [] v [] Q I1 r1 .nil q1))⟩
theorem QT (pa:PlainAttrs T) (slot:Slot T name id) (yg:typeOf (.builtin id)=pure (.type "method_descriptor")) (hm:NR X id r) (ho:PE X o to) (ha:PA X (e::es) t)
  (lj:attributeBase o name X.env (eval o X.env)=eval o X.env:=by exact wr0)
  (wg:((backTo jd (starEach (e::es) X.env)).all (λ x=>!x.1) && (backToKw jd (keywordEach [] X.env)).all (λ x=>x.1.isSome)
   && decide ((e::es).length+([]:List Keyword).length+(if ([]:List Keyword).isEmpty then 0 else 1) < 30))=true:=by exact wr0)
  (lw:(apos.endLine == jd.line)=true:=by exact wr0) (hs:starEach (e::es) X.env=(false,eval e X.env)::starEach es X.env:=by exact wr0) (ky:(backTo jd (starEach es X.env)).any (·.1)=false:=by exact wr0) :
  PE X (.Call (.Attribute o name apos) (e::es) [] jd) (tBM X.K T r to t):=by
 intro gn s σ H Q I h;refine wpAny_Call_method_late lj wg lw rfl (d8 (ho gn s σ H _ I h) λ v s1 ⟨x,H1,I1,r1,ty,q1⟩=>?_);obtain⟨h1,h2⟩:=JW I1 r1 ty;refine⟨T,id,pa,slot,yg,h1,h2,?_⟩;have hA:=ha jd gn s1 σ H1 _ I1 q1;rw[hs] at hA ⊢;refine Ŝ (by show (false || (backTo jd (starEach es X.env)).any (·.1))=false;rw[ky] <;> rfl) (ş ?_);exact d8 hA λ us s2 ⟨vs,H2,I2,r2,q2⟩=>hm gn s2 σ H2 x vs v us Q I2 r1 r2 q2
end
def TW (X:Cx) (id:String) (r:V->List V->Hp->VK->Prop):Prop:=
 ∀ (gn:List (Á×Obj)) (s:Â) (σ:St) (H:Hp) (x:V) (xs:List V) (v:À) (us:List À) (Q:VK),Inv X gn σ H s->bH x v->bG xs us->r x xs H Q->
  wpAny (model X.prog X.w) X.A (call (.builtin id) (v::us)) (EP X gn σ Q) X.xe s
theorem um {X:Cx}{id:String}{r:V->List V->Hp->VK->Prop} (h:TW X id r):NR X id r:=h
theorem rf {p:Prop} (h:p:=by with_unfolding_all exact rfl):p:=h
theorem bG.one {x:V}{us:List À} (h:bG [x] us):∃ u,us=[u]/\bH x u:=o6 h
theorem bG.two {x y:V}{us:List À} (h:bG [x,y] us):∃ u v,us=[u,v]/\bH x u/\bH y v:=QH h
theorem bG.zero:∀ {us:List À},bG [] us->us=[]
 | _,.nil=>rfl
theorem bG.eraseIdx:∀ {xs:List V}{us:List À} (i:Nat),bG xs us->bG (xs.eraseIdx i) (us.eraseIdx i)
 | _,_,_,.nil=>.nil
 | _,_,0,.cons _ t=>t
 | _,_,i+1,.cons r t=>.cons r (bG.eraseIdx i t)
theorem bG.rep {xs:List V}{us:List À} (h:bG xs us):∀ k:Nat,bG (List.replicate k xs).flatten (List.replicate k us).flatten
 | 0=>.nil
 | k+1=>by
  rw[ġ,ġ,Ő,Ő];exact bG.append h (bG.rep h k)
theorem xU {ak:Type}:∀ (l:List ak) (i:Nat),(l.eraseIdx i).length<=l.length
 | [],_=>Í _
 | _::_,0=>Nat.le_succ _
 | _::r,i+1=>Nat.succ_le_succ (xU r i)
theorem sC (gx:List À):∀ (k:Nat) (ji:List À),
  List.foldl (λ x1 x2=>x1++x2) ji.toArray (List.replicate k gx.toArray)=(ji++(List.replicate k gx).flatten).toArray
 | 0,ji=>by simp
 | k+1,ji=>by
  have e:ji.toArray++gx.toArray=(ji++gx).toArray:=by simp
  have e2:(ji++gx)++(List.replicate k gx).flatten=ji++(List.replicate (k+1) gx).flatten:=by
   rw[ġ,Ő,Ļ]
  rw[<- e2,<- sC gx k (ji++gx),<- e,ġ,List.foldl_cons]
section
variable {X:Cx}{gn:List (Á×Obj)}{σ:St}{H:Hp}{s:Â}{l b:Á}{xs ys zs:List V}
theorem Inv.lset {gx its':List À}{n:Nat}{f:Array À->Array À}{t':Nat} (I:Inv X gn σ H s) (hH:H l=some (.lst xs))
  (e:s.heap.get? l=some { cls:=.type "list",data:=.seq gx.toArray n }) (hf:f gx.toArray=its'.toArray) (hv:bG ys its') (hz:ys.length<=sizeLine) :
  Inv X gn σ (upd H l (.lst ys)) { s with heap:=s.heap.update l (Obj.mapSeq f),toks:=t' }:=by
 have q:=PySem.IsL.update e f;rw[hf] at q;refine I.write (x:=l) (e:=l) (by rw[hH];exact trivial) (.inl rfl) (λ b' u hb hu=>(Heap.get?_update_other s.heap (Obj.mapSeq f) (Ne.symm hb)).trans hu) ⟨_,q⟩ ?_;exact⟨hz,its',_,hv,q⟩
theorem Inv.lnew {gx:List À}{t':Nat} (I:Inv X gn σ H s) (hv:bG ys gx) (hz:ys.length<=sizeLine) :
  Inv X gn σ (upd H s.heap.objs.size (.lst ys)) { s with heap:=s.heap.push { cls:=.type "list",data:=.seq gx.toArray },toks:=t' }:=
 I.laid (λ _ _ q=>Î _ q) (Í _) ⟨hz,gx,0,hv,Ü _ rfl⟩
theorem Inv.fresh (I:Inv X gn σ H s):H s.heap.objs.size=none:=I.hok.fresh (Í _)
theorem Inv.lstM (I:Inv X gn σ H s) (hH:H l=some (.lst xs)):xs.length<=sizeLine/\∃ (gx:List À) (n:Nat),bG xs gx/\xs.length=gx.length/\s.heap.get? l=some { cls:=.type "list",data:=.seq gx.toArray n }:=by
 obtain⟨z,gx,n,r,e⟩:=I.hok l _ hH;exact⟨z,gx,n,r,r.length,e⟩
theorem qN {n:Nat} (h:n<=sizeLine):Builtin.List.listTooLong n=false:=by
 unfold Builtin.List.listTooLong;exact ñ (by lia)
end
section
variable {X:Cx}
def OH:V->List V->Hp->VK->Prop:=λ x vs H Q=>∃ l xs y,x=.ref l/\vs=[y]/\H l=some (.lst xs)/\xs.length < sizeLine/\Q .non (upd H l (.lst (xs++[y])))
theorem cD:TW X "list.append" OH:=by
 intro gn s σ H x vs v us Q I rx rv h;obtain⟨l,xs,y,rfl,rfl,hH,hz,q⟩:=h;cases rx;obtain⟨u,rfl,ru⟩:=rv.one;obtain⟨z,gx,n,r,hl,e⟩:=I.lstM hH;refine ą F.slot_list_append ⟨_,e,rfl⟩ F.entry_list_append (F.args_list_append_2 _ _) (PySem.list_append l gx.toArray n u (by rw[Ú];lia)) ⟨e,?_⟩;refine⟨.non,_,I.lset (its':=gx++[u]) hH e (by simp) (r.append (.cons ru .nil)) ?_,rfl,q⟩;rw[â,ģ];lia
def OF:V->List V->Hp->VK->Prop:=λ x vs H Q=>∃ l b xs zs,x=.ref l/\vs=[.ref b]/\H l=some (.lst xs)/\H b=some (.lst zs)/\xs.length+zs.length<=sizeLine/\Q .non (upd H l (.lst (xs++zs)))
theorem IF:TW X "list.extend" OF:=by
 intro gn s σ H x vs v us Q I rx rv h;obtain⟨l,b,xs,zs,rfl,rfl,hH,hB,hz,q⟩:=h;cases rx;obtain⟨u,rfl,ru⟩:=rv.one;cases ru;obtain⟨z,gx,n,r,hl,e⟩:=I.lstM hH;obtain⟨z2,kq,n2,r2,uj,e2⟩:=I.lstM hB;have hsz:gx.toArray.size+kq.toArray.size<=sizeLine:=by rw[Ú,Ú];lia
 have wj:¬ (!gx.toArray.isEmpty && Builtin.List.listTooLong (gx.toArray.size+kq.toArray.size))=true:=by
  rw[qN hsz,Bool.and_false];exact ç
 refine ą F.slot_list_extend ⟨_,e,rfl⟩ F.entry_list_extend (F.args_list_extend_2 _ _)
  (AutoSeq1.list_extend_list_list_0 l gx.toArray n b kq.toArray n2 wj (by rw[Ú];lia) (by lia)) ⟨e,e2,?_⟩
 refine⟨.non,_,I.lset (its':=gx++kq) hH e (by simp) (r.append r2) ?_,rfl,q⟩;rw[â];lia
def RU:V->List V->Hp->VK->Prop:=λ x vs H Q=>∃ l xs i k y,x=.ref l/\vs=[.int i]/\H l=some (.lst xs)/\-(2 ^ 63)<=i/\i < 2 ^ 63/\seqIndex? i xs.length=some k/\xs[k]? = some y/\Q y (upd H l (.lst (xs.eraseIdx k)))
theorem M9:TW X "list.pop" RU:=by
 intro gn s σ H x vs v us Q I rx rv h;obtain⟨l,xs,i,k,y,rfl,rfl,hH,h1,h2,hk,hy,q⟩:=h;cases rx;obtain⟨u,rfl,ru⟩:=rv.one;obtain⟨t,rfl⟩:=ru;obtain⟨z,gx,n,r,hl,e⟩:=I.lstM hH;obtain⟨w,hw,so⟩:=r.get hy;refine ą F.slot_list_pop ⟨_,e,rfl⟩ F.entry_list_pop (F.args_list_pop_2 _ _)
  (MeetsSeq.list_pop_at l gx.toArray n i t k w (fitsIndex_both h1 h2) (by rw[Ú,<- hl];exact hk) (by rw[<- Array.getElem?_toList];exact hw) (by rw[Ú];lia)) ⟨e,?_⟩
 refine⟨y,_,I.lset (its':=gx.eraseIdx k) hH e ?_ (r.eraseIdx k) ?_,so,q⟩
 ·show gx.toArray.eraseIdxIfInBounds k=(gx.eraseIdx k).toArray;rw[List.eraseIdxIfInBounds_toArray]
 ·have:=xU xs k;lia
def rCat:R2:=λ x y H Q=>∃ l b xs zs,x=.ref l/\y=.ref b/\H l=some (.lst xs)/\H b=some (.lst zs)/\xs.length+zs.length<=sizeLine/\∀ p,H p=none->Q (.ref p) (upd H p (.lst (xs++zs)))
theorem mS:iW X (binaryOp .Add) rCat:=by
 intro gn s σ H x y v u Q I rx ry h;obtain⟨l,b,xs,zs,rfl,rfl,hH,hB,hz,q⟩:=h;cases rx;cases ry;obtain⟨z,gx,n,r,hl,e⟩:=I.lstM hH;obtain⟨z2,kq,n2,r2,uj,e2⟩:=I.lstM hB;refine PySem.P.add_list e e2 ?_ (by rw[Ú,Ú];lia);have ea:gx.toArray++kq.toArray=(gx++kq).toArray:=by simp
 rw[ea];exact⟨.ref _,_,I.lnew (t':=s.toks) (r.append r2) (by rw[â];lia),rfl,q _ I.fresh⟩
def UV:R2:=λ x y H Q=>∃ l k xs,x=.ref l/\y=.int k/\H l=some (.lst xs)/\-(2 ^ 63)<=k/\k < 2 ^ 63/\xs.length * k.toNat<=sizeLine/\
 ∀ p,H p=none->Q (.ref p) (upd H p (.lst (List.replicate k.toNat xs).flatten))
theorem A5 {ak:Type} (xs:List ak) (k:Nat):(List.replicate k xs).flatten.length=k * xs.length:=by
 induction k with
 | zero=>simp
 | succ k ih=>rw[ġ,Ő,â,ih,Nat.succ_mul,Nat.add_comm]
theorem LJ:iW X (binaryOp .Mult) UV:=by
 intro gn s σ H x y v u Q I rx ry h;obtain⟨l,k,xs,rfl,rfl,hH,h1,h2,hz,q⟩:=h;cases rx;obtain⟨t,rfl⟩:=ry;obtain⟨z,gx,n,r,hl,e⟩:=I.lstM hH;have ij:gx.toArray.size * k.toNat<=sizeLine:=by rw[Ú,<- hl];exact hz
 have Pc:¬ gx.toArray.size * k.toNat > (2 ^ 63 - 1) / 8:=by
  have:(sizeLine:Nat)<=(2 ^ 63 - 1) / 8:=by decide
  lia
 have An:¬ (!Builtin.List.listFitsIndex k)=true:=by
  rw[fitsIndex_both h1 h2];exact ç
 have wj:¬ Builtin.List.listTooLong (gx.toArray.size * k.toNat)=true:=by
  rw[qN ij];exact ç
 have Pd:List.foldl (λ x1 x2=>x1++x2) #[] (List.replicate (if gx.toArray.isEmpty=true then 0 else k.toNat) gx.toArray)=(List.replicate k.toNat gx).flatten.toArray:=by
  have f0:∀ m:Nat,List.foldl (λ x1 x2=>x1++x2) #[] (List.replicate m gx.toArray)=(List.replicate m gx).flatten.toArray:=λ m=>by
   have:=sC gx m [];rw[Ŀ] at this;exact this
  rw[f0];cases gx with
  | nil=>simp
  | cons a r'=>rw[Ä (by simp)]
 refine ų (T := "list") (U := "int") (by decide) ⟨_,e,rfl⟩ (λ s'=>Ĺ s' k t) noFill_list_mul F.fills_int_mul ŀ repeat_list F.slot_int_index.lookup
  (ą ŀ (Ĺ s k t) agc (afu _ _) (int___rmul___int_list k t l gx.toArray n)
   ⟨e,rfl,⟨_,e,rfl⟩,ą F.slot_list_mul ⟨_,e,rfl⟩ F.entry_list_mul (F.args_list_mul_2 _ _) (AutoListH.list___mul___list_int_3 l gx.toArray n k t An Pc wj) ⟨e,?_⟩⟩)
 rw[Pd];exact⟨.ref _,_,I.lnew (t':=s.toks) (r.rep k.toNat) (by rw[A5,Nat.mul_comm];exact hz),rfl,q _ I.fresh⟩
end
section
variable {prog:Ã}{A:Around}{E:À->Â->Prop}{s:Â}
theorem HJ (gx kq:List À) (a c:Nat):gx.toArray.extract 0 a++kq.toArray++gx.toArray.extract c gx.toArray.size=(gx.take a++kq++gx.drop c).toArray:=by
 apply Array.toList_inj.mp
 first
  | (simp
     exact õ (by simp))
  | simp [õ]
  | simp
theorem ER {a c n:Nat} (Km:a<=c) (hc:c<=n):sliceBounds (some (a:Int)) (some (c:Int)) none n=((a:Int),(c:Int),1):=by
 simp only [sliceBounds,agb];have h1:¬ ((a:Int) < 0):=by lia
 have h2:¬ ((c:Int) < 0):=by lia
 simp only [h1,h2,if_false,show (1:Int) > 0 by decide,if_true];congr 1
 ·lia
 ·congr 1;lia
set_option maxRecDepth 100000 in
theorem wN {l b sl:Á}{items new:Array À}{n n2:Nat}{vl vu:À}{a c:Nat}{Q:Unit->Â->Prop}
  (e:s.heap.get? l=some { cls:=.type "list",data:=.seq items n }) (e2:s.heap.get? b=some { cls:=.type "list",data:=.seq new n2 }) (kr:l≠b)
  (hs:s.heap.IsSliceOf sl vl vu .none) (pl:IsPart vl (some (a:Int))) (pu:IsPart vu (some (c:Int))) (Km:a<=c) (hc:c<=items.size)
  (hsz:items.size+new.size<=sizeLine) (h:Q () { s with heap:=s.heap.update l (Obj.mapSeq λ xs=>xs.extract 0 a++new++xs.extract c xs.size) }) :
  wpAny (model prog w) A (setItem (.ref l) (.ref sl) (.ref b)) Q E s:=by
 have hl:s.heap.IsList l items:=PySem.IsL.isList e;have hb:s.heap.IsList b new:=PySem.IsL.isList e2;obtain⟨os,Kn,Dr,Pe⟩:=id hs;have hTs:s.TypeIs (.ref sl) "slice" := ⟨os,Kn,Dr⟩;have Ds:¬ ((rawPart none == rawInt 0)=true):=ç;have wk:Builtin.List.listSameRef (.ref l) (.ref b)=false:=by
  unfold Builtin.List.listSameRef;exact beq_eq_false_iff_ne.mpr kr
 have Pf:(max (a:Int) (c:Int)).toNat=c:=by lia
 have sr:((λ xs:Array À=>xs.extract 0 a++new++xs.extract c xs.size) items).size<=sizeLine+1:=by
  simp only [Array.size_append,Array.size_extract];lia
 unfold setItem
 try with_reducible refine ô ?_
 first | refine Æ (Ë ?_) | skip
 refine Æ (wpAny_sequenceKey hl.typeIs (by decide) ?_);refine Æ (ň (name:=Str.ofString "__setitem__") hl.typeIs slot_list_setitem
  (Ī slot_list_setitem hl.typeIs entry_list_setitem ?_ (args_list_setitem _ _ _)))
 show wpAny _ _ (Builtin.List.listSubscript? (.ref sl) >>= _) _ _ s;refine Æ ?_;unfold Builtin.List.listSubscript?;refine Æ (œ hTs slice_no_index ?_);simp only [Option.isNone_none,if_true];refine Ë ?_;show wpAny _ _ (typeOf (.ref sl) >>= _) _ _ s;refine Æ (wpAny_typeOf hTs ?_)
 first
  | rw[Ä (by decide)]
  | refine afj (by decide) ?_
 rw[listSliceParts_eq];refine Æ (Æ (ì Kn Pe (x:=.none) rfl (Æ (wpAny_listPart .none ?_))));rw[Ä Ds];refine Æ (ì Kn Pe (x:=vl) rfl (Æ (wpAny_listPart pl ?_)));refine Æ (ì Kn Pe (x:=vu) rfl (Æ (wpAny_listPart pu (Ë ?_))))
 first
  | simp only [wk,Ę,if_false]
  | refine afj wk ?_
  | (dsimp only
     rw[Ä (by rw[wk];exact ç)])
 refine Æ (m:=Builtin.List.listAllItems (.ref b) "must assign iterable to extended slice") ?_;unfold Builtin.List.listAllItems;refine Æ (wpAny_typeOf hb.typeIs ?_)
 first
  | refine PySem.W.KFB.if_so (by decide) ?_
  | rw[Å (by decide)]
  | simp only [agd,Bool.true_or,if_true]
 unfold Builtin.List.listItems;refine Æ (ÿ e2 rfl (Ë ?_));refine Æ (Æ (ÿ e rfl (Ë ?_)));refine Æ (wpAny_of_eq ((sliceIndices_raw (some (a:Int)) (some (c:Int)) none items.size (by simp)).trans (congrArg (pure:Int×Int×Int->Sem (Int×Int×Int)) (ER Km hc))) ?_);show wpAny _ _ (if ((1:Int) == 1)=true then _ else _) _ _ s;rw[Å (by decide)];refine Æ (Ĝ ?_)
 first
  | simp only [qN hsz,Ę,if_false]
  | refine afj (qN hsz) ?_
 first | refine Æ (Ë ?_) | skip
 show wpAny _ _ (updateSeq l (λ xs=>xs.extract 0 ((a:Int)).toNat++new++xs.extract (max (a:Int) (c:Int)).toNat xs.size) >>= _) _ _ s;rw[Pf,ĺ];refine Æ (wpAny_updateSeq (hz:=ë (ī _ _) hsz) (_hz':=sr) e rfl ?_);refine Æ (ğ ?_)
 first
  | exact Æ (Ë (Ë ⟨.none,rfl,Ë h⟩))
  | exact Ë ⟨.none,rfl,Ë h⟩
end
section
variable {X:Cx}
theorem HK {gn:List (Á×Obj)}{s:Â}{σ:St}{H:Hp}{l b sl:Á}{xs ys:List V}{a c:Int}{vl vu:À}{Q:Unit->Â->Prop} (I:Inv X gn σ H s)
  (hH:H l=some (.lst xs)) (hB:H b=some (.lst ys)) (kr:l≠b) (hs:s.heap.IsSliceOf sl vl vu .none) (ra:bH (.int a) vl) (rc:bH (.int c) vu) (h0:0<=a) (Km:a<=c) (hc:c<=xs.length)
  (hz:xs.length+ys.length<=sizeLine) (h:∀ s',Inv X gn σ (upd H l (.lst (xs.take a.toNat++ys++xs.drop c.toNat))) s'->Q () s') :
  wpAny (model X.prog X.w) X.A (setItem (.ref l) (.ref sl) (.ref b)) Q X.xe s:=by
 obtain⟨ta,rfl⟩:=ra;obtain⟨tc,rfl⟩:=rc;obtain⟨z,gx,n,r,hl,e⟩:=I.lstM hH;obtain⟨z2,kq,n2,r2,uj,e2⟩:=I.lstM hB;obtain⟨a',rfl⟩:=ú h0;obtain⟨c',rfl⟩:=ú (Int.le_trans h0 Km);simp only [ĺ] at h;refine wN (a:=a') (c:=c') e e2 kr hs (.int _ _) (.int _ _) (by lia) (by rw[Ú];lia) (by rw[Ú,Ú];lia) (h _ ?_);refine I.lset (its':=gx.take a'++kq++gx.drop c') (t':=s.toks) hH e ?_ (bG.append (bG.append (r.take _) r2) (r.drop _)) ?_
 ·exact HJ gx kq a' c'
 ·rw[â,â,î,Œ];lia
end
section
variable {be:Type}[DecidableEq be]
def fJ (gy:List (be×V)) (k:be):Option V:=(gy.find? λ kv=>decide (kv.1=k)).map (·.2)
def rP (gy:List (be×V)) (k:be) (v:V):List (be×V):=
 if (gy.any λ kv=>decide (kv.1=k))=true then gy.map (λ kv=>if kv.1=k then (kv.1,v) else kv) else gy++[(k,v)]
theorem eU {p:be×V}{r:List (be×V)}{k:be} (e:p.1=k):fJ (p::r) k=some p.2:=by simp [fJ,Ł,e]
theorem eV {p:be×V}{r:List (be×V)}{k:be} (e:¬ p.1=k):fJ (p::r) k=fJ r k:=by simp [fJ,Ł,e]
theorem pI (k:be):∀ gy:List (be×V),(gy.any λ kv=>decide (kv.1=k))=(fJ gy k).isSome
 | []=>rfl
 | p::r=>by
  rw[ē]
  by_cases e:p.1=k
  ·simp only [eU e,Û e,Bool.true_or,Option.isSome_some]
  ·rw[eV e,ñ e,agp];exact pI k r
theorem AW (k j:be) (y:V):∀ gy:List (be×V),fJ (gy.map λ kv=>if kv.1=k then (kv.1,y) else kv) j=(fJ gy j).map λ x=>if j=k then y else x
 | []=>rfl
 | p::r=>by
  have ih:=AW k j y r;rw[Ù]
  by_cases h:p.1=k
  ·rw[Å h]
   by_cases e:p.1=j
   ·rw[eU (p:=(p.1,y)) e,eU e,Ķ,Å (e.symm.trans h)]
   ·rw[eV (p:=(p.1,y)) e,eV e,ih]
  ·rw[Ä h]
   by_cases e:p.1=j
   ·rw[eU (p:=p) e,eU e,Ķ,Ä (λ z=>h (e.trans z))]
   ·rw[eV (p:=p) e,eV e,ih]
theorem xB (k j:be) (y:V):∀ gy:List (be×V),fJ gy k=none->fJ (gy++[(k,y)]) j=if j=k then some y else fJ gy j
 | [],_=>by
  by_cases e:k=j
  ·rw[Å e.symm];exact eU (p:=(k,y)) e
  ·rw[Ä (λ z=>e z.symm)];exact eV (p:=(k,y)) e
 | p::r,hn=>by
  rw[ũ];have hk:¬ p.1=k:=λ z=>by rw[eU z] at hn;cases hn
  rw[eV hk] at hn;have ih:=xB k j y r hn
  by_cases e:p.1=j
  ·rw[eU e,eU e,Ä (λ z=>hk (e.trans z))]
  ·rw[eV e,eV e,ih]
theorem JU (gy:List (be×V)) (k j:be) (y:V):fJ (rP gy k y) j=if j=k then some y else fJ gy j:=by
 unfold rP
 by_cases a:(gy.any λ kv=>decide (kv.1=k))=true
 ·rw[Å a,AW];rw[pI] at a
  by_cases e:j=k
  ·obtain⟨x,hx⟩:=Option.isSome_iff_exists.mp a;rw[Å e,e,hx,Ķ,Å rfl]
  ·rw[Ä e];cases fJ gy j with
   | none=>rfl
   | some x=>rw[Ķ,Ä e]
 ·rw[Ä a];refine xB k j y gy ?_;rw[pI] at a;cases q:fJ gy k with
  | none=>rfl
  | some x=>rw[q] at a;exact (a rfl).elim
theorem mW (gy:List (be×V)) (k:be) (v:V):(rP gy k v).length<=gy.length+1:=by
 unfold rP
 split
 ·rw[Ê];lia
 ·rw[â,á,List.length_nil];lia
theorem nF.isSome_eq {o:Option V}{u:Option À} (r:nF o u):o.isSome=u.isSome:=by
 cases o with
 | none=>cases u with
  | none=>rfl
  | some _=>exact (show False from r).elim
 | some _=>cases u with
  | none=>exact (show False from r).elim
  | some _=>rfl
theorem nF.getD {o:Option V}{u:Option À}{d:V}{d':À} (r:nF o u) (rd:bH d d'):bH (o.getD d) (u.getD d'):=by
 cases o with
 | none=>cases u with
  | none=>exact rd
  | some _=>exact (show False from r).elim
 | some _=>cases u with
  | none=>exact (show False from r).elim
  | some _=>exact r
theorem KV.val {gy:List (be×V)}{vs:List (be×À)} (r:KV gy vs) (k:be):nF (fJ gy k) (valueAt vs k):=by
 unfold KV at r
 induction r with
 | nil=>exact True.intro
 | @cons p q ps qs h t ih=>
  obtain⟨h1,h2⟩:=h
  by_cases e:p.1=k
  ·have e':q.1=k:=h1.symm.trans e;have b:valueAt (q::qs) k=some q.2:=by simp [valueAt,Ł,e']
   rw[eU e,b];exact h2
  ·have e':¬ q.1=k:=λ z=>e (h1.trans z);have b:valueAt (q::qs) k=valueAt qs k:=by simp [valueAt,Ł,e']
   rw[eV e,b];exact ih
theorem KV.any {gy:List (be×V)}{vs:List (be×À)} (r:KV gy vs) (k:be):(gy.any λ kv=>decide (kv.1=k))=vs.any λ kv=>decide (kv.1=k):=by
 unfold KV at r
 induction r with
 | nil=>rfl
 | cons h t ih=>rw[ē,ē,ih,h.1]
theorem KV.repl {gy:List (be×V)}{vs:List (be×À)} (r:KV gy vs) (k:be) {y:V}{u:À} (ry:bH y u) :
  KV (gy.map λ kv=>if kv.1=k then (kv.1,y) else kv) (vs.map λ kv=>if kv.1=k then (kv.1,u) else kv):=by
 unfold KV at r ⊢
 induction r with
 | nil=>exact .nil
 | @cons p q ps qs h t ih=>
  rw[Ù,Ù];refine .cons ?_ ih;obtain⟨h1,h2⟩:=h
  by_cases e:p.1=k
  ·rw[Å e,Å (h1.symm.trans e)];exact⟨h1,ry⟩
  ·rw[Ä e,Ä (λ z=>e (h1.trans z))];exact⟨h1,h2⟩
theorem KV.put {gy:List (be×V)}{vs:List (be×À)} (r:KV gy vs) (k:be) {y:V}{u:À} (ry:bH y u):KV (rP gy k y) (stored vs k u):=by
 unfold rP stored;rw[r.any k]
 by_cases e:(vs.any λ kv=>decide (kv.1=k))=true
 ·rw[Å e,Å e];exact r.repl k ry
 ·rw[Ä e,Ä e];exact Paired.snoc r ⟨rfl,ry⟩
theorem KV.length {gy:List (be×V)}{vs:List (be×À)} (r:KV gy vs):gy.length=vs.length:=ŭ r
end
theorem xV {P:Ã}{w:World}{k:fT}{u:À} (r:bH (kV k) u):(dM P w).is k u=true:=by
 cases k with
 | inl i=>obtain⟨t,e⟩:=(show ∃ t,u=Value.int i t from r);subst e;exact BQ P w i t
 | inr z=>cases z with
  | some x=>obtain⟨t,e⟩:=(show ∃ t,u=Value.str x t from r);subst e;exact BP P w x t
  | none=>obtain rfl:=(show u=Value.none from r);rfl
theorem xW {P:Ã}{w:World}:∀ {ks:List fT}{us:List À},bG (ks.map kV) us->ItemsAre (dM P w) ks us
 | [],_,r=>by rw[ė] at r;cases r;exact .nil
 | k::ks,_,r=>by
  rw[Ù] at r;cases r with
  | cons h t=>exact .cons (xV h) (xW t)
abbrev KT (H:Hp):List (List fT×V)->List (List fT×Á×À)->Prop:=Paired λ p q=>p.1=q.1/\H q.2.1=some (.tup (p.1.map kV))/\bH p.2 q.2.2
theorem KT.val {H:Hp}{gy:List (List fT×V)}{xs:List (List fT×Á×À)} (r:KT H gy xs) (k:List fT):nF (fJ gy k) ((atKey xs k).map (·.2)):=by
 induction r with
 | nil=>exact True.intro
 | @cons p q ps qs h t ih=>
  obtain⟨h1,_,h2⟩:=h
  by_cases e:p.1=k
  ·have e':q.1=k:=h1.symm.trans e;have b:atKey (q::qs) k=some q.2:=by simp [atKey,Ł,e']
   rw[eU e,b];exact h2
  ·have e':¬ q.1=k:=λ z=>e (h1.trans z);have b:atKey (q::qs) k=atKey qs k:=by simp [atKey,Ł,e']
   rw[eV e,b];exact ih
theorem KT.repl {H:Hp}{gy:List (List fT×V)}{xs:List (List fT×Á×À)} (r:KT H gy xs) (k:List fT) {y:V}{u:À} (ry:bH y u) :
  KT H (gy.map λ kv=>if kv.1=k then (kv.1,y) else kv) (xs.map (putAt k u)):=by
 induction r with
 | nil=>exact .nil
 | @cons p q ps qs h t ih=>
  rw[Ù,Ù];refine .cons ?_ ih;obtain⟨h1,h2,h3⟩:=h;unfold putAt
  by_cases e:p.1=k
  ·rw[Å e,Å (h1.symm.trans e)];exact⟨h1,h2,ry⟩
  ·rw[Ä e,Ä (λ z=>e (h1.trans z))];exact⟨h1,h2,h3⟩
theorem KT.put {H:Hp}{gy:List (List fT×V)}{xs:List (List fT×Á×À)} (r:KT H gy xs) (k:List fT) {b:Á}{y:V}{u:À} (hb:H b=some (.tup (k.map kV))) (ry:bH y u) :
  KT H (rP gy k y) (storedH xs k b u):=by
 have e:(gy.any λ kv=>decide (kv.1=k))=(atKey xs k).isSome:=by
  rw[pI,(r.val k).isSome_eq,Option.isSome_map]
 unfold rP storedH;rw[e]
 by_cases q:(atKey xs k).isSome=true
 ·rw[Å q,Å q];exact r.repl k ry
 ·rw[Ä q,Ä q];exact Paired.snoc r ⟨rfl,hb,ry⟩
theorem KT.keeps {H H':Hp}{gy:List (List fT×V)}{xs:List (List fT×Á×À)} (r:KT H gy xs) (ht:∀ b ys,H b=some (.tup ys)->H' b=some (.tup ys)):KT H' gy xs:=
 Paired.mapP r λ _ _ z=>⟨z.1,ht _ _ z.2.1,z.2.2⟩
section
variable {H:Hp}{h:Heap}{a:Á}
theorem QM {u:HO} (ok:pC P w H h) (e:Rd H a u):dP P w H h a u:=e.ok ok
theorem NE {gy:List (fT×V)} (ok:pC P w H h) (e:Rd H a (.dK gy)):gy.length<=sizeLine/\(a == sysModules)=false/\∃ vs,KV gy vs/\h.DictOf (dM P w) a vs:=
 show dP P w H h a (.dK gy) from QM ok e
theorem VP {gy:List (fT×V)} (ok:pC P w H h) (e:H a=some (.dK gy)):gy.length<=sizeLine/\(a == sysModules)=false/\∃ vs,KV gy vs/\h.DictOf (dM P w) a vs:=NE ok (.inl e)
theorem EG {ks:List fT} (ok:pC P w H h) (e:H a=some (.tup (ks.map kV))):(tupleKind (dM P w)).is h ks a:=by
 obtain⟨_,gx,r,o,h1,h2,n,h3⟩:=(show dP P w H h a (.tup (ks.map kV)) from ok a _ e);exact⟨o,gx.toArray,n,h1,h2,h3,by simpa using xW r⟩
theorem ND {gy:List (List fT×V)} (ok:pC P w H h) (e:Rd H a (.dT gy)):gy.length<=sizeLine/\(a == sysModules)=false/\
  ∃ xs,KT H gy xs/\h.DictOfH (tupleKind (dM P w)) a xs:=by
 obtain⟨z,y,xs,r,o,es,ep,h1,h2,h3,h4,h5⟩:=(show dP P w H h a (.dT gy) from QM ok e);refine⟨z,y,xs,r,o,es,ep,h1,h2,h3,h4,λ x hx=>?_,h5⟩;have all:∀ {l:List (List fT×V)}{m:List (List fT×Á×À)},KT H l m->∀ x∈m,(tupleKind (dM P w)).is h x.1 x.2.1:=by
  intro l m q
  induction q with
  | nil=>intro x hx;exact nomatch hx
  | @cons p q ps qs hq t ih=>
   intro x hx;rcases Ñ.mp hx with e | hx
   ·subst e;exact EG ok (by rw[<- hq.1];exact hq.2.1)
   ·exact ih x hx
 exact all r x hx
theorem VO {gy:List (List fT×V)} (ok:pC P w H h) (e:H a=some (.dT gy)):gy.length<=sizeLine/\(a == sysModules)=false/\
  ∃ xs,KT H gy xs/\h.DictOfH (tupleKind (dM P w)) a xs:=ND ok (.inl e)
end
def EU (H:Hp) (a:Á) (y:V) (r:Option V):Prop:=
 (∃ gy k,Rd H a (.dK gy)/\y=kV k/\r=fJ gy k)\/∃ gy k b,Rd H a (.dT gy)/\y=.ref b/\H b=some (.tup (k.map kV))/\r=fJ gy k
def NS (H:Hp) (a:Á) (y v:V) (H':Hp):Prop:=
 (∃ gy k,H a=some (.dK gy)/\y=kV k/\gy.length < sizeLine/\H'=upd H a (.dK (rP gy k v)))\/
 ∃ gy k b,H a=some (.dT gy)/\y=.ref b/\H b=some (.tup (k.map kV))/\gy.length < sizeLine/\H'=upd H a (.dT (rP gy k v))
theorem EU.k {H:Hp}{a:Á}{gy:List (fT×V)}{k:fT} (e:H a=some (.dK gy)):EU H a (kV k) (fJ gy k):=.inl ⟨gy,k,.inl e,rfl,rfl⟩
theorem NS.k {H:Hp}{a:Á}{gy:List (fT×V)}{k:fT}{v:V} (e:H a=some (.dK gy)) (hl:gy.length < sizeLine):NS H a (kV k) v (upd H a (.dK (rP gy k v))):=.inl ⟨gy,k,e,rfl,hl,rfl⟩
section
variable {X:Cx}{gn:List (Á×Obj)}{σ:St}{H:Hp}{s:Â}{a:Á}{y v:V}{u r:À}{o:Option V}{A:Around}{E:À->Â->Prop}
theorem Inv.big (I:Inv X gn σ H s):sysModules < s.heap.objs.size:=by
 have h:mainGlobals < s.heap.objs.size:=(I.mod.glob.keeps I.bk).lt;exact Nat.lt_trans (by decide) h
theorem GM {h':Heap}{t':Nat}{ob:HO} (I:Inv X gn σ H s) (mu:lS (H a)) (hs:Heap.SameBut a s.heap h') (he:∃ q,h'.get? a=some q) (new:dP X.prog X.w (upd H a ob) h' a ob) :
  Inv X gn σ (upd H a ob) { s with heap:=h',toks:=t' }:=
 I.write (x:=a) (e:=a) mu (.inl rfl) (λ b q hb z=>(hs.2 b hb).trans z) he new
theorem TJ {P:Ã}{w:World}{H':Hp}{h':Heap}{gy:List (fT×V)}{vs:List (fT×À)} (z:gy.length<=sizeLine) (hd:(a == sysModules)=false) (rel:KV gy vs) (dd:h'.DictOf (dM P w) a vs) :
  dP P w H' h' a (.dK gy):=⟨z,hd,vs,rel,dd⟩
theorem IY {H':Hp}{Q:Unit->Â->Prop} (hu:A.units+1 < cLine) (I:Inv X gn σ H s) (g:NS H a y v H') (ry:bH y u) (rv:bH v r) (h:∀ s',Inv X gn σ H' s'->Q () s') :
  wpAny (model X.prog X.w) A (setItem (.ref a) u r) Q E s:=by
 rcases g with ⟨gy,k,e,ey,l,eH⟩ | ⟨gy,k,b,e,ey,eb,l,eH⟩
 ·subst ey eH;obtain⟨z,hd,vs,rel,dd⟩:=VP I.hok e;have hz:vs.length<=sizeLine:=by rw[<- rel.length];exact z
  have hl:(rP gy k v).length<=sizeLine:=by have:=mW gy k v;lia
  refine wpAny_setItem_pairs (hsz:=hz) (xV ry) dd λ h' Ko hs=>h _ ?_;have he:∃ q,h'.get? a=some q:=let ⟨q,_,_,hq,_⟩:=Ko;⟨q,hq⟩;exact GM I (by rw[e];exact True.intro) hs he (TJ hl hd (rel.put k rv) Ko)
 ·subst ey eH;cases (show u=Value.ref b from ry);obtain⟨z,hd,xs,rel,dd⟩:=VO I.hok e;have hz:xs.length<=sizeLine:=by rw[<- ŭ rel];exact z
  have hl:(rP gy k v).length<=sizeLine:=by have:=mW gy k v;lia
  refine wpAny_setItem_heap (hsz:=hz) (tupleKind_room_in1 hu) (EG I.hok eb) dd λ h' Ko hs=>h _ ?_;obtain⟨q,es,ep,hq,h2,h3,h4,_,h5⟩:=Ko;refine GM I (by rw[e];exact True.intro) hs ⟨q,hq⟩ ⟨hl,hd,_,(rel.put k eb rv).keeps λ c ys ec=>?_,q,es,ep,hq,h2,h3,h4,h5⟩;rw[aM (QV ec e (λ z=>nomatch z))];exact ec
end
section
variable {X:Cx}{gn:List (Á×Obj)}{σ:St}{H:Hp}{s:Â}{a:Á}{gy:List (fT×V)}{k:fT}{u:À}{A:Around}{E:À->Â->Prop}
end
def VW (i:Expr):Prop:=∀ ov iv,subscripted i false ov iv=operate [ov,iv] (getItem ov iv)
theorem O4 {prog:Ã}{w:World}{A:Around}{E:À->Â->Prop}{s:Â}{env:Env}{value slice:Expr}{pos:Pos}{T id:String}{Q:À->Â->Prop}
  (hl:typeLookup (.type T) "__getitem__" = pure (some (.builtin id))) (hs:VW slice)
  (h:wpAny (model prog w) A (eval value env) (λ o aj=>wpAny (model prog w) A (eval slice env) (λ i bx=>bx.TypeIs o T/\wpAny (model prog w) A (getItem o i) Q E bx) E aj) E s) :
  wpAny (model prog w) A (eval (.Subscript value slice pos) env) Q E s:=by
 refine Subscript_ (ò h (λ o aj h₁=>ò h₁ (λ i bx ap=>?_) λ _ _ x=>x) λ _ _ x=>x);obtain⟨hT,ap⟩:=ap;unfold subscriptTail;refine Æ ?_;rw[getitemInPython_of_ne hT.not_modules];refine Æ (œ hT hl ?_);have fin:wpAny (model prog w) A (subscripted slice false o i) (λ r bz=>wpAny (model prog w) A (letTemporaryGo value o r >>= λ _=>pure r) Q E bz) E bx:=by
  rw[hs o i];exact wpAny_operating (ò ap (λ r bz am=>Æ (wpAny_letTemporaryGo (Ë am))) λ _ _ x=>x)
 first
  | exact Ë (Æ fin)
  | exact Æ (Ë (Æ fin))
  | exact Æ fin
def US (td ty tv:TE):TS:=λ D σ H=>tv σ H λ v H1=>td σ H1 λ x H2=>ty σ H2 λ y H3=>∃ a H4,x=.ref a/\NS H3 a y v H4/\D.nx σ H4
section
variable {X:Cx}{o i e value:Expr}{pos pos' Al:Pos}{td ty tv:TE}
theorem OJ (hu:X.A.units+1 < cLine) (ho:PE X o td) (hi:PE X i ty) (hv:PE X value tv) (hs:swapsWith value (some (.Subscript o i pos')) pos.line X.env=pure false) :
  PS X (.Assign [.Subscript o i pos'] value pos) (US td ty tv):=by
 intro gn s σ H D I h;refine wpAny_Assign_Subscript (d8 (hv gn s σ H _ I h) λ r s1 ⟨v,H1,I1,rv,q1⟩=>d8 (ho gn s1 σ H1 _ I1 q1) λ u s2 ⟨x,H2,I2,rx,q2⟩=>d8 (hi gn s2 σ H2 _ I2 q2) λ iv s3 ⟨y,H3,I3,ry,a,H4,ex,g,q3⟩=>?_) hs;subst ex;obtain rfl:u=Value.ref a:=rx;exact IY hu I3 g ry rv λ s4 I4=>⟨σ,H4,I4,q3⟩
end
theorem NF {P:Ã}{w:World}{H:Hp} (h:Heap) (hb:sysModules < h.objs.size):dP P w H (h.push { cls:=.type "dict",data:=.dict #[] }) h.objs.size (.dK []):=
 ⟨ê _,beq_eq_false_iff_ne.mpr (Ne.symm (é hb)),[],.nil,Heap.DictOf.new h⟩
def RJ:TE:=λ _ H Q=>∀ p,H p=none->Q (.ref p) (upd H p (.dK []))
section
variable {X:Cx}{pos:Pos}
theorem LE:PE X (.Dict [] [] pos) RJ:=λ gn s σ H Q I h=>
 wpAny_Dict_empty ⟨.ref s.heap.objs.size,_,I.laid (a:=s.heap.objs.size) (o:=.dK []) (t':=s.toks) (λ _ _ q=>Î _ q) (Í _) (NF s.heap I.big),rfl,h _ (I.hok.fresh (Í _))⟩
end
structure M2 (X:Cx) (o:Expr) (m:Str) (apos:Pos) (e f:Expr) (jd:Pos):Prop where
 base:attributeBase o m X.env (eval o X.env)=eval o X.env
 few:((backTo jd (starEach [e,f] X.env)).all (λ x=>!x.1) && (backToKw jd (keywordEach [] X.env)).all (λ x=>x.1.isSome)
  && decide (([e,f]:List Expr).length+([]:List Keyword).length+(if ([]:List Keyword).isEmpty then 0 else 1) < 30))=true
 line:(apos.endLine == jd.line)=true
 trees:backTo jd (starEach [e,f] X.env)=[(false,eval e X.env),(false,eval f X.env)]
def IsD (H:Hp) (a:Á):Prop:=(∃ gy,Rd H a (.dK gy))\/∃ gy,Rd H a (.dT gy)
theorem T7 {X:Cx}{gn:List (Á×Obj)}{σ:St}{H:Hp}{s:Â}{a:Á} (I:Inv X gn σ H s) (d:IsD H a) :
  s.TypeIs (.ref a) "dict" /\ (∀ b,Value.ref a=.ref b->∃ ob,s.heap.get? b=some ob/\ob.dict=none)/\(a == sysModules)=false:=by
 rcases d with ⟨gy,e⟩ | ⟨gy,e⟩
 ·obtain⟨_,hd,vs,_,dd⟩:=NE I.hok e;refine⟨dd.typeIs,λ b q=>?_,hd⟩;cases q;obtain⟨ob,_,_,h1,h2,_⟩:=dd;exact⟨ob,h1,h2.2.1⟩
 ·obtain⟨_,hd,xs,_,dd⟩:=ND I.hok e;refine⟨dd.typeIs,λ b q=>?_,hd⟩;cases q;obtain⟨ob,_,_,h1,h2,_⟩:=dd;exact⟨ob,h1,h2.2.1⟩
section
variable {X:Cx}{gn:List (Á×Obj)}{σ:St}{H:Hp}{s:Â}{a:Á}{y d:V}{u r:À}{o:Option V}{A:Around}{E:À->Â->Prop}
theorem TL {Q:À->Â->Prop} (hu:A.units+1 < cLine) (I:Inv X gn σ H s) (g:EU H a y o) (ry:bH y u) (rd:bH d r) (h:∀ w' s',Inv X gn σ H s'->bH (o.getD d) w'->Q w' s') :
  wpAny (model X.prog X.w) A (call (.builtin "dict.get") [.ref a,u,r]) Q E s:=by
 rcases g with ⟨gy,k,e,ey,l⟩ | ⟨gy,k,b,e,ey,eb,l⟩
 ·subst ey;obtain⟨z,hd,vs,rel,dd⟩:=NE I.hok e;refine call_meetsIn Ŋ dd.typeIs ŷ (Ŵ _ _ _) (meets_dict_get_default (dM X.prog X.w) a (xV ry) hd r) ⟨_,dd.mapOf,h _ _ (I.tok _) ?_⟩;rw[l];exact (rel.val k).getD rd
 ·subst ey;cases (show u=Value.ref b from ry);obtain⟨z,hd,xs,rel,dd⟩:=ND I.hok e;refine call_meetsIn Ŋ dd.typeIs ŷ (Ŵ _ _ _) (meetsH_dict_get_default (tupleKind (dM X.prog X.w)) a b hd r) ⟨tupleKind_room_in1 hu,k,xs,EG I.hok eb,dd,h _ _ (I.tok _) ?_⟩;rw[l];exact (rel.val k).getD rd
end
def RK (td ty tx:TE):TE:=λ σ H Q=>td σ H λ x H1=>∃ a,x=.ref a/\IsD H1 a/\ty σ H1 λ y H2=>tx σ H2 λ z H3=>∃ o,EU H3 a y o/\Q (o.getD z) H3
section
variable {X:Cx}{o e f:Expr}{apos jd:Pos}{td ty tx:TE}
theorem vD (hu:X.A.units+1 < cLine) (ho:PE X o td) (he:PE X e ty) (hf:PE X f tx) (m:M2 X o "get" apos e f jd):PE X (.Call (.Attribute o "get" apos) [e,f] [] jd) (RK td ty tx):=by
 intro gn s σ H Q I h;refine wpAny_Call_method m.base m.few m.line af5 Ŋ PySem.F.type_dict_get (d8 (ho gn s σ H _ I h) λ u s1 ⟨x,H1,I1,rx,a,ex,d,q1⟩=>?_);subst ex;obtain rfl:u=Value.ref a:=rx;obtain⟨t1,t2,_⟩:=T7 I1 d;refine⟨t1,t2,?_⟩;rw[m.trees];refine Ŝ rfl (ş (ō (d8 (he gn s1 σ H1 _ I1 q1) λ iv s2 ⟨y,H2,I2,ry,q2⟩=>
  ō (d8 (hf gn s2 σ H2 _ I2 q2) λ fv s3 ⟨z,H3,I3,rz,ov,g,q3⟩=>afr ?_))))
 exact TL hu I3 g ry rz λ w' s4 I4 so=>⟨_,H3,I4,so,q3⟩
end
section
variable {X:Cx}{gn:List (Á×Obj)}{σ:St}{H:Hp}{s:Â}{a:Á}{gy:List (fT×V)}{A:Around}{E:À->Â->Prop}
end
section
variable {X:Cx}{gn:List (Á×Obj)}{σ:St}{H:Hp}{s:Â}{a:Á}{y:V}{u:À}{A:Around}{E:À->Â->Prop}
end
end L2
namespace Att
open PySem PySem.W PySem.Calls PyProof.Rows
theorem tL {P:Params}{h:Heap}:∀ (ns:List Int) (vs:List À),WellAll P h vs (ns.map WData.int)->IntsAre vs ns:=by
 intro ns
 induction ns with
 | nil=>
  intro vs w;rw[ė] at w;cases w;exact .nil
 | cons n ns ih=>
  intro vs w;rw[Ù] at w;cases w with
  | cons a b=>
   cases a;exact .cons _ _ (ih _ b)
theorem HL {l:OpenLaw}{n:Nat} (hn:l.most=some n) {P:Params}{h:Heap}{args:List WData}{vals:List À}
  (yi:l.row.toRowW.claim.pre args=true) (mx:WellAll P h vals args) :
  ∃ a vs ns,vals=[Value.ref a]/\args=[WData.list (ns.map WData.int)]/\h.get? a=some { cls:=.type "list",data:=.seq vs.toArray }/\IntsAre vs ns/\ns.length<=n:=by
 have hsh:WShape.hasAll [] args [.list .int]=true:=(pre_splitW yi).1;have hc:l.pre.holds [] { args:=args }=true:=(pre_splitW yi).2;obtain⟨d,r,rfl,h1,h2⟩:=hasAllW_cons hsh;obtain rfl:=hasAllW_nil h2;obtain⟨xs,rfl,h3⟩:=hasW_list h1;obtain⟨ns,rfl⟩:=items_int h3;have ij:ns.length<=n:=by
  unfold OpenLaw.pre at hc;have h4:(WTm.not (.lt (.lit (.int (n:Int))) (.len (.arg 0)))).holds [] { args:=[.list (ns.map .int)] }=true:=by
   have h4:=(holds_andW hc).1;rw[hn] at h4;exact h4
  have h5:=condW_of h4 (w_not (w_lt w_lit (w_len_list (w_arg rfl))));rw[Ê] at h5;refine Nat.le_of_not_lt λ q=>?_;have q':(n:Int) < ((ns.length:Nat):Int):=by lia
  first
   | (rw[Û q'] at h5;exact absurd h5 (by decide))
   | (simp at h5;lia)
 cases mx with
 | cons w1 w2=>
  cases w2;cases w1 with
  | list ho ml=>exact⟨_,_,ns,rfl,rfl,ho,tL ns _ ml,ij⟩
theorem HS (l:OpenLaw) (args:List WData):l.row.toRowW.claim.post args (.bool true) args=true:=
 postW_of (r:=l.row.toRowW) (X:=(true == true))
  (show WShape.has [] (.bool true) .bool=true by first | rfl | decide | simp [WShape.has,WShape.arms,WShape.armsAll])
  (show (WTm.eq .res (.lit (.bool true))).value [] { args:=args,res:=some (.bool true),after:=args }=some (.bool (true == true)) from w_eq_bool (w_res rfl) w_lit) rfl
theorem attach_call {l:OpenLaw}{n:Nat}{q:Ã}{loose:List Str}{XP:(Str->Option À)->Heap->Prop}{YP:World->Heap->Prop}{d:DefRec}
  (hn:l.most=some n) (Dt:d.params.defaults=[])
  (call:∀ (w:World) (s₀ aj:Â) (mg mb:Str->Option À) (fa:Á) (o:Obj) (pm cd doc:À) (a:Á) (vs:List À) (ns:List Int),
   Ground q loose [] XP w s₀ mg mb aj.heap->YP w aj.heap->
   aj.heap.get? fa=some o->o.data=.func (docDef d.name d.params d.body d.scope pm cd doc)->aj.heap.CodeRec cd d.name->mg d.name=some (.ref fa)->
   aj.heap.get? a=some { cls:=.type "list",data:=.seq vs.toArray }->IntsAre vs ns->ns.length<=n->aj.gens = #[]->
   codeAny (model l.prog w) callerA (.call (.ref fa) ⟨[.ref a],[]⟩) (λ r s'=>r=.ok (.ret (.bool true))/\OldK aj.heap s'.heap/\s'.os=aj.os/\AllBare s'.gens) aj) :
  WalkO q loose XP YP l.row.toRowW d [] (λ f vs=>PySem.call f vs):=by
 intro w s₀ aj mg mb G Y fa o pm cd doc dV kV ho hd sj hD Du hg args vals as yi hlay Cf mx Ao;obtain rfl:dV=.none:=Dflts.none hD Dt;obtain rfl:kV=.none:=Dflts.noKw hD;obtain⟨a,vs,ns,rfl,rfl,Ap,hints,ij⟩:=HL hn yi mx;refine enter_call (ů (call w s₀ aj mg mb fa o pm cd doc a vs ns G Y ho (fd_plain hd) sj Du Ap hints ij hg) λ r s' hq=>?_);obtain⟨rfl,h2,h3,h4⟩:=hq;exact⟨.inl ⟨.bool true,.bool true,[],rfl,λ _=>rfl,.bool true,HS l _,λ _=>⟨List.Pairwise.nil,λ _ hm=>(nomatch hm)⟩⟩,h2,h3,h4⟩
section
variable {prog:Ã}{A:Around}{E:À->Â->Prop}{s:Â}{K:Frag}
end
end Att
namespace L2
open PySem PySem.Spec PyProof.Rows
theorem xA:∀ {vs:List À}{ns:List Int},IntsAre vs ns->bG (ns.map V.int) vs
 | _,_,.nil=>.nil
 | _,_,.cons n t h=>.cons ⟨t,rfl⟩ (xA h)
def TV (H:Hp):Prop:=∀ b,H b=none\/∃ o xs,H b=some (.frz o (.lst xs))
theorem MG {P:Ã}{w:World}{K:Ç}{mg mb:Str->Option À}{CX:GW}{k:Nat}{fa a:Á}{fd:FuncData}{x:Str}{sp:Sp}{aj:Â}{vs:List À}{ns:List Int}
  (KX:K.In aj.heap) (yj:aj.heap.Ns mainGlobals mg) (hb:aj.heap.Ns builtinsNs mb) (hbb:∀ x:Str,x ≠ "__name__" -> mb x=bootBuiltins x) (Pg:aj.heap.NoLimit) (hg:aj.gens = #[])
  (ha:aj.heap.get? a=some { cls:=.type "list",data:=.seq vs.toArray }) (hi:IntsAre vs ns) (hl:ns.length<=sizeLine) (hr:Room k callerA)
  (F:∀ base:Heap,K.In base->base.Ns mainGlobals mg->FnOk P w K mg base CX k fa fd [x] sp) (Dv:∀ (s:Â) (u:À),BindsTo s fd ⟨[u],[]⟩ [(x,u)])
  (lh:∀ H:Hp,TV H->aY K H a (ns.map V.int)->sp [.ref a] H (λ v _=>v=.bl true) λ _ _ _=>False)
  (Ph:∀ H e s',CX [] H aj (λ _ _ _=>False) e s'->False) :
  codeAny (model P w) callerA (.call (.ref fa) ⟨[.ref a],[]⟩) (λ r s'=>r=.ok (.ret (.bool true))/\OldK aj.heap s'.heap/\s'.os=aj.os/\AllBare s'.gens) aj:=by
 have rv:=xA hi;have Pi:=hi.length;have core:∀ H:Hp,TV H->aY K H a (ns.map V.int)->pC P w H aj.heap->(∀ b,H b≠none->b=a)->(H a≠none->K.lookup a=none)->
   codeAny (model P w) callerA (.call (.ref fa) ⟨[.ref a],[]⟩) (λ r s'=>r=.ok (.ret (.bool true))/\OldK aj.heap s'.heap/\s'.os=aj.os/\AllBare s'.gens) aj:=by
  intro H hO hS hok hA hK;have ud:∀ {b:Á}{o:Obj},aj.heap.get? b=some o->H b=none->(A9 aj.heap H).get? b=some o:=λ e n=>MW e n;have Do:∀ {b:Á}{o:Obj}{es:Array DictEntry}{ep:Nat},aj.heap.get? b=some o->o.data=.dict es ep->H b=none:=λ {b o es ep} e d=>by
   cases q:H b with
   | none=>rfl
   | some u=>
    have e':b=a:=hA b (by rw[q];simp);subst e';rw[ha] at e;cases e;have d':Data.seq vs.toArray _=Data.dict es ep:=d;cases d'
  have Kq:∀ {b:Á}{m:Str->Option À},aj.heap.Ns b m->(A9 aj.heap H).Ns b m:=λ {b m} ⟨o,es,ep,e,d,r⟩=>⟨o,es,ep,ud e (Do e d),d,r⟩;have hKb:K.In (A9 aj.heap H):=λ b o e=>ud (KX b o e) (by
   cases q:H b with
   | none=>rfl
   | some u=>
    have e':b=a:=hA b (by rw[q];simp);subst e';rw[hK (by rw[q];simp)] at e;cases e)
  have hM:Mod K mg (A9 aj.heap H):=⟨hKb,Kq yj,⟨mb,Kq hb,hbb⟩,let ⟨mc,h1,h2⟩:=Pg;⟨mc,Kq h1,h2⟩⟩;have e0:Env0 P w K mg (A9 aj.heap H) callerA [] aj H:=⟨rfl,hM,λ b o e=>P5 e,ķ (IP _ _),trivial,λ b hb=>absurd (show b∈([]:List Á) from hb) (by simp),hok,.of_eq hg⟩;refine ů ((F _ hKb (Kq yj)).run callerA [] aj H ⟨[.ref a],[]⟩ [.ref a] [.ref a] _ _ hr e0 (Dv aj (.ref a)) (.cons rfl .nil) (lh H hO hS)) λ r s' h=>?_;cases r with
  | error e=>exact (Ph H e s' h).elim
  | ok fl=>
   cases fl with
   | next=>exact False.elim h
   | brk=>exact False.elim h
   | cont=>exact False.elim h
   | ret u=>
    obtain⟨v,H',os,bare,un,Pj,r',q⟩:=h;have q':v=.bl true:=q;subst q';obtain rfl:u=Value.bool true:=r';refine⟨rfl,OldK.of_keep λ b o e=>?_,os,bare⟩;cases q:H b with
    | none=>exact un.keep b o e q (by intro z;exact absurd (show b∈([]:List Á) from z) (by simp)) (by simp)
    | some u=>
     rcases hO b with z | ⟨ob,xs,z⟩
     ·rw[q] at z;cases z
     ·have z2:=un.frzs b ob _ z;obtain⟨e1,_⟩:=hok b _ z;obtain⟨e2,_⟩:=Pj b _ z2;rw[e] at e1;cases e1;exact e2
 cases hk:K.lookup a with
 | some o=>
  have e:=KX a o hk;rw[ha] at e;cases e;refine core (λ _=>none) (λ _=>.inl rfl) (.inr ⟨_,vs.toArray,_,hk,rfl,rfl,rfl,by rw[Ú,Pi];exact hl,by simpa using rv⟩) (λ b u z=>by have z':(none:Option HO)=some u:=z;cases z') (λ b z=>absurd rfl z) λ z=>absurd rfl z
 | none=>
  refine core (λ b=>if b=a then some (.frz { cls:=.type "list",data:=.seq vs.toArray } (.lst (ns.map V.int))) else none) (λ b=>?_) (.inl (.inr ⟨{ cls:=.type "list",data:=.seq vs.toArray },Å rfl⟩)) (λ b u z=>?_) (λ b z=>?_) λ _=>hk
  ·by_cases hb:b=a
   ·exact .inr ⟨_,_,Å hb⟩
   ·exact .inl (Ä hb)
  ·by_cases hb:b=a
   ·have z':=(Å hb).symm.trans z;cases z';subst hb;exact⟨ha,by rw[Ê];exact hl,vs,_,rv,ha⟩
   ·have z':=(Ä hb).symm.trans z;cases z'
  ·by_cases hb:b=a
   ·exact hb
   ·exact absurd (Ä hb) z
theorem walk_of {l:PySem.W.OpenLaw}{n k:Nat}{q:Ã}{loose:List Str}{XP:(Str->Option À)->Heap->Prop}{YP:World->Heap->Prop}{d:DefRec}{K:Params->Ç}{CX:World->GW}{sp:World->Sp}{x:Str}
  (hn:l.most=some n) (Kl:n<=sizeLine) (Dt:d.params.defaults=[]) (hr:Room k callerA)
  (hY:∀ (w:World) (h:Heap),YP w h->(K w.params).In h)
  (F:∀ (w:World) (mg:Str->Option À) (fa:Á) (h:Heap),(K w.params).In h->h.Ns mainGlobals mg->mg d.name=some (.ref fa)->
   ∃ fd:FuncData,(∀ (s:Â) (u:À),BindsTo s fd ⟨[u],[]⟩ [(x,u)])/\
    ∀ base:Heap,(K w.params).In base->base.Ns mainGlobals mg->FnOk l.prog w (K w.params) mg base (CX w) k fa fd [x] (sp w))
  (lh:∀ (w:World) (H:Hp) (a:Á) (ns:List Int),ns.length<=n->TV H->aY (K w.params) H a (ns.map V.int)->sp w [.ref a] H (λ v _=>v=.bl true) λ _ _ _=>False)
  (Ph:∀ (w:World) (H:Hp) (s:Â) (e:À) (s':Â),CX w [] H s (λ _ _ _=>False) e s'->False) :
  PySem.W.WalkO q loose XP YP l.row.toRowW d [] (λ f vs=>PySem.call f vs):=by
 refine Att.attach_call hn Dt λ w s₀ aj mg mb fa o pm cd doc a vs ns G Y ho hd sj Du Ap hints ij hg=>?_;have KX:=hY w _ Y;obtain⟨fd,hb,hF⟩:=F w mg fa _ KX G.T.g Du;exact MG KX G.T.g G.T.b G.T.builtins G.T.nolimit hg Ap hints (ë ij Kl) hr hF hb (λ H hO hS=>lh w H a ns ij hO hS) λ H e s'=>Ph w H aj e s'
def bF (s:Stmt) (j:Nat):Stmt:=match s with
 | .ClassDef _ _ _ body _ _ _ _ _ _ _=>body.getD j (.Pass ⟨0,0,0,0⟩)
 | _=>.Pass ⟨0,0,0,0⟩
def nU (s:Stmt):Arguments:=match s with
 | .FunctionDef _ a _ _ _ _ _ _ _ _=>a
 | _=>{ posonlyargs:=[],args:=[],vararg:=none,kwonlyargs:=[],kw_defaults:=[],kwarg:=none,defaults:=[] }
def jJ (s:Stmt):List Stmt:=match s with
 | .FunctionDef _ _ b _ _ _ _ _ _ _=>b
 | _=>[]
def aL (s:Stmt):Scope:=match s with
 | .FunctionDef _ _ _ _ _ _ sc _ _ _=>sc
 | _=>{ kind:=.function,names:=[],isGenerator:=false,isCoroutine:=false }
abbrev gP:GW:=λ _ _ _ _ _ _=>False
abbrev E0:XK:=λ _ _ _=>False
theorem iE {X:Cx}:iM gP X E0:=λ _ _ _ _ _ _ _ h=>h.elim
structure Fun (K:Ç) (x qual:Str) (st:Stmt) (f:Á) (fd:FuncData):Prop where
 ex:∃ (oc:À) (od:Option Á) (kV doc pm:À) (an:Option Á) (cdv ct:À) (osl:Array (Option À)),
  fd=PySem.W.fnOf x qual (nU st) (jJ st) (aL st) .none kV doc pm an cdv ct/\K.lookup f=some ⟨oc,od,.func fd,osl⟩/\PySem.W.codeIn K cdv qual=true
 kp:PySem.W.keepIn K (.ref f)=true
theorem Fun.ok {x qual:Str}{st:Stmt}{ps:List Str}{k:Nat}{sp:Sp} (F:Fun K x qual st f fd) (N) (qw:FnScope N ps (aL st)->∀ (iu:À) (A:Around) (outer:List Env) (s:Â) (H:Hp) (vs:List V) (Q:VK) (E:XK),Room k (A.deeper (envOfC qual (aL st) s.heap.objs.size f iu))->sp vs H Q E->
   ∃ t,ET (CM gP P w K mg base N qual (aL st) f iu A outer s H E).nox (jJ st) t/\t { nx:=λ _ H'=>Q .non H',rt:=Q } (pK N vs) H) (S:FnScope N ps (aL st):=by exact {}) (len:∀ vs H Q E,sp vs H Q E->vs.length=ps.length:=by intro vs H Q E h;repeat first | (obtain⟨rfl,_⟩:=h;rfl) | obtain⟨_,h⟩:=h):FnOk P w K mg base gP (k+1) f fd ps sp:=by
 obtain⟨oc,od,kV,doc,pm,an,iu,ct,yf,rfl,lk,sj⟩:=F.ex;refine R3 lk sj S len λ A outer s H vs Q E hr lh=>?_;obtain⟨t,h,q⟩:=qw S iu A outer s H vs Q E hr lh;exact⟨t,h.nox,q⟩
theorem Fun.binds {x qual:Str}{st:Stmt}{ps:List Str} (F:Fun K x qual st f fd)
  (h:∀ (kV doc pm:À) (an:Option Á) (iu ct:À) (us:List À),us.length=ps.length->bindArgs (PySem.W.fnOf x qual (nU st) (jJ st) (aL st) .none kV doc pm an iu ct) ⟨us,[]⟩=pure (ps.zip us)):gQ K fd ps []:=by
 obtain⟨oc,od,kV,doc,pm,an,iu,ct,yf,rfl,lk,sj⟩:=F.ex;exact .all (h kV doc pm an iu ct)
theorem aV {x qual:Str}{st:Stmt}{f:Á}{oc:À}{od an:Option Á}{yf:Array (Option À)}{kV doc pm iu ct:À} (l:K.lookup f=some ⟨oc,od,.func (PySem.W.fnOf x qual (nU st) (jJ st) (aL st) .none kV doc pm an iu ct),yf⟩)
  (c:PySem.W.codeIn K iu qual=true) (k:PySem.W.keepIn K (.ref f)=true):Fun K x qual st f (PySem.W.fnOf x qual (nU st) (jJ st) (aL st) .none kV doc pm an iu ct):=⟨⟨oc,od,kV,doc,pm,an,iu,ct,yf,rfl,l,c⟩,k⟩
theorem QZ {A:Around}{k:Nat} (hr:Room k A):A.units+1 < cLine:=afk (Nat.add_le_add_left (by decide:1<=64) _) hr.units
theorem bD {n:Nat} (h:n<=1000):n < sizeLine:=afk h (by decide)
section
variable {X:Cx}
theorem pv (i:Nat) {x:Str}{pos:Pos} (hN:X.N[i]? = some x:=by exact wr0) (hv:VT X.env.scope x:=by with_unfolding_all first | exact Or.inl rfl | exact Or.inr (Or.inl rfl) | exact Or.inr (Or.inr rfl)) (hd:(x == ("__debug__" : Str))=false:=by decide)
  (sj:(x == ("__classdict__" : Str))=false:=by decide):PE X (.Name x pos) (cF i):=L9 hN hv hd sj
end
theorem cX {A B:Prop} (h:B):if false=true then A else B:=by
 rw[Ä ç];exact h
theorem eX {A B:Prop} (h:A):if true=true then A else B:=by
 rw[Å rfl];exact h
theorem eA {c A B:Prop} [Decidable c] (h1:c->A) (h2:¬ c->B):if c then A else B:=by
 by_cases h:c
 ·rw[Å h];exact h1 h
 ·rw[Ä h];exact h2 h
theorem VD {c A B:Prop} [Decidable c] (hc:c) (h:B):if (!decide c)=true then A else B:=by
 rw[Û hc];exact cX h
def aJ (H H':Hp):Prop:=∀ b o,H b=some o->H' b=some o
theorem aJ.refl (H:Hp):aJ H H:=λ _ _ h=>h
def Ď:=@aJ.refl
theorem aJ.trans {H H1 H2:Hp} (a:aJ H H1) (b:aJ H1 H2):aJ H H2:=λ c o h=>b c o (a c o h)
theorem aJ.free {H H':Hp} (e:aJ H H') {l:Á} (h:H' l=Option.none):H l=Option.none:=by
 cases q:H l with
 | none=>rfl
 | some o=>
  rw[e l o q] at h;cases h
theorem aJ.seq {K:Ç}{H H':Hp}{a:Á}{xs:List V} (e:aJ H H') (h:aY K H a xs):aY K H' a xs:=by
 rcases h with (h | ⟨o,h⟩) | h
 ·exact .inl (.inl (e _ _ h))
 ·exact .inl (.inr ⟨o,e _ _ h⟩)
 ·exact .inr h
end L2
set_option maxHeartbeats 4000000
namespace L2
open PySem PySem.Spec PyProof.Rows
theorem iP {env:Env} (hk:env.scope.kind=.function):∀ {names:List (Str×NameKind)}{x:Str},names.lookup x=some .free->env.kindOf x=some .cell->
  (names.map λ (n,k)=>if (k == NameKind.free && env.scope.kind == .function && env.kindOf n == some .cell) then (n,NameKind.cell) else (n,k)).lookup x=some .cell
 | [],_,h,_=>by simp at h
 | (n,k)::r,x,h,hc=>by
  have ih:=@iP env hk r x;show List.lookup x ((if (k == NameKind.free && env.scope.kind == .function && env.kindOf n == some .cell)=true then (n,NameKind.cell) else (n,k))::_)=_;cases hx:x == n with
  | true=>
   simp only [Ĵ,hx] at h;cases h;have e:x=n:=by simpa using hx
   subst e;rw[Å (by rw[hk,hc];decide)];simp [Ĵ]
  | false=>
   simp only [Ĵ,hx] at h
   by_cases hq:(k == NameKind.free && env.scope.kind == .function && env.kindOf n == some .cell)=true
   ·rw[Å hq];simp only [Ĵ,hx];exact ih h hc
   ·rw[Ä hq];simp only [Ĵ,hx];exact ih h hc
def NT (env:Env):List (Str×Á)->Prop
 | []=>True
 | p::r=>env.cells.lookup p.1=some p.2/\NT env r
theorem NT.get {env:Env}:∀ {cl:List (Str×Á)},NT env cl->∀ x c,cl.lookup x=some c->env.cells.lookup x=some c
 | [],_,_,_,e=>by simp at e
 | (n,a)::r,h,x,c,e=>by
  cases hx:x == n with
  | true=>
   simp only [Ĵ,hx] at e;cases e;have e':x=n:=by simpa using hx
   subst e';exact h.1
  | false=>
   simp only [Ĵ,hx] at e;exact NT.get h.2 x c e
def D0 (X:Cx) (scope:Scope) (N':List Str):List (Option Nat)->Nat->Prop
 | [],_=>True
 | none::r,i=>D0 X scope N' r (i+1)
 | some j::r,i=>(∃ x,N'[i]? = some x/\X.N[j]? = some x/\scope.names.lookup x=some .free/\X.env.kindOf x=some .cell)/\D0 X scope N' r (i+1)
theorem D0.get {X:Cx}{scope:Scope}{N':List Str}:∀ {fr:List (Option Nat)}{k:Nat},D0 X scope N' fr k->∀ i j,fr[i]? = some (some j)->
  ∃ x,N'[k+i]? = some x/\X.N[j]? = some x/\scope.names.lookup x=some .free/\X.env.kindOf x=some .cell
 | [],_,_,i,j,e=>by simp at e
 | none::r,k,h,0,j,e=>by simp at e
 | some _::r,k,h,0,j,e=>by simp at e;subst e;exact h.1
 | none::r,k,h,i+1,j,e=>by
  have:=D0.get (k:=k+1) (show D0 X scope N' r (k+1) from h) i j (by simpa using e)
  rwa [Nat.add_right_comm] at this
 | some _::r,k,h,i+1,j,e=>by
  have:=D0.get (k:=k+1) h.2 i j (by simpa using e)
  rwa [Nat.add_right_comm] at this
structure LcOk (X:Cx) (scope:Scope) (cl:List (Str×Á)) (N':List Str) (fr:List (Option Nat)):Prop where
 clos:closureFor scope X.env=pure cl
 cls:NT X.env cl
 kind:scope.kind=.function
 nocell:(scope.names.all λ p=>p.2 != NameKind.cell)=true
 locs:(scope.names.all λ p=>p.2 != NameKind.local || scope.names.lookup p.1 == some NameKind.local)=true
 frees:(scope.names.all λ p=>p.2 != NameKind.free || (cl.lookup p.1).isSome)=true
 len:fr.length=N'.length
 fr:D0 X scope N' fr 0
def EM (fr:List (Option Nat)) (σ:St):St:=fr.map λ o=>o.bind λ j=>(σ[j]?).join
def AN (X:Cx) (N':List Str) (scope:Scope) (cl:List (Str×Á)) (fp:List Á) (s:Â) (H:Hp):Cx:=
 { X with N:=N',s₀:=s,H₀:=H,env:=compEnvC scope cl s.heap.objs.size X.env,outer:=X.stack,ex:=fp,fn:=λ _=>false,pn:=[] }
def VU (X:Cx) (ifs:List Expr) (t:TT):Prop:=
 ∀ (gn:List (Á×Obj)) (s:Â) (σ:St) (H:Hp) (Q:Bool->Hp->Prop),Inv X gn σ H s->t σ H Q->
  wpAny (model X.prog X.w) X.A (forIn ifs true λ c r=>if r=true then do let ok <- isTrue c X.env (eval c X.env);pure (ForInStep.yield ok) else pure (ForInStep.yield r)) (TP X gn σ Q) X.xe s
def DC:TT:=λ _ H Q=>Q true H
theorem bX {X:Cx}:VU X [] DC:=λ _ _ _ H _ I h=>wpAny_tests_nil ⟨H,I,h⟩
theorem ON {X:Cx}{c:Expr}{t:TT} (h:PT X c t):VU X [c] t:=λ gn s σ H Q I hw=>wpAny_tests_one (h gn s σ H Q I hw)
def j6 (J:It) (g:TG) (tc:TT) (te:TE) (fr:List (Option Nat)) (σ:St) (H1:Hp) (Q:Á->Hp->Prop):Prop:=
 ∀ D,H1 D=none->∃ W:Nat->Nat->List V->St->Hp->Prop,(∃ m,W 0 m [] (EM fr σ) (upd H1 D (.lst [])))/\
  ∀ i m ys ac H',W i m ys ac H'->(J.stop i H'/\Q D H')\/
   (J.go i H'/\∃ N:List V->St->Hp->Prop,(∀ zu fe Pk,N zu fe Pk->∃ m',m' < m/\W (i+1) m' zu fe Pk)/\
    ∀ x H2,J.yld i H' x H2->g x ac H2 λ aq H3=>tc aq H3 λ b H4=>
    if b=true then te aq H4 λ y H5=>H5 D=some (.lst ys)/\ys.length < sizeLine/\N (ys++[y]) aq (upd H5 D (.lst (ys++[y])))
    else N ys aq H4)
theorem rY {J:It}{n:Nat}{g:TG}{tc:TT}{te:TE}{fr:List (Option Nat)}{σ:St}{H1:Hp}{Q:Á->Hp->Prop} (Pv:Á->Nat->List V->St->Hp->Prop)
  (h0:∀ D,H1 D=none->Pv D 0 [] (EM fr σ) (upd H1 D (.lst [])))
  (jl:∀ D ys ac H',Pv D n ys ac H'->J.stop n H'/\Q D H')
  (pi:∀ D i ys ac H',i < n->Pv D i ys ac H'->J.go i H'/\∀ x H2,J.yld i H' x H2->g x ac H2 λ aq H3=>tc aq H3 λ b H4=>
    if b=true then te aq H4 λ y H5=>H5 D=some (.lst ys)/\ys.length < sizeLine/\Pv D (i+1) (ys++[y]) aq (upd H5 D (.lst (ys++[y])))
    else Pv D (i+1) ys aq H4):j6 J g tc te fr σ H1 Q:=by
 intro D hD;refine⟨λ i m ys σ H=>m=n - i/\i<=n/\Pv D i ys σ H,⟨n,by simp,ê _,h0 D hD⟩,?_⟩;rintro i m ys ac H' ⟨rfl,hi,p⟩
 by_cases jr:i < n
 ·obtain⟨go,step⟩:=pi D i ys ac H' jr p;exact .inr ⟨go,Pv D (i+1),λ zu fe Pk p'=>⟨n - (i+1),by lia,rfl,jr,p'⟩,step⟩
 ·have e:i=n:=by lia
  subst e;exact .inl (jl D ys ac H' p)
theorem GF {J:It}{n:Nat}{g:TG}{tb:TS}{D:Ends}{σ:St}{H:Hp} (Pv:Nat->St->Hp->Prop) (h0:Pv 0 σ H) (jl:∀ σ H,Pv n σ H->J.stop n H/\D.nx σ H)
  (pi:∀ i σ H,i < n->Pv i σ H->J.go i H/\∀ x H',J.yld i H x H'->g x σ H' λ ba H2=>tb { D with nx:=Pv (i+1),ct:=Pv (i+1),bk:=D.nx } ba H2) :
  ∃ W:Nat->Nat->St->Hp->Prop,(∃ m,W 0 m σ H)/\∀ i m σ H,W i m σ H->
   (J.stop i H/\D.nx σ H)\/(J.go i H/\∃ N:St->Hp->Prop,(∀ ac H',N ac H'->∃ m',m' < m/\W (i+1) m' ac H')/\∀ x H',J.yld i H x H'->g x σ H' λ ba H2=>tb { D with nx:=N,ct:=N,bk:=D.nx } ba H2):=by
 refine⟨λ i m σ H=>m=n - i/\i<=n/\Pv i σ H,⟨n,by simp,ê _,h0⟩,?_⟩;rintro i m σ H ⟨rfl,hi,p⟩
 by_cases jr:i < n
 ·obtain⟨go,step⟩:=pi i σ H jr p;exact .inr ⟨go,Pv (i+1),λ ac H' p'=>⟨n - (i+1),by lia,rfl,jr,p'⟩,step⟩
 ·have e:i=n:=by lia
  subst e;exact .inl (jl σ H p)
def tLC (wi:TI) (fr:List (Option Nat)) (g:TG) (tc:TT) (te:TE):TE:=λ σ H Q=>wi σ H λ J H1=>j6 J g tc te fr σ H1 λ D H'=>Q (.ref D) H'
section
variable {prog:Ã}{A:Around}{R:Result->Â->Prop}{s:Â}
theorem AD {elt target iter:Expr}{ifs:List Expr}{scope:Scope}{pos:Pos}{it ji:À}{env:Env} (I:Nat->Â->Prop)
  (turn:∀ n s,I n s->wpAny (model prog w) A (pyNext it) (λ r aj=>match r with
   | none=>R (.ok .next) aj
   | some v=>wpAny (model prog w) A (letOwnedTupleGo target it v) (λ _ fi=>wpAny (model prog w) A (assign target env v) (λ _ bx=>
     wpAny (model prog w) A (forIn ifs true λ c r=>if r=true then do let ok <- isTrue c env (eval c env);pure (ForInStep.yield ok) else pure (ForInStep.yield r)) (λ ok bz=>
      if ok=true then wpAny (model prog w) A (eval elt env) (λ x cz=>
       wpAny (model prog w) A (call (.builtin "list.append") [ji,x]) (λ _ gi=>∃ m,m < n/\I m gi) (notedBy (model prog w) A env λ e s'=>R (.error e) s') cz) (notedBy (model prog w) A env λ e s'=>R (.error e) s') bz
      else ∃ m,m < n/\I m bz) (notedBy (model prog w) A env λ e s'=>R (.error e) s') bx) (notedBy (model prog w) A env λ e s'=>R (.error e) s') fi) (notedBy (model prog w) A env λ e s'=>R (.error e) s') aj)
    (notedBy (model prog w) A env λ e s'=>R (.error e) s') s)
  (n:Nat) (h:I n s) :
  codeAny (model prog w) A (.compLoop (.ListComp elt [⟨target,iter,ifs,0⟩] scope pos) 0 it ji env) R s:=by
 refine codeAny_loop rfl I (λ n s hI=>?_) n h;show wpAny _ A ((compTurn (.ListComp elt [⟨target,iter,ifs,0⟩] scope pos) 0 it ji env).onRaise (λ x=>do noteFrame x env;theTreesLotGoes x)) _ _ s;refine wpAny_noted ?_;rw[compTurn_list];refine Æ (ł (Æ (ò (turn n s hI) (λ r aj h₁=>?_) λ _ _ h'=>h')));cases r with
 | none=>exact Ë h₁
 | some v=>
  refine Æ (ò h₁ (λ _ fi h₁'=>?_) λ _ _ h'=>h');refine Æ (ò h₁' (λ _ bx ap=>Æ (ò ap (λ ok bz am=>?_) λ _ _ h'=>h')) λ _ _ h'=>h');cases ok with
  | false=>exact Ë ⟨rfl,am⟩
  | true=>
   exact Æ (Æ (ò am (λ x cz au=>Æ (ò au (λ _ gi bn=>Ë (Ë ⟨rfl,bn⟩)) λ _ _ h'=>h')) λ _ _ h'=>h'))
end
section
variable {X:Cx}
theorem LcOk.invC {scope:Scope}{cl:List (Str×Á)}{N':List Str}{fr:List (Option Nat)}{gn:List (Á×Obj)}{σ:St}{H:Hp}{s:Â}{h1:Heap}{fp:List Á}{m1:Str->Option À}{tk:Nat}
  (S:LcOk X scope cl N' fr) (I:Inv X gn σ H s) (hf:∀ b∈fp,pD X gn H b) (Kr:∀ b∈fp,b < s.heap.objs.size)
  (k:∀ b o,s.heap.get? b=some o->h1.get? b=some o) (hn:h1.Ns s.heap.objs.size m1):Inv (AN X N' scope cl fp s H) [] (EM fr σ) H { s with heap:=h1,toks:=tk }:=by
 have mh:=S.frees;have ku:=S.nocell;rw[ě] at mh ku;have fresh:H s.heap.objs.size=none:=I.hok.fresh (Í _);have Cg:=S.cls.get;refine⟨⟨I.ok.mod,S.kind,I.ok.glob,I.ok.blt,Í _,λ x y c e1 e2=>I.ok.inj x y c (Cg x c e1) (Cg y c e2),λ x hx=>?_,(λ x c e=>nomatch e),I.ok.hd,I.ok.frames,.inl rfl,λ b hb=>⟨é (Kr b hb),λ x c e=>(hf b hb).2.2.2.2.1 x c (Cg x c e)⟩,
  I.bs,ë I.ok.bsz I.sz,λ b o e hb=>?_,λ b hb hz=>?_,I.stack,I.stkFree⟩,rfl,I.bare,Un.kept k,⟨m1,hn,λ i x v e1 e2 e3=>?_⟩,λ x c e=>?_,fresh,λ x c e=>I.freeC x c (Cg x c e),λ p hp=>absurd (show p∈([]:List (Á×Obj)) from hp) (by simp),I.hok.kept k,?_⟩
 ·
  have hm:∃ k',(x,k')∈scope.names/\k'=NameKind.free:=by
   have uc:(relabel scope X.env).names.lookup x=some .cell\/(relabel scope X.env).names.lookup x=some .free:=hx;obtain⟨k',e,zw⟩:∃ k',(relabel scope X.env).names.lookup x=some k'/\(k'=.cell\/k'=.free):=by
    rcases uc with e | e
    ·exact⟨_,e,.inl rfl⟩
    ·exact⟨_,e,.inr rfl⟩
   have Aq:=İ e;obtain⟨⟨n,kn⟩,hp,he⟩:=ä.mp Aq;dsimp only at he
   split at he
   ·rename_i hc
    cases he;have:kn=.free:=by
     simp only [Ğ,beq_iff_eq] at hc;exact hc.1.1
    exact⟨kn,hp,this⟩
   ·cases he;rcases zw with e' | e'
    ·subst e';have:=ku _ hp;simp at this
    ·exact⟨_,hp,e'⟩
  obtain⟨k',hp,rfl⟩:=hm;have:=mh _ hp;simp only [bne_self_eq_false,agp] at this;exact Option.isSome_iff_exists.mp this
 ·rcases (hf b hb).2.2.2.1 with z | z
  ·exact I.ok.noex b o e z
  ·have:=Ö e;exact absurd (í this (ë I.ok.bsz z)) (Ē _)
 ·obtain⟨_,f1,f2,_⟩:=hf b hb;rcases Ñ.mp (I.stkSub b hz) with e | e
  ·exact f1 e
  ·exact f2 e
 ·
  unfold EM at e2;rw[Ø] at e2;cases ef:fr[i]? with
  | none=>rw[ef] at e2;cases e2
  | some o=>
   rw[ef] at e2;cases o with
   | none=>simp at e2
   | some j=>
    have Dw:(σ[j]?).join=some v:=by simpa using e2
    obtain⟨x',h1',h2',h3',Pl⟩:=S.fr.get i j ef;rw[Nat.zero_add] at h1';have ex:x'=x:=by
     have:N'[i]? = some x:=e1;rw[h1'] at this;exact ï this
    subst ex;have Pm:σ[j]? = some (some v):=by
     cases q:σ[j]? with
     | none=>rw[q] at Dw;cases Dw
     | some z=>rw[q] at Dw;simp at Dw;rw[Dw]
    obtain⟨m,hm,hl⟩:=I.loc;obtain⟨u,r,lk⟩:=hl j x' v h2' Pm (.inr (.inl Pl));refine⟨u,r,?_⟩;rcases lk with ⟨q,_⟩ | ⟨_,c,hc,z⟩
    ·rw[Pl] at q;cases q
    ·have vh:∃ c',cl.lookup x'=some c':=by
      have:=mh _ (İ h3');simp only [bne_self_eq_false,agp] at this;exact Option.isSome_iff_exists.mp this
     obtain⟨c',xl⟩:=vh;have e':=Cg x' c' xl;rw[hc] at e';cases e';obtain⟨oc,Ak,hd⟩:=z;refine .inr ⟨.inl ?_,c,xl,oc,k c oc Ak,hd⟩;exact iP I.ok.kind h3' Pl
 ·obtain⟨v,oc,Ak,hd⟩:=I.cell x c (Cg x c e);exact⟨v,oc,k c oc Ak,hd⟩
 ·show (EM fr σ).length=N'.length;unfold EM;rw[Ê,S.len]
theorem Inv.outC {scope:Scope}{cl:List (Str×Á)}{N':List Str}{gn ua:List (Á×Obj)}{σ ac:St}{H H':Hp}{s s':Â}{fp:List Á} (I:Inv X gn σ H s) (J:Inv (AN X N' scope cl fp s H) ua ac H' s')
  (hf:∀ b∈fp,pD X gn H b):Inv X gn σ H' s':=
 I.call' (ch:=fp) J.os J.base J.hok J.bare λ b hb=>by
  obtain⟨_,f1,_,f3,f4,f5⟩:=hf b hb;exact⟨f3,f1,f4,f5⟩
theorem Inv.letgo {gn:List (Á×Obj)}{σ:St}{H:Hp}{s:Â}{C:Á}{h':Heap} (I:Inv X gn σ H s) (f:pD X gn H C) (Dx:Heap.SameBut C s.heap h'):Inv X gn σ H { s with heap:=h' }:=by
 obtain⟨f0,f1,f2,f3,f4,f5⟩:=f;exact I.turned (t':=s.toks) (it:=C) (h':=h') (λ b o hb e=>(Dx.2 b hb).trans e) f0 f1 f3 f4 f5
theorem BY {elt tg iter:Expr}{ifs:List Expr}{scope:Scope}{pos:Pos}{N':List Str}{fr:List (Option Nat)}{cl:List (Str×Á)}{g:TG}{tc:TT}{te:TE}
  {gn:List (Á×Obj)}{σ:St}{H:Hp}{s:Â}{J:It}{fp:List Á}{it:Á}{tn:Nat->Heap->Prop}{Q:Á->Hp->Prop}{RR:À->Á->Result->Â->Prop}{E:À->Â->Prop}
  (hx:∀ e s,¬ X.xe e s) (hc:X.calm=true) (S:LcOk X scope cl N' fr)
  (hg:∀ fp s H,PG (AN X N' scope cl fp s H) tg g) (ht:∀ fp s H,VU (AN X N' scope cl fp s H) ifs tc) (he:∀ fp s H,PE (AN X N' scope cl fp s H) elt te)
  (I:Inv X gn σ H s) (T:Turn X.prog X.w X.K tg J fp it tn) (st:tn 0 s.heap) (hf:∀ b∈fp,pD X gn H b) (h:j6 J g tc te fr σ H Q)
  (hRR:∀ D C H' s' m',Inv X gn σ H' s'->Q D H'->s'.heap.Ns C m'->pD X gn H' C->RR (.ref D) C (.ok .next) s') :
  wpAny (model X.prog X.w) X.A (newList []) (λ ji bz=>wpAny (model X.prog X.w) X.A (newFunctionEnv scope X.env.globals cl [] X.env.qual none .none (some X.env)) (λ Dy cz=>
   codeAny (model X.prog X.w) X.A (.compStart (.ListComp elt [⟨tg,iter,ifs,0⟩] scope pos) 0 (.ref it) ji { Dy with scope:=relabel scope X.env }) (RR ji Dy.locals) cz) E bz) E s:=by
 have ku:=S.nocell;rw[ě] at ku;refine Ŧ (wpAny_newFunctionEnv (λ x uc=>by simpa using ku x uc) (by intro y hy;simp at hy) (λ h₁ cq cr=>?_) S.kind);dsimp only at cq cr ⊢;have fresh:H s.heap.objs.size=none:=I.hok.fresh (Í _);have I3:Inv X gn σ (upd H s.heap.objs.size (.lst [])) { s with heap:=s.heap.push { cls:=.type "list",data:=.seq ([]:List À).toArray },toks:=s.toks }:=I.lnew (ys:=[]) (gx:=[]) .nil (ê _);have Ar:∀ b∈fp,pD X gn (upd H s.heap.objs.size (.lst [])) b:=λ b hb=>by
  obtain⟨o,ho,_⟩:=T.obj _ _ st b hb;exact⟨by rw[aM (é (Ö ho))];exact (hf b hb).1,(hf b hb).2⟩
 generalize hs3:({ s with heap:=s.heap.push { cls:=.type "list",data:=.seq ([]:List À).toArray },toks:=s.toks }:Â)=s3 at I3;have e3:s3.heap=s.heap.push { cls:=.type "list",dict:=none,data:=.seq ([]:List À).toArray }:=by rw[<- hs3]
 have e3s:({ s with heap:=s.heap.push { cls:=.type "list",dict:=none,data:=.seq ([]:List À).toArray } }:Â)=s3:=hs3;have Pn:s3.heap.objs.size=s.heap.objs.size+1:=by rw[e3,ċ]
 have Kr:∀ b∈fp,b < s3.heap.objs.size:=λ b hb=>by
  obtain⟨o,ho,_⟩:=T.obj _ _ st b hb;rw[Pn];exact Nat.lt_succ_of_lt (Ö ho)
 rw[<- e3] at cq cr ⊢;have As:∀ b o,s3.heap.get? b=some o->h₁.get? b=some o:=λ b o e=>cr.extBut b o (é (Ö e)) (Î _ e);have jz:∀ b o,s.heap.get? b=some o->s3.heap.get? b=some o:=λ b o e=>by rw[e3];exact Î _ e
 have I4:=S.invC (tk:=s3.toks) I3 Ar Kr As cq;obtain⟨W,⟨m0,w0⟩,turn⟩:=h s.heap.objs.size fresh;have sq:∀ {H':Hp},(∀ b∈fp,H' b=none)->∀ b∈fp,pD (AN X N' scope cl fp s3 (upd H s.heap.objs.size (.lst []))) [] H' b:=λ hn b hb=>by
  refine⟨hn b hb,é (Kr b hb),?_,.inl hb,λ x c e=>(hf b hb).2.2.2.2.1 x c (S.cls.get x c e),λ p hp=>absurd (show p∈([]:List (Á×Obj)) from hp) (by simp)⟩;intro hz;obtain⟨_,f1,f2,_⟩:=hf b hb;rcases Ñ.mp (I.stkSub b hz) with e | e
  ·exact f1 e
  ·exact f2 e
 have loop:∀ s4:Â,s4={ s3 with heap:=h₁,toks:=s3.toks }->
   codeAny (model X.prog X.w) X.A (.compLoop (.ListComp elt [⟨tg,iter,ifs,0⟩] scope pos) 0 (.ref it) (.ref s.heap.objs.size) (compEnvC scope cl s3.heap.objs.size X.env)) (RR (.ref s.heap.objs.size) s3.heap.objs.size) s4:=by
  intro s4 At;refine AD (λ n s'=>∃ i ys ac H',Inv (AN X N' scope cl fp s3 (upd H s.heap.objs.size (.lst []))) [] ac H' s'/\tn i s'.heap/\(∀ b∈fp,H' b=none)/\W i n ys ac H') ?_ m0
   ⟨0,[],EM fr σ,_,by rw[At];exact I4,by rw[At];exact T.keep _ _ _ st λ b _ o e=>As b o (jz b o e),λ b hb=>(Ar b hb).1,w0⟩
  rintro n s5 ⟨i,ys,ee,H5,I5,Cc,Kk,w5⟩;rcases turn i n ys ee H5 w5 with ⟨stop,qn⟩ | ⟨go,N,hN,step⟩
  ·refine d8 (T.done (AN X N' scope cl fp s3 (upd H s.heap.objs.size (.lst []))) rfl rfl rfl hc i [] s5 ee H5 _ I5 (sq Kk) Cc stop) λ r s6 ⟨hr,I6⟩=>?_;subst hr;obtain⟨m',Ks,_⟩:=I6.loc;exact hRR _ _ H5 s6 m' (I3.outC I6 Ar) qn Ks (I3.fpOk (Í _) I6.free)
  ·refine d8 (T.item (AN X N' scope cl fp s3 (upd H s.heap.objs.size (.lst []))) rfl rfl rfl hc i [] s5 ee H5 _ I5 (sq Kk) Cc go) λ r s6 ⟨u,hr,h6⟩=>?_;subst hr;refine d8 h6 λ _ s7 ⟨x,H7,I7,r7,y7,Po,fr7⟩=>?_;have I7':=I7.pinned (sq fr7) (T.obj _ _ Po);refine ò (hg fp s3 _ _ s7 ee H7 x u _ I7' r7 (step x H7 y7)) (λ _ s8 ⟨cn,H8,I8,q8⟩=>?_) λ e s' z=>(hx e s' z).elim;refine ò (ht fp s3 _ _ s8 cn H8 _ I8 q8) (λ ok s9 ⟨H9,I9,q9⟩=>?_) λ e s' z=>(hx e s' z).elim;have again:∀ {xn:Â}{uk:Hp}{zu:List V},Inv (AN X N' scope cl fp s3 (upd H s.heap.objs.size (.lst []))) ([]++vC fp s7.heap) cn uk xn->N zu cn uk->
     ∃ m,m < n/\∃ i ys ac H',Inv (AN X N' scope cl fp s3 (upd H s.heap.objs.size (.lst []))) [] ac H' xn/\tn i xn.heap/\(∀ b∈fp,H' b=none)/\W i m ys ac H':=λ {xn uk zu} Dz n10=>by
    obtain⟨m',hm,Kt⟩:=hN zu cn uk n10;refine⟨m',hm,i+1,zu,cn,uk,Dz.unpinned,T.keep _ _ _ Po λ b hb o e=>(Dz.pin (b,o) (Ĉ _ (Ĉ _ (lD hb e)))).1,λ b hb=>?_,Kt⟩;obtain⟨o,e,d⟩:=T.obj _ _ Po b hb;exact (Dz.pin (b,o) (Ĉ _ (Ĉ _ (lD hb e)))).2.1
   cases ok with
   | false=>
    rw[Ä ç] at q9 ⊢;exact again I9 q9
   | true=>
    rw[Å rfl] at q9 ⊢;refine ò (he fp s3 _ _ s9 cn H9 _ I9 q9) (λ y xn ⟨yv,uk,Dz,r10,hD,ij,q10⟩=>?_) λ e s' z=>(hx e s' z).elim;refine ò (cD (X:=AN X N' scope cl fp s3 (upd H s.heap.objs.size (.lst []))) _ xn cn uk (.ref s.heap.objs.size) [yv] (.ref s.heap.objs.size) [y] (λ _ Pp=>Pp=upd uk s.heap.objs.size (.lst (ys++[yv]))) Dz rfl (.cons r10 .nil)
     ⟨_,ys,yv,rfl,rfl,hD,ij,rfl⟩) (λ _ s11 ⟨_,Pp,I11,_,e11⟩=>?_) λ e s' z=>(hx e s' z).elim
    subst e11;exact again I11 q10
 exact codeAny_compStart_list (loop _ (by rw[<- e3s];rfl)) (T.self X.A 0 _ _ _ (T.keep _ _ _ st λ b _ o e=>As b o (jz b o e)) (loop _ (by rw[<- e3s];rfl)))
theorem gN {elt tg iter:Expr}{ifs:List Expr}{scope:Scope}{pos:Pos}{N':List Str}{fr:List (Option Nat)}{cl:List (Str×Á)}{wi:TI}{g:TG}{tc:TT}{te:TE}
  (hx:∀ e s,¬ X.xe e s) (hc:X.calm=true) (S:LcOk X scope cl N' fr) (hi:PI X tg iter wi)
  (hg:∀ fp s H,PG (AN X N' scope cl fp s H) tg g) (ht:∀ fp s H,VU (AN X N' scope cl fp s H) ifs tc) (he:∀ fp s H,PE (AN X N' scope cl fp s H) elt te)
  (hs:∀ x,foldedSetIterable iter X.env x=pure x:=by intro _;with_unfolding_all rfl):PE X (.ListComp elt [⟨tg,iter,ifs,0⟩] scope pos) (tLC wi fr g tc te):=by
 intro gn s σ H Q I h;have wm:=S.locs;rw[ě] at wm;rw[eval_ListComp];refine wpAny_comprehension_free (use:=none) rfl hs S.clos S.kind (λ x uc hl=>by have:=wm x uc;rw[hl] at this;simpa using this) (d8 (hi gn s σ H _ I h) λ v s1 h1=>d8 h1 λ Kj s2 h2=>?_);obtain⟨it,fp,tn,J,H2,e,I2,T,Dl,f2,jo⟩:=h2;subst e;refine BY (RR:=λ ji C=>compPost (model X.prog X.w) X.A X.xe none (EP X gn σ Q) ji C) hx hc S hg ht he I2 T Dl f2 jo ?_;intro D C H' s' m' I' q hn f;exact⟨m',hn,λ h' Dx=>⟨.ref D,H',I'.letgo f Dx,rfl,q⟩⟩
theorem gK {i:Nat}{y:Str}{py:Pos}{Ea:Pos}{elt tg iter:Expr}{ifs:List Expr}{scope:Scope}{pos:Pos}{N':List Str}{fr:List (Option Nat)}{cl:List (Str×Á)}{wi:TI}{g:TG}{tc:TT}{te:TE}
  (hN:X.N.Nodup) (hy:X.N[i]? = some y) (hk:X.env.scope.names.lookup y=some .local)
  (hx:∀ e s,¬ X.xe e s) (hc:X.calm=true) (S:LcOk X scope cl N' fr) (hi:PI X tg iter wi)
  (hg:∀ fp s H,PG (AN X N' scope cl fp s H) tg g) (ht:∀ fp s H,VU (AN X N' scope cl fp s H) ifs tc) (he:∀ fp s H,PE (AN X N' scope cl fp s H) elt te)
  (Ku:swapsWith (.ListComp elt [⟨tg,iter,ifs,0⟩] scope pos) (some (.Name y py)) Ea.line X.env=pure true:=by exact wr0)
  (hs:∀ x,foldedSetIterable iter X.env x=pure x:=by intro _;with_unfolding_all rfl):PS X (.Assign [.Name y py] (.ListComp elt [⟨tg,iter,ifs,0⟩] scope pos) Ea) (nZ (tLC wi fr g tc te) (bL i)):=by
 intro gn s σ H D I h;have wm:=S.locs;rw[ě] at wm;rw[exec_Assign_Name_used _ _ _ _ Ku];refine Æ (ł (Æ ?_));show wpAny _ X.A (do let _ <- comprehension (.ListComp elt [⟨tg,iter,ifs,0⟩] scope pos) scope X.env _ (newList []) false (eval iter X.env) (some (assign (.Name y py) X.env))) _ _ s;refine Æ (ò (wpAny_comprehension_free (use:=some (assign (.Name y py) X.env)) (Q:=λ _ s'=>SP X gn D .next s') rfl hs S.clos S.kind (λ x uc hl=>by have:=wm x uc;rw[hl] at this;simpa using this)
  (d8 (hi gn s σ H _ I h) λ v s1 h1=>d8 h1 λ Kj s2 h2=>?_)) (λ _ s' hq=>Ë (Ë hq)) λ _ _ e=>e)
 obtain⟨it,fp,tn,J,H2,e,I2,T,Dl,f2,jo⟩:=h2;subst e;refine BY (RR:=λ ji C=>compPost (model X.prog X.w) X.A X.xe (some (assign (.Name y py) X.env)) (λ _ s'=>SP X gn D .next s') ji C) hx hc S hg ht he I2 T Dl f2 jo ?_;intro Da C H' s' m' I' q hn f;show wpAny _ X.A (assign (.Name y py) X.env (.ref Da)) _ _ _;refine wpAny_assign_Name (xD I' hN hy (.inl hk) (v:=.ref Da) rfl (λ zr I'' tz=>?_) (.inr hk));obtain⟨a,Dx,ha⟩:=tz;have haC:a≠C:=by
  rcases ha with e | e
  ·rw[e];exact Ne.symm f.2.1
  ·exact f.2.2.2.2.1 _ _ e
 exact⟨m',hn.sameBut Dx (Ne.symm haC),λ h' zx=>⟨_,H',I''.letgo f zx,q⟩⟩
end
end L2
namespace TwZ
open PySem
open Sem (wp)
def eC (h:Heap) (t:Bool) (it a:Á) (i:Nat):Prop:=if t=true then h.IsTupleIter it a i else h.IsListIter it a i
def cC (h:Heap) (t:Bool) (a:Á) (items:Array À):Prop:=if t=true then h.IsTuple a items else h.IsList a items
theorem eC.at {h h':Heap}{t:Bool}{it a:Á}{i:Nat} (x:eC h t it a i) (k:∀ o,h.get? it=some o->h'.get? it=some o):eC h' t it a i:=by
 cases t <;> (obtain⟨o,ho,r⟩:=x;exact⟨o,k o ho,r⟩)
theorem ex {h h':Heap}{b c:Á}{o:Obj} (hs:Heap.SameBut b h h') (hc:@Ne Nat c b) (e:h.get? c=some o):h'.get? c=some o:=hs.extBut _ _ hc e
theorem eC.ext {h h':Heap}{t:Bool}{it a b:Á}{i:Nat} (x:eC h t it a i) (hs:Heap.SameBut b h h') (xo:@Ne Nat it b):eC h' t it a i:=x.at λ o e=>hs.extBut _ _ xo e
theorem cC.at {h h':Heap}{t:Bool}{a:Á}{xs:Array À} (x:cC h t a xs) (k:∀ o,h.get? a=some o->h'.get? a=some o):cC h' t a xs:=by
 cases t <;> (obtain⟨o,ho,r⟩:=x;exact⟨o,k o ho,r⟩)
theorem cC.ext {h h':Heap}{t:Bool}{a b:Á}{xs:Array À} (x:cC h t a xs) (hs:Heap.SameBut b h h') (xo:@Ne Nat a b):cC h' t a xs:=x.at λ o e=>hs.extBut _ _ xo e
theorem cC.lt {h:Heap}{t:Bool}{a:Á}{xs:Array À} (x:cC h t a xs):a < h.objs.size:=by
 cases t <;> (obtain⟨o,ho,r⟩:=x;exact Ö ho)
theorem eC.obj {h:Heap}{t:Bool}{it a:Á}{i:Nat} (x:eC h t it a i):∃ o,h.get? it=some o/\∀ v,o.data≠.cell v:=by
 cases t <;> (obtain⟨o,ho,_,d⟩:=x;exact⟨o,ho,λ v z=>by rw[d] at z;cases z⟩)
section
variable {prog:Ã}{M:Model}{A:Around}{E:À->Â->Prop}{s:Â}
theorem sG {a:Á}{Q:Option Obj->Â->Prop} (h:Q (s.heap.get? a) s):wpAny M A (loadIfAlive a) Q E s:=λ Γ p _=>by
 unfold loadIfAlive;rw[Sem.wp_loadIfAlive];exact h
theorem qO {it l:Á}{i:Nat}{items}{x:À}{Q:À->Â->Prop} (hit:s.heap.IsTupleIter it l i)
  (hl:s.heap.IsTuple l items) (hx:items[i]? = some x)
  (hQ:∀ h',h'.IsTupleIter it l (i+1)->Heap.SameBut it s.heap h'->Q x { s with heap:=h' }) :
  wpAny (model prog w) A (Builtin.SmallTypes.nextOf (.ref it)) Q E s:=by
 obtain⟨o,ho,hc,hd⟩:=id hit;obtain⟨ol,zy,_,nl,yk⟩:=hl;unfold Builtin.SmallTypes.nextOf;refine Æ (ň (name:=Str.ofString "__next__") hit.typeIs Ś
  (Ī Ś hit.typeIs F.entry_tuple_iterator_next ?_ (ae3 _)))
 show wpAny _ _ (field (.ref it) 0 >>= _) _ _ s;refine Æ (ì ho hd (x:=.ref l) rfl ?_);show wpAny _ _ (if (Value.ref l == Value.none)=true then _ else _) _ _ s;rw[Ä (show ¬ ((Value.ref l == Value.none)=true) from ç)];show wpAny _ _ (field (.ref it) 1 >>= _) _ _ s;refine Æ (ì ho hd (x:=.int i 0) rfl ?_);show wpAny _ _ (seqItems? (.ref l) >>= _) _ _ s;refine Æ (ÿ zy yk ?_);simp only [ĺ,hx];refine Æ (wpAny_setField ho hd (by simp) (Ë ⟨x,rfl,Ë (hQ _ ?_ (ź ..))⟩));exact⟨_,Ÿ _ ho (Obj.isFreed_of_fields (Obj.data_mapFields hd _)),(Obj.cls_mapFields ..).trans hc,by
  rw[Obj.data_mapFields hd];simp [rawInt]⟩
theorem rT {it l:Á}{i:Nat}{items}{Q:À->Â->Prop} (hh:A.handled=none)
  (hit:s.heap.IsTupleIter it l i) (hl:s.heap.IsTuple l items) (hx:items[i]? = none)
  (hE:∀ h' e,Heap.ExtBut it s.heap h'->(∃ o,h'.get? e=some o/\o.cls=.type "StopIteration")->E (.ref e) { s with heap:=h' }) :
  wpAny (model prog w) A (Builtin.SmallTypes.nextOf (.ref it)) Q E s:=by
 obtain⟨o,ho,hc,hd⟩:=id hit;obtain⟨ol,zy,_,nl,yk⟩:=hl;unfold Builtin.SmallTypes.nextOf;refine Æ (ň (name:=Str.ofString "__next__") hit.typeIs Ś
  (Ī Ś hit.typeIs F.entry_tuple_iterator_next ?_ (ae3 _)))
 show wpAny _ _ (field (.ref it) 0 >>= _) _ _ s;refine Æ (ì ho hd (x:=.ref l) rfl ?_);show wpAny _ _ (if (Value.ref l == Value.none)=true then _ else _) _ _ s;rw[Ä (show ¬ ((Value.ref l == Value.none)=true) from ç)];show wpAny _ _ (field (.ref it) 1 >>= _) _ _ s;refine Æ (ì ho hd (x:=.int i 0) rfl ?_);show wpAny _ _ (seqItems? (.ref l) >>= _) _ _ s;refine Æ (ÿ zy yk ?_);simp only [ĺ,hx];refine Æ (Ĝ (Æ (wpAny_setField ho hd (by simp) ?_)));show wpAny _ _ (newExc (.type "StopIteration") [] >>= _) _ _ _;refine Æ ?_;simp only [newExc,newTuple];refine Æ (Ŧ ?_ (by size_fits));refine Æ (m:=firstArgMember _ _) (wpAny_of_eq (a:=Value.none) (by first | rfl | (simp only [firstArgMember];rfl)) ?_);refine Ŧ ?_ (by size_fits);simp only [raiseNew];refine Æ (wpAny_handled ?_)
 first | rw[show A.in1.handled=none from hh] | rw[hh]
 refine Æ (Ë (wpAny_throw ?_));exact hE _ _ (((ź ..).extBut.push _).push _) ⟨_,Ü _ rfl,rfl⟩
theorem bO {t:Bool}{it l:Á}{i:Nat}{items}{x:À}{Q:À->Â->Prop} (hit:eC s.heap t it l i)
  (hl:cC s.heap t l items) (hx:items[i]? = some x)
  (hQ:∀ h',eC h' t it l (i+1)->Heap.SameBut it s.heap h'->Q x { s with heap:=h' }) :
  wpAny (model prog w) A (Builtin.SmallTypes.nextOf (.ref it)) Q E s:=by
 cases t with
 | true=>exact qO hit hl hx hQ
 | false=>exact wpAny_nextOf_list_item hit hl hx hQ
theorem dJ {t:Bool}{it l:Á}{i:Nat}{items}{Q:À->Â->Prop} (hh:A.handled=none)
  (hit:eC s.heap t it l i) (hl:cC s.heap t l items) (hx:items[i]? = none)
  (hE:∀ h' e,Heap.ExtBut it s.heap h'->(∃ o,h'.get? e=some o/\o.cls=.type "StopIteration")->E (.ref e) { s with heap:=h' }) :
  wpAny (model prog w) A (Builtin.SmallTypes.nextOf (.ref it)) Q E s:=by
 cases t with
 | true=>exact rT hh hit hl hx hE
 | false=>exact wpAny_nextOf_list_end hh hit hl hx hE
abbrev pB (h:Heap) (z TI TO:Á) (f0:À) (f1:Bool):Prop:=
 h.get? z=some { cls:=.type "zip",dict:=none,data:=.fields #[f0,.bool f1,.bool false,.ref TI,.ref TO],slots:=#[] }
abbrev dQ (h:Heap) (T:Á) (vs:Array À):Prop:=h.get? T=some { cls:=.type "tuple",data:=.seq vs }
def iG (f0:À):Prop:=f0=.none\/∃ a:Int,f0=.int a 0
theorem lA {z TI TO:Á}{f0:À}{f1:Bool}{Q:Bool->Â->Prop} (hz:pB s.heap z TI TO f0 f1) (hf:iG f0) (yes:Q true s)
  (no:∀ h',pB h' z TI TO f0 true->Heap.SameBut z s.heap h'->Q false { s with heap:=h' }):wpAny (model prog w) A (Builtin.SmallTypes.ownedTupleIsFree (.ref z)) Q E s:=by
 unfold Builtin.SmallTypes.ownedTupleIsFree;refine Æ (ì hz rfl (x:=f0) rfl ?_);rcases hf with rfl | ⟨a,rfl⟩
 ·exact Ë yes
 ·refine Æ (sG ?_);cases h:s.heap.get? a.toNat with
  | none=>exact Ë yes
  | some o=>
   show wpAny _ _ (field (.ref z) 1 >>= _) _ _ _;refine Æ (ì hz rfl (x:=.bool f1) rfl ?_);cases f1 with
   | true=>exact Ë (no s.heap hz (Ũ ..))
   | false=>
    show wpAny _ _ (setField (.ref z) 1 (.bool true) >>= _) _ _ _;refine Æ (Ą hz (by simp) λ h₁ ao ae=>Ë (no h₁ ao ae))
theorem GD {z TI TO:Á}{f0:À}{f1:Bool}{T:Á}{Q:Unit->Â->Prop} (hz:pB s.heap z TI TO f0 f1)
  (h:∀ h',pB h' z TI TO (rawInt T) false->Heap.SameBut z s.heap h'->Q () { s with heap:=h' }):wpAny (model prog w) A (Builtin.SmallTypes.ownedTupleHandOut (.ref z) (.ref T)) Q E s:=by
 unfold Builtin.SmallTypes.ownedTupleHandOut;refine Æ (Ą hz (by simp) λ h₁ ao ae=>?_);replace ao:pB h₁ z TI TO (rawInt T) f1:=ao;refine Ą ao (by simp) λ ap cb af=>?_;exact h ap cb (Heap.SameBut.trans ae af)
theorem jE {T:Á}{vs:Array À}{x:À}{k:Nat}{Q:Unit->Â->Prop} (hT:dQ s.heap T vs) (h3:vs.size<=3)
  (h:∀ h',dQ h' T (vs.setIfInBounds k x)->Heap.SameBut T s.heap h'->Q () { s with heap:=h' }):wpAny (model prog w) A (updateSeq T (·.setIfInBounds k x)) Q E s:=by
 have hl:vs.size<=sizeLine:=ë h3 (by decide);refine wpAny_updateSeq (hz:=hl) (_hz':=by rw[Array.size_setIfInBounds];lia) hT rfl (h _ ?_ (ź ..));show Heap.get? _ _=_;rw[Ÿ _ hT rfl];simp [Obj.mapSeq]
theorem nn {n i j:Nat} (h:i≠j):n+i≠n+j:=λ e=>h (Nat.add_left_cancel e)
theorem n0 {n j:Nat} (h:0 < j):n≠n+j:=λ e=>absurd e (é (Nat.lt_add_of_pos_right h))
theorem n0' {n j:Nat} (h:0 < j):n+j≠n:=Ne.symm (n0 h)
theorem al {a n:Nat} (h:a < n) (j:Nat):a≠n+j:=é (í h (ī n j))
theorem al0 {a n:Nat} (h:a < n):a≠n:=é h
theorem co {c n m k:Nat} (h:c < n\/n+m < c) (hk:k<=m):c≠n+k:=λ e=>h.elim (λ h=>absurd e (al h k)) λ h=>absurd (afk (Nat.add_le_add_left hk n) h) (by rw[e];exact Ē _)
theorem co0 {c n m:Nat} (h:c < n\/n+m < c):c≠n:=co (k:=0) h (ê m)
theorem bB {a b:Nat} (h:@Ne Nat a b:=by first | exact nn (by decide) | exact n0 (by decide) | exact n0' (by decide) | exact al l1 _ | exact al l2 _ | exact al l3 _ | exact al0 l1 | exact al0 l2 | exact al0 l3 | exact co hc (by decide) | exact co0 hc | lia):@Ne Nat a b:=h
theorem GY {n a1 a2 a3:Nat}{t1 t2 t3:Bool}{k:Nat}{xs ys zs:Array À}{x y z c1 c2 c3 f0:À}{f1:Bool}{Q:À->Â->Prop} (hf:iG f0)
  (hz:pB s.heap (n+5) (n+3) (n+4) f0 f1) (kz:dQ s.heap (n+3) #[.ref n,.ref (n+1),.ref (n+2)]) (lz:dQ s.heap (n+4) #[c1,c2,c3])
  (i1:eC s.heap t1 n a1 k) (i2:eC s.heap t2 (n+1) a2 k) (i3:eC s.heap t3 (n+2) a3 k) (s1:cC s.heap t1 a1 xs) (s2:cC s.heap t2 a2 ys) (s3:cC s.heap t3 a3 zs)
  (l1:a1 < n) (l2:a2 < n) (l3:a3 < n) (hx:xs[k]? = some x) (hy:ys[k]? = some y) (hw:zs[k]? = some z)
  (hQ:∀ (T:Nat) h' re vi d1 d2 d3,s.heap.objs.size<=T->iG re->pB h' (n+5) (n+3) (n+4) re vi->dQ h' (n+3) #[.ref n,.ref (n+1),.ref (n+2)]->dQ h' (n+4) #[d1,d2,d3]->
   eC h' t1 n a1 (k+1)->eC h' t2 (n+1) a2 (k+1)->eC h' t3 (n+2) a3 (k+1)->dQ h' T #[x,y,z]->
   (∀ (c:Nat) o,(c < n\/n+5 < c)->s.heap.get? c=some o->h'.get? c=some o)->Q (.ref T) { s with heap:=h' }) :
  wpAny (model prog w) A (Builtin.«zip.__next__» ⟨[.ref (n+5)],[]⟩) (λ fin s'=>∃ v,fin=.done (.ret v)/\Q v s') E s:=by
 have Au:n+5 < s.heap.objs.size:=Ö hz;show wpAny _ _ (field (.ref (n+5)) 2 >>= _) _ _ _;refine Æ (ì hz rfl (x:=.bool false) rfl ?_);show wpAny _ _ (field (.ref (n+5)) 3 >>= _) _ _ _;refine Æ (ì hz rfl (x:=.ref (n+3)) rfl ?_);refine Æ (ÿ kz rfl ?_);show wpAny _ _ (Builtin.SmallTypes.ownedTupleIsFree (.ref (n+5)) >>= _) _ _ _;refine Æ (lA hz hf ?_ ?_)
 ·simp only [if_true];refine Æ (Ĝ ?_);refine Æ (ì hz rfl (x:=.ref (n+4)) rfl ?_);refine Æ (Ą hz (by simp) λ h₁ ao ae=>?_);replace ao:pB h₁ (n+5) (n+3) (n+4) .ellipsis f1:=ao;refine Æ ?_;simp only [Ū,Ŭ,Ĭ,Į];refine Æ (Æ (ę ?_));show wpAny _ _ (Builtin.SmallTypes.nextOf (.ref n) >>= _) _ _ _;refine Æ (bO (i1.ext ae bB) (s1.ext ae bB) hx λ ap bp af=>Ë ?_);have bo:dQ ap (n+4) #[c1,c2,c3]:=ex af bB (ex ae bB lz);refine Æ (ÿ bo rfl ?_);refine Æ (jE bo (by simp) λ am bg ag=>?_);replace bg:dQ am (n+4) #[x,c2,c3]:=bg;refine Æ (ğ (Ë ?_));refine Æ (Æ (ę ?_));show wpAny _ _ (Builtin.SmallTypes.nextOf (.ref (n+1)) >>= _) _ _ _;refine Æ (bO (((i2.ext ae bB).ext af bB).ext ag bB) (((s2.ext ae bB).ext af bB).ext ag bB) hy λ au cg ai=>Ë ?_);have bw:dQ au (n+4) #[x,c2,c3]:=ex ai bB bg;refine Æ (ÿ bw rfl ?_);refine Æ (jE bw (by simp) λ bn ci az=>?_);replace ci:dQ bn (n+4) #[x,y,c3]:=ci;refine Æ (ğ (Ë ?_));refine Æ (Æ (ę ?_));show wpAny _ _ (Builtin.SmallTypes.nextOf (.ref (n+2)) >>= _) _ _ _;refine Æ (bO (((((i3.ext ae bB).ext af bB).ext ag bB).ext ai bB).ext az bB)
   (((((s3.ext ae bB).ext af bB).ext ag bB).ext ai bB).ext az bB) hw λ cf i3₆ bf=>Ë ?_)
  have fb:dQ cf (n+4) #[x,y,c3]:=ex bf bB ci;refine Æ (ÿ fb rfl ?_);refine Æ (jE fb (by simp) λ bc bq bj=>?_);replace bq:dQ bc (n+4) #[x,y,z]:=bq;refine Æ (ğ (Ë (Ë ?_)));refine Æ (ÿ bq rfl ?_);refine Æ (ŕ ?_);have hsz:bc.objs.size=s.heap.objs.size:=by rw[bj.1,bf.1,az.1,ai.1,ag.1,af.1,ae.1]
  have keep:∀ (c:Nat) o,(c < n\/n+5 < c)->s.heap.get? c=some o->bc.get? c=some o:=λ c o hc e=>
   ex bj bB (ex bf bB (ex az bB (ex ai bB (ex ag bB (ex af bB (ex ae bB e))))))
  have db:pB bc (n+5) (n+3) (n+4) .ellipsis f1:=ex bj bB (ex bf bB (ex az bB (ex ai bB (ex ag bB (ex af bB ao)))));have cu:dQ bc (n+3) #[.ref n,.ref (n+1),.ref (n+2)]:=ex bj bB (ex bf bB (ex az bB (ex ai bB (ex ag bB (ex af bB (ex ae bB kz))))));have df:=((((bp.ext ag bB).ext ai bB).ext az bB).ext bf bB).ext bj bB;have dh:=((cg.ext az bB).ext bf bB).ext bj bB;have i3₇:=i3₆.ext bj bB;have fz:n+5 < bc.objs.size:=by rw[hsz];exact Au
  have up:∀ {c o},bc.get? c=some o->(bc.push { cls:=.type "tuple",data:=.seq #[x,y,z] }).get? c=some o:=λ e=>Î _ e;refine Æ (GD (z:=n+5) (TI:=n+3) (TO:=n+4) (f0:=.ellipsis) (f1:=f1) (up db) λ cw dm cj=>?_);have vj:∀ {c:Nat}{o},c≠n+5->bc.get? c=some o->cw.get? c=some o:=λ hc e=>ex cj hc (up e);refine Ë ⟨_,rfl,hQ bc.objs.size cw (rawInt bc.objs.size) false x y z (by rw[hsz];exact Í _) (.inr ⟨_,rfl⟩) dm (vj bB cu) (vj bB bq) (df.at λ o e=>vj bB e) (dh.at λ o e=>vj bB e) (i3₇.at λ o e=>vj bB e)
   (ex cj bB (Ü _ rfl)) λ c o hc e=>vj bB (keep c o hc e)⟩
 ·intro h₁ ao ae;simp only [Ę,if_false];refine Æ ?_;rw[<- ť];simp only [Ĭ,Į];refine Æ (Æ (ô ?_));show wpAny _ _ (Builtin.SmallTypes.nextOf (.ref n) >>= _) _ _ _;refine Æ (bO (i1.ext ae bB) (s1.ext ae bB) hx λ ap bp af=>Ë (Ë ?_));refine Æ (Æ (ô ?_));show wpAny _ _ (Builtin.SmallTypes.nextOf (.ref (n+1)) >>= _) _ _ _;refine Æ (bO ((i2.ext ae bB).ext af bB) ((s2.ext ae bB).ext af bB) hy λ am fj ag=>Ë (Ë ?_));refine Æ (Æ (ô ?_));show wpAny _ _ (Builtin.SmallTypes.nextOf (.ref (n+2)) >>= _) _ _ _;refine Æ (bO (((i3.ext ae bB).ext af bB).ext ag bB) (((s3.ext ae bB).ext af bB).ext ag bB) hw λ au i3₄ ai=>Ë (Ë (Ë ?_)));refine Æ (ŕ (hsz:=by show 3<=sizeLine;decide) (Ë ⟨_,rfl,?_⟩));have hsz:au.objs.size=s.heap.objs.size:=by rw[ai.1,ag.1,af.1,ae.1]
  have up:∀ {c o},au.get? c=some o->(au.push { cls:=.type "tuple",data:=.seq #[x,y,z] }).get? c=some o:=λ e=>Î _ e;have keep:∀ (c:Nat) o,(c < n\/n+5 < c)->s.heap.get? c=some o->au.get? c=some o:=λ c o hc e=>ex ai bB (ex ag bB (ex af bB (ex ae bB e)));refine hQ au.objs.size (au.push { cls:=.type "tuple",data:=.seq #[x,y,z] }) f0 true c1 c2 c3 (by rw[hsz];exact Í _) hf (up (ex ai bB (ex ag bB (ex af bB ao))))
   (up (ex ai bB (ex ag bB (ex af bB (ex ae bB kz))))) (up (ex ai bB (ex ag bB (ex af bB (ex ae bB lz)))))
   (((bp.ext ag bB).ext ai bB).at λ o e=>up e) ((fj.ext ai bB).at λ o e=>up e) (i3₄.at λ o e=>up e) (Ü _ rfl) λ c o hc e=>up (keep c o hc e)
theorem JQ {n a1 a2 a3:Nat}{t1 t2 t3:Bool}{k:Nat}{xs ys zs:Array À}{c1 c2 c3 f0:À}{f1:Bool}{Q:Fin->Â->Prop} (hh:A.handled=none) (hf:iG f0)
  (hz:pB s.heap (n+5) (n+3) (n+4) f0 f1) (kz:dQ s.heap (n+3) #[.ref n,.ref (n+1),.ref (n+2)]) (lz:dQ s.heap (n+4) #[c1,c2,c3])
  (i1:eC s.heap t1 n a1 k) (i2:eC s.heap t2 (n+1) a2 k) (i3:eC s.heap t3 (n+2) a3 k) (s1:cC s.heap t1 a1 xs) (s2:cC s.heap t2 a2 ys) (s3:cC s.heap t3 a3 zs)
  (l1:a1 < n) (l2:a2 < n) (l3:a3 < n) (om:xs[k]? = none\/ys[k]? = none\/zs[k]? = none)
  (hE:∀ h' e,(∀ (c:Nat) o,(c < n\/n+5 < c)->s.heap.get? c=some o->h'.get? c=some o)->(∃ o,h'.get? e=some o/\o.cls=.type "StopIteration")->E (.ref e) { s with heap:=h' }) :
  wpAny (model prog w) A (Builtin.«zip.__next__» ⟨[.ref (n+5)],[]⟩) Q E s:=by
 show wpAny _ _ (field (.ref (n+5)) 2 >>= _) _ _ _;refine Æ (ì hz rfl (x:=.bool false) rfl ?_);show wpAny _ _ (field (.ref (n+5)) 3 >>= _) _ _ _;refine Æ (ì hz rfl (x:=.ref (n+3)) rfl ?_);refine Æ (ÿ kz rfl ?_);show wpAny _ _ (Builtin.SmallTypes.ownedTupleIsFree (.ref (n+5)) >>= _) _ _ _;refine Æ (lA hz hf ?_ ?_)
 ·simp only [if_true];refine Æ (Ĝ ?_);refine Æ (ì hz rfl (x:=.ref (n+4)) rfl ?_);refine Æ (Ą hz (by simp) λ h₁ ao ae=>?_);replace ao:pB h₁ (n+5) (n+3) (n+4) .ellipsis f1:=ao;refine Æ ?_;simp only [Ū,Ŭ,Ĭ,Į];have fin:∀ {ap am:Heap}{e j:Nat}{oe:Obj},pB ap (n+5) (n+3) (n+4) .ellipsis f1->Heap.ExtBut j ap am->@Ne Nat (n+5) j->(n<=j/\j<=n+5)->(∀ (c:Nat) o,(c < n\/n+5 < c)->s.heap.get? c=some o->ap.get? c=some o)->am.get? e=some oe->oe.cls=.type "StopIteration" ->
    wpAny (model prog w) A (setField (.ref (n+5)) 0 .none) (λ _ s'=>E (.ref e) s') E { s with heap:=am }:=λ {ap am e j oe} cb hx hj hr hk pj su=>by
   have bv:pB am (n+5) (n+3) (n+4) .ellipsis f1:=hx _ _ hj cb;have Pq:e≠n+5:=λ q=>by subst q;rw[bv] at pj;cases pj;simp at su
   refine Ą bv (by simp) λ au _ ai=>hE au e (λ c o hc q=>ex ai bB (hx c o (show @Ne Nat c j by lia) (hk c o hc q))) ⟨oe,ai.extBut _ _ Pq pj,su⟩
  refine Æ (Æ (ę ?_));show wpAny _ _ (Builtin.SmallTypes.nextOf (.ref n) >>= _) _ _ _;cases hx:xs[k]? with
  | none=>
   refine Æ (dJ hh (i1.ext ae bB) (s1.ext ae bB) hx λ ap e af he=>?_);obtain⟨oe,pj,su⟩:=he;exact fin ao af bB (by lia) (λ c o hc q=>ex ae bB q) pj su
  | some x=>
   refine Æ (bO (i1.ext ae bB) (s1.ext ae bB) hx λ ap bp af=>Ë ?_);have bo:dQ ap (n+4) #[c1,c2,c3]:=ex af bB (ex ae bB lz);refine Æ (ÿ bo rfl ?_);refine Æ (jE bo (by simp) λ am bg ag=>?_);replace bg:dQ am (n+4) #[x,c2,c3]:=bg;refine Æ (ğ (Ë ?_));have bv:pB am (n+5) (n+3) (n+4) .ellipsis f1:=ex ag bB (ex af bB ao);have dn:∀ (c:Nat) o,(c < n\/n+5 < c)->s.heap.get? c=some o->am.get? c=some o:=λ c o hc e=>ex ag bB (ex af bB (ex ae bB e));refine Æ (Æ (ę ?_));show wpAny _ _ (Builtin.SmallTypes.nextOf (.ref (n+1)) >>= _) _ _ _;cases hy:ys[k]? with
   | none=>
    refine Æ (dJ hh (((i2.ext ae bB).ext af bB).ext ag bB) (((s2.ext ae bB).ext af bB).ext ag bB) hy λ au e ai he=>?_);obtain⟨oe,pj,su⟩:=he;exact fin bv ai bB (by lia) dn pj su
   | some y=>
    have hw:zs[k]? = none:=by rcases om with h | h | h;rw[hx] at h;cases h;rw[hy] at h;cases h;exact h
    refine Æ (bO (((i2.ext ae bB).ext af bB).ext ag bB) (((s2.ext ae bB).ext af bB).ext ag bB) hy λ au cg ai=>Ë ?_);have bw:dQ au (n+4) #[x,c2,c3]:=ex ai bB bg;refine Æ (ÿ bw rfl ?_);refine Æ (jE bw (by simp) λ bn ci az=>?_);refine Æ (ğ (Ë ?_));refine Æ (Æ (ę ?_));show wpAny _ _ (Builtin.SmallTypes.nextOf (.ref (n+2)) >>= _) _ _ _;refine Æ (dJ hh (((((i3.ext ae bB).ext af bB).ext ag bB).ext ai bB).ext az bB)
     (((((s3.ext ae bB).ext af bB).ext ag bB).ext ai bB).ext az bB) hw λ cf e bf he=>?_)
    obtain⟨oe,pj,su⟩:=he;exact fin (ex az bB (ex ai bB bv)) bf bB (by lia) (λ c o hc q=>ex az bB (ex ai bB (dn c o hc q))) pj su
 ·intro h₁ ao ae;simp only [Ę,if_false];refine Æ ?_;rw[<- ť];simp only [Ĭ,Į];refine Æ (Æ (ô ?_));show wpAny _ _ (Builtin.SmallTypes.nextOf (.ref n) >>= _) _ _ _;cases hx:xs[k]? with
  | none=>
   refine Æ (dJ hh (i1.ext ae bB) (s1.ext ae bB) hx λ ap e af he=>?_);exact hE ap e (λ c o hc q=>af c o (show @Ne Nat c n by lia) (ex ae bB q)) he
  | some x=>
   refine Æ (bO (i1.ext ae bB) (s1.ext ae bB) hx λ ap bp af=>Ë (Ë ?_));refine Æ (Æ (ô ?_));show wpAny _ _ (Builtin.SmallTypes.nextOf (.ref (n+1)) >>= _) _ _ _;cases hy:ys[k]? with
   | none=>
    refine Æ (dJ hh ((i2.ext ae bB).ext af bB) ((s2.ext ae bB).ext af bB) hy λ am e ag he=>?_);exact hE am e (λ c o hc q=>ag c o (show @Ne Nat c (n+1) by lia) (ex af bB (ex ae bB q))) he
   | some y=>
    have hw:zs[k]? = none:=by rcases om with h | h | h;rw[hx] at h;cases h;rw[hy] at h;cases h;exact h
    refine Æ (bO ((i2.ext ae bB).ext af bB) ((s2.ext ae bB).ext af bB) hy λ am fj ag=>Ë (Ë ?_));refine Æ (Æ (ô ?_));show wpAny _ _ (Builtin.SmallTypes.nextOf (.ref (n+2)) >>= _) _ _ _;refine Æ (dJ hh (((i3.ext ae bB).ext af bB).ext ag bB) (((s3.ext ae bB).ext af bB).ext ag bB) hw λ au e ai he=>?_);exact hE au e (λ c o hc q=>ai c o (show @Ne Nat c (n+2) by lia) (ex ag bB (ex af bB (ex ae bB q)))) he
theorem GZ {n a1 a2:Nat}{t1 t2:Bool}{k:Nat}{xs ys:Array À}{x y c1 c2 f0:À}{f1:Bool}{Q:À->Â->Prop} (hf:iG f0)
  (hz:pB s.heap (n+4) (n+2) (n+3) f0 f1) (kz:dQ s.heap (n+2) #[.ref n,.ref (n+1)]) (lz:dQ s.heap (n+3) #[c1,c2])
  (i1:eC s.heap t1 n a1 k) (i2:eC s.heap t2 (n+1) a2 k) (s1:cC s.heap t1 a1 xs) (s2:cC s.heap t2 a2 ys)
  (l1:a1 < n) (l2:a2 < n) (hx:xs[k]? = some x) (hy:ys[k]? = some y)
  (hQ:∀ (T:Nat) h' re vi d1 d2,s.heap.objs.size<=T->iG re->pB h' (n+4) (n+2) (n+3) re vi->dQ h' (n+2) #[.ref n,.ref (n+1)]->dQ h' (n+3) #[d1,d2]->
   eC h' t1 n a1 (k+1)->eC h' t2 (n+1) a2 (k+1)->dQ h' T #[x,y]->
   (∀ (c:Nat) o,(c < n\/n+4 < c)->s.heap.get? c=some o->h'.get? c=some o)->Q (.ref T) { s with heap:=h' }) :
  wpAny (model prog w) A (Builtin.«zip.__next__» ⟨[.ref (n+4)],[]⟩) (λ fin s'=>∃ v,fin=.done (.ret v)/\Q v s') E s:=by
 have Au:n+4 < s.heap.objs.size:=Ö hz;show wpAny _ _ (field (.ref (n+4)) 2 >>= _) _ _ _;refine Æ (ì hz rfl (x:=.bool false) rfl ?_);show wpAny _ _ (field (.ref (n+4)) 3 >>= _) _ _ _;refine Æ (ì hz rfl (x:=.ref (n+2)) rfl ?_);refine Æ (ÿ kz rfl ?_);show wpAny _ _ (Builtin.SmallTypes.ownedTupleIsFree (.ref (n+4)) >>= _) _ _ _;refine Æ (lA hz hf ?_ ?_)
 ·simp only [if_true];refine Æ (Ĝ ?_);refine Æ (ì hz rfl (x:=.ref (n+3)) rfl ?_);refine Æ (Ą hz (by simp) λ h₁ ao ae=>?_);replace ao:pB h₁ (n+4) (n+2) (n+3) .ellipsis f1:=ao;refine Æ ?_;simp only [Ū,Ŭ,Ĭ,Į];refine Æ (Æ (ę ?_));show wpAny _ _ (Builtin.SmallTypes.nextOf (.ref n) >>= _) _ _ _;refine Æ (bO (i1.ext ae bB) (s1.ext ae bB) hx λ ap bp af=>Ë ?_);have bo:dQ ap (n+3) #[c1,c2]:=ex af bB (ex ae bB lz);refine Æ (ÿ bo rfl ?_);refine Æ (jE bo (by simp) λ am bg ag=>?_);replace bg:dQ am (n+3) #[x,c2]:=bg;refine Æ (ğ (Ë ?_));refine Æ (Æ (ę ?_));show wpAny _ _ (Builtin.SmallTypes.nextOf (.ref (n+1)) >>= _) _ _ _;refine Æ (bO (((i2.ext ae bB).ext af bB).ext ag bB) (((s2.ext ae bB).ext af bB).ext ag bB) hy λ au cg ai=>Ë ?_);have bw:dQ au (n+3) #[x,c2]:=ex ai bB bg;refine Æ (ÿ bw rfl ?_);refine Æ (jE bw (by simp) λ bc bq bj=>?_);replace bq:dQ bc (n+3) #[x,y]:=bq;refine Æ (ğ (Ë (Ë ?_)));refine Æ (ÿ bq rfl ?_);refine Æ (ŕ ?_);have hsz:bc.objs.size=s.heap.objs.size:=by rw[bj.1,ai.1,ag.1,af.1,ae.1]
  have keep:∀ (c:Nat) o,(c < n\/n+4 < c)->s.heap.get? c=some o->bc.get? c=some o:=λ c o hc e=>
   ex bj bB (ex ai bB (ex ag bB (ex af bB (ex ae bB e))))
  have db:pB bc (n+4) (n+2) (n+3) .ellipsis f1:=ex bj bB (ex ai bB (ex ag bB (ex af bB ao)));have cu:dQ bc (n+2) #[.ref n,.ref (n+1)]:=ex bj bB (ex ai bB (ex ag bB (ex af bB (ex ae bB kz))));have df:=((bp.ext ag bB).ext ai bB).ext bj bB;have dh:=cg.ext bj bB;have fz:n+4 < bc.objs.size:=by rw[hsz];exact Au
  have up:∀ {c o},bc.get? c=some o->(bc.push { cls:=.type "tuple",data:=.seq #[x,y] }).get? c=some o:=λ e=>Î _ e;refine Æ (GD (z:=n+4) (TI:=n+2) (TO:=n+3) (f0:=.ellipsis) (f1:=f1) (up db) λ cw dm cj=>?_);have vj:∀ {c:Nat}{o},c≠n+4->bc.get? c=some o->cw.get? c=some o:=λ hc e=>ex cj hc (up e);refine Ë ⟨_,rfl,hQ bc.objs.size cw (rawInt bc.objs.size) false x y (by rw[hsz];exact Í _) (.inr ⟨_,rfl⟩) dm (vj bB cu) (vj bB bq) (df.at λ o e=>vj bB e) (dh.at λ o e=>vj bB e)
   (ex cj bB (Ü _ rfl)) λ c o hc e=>vj bB (keep c o hc e)⟩
 ·intro h₁ ao ae;simp only [Ę,if_false];refine Æ ?_;rw[<- ť];simp only [Ĭ,Į];refine Æ (Æ (ô ?_));show wpAny _ _ (Builtin.SmallTypes.nextOf (.ref n) >>= _) _ _ _;refine Æ (bO (i1.ext ae bB) (s1.ext ae bB) hx λ ap bp af=>Ë (Ë ?_));refine Æ (Æ (ô ?_));show wpAny _ _ (Builtin.SmallTypes.nextOf (.ref (n+1)) >>= _) _ _ _;refine Æ (bO ((i2.ext ae bB).ext af bB) ((s2.ext ae bB).ext af bB) hy λ au cg ai=>Ë (Ë (Ë ?_)));refine Æ (ŕ (hsz:=by show 2<=sizeLine;decide) (Ë ⟨_,rfl,?_⟩));have hsz:au.objs.size=s.heap.objs.size:=by rw[ai.1,af.1,ae.1]
  have up:∀ {c o},au.get? c=some o->(au.push { cls:=.type "tuple",data:=.seq #[x,y] }).get? c=some o:=λ e=>Î _ e;have keep:∀ (c:Nat) o,(c < n\/n+4 < c)->s.heap.get? c=some o->au.get? c=some o:=λ c o hc e=>ex ai bB (ex af bB (ex ae bB e));refine hQ au.objs.size (au.push { cls:=.type "tuple",data:=.seq #[x,y] }) f0 true c1 c2 (by rw[hsz];exact Í _) hf (up (ex ai bB (ex af bB ao)))
   (up (ex ai bB (ex af bB (ex ae bB kz)))) (up (ex ai bB (ex af bB (ex ae bB lz))))
   ((bp.ext ai bB).at λ o e=>up e) (cg.at λ o e=>up e) (Ü _ rfl) λ c o hc e=>up (keep c o hc e)
theorem JR {n a1 a2:Nat}{t1 t2:Bool}{k:Nat}{xs ys:Array À}{c1 c2 f0:À}{f1:Bool}{Q:Fin->Â->Prop} (hh:A.handled=none) (hf:iG f0)
  (hz:pB s.heap (n+4) (n+2) (n+3) f0 f1) (kz:dQ s.heap (n+2) #[.ref n,.ref (n+1)]) (lz:dQ s.heap (n+3) #[c1,c2])
  (i1:eC s.heap t1 n a1 k) (i2:eC s.heap t2 (n+1) a2 k) (s1:cC s.heap t1 a1 xs) (s2:cC s.heap t2 a2 ys)
  (l1:a1 < n) (l2:a2 < n) (om:xs[k]? = none\/ys[k]? = none)
  (hE:∀ h' e,(∀ (c:Nat) o,(c < n\/n+4 < c)->s.heap.get? c=some o->h'.get? c=some o)->(∃ o,h'.get? e=some o/\o.cls=.type "StopIteration")->E (.ref e) { s with heap:=h' }) :
  wpAny (model prog w) A (Builtin.«zip.__next__» ⟨[.ref (n+4)],[]⟩) Q E s:=by
 show wpAny _ _ (field (.ref (n+4)) 2 >>= _) _ _ _;refine Æ (ì hz rfl (x:=.bool false) rfl ?_);show wpAny _ _ (field (.ref (n+4)) 3 >>= _) _ _ _;refine Æ (ì hz rfl (x:=.ref (n+2)) rfl ?_);refine Æ (ÿ kz rfl ?_);show wpAny _ _ (Builtin.SmallTypes.ownedTupleIsFree (.ref (n+4)) >>= _) _ _ _;refine Æ (lA hz hf ?_ ?_)
 ·simp only [if_true];refine Æ (Ĝ ?_);refine Æ (ì hz rfl (x:=.ref (n+3)) rfl ?_);refine Æ (Ą hz (by simp) λ h₁ ao ae=>?_);replace ao:pB h₁ (n+4) (n+2) (n+3) .ellipsis f1:=ao;refine Æ ?_;simp only [Ū,Ŭ,Ĭ,Į];have fin:∀ {ap am:Heap}{e j:Nat}{oe:Obj},pB ap (n+4) (n+2) (n+3) .ellipsis f1->Heap.ExtBut j ap am->@Ne Nat (n+4) j->(n<=j/\j<=n+4)->(∀ (c:Nat) o,(c < n\/n+4 < c)->s.heap.get? c=some o->ap.get? c=some o)->am.get? e=some oe->oe.cls=.type "StopIteration" ->
    wpAny (model prog w) A (setField (.ref (n+4)) 0 .none) (λ _ s'=>E (.ref e) s') E { s with heap:=am }:=λ {ap am e j oe} cb hx hj hr hk pj su=>by
   have bv:pB am (n+4) (n+2) (n+3) .ellipsis f1:=hx _ _ hj cb;have Pq:e≠n+4:=λ q=>by subst q;rw[bv] at pj;cases pj;simp at su
   refine Ą bv (by simp) λ au _ ai=>hE au e (λ c o hc q=>ex ai bB (hx c o (show @Ne Nat c j by lia) (hk c o hc q))) ⟨oe,ai.extBut _ _ Pq pj,su⟩
  refine Æ (Æ (ę ?_));show wpAny _ _ (Builtin.SmallTypes.nextOf (.ref n) >>= _) _ _ _;cases hx:xs[k]? with
  | none=>
   refine Æ (dJ hh (i1.ext ae bB) (s1.ext ae bB) hx λ ap e af he=>?_);obtain⟨oe,pj,su⟩:=he;exact fin ao af bB (by lia) (λ c o hc q=>ex ae bB q) pj su
  | some x=>
   have hy:ys[k]? = none:=by rcases om with h | h;rw[hx] at h;cases h;exact h
   refine Æ (bO (i1.ext ae bB) (s1.ext ae bB) hx λ ap bp af=>Ë ?_);have bo:dQ ap (n+3) #[c1,c2]:=ex af bB (ex ae bB lz);refine Æ (ÿ bo rfl ?_);refine Æ (jE bo (by simp) λ am bg ag=>?_);refine Æ (ğ (Ë ?_));have bv:pB am (n+4) (n+2) (n+3) .ellipsis f1:=ex ag bB (ex af bB ao);have dn:∀ (c:Nat) o,(c < n\/n+4 < c)->s.heap.get? c=some o->am.get? c=some o:=λ c o hc e=>ex ag bB (ex af bB (ex ae bB e));refine Æ (Æ (ę ?_));show wpAny _ _ (Builtin.SmallTypes.nextOf (.ref (n+1)) >>= _) _ _ _;refine Æ (dJ hh (((i2.ext ae bB).ext af bB).ext ag bB) (((s2.ext ae bB).ext af bB).ext ag bB) hy λ au e ai he=>?_);obtain⟨oe,pj,su⟩:=he;exact fin bv ai bB (by lia) dn pj su
 ·intro h₁ ao ae;simp only [Ę,if_false];refine Æ ?_;rw[<- ť];simp only [Ĭ,Į];refine Æ (Æ (ô ?_));show wpAny _ _ (Builtin.SmallTypes.nextOf (.ref n) >>= _) _ _ _;cases hx:xs[k]? with
  | none=>
   refine Æ (dJ hh (i1.ext ae bB) (s1.ext ae bB) hx λ ap e af he=>?_);exact hE ap e (λ c o hc q=>af c o (show @Ne Nat c n by lia) (ex ae bB q)) he
  | some x=>
   have hy:ys[k]? = none:=by rcases om with h | h;rw[hx] at h;cases h;exact h
   refine Æ (bO (i1.ext ae bB) (s1.ext ae bB) hx λ ap bp af=>Ë (Ë ?_));refine Æ (Æ (ô ?_));show wpAny _ _ (Builtin.SmallTypes.nextOf (.ref (n+1)) >>= _) _ _ _;refine Æ (dJ hh ((i2.ext ae bB).ext af bB) ((s2.ext ae bB).ext af bB) hy λ am e ag he=>?_);exact hE am e (λ c o hc q=>ag c o (show @Ne Nat c (n+1) by lia) (ex af bB (ex ae bB q))) he
theorem kX {z TI TO:Á}{f0:À}{f1:Bool}{Q:Option À->Â->Prop} (hz:pB s.heap z TI TO f0 f1)
  (h:wpAny (model prog w) A.in1 (Builtin.«zip.__next__» ⟨[.ref z],[]⟩) (λ fin s'=>∃ v,fin=.done (.ret v)/\Q (some v) s') (λ e s'=>(∃ a o,e=.ref a/\s'.heap.get? a=some o/\o.cls=.type "StopIteration")/\Q none s') s) :
  wpAny (model prog w) A (pyNext (.ref z)) Q E s:=by
 have hT:s.TypeIs (.ref z) "zip" := ⟨_,hz,rfl⟩;unfold pyNext;refine Æ (Ů (ň (name:=Str.ofString "__next__") hT F.slot_zip_next
  (Ī F.slot_zip_next hT F.entry_zip_next (ò h (λ fin s' h'=>?_) λ e s' h'=>?_) (F.args_zip_next_1 _))))
 ·obtain⟨v,rfl,q⟩:=h';exact⟨v,rfl,Ë q⟩
 ·obtain⟨⟨a,o,rfl,ho,hc⟩,q⟩:=h';exact Æ (wpAny_isInstance (T := "StopIteration") (b:=true) ⟨o,ho,hc⟩ isSubtype_stop (Ë q))
theorem xS {tg:Expr}{z TI TO T:Á}{f0:À}{f1:Bool}{Q:Unit->Â->Prop} (hf:iG f0) (hz:pB s.heap z TI TO f0 f1)
  (hQ:∀ h' re,iG re->pB h' z TI TO re f1->Heap.SameBut z s.heap h'->Q () { s with heap:=h' }):wpAny (model prog w) A (letOwnedTupleGo tg (.ref z) (.ref T)) Q E s:=by
 have same:Q () s:=hQ s.heap f0 hf hz (Ũ ..);have core:wpAny (model prog w) A (do
   let o <- load z
   match o.cls,o.data with
   | .type n,.fields vs=>
    if ["enumerate","zip","dict_itemiterator","dict_reverseitemiterator","odict_iterator","itertools.zip_longest","itertools.pairwise"].contains n && vs[0]? == some (rawInt T) then
     rule "for.unpacks-the-owned-tuple"
     updateField z 0 .none
   | _,_=>pure ()) Q E s:=by
  refine Æ (wpAny_load hz ?_);show wpAny _ _ (if (["enumerate","zip","dict_itemiterator","dict_reverseitemiterator","odict_iterator","itertools.zip_longest","itertools.pairwise"].contains "zip" &&
   (#[f0,.bool f1,.bool false,.ref TI,.ref TO]:Array À)[0]? == some (rawInt T))=true then _ else _) Q E s
  split
  ·refine Æ (Ĝ ?_);show wpAny _ _ (setField (.ref z) 0 .none) Q E s;exact Ą hz (by simp) λ h' sr zx=>hQ h' .none (.inl rfl) sr zx
  ·exact Ë same
 unfold letOwnedTupleGo;cases tg <;> first
  | exact Ë same
  | exact core
theorem kY {z TI TO:Á}{f0:À}{f1:Bool}{Q:À->Â->Prop} (hz:pB s.heap z TI TO f0 f1) (h:Q (.ref z) s):wpAny (model prog w) A (pyIter (.ref z)) Q E s:=by
 have hT:s.TypeIs (.ref z) "zip" := ⟨_,hz,rfl⟩;refine wpAny_pyIter_slot hT F.slot_zip_iter (Ī F.slot_zip_iter hT F.entry_zip_iter ?_ (F.args_zip_iter_1 _));show wpAny _ _ (ret (.ref z)) _ _ s;exact Ë ⟨_,rfl,"zip",_,hT,F.slot_zip_next.lookup,h⟩
def wC (t:Bool) (a:Á):Obj:={ cls:=.type (if t=true then "tuple_iterator" else "list_iterator"),data:=.fields #[.ref a,.int 0 0] }
theorem fK {t:Bool}{a:Á}{items:Array À}{Q:À->Â->Prop} (hs:cC s.heap t a items) (hQ:Q (.ref s.heap.objs.size) { s with heap:=s.heap.push (wC t a) }) :
  wpAny (model prog w) A (pyIter (.ref a)) Q E s:=by
 cases t with
 | true=>exact ţ hs hQ
 | false=>exact ŧ hs hQ
theorem kG {h:Heap}{t:Bool}{a it:Á} (e:h.get? it=some (wC t a)):eC h t it a 0:=by
 cases t <;> exact⟨_,e,rfl,rfl⟩
abbrev zA (h:Heap) (t:Bool) (a:Á):Heap:=h.push (wC t a)
abbrev NY (h:Heap) (vs:List À):Heap:=h.push { cls:=.type "tuple",data:=.seq vs.toArray }
abbrev z2B (h:Heap) (t1 t2:Bool) (l1 l2:Á):Heap:=NY (zA (zA h t1 l1) t2 l2) [.ref h.objs.size,.ref (zA h t1 l1).objs.size]
abbrev z2H (h:Heap) (t1 t2:Bool) (l1 l2:Á):Heap:=NY (z2B h t1 t2 l1 l2) [.none,.none]
abbrev TY (h:Heap) (t1 t2:Bool) (l1 l2:Á):Heap:=(z2H h t1 t2 l1 l2).push { cls:=.type "zip",data:=.fields #[.none,.bool false,.bool false,.ref (zA (zA h t1 l1) t2 l2).objs.size,.ref (z2B h t1 t2 l1 l2).objs.size] }
abbrev z3B (h:Heap) (t1 t2 t3:Bool) (l1 l2 l3:Á):Heap:=NY (zA (zA (zA h t1 l1) t2 l2) t3 l3) [.ref h.objs.size,.ref (zA h t1 l1).objs.size,.ref (zA (zA h t1 l1) t2 l2).objs.size]
abbrev z3H (h:Heap) (t1 t2 t3:Bool) (l1 l2 l3:Á):Heap:=NY (z3B h t1 t2 t3 l1 l2 l3) [.none,.none,.none]
abbrev RB (h:Heap) (t1 t2 t3:Bool) (l1 l2 l3:Á):Heap:=(z3H h t1 t2 t3 l1 l2 l3).push { cls:=.type "zip",data:=.fields #[.none,.bool false,.bool false,.ref (zA (zA (zA h t1 l1) t2 l2) t3 l3).objs.size,.ref (z3B h t1 t2 t3 l1 l2 l3).objs.size] }
theorem E8 (t1 t2:Bool) (l1 l2:Á) (xs ys:Array À) :
  Meets (Builtin.«zip.__new__» ⟨[.type "zip",.ref l1,.ref l2],[]⟩) (λ _ R s=>cC s.heap t1 l1 xs/\cC s.heap t2 l2 ys/\
   R (.ok (.ret (.ref (z2H s.heap t1 t2 l1 l2).objs.size))) { s with heap:=TY s.heap t1 t2 l1 l2 }):=
 .of_wp λ prog w A R s h=>by
  obtain⟨hp,g,d,tk,os⟩:=s;obtain⟨vk,uj,h⟩:=h;have Eb:=sub_zip;have Pr:cC (Shared.heap ⟨hp,g,d,tk,os⟩) t1 l1 xs:=vk;have Ps:cC (Shared.heap ⟨hp.push (wC t1 l1),g,d,tk,os⟩) t2 l2 ys:=uj.at λ o e=>Î _ e
  wp_walk using fK Pr,fK Ps
  exact⟨_,rfl,h⟩
theorem E7 (t1 t2 t3:Bool) (l1 l2 l3:Á) (xs ys zs:Array À) :
  Meets (Builtin.«zip.__new__» ⟨[.type "zip",.ref l1,.ref l2,.ref l3],[]⟩) (λ _ R s=>cC s.heap t1 l1 xs/\cC s.heap t2 l2 ys/\cC s.heap t3 l3 zs/\
   R (.ok (.ret (.ref (z3H s.heap t1 t2 t3 l1 l2 l3).objs.size))) { s with heap:=RB s.heap t1 t2 t3 l1 l2 l3 }):=
 .of_wp λ prog w A R s h=>by
  obtain⟨hp,g,d,tk,os⟩:=s;obtain⟨vk,uj,Ec,h⟩:=h;have Eb:=sub_zip;have Pr:cC (Shared.heap ⟨hp,g,d,tk,os⟩) t1 l1 xs:=vk;have Ps:cC (Shared.heap ⟨hp.push (wC t1 l1),g,d,tk,os⟩) t2 l2 ys:=uj.at λ o e=>Î _ e;have hL3:cC (Shared.heap ⟨(hp.push (wC t1 l1)).push (wC t2 l2),g,d,tk,os⟩) t3 l3 zs:=Ec.at λ o e=>Î _ (Î _ e)
  wp_walk using fK Pr,fK Ps,fK hL3
  exact⟨_,rfl,h⟩
theorem uB (a b c:À):checkTypeCall "zip" ⟨[a,b,c],[]⟩=pure ():=by kernel_rfl
theorem wT (a b c:À):checkBuiltinCall "zip.__new__" ⟨[.type "zip",a,b,c],[]⟩=pure ():=by kernel_rfl
theorem oZ (a b c d:À):argsOk "object.__init__" ⟨[a,b,c,d],[]⟩:=by
 unfold argsOk;rw[signature?_of (id := "object.__init__") (n:=['_','_','t','i','n','i','_','_']) (o:=['t','c','e','j','b','o']) (by kernel_rfl) F.owner_object];kernel_rfl
theorem JB {t1 t2:Bool}{l1 l2:Á}{xs ys:Array À}{Q:À->Â->Prop} (vk:cC s.heap t1 l1 xs) (uj:cC s.heap t2 l2 ys)
  (h:∀ h',pB h' (s.heap.objs.size+4) (s.heap.objs.size+2) (s.heap.objs.size+3) .none false->dQ h' (s.heap.objs.size+2) #[.ref s.heap.objs.size,.ref (s.heap.objs.size+1)]->
   dQ h' (s.heap.objs.size+3) #[.none,.none]->eC h' t1 s.heap.objs.size l1 0->eC h' t2 (s.heap.objs.size+1) l2 0->
   (∀ c o,s.heap.get? c=some o->h'.get? c=some o)->Q (.ref (s.heap.objs.size+4)) { s with heap:=h' }):wpAny (model prog w) A (call (.type "zip") [.ref l1,.ref l2]) Q E s:=by
 refine callType_new F.called_zip (by decide) (F.typeCall_zip_2 _ _) (F.newCall_zip_2 _ _) (λ obj=>F.args_object_init_3 obj _ _) F.entry_zip_new (E8 t1 t2 l1 l2 xs ys) ⟨vk,uj,?_⟩;generalize s.heap=h0 at *;have z1:(zA h0 t1 l1).objs.size=h0.objs.size+1:=ċ ..;have z2:(zA (zA h0 t1 l1) t2 l2).objs.size=h0.objs.size+2:=by rw[ċ,z1]
 have z3:(z2B h0 t1 t2 l1 l2).objs.size=h0.objs.size+3:=by rw[ċ,z2]
 have z4:(z2H h0 t1 t2 l1 l2).objs.size=h0.objs.size+4:=by rw[ċ,z3]
 have g5:(TY h0 t1 t2 l1 l2).get? (z2H h0 t1 t2 l1 l2).objs.size=some _:=Ü _ rfl;have g4:(TY h0 t1 t2 l1 l2).get? (z2B h0 t1 t2 l1 l2).objs.size=some _:=Î _ (Ü _ rfl);have g3:(TY h0 t1 t2 l1 l2).get? (zA (zA h0 t1 l1) t2 l2).objs.size=some _:=Î _ (Î _ (Ü _ rfl));have g2:(TY h0 t1 t2 l1 l2).get? (zA h0 t1 l1).objs.size=some _:=Î _ (Î _ (Î _ (Ü _ rfl)));have g1:(TY h0 t1 t2 l1 l2).get? h0.objs.size=some _:=Î _ (Î _ (Î _ (Î _ (Ü _ rfl))));show _/\_;rw[z2,z3,z4] at g5;rw[z1,z2] at g3;rw[z3] at g4;rw[z1] at g2;rw[z4];exact⟨⟨_,g5,rfl⟩,h _ g5 g3 g4 (kG g1) (kG g2) λ c o x=>Î _ (Î _ (Î _ (Î _ (Î _ x))))⟩
theorem JA {t1 t2 t3:Bool}{l1 l2 l3:Á}{xs ys zs:Array À}{Q:À->Â->Prop} (vk:cC s.heap t1 l1 xs) (uj:cC s.heap t2 l2 ys) (Ec:cC s.heap t3 l3 zs)
  (h:∀ h',pB h' (s.heap.objs.size+5) (s.heap.objs.size+3) (s.heap.objs.size+4) .none false->dQ h' (s.heap.objs.size+3) #[.ref s.heap.objs.size,.ref (s.heap.objs.size+1),.ref (s.heap.objs.size+2)]->
   dQ h' (s.heap.objs.size+4) #[.none,.none,.none]->eC h' t1 s.heap.objs.size l1 0->eC h' t2 (s.heap.objs.size+1) l2 0->eC h' t3 (s.heap.objs.size+2) l3 0->
   (∀ c o,s.heap.get? c=some o->h'.get? c=some o)->Q (.ref (s.heap.objs.size+5)) { s with heap:=h' }):wpAny (model prog w) A (call (.type "zip") [.ref l1,.ref l2,.ref l3]) Q E s:=by
 refine callType_new F.called_zip (by decide) (uB _ _ _) (wT _ _ _) (λ obj=>oZ obj _ _ _) F.entry_zip_new (E7 t1 t2 t3 l1 l2 l3 xs ys zs) ⟨vk,uj,Ec,?_⟩;generalize s.heap=h0 at *;have z1:(zA h0 t1 l1).objs.size=h0.objs.size+1:=ċ ..;have z2:(zA (zA h0 t1 l1) t2 l2).objs.size=h0.objs.size+2:=by rw[ċ,z1]
 have Pt:(zA (zA (zA h0 t1 l1) t2 l2) t3 l3).objs.size=h0.objs.size+3:=by rw[ċ,z2]
 have z3:(z3B h0 t1 t2 t3 l1 l2 l3).objs.size=h0.objs.size+4:=by rw[ċ,Pt]
 have z4:(z3H h0 t1 t2 t3 l1 l2 l3).objs.size=h0.objs.size+5:=by rw[ċ,z3]
 have g5:(RB h0 t1 t2 t3 l1 l2 l3).get? (z3H h0 t1 t2 t3 l1 l2 l3).objs.size=some _:=Ü _ rfl;have g4:(RB h0 t1 t2 t3 l1 l2 l3).get? (z3B h0 t1 t2 t3 l1 l2 l3).objs.size=some _:=Î _ (Ü _ rfl);have g3:(RB h0 t1 t2 t3 l1 l2 l3).get? (zA (zA (zA h0 t1 l1) t2 l2) t3 l3).objs.size=some _:=Î _ (Î _ (Ü _ rfl));have Kv:(RB h0 t1 t2 t3 l1 l2 l3).get? (zA (zA h0 t1 l1) t2 l2).objs.size=some _:=Î _ (Î _ (Î _ (Ü _ rfl)));have g2:(RB h0 t1 t2 t3 l1 l2 l3).get? (zA h0 t1 l1).objs.size=some _:=Î _ (Î _ (Î _ (Î _ (Ü _ rfl))));have g1:(RB h0 t1 t2 t3 l1 l2 l3).get? h0.objs.size=some _:=Î _ (Î _ (Î _ (Î _ (Î _ (Ü _ rfl)))));show _/\_;rw[Pt,z3,z4] at g5;rw[z1,z2,Pt] at g3;rw[z3] at g4;rw[z2] at Kv;rw[z1] at g2;rw[z4];exact⟨⟨_,g5,rfl⟩,h _ g5 g3 g4 (kG g1) (kG g2) (kG Kv) λ c o x=>Î _ (Î _ (Î _ (Î _ (Î _ (Î _ x)))))⟩
end
end TwZ
namespace TwZ
open PySem
open Sem (wp)
open AutoSeq1 (wpAny_loadPart')
section
variable {prog:Ã}{M:Model}{A:Around}{E:À->Â->Prop}{s:Â}
abbrev jR (h:Heap) (e it:Á) (f0:À) (f1:Bool) (i:Int) (jz:À):Prop:=
 h.get? e=some { cls:=.type "enumerate",dict:=none,data:=.fields #[f0,.bool f1,.ref it,rawInt i,.none,jz],slots:=#[] }
theorem BC {e it:Á}{f0:À}{f1:Bool}{i:Int}{jz:À}{Q:Bool->Â->Prop} (hz:jR s.heap e it f0 f1 i jz) (hf:iG f0) (yes:Q true s)
  (no:∀ h',jR h' e it f0 true i jz->Heap.SameBut e s.heap h'->Q false { s with heap:=h' }):wpAny (model prog w) A (Builtin.SmallTypes.ownedTupleIsFree (.ref e)) Q E s:=by
 unfold Builtin.SmallTypes.ownedTupleIsFree;refine Æ (ì hz rfl (x:=f0) rfl ?_);rcases hf with rfl | ⟨a,rfl⟩
 ·exact Ë yes
 ·refine Æ (sG ?_);cases h:s.heap.get? a.toNat with
  | none=>exact Ë yes
  | some o=>
   show wpAny _ _ (field (.ref e) 1 >>= _) _ _ _;refine Æ (ì hz rfl (x:=.bool f1) rfl ?_);cases f1 with
   | true=>exact Ë (no s.heap hz (Ũ ..))
   | false=>
    show wpAny _ _ (setField (.ref e) 1 (.bool true) >>= _) _ _ _;refine Æ (Ą hz (by simp) λ h₁ ao ae=>Ë (no h₁ ao ae))
theorem MZ {e it:Á}{f0:À}{f1:Bool}{i:Int}{jz:À}{T:Á}{Q:Unit->Â->Prop} (hz:jR s.heap e it f0 f1 i jz)
  (h:∀ h',jR h' e it (rawInt T) false i jz->Heap.SameBut e s.heap h'->Q () { s with heap:=h' }):wpAny (model prog w) A (Builtin.SmallTypes.ownedTupleHandOut (.ref e) (.ref T)) Q E s:=by
 unfold Builtin.SmallTypes.ownedTupleHandOut;refine Æ (Ą hz (by simp) λ h₁ ao ae=>?_);replace ao:jR h₁ e it (rawInt T) f1 i jz:=ao;refine Ą ao (by simp) λ ap cb af=>?_;exact h ap cb (Heap.SameBut.trans ae af)
theorem IV {n a:Nat}{t:Bool}{k:Nat}{xs:Array À}{x jz f0:À}{f1:Bool}{Q:À->Â->Prop} (hf:iG f0)
  (he:jR s.heap (n+1) n f0 f1 k jz) (i1:eC s.heap t n a k) (s1:cC s.heap t a xs) (l1:a < n) (hx:xs[k]? = some x)
  (hQ:∀ (T:Nat) h' re vi ym,s.heap.objs.size<=T->iG re->jR h' (n+1) n re vi ((k:Int)+1) ym->eC h' t n a (k+1)->dQ h' T #[.int k s.toks,x]->
   (∀ (c:Nat) o,(c < n\/n+1 < c)->s.heap.get? c=some o->h'.get? c=some o)->Q (.ref T) { s with heap:=h',toks:=s.toks+1 }) :
  wpAny (model prog w) A (Builtin.«enumerate.__next__» ⟨[.ref (n+1)],[]⟩) (λ fin s'=>∃ v,fin=.done (.ret v)/\Q v s') E s:=by
 obtain⟨hp,g,d,tk,os⟩:=s;have Pu:n+1 < hp.objs.size:=Ö he;show wpAny _ _ (field (.ref (n+1)) 2 >>= _) _ _ _;refine Æ (ì he rfl (x:=.ref n) rfl ?_);refine Æ (bO i1 s1 hx λ h₁ i1₁ ae=>?_);replace ae:Heap.SameBut n hp h₁:=ae;have dq:jR h₁ (n+1) n f0 f1 k jz:=ex ae (by lia) he;show wpAny _ _ (field (.ref (n+1)) 3 >>= _) _ _ ⟨h₁,g,d,tk,os⟩;refine Æ (ì dq rfl (x:=rawInt k) rfl ?_);show wpAny _ _ (field (.ref (n+1)) 4 >>= _) _ _ ⟨h₁,g,d,tk,os⟩;refine Æ (ì dq rfl (x:=.none) rfl ?_);show wpAny _ _ (mkInt k >>= _) _ _ ⟨h₁,g,d,tk,os⟩;refine Æ (wpAny_mkInt ?_);show wpAny _ _ (setField (.ref (n+1)) 3 (rawInt ((k:Int)+1)) >>= _) _ _ ⟨h₁,g,d,tk+1,os⟩;refine Æ (Ą dq (by simp) λ ap dt af=>?_);replace af:Heap.SameBut (n+1) h₁ ap:=af;replace dt:jR ap (n+1) n f0 f1 ((k:Int)+1) jz:=dt;show wpAny _ _ (setField (.ref (n+1)) 4 .none >>= _) _ _ ⟨ap,g,d,tk+1,os⟩;refine Æ (Ą dt (by simp) λ am du ag=>?_);replace ag:Heap.SameBut (n+1) ap am:=ag;replace du:jR am (n+1) n f0 f1 ((k:Int)+1) jz:=du;show wpAny _ _ (newTuple [.int k tk,x] >>= _) _ _ ⟨am,g,d,tk+1,os⟩;refine Æ (ŕ ?_);have cp:jR (am.push { cls:=.type "tuple",data:=.seq #[.int k tk,x] }) (n+1) n f0 f1 ((k:Int)+1) jz:=Î _ du;have hsz:am.objs.size=hp.objs.size:=by rw[ag.1,af.1,ae.1]
 have dv:dQ (am.push { cls:=.type "tuple",data:=.seq #[.int k tk,x] }) am.objs.size #[.int k tk,x]:=Ü _ rfl;have fg:∀ (c:Nat) o,(c < n\/n+1 < c)->hp.get? c=some o->(am.push { cls:=.type "tuple",data:=.seq #[.int k tk,x] }).get? c=some o:=λ c o hc e=>
  Î _ (ex ag (by lia) (ex af (by lia) (ex ae (by lia) e)))
 have dw:eC (am.push { cls:=.type "tuple",data:=.seq #[.int k tk,x] }) t n a (k+1):=((i1₁.ext af (by lia)).ext ag (by lia)).at λ o e=>Î _ e;have hlt₃:n+1 < am.objs.size:=by rw[hsz];exact Pu
 generalize hh₄:am.push { cls:=.type "tuple",data:=.seq #[.int k tk,x] }=au at cp dv fg dw;have Ed:hp.objs.size<=am.objs.size:=ķ hsz.symm;show wpAny _ _ (Builtin.SmallTypes.ownedTupleIsFree (.ref (n+1)) >>= _) _ _ ⟨au,g,d,tk+1,os⟩;refine Æ (BC cp hf ?_ ?_)
 ·simp only [if_true];refine Æ (Ĝ ?_);refine Æ (ì cp rfl (x:=jz) rfl ?_);refine Æ (Ą cp (by simp) λ bn ck az=>?_);replace az:Heap.SameBut (n+1) au bn:=az;replace ck:jR bn (n+1) n f0 f1 ((k:Int)+1) x:=ck;refine Æ (MZ (s:=⟨bn,g,d,tk+1,os⟩) ck λ cf he₆ bf=>?_);replace bf:Heap.SameBut (n+1) bn cf:=bf;refine Æ (ğ (Ë ⟨_,rfl,?_⟩));exact hQ am.objs.size cf _ _ _ Ed (.inr ⟨_,rfl⟩) he₆ ((dw.ext az (by lia)).ext bf (by lia)) (ex bf (by lia) (ex az (by lia) dv)) λ c o hc e=>ex bf (by lia) (ex az (by lia) (fg c o hc e))
 ·intro bn ck az;replace az:Heap.SameBut (n+1) au bn:=az;simp only [Ę,if_false];refine Ë ⟨_,rfl,?_⟩;exact hQ am.objs.size bn _ _ _ Ed hf ck (dw.ext az (by lia)) (ex az (by lia) dv) λ c o hc e=>ex az (by lia) (fg c o hc e)
theorem NA {n a:Nat}{t:Bool}{k:Nat}{xs:Array À}{jz f0:À}{f1:Bool}{Q:Fin->Â->Prop} (hh:A.handled=none)
  (he:jR s.heap (n+1) n f0 f1 k jz) (i1:eC s.heap t n a k) (s1:cC s.heap t a xs) (hx:xs[k]? = none)
  (hE:∀ h' e,(∀ (c:Nat) o,(c < n\/n+1 < c)->s.heap.get? c=some o->h'.get? c=some o)->(∃ o,h'.get? e=some o/\o.cls=.type "StopIteration")->E (.ref e) { s with heap:=h' }) :
  wpAny (model prog w) A (Builtin.«enumerate.__next__» ⟨[.ref (n+1)],[]⟩) Q E s:=by
 show wpAny _ _ (field (.ref (n+1)) 2 >>= _) _ _ _;refine Æ (ì he rfl (x:=.ref n) rfl ?_);refine Æ (dJ hh i1 s1 hx λ h' e hk Ee=>hE h' e (λ c o hc q=>hk c o (show @Ne Nat c n by lia) q) Ee)
theorem sV {e it:Á}{f0:À}{f1:Bool}{i:Int}{jz:À}{Q:Option À->Â->Prop} (he:jR s.heap e it f0 f1 i jz)
  (h:wpAny (model prog w) A.in1 (Builtin.«enumerate.__next__» ⟨[.ref e],[]⟩) (λ fin s'=>∃ v,fin=.done (.ret v)/\Q (some v) s') (λ e s'=>(∃ a o,e=.ref a/\s'.heap.get? a=some o/\o.cls=.type "StopIteration")/\Q none s') s) :
  wpAny (model prog w) A (pyNext (.ref e)) Q E s:=by
 have hT:s.TypeIs (.ref e) "enumerate" := ⟨_,he,rfl⟩;unfold pyNext;refine Æ (Ů (ň (name:=Str.ofString "__next__") hT F.slot_enumerate_next
  (Ī F.slot_enumerate_next hT F.entry_enumerate_next (ò h (λ fin s' h'=>?_) λ e s' h'=>?_) (F.args_enumerate_next_1 _))))
 ·obtain⟨v,rfl,q⟩:=h';exact⟨v,rfl,Ë q⟩
 ·obtain⟨⟨a,o,rfl,ho,hc⟩,q⟩:=h';exact Æ (wpAny_isInstance (T := "StopIteration") (b:=true) ⟨o,ho,hc⟩ isSubtype_stop (Ë q))
theorem ED {tg:Expr}{e it T:Á}{f0:À}{f1:Bool}{i:Int}{jz:À}{Q:Unit->Â->Prop} (hf:iG f0) (hz:jR s.heap e it f0 f1 i jz)
  (hQ:∀ h' re,iG re->jR h' e it re f1 i jz->Heap.SameBut e s.heap h'->Q () { s with heap:=h' }):wpAny (model prog w) A (letOwnedTupleGo tg (.ref e) (.ref T)) Q E s:=by
 have same:Q () s:=hQ s.heap f0 hf hz (Ũ ..);have core:wpAny (model prog w) A (do
   let o <- load e
   match o.cls,o.data with
   | .type n,.fields vs=>
    if ["enumerate","zip","dict_itemiterator","dict_reverseitemiterator","odict_iterator","itertools.zip_longest","itertools.pairwise"].contains n && vs[0]? == some (rawInt T) then
     rule "for.unpacks-the-owned-tuple"
     updateField e 0 .none
   | _,_=>pure ()) Q E s:=by
  refine Æ (wpAny_load hz ?_);show wpAny _ _ (if (["enumerate","zip","dict_itemiterator","dict_reverseitemiterator","odict_iterator","itertools.zip_longest","itertools.pairwise"].contains "enumerate" &&
   (#[f0,.bool f1,.ref it,rawInt i,.none,jz]:Array À)[0]? == some (rawInt T))=true then _ else _) Q E s
  split
  ·refine Æ (Ĝ ?_);show wpAny _ _ (setField (.ref e) 0 .none) Q E s;exact Ą hz (by simp) λ h' sr zx=>hQ h' .none (.inl rfl) sr zx
  ·exact Ë same
 unfold letOwnedTupleGo;cases tg <;> first
  | exact Ë same
  | exact core
theorem sW {e it:Á}{f0:À}{f1:Bool}{i:Int}{jz:À}{Q:À->Â->Prop} (he:jR s.heap e it f0 f1 i jz) (h:Q (.ref e) s):wpAny (model prog w) A (pyIter (.ref e)) Q E s:=by
 have hT:s.TypeIs (.ref e) "enumerate" := ⟨_,he,rfl⟩;refine wpAny_pyIter_slot hT F.slot_enumerate_iter (Ī F.slot_enumerate_iter hT F.entry_enumerate_iter ?_ (F.args_enumerate_iter_1 _));show wpAny _ _ (ret (.ref e)) _ _ s;exact Ë ⟨_,rfl,"enumerate",_,hT,F.slot_enumerate_next.lookup,h⟩
theorem E9 (t:Bool) (l:Á) (xs:Array À) :
  Meets (Builtin.«enumerate.__new__» ⟨[.type "enumerate",.ref l],[]⟩) (λ _ R s=>cC s.heap t l xs/\
   R (.ok (.ret (.ref (zA s.heap t l).objs.size))) { s with heap:=(zA s.heap t l).push { cls:=.type "enumerate",data:=.fields #[.none,.bool false,.ref s.heap.objs.size,rawInt 0,.none,.none] } }):=
 .of_wp λ prog w A R s h=>by
  obtain⟨hp,g,d,tk,os⟩:=s;obtain⟨hl,h⟩:=h;have Eb:=sub_enumerate;have hL:cC (Shared.heap ⟨hp,g,d,tk,os⟩) t l xs:=hl
  wp_walk
  refine wpAny_stack_any λ st=>Ë ?_
  split
  ·rename_i c _ _ _ _ _
   cases (c == Value.type "enumerate")
   ·wp_walk using fK hL
    exact⟨_,rfl,h⟩
   ·wp_walk using fK hL
    exact⟨_,rfl,h⟩
  ·wp_walk using fK hL
   exact⟨_,rfl,h⟩
theorem JH {t:Bool}{l:Á}{xs:Array À}{Q:À->Â->Prop} (hL:cC s.heap t l xs)
  (h:∀ h',jR h' (s.heap.objs.size+1) s.heap.objs.size .none false 0 .none->eC h' t s.heap.objs.size l 0->(∀ b o,s.heap.get? b=some o->h'.get? b=some o)->Q (.ref (s.heap.objs.size+1)) { s with heap:=h' }) :
  wpAny (model prog w) A (call (.type "enumerate") [.ref l]) Q E s:=by
 refine callType_new F.called_enumerate (by decide) (F.typeCall_enumerate_1 _) (F.newCall_enumerate_1 _) (λ obj=>F.args_object_init_2 obj _) F.entry_enumerate_new (E9 t l xs) ⟨hL,?_⟩;have hz:(zA s.heap t l).objs.size=s.heap.objs.size+1:=ċ ..;show _/\_;rw[hz];have he:jR ((zA s.heap t l).push { cls:=.type "enumerate",data:=.fields #[.none,.bool false,.ref s.heap.objs.size,rawInt 0,.none,.none] }) (s.heap.objs.size+1) s.heap.objs.size .none false 0 .none:=by
  have:=Ü (zA s.heap t l) (o:={ cls:=.type "enumerate",data:=.fields #[.none,.bool false,.ref s.heap.objs.size,rawInt 0,.none,.none] }) rfl;rw[hz] at this;exact this
 exact⟨⟨_,he,rfl⟩,h _ he (kG (Î _ (Ü _ rfl))) λ b o x=>Î _ (Î _ x)⟩
end
end TwZ
namespace L2
open PySem PySem.Spec PyProof.Rows TwZ
def jK (K:Ç) (H:Hp) (t:Bool) (a:Á) (xs:List V):Prop:=if t=true then bS K H a xs else aY K H a xs
section
variable {X:Cx}{gn:List (Á×Obj)}{σ:St}{H:Hp}{s:Â}
theorem Inv.src {t:Bool}{a:Á}{xs:List V} (I:Inv X gn σ H s) (h:jK X.K H t a xs):∃ gx:List À,bG xs gx/\cC s.heap t a gx.toArray/\xs.length<=sizeLine:=by
 cases t with
 | true=>
  obtain⟨gx,r,p,z⟩:=I.tuple h;exact⟨gx,r,(show s.heap.IsTuple a gx.toArray from p),z⟩
 | false=>
  obtain⟨gx,r,p,z⟩:=I.list h;exact⟨gx,r,p.isList,z⟩
theorem Inv.src_inj {t:Bool}{a:Á}{xs ys:List V} (I:Inv X gn σ H s) (h:jK X.K H t a xs) (h':jK X.K H t a ys):xs=ys:=by
 cases t with
 | true=>exact I.tuple_inj h h'
 | false=>exact I.list_inj h h'
theorem Inv.turnedT {fp:List Á}{h':Heap}{t':Nat}{T:Á}{xs:List V}{gx:List À} (I:Inv X gn σ H s) (hf:∀ b∈fp,pD X gn H b) (k:∀ b o,b∉fp->s.heap.get? b=some o->h'.get? b=some o)
  (hT:s.heap.objs.size<=T) (hv:bG xs gx) (hz:xs.length<=sizeLine) (ht:IsTup h' T gx.toArray):Inv X gn σ (upd H T (.tup xs)) { s with heap:=h',toks:=t' }:=by
 have hn:H T=none:=I.hok.fresh hT;have nT:∀ b u,H b=some u->b≠T:=λ b u e=>aP e hn;have Av:∀ b u,H b=some u->b∉fp:=λ b u e hb=>by rw[(hf b hb).1] at e;cases e
 have nTh:∀ b o,s.heap.get? b=some o->b≠T:=λ b o e z=>by rw[z] at e;exact absurd (í (Ö e) hT) (Ē _)
 refine I.step (g':=s.gens) (d':=s.drawn) (ch:=fp) (λ b hb=>?_) (λ b o _ _ hc e _=>k b o hc e) (λ b o _ _ hc e _=>⟨o.slots,k b o hc e⟩) (λ b o hc e n=>by rw[aM (nTh b o e)];exact n)
  (λ b o hc e=>⟨o,k b o hc e⟩) (λ b ys e=>by rw[aM (nT b _ e)];exact e) (λ b o u e=>by rw[aM (nT b _ e)];exact e) (λ b ps e=>⟨#[],by rw[aM (nT b _ e),e];simp⟩) (λ m hm=>?_) (λ b u e=>?_) I.bare
 ·obtain⟨_,f1,_,f3,f4,f5⟩:=hf b hb;exact⟨f3,f1,f4,f5⟩
 ·obtain⟨o,es,ep,ho,r⟩:=hm;exact⟨o,es,ep,k _ o (λ hb=>(hf _ hb).2.1 rfl) ho,r⟩
 ·by_cases hb:b=T
  ·subst hb;rw[aE] at e;cases e;exact⟨hz,gx,hv,ht⟩
  ·rw[aM hb] at e;refine (I.hok b u e).stay (λ c v hc q=>k c v ?_ q) (λ c q=>by rw[aM (nT c _ q)];exact q) λ c ys q=>by rw[aM (nT c _ q)];exact q
   rcases hc with z | z
   ·rw[z];exact Av b u e
   ·exact Av c _ z
theorem Inv.turnedL {fp:List Á}{h':Heap}{t':Nat} (I:Inv X gn σ H s) (hf:∀ b∈fp,pD X gn H b) (k:∀ b o,b∉fp->s.heap.get? b=some o->h'.get? b=some o):Inv X gn σ H { s with heap:=h',toks:=t' }:=by
 have Av:∀ b u,H b=some u->b∉fp:=λ b u e hb=>by rw[(hf b hb).1] at e;cases e
 refine I.step (g':=s.gens) (d':=s.drawn) (ch:=fp) (λ b hb=>?_) (λ b o _ _ hc e _=>k b o hc e) (λ b o _ _ hc e _=>⟨o.slots,k b o hc e⟩) (λ b o hc e n=>n)
  (λ b o hc e=>⟨o,k b o hc e⟩) (λ b ys e=>e) (λ b o u e=>e) (λ b ps e=>⟨#[],by rw[e];simp⟩) (λ m hm=>?_) (λ b u e=>?_) I.bare
 ·obtain⟨_,f1,_,f3,f4,f5⟩:=hf b hb;exact⟨f3,f1,f4,f5⟩
 ·obtain⟨o,es,ep,ho,r⟩:=hm;exact⟨o,es,ep,k _ o (λ hb=>(hf _ hb).2.1 rfl) ho,r⟩
 ·refine (I.hok b u e).stay (λ c v hc q=>k c v ?_ q) (λ c q=>q) λ c ys q=>q;rcases hc with z | z
  ·rw[z];exact Av b u e
  ·exact Av c _ z
end
def TX (K:Ç) (t1 t2 t3:Bool) (a1 a2 a3:Á):It:=
 ⟨λ i H=>∃ xs ys zs x y z,jK K H t1 a1 xs/\jK K H t2 a2 ys/\jK K H t3 a3 zs/\xs[i]? = some x/\ys[i]? = some y/\zs[i]? = some z,
  λ i H v H'=>∃ T x y z,H T=none/\v=.ref T/\(∀ xs,jK K H t1 a1 xs->xs[i]? = some x)/\(∀ xs,jK K H t2 a2 xs->xs[i]? = some y)/\(∀ xs,jK K H t3 a3 xs->xs[i]? = some z)/\H'=upd H T (.tup [x,y,z]),
  λ i H=>∃ xs ys zs,jK K H t1 a1 xs/\jK K H t2 a2 ys/\jK K H t3 a3 zs/\(xs.length<=i\/ys.length<=i\/zs.length<=i)⟩
def U8 (n a1 a2 a3:Nat) (t1 t2 t3:Bool) (i:Nat) (h:Heap):Prop:=
 ∃ f0 f1 c1 c2 c3,iG f0/\pB h (n+5) (n+3) (n+4) f0 f1/\dQ h (n+3) #[.ref n,.ref (n+1),.ref (n+2)]/\dQ h (n+4) #[c1,c2,c3]/\
  eC h t1 n a1 i/\eC h t2 (n+1) a2 i/\eC h t3 (n+2) a3 i/\a1 < n/\a2 < n/\a3 < n
def EN (n:Nat) (m:Nat):List Á:=(List.range m).map λ k=>(n+k:Nat)
theorem eG {n m:Nat}{b:Á}:b∈EN n m↔∃ k,k < m/\b=n+k:=by
 unfold EN;rw[ä];constructor
 ·rintro⟨k,hk,e⟩;exact⟨k,Ņ.mp hk,e.symm⟩
 ·rintro⟨k,hk,e⟩;exact⟨k,Ņ.mpr hk,e.symm⟩
theorem iS {n m:Nat}{b:Nat} (h:(b:Á)∉EN n m) (hm:0 < m):b < n\/n+(m - 1) < b:=by
 by_cases h1:b < n
 ·exact .inl h1
 ·by_cases h2:n+(m - 1) < b
  ·exact .inr h2
  ·exact absurd (eG.mpr ⟨b - n,by lia,by show (b:Nat)=n+(b - n);lia⟩) h
theorem HD {P:Ã}{w:World}{K:Ç}{tg:Expr} (n a1 a2 a3:Nat) (t1 t2 t3:Bool):Turn P w K tg (TX K t1 t2 t3 a1 a2 a3) (EN n 6) (n+5) (U8 n a1 a2 a3 t1 t2 t3) where
 mem:=eG.mpr ⟨5,by decide,rfl⟩
 obj:=λ i h st b hb=>by
  obtain⟨f0,f1,c1,c2,c3,hf,hz,kz,lz,i1,i2,i3,_⟩:=st;obtain⟨k,hk,rfl⟩:=eG.mp hb;have zw:k=0\/k=1\/k=2\/k=3\/k=4\/k=5:=by lia
  rcases zw with rfl | rfl | rfl | rfl | rfl | rfl
  ·exact i1.obj
  ·exact i2.obj
  ·exact i3.obj
  ·exact⟨_,kz,λ v z=>by cases z⟩
  ·exact⟨_,lz,λ v z=>by cases z⟩
  ·exact⟨_,hz,λ v z=>by cases z⟩
 keep:=λ i h h' st k=>by
  obtain⟨f0,f1,c1,c2,c3,hf,hz,kz,lz,i1,i2,i3,l⟩:=st;have m:∀ j,j < 6->((n+j:Nat):Á)∈EN n 6:=λ j hj=>eG.mpr ⟨j,hj,rfl⟩;exact⟨f0,f1,c1,c2,c3,hf,k _ (m 5 (by decide)) _ hz,k _ (m 3 (by decide)) _ kz,k _ (m 4 (by decide)) _ lz,i1.at λ o e=>k _ (m 0 (by decide)) _ e,i2.at λ o e=>k _ (m 1 (by decide)) _ e,i3.at λ o e=>k _ (m 2 (by decide)) _ e,l⟩
 item:=by
  intro X hP hw hK hc i gn s σ H E I hf st hg;subst hP hw hK;obtain⟨f0,f1,c1,c2,c3,f,hz,kz,lz,i1,i2,i3,l1,l2,l3⟩:=st;obtain⟨xs,ys,zs,x,y,z,q1,q2,q3,hx,hy,hw⟩:=hg;obtain⟨us,r1,p1,_⟩:=I.src q1;obtain⟨vs,r2,p2,_⟩:=I.src q2;obtain⟨ws,r3,p3,_⟩:=I.src q3;obtain⟨u,hu,ru⟩:=r1.get hx;obtain⟨v,hv,rv⟩:=r2.get hy;obtain⟨w',hw',so⟩:=r3.get hw;refine kX hz (GY f hz kz lz i1 i2 i3 p1 p2 p3 l1 l2 l3 (by simpa using hu) (by simpa using hv) (by simpa using hw') λ T h' re vi d1 d2 d3 hT f' sr Aw Ax Ef Pw i3' Eg hk=>?_);refine⟨_,rfl,xS (s:={ s with heap:=h' }) f' sr λ vm uo Eh Ay hs=>?_⟩;replace hs:Heap.SameBut (n+5) h' vm:=hs;have hTn:n+5 < T:=í (Ö hz) hT;have wn:dQ vm T #[u,v,w']:=ex hs (by lia) Eg;have IT:Inv X gn σ (upd H T (.tup [x,y,z])) { s with heap:=vm,toks:=s.toks }:=I.turnedT (fp:=EN n 6) hf (λ b o hb e=>ex (c:=b) hs (by have:=iS (b:=b) hb (by decide);have:n+(6 - 1)=n+5:=rfl;lia) (hk b o (iS (b:=b) hb (by decide)) e)) hT (gx:=[u,v,w']) (.cons ru (.cons rv (.cons so .nil))) (by show 3<=sizeLine;decide) ⟨_,wn,rfl,_,rfl⟩;refine⟨.ref T,upd H T (.tup [x,y,z]),IT,rfl,
   ⟨T,x,y,z,I.hok.fresh hT,rfl,λ as q=>by rw[I.src_inj q q1];exact hx,λ as q=>by rw[I.src_inj q q2];exact hy,λ as q=>by rw[I.src_inj q q3];exact hw,rfl⟩,
   ⟨uo,vi,d1,d2,d3,Eh,Ay,ex hs (by lia) Aw,ex hs (by lia) Ax,Ef.ext hs (by lia),Pw.ext hs (by lia),i3'.ext hs (by lia),l1,l2,l3⟩,λ b hb=>?_⟩
  ·obtain⟨j,hj,rfl⟩:=eG.mp hb;rw[aM (show ((n+j:Nat):Á)≠T from (show @Ne Nat (n+j) T by lia))];exact (hf _ hb).1
 done:=by
  intro X hP hw hK hc i gn s σ H E I hf st hg;subst hP hw hK;obtain⟨f0,f1,c1,c2,c3,f,hz,kz,lz,i1,i2,i3,l1,l2,l3⟩:=st;obtain⟨xs,ys,zs,q1,q2,q3,om⟩:=hg;obtain⟨us,r1,p1,_⟩:=I.src q1;obtain⟨vs,r2,p2,_⟩:=I.src q2;obtain⟨ws,r3,p3,_⟩:=I.src q3;have e1:=r1.length;have e2:=r2.length;have e3:=r3.length;refine kX hz (JQ (I.ok.hd hc) f hz kz lz i1 i2 i3 p1 p2 p3 l1 l2 l3 (by
   rcases om with h | h | h
   ·exact .inl (by simp;lia)
   ·exact .inr (.inl (by simp;lia))
   ·exact .inr (.inr (by simp;lia))) λ h' e hk he=>?_)
  obtain⟨o,ho,vh⟩:=he;exact⟨⟨e,o,rfl,ho,vh⟩,rfl,I.turnedL (t':=s.toks) hf λ b o hb q=>hk b o (iS (b:=b) hb (by decide)) q⟩
 self:=λ _ _ _ _ _ st h=>by
  obtain⟨f0,f1,c1,c2,c3,f,hz,_⟩:=st;exact kY hz h
def QC (K:Ç) (t1 t2:Bool) (a1 a2:Á):It:=
 ⟨λ i H=>∃ xs ys x y,jK K H t1 a1 xs/\jK K H t2 a2 ys/\xs[i]? = some x/\ys[i]? = some y,
  λ i H v H'=>∃ T x y,H T=none/\v=.ref T/\(∀ xs,jK K H t1 a1 xs->xs[i]? = some x)/\(∀ xs,jK K H t2 a2 xs->xs[i]? = some y)/\H'=upd H T (.tup [x,y]),
  λ i H=>∃ xs ys,jK K H t1 a1 xs/\jK K H t2 a2 ys/\(xs.length<=i\/ys.length<=i)⟩
def U9 (n a1 a2:Nat) (t1 t2:Bool) (i:Nat) (h:Heap):Prop:=
 ∃ f0 f1 c1 c2,iG f0/\pB h (n+4) (n+2) (n+3) f0 f1/\dQ h (n+2) #[.ref n,.ref (n+1)]/\dQ h (n+3) #[c1,c2]/\eC h t1 n a1 i/\eC h t2 (n+1) a2 i/\a1 < n/\a2 < n
theorem HE {P:Ã}{w:World}{K:Ç}{tg:Expr} (n a1 a2:Nat) (t1 t2:Bool):Turn P w K tg (QC K t1 t2 a1 a2) (EN n 5) (n+4) (U9 n a1 a2 t1 t2) where
 mem:=eG.mpr ⟨4,by decide,rfl⟩
 obj:=λ i h st b hb=>by
  obtain⟨f0,f1,c1,c2,hf,hz,kz,lz,i1,i2,_⟩:=st;obtain⟨k,hk,rfl⟩:=eG.mp hb;have zw:k=0\/k=1\/k=2\/k=3\/k=4:=by lia
  rcases zw with rfl | rfl | rfl | rfl | rfl
  ·exact i1.obj
  ·exact i2.obj
  ·exact⟨_,kz,λ v z=>by cases z⟩
  ·exact⟨_,lz,λ v z=>by cases z⟩
  ·exact⟨_,hz,λ v z=>by cases z⟩
 keep:=λ i h h' st k=>by
  obtain⟨f0,f1,c1,c2,hf,hz,kz,lz,i1,i2,l⟩:=st;have m:∀ j,j < 5->((n+j:Nat):Á)∈EN n 5:=λ j hj=>eG.mpr ⟨j,hj,rfl⟩;exact⟨f0,f1,c1,c2,hf,k _ (m 4 (by decide)) _ hz,k _ (m 2 (by decide)) _ kz,k _ (m 3 (by decide)) _ lz,i1.at λ o e=>k _ (m 0 (by decide)) _ e,i2.at λ o e=>k _ (m 1 (by decide)) _ e,l⟩
 item:=by
  intro X hP hw hK hc i gn s σ H E I hf st hg;subst hP hw hK;obtain⟨f0,f1,c1,c2,f,hz,kz,lz,i1,i2,l1,l2⟩:=st;obtain⟨xs,ys,x,y,q1,q2,hx,hy⟩:=hg;obtain⟨us,r1,p1,_⟩:=I.src q1;obtain⟨vs,r2,p2,_⟩:=I.src q2;obtain⟨u,hu,ru⟩:=r1.get hx;obtain⟨v,hv,rv⟩:=r2.get hy;refine kX hz (GZ f hz kz lz i1 i2 p1 p2 l1 l2 (by simpa using hu) (by simpa using hv) λ T h' re vi d1 d2 hT f' sr Aw Ax Ef Pw Eg hk=>?_);refine⟨_,rfl,xS (s:={ s with heap:=h' }) f' sr λ vm uo Eh Ay hs=>?_⟩;replace hs:Heap.SameBut (n+4) h' vm:=hs;have hTn:n+4 < T:=í (Ö hz) hT;have wn:dQ vm T #[u,v]:=ex hs (by lia) Eg;have IT:Inv X gn σ (upd H T (.tup [x,y])) { s with heap:=vm,toks:=s.toks }:=I.turnedT (fp:=EN n 5) hf (λ b o hb e=>ex (c:=b) hs (by have:=iS (b:=b) hb (by decide);have:n+(5 - 1)=n+4:=rfl;lia) (hk b o (iS (b:=b) hb (by decide)) e)) hT (gx:=[u,v]) (.cons ru (.cons rv .nil)) (by show 2<=sizeLine;decide) ⟨_,wn,rfl,_,rfl⟩;refine⟨.ref T,upd H T (.tup [x,y]),IT,rfl,
   ⟨T,x,y,I.hok.fresh hT,rfl,λ as q=>by rw[I.src_inj q q1];exact hx,λ as q=>by rw[I.src_inj q q2];exact hy,rfl⟩,
   ⟨uo,vi,d1,d2,Eh,Ay,ex hs (by lia) Aw,ex hs (by lia) Ax,Ef.ext hs (by lia),Pw.ext hs (by lia),l1,l2⟩,λ b hb=>?_⟩
  ·obtain⟨j,hj,rfl⟩:=eG.mp hb;rw[aM (show ((n+j:Nat):Á)≠T from (show @Ne Nat (n+j) T by lia))];exact (hf _ hb).1
 done:=by
  intro X hP hw hK hc i gn s σ H E I hf st hg;subst hP hw hK;obtain⟨f0,f1,c1,c2,f,hz,kz,lz,i1,i2,l1,l2⟩:=st;obtain⟨xs,ys,q1,q2,om⟩:=hg;obtain⟨us,r1,p1,_⟩:=I.src q1;obtain⟨vs,r2,p2,_⟩:=I.src q2;have e1:=r1.length;have e2:=r2.length;refine kX hz (JR (I.ok.hd hc) f hz kz lz i1 i2 p1 p2 l1 l2 (by
   rcases om with h | h
   ·exact .inl (by simp;lia)
   ·exact .inr (by simp;lia)) λ h' e hk he=>?_)
  obtain⟨o,ho,vh⟩:=he;exact⟨⟨e,o,rfl,ho,vh⟩,rfl,I.turnedL (t':=s.toks) hf λ b o hb q=>hk b o (iS (b:=b) hb (by decide)) q⟩
 self:=λ _ _ _ _ _ st h=>by
  obtain⟨f0,f1,c1,c2,f,hz,_⟩:=st;exact kY hz h
def Ite (K:Ç) (t:Bool) (a:Á):It:=
 ⟨λ i H=>∃ xs x,jK K H t a xs/\xs[i]? = some x,
  λ i H v H'=>∃ T x,H T=none/\v=.ref T/\(∀ xs,jK K H t a xs->xs[i]? = some x)/\H'=upd H T (.tup [.int i,x]),
  λ i H=>∃ xs,jK K H t a xs/\xs.length<=i⟩
def tne (n a:Nat) (t:Bool) (i:Nat) (h:Heap):Prop:=∃ f0 f1 jz,iG f0/\jR h (n+1) n f0 f1 i jz/\eC h t n a i/\a < n
theorem HG {P:Ã}{w:World}{K:Ç}{tg:Expr} (n a:Nat) (t:Bool):Turn P w K tg (Ite K t a) (EN n 2) (n+1) (tne n a t) where
 mem:=eG.mpr ⟨1,by decide,rfl⟩
 obj:=λ i h st b hb=>by
  obtain⟨f0,f1,jz,hf,he,i1,_⟩:=st;obtain⟨k,hk,rfl⟩:=eG.mp hb;have zw:k=0\/k=1:=by lia
  rcases zw with rfl | rfl
  ·exact i1.obj
  ·exact⟨_,he,λ v z=>by cases z⟩
 keep:=λ i h h' st k=>by
  obtain⟨f0,f1,jz,hf,he,i1,l⟩:=st;have m:∀ j,j < 2->((n+j:Nat):Á)∈EN n 2:=λ j hj=>eG.mpr ⟨j,hj,rfl⟩;exact⟨f0,f1,jz,hf,k _ (m 1 (by decide)) _ he,i1.at λ o e=>k _ (m 0 (by decide)) _ e,l⟩
 item:=by
  intro X hP hw hK hc i gn s σ H E I hf st hg;subst hP hw hK;obtain⟨f0,f1,jz,f,he,i1,l1⟩:=st;obtain⟨xs,x,q1,hx⟩:=hg;obtain⟨us,r1,p1,_⟩:=I.src q1;obtain⟨u,hu,ru⟩:=r1.get hx;refine sV he (IV f he i1 p1 l1 (by simpa using hu) λ T h' re vi ym hT f' Ee Ef Eg hk=>?_);refine⟨_,rfl,ED (s:={ s with heap:=h',toks:=s.toks+1 }) f' Ee λ vm uo Eh Px hs=>?_⟩;replace hs:Heap.SameBut (n+1) h' vm:=hs;have hTn:n+1 < T:=í (Ö he) hT;have wn:dQ vm T #[.int i s.toks,u]:=ex hs (by lia) Eg;have IT:Inv X gn σ (upd H T (.tup [.int i,x])) { s with heap:=vm,toks:=s.toks+1 }:=I.turnedT (fp:=EN n 2) hf (λ b o hb e=>ex (c:=b) hs (by have:=iS (b:=b) hb (by decide);have:n+(2 - 1)=n+1:=rfl;lia) (hk b o (iS (b:=b) hb (by decide)) e)) hT (gx:=[.int i s.toks,u]) (.cons ⟨_,rfl⟩ (.cons ru .nil)) (by show 2<=sizeLine;decide) ⟨_,wn,rfl,_,rfl⟩;have he2:jR vm (n+1) n uo vi ((i+1:Nat):Int) ym:=by
   have:((i+1:Nat):Int)=(i:Int)+1:=by push_cast;rfl
   rw[this];exact Px
  refine⟨.ref T,upd H T (.tup [.int i,x]),IT,rfl,⟨T,x,I.hok.fresh hT,rfl,λ as q=>by rw[I.src_inj q q1];exact hx,rfl⟩,⟨uo,vi,ym,Eh,he2,Ef.ext hs (by lia),l1⟩,λ b hb=>?_⟩
  ·obtain⟨j,hj,rfl⟩:=eG.mp hb;rw[aM (show ((n+j:Nat):Á)≠T from (show @Ne Nat (n+j) T by lia))];exact (hf _ hb).1
 done:=by
  intro X hP hw hK hc i gn s σ H E I hf st hg;subst hP hw hK;obtain⟨f0,f1,jz,f,he,i1,l1⟩:=st;obtain⟨xs,q1,om⟩:=hg;obtain⟨us,r1,p1,_⟩:=I.src q1;have e1:=r1.length;refine sV he (NA (I.ok.hd hc) he i1 p1 (by simp;lia) λ h' e hk he=>?_);obtain⟨o,ho,vh⟩:=he;exact⟨⟨e,o,rfl,ho,vh⟩,rfl,I.turnedL (t':=s.toks) hf λ b o hb q=>hk b o (iS (b:=b) hb (by decide)) q⟩
 self:=λ _ _ _ _ _ st h=>by
  obtain⟨f0,f1,jz,f,he,_⟩:=st;exact sW he h
section
variable {X:Cx}{tg:Expr}
theorem CP:bootBuiltins "zip" = some (.type "zip"):=by decide +kernel
theorem JJ:bootBuiltins "enumerate" = some (.type "enumerate"):=by decide +kernel
def QX (K:Ç) (ta:TA):TI:=λ σ H R=>ta σ H λ vs H1=>∃ t1 t2 a1 a2,vs=[.ref a1,.ref a2]/\(∃ xs,jK K H1 t1 a1 xs)/\(∃ xs,jK K H1 t2 a2 xs)/\R (QC K t1 t2 a1 a2) H1
def QW (K:Ç) (ta:TA):TI:=λ σ H R=>ta σ H λ vs H1=>∃ t1 t2 t3 a1 a2 a3,vs=[.ref a1,.ref a2,.ref a3]/\(∃ xs,jK K H1 t1 a1 xs)/\(∃ xs,jK K H1 t2 a2 xs)/\(∃ xs,jK K H1 t3 a3 xs)/\R (TX K t1 t2 t3 a1 a2 a3) H1
def QY (K:Ç) (ta:TA):TI:=λ σ H R=>ta σ H λ vs H1=>∃ t a,vs=[.ref a]/\(∃ xs,jK K H1 t a xs)/\R (Ite K t a) H1
theorem OS {a:Expr}{ta:TA}{p pos:Pos} (hg:Gl X "enumerate") (hm:X.mg "enumerate" = none) (ha:PA X [a] ta) (hs:starEach [a] X.env=[(false,eval a X.env)]:=by exact wr0):PI X tg (.Call (.Name "enumerate" p) [a] [] pos) (QY X.K ta):=by
 intro gn s σ H R I h;refine Call_ (oW I hg hm JJ (ņ (d8 (ha pos gn s σ H _ I h) λ us s1 ⟨vs,H1,I1,r1,q1⟩=>?_) hs rfl));obtain⟨t,a1,e,⟨xs,hq⟩,q⟩:=q1;subst e;cases r1 with
 | cons r rr=>
  cases rr;cases r;obtain⟨gx,rv,p,hz⟩:=I1.src hq;refine JH p λ h' he i1 hk=>?_;refine sW (s:={ s1 with heap:=h' }) he ?_;refine⟨_,EN s1.heap.objs.size 2,tne s1.heap.objs.size a1 t,_,H1,rfl,I1.kept (t':=s1.toks) hk,HG _ _ _,⟨.none,false,.none,.inl rfl,he,i1,p.lt⟩,λ b hb=>?_,q⟩;obtain⟨k,_,rfl⟩:=eG.mp hb;exact I1.fpOk (ī _ _) (I1.hok.fresh (ī _ _))
theorem OP {a b:Expr}{ta:TA}{p pos:Pos} (hg:Gl X "zip") (hm:X.mg "zip" = none) (ha:PA X [a,b] ta) (hs:starEach [a,b] X.env=[(false,eval a X.env),(false,eval b X.env)]:=by exact wr0) (vg:starEach [b] X.env=[(false,eval b X.env)]:=by exact wr0) :
  PI X tg (.Call (.Name "zip" p) [a,b] [] pos) (QX X.K ta):=by
 intro gn s σ H R I h;refine Call_ (oW I hg hm CP (ņ (d8 (ha pos gn s σ H _ I h) λ us s1 ⟨vs,H1,I1,r1,q1⟩=>?_) (by rw[hs,vg]) (by rw[vg];rfl)));obtain⟨t1,t2,a1,a2,e,⟨xs,xp⟩,⟨ys,xq⟩,q⟩:=q1;subst e;cases r1 with
 | cons r rr=>
  cases rr with
  | cons r' rr=>
   cases rr;cases r;cases r';obtain⟨gx,rv,p1,hz⟩:=I1.src xp;obtain⟨kq,rv2,p2,Py⟩:=I1.src xq;refine JB p1 p2 λ h' sr kz lz i1 i2 hk=>?_;refine kY (s:={ s1 with heap:=h' }) sr ?_;refine⟨_,EN s1.heap.objs.size 5,U9 s1.heap.objs.size a1 a2 t1 t2,_,H1,rfl,I1.kept (t':=s1.toks) hk,HE _ _ _ _ _,⟨.none,false,_,_,.inl rfl,sr,kz,lz,i1,i2,p1.lt,p2.lt⟩,λ b hb=>?_,q⟩;obtain⟨k,_,rfl⟩:=eG.mp hb;exact I1.fpOk (ī _ _) (I1.hok.fresh (ī _ _))
theorem OO {a b c:Expr}{ta:TA}{p pos:Pos} (hg:Gl X "zip") (hm:X.mg "zip" = none) (ha:PA X [a,b,c] ta) (hs:starEach [a,b,c] X.env=[(false,eval a X.env),(false,eval b X.env),(false,eval c X.env)]:=by exact wr0)
  (vg:starEach [b,c] X.env=[(false,eval b X.env),(false,eval c X.env)]:=by exact wr0) :
  PI X tg (.Call (.Name "zip" p) [a,b,c] [] pos) (QW X.K ta):=by
 intro gn s σ H R I h;refine Call_ (oW I hg hm CP (ņ (d8 (ha pos gn s σ H _ I h) λ us s1 ⟨vs,H1,I1,r1,q1⟩=>?_) (by rw[hs,vg]) (by rw[vg];rfl)));obtain⟨t1,t2,t3,a1,a2,a3,e,⟨xs,xp⟩,⟨ys,xq⟩,⟨zs,Az⟩,q⟩:=q1;subst e;cases r1 with
 | cons r rr=>
  cases rr with
  | cons r' rr=>
   cases rr with
   | cons r'' rr=>
    cases rr;cases r;cases r';cases r'';obtain⟨gx,rv,p1,hz⟩:=I1.src xp;obtain⟨kq,rv2,p2,Py⟩:=I1.src xq;obtain⟨its3,rv3,p3,hz3⟩:=I1.src Az;refine JA p1 p2 p3 λ h' sr kz lz i1 i2 i3 hk=>?_;refine kY (s:={ s1 with heap:=h' }) sr ?_;refine⟨_,EN s1.heap.objs.size 6,U8 s1.heap.objs.size a1 a2 a3 t1 t2 t3,_,H1,rfl,I1.kept (t':=s1.toks) hk,HD _ _ _ _ _ _ _,⟨.none,false,_,_,_,.inl rfl,sr,kz,lz,i1,i2,i3,p1.lt,p2.lt,p3.lt⟩,λ b hb=>?_,q⟩;obtain⟨k,_,rfl⟩:=eG.mp hb;exact I1.fpOk (ī _ _) (I1.hok.fresh (ī _ _))
end
section
variable {prog:Ã}{A:Around}{E:À->Â->Prop}{s:Â}{l:Á}{xs:Array (Int×Tok)}
theorem DE {Q:À->Â->Prop} (hh:A.handled=none) (hl:s.heap.IsTuple l (intItems xs))
  (h:∀ h' tk t',(∀ b o,s.heap.get? b=some o->h'.get? b=some o)->Q (.int (preSum (numAt xs) xs.size) t') { s with heap:=h',toks:=tk }) :
  wpAny (model prog w) A (call (.builtin "sum") [.ref l]) Q E s:=by
 have jr:l < s.heap.objs.size:=by obtain⟨_,e,_⟩:=hl;exact Ö e
 refine call_sum_walkG (ţ hl ?_);refine⟨_,_,_,_,_,_,numAt xs,rfl,Walks.tuple (A:=A.in1) hh _ l (é jr) (intItems xs),⟨⟨_,Ü _ rfl,rfl,rfl⟩,hl.push _⟩,λ b hb=>?_,(λ _ _=>intItems_at),λ h' tk t' hk=>?_⟩
 ·show b < (s.heap.push _).objs.size;rw[ċ];rcases Ñ.mp hb with rfl | hb
  ·exact aga _
  ·rcases Ñ.mp hb with rfl | hb
   ·exact Nat.lt_succ_of_lt jr
   ·cases hb
 ·have:=h h' tk t' (λ b o e=>hk b o (λ hm=>by rw[ã.mp hm] at e;exact Ē _ (Ö e)) (Î _ e));simpa [intItems] using this
theorem DF {t:Bool}{vs:List À}{ns:List Int}{Q:À->Â->Prop} (hh:A.handled=none) (hl:cC s.heap t l vs.toArray) (hi:IntsAre vs ns)
  (h:∀ h' tk t',(∀ b o,s.heap.get? b=some o->h'.get? b=some o)->Q (.int ns.sum t') { s with heap:=h',toks:=tk }) :
  wpAny (model prog w) A (call (.builtin "sum") [.ref l]) Q E s:=by
 obtain⟨xs,hx⟩:=hi.allInts.items;have hn:numsOf vs.toArray.toList=ns:=by rw[show vs.toArray.toList=vs from rfl,hi.numsOf]
 rw[hx] at hl hn;rw[nums_intItems] at hn;have e:preSum (numAt xs) xs.size=ns.sum:=by rw[preSum_eq,õ (by simp),hn]
 cases t with
 | true=>exact DE hh hl λ h' tk t' hk=>by rw[e];exact h h' tk t' hk
 | false=>exact sum_intListG hh hl λ h' tk t' hk=>by rw[e];exact h h' tk t' hk
theorem QA {t:Bool}{vs:List À}{bs:List Bool}{Q:À->Â->Prop} (hh:A.handled=none) (hl:cC s.heap t l vs.toArray) (hb:bG (bs.map V.bl) vs)
  (h:∀ h' tk,(∀ b o,s.heap.get? b=some o->h'.get? b=some o)->Q (.bool (bs.all id)) { s with heap:=h',toks:=tk }):wpAny (model prog w) A (call (.builtin "all") [.ref l]) Q E s:=by
 have jr:l < s.heap.objs.size:=hl.lt;have ij:=hb.length;rw[Ê] at ij;have key:∀ (P:Nat->À->Prop),(∀ i v,P i v->vs[i]? = some v)->TruthOf prog w A.in1 P (λ i=>(bs[i]?).getD true):=λ P hP i v s' Q' E' hp hQ=>by
  have hv:=hP i v hp;have hi:i < vs.length:=(æ.mp hv).1;have yn:(bs.map V.bl)[i]? = some (V.bl bs[i]):=by simp [show i < bs.length by lia]
  obtain⟨u,hu,ru⟩:=hb.get yn;rw[hv] at hu;cases hu;cases ru;have e:(bs[i]?).getD true=bs[i]:=by simp [show i < bs.length by lia]
  have hQ2:Q' ((bs[i]?).getD true) s':=hQ;rw[e] at hQ2;exact ĩ hQ2
 have rng:((List.range vs.toArray.size).all λ i=>(bs[i]?).getD true)=bs.all id:=by
  rw[Ú,<- ij,ľ,ě,ě];constructor
  ·intro hq b yn;obtain⟨i,hi,rfl⟩:=List.getElem_of_mem yn;have:=hq i (Ņ.mpr hi);simpa [hi] using this
  ·intro hq i hi;have pk:=Ņ.mp hi;have:=hq bs[i] (ń pk);simpa [pk] using this
 have kept:∀ {h':Heap}{o:Obj},(∀ b x,b∉[s.heap.objs.size]->(s.heap.push o).get? b=some x->h'.get? b=some x)->∀ b x,s.heap.get? b=some x->h'.get? b=some x:=λ hk b x e=>
  hk b x (λ hm=>by rw[ã.mp hm] at e;exact Ē _ (Ö e)) (Î _ e)
 cases t with
 | true=>
  refine call_all_walk (ţ hl ?_);refine⟨s.heap.objs.size,[s.heap.objs.size,l],[s.heap.objs.size],vs.toArray.size,_,_,λ i=>(bs[i]?).getD true,rfl,Walks.tuple (A:=A.in1) hh _ l (é jr) vs.toArray,
   ⟨⟨_,Ü _ rfl,rfl,rfl⟩,Heap.IsTuple.push hl _⟩,key _ (λ i v hp=>by simpa using hp),λ h' tk hk=>?_⟩
  rw[rng];exact h h' tk (kept hk)
 | false=>
  refine call_all_walk (ŧ hl ?_);refine⟨s.heap.objs.size,[s.heap.objs.size,l],[s.heap.objs.size],vs.toArray.size,_,_,λ i=>(bs[i]?).getD true,rfl,Walks.list (A:=A.in1) hh _ l (é jr) vs.toArray,
   ⟨⟨_,Ü _ rfl,rfl,rfl⟩,Heap.IsList.push hl _⟩,key _ (λ i v hp=>by simpa using hp),λ h' tk hk=>?_⟩
  rw[rng];exact h h' tk (kept hk)
end
section
variable {X:Cx}
def UT (K:Ç):List V->Hp->VK->Prop:=λ xs H Q=>∃ (t:Bool) (p:Á) (ns:List Int),xs=[.ref p]/\jK K H t p (ns.map V.int)/\Q (.int ns.sum) H
theorem JC (hc:X.calm=true):eY X (.builtin "sum") (UT X.K):=by
 intro gn s σ H xs us Q I r h;obtain⟨t,p,ns,rfl,hq,q⟩:=h;obtain⟨u,rfl,ru⟩:=r.one;cases ru;obtain⟨gx,rv,p1,hz⟩:=I.src hq;refine DF (I.ok.hd hc) p1 (EJ rv) λ h' tk t' hk=>⟨.int ns.sum,H,I.kept hk,⟨t',rfl⟩,q⟩
def V4 (K:Ç):List V->Hp->VK->Prop:=λ xs H Q=>∃ (t:Bool) (p:Á) (bs:List Bool),xs=[.ref p]/\jK K H t p (bs.map V.bl)/\Q (.bl (bs.all id)) H
theorem JI (hc:X.calm=true):eY X (.builtin "all") (V4 X.K):=by
 intro gn s σ H xs us Q I r h;obtain⟨t,p,bs,rfl,hq,q⟩:=h;obtain⟨u,rfl,ru⟩:=r.one;cases ru;obtain⟨gx,rv,p1,hz⟩:=I.src hq;refine QA (I.ok.hd hc) p1 rv λ h' tk hk=>⟨.bl (bs.all id),H,I.kept hk,rfl,q⟩
def TyS (K:Ç) (H:Hp) (x:V) (t:À):Prop:=TyOf K H x t\/∃ a ys,x=.ref a/\bS K H a ys/\t=.type "tuple"
def V1 (K:Ç):List V->Hp->VK->Prop:=λ xs H Q=>∃ x T t b,xs=[x,.ty T]/\TyS K H x t/\PySem.W.kitOne K t (.type T)=some b/\Q (.bl b) H
theorem NL:eY X (.builtin "isinstance") (V1 X.K):=by
 intro gn s σ H xs us Q I r h;obtain⟨x,T,t,b,rfl,ty,e,q⟩:=h;obtain⟨u,v,rfl,ru,rv⟩:=r.two;cases rv;rcases ty with ty | ⟨a,ys,rfl,hq,rfl⟩
 ·exact kH I ru ty e λ tk=>⟨.bl b,H,I.tok tk,rfl,q⟩
 ·cases (show u=Value.ref a from ru);obtain⟨gx,rv',⟨o,h1,h2,_⟩,_⟩:=I.tuple hq;exact ĉ ž I.kIn ⟨o,h1,h2⟩ e (λ z=>nomatch z) λ tk=>⟨.bl b,H,I.tok tk,rfl,q⟩
end
theorem kA:fillsNumberSlot (.type "tuple") "mul" = pure false:=
 PySem.fillsNumberSlot_seq (id := "tuple.__mul__") (r:=some (.builtin "tuple.__rmul__")) F.slot_tuple_mul.lookup (by decide +kernel) F.slot_tuple_rmul.lookup (by decide +kernel)
theorem qE:seqRepeat? (.type "tuple")=pure (some (.builtin "tuple.__mul__")):=by
 unfold seqRepeat?;rw[PySem.seqSlot_of (T := "tuple") (name := "__mul__") (id := "tuple.__mul__") F.slot_tuple_mul.lookup (by decide +kernel),PySem.seqSlot_of (T := "tuple") (name := "__rmul__") (id := "tuple.__rmul__") F.slot_tuple_rmul.lookup (by decide +kernel)];rfl
theorem mY (a:Int) (t:Tok) (l:Á) (items:Array À) (n:Nat) (dd:Option Á) (sl:Array (Option À)) :
  Meets (Builtin.«int.__rmul__» ⟨[.int a t,.ref l],[]⟩) (λ _ R s=>s.heap.get? l=some { cls:=.type "tuple",dict:=dd,data:=.seq items n,slots:=sl }/\R (.ok (.ret Value.notImplemented)) s):=
 .of_wp λ prog w A R s h=>by obtain⟨hp,g,d,tk,os⟩:=s;obtain⟨hl,h⟩:=h;wp_walk;exact⟨_,rfl,h⟩
theorem wL (l:Á) (items:Array À) (n:Nat) (u:Tok) (dd:Option Á) (sl:Array (Option À)) :
  Meets (Builtin.«tuple.__mul__» ⟨[.ref l,.int 1 u],[]⟩) (λ _ R s=>s.heap.get? l=some { cls:=.type "tuple",dict:=dd,data:=.seq items n,slots:=sl }/\R (.ok (.ret (.ref l))) s):=
 .of_wp λ prog w A R s h=>by
  obtain⟨hp,g,d,tk,os⟩:=s;obtain⟨hl,h⟩:=h;have c1:(items.isEmpty || (1:Int) == 1)=true:=by simp
  wp_walk
  exact⟨_,rfl,h⟩
theorem uD (l:Á) (items:Array À) (n:Nat) (x:Int) (u:Tok) (dd:Option Á) (sl:Array (Option À)) (c0:¬ (decide (x < -(2 ^ 63)) || decide (x ≥ 2 ^ 63))=true) (c1:¬ (items.isEmpty || x == 1)=true)
  (c2:¬ (decide (x<=0) || items.isEmpty)=true) (c3:¬ (items.size:Int) * x > (2 ^ 63 - 1) / 8) (c4:¬ Builtin.Tuple.tupleTooMany ((items.size:Int) * x)=true) (hsz:(List.foldl (λ x1 x2=>x1++x2) #[] (List.replicate x.toNat items)).size<=sizeLine) :
  Meets (Builtin.«tuple.__mul__» ⟨[.ref l,.int x u],[]⟩) (λ _ R s=>s.heap.get? l=some { cls:=.type "tuple",dict:=dd,data:=.seq items n,slots:=sl }/\
   R (.ok (.ret (.ref s.heap.objs.size))) { s with heap:=s.heap.push { cls:=.type "tuple",data:=.seq (List.foldl (λ x1 x2=>x1++x2) #[] (List.replicate x.toNat items)) } }):=
 .of_wp λ prog w A R s h=>by
  obtain⟨hp,g,d,tk,os⟩:=s;obtain⟨hl,h⟩:=h
  wp_walk
  rw[Ä c0]
  wp_walk
  all_goals (try rw[Ä c1])
  wp_walk
  all_goals (try rw[Ä c2])
  wp_walk
  all_goals (try rw[Ä c3])
  wp_walk
  all_goals (try rw[Ä c4])
  wp_walk
  exact⟨_,rfl,h⟩
theorem aJ.tup {K:Ç}{H H':Hp}{a:Á}{xs:List V} (e:aJ H H') (h:bS K H a xs):bS K H' a xs:=by
 rcases h with (h | ⟨o,h⟩) | h
 ·exact .inl (.inl (e _ _ h))
 ·exact .inl (.inr ⟨o,e _ _ h⟩)
 ·exact .inr h
theorem aJ.new {H:Hp}{p:Á}{o:HO} (h:H p=none):aJ H (upd H p o):=λ b u e=>by rw[aM (aP e h)];exact e
def È:=@aJ.new
section
variable {X:Cx}
def QO (K:Ç):R2:=λ x y H Q=>∃ (l:Á) (k:Int) (xs:List V),x=.ref l/\y=.int k/\bS K H l xs/\1<=k/\k < 1000000/\xs≠[]/\xs.length<=10/\
 ∀ p H',aJ H H'->bS K H' p (List.replicate k.toNat xs).flatten->Q (.ref p) H'
theorem FV:iW X (binaryOp .Mult) (QO X.K):=by
 intro gn s σ H x y v u Q I rx ry h;obtain⟨l,k,xs,rfl,rfl,hq,h1,h2,kr,Ei,q⟩:=h;cases rx;obtain⟨t,rfl⟩:=ry;obtain⟨gx,r,ht,z⟩:=I.tuple hq;have ij:=r.length;obtain⟨⟨cls,dd,data,sl⟩,e,hc,n,hd⟩:=id ht;simp only at hc hd;subst hc hd;refine ų (T := "tuple") (U := "int") (by decide) ⟨_,e,rfl⟩ (λ s'=>Ĺ s' k t) kA F.fills_int_mul ŀ qE F.slot_int_index.lookup
  (ą ŀ (Ĺ s k t) agc (afu _ _) (mY k t l gx.toArray n dd sl) ⟨e,rfl,⟨_,e,rfl⟩,?_⟩)
 by_cases hk:k=1
 ·subst hk;refine ą age ⟨_,e,rfl⟩ afv (afl _ _) (wL l gx.toArray n t dd sl) ⟨e,?_⟩;refine⟨.ref l,H,I,rfl,q l H (Ď H) ?_⟩;have e1:(List.replicate (1:Int).toNat xs).flatten=xs:=by simp
  rw[e1];exact hq
 ·have Ba:gx≠[]:=λ z=>by rw[z] at ij;exact kr (ý ij)
  have f0:List.foldl (λ x1 x2=>x1++x2) #[] (List.replicate k.toNat gx.toArray)=(List.replicate k.toNat gx).flatten.toArray:=by
   have:=sC gx k.toNat [];rw[Ŀ] at this;exact this
  have yo:gx.toArray.isEmpty=false:=by cases gx with
   | nil=>exact absurd rfl Ba
   | cons a r=>rfl
  have Ej:k.toNat * gx.length<=sizeLine:=by
   have a1:gx.length<=10:=by lia
   have a2:k.toNat<=1000000:=by lia
   have:=Nat.mul_le_mul a2 a1;rw[à];lia
  have hprod:((gx.toArray.size:Nat):Int) * k<=16777216:=by
   have a1:((gx.toArray.size:Nat):Int)<=10:=by rw[Ú];lia
   have:=Int.mul_le_mul a1 (show k<=1000000 by lia) (by lia) (by lia);lia
  refine ą age ⟨_,e,rfl⟩ afv (afl _ _) (uD l gx.toArray n k t dd sl (by simp;lia) (by rw[yo];simp;exact hk) (by rw[yo];simp;lia) (by lia) (by
    unfold Builtin.Tuple.tupleTooMany;rw[decide_eq_true_iff];rw[à];lia) (by rw[f0,Ú,A5];exact Ej)) ⟨e,?_⟩
  have I1:=I.laid (a:=s.heap.objs.size) (o:=.tup (List.replicate k.toNat xs).flatten) (h':=s.heap.push { cls:=.type "tuple",data:=.seq (List.foldl (λ x1 x2=>x1++x2) #[] (List.replicate k.toNat gx.toArray)) }) (t':=s.toks)
   (λ _ _ q=>Î _ q) (Í _) ⟨by rw[A5,ij];exact Ej,(List.replicate k.toNat gx).flatten,r.rep k.toNat,⟨_,Ü _ rfl,rfl,0,by simp only [f0]⟩⟩
  exact⟨.ref _,_,I1,rfl,q _ _ (È I.fresh) (Ò aE)⟩
end
open MeetsSeq in
theorem DB (l b:Á) (items js:Array À) (n n2:Nat) (dd Ce:Option Á) (sl zt:Array (Option À)) (hsz:items.size=js.size) :
  Meets (Builtin.«tuple.__ne__» ⟨[.ref l,.ref b],[]⟩)
   (λ A R s=>s.heap.get? l=some { cls:=.type "tuple",dict:=dd,data:=.seq items n,slots:=sl }/\s.heap.get? b=some { cls:=.type "tuple",dict:=Ce,data:=.seq js n2,slots:=zt }/\
    (∀ j (h1:j < items.size) (h2:j < js.size),SeqAt.EqAt A.in1 s items[j] js[j] true)/\
    R (.ok (.ret (.bool false))) s):=
 .of_wp λ prog w A R s h=>by
  obtain⟨hp,g,d,tk,os⟩:=s;obtain⟨hl,hb,he,h⟩:=h;have f2:=AutoSeq1.sub_tuple_tuple;have hZ:(items.toList.zip js.toList).length=min items.size js.size:=by simp
  wp_walk using AutoSeq1.wpAny_loadPart' hl,AutoSeq1.wpAny_loadPart' hb,wpAny_forIn_list _ (λ jo b s'=>b.1=none/\s'=⟨hp,g,d,tk,os⟩/\∃ i,jo=(items.toList.zip js.toList).drop i) _
  case turn=>
   rintro⟨y,x⟩ jo b s' ⟨yn,rfl,i,hz⟩;have jr:i < (items.toList.zip js.toList).length:=by
    rcases Nat.lt_or_ge i (items.toList.zip js.toList).length with h' | h'
    ·exact h'
    ·rw[agj h'] at hz;cases hz
   have hm:i < min items.size js.size:=hZ ▸ jr;have h1:i < items.size:=í hm (Nat.min_le_left _ _);have h2:i < js.size:=í hm (Nat.min_le_right _ _);rw[List.drop_eq_getElem_cons jr] at hz;injection hz with hyx Ek;have hy:y=items[i]:=by have:=congrArg Prod.fst hyx;simpa using this
   have hx:x=js[i]:=by have:=congrArg Prod.snd hyx;simpa using this
   subst hy hx;refine Æ (he i h1 h2 prog w _ _ ?_)
   wp_walk
   exact⟨rfl,rfl,i+1,Ek⟩
  case fin=>
   rintro⟨b1,b2⟩ s' ⟨yn,rfl,i,hz⟩;simp only at yn;subst yn
   wp_walk
   exact⟨_,rfl,by simpa [Builtin.Tuple.tupleCompareSizes,hsz] using h⟩
  case h=>
   exact⟨rfl,rfl,0,rfl⟩
inductive D where
 | non | bl (b:Bool) | int (i:Int) | str (x:Str) | tup (ds:List D)
mutual
def Is (K:Ç) (H:Hp):D->V->Prop
 | .non,v=>v=.non
 | .bl b,v=>v=.bl b
 | .int i,v=>v=.int i
 | .str x,v=>v=.str x
 | .tup ds,v=>∃ a xs,v=.ref a/\bS K H a xs/\IsL K H ds xs
def IsL (K:Ç) (H:Hp):List D->List V->Prop
 | [],xs=>xs=[]
 | d::ds,xs=>∃ x r,xs=x::r/\Is K H d x/\IsL K H ds r
end
def bW (K:Ç) (H H':Hp):Prop:=∀ a xs,bS K H a xs->bS K H' a xs
theorem bW.refl {K:Ç} (H:Hp):bW K H H:=λ _ _ h=>h
theorem bW.trans {K:Ç}{H H1 H2:Hp} (a:bW K H H1) (b:bW K H1 H2):bW K H H2:=λ c xs h=>b c xs (a c xs h)
theorem aJ.ts {K:Ç}{H H':Hp} (e:aJ H H'):bW K H H':=λ _ _ h=>e.tup h
mutual
theorem Is.mono {K:Ç}{H H':Hp} (t:bW K H H'):∀ (d:D) (v:V),Is K H d v->Is K H' d v
 | .non,_,h=>h
 | .bl _,_,h=>h
 | .int _,_,h=>h
 | .str _,_,h=>h
 | .tup ds,v,h=>by
  rw[Is] at h ⊢;obtain⟨a,xs,e,q,l⟩:=h;exact⟨a,xs,e,t a xs q,IsL.mono t ds xs l⟩
theorem IsL.mono {K:Ç}{H H':Hp} (t:bW K H H'):∀ (ds:List D) (xs:List V),IsL K H ds xs->IsL K H' ds xs
 | [],xs,h=>h
 | d::ds,xs,h=>by
  rw[IsL] at h ⊢;obtain⟨x,r,e,hx,hr⟩:=h;exact⟨x,r,e,Is.mono t d x hx,IsL.mono t ds r hr⟩
end
def Ï:=@Is.mono
def Õ:=@IsL.mono
theorem IsL.length {K:Ç}{H:Hp}:∀ {ds:List D}{xs:List V},IsL K H ds xs->xs.length=ds.length
 | [],xs,h=>by rw[IsL] at h;subst h;rfl
 | d::ds,xs,h=>by
  rw[IsL] at h;obtain⟨x,r,rfl,_,hr⟩:=h;rw[á,á,IsL.length hr]
theorem IsL.get {K:Ç}{H:Hp}:∀ {ds:List D}{xs:List V}{i:Nat}{d:D},IsL K H ds xs->ds[i]? = some d->∃ x,xs[i]? = some x/\Is K H d x
 | [],_,_,_,_,e=>by simp at e
 | d::ds,xs,0,d',h,e=>by
  rw[IsL] at h;obtain⟨x,r,rfl,hx,hr⟩:=h;simp at e;subst e;exact⟨x,rfl,hx⟩
 | d::ds,xs,i+1,d',h,e=>by
  rw[IsL] at h;obtain⟨x,r,rfl,hx,hr⟩:=h;obtain⟨y,h1,h2⟩:=IsL.get hr (i:=i) (by simpa using e);exact⟨y,by simpa using h1,h2⟩
theorem IsL.get' {K:Ç}{H:Hp}{ds:List D}{xs:List V}{i:Nat}{x:V} (h:IsL K H ds xs) (e:xs[i]? = some x):∃ d,ds[i]? = some d/\Is K H d x:=by
 have hl:=h.length;have hi:i < ds.length:=by rw[<- hl];exact (æ.mp e).1
 obtain⟨y,h1,h2⟩:=h.get (i:=i) (d:=ds[i]) (by simp [hi]);rw[e] at h1;cases h1;exact⟨ds[i],by simp [hi],h2⟩
theorem IsL.snoc {K:Ç}{H:Hp}{d:D}{x:V} (hd:Is K H d x):∀ {ds:List D}{xs:List V},IsL K H ds xs->IsL K H (ds++[d]) (xs++[x])
 | [],xs,h=>by
  rw[IsL] at h;subst h;show IsL K H [d] [x];rw[IsL];exact⟨x,[],rfl,hd,by rw[IsL]⟩
 | d'::ds,xs,h=>by
  rw[IsL] at h;obtain⟨y,r,rfl,hy,hr⟩:=h;show IsL K H (d'::(ds++[d])) (y::(r++[x]));rw[IsL];exact⟨y,r++[x],rfl,hy,IsL.snoc hd hr⟩
def ď:=@IsL.snoc
theorem IsL.ints {K:Ç}{H:Hp}:∀ {ns:List Int}{xs:List V},IsL K H (ns.map D.int) xs->xs=ns.map V.int
 | [],xs,h=>by rw[ė,IsL] at h;exact h
 | n::ns,xs,h=>by
  rw[Ù,IsL] at h;obtain⟨x,r,rfl,hx,hr⟩:=h;rw[Is] at hx;rw[hx,IsL.ints hr,Ù]
theorem IsL.of_ints {K:Ç}{H:Hp}:∀ (ns:List Int),IsL K H (ns.map D.int) (ns.map V.int)
 | []=>by rw[ė,ė,IsL]
 | n::ns=>by
  rw[Ù,Ù,IsL];exact⟨_,_,rfl,by rw[Is],IsL.of_ints ns⟩
def Ű:=@IsL.of_ints
theorem IsL.bools {K:Ç}{H:Hp}:∀ {ns:List Bool}{xs:List V},IsL K H (ns.map D.bl) xs->xs=ns.map V.bl
 | [],xs,h=>by rw[ė,IsL] at h;exact h
 | n::ns,xs,h=>by
  rw[Ù,IsL] at h;obtain⟨x,r,rfl,hx,hr⟩:=h;rw[Is] at hx;rw[hx,IsL.bools hr,Ù]
theorem IsL.of_bools {K:Ç}{H:Hp}:∀ (ns:List Bool),IsL K H (ns.map D.bl) (ns.map V.bl)
 | []=>by rw[ė,ė,IsL]
 | n::ns=>by
  rw[Ù,Ù,IsL];exact⟨_,_,rfl,by rw[Is],IsL.of_bools ns⟩
mutual
def D.depth:D->Nat
 | .tup ds=>jP ds+1
 | _=>0
def jP:List D->Nat
 | []=>0
 | d::ds=>max d.depth (jP ds)
end
section
variable {X:Cx}{gn:List (Á×Obj)}{σ:St}{H:Hp}{s:Â}
mutual
theorem Is.eqAt (I:Inv X gn σ H s):∀ (d:D) (A:Around) (x y:V) (u v:À),A.units+d.depth < cLine->Is X.K H d x->Is X.K H d y->bH x u->bH y v->SeqAt.EqAt A s u v true
 | .non,A,x,y,u,v,_,hx,hy,rx,ry=>by
  rw[Is] at hx hy;subst hx hy;cases rx;cases ry;exact ĵ _
 | .bl b,A,x,y,u,v,_,hx,hy,rx,ry=>by
  rw[Is] at hx hy;subst hx hy;cases rx;cases ry;exact ĵ _
 | .int i,A,x,y,u,v,_,hx,hy,rx,ry=>by
  rw[Is] at hx hy;subst hx hy;obtain⟨t,rfl⟩:=rx;obtain⟨t',rfl⟩:=ry;have:=afh (A:=A) (s:=s) i t i t';simpa using this
 | .str z,A,x,y,u,v,_,hx,hy,rx,ry=>by
  rw[Is] at hx hy;subst hx hy;obtain⟨t,rfl⟩:=rx;obtain⟨t',rfl⟩:=ry;have:=afi (A:=A) (s:=s) z t z t';simpa using this
 | .tup ds,A,x,y,u,v,hu,hx,hy,rx,ry=>by
  rw[Is] at hx hy;obtain⟨a,xs,rfl,q1,l1⟩:=hx;obtain⟨b,ys,rfl,q2,l2⟩:=hy;cases rx;cases ry
  by_cases xo:a=b
  ·subst xo;exact ĵ _
  ·obtain⟨us,r1,p1,_⟩:=I.tuple q1;obtain⟨vs,r2,p2,_⟩:=I.tuple q2;have El:D.depth (.tup ds)=jP ds+1:=by rw[D.depth]
   rw[El] at hu;have e1:=r1.length;have e2:=r2.length;have e3:=l1.length;have e4:=l2.length;have hu2:A.in1.units+jP ds < cLine:=by
    have:A.in1.units<=A.units+1:=by show A.units+1<=A.units+1;exact Í _
    lia
   have all:=IsL.eqAt I ds A.in1 xs ys us vs hu2 l1 l2 r1 r2;have hsz:us.toArray.size=vs.toArray.size:=by simp;lia
   have:=SeqAt.RcAt.tuples (A:=A) (s:=s) (e:=λ _=>true) (show s.heap.IsTuple a us.toArray from p1) (show s.heap.IsTuple b vs.toArray from p2) (by lia) λ j h1 h2=>all j us.toArray[j] vs.toArray[j] (by simp) (by simp);have e5:((List.range (min us.toArray.size vs.toArray.size)).all (λ _=>true) && us.toArray.size == vs.toArray.size)=true:=by
    rw[hsz];simp
   rw[e5] at this;exact SeqAt.EqAt.of_refs xo this
theorem IsL.eqAt (I:Inv X gn σ H s):∀ (ds:List D) (A:Around) (xs ys:List V) (us vs:List À),A.units+jP ds < cLine->IsL X.K H ds xs->IsL X.K H ds ys->bG xs us->bG ys vs->∀ (j:Nat) (u v:À),us[j]? = some u->vs[j]? = some v->SeqAt.EqAt A s u v true
 | [],A,xs,ys,us,vs,_,hx,hy,rx,ry,j,u,v,eu,ev=>by
  rw[IsL] at hx;subst hx;cases rx;simp at eu
 | d::ds,A,xs,ys,us,vs,hu,hx,hy,rx,ry,j,u,v,eu,ev=>by
  rw[IsL] at hx hy;obtain⟨x,xr,rfl,hx,hxr⟩:=hx;obtain⟨y,yr,rfl,hy,hyr⟩:=hy;have hd:jP (d::ds)=max d.depth (jP ds):=by rw[jP]
  rw[hd] at hu;cases rx with
  | cons rx rxr=>
   cases ry with
   | cons ry ryr=>
    cases j with
    | zero=>
     simp at eu ev;subst eu ev;exact Is.eqAt I d A x y _ _ (by lia) hx hy rx ry
    | succ j=>exact IsL.eqAt I ds A xr yr _ _ (by lia) hxr hyr rxr ryr j u v (by simpa using eu) (by simpa using ev)
end
end
section
variable {X:Cx}
def yZ (K:Ç):R2:=λ x y H Q=>∃ ds,ds.length<=1000/\jP ds<=20/\Is K H (.tup ds) x/\Is K H (.tup ds) y/\Q (.bl false) H
theorem HV (hu:X.A.units+64 < cLine):iW X (compareOp .NotEq) (yZ X.K):=by
 intro gn s σ H x y v u Q I rx ry h;obtain⟨ds,hl,El,hx,hy,q⟩:=h;rw[Is] at hx hy;obtain⟨a,xs,rfl,q1,l1⟩:=hx;obtain⟨b,ys,rfl,q2,l2⟩:=hy;cases rx;cases ry;obtain⟨us,r1,p1,_⟩:=I.tuple q1;obtain⟨vs,r2,p2,_⟩:=I.tuple q2;have e1:=r1.length;have e2:=r2.length;have e3:=l1.length;have e4:=l2.length;obtain⟨⟨cls,dd,data,sl⟩,ho,hc,n,hd⟩:=id p1;obtain⟨⟨Pb,Ce,data2,zt⟩,Am,Dq,n2,hd2⟩:=id p2;simp only at hc hd Dq hd2;subst hc hd Dq hd2;have uq:∀ A:Around,A.in1.units=A.units+1:=λ A=>rfl;refine richCompare_meets_room (op:=.NotEq) ⟨_,ho,rfl⟩ ⟨_,Am,rfl⟩ F.slot_tuple_ne F.entry_tuple_ne (F.args_tuple_ne_2 _ _) (DB a b us.toArray vs.toArray n n2 dd Ce sl zt (by simp;lia))
  ⟨ho,Am,λ j h1 h2=>IsL.eqAt I ds _ xs ys us vs (by rw[uq];lia) l1 l2 r1 r2 j _ _ (by simp) (by simp),show Value.bool false≠Value.notImplemented/\EP X gn σ Q (.bool false) s from ⟨(λ x=>nomatch x),.bl false,H,I,rfl,q⟩⟩ (by lia)
def S0:V->List V->Hp->VK->Prop:=λ x vs H Q=>∃ (l:Á) (xs:List V) (y:V) (j:Nat),x=.ref l/\vs=[y]/\H l=some (.lst xs)/\lQ y=true/\xs.all lQ=true/\j < xs.length/\(∀ z,xs[j]? = some z->D5 z y=true)/\(∀ i z,i < j->xs[i]? = some z->D5 z y=false)/\Q (.int j) H
theorem BO:TW X "list.index" S0:=by
 intro gn s σ H x vs v us Q I rx rv h;obtain⟨l,xs,y,j,rfl,rfl,hH,fy,fx,hj,h1,h2,q⟩:=h;cases rx;obtain⟨u,rfl,ru⟩:=rv.one;obtain⟨z,gx,n,r,hl,e⟩:=I.lstM hH;have key:∀ i (hi:i < gx.length),∃ x,xs[i]? = some x/\bH x gx[i]/\lQ x=true:=λ i hi=>by
  have hx:xs[i]? = some xs[i]:=by simp [show i < xs.length by lia]
  obtain⟨w',h1,h2⟩:=r.get hx;have:gx[i]? = some gx[i]:=by simp [hi]
  rw[this] at h1;cases h1;exact⟨_,hx,h2,(ě.mp fx) _ (ń _)⟩
 refine ą F.slot_list_index ⟨_,e,rfl⟩ F.entry_list_index (F.args_list_index_2 _ _)
  (SeqAt.list_indexAt l gx.toArray n none #[] u (JO y) j (by rw[Ú];lia) (by rw[à] at z;lia) ?_ ?_) ⟨e,λ w' hw=>?_,⟨.int j,H,I.tok _,⟨_,rfl⟩,q⟩⟩
 ·obtain⟨x,hx,rx,Pz⟩:=key j (by lia);have:=AC (x:=y) rx Pz;show JO y gx[j]=true;rw[this];exact h1 x hx
 ·intro i hi jr;have pk:i < gx.length:=by simpa using hi
  obtain⟨x,hx,rx,Pz⟩:=key i pk;have:=AC (x:=y) rx Pz;show JO y gx[i]=false;rw[this];exact h2 i x jr hx
 ·exact qS ru fy r fx w' (by simpa using hw)
end
structure Callee (P:Ã) (w:World) (K:Ç) (mg:Str->Option À) (base:Heap) (x:Str) (ps:List Str) (k:Nat) (sp:Sp) (f:Á) (fd:FuncData):Prop where
 ok:FnOk P w K mg base gP k f fd ps sp
 mg:mg x=some (.ref f)
 kp:PySem.W.keepIn K (.ref f)=true
 bd:gQ K fd ps []
theorem bZ {X:Cx}{x:Str}{ps:List Str}{k n:Nat}{sp:Sp}{f:Á}{fd:FuncData}{e:Expr}{es:List Expr}{t:TA}{p pos:Pos} (G:Callee X.prog X.w X.K X.mg X.base x ps k sp f fd) (hr:Room n X.A) (ha:PA X (e::es) t) (hg:Gl X x:=by exact wr0) (hle:k<=n:=by decide)
  (ye:(x == ("__debug__" : Str))=false:=by decide) (he:starEach (e::es) X.env=(false,eval e X.env)::starEach es X.env:=by exact wr0) (pe:(backTo pos (starEach es X.env)).any (·.1)=false:=by exact wr0) :
  PE X (.Call (.Name x p) (e::es) [] pos) (jC sp [] E0 t):=dL G.ok (hr.mono hle) hg G.mg G.kp G.bd .nil iE ha ye he pe
theorem cQ:bootBuiltins "isinstance" = some (.builtin "isinstance"):=by decide +kernel
def d4 (t:Á) (H H':Hp):Prop:=∀ b o,b≠t->H b=some o->H' b=some o
theorem d4.refl {t:Á} (H:Hp):d4 t H H:=λ _ _ _ h=>h
def Đ:=@d4.refl
theorem d4.trans {t:Á}{H H1 H2:Hp} (a:d4 t H H1) (b:d4 t H1 H2):d4 t H H2:=λ c o hc h=>b c o hc (a c o hc h)
theorem aJ.but {t:Á}{H H':Hp} (a:aJ H H'):d4 t H H':=λ b o _ h=>a b o h
theorem d4.upd {t:Á}{H:Hp}{o:HO}:d4 t H (upd H t o):=λ b u hb h=>by rw[aM hb];exact h
def å:=@d4.upd
theorem d4.ts {K:Ç}{t:Á}{H H':Hp} (a:d4 t H H') (hm:lS (H t)):bW K H H':=by
 intro b xs h;have ne:∀ {o:HO},H b=some o->¬ lS (some o)->b≠t:=λ e n z=>by rw[<- z,e] at hm;exact n hm
 rcases h with (h | ⟨o,h⟩) | h
 ·exact .inl (.inl (a _ _ (ne h (λ z=>z)) h))
 ·exact .inl (.inr ⟨o,a _ _ (ne h (λ z=>z)) h⟩)
 ·exact .inr h
def ć:=@d4.ts
theorem d4.free {t l:Á}{H H':Hp} (a:d4 t H H') (hl:l≠t) (h:H' l=none):H l=none:=by
 cases q:H l with
 | none=>rfl
 | some o=>rw[a l o hl q] at h;cases h
def QR (K:Ç):V->V->Hp->VK->Prop:=λ o i H Q=>∃ (p:Á) (xs:List V) (k:Int) (v:V),o=.ref p/\i=.int k/\aY K H p xs/\0<=k/\k < 2 ^ 63/\xs[k.toNat]? = some v/\Q v H
theorem N5 {X:Cx}:TU X (QR X.K):=by
 intro gn s σ H o i ov iv Q I ro ri h;obtain⟨p,xs,k,v,rfl,rfl,hq,h0,h1,hx,q⟩:=h;cases ro;obtain⟨t,rfl⟩:=ri;obtain⟨gx,r,pl,hz⟩:=I.list hq;obtain⟨w',ew,so⟩:=r.get hx;exact wpAny_getItem_list pl.isList h0 h1 (by simpa using ew) ⟨v,H,I,so,q⟩
theorem lF {n:Nat}{k:Int} (h0:0<=k) (h1:k < n):IL n k=some k.toNat:=by
 unfold IL;rw[Å h0,Å h1]
theorem lH {ak:Type}{xs:List ak}{k:Int}{v:ak} (h0:0<=k) (h:xs[k.toNat]? = some v):AO xs k=some v:=by
 obtain⟨j,rfl⟩:=ú h0;exact eJ (by simpa using h)
theorem Is.tupOf {K:Ç}{H:Hp}{ds:List D}{a:Á}{xs:List V} (q:bS K H a xs) (l:IsL K H ds xs):Is K H (.tup ds) (.ref a):=by
 rw[Is];exact⟨a,xs,rfl,q,l⟩
def Ý:=@Is.tupOf
theorem Is.un {K:Ç}{H:Hp}{ds:List D}{v:V} (h:Is K H (.tup ds) v):∃ a xs,v=.ref a/\bS K H a xs/\IsL K H ds xs:=by
 rw[Is] at h;exact h
theorem IsL.un {K:Ç}{H:Hp}{d:D}{ds:List D}{xs:List V} (h:IsL K H (d::ds) xs):∃ x r,xs=x::r/\Is K H d x/\IsL K H ds r:=by
 rw[IsL] at h;exact h
theorem IsL.un0 {K:Ç}{H:Hp}{xs:List V} (h:IsL K H [] xs):xs=[]:=by
 rw[IsL] at h;exact h
theorem IsL.cons {K:Ç}{H:Hp}{d:D}{ds:List D}{x:V}{xs:List V} (hd:Is K H d x) (h:IsL K H ds xs):IsL K H (d::ds) (x::xs):=by
 rw[IsL];exact⟨x,xs,rfl,hd,h⟩
theorem IsL.nil {K:Ç}{H:Hp}:IsL K H [] []:=by rw[IsL]
theorem Is.i {K:Ç}{H:Hp} (i:Int):Is K H (.int i) (.int i):=by rw[Is]
theorem Is.b {K:Ç}{H:Hp} (i:Bool):Is K H (.bl i) (.bl i):=by rw[Is]
theorem Is.s {K:Ç}{H:Hp} (i:Str):Is K H (.str i) (.str i):=by rw[Is]
theorem Is.n {K:Ç}{H:Hp}:Is K H .non .non:=by rw[Is]
theorem Is.ui {K:Ç}{H:Hp}{i:Int}{v:V} (h:Is K H (.int i) v):v=.int i:=by rw[Is] at h;exact h
theorem Is.ub {K:Ç}{H:Hp}{i:Bool}{v:V} (h:Is K H (.bl i) v):v=.bl i:=by rw[Is] at h;exact h
theorem Is.us {K:Ç}{H:Hp}{i:Str}{v:V} (h:Is K H (.str i) v):v=.str i:=by rw[Is] at h;exact h
theorem Is.u0 {K:Ç}{H:Hp}{v:V} (h:Is K H .non v):v=.non:=by rw[Is] at h;exact h
end L2
namespace Tw
open PySem L2
structure Vs where
 size:Int
 brim:Int
 outs:List (Option Int×Int)
 holds:Bool
 spill:Option Int
 acts:List (Str×Int)
abbrev nE:=Int×Int×Bool
structure Net where
 vs:List Vs
 sps:List nE
def RE:Option Int->D
 | none=>.non
 | some i=>.int i
def kO:Option Int->V
 | none=>.non
 | some i=>.int i
def BD (o:Option Int×Int):D:=.tup [RE o.1,.int o.2]
def CY (a:Str×Int):D:=.tup [.str a.1,.int a.2]
def D8 (v:Vs):D:=.tup [.int v.size,.int v.brim,.tup (v.outs.map BD),.bl v.holds,RE v.spill,.tup (v.acts.map CY)]
def O5 (s:nE):D:=.tup [.int s.1,.int s.2.1,.bl s.2.2]
def iT (n:Net):D:=.tup [.tup (n.vs.map D8),.tup (n.sps.map O5)]
def AL (held coming:List Int) (doors:List Bool):D:=.tup [.tup (held.map D.int),.tup (coming.map D.int),.tup (doors.map D.bl)]
theorem Is.tg {K:Ç}{H:Hp}{t:Option Int}{v:V} (h:Is K H (RE t) v):v=kO t:=by
 cases t with
 | none=>exact h.u0
 | some i=>exact h.ui
theorem Is.tgOf {K:Ç}{H:Hp} (t:Option Int):Is K H (RE t) (kO t):=by
 cases t with
 | none=>exact Is.n
 | some i=>exact Is.i i
structure OutOk (n:Nat) (o:Option Int×Int):Prop where
 tg:∀ t,o.1=some t->0<=t/\t < n
 lo:1<=o.2
 hi:o.2<=60
structure ActOk (m:Nat) (a:Str×Int):Prop where
 word:a.1 = "open" \/ a.1 = "shut" \/ a.1 = "turn"
 lo:0<=a.2
 hi:a.2 < m
structure VOk (n m:Nat) (v:Vs):Prop where
 size:1<=v.size
 ne:v.outs≠[]
 o3:v.outs.length<=3
 outs:∀ o∈v.outs,OutOk n o
 spill:∀ t,v.spill=some t->0<=t/\t < n
 a3:v.acts.length<=3
 acts:∀ a∈v.acts,ActOk m a
structure NetOk (net:Net):Prop where
 lo:1<=net.vs.length
 hi:net.vs.length<=12
 sp:net.sps.length<=12
 vs:∀ v∈net.vs,VOk net.vs.length net.sps.length v
 sps:∀ s∈net.sps,0<=s.1/\s.1 < net.vs.length
def whole (outs:List (Option Int×Int)):Int:=(outs.map (·.2)).sum
theorem rB {n:Nat}:∀ {outs:List (Option Int×Int)},outs≠[]->(∀ o∈outs,OutOk n o)->1<=whole outs
 | [],h,_=>absurd rfl h
 | o::r,_,h=>by
  have h1:=(h o Þ).lo;have h2:0<=whole r:=by
   clear h1;have:∀ (r:List (Option Int×Int)),(∀ o∈r,OutOk n o)->0<=whole r:=by
    intro r
    induction r with
    | nil=>intro _;exact ö _
    | cons o r ih=>
     intro h;have h1:=(h o Þ).lo;have h2:=ih λ o ho=>h o (Ô _ ho);show 0<=o.2+whole r;lia
   exact this r λ o ho=>h o (Ô _ ho)
  show 1<=o.2+whole r;lia
theorem AS {n:Nat}:∀ {outs:List (Option Int×Int)},(∀ o∈outs,OutOk n o)->whole outs<=60 * outs.length
 | [],_=>ö _
 | o::r,h=>by
  have h1:=(h o Þ).hi;have h2:=AS λ o ho=>h o (Ô _ ho);show o.2+whole r<=_;rw[á];lia
def d6 (k:Option Int):List (Option Int×Int)->Int
 | []=>0
 | g::r=>(if g.1=k then g.2 else 0)+d6 k r
theorem o7 (k:Option Int):∀ (a b:List (Option Int×Int)),d6 k (a++b)=d6 k a+d6 k b
 | [],b=>by simp [d6]
 | g::r,b=>by
  show (if g.1=k then g.2 else 0)+d6 k (r++b)=(if g.1=k then g.2 else 0)+d6 k r+d6 k b;rw[o7 k r b];lia
def cP (v:Vs) (has:Int):Int:=min has v.brim
def pJ (v:Vs) (has:Int):Bool:=decide (v.size<=cP v has)
def kR (v:Vs) (here:Int):List (Option Int×Int):=v.outs.map λ o=>(o.1,here / whole v.outs * o.2)
def gJ (v:Vs) (has:Int):List (Option Int×Int):=
 (v.spill,has - cP v has)::(if pJ v has=true then kR v (cP v has)++(if v.holds=true then [] else [(none,cP v has % whole v.outs)]) else [])
def iO (v:Vs) (has:Int):Int:=if pJ v has=true then (if v.holds=true then cP v has % whole v.outs else 0) else cP v has
theorem HB {n m:Nat}{v:Vs} (ok:VOk n m v) (has:Int):(gJ v has).length<=5:=by
 unfold gJ kR;have:=ok.o3
 split
 ·split <;> simp <;> lia
 ·simp
def n9 (has:List Int) (s:nE) (d:Bool):List Int:=if d=true then has.set s.1.toNat (has.getD s.1.toNat 0+s.2.1) else has
def gB:List Int->List nE->List Bool->List Int
 | has,s::ss,d::ds=>gB (n9 has s d) ss ds
 | has,_,_=>has
def jB:List Int->List Int->List Int->List Int
 | a::as,b::bs,c::cs=>(a+b+c)::jB as bs cs
 | _,_,_=>[]
def cI (net:Net) (held coming poured:List Int) (doors:List Bool):List Int:=gB (jB held coming poured) net.sps doors
def dO:List Vs->List Int->List (Option Int×Int)
 | v::vs,h::hs=>gJ v h++dO vs hs
 | _,_=>[]
def dW:List Vs->List Int->List Int
 | v::vs,h::hs=>iO v h::dW vs hs
 | _,_=>[]
def eK:Nat->List Vs->List Int->List Nat
 | i,v::vs,h::hs=>if pJ v h=true then i::eK (i+1) vs hs else eK (i+1) vs hs
 | _,_,_=>[]
def JM (doors:List Bool) (a:Str×Int):List Bool:=doors.set a.2.toNat (if a.1 = "open" then true else if a.1 = "turn" then !(doors.getD a.2.toNat false) else false)
def gY (doors:List Bool) (as:List (Str×Int)):List Bool:=as.foldl JM doors
def eP (vs:List Vs) (doors:List Bool) (tip:List Nat):List Bool:=tip.foldl (λ ds i=>match vs[i]? with | some v=>gY ds v.acts | none=>ds) doors
def fC (n:Nat) (Qa:List (Option Int×Int)):List Int:=(List.range n).map λ (k:Nat)=>d6 (some (k:Int)) Qa
structure Tick where
 held:List Int
 coming:List Int
 doors:List Bool
 tip:List Nat
 ground:Int
def rE (net:Net) (held coming poured:List Int) (doors:List Bool):Tick:=
 let hs:=cI net held coming poured doors
 ⟨dW net.vs hs,fC net.vs.length (dO net.vs hs),eP net.vs doors (eK 0 net.vs hs),eK 0 net.vs hs,d6 none (dO net.vs hs)⟩
def UD (t:Tick):D:=.tup [AL t.held t.coming t.doors,.tup (t.tip.map λ (i:Nat)=>D.int (i:Int)),.int t.ground]
end Tw
namespace L2
open PySem PySem.Spec PyProof.Rows TwZ
section
variable {g:TG}{tc:TT}{te:TE}{fr:List (Option Nat)}{σ:St}{H1:Hp}{Q:Á->Hp->Prop}
theorem fN {a:Á}{xs:List V} (Pv:Á->Nat->List V->St->Hp->Prop) (hq:∀ D i ys σ H,Pv D i ys σ H->bS K H a xs)
  (h0:∀ D,H1 D=none->Pv D 0 [] (EM fr σ) (upd H1 D (.lst []))) (jl:∀ D ys ac H',Pv D xs.length ys ac H'->Q D H')
  (pi:∀ D i x ys ac H',xs[i]? = some x->Pv D i ys ac H'->g x ac H' λ aq H3=>tc aq H3 λ b H4=>
    if b=true then te aq H4 λ y H5=>H5 D=some (.lst ys)/\ys.length < sizeLine/\Pv D (i+1) (ys++[y]) aq (upd H5 D (.lst (ys++[y])))
    else Pv D (i+1) ys aq H4):j6 (QD K a) g tc te fr σ H1 Q:=by
 refine rY (n:=xs.length) Pv h0 (λ D ys ac H' p=>⟨⟨xs,hq D _ ys ac H' p,Í _⟩,jl D ys ac H' p⟩) λ D i ys ac H' hi p=>⟨⟨xs,xs[i],hq D _ ys ac H' p,by simp [hi]⟩,λ x H2 y=>?_⟩;obtain⟨e,y⟩:=y;subst e;exact pi D i x ys ac _ (y xs (hq D _ ys ac _ p)) p
theorem qV {a:Á}{xs:List V} (Pv:Á->Nat->List V->St->Hp->Prop) (hq:∀ D i ys σ H,Pv D i ys σ H->aY K H a xs)
  (h0:∀ D,H1 D=none->Pv D 0 [] (EM fr σ) (upd H1 D (.lst []))) (jl:∀ D ys ac H',Pv D xs.length ys ac H'->Q D H')
  (pi:∀ D i x ys ac H',xs[i]? = some x->Pv D i ys ac H'->g x ac H' λ aq H3=>tc aq H3 λ b H4=>
    if b=true then te aq H4 λ y H5=>H5 D=some (.lst ys)/\ys.length < sizeLine/\Pv D (i+1) (ys++[y]) aq (upd H5 D (.lst (ys++[y])))
    else Pv D (i+1) ys aq H4):j6 (R9 K a) g tc te fr σ H1 Q:=by
 refine rY (n:=xs.length) Pv h0 (λ D ys ac H' p=>⟨⟨xs,hq D _ ys ac H' p,Í _⟩,jl D ys ac H' p⟩) λ D i ys ac H' hi p=>⟨⟨xs,xs[i],hq D _ ys ac H' p,by simp [hi]⟩,λ x H2 y=>?_⟩;obtain⟨e,y⟩:=y;subst e;exact pi D i x ys ac _ (y xs (hq D _ ys ac _ p)) p
theorem BX {n:Nat} (Pv:Á->Nat->List V->St->Hp->Prop)
  (h0:∀ D,H1 D=none->Pv D 0 [] (EM fr σ) (upd H1 D (.lst []))) (jl:∀ D ys ac H',Pv D n ys ac H'->Q D H')
  (pi:∀ D i ys ac H',i < n->Pv D i ys ac H'->g (.int (i:Int)) ac H' λ aq H3=>tc aq H3 λ b H4=>
    if b=true then te aq H4 λ y H5=>H5 D=some (.lst ys)/\ys.length < sizeLine/\Pv D (i+1) (ys++[y]) aq (upd H5 D (.lst (ys++[y])))
    else Pv D (i+1) ys aq H4):j6 (NX 0 n) g tc te fr σ H1 Q:=by
 refine rY (n:=n) Pv h0 (λ D ys ac H' p=>⟨Í _,jl D ys ac H' p⟩) λ D i ys ac H' hi p=>⟨hi,λ x H2 y=>?_⟩;obtain⟨e,y⟩:=y;subst e y;rw[Int.zero_add];exact pi D i ys ac _ hi p
theorem PQ {t1 t2 t3:Bool}{a1 a2 a3:Á}{xs ys zs:List V}{n:Nat} (h1:xs.length=n) (h2:ys.length=n) (h3:zs.length=n) (Pv:Á->Nat->List V->St->Hp->Prop)
  (hq:∀ D i r σ H,Pv D i r σ H->jK K H t1 a1 xs/\jK K H t2 a2 ys/\jK K H t3 a3 zs)
  (h0:∀ D,H1 D=none->Pv D 0 [] (EM fr σ) (upd H1 D (.lst []))) (jl:∀ D r ac H',Pv D n r ac H'->Q D H')
  (pi:∀ D i x y z r ac H' T,xs[i]? = some x->ys[i]? = some y->zs[i]? = some z->Pv D i r ac H'->H' T=none->g (.ref T) ac (upd H' T (.tup [x,y,z])) λ aq H3=>tc aq H3 λ b H4=>
    if b=true then te aq H4 λ y H5=>H5 D=some (.lst r)/\r.length < sizeLine/\Pv D (i+1) (r++[y]) aq (upd H5 D (.lst (r++[y])))
    else Pv D (i+1) r aq H4):j6 (TX K t1 t2 t3 a1 a2 a3) g tc te fr σ H1 Q:=by
 refine rY (n:=n) Pv h0 (λ D r ac H' p=>?_) λ D i r ac H' hi p=>?_
 ·obtain⟨q1,q2,q3⟩:=hq D _ r ac H' p;exact⟨⟨xs,ys,zs,q1,q2,q3,.inl (by lia)⟩,jl D r ac H' p⟩
 ·obtain⟨q1,q2,q3⟩:=hq D _ r ac H' p;refine⟨⟨xs,ys,zs,xs[i]'(by lia),ys[i]'(by lia),zs[i]'(by lia),q1,q2,q3,by simp,by simp,by simp⟩,?_⟩;rintro v H2 ⟨T,x,y,z,hT,rfl,e1,e2,e3,rfl⟩;exact pi D i x y z r ac H' T (e1 xs q1) (e2 ys q2) (e3 zs q3) p hT
end
section
variable {g:TG}{tb:TS}{D:Ends}{σ:St}{H:Hp}
abbrev GU (J:It) (g:TG) (tb:TS) (D:Ends) (σ:St) (H:Hp):Prop:=
 ∃ W:Nat->Nat->St->Hp->Prop,(∃ m,W 0 m σ H)/\∀ i m σ H,W i m σ H->
   (J.stop i H/\D.nx σ H)\/(J.go i H/\∃ N:St->Hp->Prop,(∀ ac H',N ac H'->∃ m',m' < m/\W (i+1) m' ac H')/\∀ x H',J.yld i H x H'->g x σ H' λ ba H2=>tb { D with nx:=N,ct:=N,bk:=D.nx } ba H2)
theorem N7 {t1 t2:Bool}{a1 a2:Á}{xs ys:List V}{n:Nat} (h1:xs.length=n) (h2:ys.length=n) (Pv:Nat->St->Hp->Prop) (hq:∀ i σ H,Pv i σ H->jK K H t1 a1 xs/\jK K H t2 a2 ys)
  (h0:Pv 0 σ H) (jl:∀ σ H,Pv n σ H->D.nx σ H)
  (pi:∀ i x y σ H T,xs[i]? = some x->ys[i]? = some y->Pv i σ H->H T=none->g (.ref T) σ (upd H T (.tup [x,y])) λ ba H2=>tb { D with nx:=Pv (i+1),ct:=Pv (i+1),bk:=D.nx } ba H2):GU (QC K t1 t2 a1 a2) g tb D σ H:=by
 refine GF (n:=n) Pv h0 (λ σ H p=>?_) λ i σ H hi p=>?_
 ·obtain⟨q1,q2⟩:=hq _ σ H p;exact⟨⟨xs,ys,q1,q2,.inl (by lia)⟩,jl σ H p⟩
 ·obtain⟨q1,q2⟩:=hq _ σ H p;refine⟨⟨xs,ys,xs[i]'(by lia),ys[i]'(by lia),q1,q2,by simp,by simp⟩,?_⟩;rintro v H2 ⟨T,x,y,hT,rfl,e1,e2,rfl⟩;exact pi i x y σ H T (e1 xs q1) (e2 ys q2) p hT
theorem CH {t:Bool}{a:Á}{xs:List V} (Pv:Nat->St->Hp->Prop) (hq:∀ i σ H,Pv i σ H->jK K H t a xs)
  (h0:Pv 0 σ H) (jl:∀ σ H,Pv xs.length σ H->D.nx σ H)
  (pi:∀ i x σ H T,xs[i]? = some x->Pv i σ H->H T=none->g (.ref T) σ (upd H T (.tup [.int (i:Int),x])) λ ba H2=>tb { D with nx:=Pv (i+1),ct:=Pv (i+1),bk:=D.nx } ba H2):GU (Ite K t a) g tb D σ H:=by
 refine GF (n:=xs.length) Pv h0 (λ σ H p=>?_) λ i σ H hi p=>?_
 ·exact⟨⟨xs,hq _ σ H p,Í _⟩,jl σ H p⟩
 ·refine⟨⟨xs,xs[i],hq _ σ H p,by simp [hi]⟩,?_⟩;rintro v H2 ⟨T,x,hT,rfl,e1,rfl⟩;exact pi i x σ H T (e1 xs (hq _ σ H p)) p hT
end
theorem D6 {σ:St}{H:Hp}{A B:Hp->Prop} (h:A H):DC σ H λ b H4=>if b=true then A H4 else B H4:=by
 show if true=true then A H else B H
 rw[Å rfl];exact h
theorem fL {i:Nat}{v:V}{σ:St}{H:Hp}{A B:St->Hp->Prop} (h:A (σ.set i (some v)) H):bL i v σ H λ aq H3=>DC aq H3 λ b H4=>if b=true then A aq H4 else B aq H4:=D6 (σ:=σ.set i (some v)) (A:=A (σ.set i (some v))) (B:=B (σ.set i (some v))) h
theorem aJ.put {H H':Hp}{p:Á}{o:HO} (a:aJ H H') (h:H p=none):aJ H (upd H' p o):=λ b u e=>by rw[aM (aP e h)];exact a b u e
theorem bW.put {K:Ç}{H H':Hp}{p:Á}{o:HO} (a:bW K H H') (h:H' p=none\/lS (H' p)):bW K H (upd H' p o):=a.trans (by
 rcases h with h | h
 ·exact (È h).ts
 ·exact ć å h)
def RA (i j:Int):Prop:=0 < j/\j < 2 ^ 200
theorem LL {X:Cx}:iW X (binaryOp .FloorDiv) (rI RA λ i j=>.int (i / j)):=V9 λ i j _ _ _ _ _ hc q=>by
 have h1:(0:Int) < j:=hc.1;have h2:j < 2 ^ 200:=hc.2;refine floordiv_int (by lia) (by rw[afd i (by lia)];exact q) (.inl (PyProof.noPylong_of_log2 ?_));have h0:j.natAbs≠0:=by lia
 have h3:j.natAbs < 2 ^ 200:=by lia
 have:=(Nat.log2_lt h0).mpr h3;lia
theorem fZ:bootBuiltins "int" = some (.type "int"):=by decide +kernel
theorem dB:bootBuiltins "tuple" = some (.type "tuple"):=by decide +kernel
theorem nX:bootBuiltins "list" = some (.type "list"):=by decide +kernel
theorem u6:bootBuiltins "bool" = some (.type "bool"):=by decide +kernel
section
variable {X:Cx}{tg:Expr}{pos:Pos}
theorem bC {es:List Expr}{k:Nat}{t:GS}{n:Nat} (hK:X.K=K) (hc:X.calm=true) (h:NV X es t)
  (hn:(assignEach es X.env).length=n:=by exact wr0) (sk:(assignEach es X.env).findIdx? (·.1)=none:=by exact wr0):PG X (.Tuple es k pos) (VI K n t):=by
 subst hK;exact S6 hc h hn sk
theorem PV (hK:X.K=K):NW X (AM K):=by subst hK;exact SY
def KQ (K:Ç):List V->Hp->VK->Prop:=λ xs H Q=>∃ p ys,xs=[.ref p]/\(aY K H p ys\/bS K H p ys)/\Q (.int ys.length) H
theorem JE (hK:X.K=K):eY X (.builtin "len") (KQ K):=by subst hK;exact AF
theorem nV (hK:X.K=K) (hc:X.calm=true):eY X (.builtin "sum") (UT K):=by subst hK;exact JC hc
theorem kK (hK:X.K=K) (hc:X.calm=true):eY X (.builtin "all") (V4 K):=by subst hK;exact JI hc
theorem i9 (hK:X.K=K):eY X (.builtin "isinstance") (V1 K):=by subst hK;exact NL
def RT (K:Ç):List V->Hp->VK->Prop:=λ xs H Q=>∃ p ys,xs=[.ref p]/\((aY K H p ys/\∀ l,H l=none->Q (.ref l) (upd H l (.tup ys)))\/(bS K H p ys/\Q (.ref p) H))
theorem cT (hK:X.K=K):eY X (.type "tuple") (RT K):=by subst hK;exact wV
def RY (K:Ç):List V->Hp->VK->Prop:=λ xs H Q=>∃ p ys,xs=[.ref p]/\(aY K H p ys\/bS K H p ys)/\∀ l,H l=none->Q (.ref l) (upd H l (.lst ys))
theorem kI (hK:X.K=K):eY X (.type "list") (RY K):=by subst hK;exact AE
theorem dU {l:Expr}{tl:TE} (hK:X.K=K) (hl:PE X l tl):PI X tg l (CC K tl):=by subst hK;exact OR hl
theorem cU {l:Expr}{tl:TE} (hK:X.K=K) (hl:PE X l tl):PI X tg l (T9 K tl):=by subst hK;exact S4 hl
theorem B9 {a:Expr}{ta:TA}{p:Pos} (hK:X.K=K) (hg:Gl X "enumerate") (hm:X.mg "enumerate" = none) (ha:PA X [a] ta) (hs:starEach [a] X.env=[(false,eval a X.env)]:=by exact wr0):PI X tg (.Call (.Name "enumerate" p) [a] [] pos) (QY K ta):=by
 subst hK;exact OS hg hm ha hs
theorem B8 {a b:Expr}{ta:TA}{p:Pos} (hK:X.K=K) (hg:Gl X "zip") (hm:X.mg "zip" = none) (ha:PA X [a,b] ta) (hs:starEach [a,b] X.env=[(false,eval a X.env),(false,eval b X.env)]:=by exact wr0) (vg:starEach [b] X.env=[(false,eval b X.env)]:=by exact wr0) :
  PI X tg (.Call (.Name "zip" p) [a,b] [] pos) (QX K ta):=by subst hK;exact OP hg hm ha hs vg
theorem L8 {a b c:Expr}{ta:TA}{p:Pos} (hK:X.K=K) (hg:Gl X "zip") (hm:X.mg "zip" = none) (ha:PA X [a,b,c] ta) (hs:starEach [a,b,c] X.env=[(false,eval a X.env),(false,eval b X.env),(false,eval c X.env)]:=by exact wr0)
  (vg:starEach [b,c] X.env=[(false,eval b X.env),(false,eval c X.env)]:=by exact wr0):PI X tg (.Call (.Name "zip" p) [a,b,c] [] pos) (QW K ta):=by subst hK;exact OO hg hm ha hs vg
theorem LI (hK:X.K=K):iW X (binaryOp .Mult) (QO K):=by subst hK;exact FV
theorem lB (hK:X.K=K) (hu:X.A.units+64 < cLine):iW X (compareOp .NotEq) (yZ K):=by subst hK;exact HV hu
theorem xZ (hK:X.K=K):TU X (QR K):=by subst hK;exact N5
theorem dH {o e:Expr}{es:List Expr}{to:TE}{t:TA}{name:Str}{apos jd:Pos}{T id:String}{r:V->List V->Hp->VK->Prop} (hK:X.K=K)
  (pa:PlainAttrs T) (slot:Slot T name id) (yg:typeOf (.builtin id)=pure (.type "method_descriptor")) (hm:NR X id r) (ho:PE X o to) (ha:PA X (e::es) t)
  (lj:attributeBase o name X.env (eval o X.env)=eval o X.env:=by exact wr0)
  (wg:((backTo jd (starEach (e::es) X.env)).all (λ x=>!x.1) && (backToKw jd (keywordEach [] X.env)).all (λ x=>x.1.isSome)
   && decide ((e::es).length+([]:List Keyword).length+(if ([]:List Keyword).isEmpty then 0 else 1) < 30))=true:=by exact wr0)
  (lw:(apos.endLine == jd.line)=true:=by exact wr0) (hs:starEach (e::es) X.env=(false,eval e X.env)::starEach es X.env:=by exact wr0) (ky:(backTo jd (starEach es X.env)).any (·.1)=false:=by exact wr0) :
  PE X (.Call (.Attribute o name apos) (e::es) [] jd) (tBM K T r to t):=by subst hK;exact QT pa slot yg hm ho ha lj wg lw hs ky
end
section
variable {X:Cx}{pos p:Pos}
theorem pL (i:Nat) {x:Str}{e:Expr}{te:TE}{pos':Pos} (hN:X.N.Nodup) (he:PE X e te) (hi:X.N[i]? = some x:=by exact wr0) (hx:R8 X.env.scope x:=by with_unfolding_all exact Or.inl rfl) (hs:swapsWith e (some (.Name x pos')) pos.line X.env=pure false:=by exact wr0) (hf:X.fn x=true\/X.env.scope.names.lookup x=some .local:=by with_unfolding_all first | exact .inl rfl | exact .inr rfl | assumption) :
  PS X (.Assign [.Name x pos'] e pos) (nZ te (bL i)):=zB hN hi hx he hs hf
theorem gL (i:Nat) {x:Str} (hN:X.N.Nodup) (hi:X.N[i]? = some x:=by exact wr0) (hx:R8 X.env.scope x:=by with_unfolding_all exact Or.inl rfl) (hf:X.fn x=true\/X.env.scope.names.lookup x=some .local:=by with_unfolding_all first | exact .inl rfl | exact .inr rfl | assumption):PG X (.Name x pos) (bL i):=tV hN hi hx hf
theorem gC (i:Nat) (N:List Str) {x:Str} (hN:N.Nodup:=by decide +kernel) (e:X.N=N:=by exact wr0) (hi:N[i]? = some x:=by exact wr0) (hx:R8 X.env.scope x:=by with_unfolding_all exact Or.inl rfl) (hf:X.fn x=true\/X.env.scope.names.lookup x=some .local:=by with_unfolding_all exact Or.inr rfl):PG X (.Name x pos) (bL i):=tV (by rw[e];exact hN) (by rw[e];exact hi) hx hf
theorem px (K:Ç) {a b:Expr}{ta tb:TE} (ha:PE X a ta) (hb:PE X b tb) (hK:X.K=K:=by exact wr0) (hs:GT b:=by with_unfolding_all exact λ _ _=>rfl):PE X (.Subscript a b pos) (iJ (AM K) ta tb):=V7 (PV hK) ha hb hs
theorem oQ (K:Ç) {a:Expr}{ta:TE} (hm:X.mg "len" = none) (ha:PE X a ta) (hK:X.K=K:=by exact wr0) (hg:Gl X "len" := by with_unfolding_all rfl) (hs:starEach [a] X.env=[(false,eval a X.env)]:=by exact wr0):PE X (.Call (.Name "len" p) [a] [] pos) (JN (KQ K) (bM ta fX)):=
 bE (JE hK) hg hm ļ (aB ha aD hs) (by decide) (by decide) hs rfl
end
end L2
namespace Tw
open PySem L2
theorem oX {lo:Int}{n:Nat}{g:TG}{tb:TS}{D:Ends}{σ:St}{H:Hp} (Pv:Nat->St->Hp->Prop) (h0:Pv 0 σ H)
  (hs:∀ (E:Ends) i,E.rt=D.rt->(∀ σ H,Pv (i+1) σ H->E.nx σ H)->∀ σ H,i < n->Pv i σ H->g (.int (lo+i)) σ H λ ba H2=>tb E ba H2) (hd:∀ σ H,Pv n σ H->D.nx σ H) :
  ∃ W:Nat->Nat->St->Hp->Prop,(∃ m,W 0 m σ H)/\∀ i m σ H,W i m σ H->
   ((NX lo n).stop i H/\D.nx σ H)\/((NX lo n).go i H/\∃ N:St->Hp->Prop,(∀ ac H',N ac H'->∃ m',m' < m/\W (i+1) m' ac H')/\∀ x H',(NX lo n).yld i H x H'->g x σ H' λ ba H2=>tb { D with nx:=N,ct:=N,bk:=D.nx } ba H2):=
 nQ Pv h0 (λ i σ H hi p=>hs { D with nx:=Pv (i+1),ct:=Pv (i+1),bk:=D.nx } i rfl (λ _ _ q=>q) σ H hi p) hd
theorem N8 {K:Ç}{a:Á}{xs:List V}{g:TG}{tb:TS}{D:Ends}{σ:St}{H:Hp} (Pv:Nat->St->Hp->Prop) (h0:Pv 0 σ H) (hl:∀ i σ H,i<=xs.length->Pv i σ H->bS K H a xs)
  (hs:∀ (E:Ends) i,E.rt=D.rt->(∀ σ H,Pv (i+1) σ H->E.nx σ H)->∀ x σ H,xs[i]? = some x->Pv i σ H->g x σ H λ ba H2=>tb E ba H2) (hd:∀ σ H,Pv xs.length σ H->D.nx σ H) :
  ∃ W:Nat->Nat->St->Hp->Prop,(∃ m,W 0 m σ H)/\∀ i m σ H,W i m σ H->
   ((QD K a).stop i H/\D.nx σ H)\/((QD K a).go i H/\∃ N:St->Hp->Prop,(∀ ac H',N ac H'->∃ m',m' < m/\W (i+1) m' ac H')/\∀ x H',(QD K a).yld i H x H'->g x σ H' λ ba H2=>tb { D with nx:=N,ct:=N,bk:=D.nx } ba H2):=
 qZ Pv h0 hl (λ i x σ H hi p=>hs { D with nx:=Pv (i+1),ct:=Pv (i+1),bk:=D.nx } i rfl (λ _ _ q=>q) x σ H hi p) hd
def aU (i:Nat):Stmt:=PySem.Challenge.pw_tipwell_k16_whole_desks.main.body.getD i (.Pass ⟨0,0,0,0⟩)
structure Txt (mg:Str->Option À):Prop where
 b_len:mg "len" = none
 b_sum:mg "sum" = none
 b_all:mg "all" = none
 b_max:mg "max" = none
 b_min:mg "min" = none
 b_int:mg "int" = none
 b_tuple:mg "tuple" = none
 b_list:mg "list" = none
 b_bool:mg "bool" = none
 b_range:mg "range" = none
 b_zip:mg "zip" = none
 b_enumerate:mg "enumerate" = none
 b_isinstance:mg "isinstance" = none
 b_divmod:mg "divmod" = none
 b_set:mg "set" = none
 b_sorted:mg "sorted" = none
def qW:Option Int->fT
 | none=>.inr none
 | some i=>.inl i
theorem MP (k:Option Int):kV (qW k)=kO k:=by cases k <;> rfl
theorem MO {a b:Option Int} (h:qW a=qW b):a=b:=by
 cases a <;> cases b <;> simp_all [qW]
def lT (H:Hp) (d:Á) (gs:List (Option Int×Int)):Prop:=
 ∃ gy:List (fT×V),H d=some (.dK gy)/\gy.length<=gs.length/\∀ k:Option Int,(fJ gy (qW k)).getD (.int 0)=.int (d6 k gs)
theorem lT.mut {H:Hp}{d:Á}{gs:List (Option Int×Int)} (h:lT H d gs):lS (H d):=by
 obtain⟨gy,e,_⟩:=h;rw[e];exact trivial
def yG:Sp:=λ vs H Q _=>∃ (d:Á) (t:Option Int) (a:Int) (gs:List (Option Int×Int)),vs=[.ref d,kO t,.int a]/\lT H d gs/\gs.length<=1000/\
 ∀ H',d4 d H H'->lT H' d (gs++[(t,a)])->Q .non H'
theorem P2 (F:Fun K "send" "send" (aU 19) f fd) (T:Txt mg):FnOk P w K mg base gP 1 f fd ["sent","target","amount"] yG:=by
 refine F.ok ["sent","target","amount"] λ sc iu A outer s H vs Q E hr h=>?_
 ·obtain⟨d,t,a,gs,rfl,⟨gy,hd,hl,hv⟩,hg,k⟩:=h;have hu:=QZ hr;refine⟨_,(aI (OJ hu (pv 0) (pv 1) (aS cG (vD hu (pv 0) (pv 1) aG ⟨rfl,rfl,rfl,rfl⟩) (pv 2)) rfl)),?_⟩;have Em:=EU.k (k:=qW t) hd;rw[MP] at Em;have En:=NS.k (k:=qW t) (v:=V.int (d6 t gs+a)) hd (bD (by lia));rw[MP] at En;refine⟨_,rfl,d,rfl,.inl ⟨gy,.inl hd⟩,_,rfl,fJ gy (qW t),Em,_,rfl,_,_,hv t,rfl,_,rfl,_,rfl,d,_,rfl,En,?_⟩;refine k _ å ⟨_,aE,?_,λ k'=>?_⟩
  ·have:=mW gy (qW t) (V.int (d6 t gs+a));rw[â];simp;lia
  ·rw[JU,o7]
   by_cases e:k'=t
   ·subst e;rw[Å rfl];show V.int _=V.int _;simp [d6]
   ·rw[Ä (λ z=>e (MO z)),hv k'];have:¬ t=k':=λ z=>e z.symm;simp [d6,this]
theorem dC {ak:Type}{xs:List ak}{i:Nat}{x:ak} (h:xs[i]? = some x):xs.take (i+1)=xs.take i++[x]:=by
 rw[Ĥ,h];rfl
theorem qJ {H:Hp}{outs:List (Option Int×Int)}{xs:List V}{i:Nat}{x:V} (l:IsL K H (outs.map BD) xs) (h:xs[i]? = some x) :
  ∃ o,outs[i]? = some o/\∃ a,x=.ref a/\bS K H a [kO o.1,.int o.2]:=by
 obtain⟨d,hd,hx⟩:=l.get' h;rw[Ø] at hd;cases e:outs[i]? with
 | none=>rw[e] at hd;cases hd
 | some o=>
  rw[e] at hd;cases hd;refine (bU o rfl ?_);obtain⟨a,ys,rfl,q,l⟩:=(show Is K H (.tup [RE o.1,.int o.2]) x from hx).un;obtain⟨y,r,rfl,hy,l⟩:=l.un;obtain⟨z,r,rfl,hz,l⟩:=l.un;have:=l.un0;subst this;rw[Is.tg hy,hz.ui] at q;exact (bU a rfl q)
def yF (K:Ç):Sp:=λ vs H Q _=>∃ (o d:Á) (has:Int) (outs gs:List (Option Int×Int)) (n:Nat),vs=[.ref o,.int has,.ref d]/\Is K H (.tup (outs.map BD)) (.ref o)/\lT H d gs/\gs.length+3<=1000/\
 outs≠[]/\outs.length<=3/\(∀ x∈outs,OutOk n x)/\∀ H',d4 d H H'->lT H' d (gs++outs.map λ x=>(x.1,has / whole outs * x.2))->Q (.int (has % whole outs)) H'
theorem zI (F:Fun K "share_out" "share_out" (aU 18) f fd) (T:Txt mg) (pq:Callee P w K mg base "send" ["sent","target","amount"] 1 yG fS Eo):FnOk P w K mg base gP 2 f fd ["outs","has","sent"] (yF K):=by
 refine F.ok ["outs","has","sent","whole","times","target","parts"] λ sc iu A outer s H vs Q E hr h=>?_
 ·obtain⟨o,d,has,outs,gs,n,rfl,ho,hd,hg,kr,h3,hok,k⟩:=h;refine⟨_,(aF (pL 3 sc.nd (bE (nV (K:=K) rfl rfl) rfl T.b_sum ŝ (aB (gN (λ _ _ h=>h) rfl (LcOk.mk (N':=["target","parts"]) (fr:=[none,none]) rfl trivial rfl rfl rfl rfl rfl trivial) (cU (K:=K) rfl (pv 0)) (λ _ _ _=>(bC (K:=K) (n:=2) rfl rfl (aH (gC 0 ["target","parts"]) (aH (gC 1 ["target","parts"]) bA)))) (λ _ _ _=>bX) (λ _ _ _=>(pv 1))) aD)))
   (aF (pL 4 sc.nd (aS jH (pv 1) (bE (y8 rfl) rfl T.b_max PyProof.Rows.boot_max (aB aG (aB (pv 3) aD)))))
   (aF (dY þ rfl (cU (K:=K) rfl (pv 0)) (bC (K:=K) (n:=2) rfl rfl (aH (gL 5 sc.nd) (aH (gL 6 sc.nd) bA))) (aI (bQ (bZ pq hr (aB (pv 2) (aB (pv 5) (aB (aS oR (pv 6) (pv 4)) aD)))))))
   (aI (aO (aS gI (pv 1) (aS oR (pv 3) (pv 4)))))))),?_⟩
  have hw1:=rB kr hok;have Kw:=AS hok;obtain⟨o',xs,e,hq,hl⟩:=ho.un;cases e;have yp:xs.length=outs.length:=by rw[hl.length,Ê]
  refine⟨_,rfl,o,rfl,⟨_,hq⟩,fN (K:=K) (a:=o) (xs:=xs) (λ D i ys ac H'=>H D=none/\aJ H H'/\H' D=some (.lst ys)/\ys=(outs.take i).map (λ x=>V.int x.2)/\∃ x y,ac=[x,y])
   (λ D i ys ac H' p=>p.2.1.tup hq) (λ D hD=>⟨hD,È hD,aE,by simp,none,none,rfl⟩) ?_ ?_⟩
  rotate_left
  ·rintro D i x ys ac H' hx ⟨hD,sm,iw,rfl,v1,v2,rfl⟩;obtain⟨ot,yq,a,rfl,qa⟩:=qJ hl hx;have vn:=(æ.mp yq).1;refine (eB a _ rfl ⟨sm.tup qa,rfl,(eB _ _ rfl (eB _ _ rfl ⟨rfl,?_⟩))⟩);refine D6 ⟨_,rfl,iw,bD (by simp;lia),hD,sm.put hD,aE,?_,_,_,rfl⟩;rw[dC yq];simp
  ·rintro D ys ac H1 ⟨hD,sm,iw,rfl,_⟩;rw[yp,ø] at iw;refine⟨false,D,outs.map (·.2),rfl,É (by rw[ü];exact iw),?_⟩;refine (bU _ rfl (bU _ rfl (eB _ _ rfl (eB _ _ rfl ⟨rfl,?_,?_⟩))))
   ·show 0 < (if whole outs > 1 then whole outs else 1)/\(if whole outs > 1 then whole outs else 1) < 1073741824
    split <;> lia
   have hm:(if whole outs > 1 then whole outs else 1)=whole outs:=by split <;> lia
   show gZ _ _ _ [some (V.ref o),some (V.int has),some (V.ref d),some (V.int (whole outs)),some (V.int (has / (if whole outs > 1 then whole outs else 1))),none,none] _;rw[hm];have Ep:lT H1 d gs:=by obtain⟨gy,e,r⟩:=hd;exact⟨gy,sm _ _ e,r⟩
   have Er:bW K H H1:=sm.ts;refine⟨_,rfl,o,rfl,⟨_,sm.tup hq⟩,N8 (K:=K) (a:=o) (xs:=xs) (λ i ac H'=>d4 d H1 H'/\lT H' d (gs++(outs.take i).map λ x=>(x.1,has / whole outs * x.2))/\
    ∃ x y,ac=[some (V.ref o),some (V.int has),some (V.ref d),some (V.int (whole outs)),some (V.int (has / whole outs)),x,y]) ⟨Đ _,by simpa using Ep,none,none,rfl⟩
    (λ i ac H' _ p=>(p.1.ts Ep.mut) _ _ (sm.tup hq)) ?_ ?_⟩
   ·rintro DD i - Bb x ac H2 hx ⟨bt,dg,v1,v2,rfl⟩;obtain⟨ot,yq,a,rfl,qa⟩:=qJ hl hx;have vn:=(æ.mp yq).1;have hom:=hok ot (Ó yq);refine (eB a _ rfl ⟨(bt.ts Ep.mut) _ _ (sm.tup qa),rfl,(eB _ _ rfl (eB _ _ rfl ⟨rfl,?_⟩))⟩);refine⟨_,rfl,_,rfl,_,rfl,_,rfl,_,_,rfl,rfl,.inl ⟨by have:=hom.lo;lia,by have:=hom.hi;lia⟩,d,ot.1,ot.2 * (has / whole outs),_,rfl,dg,by simp;lia,λ H' bt' dg'=>?_⟩;refine Bb _ _ ⟨bt.trans bt',?_,_,_,rfl⟩;rw[dC yq,Ð,<- Ļ];rw[Int.mul_comm] at dg';exact dg'
   ·rintro ac H2 ⟨bt,dg,v1,v2,rfl⟩;rw[yp,ø] at dg;refine (bU _ rfl (bU _ rfl (bU _ rfl (eB _ _ rfl ⟨rfl,.inl ⟨by lia,by lia⟩,(eB _ _ rfl ⟨rfl,?_⟩)⟩))));have e:has - whole outs * (has / whole outs)=has % whole outs:=by
     have:=Int.emod_add_mul_ediv has (whole outs);lia
    show Q (V.int (has - whole outs * (has / whole outs))) H2;rw[e];exact k H2 (sm.but.trans bt) dg
theorem AU {H:Hp}{v:Vs}{x:V} (h:Is K H (D8 v) x):∃ (a:Á) (o c:V),x=.ref a/\bS K H a [.int v.size,.int v.brim,o,.bl v.holds,kO v.spill,c]/\Is K H (.tup (v.outs.map BD)) o/\Is K H (.tup (v.acts.map CY)) c:=by
 obtain⟨a,xs,rfl,q,l⟩:=(show Is K H (.tup [.int v.size,.int v.brim,.tup (v.outs.map BD),.bl v.holds,RE v.spill,.tup (v.acts.map CY)]) x from h).un;obtain⟨x1,r,rfl,h1,l⟩:=l.un;obtain⟨x2,r,rfl,h2,l⟩:=l.un;obtain⟨x3,r,rfl,h3,l⟩:=l.un;obtain⟨x4,r,rfl,h4,l⟩:=l.un;obtain⟨x5,r,rfl,h5,l⟩:=l.un;obtain⟨x6,r,rfl,h6,l⟩:=l.un;have:=l.un0;subst this;rw[h1.ui,h2.ui,h4.ub,Is.tg h5] at q;exact (VN a x3 x6 rfl ⟨q,h3,h6⟩)
def uQ (K:Ç):Sp:=λ vs H Q _=>∃ (x:V) (d:Á) (has:Int) (v:Vs) (gs:List (Option Int×Int)) (n m:Nat),vs=[x,.int has,.ref d]/\Is K H (D8 v) x/\lT H d gs/\gs.length+5<=1000/\VOk n m v/\
 ∀ p H',d4 d H H'->lT H' d (gs++gJ v has)->bS K H' p [.int (iO v has),.bl (pJ v has)]->Q (.ref p) H'
theorem HX (F:Fun K "settle" "settle" (aU 17) f fd) (T:Txt mg) (pq:Callee P w K mg base "send" ["sent","target","amount"] 1 yG fS Eo)
  (rg:Callee P w K mg base "share_out" ["outs","has","sent"] 2 (yF K) fO Qb):FnOk P w K mg base gP 3 f fd ["vessel","has","sent"] (uQ K):=by
 refine F.ok ["vessel","has","sent","size","brim","outs","holds","spill","acts","over","left"] λ sc iu A outer s H vs Q E hr h=>?_
 ·obtain⟨x,d,has,v,gs,n,m,rfl,hx,hd,hg,ok,k⟩:=h;refine⟨_,(aF (bK (pv 0) (bC (K:=K) (n:=6) rfl rfl (aH (gL 3 sc.nd) (aH (gL 4 sc.nd) (aH (gL 5 sc.nd) (aH (gL 6 sc.nd) (aH (gL 7 sc.nd) (aH (gL 8 sc.nd) bA))))))))
   (aF (pL 9 sc.nd (bE (y8 rfl) rfl T.b_max PyProof.Rows.boot_max (aB aG (aB (aS gI (pv 1) (pv 4)) aD))))
   (aF (bQ (bZ pq hr (aB (pv 2) (aB (pv 7) (aB (pv 9) aD)))))
   (aF (L7 (i:=1) sc.nd rfl (Or.inl rfl) (pv 9) T8)
   (aF (bJ (aW FW (pv 1) (pv 3) (aX _)) (aI (aO (bN (aB (pv 1) (aB fW aD))))) aT)
   (aF (pL 10 sc.nd (bZ rg hr (aB (pv 5) (aB (pv 1) (aB (pv 2) aD)))))
   (aF (bJ (cS (pv 6)) (aI (aO (bN (aB (pv 10) (aB fW aD))))) aT)
   (aF (bQ (bZ pq hr (aB (pv 2) (aB fY (aB (pv 10) aD)))))
   (aI (aO (bN (aB aG (aB fW aD))))))))))))),?_⟩
  obtain⟨a,o,c,rfl,q,ho,hc⟩:=AU hx;refine⟨_,rfl,a,_,rfl,q,rfl,_,_,rfl,_,_,rfl,_,_,rfl,_,_,rfl,_,_,rfl,_,_,rfl,rfl,?_⟩;refine (bU _ rfl (bU _ rfl (eB _ _ rfl ⟨rfl,(eB _ _ rfl ?_)⟩)));have eo:(if has - v.brim > 0 then has - v.brim else 0)=has - cP v has:=by unfold cP;split <;> lia
  show gZ _ _ _ [some (V.ref a),some (V.int has),some (V.ref d),some (V.int v.size),some (V.int v.brim),some o,some (V.bl v.holds),some (kO v.spill),some c,some (V.int (if has - v.brim > 0 then has - v.brim else 0)),none] _;rw[eo];refine (bU _ rfl (bU _ rfl (bU _ rfl ⟨d,v.spill,has - cP v has,(bU gs rfl ⟨hd,by lia,λ H1 b1 d1=>?_⟩)⟩)));have ts1:bW K H H1:=b1.ts hd.mut;refine (bU _ rfl (bU _ rfl (eB _ _ rfl ⟨rfl,?_⟩)));have eh:has - (has - cP v has)=cP v has:=by lia
  show gZ _ _ _ [some (V.ref a),some (V.int (has - (has - cP v has))),some (V.ref d),some (V.int v.size),some (V.int v.brim),some o,some (V.bl v.holds),some (kO v.spill),some c,some (V.int (has - cP v has)),none] _;rw[eh];refine (bU _ rfl (bU _ rfl (eB _ _ rfl ⟨rfl,(bU _ rfl ?_)⟩)));refine eA (λ jr=>?_) (λ hge=>?_)
  ·have yt:cP v has < v.size:=è jr;have ht:pJ v has=false:=ñ (by lia);refine (bU _ rfl ⟨(sz0 2),λ p hp=>?_⟩);refine k p _ (b1.trans (È hp).but) ?_ ?_
   ·have:gJ v has=[(v.spill,has - cP v has)]:=by unfold gJ;rw[ht];rfl
    rw[this];obtain⟨gy,e,r⟩:=d1;exact⟨gy,È hp _ _ e,r⟩
   ·have:iO v has=cP v has:=by unfold iO;rw[ht];rfl
    rw[this,ht];exact Ò aE
  ·have Qc:v.size<=cP v has:=by simpa using hge
   have ht:pJ v has=true:=Û Qc;obtain⟨oa,os,rfl,_,_⟩:=ho.un;refine⟨_,rfl,_,rfl,_,rfl,oa,d,cP v has,v.outs,_,n,rfl,Ï ts1 _ _ ho,d1,by simp;lia,ok.ne,ok.o3,ok.outs,λ H2 b2 d2=>?_⟩;refine (bU _ rfl (bU _ rfl ?_));cases hh:v.holds with
   | true=>
    refine eX ?_;refine (bU _ rfl ⟨(sz0 2),λ p hp=>?_⟩);refine k p _ (b1.trans (b2.trans (È hp).but)) ?_ ?_
    ·have:gs++gJ v has=(gs++[(v.spill,has - cP v has)])++v.outs.map λ x=>(x.1,cP v has / whole v.outs * x.2):=by
      unfold gJ kR;rw[ht,hh];simp
     rw[this];obtain⟨gy,e,r⟩:=d2;exact⟨gy,È hp _ _ e,r⟩
    ·have:iO v has=cP v has % whole v.outs:=by unfold iO;rw[ht,hh];rfl
     rw[this,ht];exact Ò aE
   | false=>
    refine cX ?_;refine⟨_,rfl,_,rfl,d,none,cP v has % whole v.outs,_,rfl,d2,by simp;have:=ok.o3;lia,λ H3 b3 d3=>?_⟩;refine⟨(sz0 2),λ p hp=>?_⟩;refine k p _ (b1.trans (b2.trans (b3.trans (È hp).but))) ?_ ?_
    ·have:gs++gJ v has=((gs++[(v.spill,has - cP v has)])++v.outs.map λ x=>(x.1,cP v has / whole v.outs * x.2))++[(none,cP v has % whole v.outs)]:=by
      unfold gJ kR;rw[ht,hh];simp
     rw[this];obtain⟨gy,e,r⟩:=d3;exact⟨gy,È hp _ _ e,r⟩
    ·have:iO v has=0:=by unfold iO;rw[ht,hh];rfl
     rw[this,ht];exact Ò aE
theorem rA {H:Hp}{acts:List (Str×Int)}{xs:List V}{i:Nat}{x:V} (l:IsL K H (acts.map CY) xs) (h:xs[i]? = some x) :
  ∃ o,acts[i]? = some o/\∃ a,x=.ref a/\bS K H a [.str o.1,.int o.2]:=by
 obtain⟨d,hd,hx⟩:=l.get' h;rw[Ø] at hd;cases e:acts[i]? with
 | none=>rw[e] at hd;cases hd
 | some o=>
  rw[e] at hd;cases hd;refine (bU o rfl ?_);obtain⟨a,ys,rfl,q,l⟩:=(show Is K H (.tup [.str o.1,.int o.2]) x from hx).un;obtain⟨y,r,rfl,hy,l⟩:=l.un;obtain⟨z,r,rfl,hz,l⟩:=l.un;have:=l.un0;subst this;rw[hy.us,hz.ui] at q;exact (bU a rfl q)
theorem NP (ds:List Bool) (a:Str×Int):(JM ds a).length=ds.length:=by unfold JM;simp
theorem sF:∀ (as:List (Str×Int)) (ds:List Bool),(gY ds as).length=ds.length
 | [],ds=>rfl
 | a::as,ds=>by
  show (gY (JM ds a) as).length=_;rw[sF as,NP]
theorem oY (vs:List Vs):∀ (tip:List Nat) (ds:List Bool),(eP vs ds tip).length=ds.length
 | [],ds=>rfl
 | i::r,ds=>by
  show (eP vs (match vs[i]? with | some v=>gY ds v.acts | none=>ds) r).length=_;rw[oY vs r];cases vs[i]? with
  | none=>rfl
  | some v=>exact sF _ _
theorem ES (ds:List Bool) (as:List (Str×Int)) (a:Str×Int):gY ds (as++[a])=JM (gY ds as) a:=by
 unfold gY;rw[afw];rfl
theorem CK (vs:List Vs) (ds:List Bool) (tip:List Nat) (i:Nat) (v:Vs) (h:vs[i]? = some v):eP vs ds (tip++[i])=gY (eP vs ds tip) v.acts:=by
 unfold eP;rw[afw];show (match vs[i]? with | some v=>_ | none=>_)=_;rw[h]
def yT (K:Ç):Sp:=λ args H Q _=>∃ (x y:V) (t:Á) (vs:List Vs) (doors:List Bool) (tip:List Nat) (n:Nat),args=[x,y,.ref t]/\Is K H (.tup (vs.map D8)) x/\Is K H (.tup (doors.map D.bl)) y/\
 aY K H t (tip.map λ (i:Nat)=>V.int (i:Int))/\(∀ i∈tip,i < vs.length)/\(∀ v∈vs,VOk n doors.length v)/\doors.length<=12/\
 ∀ p H',aJ H H'->Is K H' (.tup ((eP vs doors tip).map D.bl)) p->Q p H'
theorem tI (F:Fun K "doors_behind" "doors_behind" (aU 20) f fd) (T:Txt mg):FnOk P w K mg base gP 1 f fd ["vessels","doors","tipped"] (yT K):=by
 refine F.ok ["vessels","doors","tipped","behind","number","size","brim","outs","holds","spill","acts","word","spout"] λ sc iu A outer s H vs Q E hr h=>?_
 ·obtain⟨x,y,t,vs,doors,tip,n,rfl,hx,hy,ht,Qd,hok,hm,k⟩:=h;refine⟨_,(aF (pL 3 sc.nd (aQ (kI (K:=K) rfl) rfl T.b_list nX (aB (pv 1) aD)))
   (aF (dY þ rfl (dU (K:=K) rfl (pv 2)) (gL 4 sc.nd) (aF (bK (px K (pv 0) (pv 4)) (bC (K:=K) (n:=6) rfl rfl (aH (gL 5 sc.nd) (aH (gL 6 sc.nd) (aH (gL 7 sc.nd) (aH (gL 8 sc.nd) (aH (gL 9 sc.nd) (aH (gL 10 sc.nd) bA))))))))
   (aI (dY þ rfl (cU (K:=K) rfl (pv 10)) (bC (K:=K) (n:=2) rfl rfl (aH (gL 11 sc.nd) (aH (gL 12 sc.nd) bA))) (aI (bK (LC (fH d9 (pv 11) aK (aX _)) (iK (gG (fH d9 (pv 11) aK (aX _)) (iK (zE (px K (pv 3) (pv 12))))))) (j4 (pv 3) (pv 12) eO)))))))
   (aI (aO (aQ (cT (K:=K) rfl) rfl T.b_tuple dB (aB (pv 3) aD)))))),?_⟩
  obtain⟨ax,xs,rfl,qx,lx⟩:=hx.un;obtain⟨ay,ys,rfl,qy,ly⟩:=hy.un;have ey:=ly.bools;subst ey;have ue:xs.length=vs.length:=by rw[lx.length,Ê]
  refine (bU _ rfl (eB ay _ rfl ⟨.inr qy,λ b hb=>?_⟩));have nb:∀ {c:Á}{o:HO},H c=some o->c≠b:=λ e=>aP e hb;refine⟨_,rfl,t,rfl,⟨_,(È hb).seq ht⟩,j9 (K:=K) (a:=t) (xs:=tip.map λ (i:Nat)=>V.int (i:Int))
   (λ i ac H'=>aJ H H'/\H' b=some (.lst ((eP vs doors (tip.take i)).map V.bl))/\∃ v4 v5 v6 v7 v8 v9 km lb v12,ac=[some (.ref ax),some (.ref ay),some (.ref t),some (.ref b),v4,v5,v6,v7,v8,v9,km,lb,v12])
   ⟨È hb,aE,none,none,none,none,none,none,none,none,none,rfl⟩ (λ i ac H' _ p=>p.1.seq ht) ?_ ?_⟩
  ·rintro i x ac H1 hi ⟨sm,Kx,v4,v5,v6,v7,v8,v9,km,lb,v12,rfl⟩;rw[Ø] at hi;obtain⟨j,hj,rfl⟩:=ð.mp hi;have hjv:=Qd j (Ó hj);have hv:vs[j]? = some vs[j]:=by simp [hjv]
   have Qe:=hok vs[j] (ń hjv);obtain⟨xv,Qf,Qg⟩:=lx.get (i:=j) (d:=D8 vs[j]) (by rw[Ø,hv];rfl);obtain⟨va,o,c,rfl,qv,ho,hc⟩:=AU Qg;refine (bU _ rfl (bU _ rfl (.inr (.inl (JP ax xs j _ rfl ⟨rfl,sm.tup qx,eJ Qf,(eB va _ rfl ⟨sm.tup qv,rfl,(eB _ _ rfl (eB _ _ rfl (eB _ _ rfl (eB _ _ rfl (eB _ _ rfl (eB _ _ rfl ⟨rfl,?_⟩))))))⟩)⟩)))));obtain⟨ca,cs,rfl,qc,lc⟩:=hc.un;have ecs:cs.length=vs[j].acts.length:=by rw[lc.length,Ê]
   refine⟨_,rfl,ca,rfl,⟨_,sm.tup qc⟩,qZ (K:=K) (a:=ca) (xs:=cs)
    (λ l ac H'=>aJ H H'/\H' b=some (.lst ((gY (eP vs doors (tip.take i)) (vs[j].acts.take l)).map V.bl))/\
     ∃ Es Et,ac=[some (.ref ax),some (.ref ay),some (.ref t),some (.ref b),some (.int (j:Int)),some (.int vs[j].size),some (.int vs[j].brim),some o,some (.bl vs[j].holds),some (kO vs[j].spill),some (.ref ca),Es,Et])
    ⟨sm,Kx,lb,v12,rfl⟩ (λ l ac H' _ p=>p.1.tup qc) ?_ ?_⟩
   ·rintro l x ac H2 hl ⟨ka,yu,Es,Et,rfl⟩;obtain⟨at',ur,aa,rfl,qa⟩:=rA lc hl;have Ky:=Qe.acts at' (Ó ur);refine (eB aa _ rfl ⟨ka.tup qa,rfl,(eB _ _ rfl (eB _ _ rfl ⟨rfl,?_⟩))⟩);have yk:(gY (eP vs doors (tip.take i)) (vs[j].acts.take l)).length=doors.length:=by rw[sF,oY]
    have lh:at'.2.toNat < (gY (eP vs doors (tip.take i)) (vs[j].acts.take l)).length:=by rw[yk];have:=Ky.lo;have:=Ky.hi;lia
    have fin:∀ c:Bool,c=(if at'.1 = "open" then true else if at'.1 = "turn" then !((gY (eP vs doors (tip.take i)) (vs[j].acts.take l)).getD at'.2.toNat false) else false)->
      aJ H (upd H2 b (.lst (((gY (eP vs doors (tip.take i)) (vs[j].acts.take l)).map V.bl).set at'.2.toNat (.bl c))))/\
      upd H2 b (.lst (((gY (eP vs doors (tip.take i)) (vs[j].acts.take l)).map V.bl).set at'.2.toNat (.bl c))) b=some (.lst ((gY (eP vs doors (tip.take i)) (vs[j].acts.take (l+1))).map V.bl)):=λ c hc=>by
     refine⟨ka.put hb,?_⟩;rw[aE,dC ur,ES,JM,<- hc,į]
    have set:∀ c:Bool,c=(if at'.1 = "open" then true else if at'.1 = "turn" then !((gY (eP vs doors (tip.take i)) (vs[j].acts.take l)).getD at'.2.toNat false) else false)->
      N6 (cF 3) (cF 12) B7 (.bl c) [some (.ref ax),some (.ref ay),some (.ref t),some (.ref b),some (.int (j:Int)),some (.int vs[j].size),some (.int vs[j].brim),some o,some (.bl vs[j].holds),some (kO vs[j].spill),some (.ref ca),some (.str at'.1),some (.int at'.2)] H2
       λ ac H'=>aJ H H'/\H' b=some (.lst ((gY (eP vs doors (tip.take i)) (vs[j].acts.take (l+1))).map V.bl))/\
        ∃ Es Et,ac=[some (.ref ax),some (.ref ay),some (.ref t),some (.ref b),some (.int (j:Int)),some (.int vs[j].size),some (.int vs[j].brim),some o,some (.bl vs[j].holds),some (kO vs[j].spill),some (.ref ca),Es,Et]:=λ c hc=>by
     obtain⟨f1,f2⟩:=fin c hc;refine⟨_,rfl,_,rfl,b,_,at'.2,at'.2.toNat,rfl,rfl,yu,lF Ky.lo (by rw[Ê];lia),f1,f2,_,_,rfl⟩
    refine (bU _ rfl ⟨rfl,(bU _ rfl ?_)⟩);refine eA (λ h1=>?_) (λ h1=>?_)
    ·have e1:at'.1 = "open" := by have:=è h1;injection this
     exact set true (by rw[Å e1])
    ·have e1:¬ at'.1 = "open" := λ z=>h1 (Û (by rw[z]));refine (bU _ rfl ⟨rfl,(bU _ rfl ?_)⟩);refine eA (λ h2=>?_) (λ h2=>?_)
     ·have e2:at'.1 = "turn" := by have:=è h2;injection this
      have hg:((gY (eP vs doors (tip.take i)) (vs[j].acts.take l)).map V.bl)[at'.2.toNat]? = some (.bl ((gY (eP vs doors (tip.take i)) (vs[j].acts.take l)).getD at'.2.toNat false)):=by
       rw[Ø,ĕ];simp [lh]
      refine (bU _ rfl (bU _ rfl (.inl ⟨b,_,at'.2,(bU _ rfl ⟨rfl,É yu,lH Ky.lo hg,(bU _ rfl ?_)⟩)⟩)));exact set _ (by rw[Ä e1,Å e2])
     ·have e2:¬ at'.1 = "turn" := λ z=>h2 (Û (by rw[z]));exact set false (by rw[Ä e1,Ä e2])
   ·rintro ac H2 ⟨ka,yu,Es,Et,rfl⟩;rw[ecs,ø] at yu;refine⟨ka,?_,_,_,_,_,_,_,_,_,_,rfl⟩;rw[dC hj,CK vs doors _ j vs[j] hv];exact yu
  ·rintro ac H1 ⟨sm,Kx,v4,v5,v6,v7,v8,v9,km,lb,v12,rfl⟩;rw[Ê,ø] at Kx;refine (bU _ rfl (eB b _ rfl (.inl ⟨É Kx,λ l hl=>?_⟩)));exact k _ _ (sm.trans (È hl)) (Ý (Ò aE) (IsL.of_bools _))
theorem nC:∀ {a b c:List Int}{n:Nat},a.length=n->b.length=n->c.length=n->(jB a b c).length=n
 | [],b,c,n,h,_,_=>by simp at h;subst h;rfl
 | x::a,[],c,n,h1,h2,_=>by simp at h1 h2;lia
 | x::a,y::b,[],n,h1,_,h3=>by simp at h1 h3;lia
 | x::a,y::b,z::c,n,h1,h2,h3=>by
  simp at h1 h2 h3;show (jB a b c).length+1=n;rw[nC (n:=n - 1) (by lia) (by lia) (by lia)];lia
theorem CW:∀ {a b c:List Int}{i:Nat}{x y z:Int},a[i]? = some x->b[i]? = some y->c[i]? = some z->(jB a b c)[i]? = some (x+y+z)
 | [],_,_,i,_,_,_,h,_,_=>by simp at h
 | _::_,[],_,i,_,_,_,_,h,_=>by simp at h
 | _::_,_::_,[],i,_,_,_,_,_,h=>by simp at h
 | a::as,b::bs,c::cs,0,x,y,z,h1,h2,h3=>by simp at h1 h2 h3;subst h1 h2 h3;rfl
 | a::as,b::bs,c::cs,i+1,x,y,z,h1,h2,h3=>by
  show (jB as bs cs)[i]? = _;exact CW (by simpa using h1) (by simpa using h2) (by simpa using h3)
theorem y6 (has:List Int) (s:nE) (d:Bool):(n9 has s d).length=has.length:=by unfold n9;split <;> simp
theorem nS:∀ (ss:List nE) (ds:List Bool) (has:List Int),(gB has ss ds).length=has.length
 | [],ds,has=>by cases ds <;> rfl
 | s::ss,[],has=>rfl
 | s::ss,d::ds,has=>by show (gB (n9 has s d) ss ds).length=_;rw[nS ss ds,y6]
theorem wH:∀ (ss:List nE) (ds:List Bool) (i:Nat) (has:List Int) (s:nE) (d:Bool),ss[i]? = some s->ds[i]? = some d->gB has (ss.take (i+1)) (ds.take (i+1))=n9 (gB has (ss.take i) (ds.take i)) s d
 | [],_,i,_,_,_,h,_=>by simp at h
 | _::_,[],i,_,_,_,_,h=>by simp at h
 | a::ss,b::ds,0,has,s,d,h1,h2=>by simp at h1 h2;subst h1 h2;simp [gB]
 | a::ss,b::ds,i+1,has,s,d,h1,h2=>by
  simp only [Ľ,gB];exact wH ss ds i _ s d (by simpa using h1) (by simpa using h2)
theorem wE:∀ (vs:List Vs) (hs:List Int) (i:Nat) (v:Vs) (h:Int),vs[i]? = some v->hs[i]? = some h->dO (vs.take (i+1)) (hs.take (i+1))=dO (vs.take i) (hs.take i)++gJ v h
 | [],_,i,_,_,h,_=>by simp at h
 | _::_,[],i,_,_,_,h=>by simp at h
 | a::vs,b::hs,0,v,h,h1,h2=>by simp at h1 h2;subst h1 h2;simp [dO]
 | a::vs,b::hs,i+1,v,h,h1,h2=>by
  simp only [Ľ,dO,Ļ];rw[wE vs hs i v h (by simpa using h1) (by simpa using h2)]
theorem sL:∀ (vs:List Vs) (hs:List Int) (i:Nat) (v:Vs) (h:Int),vs[i]? = some v->hs[i]? = some h->dW (vs.take (i+1)) (hs.take (i+1))=dW (vs.take i) (hs.take i)++[iO v h]
 | [],_,i,_,_,h,_=>by simp at h
 | _::_,[],i,_,_,_,h=>by simp at h
 | a::vs,b::hs,0,v,h,h1,h2=>by simp at h1 h2;subst h1 h2;simp [dW]
 | a::vs,b::hs,i+1,v,h,h1,h2=>by
  simp only [Ľ,dW,ũ];rw[sL vs hs i v h (by simpa using h1) (by simpa using h2)]
theorem uG:∀ (vs:List Vs) (hs:List Int) (i j:Nat) (v:Vs) (h:Int),vs[i]? = some v->hs[i]? = some h->eK j (vs.take (i+1)) (hs.take (i+1))=eK j (vs.take i) (hs.take i)++(if pJ v h=true then [j+i] else [])
 | [],_,i,_,_,_,h,_=>by simp at h
 | _::_,[],i,_,_,_,_,h=>by simp at h
 | a::vs,b::hs,0,j,v,h,h1,h2=>by
  simp at h1 h2;subst h1 h2;simp only [Ľ,ago,eK,Nat.add_zero,Ŀ]
 | a::vs,b::hs,i+1,j,v,h,h1,h2=>by
  simp only [Ľ,eK];rw[uG vs hs i (j+1) v h (by simpa using h1) (by simpa using h2)];have e:j+1+i=j+(i+1):=by lia
  rw[e]
  split <;> simp
theorem uH:∀ (vs:List Vs) (hs:List Int) (j k:Nat),k∈eK j vs hs->j<=k/\k < j+vs.length
 | [],_,_,k,h=>by simp [eK] at h
 | _::_,[],_,k,h=>by simp [eK] at h
 | a::vs,b::hs,j,k,h=>by
  simp only [eK] at h;have ih:=uH vs hs (j+1) k;simp only [á]
  split at h
  ·rcases Ñ.mp h with rfl | h
   ·lia
   ·have:=ih h;lia
  ·have:=ih h;lia
theorem rC:∀ (vs:List Vs) (hs:List Int) (j:Nat),(eK j vs hs).length<=vs.length
 | [],_,_=>by simp [eK]
 | _::_,[],_=>by simp [eK]
 | a::vs,b::hs,j=>by
  simp only [eK,á];have:=rC vs hs (j+1)
  split
  ·rw[á];lia
  ·lia
theorem xY {n m:Nat}:∀ (vs:List Vs) (hs:List Int),(∀ v∈vs,VOk n m v)->(dO vs hs).length<=5 * vs.length
 | [],_,_=>by simp [dO]
 | _::_,[],_=>by simp [dO]
 | a::vs,b::hs,h=>by
  simp only [dO,â,á];have h1:=HB (h a Þ) b;have h2:=xY vs hs λ v hv=>h v (Ô _ hv);lia
theorem yD {H:Hp}{sps:List nE}{xs:List V}{i:Nat}{x:V} (l:IsL K H (sps.map O5) xs) (h:xs[i]? = some x) :
  ∃ s,sps[i]? = some s/\∃ a,x=.ref a/\bS K H a [.int s.1,.int s.2.1,.bl s.2.2]:=by
 obtain⟨d,hd,hx⟩:=l.get' h;rw[Ø] at hd;cases e:sps[i]? with
 | none=>rw[e] at hd;cases hd
 | some o=>
  rw[e] at hd;cases hd;refine (bU o rfl ?_);obtain⟨a,ys,rfl,q,l⟩:=(show Is K H (.tup [.int o.1,.int o.2.1,.bl o.2.2]) x from hx).un;obtain⟨y,r,rfl,hy,l⟩:=l.un;obtain⟨z,r,rfl,hz,l⟩:=l.un;obtain⟨z2,r,rfl,Py,l⟩:=l.un;have:=l.un0;subst this;rw[hy.ui,hz.ui,Py.ub] at q;exact (bU a rfl q)
theorem uL {H:Hp}{held coming:List Int}{doors:List Bool}{y:V} (h:Is K H (AL held coming doors) y):∃ (a b c d:Á),y=.ref a/\bS K H a [.ref b,.ref c,.ref d]/\bS K H b (held.map V.int)/\bS K H c (coming.map V.int)/\bS K H d (doors.map V.bl):=by
 obtain⟨a,xs,rfl,q,l⟩:=(show Is K H (.tup [.tup (held.map D.int),.tup (coming.map D.int),.tup (doors.map D.bl)]) y from h).un;obtain⟨x1,r,rfl,h1,l⟩:=l.un;obtain⟨x2,r,rfl,h2,l⟩:=l.un;obtain⟨x3,r,rfl,h3,l⟩:=l.un;have:=l.un0;subst this;obtain⟨b,ys,rfl,q1,l1⟩:=h1.un;obtain⟨c,zs,rfl,q2,l2⟩:=h2.un;obtain⟨d,us,rfl,q3,l3⟩:=h3.un;rw[l1.ints] at q1;rw[l2.ints] at q2;rw[l3.bools] at q3;exact (JP a b c d rfl ⟨q,q1,q2,q3⟩)
theorem QK {H:Hp}{held coming:List Int}{doors:List Bool}{a b c d:Á} (q:bS K H a [.ref b,.ref c,.ref d]) (q1:bS K H b (held.map V.int)) (q2:bS K H c (coming.map V.int)) (q3:bS K H d (doors.map V.bl)):Is K H (AL held coming doors) (.ref a):=
 Ý q (.cons (Ý q1 (Ű _)) (.cons (Ý q2 (Ű _)) (.cons (Ý q3 (IsL.of_bools _)) .nil)))
def uU (K:Ç):Sp:=λ args H Q _=>∃ (x y:V) (z:Á) (sps:List nE) (held coming poured:List Int) (doors:List Bool) (n:Nat),args=[x,y,.ref z]/\Is K H (.tup (sps.map O5)) x/\Is K H (AL held coming doors) y/\bS K H z (poured.map V.int)/\
 held.length=n/\coming.length=n/\poured.length=n/\doors.length=sps.length/\n<=12/\(∀ s∈sps,0<=s.1/\s.1 < n)/\
 ∀ p H',aJ H H'->H p=none->H' p=some (.lst ((gB (jB held coming poured) sps doors).map V.int))->Q (.ref p) H'
theorem IB (F:Fun K "filled" "filled" (aU 16) f fd) (T:Txt mg):FnOk P w K mg base gP 1 f fd ["spouts","state","poured"] (uU K):=by
 refine F.ok ["spouts","state","poured","held","coming","doors","has","target","flow","first_door","door"] λ sc iu A outer s H vs Q E hr h=>?_
 ·obtain⟨x,y,z,sps,held,coming,poured,doors,n,rfl,hx,hy,qz,l1,l2,l3,l4,hn,lh,k⟩:=h;refine⟨_,(aF (bK (pv 1) (bC (K:=K) (n:=3) rfl rfl (aH (gL 3 sc.nd) (aH (gL 4 sc.nd) (aH (gL 5 sc.nd) bA)))))
   (aF (gK (i:=6) sc.nd rfl rfl (λ _ _ h=>h) rfl (LcOk.mk (N':=["amounts"]) (fr:=[none]) rfl trivial rfl rfl rfl rfl rfl trivial) (L8 (K:=K) rfl rfl T.b_zip (aB (pv 3) (aB (pv 4) (aB (pv 2) aD)))) (λ _ _ _=>(gC 0 ["amounts"])) (λ _ _ _=>bX) (λ _ _ _=>(bE (nV (K:=K) rfl rfl) rfl T.b_sum ŝ (aB (pv 0) aD))))
   (aF (dY þ rfl (B8 (K:=K) rfl rfl T.b_zip (aB (pv 0) (aB (pv 5) aD))) (bC (K:=K) (n:=2) rfl rfl (aH (bC (K:=K) (n:=3) rfl rfl (aH (gL 7 sc.nd) (aH (gL 8 sc.nd) (aH (gL 9 sc.nd) bA)))) (aH (gL 10 sc.nd) bA))) (aI (bJ (cS (pv 10)) (aI (FQ (pv 6) (pv 7) (xZ (K:=K) rfl) (pv 8) EI eO)) aT)))
   (aI (aO (pv 6)))))),?_⟩
  obtain⟨ax,xs,rfl,qx,lx⟩:=hx.un;obtain⟨ay,a1,a2,a3,rfl,qy,q1,q2,q3⟩:=uL hy;have ue:xs.length=sps.length:=by rw[lx.length,Ê]
  refine⟨_,rfl,ay,_,rfl,qy,rfl,_,_,rfl,_,_,rfl,_,_,rfl,rfl,?_⟩;have la:=nC l1 l2 l3;refine⟨_,rfl,_,rfl,_,rfl,true,true,true,a1,a2,z,rfl,⟨_,q1⟩,⟨_,q2⟩,⟨_,qz⟩,PQ (K:=K) (xs:=held.map V.int) (ys:=coming.map V.int) (zs:=poured.map V.int) (n:=n) (by simpa using l1) (by simpa using l2) (by simpa using l3)
   (λ D i r ac H'=>H D=none/\aJ H H'/\H' D=some (.lst r)/\r=((jB held coming poured).take i).map V.int/\∃ v,ac=[v])
   (λ D i r ac H' p=>⟨p.2.1.tup q1,p.2.1.tup q2,p.2.1.tup qz⟩) (λ D hD=>⟨hD,È hD,aE,by simp,none,rfl⟩) ?_ ?_⟩
  rotate_left
  ·rintro D i x0 y0 z0 r ac H' Tt yw hy0 hz0 ⟨hD,sm,iw,rfl,v,rfl⟩ hT;rw[Ø] at yw hy0 hz0;obtain⟨x,hx,rfl⟩:=ð.mp yw;obtain⟨y,hy,rfl⟩:=ð.mp hy0;obtain⟨z',hz,rfl⟩:=ð.mp hz0;have hi:=CW hx hy hz;have vn:=(æ.mp hi).1;have nT:D≠Tt:=aP iw hT;refine fL ?_;refine⟨_,rfl,true,Tt,[x,y,z'],rfl,Ò aE,by rw[aM nT];exact iw,bD (by simp;lia),hD,?_,aE,?_,_,rfl⟩
   ·intro b o e;rw[aM (aP e hD)];exact È hT b o (sm b o e)
   ·rw[dC hi,Ð];have:[x,y,z'].sum=x+y+z':=by simp;lia
    rw[this];rfl
  ·rintro D r ac H1 ⟨hD,sm,iw,rfl,_⟩;rw[<- la,ø] at iw;refine⟨_,rfl,_,rfl,true,true,ax,a3,rfl,⟨_,sm.tup qx⟩,⟨_,sm.tup q3⟩,N7 (K:=K) (xs:=xs) (ys:=doors.map V.bl) (n:=sps.length) ue (by rw[Ê,l4])
    (λ i ac H'=>aJ H H'/\H' D=some (.lst ((gB (jB held coming poured) (sps.take i) (doors.take i)).map V.int))/\
     ∃ v7 v8 v9 km,ac=[some (.ref ax),some (.ref ay),some (.ref z),some (.ref a1),some (.ref a2),some (.ref a3),some (.ref D),v7,v8,v9,km])
    (λ i ac H' p=>⟨p.1.tup qx,p.1.tup q3⟩) ⟨sm,by cases sps <;> exact iw,none,none,none,none,rfl⟩ ?_ ?_⟩
   ·rintro ac H2 ⟨ka,h2,v7,v8,v9,km,rfl⟩;rw[<- l4,ø] at h2;rw[l4,ø] at h2;refine (bU _ rfl ?_);exact k D H2 ka hD h2
   ·rintro i x y ac H2 Tt hx hy ⟨ka,h2,v7,v8,v9,km,rfl⟩ hT;obtain⟨sp,rh,sa,rfl,qs⟩:=yD lx hx;rw[Ø] at hy;obtain⟨dr,Qh,rfl⟩:=ð.mp hy;have nT:D≠Tt:=aP h2 hT;have ko:aJ H (upd H2 Tt (.tup [.ref sa,.bl dr])):=λ b o e=>È hT b o (ka b o e);have h3:upd H2 Tt (.tup [.ref sa,.bl dr]) D=some (.lst ((gB (jB held coming poured) (sps.take i) (doors.take i)).map V.int)):=by rw[aM nT];exact h2
    refine (eB Tt _ rfl ⟨Ò aE,rfl,(eB _ _ rfl (eB sa _ rfl ⟨ko.tup qs,rfl,(eB _ _ rfl (eB _ _ rfl (eB _ _ rfl ⟨rfl,(eB _ _ rfl ⟨rfl,?_⟩)⟩)))⟩))⟩);refine (bU _ rfl (bU _ rfl ?_));have snoc:=wH sps doors i (jB held coming poured) sp dr rh Qh;cases dr with
    | false=>
     refine cX ?_;refine⟨ko,?_,_,_,_,_,rfl⟩;rw[snoc];exact h3
    | true=>
     refine eX ?_;have hs:=lh sp (Ó rh);have ij:(gB (jB held coming poured) (sps.take i) (doors.take i)).length=n:=by rw[nS,la]
     have jr:sp.1.toNat < (gB (jB held coming poured) (sps.take i) (doors.take i)).length:=by rw[ij];lia
     have hg:((gB (jB held coming poured) (sps.take i) (doors.take i)).map V.int)[sp.1.toNat]? = some (.int ((gB (jB held coming poured) (sps.take i) (doors.take i)).getD sp.1.toNat 0)):=by
      rw[Ø,ĕ];simp [jr]
     refine⟨_,rfl,_,rfl,D,_,sp.1,_,rfl,rfl,É h3,hs.1,by lia,hg,_,rfl,_,_,rfl,rfl,D,_,sp.1,sp.1.toNat,rfl,rfl,h3,lF hs.1 (by rw[Ê,ij];lia),?_⟩;refine⟨ko.put hD,?_,_,_,_,_,rfl⟩;rw[aE,snoc,n9,Å rfl,į]
theorem oJ:∀ (vs:List Vs) (hs:List Int),vs.length=hs.length->(dW vs hs).length=vs.length
 | [],_,_=>by simp [dW]
 | _::_,[],h=>by simp at h
 | a::vs,b::hs,h=>by simp only [dW,á];rw[oJ vs hs (by simpa using h)]
theorem j5 {H:Hp}{net:Net}{x:V} (h:Is K H (iT net) x):∃ (a b c:Á) (xs ys:List V),x=.ref a/\bS K H a [.ref b,.ref c]/\bS K H b xs/\IsL K H (net.vs.map D8) xs/\bS K H c ys/\IsL K H (net.sps.map O5) ys:=by
 obtain⟨a,zs,rfl,q,l⟩:=(show Is K H (.tup [.tup (net.vs.map D8),.tup (net.sps.map O5)]) x from h).un;obtain⟨x1,r,rfl,h1,l⟩:=l.un;obtain⟨x2,r,rfl,h2,l⟩:=l.un;have:=l.un0;subst this;obtain⟨b,xs,rfl,q1,l1⟩:=h1.un;obtain⟨c,ys,rfl,q2,l2⟩:=h2.un;exact (NU a b c xs ys rfl ⟨q,q1,l1,q2,l2⟩)
structure StOk (net:Net) (held coming:List Int) (doors:List Bool):Prop where
 h:held.length=net.vs.length
 c:coming.length=net.vs.length
 d:doors.length=net.sps.length
def DK (K:Ç):Sp:=λ args H Q _=>∃ (x y:V) (z:Á) (net:Net) (held coming poured:List Int) (doors:List Bool),args=[x,y,.ref z]/\Is K H (iT net) x/\Is K H (AL held coming doors) y/\bS K H z (poured.map V.int)/\
 NetOk net/\StOk net held coming doors/\poured.length=net.vs.length/\∀ (p:Á) (ys:List V) H',aJ H H'->H' p=some (.tup ys)->Is K H' (UD (rE net held coming poured doors)) (.ref p)->Q (.ref p) H'
theorem vJ (F:Fun K "tick_behind" "tick_behind" (aU 14) f fd) (T:Txt mg) (wq:Callee P w K mg base "filled" ["spouts","state","poured"] 1 (uU K) fF fdF)
  (wt:Callee P w K mg base "settle" ["vessel","has","sent"] 3 (uQ K) fS Eo) (my:Callee P w K mg base "doors_behind" ["vessels","doors","tipped"] 1 (yT K) fD Bc):FnOk P w K mg base gP 4 f fd ["net","state","poured"] (DK K):=by
 refine F.ok ["net","state","poured","vessels","spouts","held","tipped","sent","number","has","left","tips","coming","doors"] λ sc iu A outer s H vs Q E hr h=>?_
 ·obtain⟨x,y,z,net,held,coming,poured,doors,rfl,hx,hy,qz,nok,xt,lp,k⟩:=h;have hu:=QZ hr;refine⟨_,(aF (bK (pv 0) (bC (K:=K) (n:=2) rfl rfl (aH (gL 3 sc.nd) (aH (gL 4 sc.nd) bA))))
   (aF (bK (bN (aB (aZ aD) (aB (aZ aD) (aB LE aD)))) (bC (K:=K) (n:=3) rfl rfl (aH (gL 5 sc.nd) (aH (gL 6 sc.nd) (aH (tV (i:=7) sc.nd rfl (Or.inr rfl)) bA)))))
   (aF (dY þ rfl (B9 (K:=K) rfl rfl T.b_enumerate (aB (bZ wq hr (aB (pv 4) (aB (pv 1) (aB (pv 2) aD)))) aD)) (bC (K:=K) (n:=2) rfl rfl (aH (gL 8 sc.nd) (aH (gL 9 sc.nd) bA))) (aF (bK (bZ wt hr (aB (px K (pv 3) (pv 8)) (aB (pv 9) (aB (pv 7) aD)))) (bC (K:=K) (n:=2) rfl rfl (aH (gL 10 sc.nd) (aH (gL 11 sc.nd) bA))))
   (aF (bQ (dH (K:=K) rfl ó Ā ā cD (pv 5) (aB (pv 10) aD)))
   (aI (bJ (cS (pv 11)) (aI (bQ (dH (K:=K) rfl ó Ā ā cD (pv 6) (aB (pv 8) aD)))) aT)))))
   (aF (gK (i:=12) sc.nd rfl rfl (λ _ _ h=>h) rfl (LcOk.mk (N':=["number","sent"]) (fr:=[none,some 7]) rfl ⟨rfl,trivial⟩ rfl rfl rfl rfl rfl ⟨⟨_,rfl,rfl,rfl,rfl⟩,trivial⟩) (gM rfl T.b_range (aB (oQ K T.b_len (pv 3)) aD)) (λ _ _ _=>(gC 0 ["number","sent"])) (λ _ _ _=>bX) (λ _ _ _=>(vD hu (pv 1) (pv 0) aG ⟨rfl,rfl,rfl,rfl⟩)))
   (aF (pL 13 sc.nd (bZ my hr (aB (pv 3) (aB (px K (pv 1) aG) (aB (pv 6) aD)))))
   (aI (aO (bN (aB (bN (aB (aQ (cT (K:=K) rfl) rfl T.b_tuple dB (aB (pv 5) aD)) (aB (aQ (cT (K:=K) rfl) rfl T.b_tuple dB (aB (pv 12) aD)) (aB (pv 13) aD)))) (aB (aQ (cT (K:=K) rfl) rfl T.b_tuple dB (aB (pv 6) aD)) (aB (vD hu (pv 7) fY aG ⟨rfl,rfl,rfl,rfl⟩) aD))))))))))),?_⟩
  obtain⟨ax,av,as,xs,ys,rfl,qx,qv,lv,qs,ls⟩:=j5 hx;obtain⟨ay,b1,b2,b3,rfl,qy,q1,q2,q3⟩:=uL hy;have ue:xs.length=net.vs.length:=by rw[lv.length,Ê]
  refine⟨_,rfl,ax,_,rfl,qx,rfl,_,_,rfl,_,_,rfl,rfl,?_⟩;refine⟨ê _,λ hl wu=>⟨ê _,λ tl uu=>λ sd Kz=>⟨(sz0 3),λ tp Bd=>(eB tp _ rfl ⟨Ò aE,rfl,(eB _ _ rfl (eB _ _ rfl (eB _ _ rfl ⟨rfl,?_⟩)))⟩)⟩⟩⟩;have n1:hl≠tl:=aP (show upd H hl (.lst []) hl=_ from aE) uu;have fh:H hl=none:=wu;have ft:H tl=none:=aJ.free (È wu) uu;have fs:H sd=none:=aJ.free ((È wu).trans (È uu)) Kz;have n2:hl≠sd:=aP (by rw[aM n1];exact aE) Kz;have n3:tl≠sd:=aP (show upd (upd H hl (.lst [])) tl (.lst []) tl=_ from aE) Kz;have Be:aJ H (upd (upd (upd (upd H hl (.lst [])) tl (.lst [])) sd (.dK [])) tp (.tup [.ref hl,.ref tl,.ref sd])):=(((È wu).trans (È uu)).trans (È Kz)).trans (È Bd);have g1:upd (upd (upd (upd H hl (.lst [])) tl (.lst [])) sd (.dK [])) tp (.tup [.ref hl,.ref tl,.ref sd]) hl=some (.lst []):=È Bd _ _ (by rw[aM n2,aM n1];exact aE);have g2:upd (upd (upd (upd H hl (.lst [])) tl (.lst [])) sd (.dK [])) tp (.tup [.ref hl,.ref tl,.ref sd]) tl=some (.lst []):=È Bd _ _ (by rw[aM n3];exact aE);have g3:upd (upd (upd (upd H hl (.lst [])) tl (.lst [])) sd (.dK [])) tp (.tup [.ref hl,.ref tl,.ref sd]) sd=some (.dK []):=È Bd _ _ aE;generalize upd (upd (upd (upd H hl (.lst [])) tl (.lst [])) sd (.dK [])) tp (.tup [.ref hl,.ref tl,.ref sd])=H0 at Be g1 g2 g3 ⊢;refine (bU _ rfl (bU _ rfl (bU _ rfl ⟨.ref as,.ref ay,z,net.sps,held,coming,poured,doors,net.vs.length,rfl,Ý (Be.tup qs) (Õ Be.ts _ _ ls),Ï Be.ts _ _ hy,Be.tup qz,xt.h,xt.c,lp,xt.d,nok.hi,nok.sps,λ ha H1 oo La hha=>?_⟩)));have oq:(cI net held coming poured doors).length=net.vs.length:=by
   unfold cI;rw[nS,nC xt.h xt.c lp]
  have g1':=oo _ _ g1;have Kv:=oo _ _ g2;have g3':=oo _ _ g3;have na1:hl≠ha:=aP g1 La;have na2:tl≠ha:=aP g2 La;have na3:sd≠ha:=aP g3 La;have fa:H ha=none:=Be.free La;refine⟨false,ha,rfl,⟨_,É hha⟩,CH (K:=K) (t:=false) (a:=ha) (xs:=(cI net held coming poured doors).map V.int)
   (λ i ac H'=>aJ H H'/\H' ha=some (.lst ((cI net held coming poured doors).map V.int))/\H' hl=some (.lst ((dW (net.vs.take i) ((cI net held coming poured doors).take i)).map V.int))/\
    H' tl=some (.lst ((eK 0 (net.vs.take i) ((cI net held coming poured doors).take i)).map λ (j:Nat)=>V.int (j:Int)))/\lT H' sd (dO (net.vs.take i) ((cI net held coming poured doors).take i))/\
    ∃ v8 v9 km lb,ac=[some (.ref ax),some (.ref ay),some (.ref z),some (.ref av),some (.ref as),some (.ref hl),some (.ref tl),some (.ref sd),v8,v9,km,lb,none,none])
   (λ i ac H' p=>É p.2.1) ⟨Be.trans oo,hha,by simpa [dW] using g1',by simpa [eK] using Kv,⟨[],g3',by simp,λ k=>rfl⟩,none,none,none,none,rfl⟩ ?_ ?_⟩
  rotate_left
  ·rintro i x0 ac H2 Tt yw ⟨ka,p1,p2,p3,p4,v8,v9,km,lb,rfl⟩ hT;rw[Ø] at yw;obtain⟨hi,Bf,rfl⟩:=ð.mp yw;have vn:i < net.vs.length:=by rw[<- oq];exact (æ.mp Bf).1
   have hv:net.vs[i]? = some net.vs[i]:=by simp [vn]
   have Qi:=nok.vs _ (ń vn);obtain⟨xv,Qf,Qg⟩:=lv.get (i:=i) (d:=D8 net.vs[i]) (by rw[Ø,hv];rfl);have xu:=È (o:=HO.tup [.int (i:Int),.int hi]) hT;refine (eB Tt _ rfl ⟨Ò aE,rfl,(eB _ _ rfl (eB _ _ rfl ⟨rfl,?_⟩))⟩);have ko:aJ H (upd H2 Tt (.tup [.int (i:Int),.int hi])):=ka.trans xu;obtain⟨gy,d1,d2,d3⟩:=p4;have hgl:=xY (net.vs.take i) ((cI net held coming poured doors).take i) λ v Oz=>nok.vs v (List.mem_of_mem_take Oz);have Dm:(net.vs.take i).length<=12:=by rw[î];have:=nok.hi;lia
   refine (bU _ rfl (bU _ rfl (.inr (.inl (JP av xs i _ rfl ⟨rfl,ko.tup qv,eJ Qf,(bU _ rfl (bU _ rfl (eA7 xv sd hi net.vs[i] _ _ _ rfl ⟨Ï ko.ts _ _ Qg,⟨gy,xu _ _ d1,d2,d3⟩,by lia,Qi,λ p H3 bt dg qp=>?_⟩)))⟩)))));refine⟨p,_,rfl,qp,rfl,_,_,rfl,_,_,rfl,rfl,?_⟩;have e1:=bt hl _ n2 (xu _ _ p2);have e2:=bt tl _ n3 (xu _ _ p3);have e3:=bt ha _ (Ne.symm na3) (xu _ _ p1);have uv:aJ H H3:=λ b o e=>bt b o (aP e fs) (ko b o e);have stl:(dW (net.vs.take i) ((cI net held coming poured doors).take i)).length<=12:=by
    rw[oJ _ _ (by rw[î,î,oq])];exact Dm
   have tpl:=rC (net.vs.take i) ((cI net held coming poured doors).take i) 0;refine⟨_,rfl,.inl ⟨rfl,_,É e1⟩,_,rfl,hl,_,_,rfl,rfl,e1,bD (by simp;lia),?_⟩;have f1:upd H3 hl (.lst ((dW (net.vs.take i) ((cI net held coming poured doors).take i)).map V.int++[.int (iO net.vs[i] hi)])) tl=some (.lst ((eK 0 (net.vs.take i) ((cI net held coming poured doors).take i)).map λ (j:Nat)=>V.int (j:Int))):=by rw[aM (Ne.symm n1)];exact e2
   have s1:=sL net.vs (cI net held coming poured doors) i _ _ hv Bf;have s2:=uG net.vs (cI net held coming poured doors) i 0 _ _ hv Bf;have s3:=wE net.vs (cI net held coming poured doors) i _ _ hv Bf;have dgo:∀ {Hx:Hp},Hx sd=H3 sd->lT Hx sd (dO (net.vs.take (i+1)) ((cI net held coming poured doors).take (i+1))):=λ {Hx} e=>by
    obtain⟨kv,a1,a2,a3⟩:=dg;rw[s3];exact⟨kv,e.trans a1,a2,a3⟩
   refine (bU _ rfl (bU _ rfl ?_));cases ht:pJ net.vs[i] hi with
   | false=>
    refine cX ?_;rw[ht] at s2;refine⟨uv.put fh,by rw[aM (Ne.symm na1)];exact e3,by rw[aE,s1,Ð];rfl,by rw[s2];simpa using f1,dgo (by rw[aM (Ne.symm n2)]),_,_,_,_,rfl⟩
   | true=>
    refine eX ?_;rw[ht] at s2;refine⟨_,rfl,.inl ⟨rfl,_,É f1⟩,_,rfl,tl,_,_,rfl,rfl,f1,bD (by simp;lia),?_⟩;refine⟨(uv.put fh).put ft,by rw[aM (Ne.symm na2),aM (Ne.symm na1)];exact e3,by rw[aM n1,aE,s1,Ð];rfl,?_,dgo (by rw[aM (Ne.symm n3),aM (Ne.symm n2)]),_,_,_,_,rfl⟩;rw[aE,s2];simp
  ·rintro ac H2 ⟨ka,p1,p2,p3,p4,v8,v9,km,lb,rfl⟩;rw[Ê,oq] at p2 p3 p4;have ek:net.vs.take net.vs.length=net.vs:=ø;have ek2:(cI net held coming poured doors).take net.vs.length=cI net held coming poured doors:=by rw[<- oq,ø]
   rw[ek,ek2] at p2 p3 p4;obtain⟨gy,d1,d2,d3⟩:=p4;refine⟨_,rfl,av,xs,rfl,.inr (ka.tup qv),_,rfl,by lia,by have:=nok.hi;lia,?_⟩;have hn:((xs.length:Nat):Int).toNat=net.vs.length:=by rw[ue];simp
   rw[hn];refine BX (n:=net.vs.length) (λ D i r ac H'=>H2 D=none/\aJ H2 H'/\H' D=some (.lst r)/\r=((fC net.vs.length (dO net.vs (cI net held coming poured doors))).take i).map V.int/\∃ v,ac=[v,some (.ref sd)])
    (λ D hD=>⟨hD,È hD,aE,by simp,none,rfl⟩) ?_ ?_
   rotate_left
   ·rintro D i r ac H' hi ⟨hD,sm,iw,rfl,v,rfl⟩;refine fL ?_;have hg:=EU.k (k:=qW (some (i:Int))) (sm _ _ d1);refine⟨_,rfl,sd,rfl,.inl ⟨gy,.inl (sm _ _ d1)⟩,_,rfl,_,hg,iw,bD (by simp [fC];have:=nok.hi;lia),hD,sm.put hD,aE,?_,_,rfl⟩;have e:(fC net.vs.length (dO net.vs (cI net held coming poured doors)))[i]? = some (d6 (some (i:Int)) (dO net.vs (cI net held coming poured doors))):=by
     unfold fC;simp [hi]
    rw[dC e,Ð];show _++[(fJ gy (qW (some (i:Int)))).getD (.int 0)]=_;rw[d3];rfl
   ·rintro D r ac H3 ⟨hD,sm,iw,rfl,_⟩;have ll:(fC net.vs.length (dO net.vs (cI net held coming poured doors))).length=net.vs.length:=by unfold fC;simp
    rw[õ (ķ ll)] at iw;have ko:aJ H H3:=ka.trans sm;refine⟨_,rfl,_,rfl,.inr (.inl ⟨ay,_,2,_,rfl,rfl,ko.tup qy,rfl,_,rfl,.ref av,.ref b3,tl,net.vs,doors,eK 0 net.vs (cI net held coming poured doors),net.vs.length,rfl,Ý (ko.tup qv) (Õ ko.ts _ _ lv),Ý (ko.tup q3) (IsL.of_bools _),É (sm _ _ p3),λ j hj=>by have:=uH _ _ _ _ hj;lia,λ v hv=>by rw[xt.d];exact nok.vs v hv,by rw[xt.d];exact nok.sp,λ dp H4 uv hdp=>?_⟩)⟩;obtain⟨da,dxs,rfl,qd,ld⟩:=hdp.un;have c1:=uv _ _ (sm _ _ p2);have c2:=uv _ _ iw;have c3:=uv _ _ (sm _ _ p3);have c4:=uv _ _ (sm _ _ d1);refine (bU _ rfl (eB hl _ rfl (.inl ⟨É c1,λ t1 Eu=>?_⟩)));have m1:=È (o:=HO.tup ((dW net.vs (cI net held coming poured doors)).map V.int)) Eu;refine (bU _ rfl (eB D _ rfl (.inl ⟨É (m1 _ _ c2),λ t2 Lb=>?_⟩)));have m2:=È (o:=HO.tup ((fC net.vs.length (dO net.vs (cI net held coming poured doors))).map V.int)) Lb;refine (bU _ rfl ⟨(sz0 3),λ t3 Lc=>?_⟩);have m3:=È (o:=HO.tup [.ref t1,.ref t2,.ref da]) Lc;refine (bU _ rfl (eB tl _ rfl (.inl ⟨É (m3 _ _ (m2 _ _ (m1 _ _ c3))),λ t4 ht4=>?_⟩)));have m4:=È (o:=HO.tup ((eK 0 net.vs (cI net held coming poured doors)).map λ (j:Nat)=>V.int (j:Int))) ht4;have c4':=m4 _ _ (m3 _ _ (m2 _ _ (m1 _ _ c4)));have hg:=EU.k (k:=qW none) c4';refine (bU _ rfl (bU sd rfl ⟨.inl ⟨gy,.inl c4'⟩,_,hg,(sz0 3),λ t5 ht5=>?_⟩));have m5:aJ _ _:=È (o:=HO.tup [.ref t3,.ref t4,(fJ gy (qW none)).getD (.int 0)]) ht5;have eg:(fJ gy (qW none)).getD (.int 0)=.int (d6 none (dO net.vs (cI net held coming poured doors))):=d3 none;refine k _ _ _ ((((((ko.trans uv).trans m1).trans m2).trans m3).trans m4).trans m5) aE ?_;refine Ý (Ò aE) (.cons ?_ (.cons ?_ (.cons ?_ .nil)))
    ·exact Ï m5.ts _ _ (Ï m4.ts _ _ (QK (Ò aE) (m3.tup (m2.tup (Ò aE))) (m3.tup (Ò aE)) (by
      have:=ld.bools;rw[this] at qd;exact m3.tup (m2.tup (m1.tup qd)))))
    ·refine Ï m5.ts _ _ (Ý (Ò aE) ?_);show L2.IsL K _ ((eK 0 net.vs (cI net held coming poured doors)).map λ (i:Nat)=>L2.D.int (i:Int)) _;have e1:((eK 0 net.vs (cI net held coming poured doors)).map λ (i:Nat)=>L2.D.int (i:Int))=((eK 0 net.vs (cI net held coming poured doors)).map λ (i:Nat)=>(i:Int)).map L2.D.int:=by rw[ü];rfl
     have e2:((eK 0 net.vs (cI net held coming poured doors)).map λ (i:Nat)=>V.int (i:Int))=((eK 0 net.vs (cI net held coming poured doors)).map λ (i:Nat)=>(i:Int)).map V.int:=by rw[ü];rfl
     rw[e1,e2];exact Ű _
    ·rw[eg];exact Is.i _
def fQ (H:Hp) (t sl:Á):Prop:=∃ (ns:List Int) (pos cell:Int),H t=some (.lst [.ref sl,.int pos,.int cell])/\H sl=some (.lst (ns.map V.int))/\ns.length<=1000
theorem fQ.mut {H:Hp}{t sl:Á} (h:fQ H t sl):lS (H t):=by obtain⟨ns,pos,cell,e,_⟩:=h;rw[e];exact trivial
theorem fQ.same {H H':Hp}{t sl:Á} (h:fQ H t sl) (s:aJ H H'):fQ H' t sl:=by
 obtain⟨ns,pos,cell,e,f,g⟩:=h;exact⟨ns,pos,cell,s _ _ e,s _ _ f,g⟩
def iX:Sp:=λ vs H Q _=>∃ (t sl:Á) (many:Int),vs=[.ref t,.int many]/\fQ H t sl/\0 < many/\many < 1000000/\
 ∀ (r:Int) H',d4 t H H'->fQ H' t sl->0<=r->r < many->Q (.int r) H'
def jD:Sp:=λ vs H Q _=>∃ (t sl:Á) (many:Int),vs=[.ref t,.int many]/\fQ H t sl/\0 < many/\many < 2 ^ 200/\
 ∀ (r:Int) H',d4 t H H'->fQ H' t sl->0<=r->r < many->Q (.int r) H'
abbrev yX (K:Ç):TS:=gZ (nZ (iJ (rI (λ _ j=>0 < j) λ i j=>.int (i % j)) (iJ (AM K) (cF 0) (tC (.int 2))) (cF 1)) (bL 4)) (gZ (nZ (iJ (rI RA λ i j=>.int (i / j)) (iJ (AM K) (cF 0) (tC (.int 2))) (cF 1)) (N6 (cF 0) (tC (.int 2)) B7)) (K2 (cF 4)))
abbrev KM (K:Ç):TS:=gZ (nZ (iJ (xN λ i j=>.int (i+j)) (iJ (AM K) (cF 0) (tC (.int 1))) (tC (.int 1))) (N6 (cF 0) (tC (.int 1)) B7)) (nZ (cF 3) (N6 (cF 0) (tC (.int 2)) B7))
abbrev KN (K:Ç):TS:=gZ (nZ (iJ (rI (λ _ j=>0 < j) λ i j=>.int (i % j)) (iJ (xN λ i j=>.int (i+j)) (cF 3) (iJ (rI D3 λ i j=>.int (i * j)) (tC (.int 1000003)) (iJ (AM K) (cF 0) (tC (.int 1))))) (cF 2)) (bL 3)) (gZ (nZ (iJ (rI (λ _ j=>0 < j) λ i j=>.int (i % j)) (iJ (xN λ i j=>.int (i+j)) (iJ (xN λ i j=>.int (i+j)) (iJ (rI D3 λ i j=>.int (i * j)) (cF 3) (cF 3)) (iJ (rI D3 λ i j=>.int (i * j)) (tC (.int 1181783497276652981)) (cF 3))) (tC (.int 2049848353892358983))) (cF 2)) (bL 3)) (nZ (iJ (rI (λ _ j=>0 < j) λ i j=>.int (i % j)) (iJ (xN λ i j=>.int (i+j)) (iJ (rI D3 λ i j=>.int (i * j)) (cF 3) (cF 3)) (tC (.int 1442695040888963407))) (cF 2)) (bL 3)))
abbrev RS (K:Ç):TT:=tOr (sK (iJ (xN λ i j=>.bl (decide (j<=i))) (iJ (AM K) (cF 0) (tC (.int 1))) (JN (KQ K) (bM (iJ (AM K) (cF 0) (tC (.int 0))) fX)))) (sK (iJ (xN λ i j=>.bl (decide (i < j))) (cF 3) (iJ (rI QE λ i j=>.int (i ^ j.toNat)) (tC (.int 10)) (tC (.int 18)))))
abbrev dE (Q:VK):Ends:={ nx:=λ _ H'=>Q .non H',rt:=Q }
theorem oF (F:Fun K "_law_draw" "_law_draw" (aU 99) f fd) (T:Txt mg):FnOk P w K mg base gP 1 f fd ["tape","many"] jD:=by
 refine F.ok ["tape","many","prime","cell","found"] λ sc iu A outer s H vs Q E hr h=>?_
 ·obtain⟨t,sl,many,rfl,⟨ns,pos,cell,ht,oq,yj⟩,uw,Qj,k⟩:=h;refine⟨_,(aF (pL 2 sc.nd aG)
   (aF (bJ (aW FW (px K (pv 0) aG) (pv 1) (aX _)) (aF (pL 3 sc.nd aG)
   (aF (bJ (aW oE (oQ K T.b_len (px K (pv 0) aG)) aG (aX _)) (aI (pL 3 sc.nd (px K (px K (pv 0) aG) (aS lC (px K (pv 0) aG) (oQ K T.b_len (px K (pv 0) aG)))))) aT)
   (aF (bJ (Ć (lO (aW QU (px K (pv 0) aG) (oQ K T.b_len (px K (pv 0) aG)) (aX _)) (jN (aW FW (pv 3) (aS DW aG aG) (aX _))))) (aF (pL 3 sc.nd (aS lC (aS cG (pv 3) (aS oR aG (px K (pv 0) aG))) (pv 2)))
   (aF (pL 3 sc.nd (aS lC (aS cG (aS cG (aS oR (pv 3) (pv 3)) (aS oR aG (pv 3))) aG) (pv 2)))
   (aI (pL 3 sc.nd (aS lC (aS cG (aS oR (pv 3) (pv 3)) aG) (pv 2)))))) aT)
   (aF (bK (aS cG (px K (pv 0) aG) aG) (j4 (pv 0) aG eO))
   (aI (bK (pv 3) (j4 (pv 0) aG eO))))))) aT)
   (aF (pL 4 sc.nd (aS lC (px K (pv 0) aG) (pv 1)))
   (aF (bK (aS LL (px K (pv 0) aG) (pv 1)) (j4 (pv 0) aG eO))
   (aI (aO (pv 4))))))),?_⟩
  have Ev:sl≠t:=QV oq ht (by intro z;injection z with z;cases ns <;> simp at z);have ix:∀ {H1:Hp}{p' c':Int}{Q:VK},H1 t=some (.lst [.ref sl,.int p',.int c'])->Q (.ref sl) H1->AM K (.ref t) (.int 0) H1 Q:=λ e q=>.inl ⟨t,_,0,_,rfl,rfl,É e,rfl,q⟩;have Ld:∀ {H1:Hp}{p' c':Int}{Q:VK},H1 t=some (.lst [.ref sl,.int p',.int c'])->Q (.int p') H1->AM K (.ref t) (.int 1) H1 Q:=λ e q=>.inl ⟨t,_,1,_,rfl,rfl,É e,rfl,q⟩;have Qk:∀ {H1:Hp}{p' c':Int}{Q:VK},H1 t=some (.lst [.ref sl,.int p',.int c'])->Q (.int c') H1->AM K (.ref t) (.int 2) H1 Q:=λ e q=>.inl ⟨t,_,2,_,rfl,rfl,É e,rfl,q⟩;have tail:∀ (v3:Option V) (H1:Hp) (p' c':Int),d4 t H H1->H1 t=some (.lst [.ref sl,.int p',.int c'])->yX K (dE Q) [some (.ref t),some (.int many),some (.int 2305843009213693951),v3,none] H1:=by
   intro v3 H1 p' c' bt e;refine (bU _ rfl (Qk e (bU _ rfl (eB _ _ rfl ⟨rfl,uw,?_⟩))));refine⟨_,rfl,Qk e ⟨_,rfl,_,_,rfl,rfl,⟨uw,Qj⟩,_,rfl,t,_,2,2,rfl,rfl,e,rfl,_,rfl,?_⟩⟩;refine k _ _ (bt.trans å) ⟨ns,p',c' / many,aE,?_,yj⟩ (Ģ _ (by lia)) (ĳ _ uw);rw[aM Ev];exact bt sl _ Ev oq
  refine (bU _ rfl (Qk ht (bU _ rfl (eB _ _ rfl ⟨rfl,(bU _ rfl ?_)⟩))));refine eA (λ _=>?_) (λ _=>tail none H pos cell (Đ H) ht);have mid:∀ (c':Int),KM K { nx:=yX K (dE Q),rt:=Q } [some (.ref t),some (.int many),some (.int 2305843009213693951),some (.int c'),none] H:=by
   intro c';refine⟨_,rfl,Ld ht ⟨_,_,rfl,rfl,_,rfl,t,_,1,1,rfl,rfl,ht,rfl,?_⟩⟩;refine⟨_,rfl,_,rfl,t,_,2,2,rfl,rfl,aE,rfl,?_⟩;exact tail (some (.int c')) _ (pos+1) c' (d4.upd.trans å) aE
  have big:∀ (c':Int),gZ (K4 (RS K) (KN K) bR) (KM K) { nx:=yX K (dE Q),rt:=Q } [some (.ref t),some (.int many),some (.int 2305843009213693951),some (.int c'),none] H:=by
   intro c';have body:∀ σ,σ=[some (.ref t),some (.int many),some (.int 2305843009213693951),some (.int c'),none]->KN K { nx:=KM K { nx:=yX K (dE Q),rt:=Q },rt:=Q } σ H:=by
    rintro σ rfl;have prime:(0:Int) < 2305843009213693951:=by decide
    refine (bU _ rfl (bU _ rfl (Ld ht (eB _ _ rfl ⟨rfl,.inl ⟨by decide,by decide⟩,(eB _ _ rfl ⟨rfl,(bU _ rfl (eB _ _ rfl ⟨rfl,prime,?_⟩))⟩)⟩))));have b1:=Ģ (c'+1000003 * pos) (show (2305843009213693951:Int)≠0 by decide);have b2:=ĳ (c'+1000003 * pos) prime;generalize (c'+1000003 * pos) % 2305843009213693951=c1 at b1 b2;refine (bU _ rfl (bU _ rfl (eB _ _ rfl ⟨rfl,.inl ⟨by lia,by lia⟩,(bU _ rfl (eB _ _ rfl ⟨rfl,.inl ⟨by decide,by decide⟩,(eB _ _ rfl ⟨rfl,(eB _ _ rfl ⟨rfl,(bU _ rfl (eB _ _ rfl ⟨rfl,prime,?_⟩))⟩)⟩)⟩))⟩)));have b3:=Ģ (c1 * c1+1181783497276652981 * c1+2049848353892358983) (show (2305843009213693951:Int)≠0 by decide);have b4:=ĳ (c1 * c1+1181783497276652981 * c1+2049848353892358983) prime;generalize (c1 * c1+1181783497276652981 * c1+2049848353892358983) % 2305843009213693951=c2 at b3 b4;refine (bU _ rfl (bU _ rfl (eB _ _ rfl ⟨rfl,.inl ⟨by lia,by lia⟩,(eB _ _ rfl ⟨rfl,(bU _ rfl (eB _ _ rfl ⟨rfl,prime,?_⟩))⟩)⟩)));exact mid _
   refine (bU _ rfl (Ld ht (bU _ rfl (ix ht (eB sl _ rfl ⟨.inl (É oq),(eB _ _ rfl ⟨rfl,(bU _ rfl ?_)⟩)⟩)))));refine eA (λ _=>?_) (λ _=>?_)
   ·refine eX ?_;exact body _ rfl
   ·refine (bU _ rfl (eB _ _ rfl ⟨rfl,⟨by decide,by decide,by decide⟩,(eB _ _ rfl ⟨rfl,(bU _ rfl ?_)⟩)⟩));refine eA (λ _=>body _ rfl) (λ _=>mid _)
  refine (bU _ rfl (ix ht (eB sl _ rfl ⟨.inl (É oq),(eB _ _ rfl ⟨rfl,(bU _ rfl ?_)⟩)⟩)));refine eA (λ ij=>?_) (λ _=>big 0);have Ew:0 < ns.length:=by have:=è ij;simpa using this
  refine⟨_,rfl,ix ht ⟨_,rfl,Ld ht ⟨_,rfl,ix ht ⟨sl,_,rfl,.inl (É oq),_,_,rfl,rfl,(show (0:Int) < (((ns.map V.int).length:Nat):Int) by rw[Ê];lia),?_⟩⟩⟩⟩;have m1:=Ģ pos (show (((ns.map V.int).length:Nat):Int)≠0 by rw[Ê];lia);have m2:=ĳ pos (show (0:Int) < (((ns.map V.int).length:Nat):Int) by rw[Ê];lia);rw[Ê] at m1 m2;have Ch:(ns.map V.int)[(pos % ((ns.map V.int).length:Int)).toNat]? = some (.int (ns[(pos % (ns.length:Int)).toNat]'(by lia))):=by
   rw[Ê,Ø];simp [show (pos % (ns.length:Int)).toNat < ns.length by lia]
  refine .inl ⟨sl,_,_,_,rfl,rfl,É oq,lH (by rw[Ê];exact m1) Ch,?_⟩;exact big _
theorem zY (F:Fun K "_law_draw" "_law_draw" (aU 99) f fd) (T:Txt mg):FnOk P w K mg base gP 1 f fd ["tape","many"] iX:=
 (oF F T).imp λ vs H Q E ⟨t,sl,many,e,tp,h0,h1,k⟩=>⟨t,sl,many,e,tp,h0,Int.lt_of_lt_of_le h1 (by decide),k⟩
structure Ext (t sl:Á) (H H':Hp):Prop where
 bt:d4 t H H'
 tp:fQ H' t sl
theorem fQ.some {H:Hp}{t sl:Á} (h:fQ H t sl):∃ o,H t=some o:=by obtain⟨ns,pos,cell,e,_⟩:=h;exact⟨_,e⟩
theorem fQ.put {H:Hp}{t sl p:Á}{o:HO} (h:fQ H t sl) (h1:p≠t) (h2:p≠sl):fQ (upd H p o) t sl:=by
 obtain⟨ns,pos,cell,e,f,g⟩:=h;exact⟨ns,pos,cell,by rw[aM (Ne.symm h1)];exact e,by rw[aM (Ne.symm h2)];exact f,g⟩
theorem fQ.ne_sl {H:Hp}{t sl p:Á} (h:fQ H t sl) (hp:H p=none):p≠sl:=by
 obtain⟨ns,pos,cell,e,f,g⟩:=h;exact λ z=>by rw[z,f] at hp;cases hp
theorem Ext.new {t sl p:Á}{H H':Hp}{o:HO} (e:Ext t sl H H') (hp:H' p=none):Ext t sl H (upd H' p o):=⟨e.bt.trans (È hp).but,e.tp.same (È hp)⟩
theorem Ext.ne {t sl p:Á}{H H':Hp} (e:Ext t sl H H') (hp:H' p=none):p≠t:=by
 obtain⟨o,h⟩:=e.tp.some;intro z;rw[z,h] at hp;cases hp
theorem Ext.ts {K:Ç}{t sl:Á}{H H':Hp} (e:Ext t sl H H') (tp:fQ H t sl):bW K H H':=e.bt.ts tp.mut
def Gn (t sl:Á) (σ:St) (H0:Hp) (P:V->Prop) (te:TE):Prop:=∀ H Q,Ext t sl H0 H->(∀ v H',Ext t sl H0 H'->d4 t H H'->P v->Q v H')->te σ H Q
section
variable {t sl:Á}{σ:St}{H0:Hp}{P:V->Prop}{a b c d:TE}
def eD (lo hi:Int):V->Prop:=λ v=>∃ i,v=.int i/\lo<=i/\i < hi
theorem Gn.imp {P':V->Prop} (h:Gn t sl σ H0 P a) (f:∀ v,P v->P' v):Gn t sl σ H0 P' a:=λ H Q e k=>h H Q e λ v H' e' b p=>k v H' e' b (f v p)
theorem wF {v:V} (h:P v):Gn t sl σ H0 P (tC v):=λ H Q e k=>k v H e (Đ H) h
theorem VH {i:Nat}{v:V} (bi:σ[i]? = some (some v)) (h:P v):Gn t sl σ H0 P (cF i):=λ H Q e k=>⟨v,bi,k v H e (Đ H) h⟩
theorem j8 (ha:Gn t sl σ H0 P a) (hb:Gn t sl σ H0 P b) (hc:Gn t sl σ H0 (eD 0 2) c):Gn t sl σ H0 P (iJ (AM K) (AZ (bM a (bM b fX))) c):=by
 intro H Q e k;refine ha H _ e λ v1 H1 e1 b1 p1=>hb H1 _ e1 λ v2 H2 e2 b2 p2=>⟨(sz0 2),λ p hp=>hc _ _ (e2.new hp) λ v H3 e3 b3 ⟨i,hi,h0,h1⟩=>?_⟩;subst hi;have hl:=b3 p _ (e2.ne hp) aE;have hb:d4 t H H3:=b1.trans (b2.trans ((È hp).but.trans b3));rcases (show i=0\/i=1 by lia) with rfl | rfl
 ·exact .inl (JP p _ 0 v1 rfl ⟨rfl,É hl,rfl,k v1 H3 e3 hb p1⟩)
 ·exact .inl (JP p _ 1 v2 rfl ⟨rfl,É hl,rfl,k v2 H3 e3 hb p2⟩)
theorem CG (ha:Gn t sl σ H0 P a) (hb:Gn t sl σ H0 P b) (hd:Gn t sl σ H0 P d) (hc:Gn t sl σ H0 (eD 0 3) c):Gn t sl σ H0 P (iJ (AM K) (AZ (bM a (bM b (bM d fX)))) c):=by
 intro H Q e k;refine ha H _ e λ v1 H1 e1 b1 p1=>hb H1 _ e1 λ v2 H2 e2 b2 p2=>hd H2 _ e2 λ v4 H4 e4 b4 p4=>⟨(sz0 3),λ p hp=>hc _ _ (e4.new hp) λ v H3 e3 b3 ⟨i,hi,h0,h1⟩=>?_⟩;subst hi;have hl:=b3 p _ (e4.ne hp) aE;have hb:d4 t H H3:=b1.trans (b2.trans (b4.trans ((È hp).but.trans b3)));rcases (show i=0\/i=1\/i=2 by lia) with rfl | rfl | rfl
 ·exact .inl (JP p _ 0 v1 rfl ⟨rfl,É hl,rfl,k v1 H3 e3 hb p1⟩)
 ·exact .inl (JP p _ 1 v2 rfl ⟨rfl,É hl,rfl,k v2 H3 e3 hb p2⟩)
 ·exact .inl (JP p _ 2 v4 rfl ⟨rfl,É hl,rfl,k v4 H3 e3 hb p4⟩)
theorem AA {i:Nat}{lo hi:Int} (bi:σ[i]? = some (some (.ref t))) (Ao:0 < lo) (Bf:hi<=1000000) (ha:Gn t sl σ H0 (eD lo hi) a):Gn t sl σ H0 (λ v=>∃ r m,v=.int r/\0<=r/\r < m/\lo<=m/\m < hi) (jC iX [] E0 (bM (cF i) (bM a fX))):=by
 intro H Q e k;refine⟨_,bi,ha H _ e λ v H1 e1 b1 ⟨m,hm,h0,h1⟩=>?_⟩;subst hm;exact (VN t sl m rfl ⟨e1.tp,by lia,by lia,λ r H2 b2 t2 r0 r1=>k _ H2 ⟨e1.bt.trans b2,t2⟩ (b1.trans b2) (eB r m rfl ⟨r0,r1,h0,h1⟩)⟩)
theorem cJ {i:Nat}{m:Int} (bi:σ[i]? = some (some (.ref t))) (h0:0 < m) (h1:m < 1000000):Gn t sl σ H0 (eD 0 m) (jC iX [] E0 (bM (cF i) (bM (tC (.int m)) fX))):=
 (AA (lo:=m) (hi:=m+1) bi h0 (by lia) (wF (bU m rfl ⟨by lia,by lia⟩))).imp λ v ⟨r,m',e,a,b,c,d⟩=>⟨r,e,a,by lia⟩
theorem mZ {i j:Nat}{m:Int} (bi:σ[i]? = some (some (.ref t))) (hj:σ[j]? = some (some (.int m))) (h0:0 < m) (h1:m < 1000000):Gn t sl σ H0 (eD 0 m) (jC iX [] E0 (bM (cF i) (bM (cF j) fX))):=
 (AA (lo:=m) (hi:=m+1) bi h0 (by lia) (VH hj (bU m rfl ⟨by lia,by lia⟩))).imp λ v ⟨r,m',e,a,b,c,d⟩=>⟨r,e,a,by lia⟩
theorem AB {x y l h:Int} (ha:Gn t sl σ H0 (eD x y) a) (hb:Gn t sl σ H0 (eD l h) b):Gn t sl σ H0 (eD (x+l) (y+h - 1)) (iJ (xN λ i j=>.int (i+j)) a b):=by
 intro H Q e k;refine ha H _ e λ v1 H1 e1 b1 ⟨i,hi,i0,i1⟩=>hb H1 _ e1 λ v2 H2 e2 b2 ⟨j,hj,j0,j1⟩=>?_;subst hi hj;exact (eB i j rfl ⟨rfl,k _ H2 e2 (b1.trans b2) (bU _ rfl ⟨by lia,by lia⟩)⟩)
theorem N3 {y m:Int} (hm:0 < m) (hm2:m < 1000000) (ha:Gn t sl σ H0 (eD 0 y) a):Gn t sl σ H0 (λ v=>∃ i,v=.int (i / m)/\0<=i/\i < y) (iJ (rI QF λ i j=>.int (i / j)) a (tC (.int m))):=by
 intro H Q e k;refine ha H _ e λ v1 H1 e1 b1 ⟨i,hi,i0,i1⟩=>?_;subst hi;exact (eB i m rfl ⟨rfl,⟨hm,by lia⟩,k _ H1 e1 b1 (bU i rfl ⟨i0,i1⟩)⟩)
theorem EK {y c0:Int} (ha:Gn t sl σ H0 (eD 0 y) a):Gn t sl σ H0 (λ v=>∃ b:Bool,v=.bl b) (iJ U2 a (tC (.int c0))):=by
 intro H Q e k;refine ha H _ e λ v1 H1 e1 b1 ⟨i,hi,i0,i1⟩=>?_;subst hi;exact⟨rfl,k _ H1 e1 b1 ⟨_,rfl⟩⟩
theorem TD {y c0:Int} (ha:Gn t sl σ H0 (eD 0 y) a):Gn t sl σ H0 (λ v=>∃ b:Bool,v=.bl b) (iJ (xN λ i j=>.bl (decide (j < i))) a (tC (.int c0))):=by
 intro H Q e k;refine ha H _ e λ v1 H1 e1 b1 ⟨i,hi,i0,i1⟩=>?_;subst hi;exact (eB i c0 rfl ⟨rfl,k _ H1 e1 b1 ⟨_,rfl⟩⟩)
abbrev KS:List V->Hp->VK->Prop:=λ xs H Q=>(∃ i,xs=[.int i]/\Q (.int i) H)\/∃ k,xs=[.bl k]/\Q (.int (if k then 1 else 0)) H
theorem N2 {i:Nat}{s:Bool} (bi:σ[i]? = some (some (.bl s))):Gn t sl σ H0 (eD 0 2) (JN KS (bM (cF i) fX)):=by
 intro H Q e k;refine⟨_,bi,.inr (bU s rfl (k _ H e (Đ H) ?_))⟩;cases s
 ·exact (bU 0 rfl ⟨by lia,by lia⟩)
 ·exact (bU 1 rfl ⟨by lia,by lia⟩)
theorem tY {i:Nat}{s:Bool}{x y lo hi:Int} (bi:σ[i]? = some (some (.bl s))) (h1:lo<=x/\x < hi) (h2:lo<=y/\y < hi):Gn t sl σ H0 (eD lo hi) (iJ (AM K) (AZ (bM (tC (.int x)) (bM (tC (.int y)) fX))) (JN KS (bM (cF i) fX))):=
 j8 (wF (bU x rfl ⟨h1.1,h1.2⟩)) (wF (bU y rfl ⟨h2.1,h2.2⟩)) (N2 bi)
theorem tZ (ha:Gn t sl σ H0 (eD 0 4) a):Gn t sl σ H0 (eD 0 2) (iJ (rI QF λ i j=>.int (i / j)) a (tC (.int 3))):=
 (N3 (by decide) (by decide) ha).imp λ v ⟨i,e,a,b⟩=>⟨i / 3,e,by lia,by lia⟩
theorem oH {lo hi lo' pk:Int} (h:Gn t sl σ H0 (eD lo hi) a) (h1:lo'<=lo) (h2:hi<=pk):Gn t sl σ H0 (eD lo' pk) a:=h.imp λ v ⟨i,e,a,b⟩=>⟨i,e,by lia,by lia⟩
theorem n8 {i:Nat}{lo hi:Int} (bi:σ[i]? = some (some (.ref t))) (Ao:0 < lo) (Bf:hi<=1000000) (ha:Gn t sl σ H0 (eD lo hi) a):Gn t sl σ H0 (eD 0 (hi - 1)) (jC iX [] E0 (bM (cF i) (bM a fX))):=
 (AA bi Ao Bf ha).imp λ v ⟨r,m,e,a,b,c,d⟩=>⟨r,e,a,by lia⟩
end
def DM (K:Ç):Sp:=λ args H Q _=>∃ (t sl:Á) (n:Nat) (jk:Bool),args=[.ref t,.int (n:Int),.bl jk]/\fQ H t sl/\1<=n/\n<=12/\
 ∀ (outs:List (Option Int×Int)) p H',Ext t sl H H'->outs≠[]->outs.length<=3->(∀ o∈outs,OutOk n o)->Is K H' (.tup (outs.map BD)) p->Q p H'
theorem zU (F:Fun K "_law_outs" "_law_outs" (aU 101) f fd) (T:Txt mg) (gq:Callee P w K mg base "_law_draw" ["tape","many"] 1 iX fD Bc):FnOk P w K mg base gP 2 f fd ["tape","many","small"] (DM K):=by
 refine F.ok ["tape","many","small","outs","k","target","parts"] λ sc iu A outer s H vs Q E hr h=>?_
 ·obtain⟨t,sl,n,jk,rfl,tp,n1,n2,k⟩:=h;refine⟨_,(aF (pL 3 sc.nd (aZ aD))
   (aF (dY þ rfl (gM rfl T.b_range (aB (aS cG aG (px K (aZ (aB (bZ gq hr (aB (pv 0) (aB aG aD))) (aB (bZ gq hr (aB (pv 0) (aB aG aD))) aD))) (bZ gq hr (aB (pv 0) (aB aG aD))))) aD)) (gL 4 sc.nd) (aF (pL 5 sc.nd (px K (aZ (aB fY (aB (bZ gq hr (aB (pv 0) (aB (pv 1) aD))) (aB (bZ gq hr (aB (pv 0) (aB (pv 1) aD))) aD)))) (bZ gq hr (aB (pv 0) (aB aG aD)))))
   (aF (pL 6 sc.nd (px K (aZ (aB (bZ gq hr (aB (pv 0) (aB aG aD))) (aB (bZ gq hr (aB (pv 0) (aB (px K (aZ (aB aG (aB aG aD))) (aQ fA rfl T.b_int fZ (aB (pv 2) aD))) aD))) aD))) (aS jH (bZ gq hr (aB (pv 0) (aB aG aD))) aG)))
   (aI (bQ (dH (K:=K) rfl ó Ā ā cD (pv 3) (aB (bN (aB (pv 5) (aB (aS cG aG (pv 6)) aD))) aD)))))))
   (aI (aO (aQ (cT (K:=K) rfl) rfl T.b_tuple dB (aB (pv 3) aD)))))),?_⟩
  refine⟨ê _,λ ol zy=>?_⟩;have e0:Ext t sl H (upd H ol (.lst [])):=Ext.new ⟨Đ H,tp⟩ zy;have no:ol≠t:=Ext.ne ⟨Đ H,tp⟩ zy;refine AB (x:=1) (y:=2) (l:=0) (h:=3) (H0:=upd H ol (.lst [])) (t:=t) (sl:=sl) (wF (bU 1 rfl ⟨by lia,by lia⟩))
   (j8 (oH (cJ rfl (by decide) (by decide)) (ö _) (by decide)) (cJ rfl (by decide) (by decide)) (cJ rfl (by decide) (by decide))) _ _ ⟨Đ _,e0.tp⟩ ?_
  rintro v H1 e1 _ ⟨m,rfl,m0,m1⟩;refine (bU m rfl ⟨by lia,by lia,?_⟩);refine oX (lo:=0) (n:=m.toNat) (λ i ac H'=>Ext t sl H H'/\∃ (outs:List (Option Int×Int)) (xs:List V),H' ol=some (.lst xs)/\IsL K H' (outs.map BD) xs/\outs.length=i/\(∀ o∈outs,OutOk n o)/\
   ∃ v4 v5 v6,ac=[some (.ref t),some (.int (n:Int)),some (.bl jk),some (.ref ol),v4,v5,v6]) ?_ ?_ ?_
  ·exact⟨⟨e0.bt.trans e1.bt,e1.tp⟩,[],[],e1.bt ol _ no aE,.nil,rfl,λ o ho=>(nomatch ho),none,none,none,rfl⟩
  ·rintro DD i - Bb ac H2 hi ⟨e2,outs,xs,ho,hl,ij,hok,v4,v5,v6,rfl⟩;refine CG (H0:=H2) (t:=t) (sl:=sl) (P:=λ v=>∃ o:Option Int,v=kO o/\∀ z,o=some z->0<=z/\z < n) (wF (bU none rfl (λ z h=>nomatch h)))
    ((mZ (m:=(n:Int)) rfl rfl (by lia) (by lia)).imp λ v ⟨r,e,a,b⟩=>⟨some r,e,λ z h=>by cases h;exact⟨a,by lia⟩⟩)
    ((mZ (m:=(n:Int)) rfl rfl (by lia) (by lia)).imp λ v ⟨r,e,a,b⟩=>⟨some r,e,λ z h=>by cases h;exact⟨a,by lia⟩⟩) (cJ rfl (by decide) (by decide)) _ _ ⟨Đ _,e2.tp⟩ ?_
   rintro v H3 e3 _ ⟨tg,rfl,htg⟩;refine j8 (H0:=H3) (t:=t) (sl:=sl) (P:=eD 0 60) (oH (cJ rfl (by decide) (by decide)) (ö _) (by decide))
    (oH (n8 (lo:=3) (hi:=61) rfl (by decide) (by decide) (tY rfl ⟨by decide,by decide⟩ ⟨by decide,by decide⟩)) (ö _) (by decide)) (tZ (cJ rfl (by decide) (by decide))) _ _ ⟨Đ _,e3.tp⟩ ?_
   rintro v H4 e4 _ ⟨pt,rfl,p0,p1⟩;have Ex:H4 ol=some (.lst xs):=e4.bt ol _ no (e3.bt ol _ no ho);refine (bU _ rfl ⟨.inl ⟨rfl,_,É Ex⟩,(bU _ rfl (bU _ rfl (eB _ _ rfl ⟨rfl,(sz0 2),λ q hq=>?_⟩)))⟩);have nq:ol≠q:=aP Ex hq;have yp:xs.length=outs.length:=by rw[hl.length,Ê]
   have Le:m.toNat<=3:=by lia
   refine⟨ol,xs,_,rfl,rfl,by rw[aM nq];exact Ex,bD (by lia),?_⟩;have e5:Ext t sl H2 (upd H4 q (.tup [kO tg,.int (1+pt)])):=Ext.new ⟨e3.bt.trans e4.bt,e4.tp⟩ hq;have ts:bW K H2 (upd (upd H4 q (.tup [kO tg,.int (1+pt)])) ol (.lst (xs++[.ref q]))):=bW.put (e5.ts e2.tp) (.inr (by rw[aM nq,Ex];exact trivial));refine Bb _ _ ⟨⟨λ b o hb e=>?_,?_⟩,outs++[(tg,1+pt)],xs++[.ref q],aE,?_,by simp [ij],?_,_,_,_,rfl⟩
   ·rw[aM (aP e zy)];exact e5.bt b o hb (e2.bt b o hb e)
   ·exact e5.tp.put no (fQ.ne_sl tp zy)
   ·rw[Ð];exact ď (Ý (ds:=[RE tg,.int (1+pt)]) (bW.put (bW.refl _) (.inr (by rw[aM nq,Ex];exact trivial)) _ _ (Ò aE)) (.cons (Is.tgOf tg) (.cons (Is.i _) .nil))) (Õ ts _ _ hl)
   ·intro o ho;rcases ß.mp ho with ho | ho
    ·exact hok o ho
    ·rw[ã.mp ho];exact⟨λ z hz=>htg z hz,by show 1<=1+pt;lia,by show 1+pt<=60;lia⟩
  ·rintro ac H2 ⟨e2,outs,xs,ho,hl,ij,hok,v4,v5,v6,rfl⟩;refine (bU _ rfl (eB ol _ rfl (.inl ⟨É ho,λ l hlf=>?_⟩)));refine k outs _ _ (e2.new hlf) (λ z=>by rw[z] at ij;simp at ij;lia) (by lia) hok (Ý (Ò aE) (Õ (È hlf).ts _ _ hl))
end Tw
namespace L2
theorem MU {c:TT}{a b:TS}{D:Ends}{σ:St}{H:Hp} (I:St->Hp->Prop) (h1:∀ D':Ends,(∀ ac H',I ac H'->D'.nx ac H')->K4 c a b D' σ H) (h2:∀ ac H',I ac H'->D.nx ac H'):K4 c a b D σ H:=h1 D h2
theorem TF {i:TI}{g:TG}{b:TS}{D:Ends}{σ:St}{H:Hp} (I:St->Hp->Prop) (h1:∀ D':Ends,(∀ ac H',I ac H'->D'.nx ac H')->K5 i g b D' σ H) (h2:∀ ac H',I ac H'->D.nx ac H'):K5 i g b D σ H:=h1 D h2
theorem uW {s R:TS}{D:Ends}{σ:St}{H:Hp} (I:St->Hp->Prop) (h1:∀ D':Ends,(∀ ac H',I ac H'->D'.nx ac H')->s D' σ H) (h2:∀ ac H',I ac H'->R D ac H'):gZ s R D σ H:=h1 _ h2
end L2
namespace Tw
open PySem L2
section
variable {t sl:Á}{σ:St}{H0:Hp}{P:V->Prop}{a b c d:TE}
theorem MT {y c0:Int}{t' u':TS}{D':Ends}{H:Hp} (ha:Gn t sl σ H0 (eD 0 y) a) (e:Ext t sl H0 H) (k:∀ (b:Bool) H',Ext t sl H0 H'->d4 t H H'->if b=true then t' D' σ H' else u' D' σ H'):K4 (sK (iJ U2 a (tC (.int c0)))) t' u' D' σ H:=
 EK ha H _ e λ v H' e' b ⟨c,hc⟩=>⟨c,hc,k c H' e' b⟩
theorem IS {i:Nat}{s:Bool} (bi:σ[i]? = some (some (.bl s))) (ha:Gn t sl σ H0 (eD 0 2) a):Gn t sl σ H0 (eD 0 2) (iJ (rI D3 λ i j=>.int (i * j)) a (JN KS (bM (QI (cF i)) fX))):=by
 intro H Q e k;refine ha H _ e λ v1 H1 e1 b1 ⟨j,hj,j0,j1⟩=>⟨_,bi,s,rfl,.inr ⟨!s,rfl,?_⟩⟩;subst hj;refine (eB j _ rfl ⟨rfl,.inl ⟨by lia,by lia⟩,k _ H1 e1 b1 ?_⟩);cases s
 ·exact⟨j,by simp,j0,j1⟩
 ·exact⟨0,by simp,by lia,by lia⟩
theorem N1 {j:Nat}{x y:Int} (hj:σ[j]? = some (some (.int y))):Gn t sl σ H0 (eD (x - y) (x - y+1)) (iJ (xN λ i j=>.int (i - j)) (tC (.int x)) (cF j)):=λ H Q e k=>
 ⟨_,hj,x,y,rfl,rfl,k _ H e (Đ H) ⟨_,rfl,by lia,by lia⟩⟩
theorem GE {j:Nat}{y l h:Int} (hj:σ[j]? = some (some (.int y))) (hb:Gn t sl σ H0 (eD l h) b):Gn t sl σ H0 (eD (y+l) (y+h)) (iJ (xN λ i j=>.int (i+j)) (cF j) b):=
 oH (AB (x:=y) (y:=y+1) (VH hj (bU y rfl ⟨by lia,by lia⟩)) hb) (by lia) (by lia)
end
structure VFull (i:Nat) (v:Vs):Prop where
 sz:v.size<=60
 br:v.size<=v.brim
 bh:v.brim<=200
 sp:∀ t,v.spill=some t->(i:Int) < t
structure NetFull (net:Net):Prop where
 vs:∀ i v,net.vs[i]? = some v->VFull i v
 sps:∀ s∈net.sps,0<=s.2.1/\s.2.1<=60
def uO (K:Ç):Sp:=λ args H Q _=>∃ (t sl:Á) (i n m:Nat) (jk:Bool),args=[.ref t,.int (i:Int),.int (n:Int),.int (m:Int),.bl jk]/\fQ H t sl/\i < n/\n<=12/\m<=12/\
 ∀ (v:Vs) p H',Ext t sl H H'->VOk n m v->VFull i v->Is K H' (D8 v) p->Q p H'
theorem vV (F:Fun K "_law_vessel" "_law_vessel" (aU 102) f fd) (T:Txt mg) (gq:Callee P w K mg base "_law_draw" ["tape","many"] 1 iX fD Bc)
  (rj:Callee P w K mg base "_law_outs" ["tape","many","small"] 2 (DM K) fO Qb):FnOk P w K mg base gP 3 f fd ["tape","number","many","spouts","small"] (uO K):=by
 refine F.ok ["tape","number","many","spouts","small","size","brim","spill","acts","k"] λ sc iu A outer s H vs Q E hr h=>?_
 ·obtain⟨t,sl,i,n,m,jk,rfl,tp,hi,hn,hm,k⟩:=h;refine⟨_,(aF (pL 5 sc.nd (aS cG aG (px K (aZ (aB (bZ gq hr (aB (pv 0) (aB (px K (aZ (aB aG (aB aG aD))) (aQ fA rfl T.b_int fZ (aB (pv 4) aD))) aD))) (aB (bZ gq hr (aB (pv 0) (aB (px K (aZ (aB aG (aB aG aD))) (aQ fA rfl T.b_int fZ (aB (pv 4) aD))) aD))) aD))) (aS jH (bZ gq hr (aB (pv 0) (aB aG aD))) aG))))
   (aF (pL 6 sc.nd (aS cG (pv 5) (px K (aZ (aB aG (aB (bZ gq hr (aB (pv 0) (aB (aS gI aG (pv 5)) aD))) aD))) (aS oR (bZ gq hr (aB (pv 0) (aB aG aD))) (aQ fA rfl T.b_int fZ (aB (zE (pv 4)) aD))))))
   (aF (bJ (aW d9 (bZ gq hr (aB (pv 0) (aB aG aD))) aG (aX _)) (aI (pL 6 sc.nd (aS cG (pv 5) (bZ gq hr (aB (pv 0) (aB aG aD)))))) aT)
   (aF (pL 7 sc.nd fY)
   (aF (bJ (Ć (rO (aW FW (aS cG (pv 1) aG) (pv 2) (aX _)) (nK (aW d9 (bZ gq hr (aB (pv 0) (aB aG aD))) aG (aX _))))) (aI (pL 7 sc.nd (aS cG (aS cG (pv 1) aG) (bZ gq hr (aB (pv 0) (aB (aS gI (aS gI (pv 2) (pv 1)) aG) aD)))))) aT)
   (aF (pL 8 sc.nd (aZ aD))
   (aF (bJ (aW oE (pv 3) aG (aX _)) (aI (dY þ rfl (gM rfl T.b_range (aB (aS jH (bZ gq hr (aB (pv 0) (aB aG aD))) aG) aD)) (gL 9 sc.nd) (aI (bQ (dH (K:=K) rfl ó Ā ā cD (pv 8) (aB (bN (aB (px K (aZ (aB aK (aB aK (aB aK aD)))) (bZ gq hr (aB (pv 0) (aB aG aD)))) (aB (bZ gq hr (aB (pv 0) (aB (pv 3) aD))) aD))) aD)))))) aT)
   (aI (aO (bN (aB (pv 5) (aB (pv 6) (aB (bZ rj hr (aB (pv 0) (aB (pv 2) (aB (pv 4) aD)))) (aB (fH d9 (bZ gq hr (aB (pv 0) (aB aG aD))) aG (aX _)) (aB (pv 7) (aB (aQ (cT (K:=K) rfl) rfl T.b_tuple dB (aB (pv 8) aD)) aD)))))))))))))))),?_⟩
  refine AB (t:=t) (sl:=sl) (H0:=H) (x:=1) (y:=2) (l:=0) (h:=60) (wF (bU 1 rfl ⟨by lia,by lia⟩))
   (j8 (oH (n8 (lo:=4) (hi:=10) rfl (by decide) (by decide) (tY rfl ⟨by decide,by decide⟩ ⟨by decide,by decide⟩)) (ö _) (by decide))
    (oH (n8 (lo:=4) (hi:=61) rfl (by decide) (by decide) (tY rfl ⟨by decide,by decide⟩ ⟨by decide,by decide⟩)) (ö _) (by decide)) (tZ (cJ rfl (by decide) (by decide)))) _ _ ⟨Đ _,tp⟩ ?_
  rintro v H1 e1 _ ⟨size,rfl,s0,s1⟩;refine GE (t:=t) (sl:=sl) (H0:=H) (y:=size) (l:=0) (h:=201 - size) rfl (j8 (wF (bU 0 rfl ⟨by lia,by lia⟩))
   (oH (n8 (lo:=201 - size) (hi:=201 - size+1) rfl (by lia) (by lia) (N1 rfl)) (ö _) (by lia)) (IS rfl (cJ rfl (by decide) (by decide)))) _ _ e1 ?_
  rintro v H2 e2 _ ⟨brim,rfl,br0,br1⟩;dsimp only [gZ,nZ,tC,bL];refine MU (λ ac H'=>Ext t sl H H'/\∃ brim,size<=brim/\brim<=200/\ac=[some (.ref t),some (.int (i:Int)),some (.int (n:Int)),some (.int (m:Int)),some (.bl jk),some (.int size),some (.int brim),none,none,none]) (λ D' hD=>?_) ?_
  ·refine MT (t:=t) (sl:=sl) (H0:=H) (cJ rfl (by decide) (by decide)) e2 λ b H3 e3 _=>?_;cases b with
   | false=>exact cX (hD _ _ ⟨e3,brim,by lia,by lia,rfl⟩)
   | true=>
    refine eX ?_;refine GE (t:=t) (sl:=sl) (H0:=H) (y:=size) (l:=0) (h:=3) rfl (cJ rfl (by decide) (by decide)) _ _ e3 ?_;rintro v H4 e4 _ ⟨b2,rfl,c0,c1⟩;exact hD _ _ ⟨e4,b2,by lia,by lia,rfl⟩
  rintro aq H3 ⟨e3,brim,hb1,yu,rfl⟩;dsimp only [gZ,nZ,tC,bL];refine MU (λ ac H'=>Ext t sl H H'/\∃ sp:Option Int,(∀ z,sp=some z->(0<=z/\z < n)/\(i:Int) < z)/\ac=[some (.ref t),some (.int (i:Int)),some (.int (n:Int)),some (.int (m:Int)),some (.bl jk),some (.int size),some (.int brim),some (kO sp),none,none]) (λ D' hD=>?_) ?_
  ·refine (bU _ rfl (eB _ _ rfl ⟨rfl,(bU _ rfl (eB _ _ rfl ⟨rfl,(bU _ rfl ?_)⟩))⟩));refine eA (λ jr=>?_) (λ _=>cX (hD _ _ ⟨e3,none,(λ z h=>nomatch h),rfl⟩));have yt:(i:Int)+1 < n:=è jr;refine EK (t:=t) (sl:=sl) (H0:=H) (cJ rfl (by decide) (by decide)) _ _ e3 ?_;rintro v H4 e4 _ ⟨b,rfl⟩;refine (bU b rfl ?_);cases b with
   | false=>exact cX (hD _ _ ⟨e4,none,(λ z h=>nomatch h),rfl⟩)
   | true=>
    refine eX ?_;refine (bU _ rfl (eB _ _ rfl ⟨rfl,(bU _ rfl (bU _ rfl (bU _ rfl (eB _ _ rfl ⟨rfl,(eB _ _ rfl ⟨rfl,t,sl,(n:Int) - i - 1,rfl,e4.tp,by lia,by lia,λ r H5 b5 t5 r0 r1=>(eB _ _ rfl ⟨rfl,?_⟩)⟩)⟩))))⟩));exact hD _ _ ⟨⟨e4.bt.trans b5,t5⟩,some ((i:Int)+1+r),λ z h=>by cases h;lia,rfl⟩
  rintro σ4 H4 ⟨e4,sp,lh,rfl⟩;refine⟨ê _,λ al vo=>?_⟩;dsimp only [gZ,nZ,tC,bL];have fal:H al=none:=e4.bt.free (e4.ne vo) vo;have Ci:al≠t:=e4.ne vo;refine MU (λ ac H'=>Ext t sl H H'/\∃ (acts:List (Str×Int)) (xs:List V),H' al=some (.lst xs)/\L2.IsL K H' (acts.map CY) xs/\acts.length<=3/\(∀ a∈acts,ActOk m a)/\
   ∃ v9,ac=[some (.ref t),some (.int (i:Int)),some (.int (n:Int)),some (.int (m:Int)),some (.bl jk),some (.int size),some (.int brim),some (kO sp),some (.ref al),v9]) (λ D' hD=>?_) ?_
  ·refine (bU _ rfl (eB _ _ rfl ⟨rfl,(bU _ rfl ?_)⟩));refine eA (λ jr=>?_) (λ _=>hD _ _ ⟨e4.new vo,[],[],aE,.nil,by simp,λ a ha=>(nomatch ha),none,rfl⟩);have uw:(0:Int) < m:=è jr;refine N3 (t:=t) (sl:=sl) (H0:=H) (by decide) (by decide) (cJ (m:=11) rfl (by decide) (by decide)) _ _ (e4.new vo) ?_;rintro v H5 e5 b5 ⟨c,rfl,c0,c1⟩;refine (bU _ rfl ⟨by lia,by lia,?_⟩);refine oX (lo:=0) (n:=(c / 3).toNat) (λ j ac H'=>Ext t sl H H'/\∃ (acts:List (Str×Int)) (xs:List V),H' al=some (.lst xs)/\L2.IsL K H' (acts.map CY) xs/\acts.length=j/\(∀ a∈acts,ActOk m a)/\
    ∃ v9,ac=[some (.ref t),some (.int (i:Int)),some (.int (n:Int)),some (.int (m:Int)),some (.bl jk),some (.int size),some (.int brim),some (kO sp),some (.ref al),v9]) ?_ ?_ ?_
   ·exact⟨e5,[],[],b5 al _ Ci aE,.nil,rfl,λ a ha=>(nomatch ha),none,rfl⟩
   ·rintro DD j - Bb ac H6 hj ⟨e6,acts,xs,ha,hl,ij,hok,v9,rfl⟩;refine (bU _ rfl ⟨.inl ⟨rfl,_,É ha⟩,?_⟩);refine CG (t:=t) (sl:=sl) (H0:=H) (P:=λ v=>∃ wd:Str,v=.str wd/\(wd = "open" \/ wd = "shut" \/ wd = "turn")) (wF (bU _ rfl (.inl rfl))) (wF (bU _ rfl (.inr (.inl rfl)))) (wF (bU _ rfl (.inr (.inr rfl)))) (cJ rfl (by decide) (by decide)) _ _ e6 ?_;rintro v H7 e7 b7 ⟨wd,rfl,Ql⟩;refine mZ (t:=t) (sl:=sl) (H0:=H) (m:=(m:Int)) rfl rfl uw (by lia) _ _ e7 ?_;rintro v H8 e8 b8 ⟨r,rfl,r0,r1⟩;refine⟨(sz0 2),λ q hq=>?_⟩;have Qm:H8 al=some (.lst xs):=b8 al _ Ci (b7 al _ Ci ha);have nq:al≠q:=aP Qm hq;have yp:xs.length=acts.length:=by rw[hl.length,Ê]
    refine⟨al,xs,_,rfl,rfl,by rw[aM nq];exact Qm,bD (by lia),?_⟩;have e9:Ext t sl H (upd H8 q (.tup [.str wd,.int r])):=e8.new hq;have mt:lS (upd H8 q (.tup [.str wd,.int r]) al):=by rw[aM nq,Qm];exact trivial
    have ts:bW K H6 (upd (upd H8 q (.tup [.str wd,.int r])) al (.lst (xs++[.ref q]))):=bW.put (((b7.trans b8).trans (È hq).but).ts e6.tp.mut) (.inr mt);refine Bb _ _ ⟨⟨λ b o hb e=>?_,e9.tp.put Ci (fQ.ne_sl tp fal)⟩,acts++[(wd,r)],xs++[.ref q],aE,?_,by simp [ij],?_,_,rfl⟩
    ·rw[aM (aP e fal)];exact e9.bt b o hb e
    ·rw[Ð];exact ď (Ý (ds:=[.str wd,.int r]) (bW.put (bW.refl _) (.inr mt) _ _ (Ò aE)) (.cons (Is.s _) (.cons (Is.i _) .nil))) (Õ ts _ _ hl)
    ·intro a zz;rcases ß.mp zz with zz | zz
     ·exact hok a zz
     ·rw[ã.mp zz];exact⟨Ql,r0,r1⟩
   ·rintro ac H6 ⟨e6,acts,xs,ha,hl,ij,hok,v9,rfl⟩;exact hD _ _ ⟨e6,acts,xs,ha,hl,by lia,hok,v9,rfl⟩
  rintro ee H5 ⟨e5,acts,xs,ha,hl,ij,hok,v9,rfl⟩;refine (bU _ rfl (bU _ rfl (bU _ rfl (bU _ rfl (bU _ rfl (JP t sl n jk rfl ⟨e5.tp,by lia,hn,λ outs p H6 e6 o1 o2 o3 hp=>?_⟩))))));refine EK (t:=t) (sl:=sl) (H0:=H) (cJ rfl (by decide) (by decide)) _ _ ⟨e5.bt.trans e6.bt,e6.tp⟩ ?_;rintro v H7 e7 b7 ⟨b,rfl⟩;have ha7:H7 al=some (.lst xs):=b7 al _ Ci (e6.bt al _ Ci ha);have b57:d4 t H5 H7:=e6.bt.trans b7;refine (bU _ rfl (bU _ rfl (eB al _ rfl (.inl ⟨É ha7,λ q hq=>⟨(sz0 6),λ r Bg=>?_⟩⟩))));have m1:=È (o:=HO.tup xs) hq;have m2:aJ (upd H7 q (.tup xs)) (upd (upd H7 q (.tup xs)) r (.tup [.int size,.int brim,p,.bl b,kO sp,.ref q])):=È Bg;refine k ⟨size,brim,outs,b,sp,acts⟩ _ _ ((e7.new hq).new Bg) ⟨s0,o1,o2,o3,λ z h=>(lh z h).1,ij,hok⟩ ⟨by show size<=60;lia,hb1,yu,λ z h=>(lh z h).2⟩ ?_;refine Ý (Ò aE) (.cons (Is.i _) (.cons (Is.i _) (.cons ?_ (.cons (Is.b _) (.cons (Is.tgOf _) (.cons ?_ .nil))))))
  ·exact Ï m2.ts _ _ (Ï m1.ts _ _ (Ï (b7.ts e6.tp.mut) _ _ hp))
  ·exact Ï m2.ts _ _ (Ý (Ò aE) (Õ m1.ts _ _ (Õ (b57.ts e5.tp.mut) _ _ hl)))
theorem Ext.put {t sl p:Á}{H H':Hp}{o:HO} (e:Ext t sl H H') (tp:fQ H t sl) (hp:H p=none):Ext t sl H (upd H' p o):=
 ⟨λ b u hb e1=>by rw[aM (aP e1 hp)];exact e.bt b u hb e1,e.tp.put (λ z=>by obtain⟨o,h⟩:=tp.some;rw[z,h] at hp;cases hp) (fQ.ne_sl tp hp)⟩
theorem Ext.trans {t sl:Á}{H H1 H2:Hp} (a:Ext t sl H H1) (b:Ext t sl H1 H2):Ext t sl H H2:=⟨a.bt.trans b.bt,b.tp⟩
def DO (K:Ç):Sp:=λ args H Q _=>∃ (t sl:Á) (mm:Int) (jk:Bool),args=[.ref t,.int mm,.bl jk]/\1<=mm/\mm<=12/\fQ H t sl/\
 ∀ (net:Net) p H',Ext t sl H H'->NetOk net->NetFull net->(net.vs.length:Int)<=mm->Is K H' (iT net) p->Q p H'
theorem zV (F:Fun K "_law_net" "_law_net" (aU 103) f fd) (T:Txt mg) (gq:Callee P w K mg base "_law_draw" ["tape","many"] 1 iX fD Bc)
  (ou:Callee P w K mg base "_law_vessel" ["tape","number","many","spouts","small"] 3 (uO K) fV fdV):FnOk P w K mg base gP 4 f fd ["tape","most","small"] (DO K):=by
 refine F.ok ["tape","most","small","many","spouts","vessels","found","k","flow"] λ sc iu A outer s H vs Q E hr h=>?_
 ·obtain⟨t,sl,mm,jk,rfl,mo1,mo2,tp,k⟩:=h;refine⟨_,(aF (zB (i:=3) sc.nd rfl (Or.inr rfl) (aS cG aG (bZ gq hr (aB (pv 0) (aB (pv 1) aD)))))
   (aF (zB (i:=4) sc.nd rfl (Or.inr rfl) (px K (aZ (aB (bZ gq hr (aB (pv 0) (aB aG aD))) (aB (bZ gq hr (aB (pv 0) (aB aG aD))) aD))) (aS jH (bZ gq hr (aB (pv 0) (aB aG aD))) aG)))
   (aF (gK (i:=5) sc.nd rfl rfl (λ _ _ h=>h) rfl (LcOk.mk (N':=["k","tape","many","spouts","small"]) (fr:=[none,some 0,some 3,some 4,some 2]) rfl ⟨rfl,rfl,rfl,rfl,trivial⟩ rfl rfl rfl rfl rfl ⟨⟨_,rfl,rfl,rfl,rfl⟩,⟨_,rfl,rfl,rfl,rfl⟩,⟨_,rfl,rfl,rfl,rfl⟩,⟨_,rfl,rfl,rfl,rfl⟩,trivial⟩) (gM rfl T.b_range (aB (pv 3) aD)) (λ _ _ _=>(gC 0 ["k","tape","many","spouts","small"])) (λ _ _ _=>bX) (λ _ _ _=>(bZ ou hr (aB (pv 1) (aB (pv 0) (aB (pv 2) (aB (pv 3) (aB (pv 4) aD))))))))
   (aF (pL 6 sc.nd (aZ aD))
   (aF (dY þ rfl (gM rfl T.b_range (aB (pv 4) aD)) (gL 7 sc.nd) (aF (pL 8 sc.nd (px K (aZ (aB (bZ gq hr (aB (pv 0) (aB aG aD))) (aB (bZ gq hr (aB (pv 0) (aB (px K (aZ (aB aG (aB aG aD))) (aQ fA rfl T.b_int fZ (aB (pv 2) aD))) aD))) aD))) (aS jH (bZ gq hr (aB (pv 0) (aB aG aD))) aG)))
   (aI (bQ (dH (K:=K) rfl ó Ā ā cD (pv 6) (aB (bN (aB (bZ gq hr (aB (pv 0) (aB (pv 3) aD))) (aB (pv 8) (aB (fH oE (bZ gq hr (aB (pv 0) (aB aG aD))) aG (aX _)) aD)))) aD))))))
   (aI (aO (bN (aB (aQ (cT (K:=K) rfl) rfl T.b_tuple dB (aB (pv 5) aD)) (aB (aQ (cT (K:=K) rfl) rfl T.b_tuple dB (aB (pv 6) aD)) aD)))))))))),?_⟩
  refine AB (t:=t) (sl:=sl) (H0:=H) (x:=1) (y:=2) (l:=0) (h:=mm) (wF (bU 1 rfl ⟨by lia,by lia⟩)) (mZ (m:=mm) rfl rfl (by lia) (by lia)) _ _ ⟨Đ _,tp⟩ ?_;rintro v H1 e1 _ ⟨n',rfl,n0,n1⟩;obtain⟨n,rfl⟩:=ú (show 0<=n' by lia);refine j8 (t:=t) (sl:=sl) (H0:=H) (P:=eD 0 13) (oH (cJ rfl (by decide) (by decide)) (ö _) (by decide)) (cJ rfl (by decide) (by decide)) (tZ (cJ rfl (by decide) (by decide))) _ _ e1 ?_;rintro v H2 e2 _ ⟨m',rfl,m0,m1⟩;obtain⟨m,rfl⟩:=ú m0;refine (bU _ rfl (bU _ rfl ⟨by lia,by lia,?_⟩));refine BX (n:=n) (λ D i r ac H'=>H2 D=none/\Ext t sl H H'/\H' D=some (.lst r)/\∃ vs:List Vs,vs.length=i/\L2.IsL K H' (vs.map D8) r/\(∀ v∈vs,VOk n m v)/\(∀ i v,vs[i]? = some v->VFull i v)/\∃ v0,ac=[v0,some (.ref t),some (.int (n:Int)),some (.int (m:Int)),some (.bl jk)])
   (λ D hD=>⟨hD,e2.new hD,aE,[],rfl,.nil,(λ v hv=>nomatch hv),(λ i v hv=>by simp at hv),none,rfl⟩) ?_ ?_
  rotate_left
  ·rintro D i r ac H3 hi ⟨hD,e3,hl,vs,ij,Aa,hok,Qn,v0,rfl⟩;refine fL ?_;refine (bU _ rfl (bU _ rfl (bU _ rfl (bU _ rfl (bU _ rfl (eA6 t sl i n m jk rfl ⟨e3.tp,hi,by lia,by lia,λ v p H4 e4 Qi vfu hp=>?_⟩))))));have nD:D≠t:=e2.ne hD;have fD:H D=none:=e2.bt.free nD hD;have vp:H4 D=some (.lst r):=e4.bt D _ nD hl;have vq:r.length=vs.length:=by rw[Aa.length,Ê]
   have mt:lS (H4 D):=by rw[vp];exact trivial
   refine⟨vp,bD (by lia),hD,(e3.trans e4).put tp fD,aE,vs++[v],by simp [ij],?_,?_,?_,_,rfl⟩
   ·rw[Ð];exact ď (Ï (bW.put (bW.refl _) (.inr mt)) _ _ hp) (Õ (bW.put (e4.bt.ts e3.tp.mut) (.inr mt)) _ _ Aa)
   ·intro u hu;rcases ß.mp hu with hu | hu
    ·exact hok u hu
    ·rw[ã.mp hu];exact Qi
   ·intro j u hu;rcases Nat.lt_or_ge j vs.length with hj | hj
    ·rw[Ų hj] at hu;exact Qn j u hu
    ·rw[ű hj] at hu;have e0:j - vs.length=0:=by
      rcases Nat.eq_zero_or_pos (j - vs.length) with h | h
      ·exact h
      ·rw[List.getElem?_eq_none (show [v].length<=j - vs.length from h)] at hu;cases hu
     rw[e0] at hu;have e1:j=i:=by lia
     cases hu;rw[e1];exact vfu
  rintro D r ac H3 ⟨hD,e3,hl,vs,ij,Aa,hok,Qn,_⟩;have nD:D≠t:=e2.ne hD;have fD:H D=none:=e2.bt.free nD hD;refine⟨ê _,λ fl Ey=>?_⟩;have nf:fl≠t:=e3.ne Ey;have ff:H fl=none:=e3.bt.free nf Ey;have nDf:D≠fl:=aP hl Ey;refine (bU _ rfl (bU _ rfl ⟨by lia,by lia,?_⟩));refine oX (lo:=0) (n:=m) (λ j ac H'=>Ext t sl H H'/\H' D=some (.lst r)/\L2.IsL K H' (vs.map D8) r/\∃ (sps:List nE) (xs:List V),H' fl=some (.lst xs)/\L2.IsL K H' (sps.map O5) xs/\sps.length=j/\(∀ s∈sps,(0<=s.1/\s.1 < n)/\0<=s.2.1/\s.2.1<=60)/\
   ∃ v7 v8,ac=[some (.ref t),some (.int mm),some (.bl jk),some (.int (n:Int)),some (.int (m:Int)),some (.ref D),some (.ref fl),v7,v8]) ?_ ?_ ?_
  ·exact⟨e3.new Ey,by rw[aM nDf];exact hl,Õ (È Ey).ts _ _ Aa,[],[],aE,.nil,rfl,(λ s hs=>nomatch hs),none,none,rfl⟩
  ·rintro DD j - Bb ac H4 hj ⟨e4,vp,Qo,sps,xs,Lf,At,wv,yx,v7,v8,rfl⟩;refine j8 (t:=t) (sl:=sl) (H0:=H) (P:=eD 0 61) (oH (cJ rfl (by decide) (by decide)) (ö _) (by decide))
    (oH (n8 (lo:=4) (hi:=62) rfl (by decide) (by decide) (tY rfl ⟨by decide,by decide⟩ ⟨by decide,by decide⟩)) (ö _) (by decide)) (tZ (cJ rfl (by decide) (by decide))) _ _ e4 ?_
   rintro v H5 e5 b5 ⟨ww,rfl,fl0,fl1⟩;have hf5:H5 fl=some (.lst xs):=b5 fl _ nf Lf;refine (bU _ rfl ⟨.inl ⟨rfl,_,É hf5⟩,?_⟩);refine mZ (t:=t) (sl:=sl) (H0:=H) (m:=(n:Int)) rfl rfl (by lia) (by lia) _ _ e5 ?_;rintro v H6 e6 b6 ⟨tg,rfl,tg0,tg1⟩;refine (bU _ rfl ?_);refine TD (t:=t) (sl:=sl) (H0:=H) (cJ rfl (by decide) (by decide)) _ _ e6 ?_;rintro v H7 e7 b7 ⟨dr,rfl⟩;refine⟨(sz0 3),λ q hq=>?_⟩;have Qp:d4 t H4 H7:=b5.trans (b6.trans b7);have Qq:H7 fl=some (.lst xs):=Qp fl _ nf Lf;have hl7:H7 D=some (.lst r):=Qp D _ nD vp;have nq:fl≠q:=aP Qq hq;have nDq:D≠q:=aP hl7 hq;have yp:xs.length=sps.length:=by rw[At.length,Ê]
   refine⟨fl,xs,_,rfl,rfl,by rw[aM nq];exact Qq,bD (by lia),?_⟩;have mt:lS (upd H7 q (.tup [.int tg,.int ww,.bl dr]) fl):=by rw[aM nq,Qq];exact trivial
   have ts:bW K H4 (upd (upd H7 q (.tup [.int tg,.int ww,.bl dr])) fl (.lst (xs++[.ref q]))):=bW.put ((Qp.trans (È hq).but).ts e4.tp.mut) (.inr mt);refine Bb _ _ ⟨(e7.new hq).put tp ff,by rw[aM nDf,aM nDq];exact hl7,Õ ts _ _ Qo,sps++[(tg,ww,dr)],xs++[.ref q],aE,?_,by simp [wv],?_,_,_,rfl⟩
   ·rw[Ð];exact ď (Ý (ds:=[.int tg,.int ww,.bl dr]) (bW.put (bW.refl _) (.inr mt) _ _ (Ò aE)) (.cons (Is.i _) (.cons (Is.i _) (.cons (Is.b _) .nil)))) (Õ ts _ _ At)
   ·intro s hs;rcases ß.mp hs with hs | hs
    ·exact yx s hs
    ·rw[ã.mp hs];exact⟨⟨tg0,tg1⟩,fl0,show ww<=60 by lia⟩
  ·rintro ac H4 ⟨e4,vp,Qo,sps,xs,Lf,At,wv,yx,v7,v8,rfl⟩;refine (bU _ rfl (eB D _ rfl (.inl ⟨É vp,λ q1 xp=>(bU _ rfl (eB fl _ rfl (.inl ⟨É (È xp _ _ Lf),λ q2 xq=>⟨(sz0 2),λ q3 Az=>?_⟩⟩)))⟩)));have m1:aJ H4 (upd H4 q1 (.tup r)):=È xp;have m2:aJ (upd H4 q1 (.tup r)) (upd (upd H4 q1 (.tup r)) q2 (.tup xs)):=È xq;have m3:aJ (upd (upd H4 q1 (.tup r)) q2 (.tup xs)) (upd (upd (upd H4 q1 (.tup r)) q2 (.tup xs)) q3 (.tup [.ref q1,.ref q2])):=È Az;refine k ⟨vs,sps⟩ _ _ (((e4.new xp).new xq).new Az) ⟨by show 1<=vs.length;lia,by show vs.length<=12;lia,by show sps.length<=12;lia,λ v hv=>by rw[ij,wv];exact hok v hv,λ s hs=>by rw[ij];exact (yx s hs).1⟩ ⟨Qn,λ s hs=>(yx s hs).2⟩ (by show (vs.length:Int)<=mm;lia) ?_;refine Ý (Ò aE) (.cons (Ý (m3.tup (m2.tup (Ò aE))) ?_) (.cons (Ý (m3.tup (Ò aE)) ?_) .nil))
   ·exact Õ m3.ts _ _ (Õ m2.ts _ _ (Õ m1.ts _ _ Qo))
   ·exact Õ m3.ts _ _ (Õ m2.ts _ _ (Õ m1.ts _ _ At))
theorem OC:∀ n:Nat,(List.replicate n [V.int 0]).flatten=(List.replicate n (0:Int)).map V.int
 | 0=>rfl
 | n+1=>by rw[ġ,ġ,Ő,OC n,Ù];rfl
def dR (n:Nat):List Int:=List.replicate n 0
def yR (K:Ç):Sp:=λ args H Q _=>∃ (x:V) (net:Net),args=[x]/\Is K H (iT net) x/\NetOk net/\
 ∀ p H',aJ H H'->Is K H' (AL (dR net.vs.length) (dR net.vs.length) (net.sps.map (·.2.2))) p->Q p H'
theorem vP (F:Fun K "first_state" "first_state" (aU 12) f fd) (T:Txt mg):FnOk P w K mg base gP 1 f fd ["net"] (yR K):=by
 refine F.ok ["net","vessels","spouts","empty"] λ sc iu A outer s H vs Q E hr h=>?_
 ·obtain⟨x,net,rfl,hx,nok,k⟩:=h;refine⟨_,(aF (bK (pv 0) (bC (K:=K) (n:=2) rfl rfl (aH (gL 1 sc.nd) (aH (gL 2 sc.nd) bA))))
   (aF (pL 3 sc.nd (aS (LI (K:=K) rfl) (bN (aB aG aD)) (oQ K T.b_len (pv 1))))
   (aI (aO (bN (aB (pv 3) (aB (pv 3) (aB (aQ (cT (K:=K) rfl) rfl T.b_tuple dB (aB (gN (λ _ _ h=>h) rfl (LcOk.mk (N':=["target","flow","door"]) (fr:=[none,none,none]) rfl trivial rfl rfl rfl rfl rfl trivial) (cU (K:=K) rfl (pv 2)) (λ _ _ _=>(bC (K:=K) (n:=3) rfl rfl (aH (gC 0 ["target","flow","door"]) (aH (gC 1 ["target","flow","door"]) (aH (gC 2 ["target","flow","door"]) bA))))) (λ _ _ _=>bX) (λ _ _ _=>(pv 2))) aD)) aD)))))))),?_⟩
  obtain⟨a,b,c,xs,ys,rfl,q,q1,l1,q2,l2⟩:=j5 hx;have ue:xs.length=net.vs.length:=by rw[l1.length,Ê]
  have Ez:ys.length=net.sps.length:=by rw[l2.length,Ê]
  have n1:=nok.lo;have n2:=nok.hi;have n3:=nok.sp;refine⟨_,rfl,a,_,rfl,q,rfl,_,_,rfl,_,_,rfl,rfl,?_⟩;refine⟨(sz0 1),λ z hz=>(bU _ rfl (eB b xs rfl ⟨.inr ((È hz).tup q1),(VN z _ [.int 0] rfl ⟨rfl,Ò aE,by lia,by lia,by simp,by simp,λ e H1 oo qe=>?_⟩)⟩))⟩;have s1:aJ H H1:=(È hz).trans oo;have en:((xs.length:Nat):Int).toNat=net.vs.length:=by rw[ue];simp
  rw[en,OC] at qe;refine⟨_,rfl,_,rfl,_,rfl,c,rfl,⟨_,s1.tup q2⟩,fN (K:=K) (a:=c) (xs:=ys) (λ D i r ac H'=>H1 D=none/\aJ H1 H'/\H' D=some (.lst r)/\r=((net.sps.take i).map (·.2.2)).map V.bl/\∃ u v w,ac=[u,v,w])
   (λ D i r ac H' p=>p.2.1.tup (s1.tup q2)) (λ D hD=>⟨hD,È hD,aE,by simp,none,none,none,rfl⟩) ?_ ?_⟩
  rotate_left
  ·rintro D i x r ac H2 hx ⟨hD,sm,iw,rfl,u,v,w',rfl⟩;obtain⟨sp,rh,sa,rfl,qs⟩:=yD l2 hx;have vn:=(æ.mp rh).1;refine (eB sa _ rfl ⟨sm.tup (s1.tup qs),rfl,(eB _ _ rfl (eB _ _ rfl (eB _ _ rfl ⟨rfl,?_⟩)))⟩);refine D6 ⟨_,rfl,iw,bD (by simp;lia),hD,sm.put hD,aE,?_,_,_,_,rfl⟩;rw[dC rh];simp
  ·rintro D r ac H2 ⟨hD,sm,iw,rfl,_⟩;rw[Ez,ø] at iw;refine (eB D _ rfl (.inl ⟨É iw,λ d hd=>⟨(sz0 3),λ r Bg=>?_⟩⟩));have m1:aJ H2 (upd H2 d (.tup ((net.sps.map (·.2.2)).map V.bl))):=È hd;have m2:aJ (upd H2 d (.tup ((net.sps.map (·.2.2)).map V.bl))) (upd (upd H2 d (.tup ((net.sps.map (·.2.2)).map V.bl))) r (.tup [.ref e,.ref e,.ref d])):=È Bg;refine k _ _ (((s1.trans sm).trans m1).trans m2) (QK (Ò aE) ?_ ?_ (m2.tup (Ò aE)))
   ·exact m2.tup (m1.tup (sm.tup qe))
   ·exact m2.tup (m1.tup (sm.tup qe))
def HH (gs:List (Option Int×Int)):Int:=(gs.map (·.2)).sum
theorem uF (a b:List (Option Int×Int)):HH (a++b)=HH a+HH b:=by
 unfold HH;rw[Ð,ĭ]
theorem uE (v:Vs) (here:Int):HH (kR v here)=here / whole v.outs * whole v.outs:=by
 unfold kR HH whole;generalize here / (v.outs.map (·.2)).sum=q
 induction v.outs with
 | nil=>simp
 | cons o r ih=>
  simp only [Ù,đ,Int.mul_add];rw[ih]
theorem U7 (v:Vs) (h:Int):iO v h+HH (gJ v h)=h:=by
 have e:cP v h % whole v.outs+cP v h / whole v.outs * whole v.outs=cP v h:=by
  rw[Int.mul_comm];exact Int.emod_add_mul_ediv _ _
 unfold iO gJ
 by_cases t:pJ v h=true
 ·rw[Å t,Å t]
  by_cases q:v.holds=true
  ·rw[Å q,Å q,ı];show _+(h - cP v h+HH (kR v (cP v h)))=h;rw[uE];lia
  ·rw[Ä q,Ä q];show _+(h - cP v h+HH (kR v (cP v h)++_))=h;rw[uF,uE];show 0+(_+(_+(cP v h % whole v.outs+0)))=h;lia
 ·rw[Ä t,Ä t];show _+(h - cP v h+0)=h;lia
theorem uK:∀ (vs:List Vs) (hs:List Int),vs.length=hs.length->(dW vs hs).sum+HH (dO vs hs)=hs.sum
 | [],[],_=>rfl
 | [],_::_,h=>by simp at h
 | _::_,[],h=>by simp at h
 | v::vs,b::hs,h=>by
  have ih:=uK vs hs (by simpa using h);have e:=U7 v b;show iO v b+(dW vs hs).sum+HH (gJ v b++dO vs hs)=b+hs.sum;rw[uF];lia
theorem EF:∀ n:Nat,(fC n []).sum=0:=by
 intro n;unfold fC d6
 induction n with
 | zero=>rfl
 | succ n ih=>rw[agn,Ð,ĭ,ih];rfl
theorem BZ (n:Nat) (g:Option Int×Int) (r:List (Option Int×Int)) :
  (fC n (g::r)).sum=((List.range n).map λ (k:Nat)=>if g.1=some (k:Int) then g.2 else 0).sum+(fC n r).sum:=by
 unfold fC
 induction n with
 | zero=>rfl
 | succ n ih=>
  rw[agn,Ð,Ð,Ð,ĭ,ĭ,ĭ,ih];simp only [Ù,ė,đ,List.sum_nil,d6];lia
theorem P1 (n:Nat) (t:Option Int) (a:Int):((List.range n).map λ (k:Nat)=>if t=some (k:Int) then a else 0).sum=(match t with | none=>0 | some i=>if 0<=i/\i < n then a else 0):=by
 induction n with
 | zero=>cases t with
  | none=>rfl
  | some i=>show (0:Int)=_;rw[show (match some i with | none=>(0:Int) | some i=>if 0<=i/\i < ((0:Nat):Int) then a else 0)=if 0<=i/\i < ((0:Nat):Int) then a else 0 from rfl,Ä (by lia)]
 | succ n ih=>
  rw[agn,Ð,ĭ,ih];cases t with
  | none=>simp
  | some i=>
   simp only [Ù,ė,đ,List.sum_nil,ő]
   by_cases h1:i=(n:Int)
   ·rw[Å h1,Ä (by lia),Å (by lia)];lia
   ·rw[Ä h1]
    by_cases h2:0<=i/\i < (n:Int)
    ·rw[Å h2,Å (by lia)];lia
    ·rw[Ä h2,Ä (by lia)];lia
theorem uM (n:Nat):∀ gs:List (Option Int×Int),(∀ g∈gs,∀ t,g.1=some t->0<=t/\t < n)->(fC n gs).sum+d6 none gs=HH gs
 | [],_=>by rw[EF];rfl
 | g::r,h=>by
  have ih:=uM n r λ x hx=>h x (Ô _ hx);have hg:=h g Þ;rw[BZ,P1];show _+_+((if g.1=none then g.2 else 0)+d6 none r)=g.2+HH r;obtain⟨t,a⟩:=g;cases t with
  | none=>simp only [Å];lia
  | some i=>
   have:=hg i rfl;simp only [Å this];rw[Ä (by simp)];lia
theorem JV {n m:Nat}{v:Vs} (ok:VOk n m v) (h:Int):∀ g∈gJ v h,∀ t,g.1=some t->0<=t/\t < n:=by
 intro g hg t e;unfold gJ at hg;rcases Ñ.1 hg with q | q
 ·subst q;exact ok.spill t e
 ·split at q
  ·rcases ß.1 q with q | q
   ·unfold kR at q;obtain⟨o,ho,rfl⟩:=ä.1 q;exact (ok.outs o ho).tg t e
   ·split at q
    ·cases q
    ·rw[ã] at q;subst q;cases e
  ·cases q
theorem CF {n m:Nat}:∀ (vs:List Vs) (hs:List Int),(∀ v∈vs,VOk n m v)->∀ g∈dO vs hs,∀ t,g.1=some t->0<=t/\t < n
 | [],_,_,g,hg,_,_=>by simp [dO] at hg
 | _::_,[],_,g,hg,_,_=>by simp [dO] at hg
 | v::vs,b::hs,ok,g,hg,t,e=>by
  rcases ß.1 (show g∈gJ v b++dO vs hs from hg) with q | q
  ·exact JV (ok v Þ) b g q t e
  ·exact CF vs hs (λ x hx=>ok x (Ô _ hx)) g q t e
theorem kept {net:Net} (nok:NetOk net) {held coming poured:List Int}{doors:List Bool} (hl:(cI net held coming poured doors).length=net.vs.length) :
  (cI net held coming poured doors).sum=(rE net held coming poured doors).held.sum+(rE net held coming poured doors).coming.sum+(rE net held coming poured doors).ground:=by
 have a:=uK net.vs _ hl.symm;have b:=uM net.vs.length (dO net.vs (cI net held coming poured doors)) (CF _ _ nok.vs);show _=(dW net.vs _).sum+(fC net.vs.length _).sum+d6 none _;lia
theorem SR (K:Ç):PySem.W.kitOne K (.type "tuple") (.type "tuple")=some true:=by
 unfold PySem.W.kitOne;rw[Å (by decide +kernel)]
theorem ML (K:Ç):PySem.W.kitOne K (.type "bool") (.type "bool")=some true:=by
 unfold PySem.W.kitOne;rw[Å (by decide +kernel)]
theorem MJ (K:Ç):PySem.W.kitOne K (.type "int") (.type "bool")=some false:=by
 unfold PySem.W.kitOne;rw[Ä (by decide +kernel)];show (if PySem.W.kitMeta "bool" = true then PySem.W.subIn K (.type "int") (.type "bool") else none)=some false;rw[Å (by decide +kernel)];show (PySem.fastBuiltinMro "int").map (·.contains (.type "bool"))=some false;decide +kernel
theorem r9 (n:Nat):(List.replicate n true).all id=true:=by
 rw[ě];intro x hx;rw[Ň hx];rfl
def FD (K:Ç):Sp:=λ vs H Q _=>∃ (a:Á) (ns:List Int),vs=[.ref a]/\aY K H a (ns.map V.int)/\ns.length<=63/\∀ H',Q (.bl true) H'
end Tw
namespace L2
open PySem PySem.Spec PyProof.Rows TwZ
section
variable {X:Cx}
theorem cE {x:Str}{v:V}{pos:Pos} (hg:Gl X x) (h:∃ u,X.mg x=some u/\bH v u) (hd:(x == ("__debug__" : Str))=false:=by decide):PE X (.Name x pos) (tC v):=by
 obtain⟨u,e,r⟩:=h;exact OV hg e r hd
theorem DX (hK:X.K=K):iW X (compareOp .In) (rIn K false):=by subst hK;exact HW
end
theorem wU {c A B:Prop} [Decidable c] (hc:c) (h:A):if decide c=true then A else B:=by
 rw[Å (Û hc)];exact h
end L2
namespace Tw
open PySem L2
structure TxtN (K:Ç) (mg:Str->Option À) (aw:Á):Prop where
 g_MOST_VESSELS:∃ u,mg "MOST_VESSELS" = some u/\bH (.int 12) u
 g_MOST_SPOUTS:∃ u,mg "MOST_SPOUTS" = some u/\bH (.int 12) u
 g_MOST_SIZE:∃ u,mg "MOST_SIZE" = some u/\bH (.int 60) u
 g_MOST_BRIM:∃ u,mg "MOST_BRIM" = some u/\bH (.int 200) u
 g_MOST_OUTS:∃ u,mg "MOST_OUTS" = some u/\bH (.int 3) u
 g_MOST_PARTS:∃ u,mg "MOST_PARTS" = some u/\bH (.int 60) u
 g_MOST_ACTS:∃ u,mg "MOST_ACTS" = some u/\bH (.int 3) u
 g_MOST_FLOW:∃ u,mg "MOST_FLOW" = some u/\bH (.int 60) u
 g_ACT_WORDS:∃ u,mg "ACT_WORDS" = some u/\bH (.ref aw) u
 words:∀ H,bS K H aw [.str "open",.str "shut",.str "turn"]
theorem MI (K:Ç):PySem.W.kitOne K (.type "int") (.type "int")=some true:=by
 unfold PySem.W.kitOne;rw[Å (by decide +kernel)]
section
variable {aw:Á}
def oK (K:Ç):Sp:=λ vs H Q _=>∃ (a:Á) (xs:List V) (lo hi:Int),vs=[.ref a,.int lo,.int hi]/\bS K H a xs/\lo<=(xs.length:Int)/\(xs.length:Int)<=hi/\Q (.bl true) H
def nG:Sp:=λ vs H Q _=>∃ (n lo hi:Int),vs=[.int n,.int lo,.int hi]/\lo<=n/\n<=hi/\Q (.bl true) H
def yN (K:Ç):Sp:=λ vs H Q _=>∃ (a:Á) (n:Nat) (o:Option Int×Int),vs=[.ref a,.int (n:Int)]/\bS K H a [kO o.1,.int o.2]/\OutOk n o/\Q (.bl true) H
def yO (K:Ç):Sp:=λ vs H Q _=>∃ (a:Á) (m:Nat) (c:Str×Int),vs=[.ref a,.int (m:Int)]/\bS K H a [.str c.1,.int c.2]/\ActOk m c/\Q (.bl true) H
def rL (K:Ç):Sp:=λ vs H Q _=>∃ (a:Á) (n:Nat) (s:nE),vs=[.ref a,.int (n:Int)]/\bS K H a [.int s.1,.int s.2.1,.bl s.2.2]/\(0<=s.1/\s.1 < n)/\(0<=s.2.1/\s.2.1<=60)/\Q (.bl true) H
def oN (K:Ç):Sp:=λ vs H Q _=>∃ (x:V) (i n m:Nat) (v:Vs),vs=[x,.int (i:Int),.int (n:Int),.int (m:Int)]/\Is K H (D8 v) x/\VOk n m v/\VFull i v/\∀ H',aJ H H'->Q (.bl true) H'
def tU (K:Ç):Sp:=λ vs H Q _=>∃ (x:V) (net:Net),vs=[x]/\Is K H (iT net) x/\NetOk net/\NetFull net/\∀ H',aJ H H'->Q (.bl true) H'
theorem BH (F:Fun K "is_tuple" "is_tuple" (aU 47) f fd) (T:Txt mg):FnOk P w K mg base gP 1 f fd ["thing","least","most"] (oK K):=by
 refine F.ok ["thing","least","most"] λ sc iu A outer s H vs Q E hr h=>?_
 ·obtain⟨a,xs,lo,hi,rfl,q,h1,h2,k⟩:=h;refine⟨_,(aI (aO (gG (bE (i9 (K:=K) rfl) rfl T.b_isinstance cQ (aB (pv 0) (aB (iB (v:=.ty "tuple") rfl T.b_tuple dB rfl) aD))) (iK (vE vF vF (pv 1) (oQ K T.b_len (pv 0)) (pv 2)))))),?_⟩;refine⟨_,rfl,_,"tuple",_,true,rfl,.inr ⟨a,xs,rfl,q,rfl⟩,SR K,_,rfl,eX ?_⟩;refine⟨_,rfl,_,rfl,a,xs,rfl,.inr q,_,_,rfl,rfl,_,rfl,wU h1 ⟨_,rfl,_,_,rfl,rfl,?_⟩⟩;show Q (.bl (decide _)) H;rw[Û h2];exact k
theorem BG (F:Fun K "is_whole" "is_whole" (aU 48) f fd) (T:Txt mg):FnOk P w K mg base gP 1 f fd ["thing","least","most"] nG:=by
 refine F.ok ["thing","least","most"] λ sc iu A outer s H vs Q E hr h=>?_
 ·obtain⟨n,lo,hi,rfl,h1,h2,k⟩:=h;refine⟨_,(aI (aO (gG (bE (i9 (K:=K) rfl) rfl T.b_isinstance cQ (aB (pv 0) (aB (iB (v:=.ty "int") rfl T.b_int fZ rfl) aD))) (gG (zE (bE (i9 (K:=K) rfl) rfl T.b_isinstance cQ (aB (pv 0) (aB (iB (v:=.ty "bool") rfl T.b_bool u6 rfl) aD)))) (iK (vE vF vF (pv 1) (pv 0) (pv 2))))))),?_⟩;refine⟨_,rfl,_,"int",_,true,rfl,.inl (.int _),MI K,_,rfl,eX ?_⟩;refine⟨_,rfl,_,"bool",_,false,rfl,.inl (.int _),MJ K,_,rfl,_,rfl,eX ?_⟩;refine⟨_,rfl,_,rfl,_,_,rfl,rfl,_,rfl,wU h1 ⟨_,rfl,_,_,rfl,rfl,?_⟩⟩;show Q (.bl (decide _)) H;rw[Û h2];exact k
theorem HY (F:Fun K "is_out" "is_out" (aU 42) f fd) (T:Txt mg) (U:TxtN K mg aw) (io:Callee P w K mg base "is_tuple" ["thing","least","most"] 1 (oK K) f1 je)
  (ir:Callee P w K mg base "is_whole" ["thing","least","most"] 1 nG f2 ju):FnOk P w K mg base gP 2 f fd ["thing","vessel_count"] (yN K):=by
 refine F.ok ["thing","vessel_count","target","parts"] λ sc iu A outer s H vs Q E hr h=>?_
 ·obtain⟨a,n,o,rfl,q,ok,k⟩:=h;refine⟨_,(aF (bJ (dX (cS (bZ io hr (aB (pv 0) (aB aG (aB aG aD)))))) (aI (aO fW)) aT)
   (aF (bK (pv 0) (bC (K:=K) (n:=2) rfl rfl (aH (gL 2 sc.nd) (aH (gL 3 sc.nd) bA))))
   (aI (aO (gG (LC (fH vG (pv 2) fY (aX _)) (iK (bZ ir hr (aB (pv 2) (aB aG (aB (aS gI (pv 1) aG) aD)))))) (iK (bZ ir hr (aB (pv 3) (aB aG (aB (cE rfl U.g_MOST_PARTS) aD)))))))))),?_⟩
  refine⟨_,rfl,a,_,2,2,rfl,q,(show (2:Int)<=2 by decide),(show (2:Int)<=2 by decide),_,rfl,cX ?_⟩;refine⟨_,rfl,a,_,rfl,q,rfl,_,_,rfl,_,_,rfl,rfl,?_⟩;obtain⟨tg,pa⟩:=o;cases tg with
  | none=>
   refine⟨_,rfl,rfl,_,rfl,wU rfl ⟨_,rfl,eX ?_⟩⟩;exact⟨_,rfl,pa,1,60,rfl,ok.lo,ok.hi,k⟩
  | some i=>
   have hi:=ok.tg i rfl;refine⟨_,rfl,rfl,_,rfl,cX ⟨_,rfl,_,rfl,_,_,rfl,rfl,i,0,_,rfl,hi.1,by lia,_,rfl,eX ?_⟩⟩;exact⟨_,rfl,pa,1,60,rfl,ok.lo,ok.hi,k⟩
theorem IA (F:Fun K "is_act" "is_act" (aU 43) f fd) (T:Txt mg) (U:TxtN K mg aw) (io:Callee P w K mg base "is_tuple" ["thing","least","most"] 1 (oK K) f1 je)
  (ir:Callee P w K mg base "is_whole" ["thing","least","most"] 1 nG f2 ju):FnOk P w K mg base gP 2 f fd ["thing","spout_count"] (yO K):=by
 refine F.ok ["thing","spout_count","word","spout"] λ sc iu A outer s H vs Q E hr h=>?_
 ·obtain⟨a,m,c,rfl,q,ok,k⟩:=h;refine⟨_,(aF (bJ (dX (cS (bZ io hr (aB (pv 0) (aB aG (aB aG aD)))))) (aI (aO fW)) aT)
   (aF (bK (pv 0) (bC (K:=K) (n:=2) rfl rfl (aH (gL 2 sc.nd) (aH (gL 3 sc.nd) bA))))
   (aI (aO (gG (fH (DX (K:=K) rfl) (pv 2) (cE rfl U.g_ACT_WORDS) (by rfl)) (iK (bZ ir hr (aB (pv 3) (aB aG (aB (aS gI (pv 1) aG) aD)))))))))),?_⟩
  refine⟨_,rfl,a,_,2,2,rfl,q,(show (2:Int)<=2 by decide),(show (2:Int)<=2 by decide),_,rfl,cX ?_⟩;refine⟨_,rfl,a,_,rfl,q,rfl,_,_,rfl,_,_,rfl,rfl,?_⟩;have uq:D4 (.str c.1) [.str "open",.str "shut",.str "turn"]=true:=by
   rcases ok.word with e | e | e <;> rw[e] <;> decide +kernel
  refine⟨_,rfl,aw,_,rfl,.inr (U.words _),rfl,rfl,_,rfl,?_⟩;rw[show (if false=true then !D4 (V.str c.1) [.str "open",.str "shut",.str "turn"] else D4 (V.str c.1) [.str "open",.str "shut",.str "turn"])=true from uq];refine eX ?_;exact⟨_,rfl,_,rfl,_,_,rfl,rfl,c.2,0,_,rfl,ok.lo,by have:=ok.hi;lia,k⟩
theorem BI (F:Fun K "is_spout" "is_spout" (aU 44) f fd) (T:Txt mg) (U:TxtN K mg aw) (io:Callee P w K mg base "is_tuple" ["thing","least","most"] 1 (oK K) f1 je)
  (ir:Callee P w K mg base "is_whole" ["thing","least","most"] 1 nG f2 ju):FnOk P w K mg base gP 2 f fd ["thing","vessel_count"] (rL K):=by
 refine F.ok ["thing","vessel_count","target","flow","door"] λ sc iu A outer s H vs Q E hr h=>?_
 ·obtain⟨a,n,s,rfl,q,ok1,ok2,k⟩:=h;refine⟨_,(aF (bJ (dX (cS (bZ io hr (aB (pv 0) (aB aG (aB aG aD)))))) (aI (aO fW)) aT)
   (aF (bK (pv 0) (bC (K:=K) (n:=3) rfl rfl (aH (gL 2 sc.nd) (aH (gL 3 sc.nd) (aH (gL 4 sc.nd) bA)))))
   (aI (aO (gG (bZ ir hr (aB (pv 2) (aB aG (aB (aS gI (pv 1) aG) aD)))) (gG (bZ ir hr (aB (pv 3) (aB aG (aB (cE rfl U.g_MOST_FLOW) aD)))) (iK (bE (i9 (K:=K) rfl) rfl T.b_isinstance cQ (aB (pv 4) (aB (iB (v:=.ty "bool") rfl T.b_bool u6 rfl) aD)))))))))),?_⟩
  refine⟨_,rfl,a,_,3,3,rfl,q,(show (3:Int)<=3 by decide),(show (3:Int)<=3 by decide),_,rfl,cX ?_⟩;refine⟨_,rfl,a,_,rfl,q,rfl,_,_,rfl,_,_,rfl,_,_,rfl,rfl,?_⟩;refine⟨_,rfl,_,rfl,_,_,rfl,rfl,s.1,0,_,rfl,ok1.1,by lia,_,rfl,eX ?_⟩;refine⟨_,rfl,s.2.1,0,60,rfl,ok2.1,ok2.2,_,rfl,eX ?_⟩;exact⟨_,rfl,_,"bool",_,true,rfl,.inl (.bl _),ML K,k⟩
theorem zM (F:Fun K "is_vessel" "is_vessel" (aU 41) f fd) (T:Txt mg) (U:TxtN K mg aw) (io:Callee P w K mg base "is_tuple" ["thing","least","most"] 1 (oK K) f1 je)
  (ir:Callee P w K mg base "is_whole" ["thing","least","most"] 1 nG f2 ju) (wx:Callee P w K mg base "is_out" ["thing","vessel_count"] 2 (yN K) f3 pr) (wz:Callee P w K mg base "is_act" ["thing","spout_count"] 2 (yO K) f4 yy) :
  FnOk P w K mg base gP 3 f fd ["thing","number","vessel_count","spout_count"] (oN K):=by
 refine F.ok ["thing","number","vessel_count","spout_count","size","brim","outs","holds","spill","acts"] λ sc iu A outer s H vs Q E hr h=>?_
 ·obtain⟨x,i,n,m,v,rfl,hx,ok,fu,k⟩:=h;refine⟨_,(aF (bJ (dX (cS (bZ io hr (aB (pv 0) (aB aG (aB aG aD)))))) (aI (aO fW)) aT)
   (aF (bK (pv 0) (bC (K:=K) (n:=6) rfl rfl (aH (gL 4 sc.nd) (aH (gL 5 sc.nd) (aH (gL 6 sc.nd) (aH (gL 7 sc.nd) (aH (gL 8 sc.nd) (aH (gL 9 sc.nd) bA))))))))
   (aF (bJ (Ć (lO (dX (cS (bZ ir hr (aB (pv 4) (aB aG (aB (cE rfl U.g_MOST_SIZE) aD)))))) (jN (dX (cS (bZ ir hr (aB (pv 5) (aB (pv 4) (aB (cE rfl U.g_MOST_BRIM) aD))))))))) (aI (aO fW)) aT)
   (aF (bJ (Ć (lO (dX (cS (bZ io hr (aB (pv 6) (aB aG (aB (cE rfl U.g_MOST_OUTS) aD)))))) (jN (dX (cS (bZ io hr (aB (pv 9) (aB aG (aB (cE rfl U.g_MOST_ACTS) aD))))))))) (aI (aO fW)) aT)
   (aI (aO (gG (bE (kK (K:=K) rfl rfl) rfl T.b_all ŋ (aB (gN (λ _ _ h=>h) rfl (LcOk.mk (N':=["out","vessel_count"]) (fr:=[none,some 2]) rfl ⟨rfl,trivial⟩ rfl rfl rfl rfl rfl ⟨⟨_,rfl,rfl,rfl,rfl⟩,trivial⟩) (cU (K:=K) rfl (pv 6)) (λ _ _ _=>(gC 0 ["out","vessel_count"])) (λ _ _ _=>bX) (λ _ _ _=>(bZ wx hr (aB (pv 0) (aB (pv 1) aD))))) aD)) (gG (bE (i9 (K:=K) rfl) rfl T.b_isinstance cQ (aB (pv 7) (aB (iB (v:=.ty "bool") rfl T.b_bool u6 rfl) aD))) (gG (LC (fH vG (pv 8) fY (aX _)) (iK (bZ ir hr (aB (pv 8) (aB (aS cG (pv 1) aG) (aB (aS gI (pv 2) aG) aD)))))) (iK (bE (kK (K:=K) rfl rfl) rfl T.b_all ŋ (aB (gN (λ _ _ h=>h) rfl (LcOk.mk (N':=["act","spout_count"]) (fr:=[none,some 3]) rfl ⟨rfl,trivial⟩ rfl rfl rfl rfl rfl ⟨⟨_,rfl,rfl,rfl,rfl⟩,trivial⟩) (cU (K:=K) rfl (pv 9)) (λ _ _ _=>(gC 0 ["act","spout_count"])) (λ _ _ _=>bX) (λ _ _ _=>(bZ wz hr (aB (pv 0) (aB (pv 1) aD))))) aD)))))))))))),?_⟩
  obtain⟨va,o,cc,rfl,qv,ho,hc⟩:=AU hx;obtain⟨oa,os,rfl,qo,lo⟩:=ho.un;obtain⟨ca,cs,rfl,qc,lc⟩:=hc.un;have Lg:os.length=v.outs.length:=by rw[lo.length,Ê]
  have Bh:cs.length=v.acts.length:=by rw[lc.length,Ê]
  have ne1:1<=v.outs.length:=by
   rcases Nat.eq_zero_or_pos v.outs.length with e | e
   ·exact absurd (ý e) ok.ne
   ·exact e
  have o3:=ok.o3;have a3:=ok.a3;refine⟨_,rfl,va,_,6,6,rfl,qv,(show (6:Int)<=6 by decide),(show (6:Int)<=6 by decide),_,rfl,cX ?_⟩;refine⟨_,rfl,va,_,rfl,qv,rfl,_,_,rfl,_,_,rfl,_,_,rfl,_,_,rfl,_,_,rfl,_,_,rfl,rfl,?_⟩;refine⟨_,rfl,v.size,1,60,rfl,ok.size,fu.sz,_,rfl,cX ?_⟩;refine⟨_,rfl,_,rfl,v.brim,v.size,200,rfl,fu.br,fu.bh,_,rfl,cX ?_⟩;refine⟨_,rfl,oa,_,1,3,rfl,qo,by lia,by lia,_,rfl,cX ?_⟩;refine⟨_,rfl,ca,_,0,3,rfl,qc,by lia,by lia,_,rfl,cX ?_⟩;refine⟨_,rfl,oa,rfl,⟨_,qo⟩,fN (K:=K) (a:=oa) (xs:=os) (λ D i r ac H'=>H D=none/\aJ H H'/\H' D=some (.lst r)/\r=(List.replicate i true).map V.bl/\∃ u,ac=[u,some (.int (n:Int))])
   (λ D i r ac H' p=>p.2.1.tup qo) (λ D hD=>⟨hD,È hD,aE,rfl,none,rfl⟩) ?_ ?_⟩
  rotate_left
  ·rintro D j y r ac H2 hy ⟨hD,sm,iw,rfl,u,rfl⟩;obtain⟨ot,yq,oad,rfl,qot⟩:=qJ lo hy;have Cj:=(æ.mp yq).1;refine fL ?_;refine⟨_,rfl,_,rfl,oad,n,ot,rfl,sm.tup qot,ok.outs _ (Ó yq),iw,bD (by simp;lia),hD,sm.put hD,aE,?_,_,rfl⟩;rw[Š,Ð];rfl
  rintro D r ac H2 ⟨hD,ka,iw,rfl,_⟩;refine⟨false,D,_,rfl,É iw,_,rfl,?_⟩;rw[r9];refine eX ?_;refine⟨_,rfl,_,"bool",_,true,rfl,.inl (.bl _),ML K,_,rfl,eX ?_⟩;cases lh:v.spill with
  | none=>
   rw[lh] at qv;refine⟨_,rfl,rfl,_,rfl,wU rfl ⟨_,rfl,eX ?_⟩⟩;refine⟨_,rfl,ca,rfl,⟨_,ka.tup qc⟩,fN (K:=K) (a:=ca) (xs:=cs) (λ D i r ac H'=>H2 D=none/\aJ H2 H'/\H' D=some (.lst r)/\r=(List.replicate i true).map V.bl/\∃ u,ac=[u,some (.int (m:Int))])
    (λ D i r ac H' p=>p.2.1.tup (ka.tup qc)) (λ D hD=>⟨hD,È hD,aE,rfl,none,rfl⟩) ?_ ?_⟩
   rotate_left
   ·rintro D j y r ac H3 hy ⟨hD,sm,iw,rfl,u,rfl⟩;obtain⟨at',ur,aa,rfl,qa⟩:=rA lc hy;have Cj:=(æ.mp ur).1;refine fL ?_;refine⟨_,rfl,_,rfl,aa,m,at',rfl,sm.tup (ka.tup qa),ok.acts _ (Ó ur),iw,bD (by simp;lia),hD,sm.put hD,aE,?_,_,rfl⟩;rw[Š,Ð];rfl
   rintro D r ac H3 ⟨hD,ko,iw,rfl,_⟩;refine⟨false,D,_,rfl,É iw,?_⟩;rw[r9];exact k _ (ka.trans ko)
  | some t=>
   have h1:=ok.spill t lh;have h2:=fu.sp t lh;rw[lh] at qv;refine⟨_,rfl,rfl,_,rfl,cX ⟨_,rfl,_,rfl,_,_,rfl,rfl,_,rfl,_,_,rfl,rfl,t,_,_,rfl,by lia,by lia,_,rfl,eX ?_⟩⟩;refine⟨_,rfl,ca,rfl,⟨_,ka.tup qc⟩,fN (K:=K) (a:=ca) (xs:=cs) (λ D i r ac H'=>H2 D=none/\aJ H2 H'/\H' D=some (.lst r)/\r=(List.replicate i true).map V.bl/\∃ u,ac=[u,some (.int (m:Int))])
    (λ D i r ac H' p=>p.2.1.tup (ka.tup qc)) (λ D hD=>⟨hD,È hD,aE,rfl,none,rfl⟩) ?_ ?_⟩
   rotate_left
   ·rintro D j y r ac H3 hy ⟨hD,sm,iw,rfl,u,rfl⟩;obtain⟨at',ur,aa,rfl,qa⟩:=rA lc hy;have Cj:=(æ.mp ur).1;refine fL ?_;refine⟨_,rfl,_,rfl,aa,m,at',rfl,sm.tup (ka.tup qa),ok.acts _ (Ó ur),iw,bD (by simp;lia),hD,sm.put hD,aE,?_,_,rfl⟩;rw[Š,Ð];rfl
   rintro D r ac H3 ⟨hD,ko,iw,rfl,_⟩;refine⟨false,D,_,rfl,É iw,?_⟩;rw[r9];exact k _ (ka.trans ko)
theorem HZ (F:Fun K "is_net" "is_net" (aU 40) f fd) (T:Txt mg) (U:TxtN K mg aw) (io:Callee P w K mg base "is_tuple" ["thing","least","most"] 1 (oK K) f1 je)
  (rk:Callee P w K mg base "is_vessel" ["thing","number","vessel_count","spout_count"] 3 (oN K) f2 ju) (sv:Callee P w K mg base "is_spout" ["thing","vessel_count"] 2 (rL K) f3 pr):FnOk P w K mg base gP 4 f fd ["thing"] (tU K):=by
 refine F.ok ["thing","vessels","spouts","number","vessel"] λ sc iu A outer s H vs Q E hr h=>?_
 ·obtain⟨x,net,rfl,hx,nok,pz,k⟩:=h;refine⟨_,(aF (bJ (dX (cS (bZ io hr (aB (pv 0) (aB aG (aB aG aD)))))) (aI (aO fW)) aT)
   (aF (bK (pv 0) (bC (K:=K) (n:=2) rfl rfl (aH (tV (i:=1) sc.nd rfl (Or.inr rfl)) (aH (gL 2 sc.nd) bA))))
   (aF (bJ (Ć (lO (dX (cS (bZ io hr (aB (pv 1) (aB aG (aB (cE rfl U.g_MOST_VESSELS) aD)))))) (jN (dX (cS (bZ io hr (aB (pv 2) (aB aG (aB (cE rfl U.g_MOST_SPOUTS) aD))))))))) (aI (aO fW)) aT)
   (aF (dY þ rfl (B9 (K:=K) rfl rfl T.b_enumerate (aB (pv 1) aD)) (bC (K:=K) (n:=2) rfl rfl (aH (gL 3 sc.nd) (aH (gL 4 sc.nd) bA))) (aI (bJ (dX (cS (bZ rk hr (aB (pv 4) (aB (pv 3) (aB (oQ K T.b_len (pv 1)) (aB (oQ K T.b_len (pv 2)) aD))))))) (aI (aO fW)) aT)))
   (aI (aO (bE (kK (K:=K) rfl rfl) rfl T.b_all ŋ (aB (gN (λ _ _ h=>h) rfl (LcOk.mk (N':=["spout","vessels"]) (fr:=[none,some 1]) rfl ⟨rfl,trivial⟩ rfl rfl rfl rfl rfl ⟨⟨_,rfl,rfl,rfl,rfl⟩,trivial⟩) (cU (K:=K) rfl (pv 2)) (λ _ _ _=>(gC 0 ["spout","vessels"])) (λ _ _ _=>bX) (λ _ _ _=>(bZ sv hr (aB (pv 0) (aB (oQ K T.b_len (pv 1)) aD))))) aD)))))))),?_⟩
  obtain⟨a,b,c,xs,ys,rfl,q,q1,l1,q2,l2⟩:=j5 hx;have ue:xs.length=net.vs.length:=by rw[l1.length,Ê]
  have Ez:ys.length=net.sps.length:=by rw[l2.length,Ê]
  have n1:=nok.lo;have n2:=nok.hi;have n3:=nok.sp;refine⟨_,rfl,a,_,2,2,rfl,q,(show (2:Int)<=2 by decide),(show (2:Int)<=2 by decide),_,rfl,cX ?_⟩;refine⟨_,rfl,a,_,rfl,q,rfl,_,_,rfl,_,_,rfl,rfl,?_⟩;refine⟨_,rfl,b,_,1,12,rfl,q1,by lia,by lia,_,rfl,cX ?_⟩;refine⟨_,rfl,c,_,0,12,rfl,q2,by lia,by lia,_,rfl,cX ?_⟩;refine⟨_,rfl,true,b,rfl,⟨_,q1⟩,CH (K:=K) (t:=true) (a:=b) (xs:=xs) (λ i ac H'=>aJ H H'/\∃ v3 v4,ac=[some (.ref a),some (.ref b),some (.ref c),v3,v4])
   (λ i ac H' p=>p.1.tup q1) ⟨λ _ _ h=>h,none,none,rfl⟩ ?_ ?_⟩
  rotate_left
  ·rintro i y ac H2 Tt hy ⟨sm,v3,v4,rfl⟩ hT;obtain⟨d,hd,iy⟩:=l1.get' hy;rw[Ø] at hd;obtain⟨v,hv,rfl⟩:=ð.mp hd;have xu:=È (o:=HO.tup [.int (i:Int),y]) hT;have ko:=sm.trans xu;refine⟨Tt,_,rfl,Ò aE,rfl,_,_,rfl,_,_,rfl,rfl,?_⟩;refine⟨_,rfl,_,rfl,_,rfl,b,xs,rfl,.inr (ko.tup q1),_,rfl,c,ys,rfl,.inr (ko.tup q2),y,i,net.vs.length,net.sps.length,v,by rw[ue,Ez];rfl,Ï ko.ts _ _ iy,nok.vs v (Ó hv),pz.vs i v hv,λ H4 uv=>⟨_,rfl,cX ?_⟩⟩;exact⟨ko.trans uv,_,_,rfl⟩
  rintro ac H2 ⟨ka,v3,v4,rfl⟩;refine⟨_,rfl,c,rfl,⟨_,ka.tup q2⟩,fN (K:=K) (a:=c) (xs:=ys) (λ D i r ac H'=>H2 D=none/\aJ H2 H'/\H' D=some (.lst r)/\r=(List.replicate i true).map V.bl/\∃ u,ac=[u,some (.ref b)])
   (λ D i r ac H' p=>p.2.1.tup (ka.tup q2)) (λ D hD=>⟨hD,È hD,aE,rfl,none,rfl⟩) ?_ ?_⟩
  rotate_left
  ·rintro D j y r ac H3 hy ⟨hD,sm,iw,rfl,u,rfl⟩;obtain⟨sp,rh,sa,rfl,qs⟩:=yD l2 hy;have Cj:=(æ.mp rh).1;have hm:=Ó rh;refine fL ?_;refine⟨_,rfl,_,rfl,b,xs,rfl,.inr (sm.tup (ka.tup q1)),sa,net.vs.length,sp,by rw[ue];rfl,sm.tup (ka.tup qs),nok.sps sp hm,pz.sps sp hm,iw,bD (by simp;lia),hD,sm.put hD,aE,?_,_,rfl⟩;rw[Š,Ð];rfl
  rintro D r ac H3 ⟨hD,ko,iw,rfl,_⟩;refine⟨false,D,_,rfl,É iw,?_⟩;rw[r9];exact k _ (ka.trans ko)
end
end Tw
namespace L2
open PySem PySem.Spec PyProof.Rows
def VL (K:Ç) (n:Nat) (t:GS):TG:=λ v σ H Q=>∃ a xs,v=.ref a/\aY K H a xs/\xs.length=n/\t xs σ H Q
theorem S7 {X:Cx}{pos:Pos}{es:List Expr}{k:Nat}{t:GS}{n:Nat} (hc:X.calm=true) (h:NV X es t)
  (hn:(assignEach es X.env).length=n:=by exact wr0) (sk:(assignEach es X.env).findIdx? (·.1)=none:=by exact wr0):PG X (.Tuple es k pos) (VL X.K n t):=by
 intro gn s σ H v u Q I r hw;obtain⟨a,xs,e1,hq,hl,hw⟩:=hw;subst e1;cases r;obtain⟨gx,rv,ht,hz⟩:=I.list hq;rw[assign_Tuple];refine Æ (ł ?_);unfold unpack;have e:(assignEach es X.env).length=gx.toArray.size:=by simp [hn,<- hl,rv.length]
 rw[e,sk];refine Æ (ô (PySem.W.kun_itemsOf (I.ok.hd hc) ht.isList λ h' hx=>?_));have I1:Inv X gn σ H { s with heap:=h' }:=I.kept (t':=s.toks) λ b o e=>hx b o (é (Ö e)) e;exact h gn _ σ H xs _ Q I1 (by simpa using rv) hw
theorem zD {X:Cx}{K:Ç}{pos:Pos}{es:List Expr}{k:Nat}{t:GS}{n:Nat} (hK:X.K=K) (hc:X.calm=true) (h:NV X es t)
  (hn:(assignEach es X.env).length=n:=by exact wr0) (sk:(assignEach es X.env).findIdx? (·.1)=none:=by exact wr0):PG X (.Tuple es k pos) (VL K n t):=by
 subst hK;exact S7 hc h hn sk
end L2
namespace L2
open PySem PySem.Spec PyProof.Rows TwZ
section
variable {X:Cx}
theorem OK {st:Stmt}:PS X st (λ _ _ _=>False):=λ _ _ _ _ _ _ h=>h.elim
theorem dF {e:Expr}{f:Str}{pos:Pos}{ta:TE} (hK:X.K=K) (he:PE X e ta) (hb:attributeBase e f X.env (eval e X.env)=eval e X.env):PE X (.Attribute e f pos) (UJ K ta f):=by subst hK;exact S9 he hb
theorem qH {o value:Expr}{f:Str}{pos pos':Pos}{ta tv:TE} (hK:X.K=K) (ha:PE X o ta) (hv:PE X value tv) (hs:swapsWith value (some (.Attribute o f pos')) pos.line X.env=pure false):PS X (.Assign [.Attribute o f pos'] value pos) (UR K ta tv f):=by subst hK;exact S3 ha hv hs
theorem LN (hK:X.K=K):iW X (binaryOp .Add) (QS K):=by subst hK;exact OZ
theorem uC (l:Á) (items:Array À) (n:Nat) (x:Int) (u:Tok) (dd:Option Á) (sl:Array (Option À)) (c0:¬ (decide (x < -(2 ^ 63)) || decide (x ≥ 2 ^ 63))=true) (c1:¬ (items.isEmpty || x == 1)=true)
  (c2:(decide (x<=0) || items.isEmpty)=true) :
  Meets (Builtin.«tuple.__mul__» ⟨[.ref l,.int x u],[]⟩) (λ _ R s=>s.heap.get? l=some { cls:=.type "tuple",dict:=dd,data:=.seq items n,slots:=sl }/\
   R (.ok (.ret (.ref s.heap.objs.size))) { s with heap:=s.heap.push { cls:=.type "tuple",data:=.seq #[] } }):=
 .of_wp λ prog w A R s h=>by
  obtain⟨hp,g,d,tk,os⟩:=s;obtain⟨hl,h⟩:=h
  wp_walk
  rw[Ä c0]
  wp_walk
  all_goals (try rw[Ä c1])
  wp_walk
  all_goals (try rw[Å c2])
  wp_walk
  exact⟨_,rfl,h⟩
def QN (K:Ç):R2:=λ x y H Q=>∃ (l:Á) (k:Int) (xs:List V),x=.ref l/\y=.int k/\bS K H l xs/\0<=k/\k < 1000000/\xs≠[]/\xs.length<=10/\
 ∀ p H',aJ H H'->bS K H' p (List.replicate k.toNat xs).flatten->Q (.ref p) H'
theorem OY:iW X (binaryOp .Mult) (QN X.K):=by
 intro gn s σ H x y v u Q I rx ry h;obtain⟨l,k,xs,rfl,rfl,hq,h1,h2,kr,Ei,q⟩:=h
 by_cases hk:1<=k
 ·exact FV gn s σ H _ _ v u Q I rx ry ⟨l,k,xs,rfl,rfl,hq,hk,h2,kr,Ei,q⟩
 ·have hk0:k=0:=by lia
  subst hk0;cases rx;obtain⟨t,rfl⟩:=ry;obtain⟨gx,r,ht,z⟩:=I.tuple hq;have ij:=r.length;obtain⟨⟨cls,dd,data,sl⟩,e,hc,n,hd⟩:=id ht;simp only at hc hd;subst hc hd;refine ų (T := "tuple") (U := "int") (by decide) ⟨_,e,rfl⟩ (λ s'=>Ĺ s' 0 t) kA F.fills_int_mul ŀ qE F.slot_int_index.lookup
   (ą ŀ (Ĺ s 0 t) agc (afu _ _) (mY 0 t l gx.toArray n dd sl) ⟨e,rfl,⟨_,e,rfl⟩,?_⟩)
  have Ba:gx≠[]:=λ z=>by rw[z] at ij;exact kr (ý ij)
  have yo:gx.toArray.isEmpty=false:=by cases gx with
   | nil=>exact absurd rfl Ba
   | cons a r=>rfl
  refine ą age ⟨_,e,rfl⟩ afv (afl _ _) (uC l gx.toArray n 0 t dd sl (by decide) (by rw[yo];decide) (by simp)) ⟨e,?_⟩;have I1:=I.laid (a:=s.heap.objs.size) (o:=.tup []) (h':=s.heap.push { cls:=.type "tuple",data:=.seq #[] }) (t':=s.toks)
   (λ _ _ q=>Î _ q) (Í _) ⟨ê _,[],.nil,⟨_,Ü _ rfl,rfl,0,rfl⟩⟩
  exact⟨.ref _,_,I1,rfl,q _ _ (È I.fresh) (Ò aE)⟩
theorem LH (hK:X.K=K):iW X (binaryOp .Mult) (QN K):=by subst hK;exact OY
end
structure MCal (P:Ã) (w:World) (K:Ç) (mg:Str->Option À) (base:Heap) (C:Á) (m:Str) (ps:List Str) (k:Nat) (sp:Sp) (f:Á) (fd:FuncData):Prop where
 cls:Cls K C
 mt:Meth K C m f
 ok:FnOk P w K mg base gP k f fd ps sp
 bd:gQ K fd ps []
structure MkCal (P:Ã) (w:World) (K:Ç) (mg:Str->Option À) (base:Heap) (C:Á) (x:Str) (ps:List Str) (k:Nat) (sp:Sp) (f:Á) (fd:FuncData):Prop where
 make:Mk K C f
 ok:FnOk P w K mg base gP k f fd ps sp
 mg:mg x=some (.ref C)
 bd:gQ K fd ps []
def iI (fp:List Á) (H H':Hp):Prop:=∀ b o,b∉fp->H b=some o->H' b=some o
theorem iI.trans {fp:List Á}{H H1 H2:Hp} (a:iI fp H H1) (b:iI fp H1 H2):iI fp H H2:=λ c o hc h=>b c o hc (a c o hc h)
theorem aJ.butL {fp:List Á}{H H':Hp} (a:aJ H H'):iI fp H H':=λ b o _ h=>a b o h
theorem iI.upd {fp:List Á}{H:Hp}{a:Á}{o:HO} (ha:a∈fp):iI fp H (upd H a o):=λ b u hb h=>by
 have ne:b≠a:=λ e=>hb (by rw[e];exact ha);rw[aM ne];exact h
theorem iI.ts {K:Ç}{fp:List Á}{H H':Hp} (a:iI fp H H') (hm:∀ b∈fp,lS (H b)):bW K H H':=by
 intro b xs h;have ne:∀ {o:HO},H b=some o->¬ lS (some o)->b∉fp:=λ e n z=>by
  have:=hm b z;rw[e] at this;exact n this
 rcases h with (h | ⟨o,h⟩) | h
 ·exact .inl (.inl (a _ _ (ne h (λ z=>z)) h))
 ·exact .inl (.inr ⟨o,a _ _ (ne h (λ z=>z)) h⟩)
 ·exact .inr h
section
variable {g:TG}{tc:TT}{te:TE}{fr:List (Option Nat)}{σ:St}{H1:Hp}{Q:Á->Hp->Prop}
theorem PR {t1 t2:Bool}{a1 a2:Á}{xs ys:List V}{n:Nat} (h1:xs.length=n) (h2:ys.length=n) (Pv:Á->Nat->List V->St->Hp->Prop)
  (hq:∀ D i r σ H,Pv D i r σ H->jK K H t1 a1 xs/\jK K H t2 a2 ys)
  (h0:∀ D,H1 D=none->Pv D 0 [] (EM fr σ) (upd H1 D (.lst []))) (jl:∀ D r ac H',Pv D n r ac H'->Q D H')
  (pi:∀ D i x y r ac H' T,xs[i]? = some x->ys[i]? = some y->Pv D i r ac H'->H' T=none->g (.ref T) ac (upd H' T (.tup [x,y])) λ aq H3=>tc aq H3 λ b H4=>
    if b=true then te aq H4 λ y H5=>H5 D=some (.lst r)/\r.length < PySem.sizeLine/\Pv D (i+1) (r++[y]) aq (upd H5 D (.lst (r++[y])))
    else Pv D (i+1) r aq H4):j6 (QC K t1 t2 a1 a2) g tc te fr σ H1 Q:=by
 refine rY (n:=n) Pv h0 (λ D r ac H' p=>?_) λ D i r ac H' hi p=>?_
 ·obtain⟨q1,q2⟩:=hq D _ r ac H' p;exact⟨⟨xs,ys,q1,q2,.inl (by lia)⟩,jl D r ac H' p⟩
 ·obtain⟨q1,q2⟩:=hq D _ r ac H' p;refine⟨⟨xs,ys,xs[i]'(by lia),ys[i]'(by lia),q1,q2,by simp,by simp⟩,?_⟩;rintro v H2 ⟨T,x,y,hT,rfl,e1,e2,rfl⟩;exact pi D i x y r ac H' T (e1 xs q1) (e2 ys q2) p hT
end
end L2
namespace Tw
open PySem L2
structure Mom where
 tick:Int
 held:List Int
 coming:List Int
 doors:List Bool
 poured:List Int
 came:Int
 ground:Int
def mV (m:Mom):L2.D:=.tup [.int m.tick,AL m.held m.coming m.doors,.tup (m.poured.map L2.D.int),.int m.came,.int m.ground]
def cN:List nE->List Bool->Int
 | s::ss,d::ds=>(if d=true then s.2.1 else 0)+cN ss ds
 | _,_=>0
structure MomOk (net:Net) (m:Mom):Prop where
 st:StOk net m.held m.coming m.doors
 pl:m.poured.length=net.vs.length
def Mom.tk (net:Net) (m:Mom):Tick:=rE net m.held m.coming m.poured m.doors
def Mom.step (net:Net) (m:Mom):Mom:=
 { tick:=m.tick+1,held:=(m.tk net).held,coming:=(m.tk net).coming,doors:=(m.tk net).doors,poured:=dR net.vs.length,came:=m.came+(m.poured.sum+cN net.sps m.doors),ground:=m.ground+(m.tk net).ground }
def Mom.pour (m:Mom) (v a:Int):Mom:={ m with poured:=m.poured.set v.toNat (m.poured.getD v.toNat 0+a) }
def gW (net:Net) (m:Mom):Nat->Mom
 | 0=>m
 | i+1=>(gW net m i).step net
def uI (net:Net) (m:Mom):List (Int×Nat):=(m.tk net).tip.map λ k=>(m.tick,k)
def gS (net:Net) (m:Mom):Nat->List (Int×Nat)
 | 0=>[]
 | i+1=>gS net m i++uI net (gW net m i)
inductive Row where
 | pour (v a:Int)
 | go (many:Int) (tips:List (Int×Nat))
def AY (t:Int×Nat):L2.D:=.tup [.int t.1,.int (t.2:Int)]
def OB:Row->L2.D
 | .pour v a=>.tup [.str "pour",.int v,.int a]
 | .go n ts=>.tup [.str "go",.int n,.tup (ts.map AY)]
structure RunS where
 net:Net
 rows:List Row
 pre:List Mom
 cur:Mom
 tips:List (List Int)
def addTip (ts:List (List Int)) (t:Int×Nat):List (List Int):=ts.set t.2 (ts.getD t.2 []++[t.1])
def RunS.pour (S:RunS) (v a:Int):RunS:={ S with rows:=S.rows++[.pour v a],pre:=S.pre++[S.cur],cur:=S.cur.pour v a }
def RunS.go (S:RunS) (k:Nat):RunS:={ S with rows:=S.rows++[.go (k:Int) (gS S.net S.cur k)],pre:=S.pre++[S.cur],cur:=gW S.net S.cur k,tips:=(gS S.net S.cur k).foldl addTip S.tips }
def E5 (net:Net):Mom:=⟨0,dR net.vs.length,dR net.vs.length,net.sps.map (·.2.2),dR net.vs.length,0,0⟩
def o0 (net:Net):RunS:=⟨net,[],[],E5 net,List.replicate net.vs.length []⟩
structure RunOk (S:RunS):Prop where
 nok:NetOk S.net
 cur:MomOk S.net S.cur
 tl:S.tips.length=S.net.vs.length
structure RunSz (S:RunS) (B:Nat):Prop where
 rows:S.rows.length<=B
 pre:S.pre.length<=B
 tips:∀ l∈S.tips,l.length<=B
theorem jS (n:Nat):(dR n).length=n:=by simp [dR]
theorem u9 {n:Nat} (h:1<=n):(0:Int)::dR (n - 1)=dR n:=by
 obtain⟨k,rfl⟩:∃ k,n=k+1:=⟨n - 1,by lia⟩;simp [dR,ġ]
theorem PC (net:Net):MomOk net (E5 net):=⟨⟨jS _,jS _,by simp [E5]⟩,jS _⟩
theorem Mom.hs_len {net:Net}{m:Mom} (h:MomOk net m):(cI net m.held m.coming m.poured m.doors).length=net.vs.length:=by
 unfold cI;rw[nS,nC h.st.h h.st.c h.pl]
theorem MomOk.step {net:Net}{m:Mom} (h:MomOk net m):MomOk net (m.step net):=
 ⟨⟨oJ _ _ (Mom.hs_len h).symm,by show (fC _ _).length=_;unfold fC;simp,by show (eP _ _ _).length=_;rw[oY];exact h.st.d⟩,jS _⟩
theorem MomOk.pour {net:Net}{m:Mom} (h:MomOk net m) (v a:Int):MomOk net (m.pour v a):=⟨h.st,by show (List.set _ _ _).length=_;rw[Ė];exact h.pl⟩
theorem qQ {net:Net}{m:Mom} (h:MomOk net m):∀ i,MomOk net (gW net m i)
 | 0=>h
 | i+1=>(qQ h i).step
theorem UC {net:Net}{m:Mom}{k:Nat} (h:k∈(m.tk net).tip):k < net.vs.length:=by
 have:=uH _ _ _ _ (show k∈eK 0 net.vs _ from h);lia
theorem JY (net:Net) (m:Mom):(m.tk net).tip.length<=net.vs.length:=rC _ _ _
theorem EY {net:Net}{m:Mom}:∀ (i:Nat) (t:Int×Nat),t∈gS net m i->t.2 < net.vs.length
 | 0,t,h=>by simp [gS] at h
 | i+1,t,h=>by
  rcases ß.1 h with h | h
  ·exact EY i t h
  ·obtain⟨k,hk,rfl⟩:=ä.1 h;exact UC hk
theorem lY {net:Net}{m:Mom} (nok:NetOk net):∀ (i:Nat),(gS net m i).length<=12 * i
 | 0=>by simp [gS]
 | i+1=>by
  have h1:=lY (m:=m) nok i;have h2:=JY net (gW net m i);have h3:=nok.hi;show (gS net m i++uI net (gW net m i)).length<=_;rw[â];unfold uI;rw[Ê];lia
theorem nB:∀ (l:List (Int×Nat)) (ts:List (List Int)),(l.foldl addTip ts).length=ts.length
 | [],_=>rfl
 | t::l,ts=>by show (l.foldl addTip (addTip ts t)).length=_;rw[nB l];unfold addTip;simp
theorem RunOk.pour {S:RunS} (h:RunOk S) (v a:Int):RunOk (S.pour v a):=⟨h.nok,h.cur.pour v a,h.tl⟩
theorem RunOk.go {S:RunS} (h:RunOk S) (k:Nat):RunOk (S.go k):=⟨h.nok,qQ h.cur k,by show (List.foldl addTip S.tips (gS S.net S.cur k)).length=_;rw[nB];exact h.tl⟩
theorem FL {net:Net} (nok:NetOk net):RunOk (o0 net):=⟨nok,PC net,by simp [o0]⟩
def CI (np:V) (R M T:Á):List (Str×V):=[("net",np),("rows",.ref R),("moments",.ref M),("tip_ticks",.ref T)]
theorem A4 {np:V}{R M T:Á}:(CI np R M T).lookup ("net" : Str)=some np:=rfl
theorem G8 {np:V}{R M T:Á}:(CI np R M T).lookup ("rows" : Str)=some (.ref R):=rfl
theorem dZ {np:V}{R M T:Á}:(CI np R M T).lookup ("moments" : Str)=some (.ref M):=rfl
theorem G7 {np:V}{R M T:Á}:(CI np R M T).lookup ("tip_ticks" : Str)=some (.ref T):=rfl
structure RunC (K:Ç) (C:Á) (H:Hp) (r:Á) (S:RunS) (dx:Á) (np:V) (R M T:Á) (ts:List Á) (rs ms:List V) (mv:V):Prop where
 ins:H r=some (.ins C dx (CI np R M T))
 net:Is K H (iT S.net) np
 hR:H R=some (.lst rs)
 lR:IsL K H (S.rows.map OB) rs
 hM:H M=some (.lst (ms++[mv]))
 lM:IsL K H (S.pre.map mV) ms
 cM:Is K H (mV S.cur) mv
 hT:H T=some (.lst (ts.map V.ref))
 tl:ts.length=S.tips.length
 ti:∀ (i:Nat) (t:Á) (l:List Int),ts[i]? = some t->S.tips[i]? = some l->H t=some (.lst (l.map V.int))
 nd:(R::M::T::ts).Nodup
 ok:RunOk S
def cB (K:Ç) (C:Á) (H:Hp) (r:Á) (S:RunS) (fp:List Á):Prop:=∃ dx np R M T ts rs ms mv,RunC K C H r S dx np R M T ts rs ms mv/\fp=R::M::T::ts
structure RunTx (K:Ç) (C:Á):Prop where
 cls:Cls K C
 net:jA K C "net"
 rows:jA K C "rows"
 moments:jA K C "moments"
 tips:jA K C "tip_ticks"
section
variable {r dx R M T:Á}{H H':Hp}{S:RunS}{fp:List Á}{np mv:V}{ts:List Á}{rs ms:List V}
theorem RunC.lists (c:RunC K C H r S dx np R M T ts rs ms mv):∀ b∈R::M::T::ts,∃ xs,H b=some (.lst xs):=by
 intro b hb;rcases Ñ.1 hb with rfl | hb
 ·exact⟨_,c.hR⟩
 rcases Ñ.1 hb with rfl | hb
 ·exact⟨_,c.hM⟩
 rcases Ñ.1 hb with rfl | hb
 ·exact⟨_,c.hT⟩
 obtain⟨i,hi,rfl⟩:=List.mem_iff_getElem.1 hb;have hl:i < S.tips.length:=by rw[<- c.tl];exact hi
 exact⟨_,c.ti i ts[i] S.tips[i] (by simp) (by simp)⟩
theorem cB.lists (c:cB K C H r S fp):∀ b∈fp,∃ xs,H b=some (.lst xs):=by
 obtain⟨dx,np,R,M,T,ts,rs,ms,mv,c,rfl⟩:=c;exact c.lists
theorem cB.mut (c:cB K C H r S fp):∀ b∈fp,lS (H b):=λ b hb=>by
 obtain⟨xs,e⟩:=c.lists b hb;rw[e];exact trivial
theorem cB.notfp (c:cB K C H r S fp) {b:Á} (h:H b=none):b∉fp:=λ hb=>by
 obtain⟨xs,e⟩:=c.lists b hb;rw[e] at h;cases h
theorem RunC.r_notin (c:RunC K C H r S dx np R M T ts rs ms mv):r∉R::M::T::ts:=λ hb=>by
 obtain⟨xs,e⟩:=c.lists r hb;rw[c.ins] at e;cases e
theorem RunC.keep (c:RunC K C H r S dx np R M T ts rs ms mv) (t:bW K H H') (k:∀ b∈r::R::M::T::ts,H' b=H b):RunC K C H' r S dx np R M T ts rs ms mv where
 ins:=by rw[k r (by simp)];exact c.ins
 net:=Ï t _ _ c.net
 hR:=by rw[k R (by simp)];exact c.hR
 lR:=Õ t _ _ c.lR
 hM:=by rw[k M (by simp)];exact c.hM
 lM:=Õ t _ _ c.lM
 cM:=Ï t _ _ c.cM
 hT:=by rw[k T (by simp)];exact c.hT
 tl:=c.tl
 ti:=λ i t l h1 h2=>by rw[k t (by have:=Ó h1;simp [this])];exact c.ti i t l h1 h2
 nd:=c.nd
 ok:=c.ok
theorem cB.same (c:cB K C H r S fp) (s:aJ H H'):cB K C H' r S fp:=by
 obtain⟨dx,np,R,M,T,ts,rs,ms,mv,c,rfl⟩:=c;refine⟨dx,np,R,M,T,ts,rs,ms,mv,c.keep s.ts λ b hb=>?_,rfl⟩;rcases Ñ.1 hb with rfl | hb
 ·rw[s _ _ c.ins,c.ins]
 ·obtain⟨xs,e⟩:=c.lists b hb;rw[s _ _ e,e]
theorem cB.but {t:Á} (c:cB K C H r S fp) (s:d4 t H H') (hm:lS (H t)) (h1:t≠r) (h2:t∉fp):cB K C H' r S fp:=by
 obtain⟨dx,np,R,M,T,ts,rs,ms,mv,c,rfl⟩:=c;refine⟨dx,np,R,M,T,ts,rs,ms,mv,c.keep (s.ts hm) λ b hb=>?_,rfl⟩;rcases Ñ.1 hb with rfl | hb
 ·rw[s _ _ (Ne.symm h1) c.ins,c.ins]
 ·obtain⟨xs,e⟩:=c.lists b hb;rw[s _ _ (λ z=>h2 (by rw[<- z];exact hb)) e,e]
theorem jO {m:Mom}{v:V} (h:Is K H (mV m) v):∃ (a po:Á) (st:V),v=.ref a/\bS K H a [.int m.tick,st,.ref po,.int m.came,.int m.ground]/\Is K H (AL m.held m.coming m.doors) st/\bS K H po (m.poured.map V.int):=by
 obtain⟨a,zs,rfl,q,l⟩:=(show Is K H (.tup [.int m.tick,AL m.held m.coming m.doors,.tup (m.poured.map L2.D.int),.int m.came,.int m.ground]) v from h).un;obtain⟨x1,r,rfl,h1,l⟩:=l.un;obtain⟨x2,r,rfl,h2,l⟩:=l.un;obtain⟨x3,r,rfl,h3,l⟩:=l.un;obtain⟨x4,r,rfl,h4,l⟩:=l.un;obtain⟨x5,r,rfl,h5,l⟩:=l.un;have:=l.un0;subst this;have:=h1.ui;subst this;have:=h4.ui;subst this;have:=h5.ui;subst this;obtain⟨po,xs,rfl,q1,l1⟩:=h3.un;have:=l1.ints;subst this;exact (VN a po x2 rfl ⟨q,h2,q1⟩)
theorem E4 {m:Mom}{a po:Á}{st:V} (q:bS K H a [.int m.tick,st,.ref po,.int m.came,.int m.ground]) (hs:Is K H (AL m.held m.coming m.doors) st) (hp:bS K H po (m.poured.map V.int)):Is K H (mV m) (.ref a):=
 Ý q (.cons (Is.i _) (.cons hs (.cons (Ý hp (Ű _)) (.cons (Is.i _) (.cons (Is.i _) .nil)))))
end
def nI (K:Ç):Sp:=λ vs H Q _=>∃ (x:V) (net:Net) (v:Int),vs=[x,.int v]/\Is K H (iT net) x/\NetOk net/\∀ p H',aJ H H'->bS K H' p ((v::dR (net.vs.length - 1)).map V.int)->Q (.ref p) H'
theorem DZ (F:Fun K "pouring" "pouring" (aU 13) f fd) (T:Txt mg):FnOk P w K mg base gP 1 f fd ["net","amount"] (nI K):=by
 refine F.ok ["net","amount","vessels","spouts"] λ sc iu A outer s H vs Q E hr h=>?_
 ·obtain⟨x,net,v,rfl,hx,nok,k⟩:=h;refine⟨_,(aF (bK (pv 0) (bC (K:=K) (n:=2) rfl rfl (aH (gL 2 sc.nd) (aH (gL 3 sc.nd) bA))))
   (aI (aO (aS (LN (K:=K) rfl) (bN (aB (pv 1) aD)) (aS (LH (K:=K) rfl) (bN (aB aG aD)) (aS gI (oQ K T.b_len (pv 2)) aG)))))),?_⟩
  obtain⟨a,b,c,xs,ys,rfl,q,q1,l1,q2,l2⟩:=j5 hx;have ue:xs.length=net.vs.length:=by rw[l1.length,Ê]
  have n1:=nok.lo;have n2:=nok.hi;refine⟨_,rfl,a,_,rfl,q,rfl,_,_,rfl,_,_,rfl,rfl,?_⟩;refine (bU _ rfl ⟨(sz0 1),λ y hy=>⟨(sz0 1),λ z hz=>?_⟩⟩);have m1:=È (o:=HO.tup [.int v]) hy;have m2:=È (o:=HO.tup [.int 0]) hz;refine (bU _ rfl (eB b xs rfl ⟨.inr (m2.tup (m1.tup q1)),(eB _ _ rfl ⟨rfl,(VN z _ [.int 0] rfl ⟨rfl,Ò aE,by lia,by lia,by simp,by simp,λ e H1 oo qe=>?_⟩)⟩)⟩));have en:(((xs.length:Nat):Int) - 1).toNat=net.vs.length - 1:=by rw[ue];lia
  rw[en,OC] at qe;refine⟨y,e,[.int v],_,rfl,rfl,oo.tup (m2.tup (Ò aE)),qe,by simp,bD (by simp;lia) |> Ĳ,λ he=>?_,λ _ p hp=>?_⟩
  ·refine k _ _ ((m1.trans m2).trans oo) ?_;have e0:dR (net.vs.length - 1)=[]:=List.map_eq_nil_iff.mp he;rw[e0];exact oo.tup (m2.tup (Ò aE))
  ·exact k _ _ (((m1.trans m2).trans oo).trans (È hp)) (Ò aE)
def uV (K:Ç):Sp:=λ vs H Q _=>∃ (x y:V) (z:Á) (net:Net) (held coming poured:List Int) (doors:List Bool),vs=[x,y,.ref z]/\Is K H (iT net) x/\Is K H (AL held coming doors) y/\bS K H z (poured.map V.int)/\
 NetOk net/\StOk net held coming doors/\∀ H',aJ H H'->Q (.int (poured.sum+cN net.sps doors)) H'
theorem qK:∀ (ss:List nE) (ds:List Bool) (i:Nat) (s:nE) (d:Bool),ss[i]? = some s->ds[i]? = some d->cN (ss.take (i+1)) (ds.take (i+1))=cN (ss.take i) (ds.take i)+(if d=true then s.2.1 else 0)
 | [],_,i,_,_,h,_=>by simp at h
 | _::_,[],i,_,_,_,h=>by simp at h
 | a::ss,b::ds,0,s,d,h1,h2=>by simp at h1 h2;subst h1 h2;simp [cN]
 | a::ss,b::ds,i+1,s,d,h1,h2=>by
  simp only [Ľ,cN];rw[qK ss ds i s d (by simpa using h1) (by simpa using h2)];lia
theorem E1 (F:Fun K "came_in" "came_in" (aU 15) f fd) (T:Txt mg):FnOk P w K mg base gP 1 f fd ["net","state","poured"] (uV K):=by
 refine F.ok ["net","state","poured","vessels","spouts","held","coming","doors"] λ sc iu A outer s H vs Q E hr h=>?_
 ·obtain⟨x,y,z,net,held,coming,poured,doors,rfl,hx,hy,qz,nok,xt,k⟩:=h;refine⟨_,(aF (bK (pv 0) (bC (K:=K) (n:=2) rfl rfl (aH (gL 3 sc.nd) (aH (gL 4 sc.nd) bA))))
   (aF (bK (pv 1) (bC (K:=K) (n:=3) rfl rfl (aH (gL 5 sc.nd) (aH (gL 6 sc.nd) (aH (gL 7 sc.nd) bA)))))
   (aI (aO (aS cG (bE (nV (K:=K) rfl rfl) rfl T.b_sum ŝ (aB (pv 2) aD)) (bE (nV (K:=K) rfl rfl) rfl T.b_sum ŝ (aB (gN (λ _ _ h=>h) rfl (LcOk.mk (N':=["target","flow","first_door","door"]) (fr:=[none,none,none,none]) rfl trivial rfl rfl rfl rfl rfl trivial) (B8 (K:=K) rfl rfl T.b_zip (aB (pv 4) (aB (pv 7) aD))) (λ _ _ _=>(bC (K:=K) (n:=2) rfl rfl (aH (bC (K:=K) (n:=3) rfl rfl (aH (gC 0 ["target","flow","first_door","door"]) (aH (gC 1 ["target","flow","first_door","door"]) (aH (gC 2 ["target","flow","first_door","door"]) bA)))) (aH (gC 3 ["target","flow","first_door","door"]) bA)))) (λ _ _ _=>ON (cS (pv 3))) (λ _ _ _=>(pv 1))) aD))))))),?_⟩
  obtain⟨a,b,c,xs,ys,rfl,q,q1,l1,q2,l2⟩:=j5 hx;obtain⟨ay,b1,b2,b3,rfl,qy,qb1,qb2,qb3⟩:=uL hy;have Ez:ys.length=net.sps.length:=by rw[l2.length,Ê]
  have n3:=nok.sp;refine⟨_,rfl,a,_,rfl,q,rfl,_,_,rfl,_,_,rfl,rfl,?_⟩;refine⟨_,rfl,ay,_,rfl,qy,rfl,_,_,rfl,_,_,rfl,_,_,rfl,rfl,?_⟩;refine⟨_,rfl,true,z,_,rfl,qz,?_⟩;refine⟨_,rfl,_,rfl,true,true,c,b3,rfl,⟨_,q2⟩,⟨_,qb3⟩,PR (K:=K) (t1:=true) (t2:=true) (xs:=ys) (ys:=doors.map V.bl) (n:=net.sps.length) Ez (by rw[Ê];exact xt.d)
   (λ D i r ac H'=>H D=none/\aJ H H'/\H' D=some (.lst r)/\(∃ ns:List Int,r=ns.map V.int/\ns.sum=cN (net.sps.take i) (doors.take i)/\ns.length<=i)/\∃ u1 u2 u3 u4,ac=[u1,u2,u3,u4])
   (λ D i r ac H' p=>⟨p.2.1.tup q2,p.2.1.tup qb3⟩) (λ D hD=>⟨hD,È hD,aE,⟨[],rfl,by simp [cN],by simp⟩,none,none,none,none,rfl⟩) ?_ ?_⟩
  rotate_left
  ·rintro D i x y r ac H2 Tt hx hy ⟨hD,sm,iw,⟨ns,rfl,yj,Ck⟩,u1,u2,u3,u4,rfl⟩ hT;obtain⟨sp,rh,sa,rfl,qs⟩:=yD l2 hx;have vn:=(æ.mp rh).1;obtain⟨d,Qh,rfl⟩:∃ d,doors[i]? = some d/\y=V.bl d:=by
    rw[Ø] at hy;cases hd:doors[i]? with
    | none=>rw[hd] at hy;cases hy
    | some d=>rw[hd] at hy;cases hy;exact⟨d,rfl,rfl⟩
   have mT:=È (o:=HO.tup [.ref sa,.bl d]) hT;have hs:=qK net.sps doors i sp d rh Qh;refine⟨Tt,_,rfl,Ò aE,rfl,_,_,rfl,sa,_,rfl,mT.tup (sm.tup qs),rfl,_,_,rfl,_,_,rfl,_,_,rfl,rfl,_,_,rfl,rfl,?_⟩;refine⟨_,rfl,_,rfl,?_⟩;have xu:=sm.trans mT;cases d with
   | false=>
    refine cX ⟨hD,xu,mT _ _ iw,⟨ns,rfl,by rw[hs,yj];simp,by lia⟩,_,_,_,_,rfl⟩
   | true=>
    refine eX ⟨_,rfl,mT _ _ iw,bD (by simp;lia),hD,xu.put hD,aE,⟨ns++[sp.2.1],by rw[Ð];rfl,by rw[hs,ĭ,yj];simp,by simp;lia⟩,_,_,_,_,rfl⟩
  ·rintro D r ac H2 ⟨hD,sm,iw,⟨ns,rfl,yj,Ck⟩,_⟩;refine⟨false,D,_,rfl,É iw,_,_,rfl,rfl,?_⟩;rw[yj,õ (Í _),õ (ķ xt.d)];exact k _ sm
def uT (K:Ç):Sp:=λ vs H Q _=>∃ (x y:V) (net:Net) (m:Mom),vs=[x,y]/\Is K H (iT net) x/\Is K H (mV m) y/\NetOk net/\MomOk net m/\
 ∀ p p1 p2 H',aJ H H'->bS K H' p [p1,.ref p2]->Is K H' (mV (m.step net)) p1->bS K H' p2 ((m.tk net).tip.map λ (k:Nat)=>V.int (k:Int))->Q (.ref p) H'
theorem rR (F:Fun K "moment_behind" "moment_behind" (aU 27) f fd) (T:Txt mg) (ow:Callee P w K mg base "tick_behind" ["net","state","poured"] 4 (DK K) f1 je)
  (ux:Callee P w K mg base "came_in" ["net","state","poured"] 1 (uV K) f2 ju) (mf:Callee P w K mg base "pouring" ["net","amount"] 1 (nI K) f3 pr):FnOk P w K mg base gP 5 f fd ["net","moment"] (uT K):=by
 refine F.ok ["net","moment","tick","state","poured","came","grounded","behind","tipped","lost"] λ sc iu A outer s H vs Q E hr h=>?_
 ·obtain⟨x,y,net,m,rfl,hx,hy,nok,mr,k⟩:=h;refine⟨_,(aF (bK (pv 1) (bC (K:=K) (n:=5) rfl rfl (aH (gL 2 sc.nd) (aH (gL 3 sc.nd) (aH (gL 4 sc.nd) (aH (gL 5 sc.nd) (aH (gL 6 sc.nd) bA)))))))
   (aF (bK (bZ ow hr (aB (pv 0) (aB (pv 3) (aB (pv 4) aD)))) (bC (K:=K) (n:=3) rfl rfl (aH (gL 7 sc.nd) (aH (gL 8 sc.nd) (aH (gL 9 sc.nd) bA)))))
   (aF (L7 (i:=5) sc.nd rfl (Or.inl rfl) (bZ ux hr (aB (pv 0) (aB (pv 3) (aB (pv 4) aD)))) EI)
   (aI (aO (bN (aB (bN (aB (aS cG (pv 2) aG) (aB (pv 7) (aB (bZ mf hr (aB (pv 0) (aB aG aD))) (aB (pv 5) (aB (aS cG (pv 6) (pv 9)) aD)))))) (aB (pv 8) aD)))))))),?_⟩
  obtain⟨a,po,st,rfl,q,hs,hp⟩:=jO hy;refine⟨_,rfl,a,_,rfl,q,rfl,_,_,rfl,_,_,rfl,_,_,rfl,_,_,rfl,_,_,rfl,rfl,?_⟩;refine⟨_,rfl,_,rfl,_,rfl,x,st,po,net,m.held,m.coming,m.poured,m.doors,rfl,hx,hs,hp,nok,mr.st,mr.pl,λ f fxs H1 oo _ if1=>?_⟩;obtain⟨fa,gxs,ef,qf,lf⟩:=(show Is K H1 (.tup [AL (m.tk net).held (m.tk net).coming (m.tk net).doors,.tup ((m.tk net).tip.map λ (i:Nat)=>L2.D.int (i:Int)),.int (m.tk net).ground]) (.ref f) from if1).un;cases ef;obtain⟨y1,r,rfl,j1,lf⟩:=lf.un;obtain⟨y2,r,rfl,j2,lf⟩:=lf.un;obtain⟨y3,r,rfl,j3,lf⟩:=lf.un;have:=lf.un0;subst this;have:=j3.ui;subst this;obtain⟨p2,ts,rfl,qt,lt⟩:=j2.un;have et:ts=(m.tk net).tip.map λ (k:Nat)=>V.int (k:Int):=by
   have e1:((m.tk net).tip.map λ (i:Nat)=>L2.D.int (i:Int))=((m.tk net).tip.map λ (i:Nat)=>(i:Int)).map L2.D.int:=by rw[ü];rfl
   rw[e1] at lt;rw[lt.ints,ü];rfl
  subst et;refine⟨f,_,rfl,qf,rfl,_,_,rfl,_,_,rfl,_,_,rfl,rfl,?_⟩;refine⟨_,rfl,_,rfl,_,rfl,_,rfl,x,st,po,net,m.held,m.coming,m.poured,m.doors,rfl,Ï oo.ts _ _ hx,Ï oo.ts _ _ hs,oo.tup hp,nok,mr.st,λ H2 ka=>⟨_,_,rfl,rfl,?_⟩⟩;have s2:aJ H H2:=oo.trans ka;refine⟨_,rfl,_,_,rfl,rfl,_,rfl,_,rfl,x,net,0,rfl,Ï s2.ts _ _ hx,nok,λ z H3 ko qz=>?_⟩;rw[u9 nok.lo] at qz;refine⟨_,rfl,_,rfl,_,rfl,_,_,rfl,rfl,(sz0 5),λ p1 Lh=>?_⟩;have m1:aJ H3 _:=È (o:=HO.tup [.int (m.tick+1),y1,.ref z,.int (m.came+(m.poured.sum+cN net.sps m.doors)),.int (m.ground+(m.tk net).ground)]) Lh;refine⟨_,rfl,(sz0 2),λ p hpp=>?_⟩;have m2:aJ _ _:=È (o:=HO.tup [.ref p1,.ref p2]) hpp;refine k p (.ref p1) p2 _ (((s2.trans ko).trans m1).trans m2) (Ò aE) (E4 (m:=m.step net) (m2.tup (Ò aE)) ?_ ?_) ?_
  ·exact Ï m2.ts _ _ (Ï m1.ts _ _ (Ï ko.ts _ _ (Ï ka.ts _ _ j1)))
  ·exact m2.tup (m1.tup qz)
  ·exact m2.tup (m1.tup (ko.tup (ka.tup qt)))
theorem IsL.app {H:Hp}:∀ {ds es:List L2.D}{xs ys:List V},L2.IsL K H ds xs->L2.IsL K H es ys->L2.IsL K H (ds++es) (xs++ys)
 | [],_,_,_,h1,h2=>by have:=h1.un0;subst this;exact h2
 | d::ds,_,_,_,h1,h2=>by
  obtain⟨x,r,rfl,h,h1⟩:=h1.un;exact .cons h (IsL.app h1 h2)
theorem nJ {n:Nat} (h:n<=10000000):n < sizeLine:=by rw[à];lia
def oO (K:Ç):Sp:=λ vs H Q _=>∃ (x:V) (net:Net),vs=[x]/\Is K H (iT net) x/\NetOk net/\∀ p H',aJ H H'->Is K H' (mV (E5 net)) (.ref p)->Q (.ref p) H'
theorem tH (F:Fun K "first_moment" "first_moment" (aU 24) f fd) (T:Txt mg)
  (ox:Callee P w K mg base "first_state" ["net"] 1 (yR K) f1 je) (mf:Callee P w K mg base "pouring" ["net","amount"] 1 (nI K) f2 ju):FnOk P w K mg base gP 2 f fd ["net"] (oO K):=by
 refine F.ok ["net"] λ sc iu A outer s H vs Q E hr h=>?_
 ·obtain⟨x,net,rfl,hx,nok,k⟩:=h;refine⟨_,(aI (aO (bN (aB aG (aB (bZ ox hr (aB (pv 0) aD)) (aB (bZ mf hr (aB (pv 0) (aB aG aD))) (aB aG (aB aG aD)))))))),?_⟩;refine⟨_,rfl,x,net,rfl,hx,nok,λ st H4 uv sk=>⟨_,rfl,x,net,0,rfl,Ï uv.ts _ _ hx,nok,λ z H5 sm5 qz=>⟨(sz0 5),λ p hp=>?_⟩⟩⟩;rw[u9 nok.lo] at qz;have sp:aJ H5 (upd H5 p (.tup [.int 0,st,.ref z,.int 0,.int 0])):=È hp;exact k p _ ((uv.trans sm5).trans sp) (E4 (m:=E5 net) (Ò aE) (Ï sp.ts _ _ (Ï sm5.ts _ _ sk)) (sp.tup qz))
def rK (K:Ç):Sp:=λ vs H Q _=>∃ (x:V) (n:Nat) (m:Mom) (v a:Int),vs=[x,.int v,.int a]/\Is K H (mV m) x/\m.poured.length=n/\n<=12/\0<=v/\v < n/\
 ∀ p H',aJ H H'->Is K H' (mV (m.pour v a)) (.ref p)->Q (.ref p) H'
theorem rQ (F:Fun K "moment_poured" "moment_poured" (aU 25) f fd) (T:Txt mg):FnOk P w K mg base gP 1 f fd ["moment","vessel","amount"] (rK K):=by
 refine F.ok ["moment","vessel","amount","tick","state","poured","came","grounded","more"] λ sc iu A outer s H vs Q E hr h=>?_
 ·obtain⟨x,n,m,v,a,rfl,hx,pl,hnh,v0,v1,k⟩:=h;refine⟨_,(aF (bK (pv 0) (bC (K:=K) (n:=5) rfl rfl (aH (gL 3 sc.nd) (aH (gL 4 sc.nd) (aH (gL 5 sc.nd) (aH (gL 6 sc.nd) (aH (gL 7 sc.nd) bA)))))))
   (aF (pL 8 sc.nd (aQ (kI (K:=K) rfl) rfl T.b_list nX (aB (pv 5) aD)))
   (aF (FQ (pv 8) (pv 1) (xZ (K:=K) rfl) (pv 2) EI eO)
   (aI (aO (bN (aB (pv 3) (aB (pv 4) (aB (aQ (cT (K:=K) rfl) rfl T.b_tuple dB (aB (pv 8) aD)) (aB (pv 6) (aB (pv 7) aD))))))))))),?_⟩
  obtain⟨ma,po,st,rfl,q,hs,hp⟩:=jO hx;refine⟨_,rfl,ma,_,rfl,q,rfl,_,_,rfl,_,_,rfl,_,_,rfl,_,_,rfl,_,_,rfl,rfl,?_⟩;refine⟨_,rfl,po,_,rfl,.inr hp,λ l hl=>?_⟩;have jr:v.toNat < m.poured.length:=by lia
  have hg:m.poured[v.toNat]? = some (m.poured.getD v.toNat 0):=by rw[ĕ,Ċ jr];rfl
  refine⟨_,rfl,_,rfl,l,_,v,_,rfl,rfl,É aE,v0,by lia,(by rw[Ø,hg];rfl),_,rfl,_,_,rfl,rfl,l,_,v,v.toNat,rfl,rfl,aE,lF v0 (by rw[Ê];lia),?_⟩;have e2:upd (upd H l (.lst (m.poured.map V.int))) l (.lst ((m.poured.map V.int).set v.toNat (.int (m.poured.getD v.toNat 0+a))))=upd H l (.lst ((m.pour v a).poured.map V.int)):=by
   rw[O0];show _=upd H l (.lst ((m.poured.set v.toNat (m.poured.getD v.toNat 0+a)).map V.int));rw[į]
  rw[e2];have s1:aJ H (upd H l (.lst ((m.pour v a).poured.map V.int))):=È hl;have vk:upd H l (.lst ((m.pour v a).poured.map V.int)) l=some (.lst ((m.pour v a).poured.map V.int)):=aE;generalize upd H l (.lst ((m.pour v a).poured.map V.int))=H1 at s1 vk;refine⟨_,rfl,_,rfl,_,rfl,l,_,rfl,.inl ⟨É vk,λ p Fa=>⟨_,rfl,_,rfl,(sz0 5),λ p2 vt=>?_⟩⟩⟩;have m2:aJ H1 (upd H1 p (.tup ((m.pour v a).poured.map V.int))):=È Fa;have m3:aJ (upd H1 p (.tup ((m.pour v a).poured.map V.int))) (upd (upd H1 p (.tup ((m.pour v a).poured.map V.int))) p2 (.tup [.int m.tick,st,.ref p,.int m.came,.int m.ground])):=È vt;exact k p2 _ ((s1.trans m2).trans m3) (E4 (m:=m.pour v a) (Ò aE) (Ï m3.ts _ _ (Ï m2.ts _ _ (Ï s1.ts _ _ hs))) (m3.tup (Ò aE)))
def yL (K:Ç):Sp:=λ vs H Q _=>∃ (x y:V) (net:Net) (m:Mom) (n:Nat),vs=[x,y,.int (n:Int)]/\Is K H (iT net) x/\Is K H (mV m) y/\NetOk net/\MomOk net m/\n<=100000/\
 ∀ p p1 p2 oi H',aJ H H'->bS K H' p [p1,.ref p2]->Is K H' (mV (gW net m n)) p1->bS K H' p2 oi->IsL K H' ((gS net m n).map AY) oi->Q (.ref p) H'
theorem vO (F:Fun K "moment_gone" "moment_gone" (aU 26) f fd) (T:Txt mg) (mn:Callee P w K mg base "moment_behind" ["net","moment"] 5 (uT K) f1 je) :
  FnOk P w K mg base gP 6 f fd ["net","moment","many"] (yL K):=by
 refine F.ok ["net","moment","many","tipped","step","tick","numbers"] λ sc iu A outer s H vs Q E hr h=>?_
 ·obtain⟨x,y,net,m,n,rfl,hx,hy,nok,mr,hn,k⟩:=h;refine⟨_,(aF (pL 3 sc.nd (aZ aD))
   (aF (dY þ rfl (gM rfl T.b_range (aB (pv 2) aD)) (gL 4 sc.nd) (aF (zB (i:=5) sc.nd rfl (Or.inr rfl) (px K (pv 1) aG))
   (aF (bK (bZ mn hr (aB (pv 0) (aB (pv 1) aD))) (bC (K:=K) (n:=2) rfl rfl (aH (gL 1 sc.nd) (aH (gL 6 sc.nd) bA))))
   (aI (bQ (dH (K:=K) rfl ó PySem.F.slot_list_extend PySem.F.type_list_extend IF (pv 3) (aB (gN (λ _ _ h=>h) rfl (LcOk.mk (N':=["number","tick"]) (fr:=[none,some 5]) rfl ⟨rfl,trivial⟩ rfl rfl rfl rfl rfl ⟨⟨_,rfl,rfl,rfl,rfl⟩,trivial⟩) (cU (K:=K) rfl (pv 6)) (λ _ _ _=>(gC 0 ["number","tick"])) (λ _ _ _=>bX) (λ _ _ _=>(bN (aB (pv 1) (aB (pv 0) aD))))) aD)))))))
   (aI (aO (bN (aB (pv 1) (aB (aQ (cT (K:=K) rfl) rfl T.b_tuple dB (aB (pv 3) aD)) aD))))))),?_⟩
  refine⟨ê _,λ tl uu=>?_⟩;have s0:aJ H (upd H tl (.lst [])):=È uu;have g0:upd H tl (.lst []) tl=some (.lst []):=aE;generalize upd H tl (.lst [])=H0 at s0 g0;dsimp only [gZ];refine TF (λ ac H'=>aJ H H'/\(∃ oi,H' tl=some (.lst oi)/\IsL K H' ((gS net m n).map AY) oi)/\∃ mi,Is K H' (mV (gW net m n)) mi/\
   ∃ v4 v5 v6,ac=[some x,some mi,some (.int (n:Int)),some (.ref tl),v4,v5,v6]) (λ D' hD=>?_) ?_
  rotate_left
  ·rintro ac H1 ⟨s1,⟨oi,Eu,Ab⟩,mi,Cl,v4,v5,v6,rfl⟩;refine⟨_,rfl,_,rfl,tl,_,rfl,.inl ⟨É Eu,λ p2 vt=>⟨(sz0 2),λ p hp=>?_⟩⟩⟩;have m2:aJ H1 (upd H1 p2 (.tup oi)):=È vt;have m3:aJ (upd H1 p2 (.tup oi)) (upd (upd H1 p2 (.tup oi)) p (.tup [mi,.ref p2])):=È hp;exact k p mi p2 oi _ ((s1.trans m2).trans m3) (Ò aE) (Ï (m2.trans m3).ts _ _ Cl) (m3.tup (Ò aE)) (Õ (m2.trans m3).ts _ _ Ab)
  refine⟨_,rfl,_,rfl,by lia,by lia,?_⟩;refine nQ (lo:=0) (n:=n) (λ i ac H'=>aJ H H'/\(∃ oi,H' tl=some (.lst oi)/\IsL K H' ((gS net m i).map AY) oi)/\∃ mi,Is K H' (mV (gW net m i)) mi/\
   ∃ v4 v5 v6,ac=[some x,some mi,some (.int (n:Int)),some (.ref tl),v4,v5,v6]) ?_ ?_ ?_
  ·exact⟨s0,⟨[],g0,.nil⟩,y,Ï s0.ts _ _ hy,_,_,_,rfl⟩
  ·rintro i ac H1 hi ⟨s1,⟨oi,Eu,Ab⟩,mi,Cl,v4,v5,v6,rfl⟩;obtain⟨ma,po,st,rfl,q,hs,hp⟩:=jO Cl;refine⟨_,rfl,.inr (.inl ⟨ma,_,0,_,rfl,rfl,q,rfl,?_⟩)⟩;refine⟨_,rfl,_,rfl,x,.ref ma,net,gW net m i,rfl,Ï s1.ts _ _ hx,Cl,nok,qQ mr i,λ p p1 p2 H2 ka qp i1 q2=>?_⟩;refine⟨p,_,rfl,qp,rfl,_,_,rfl,_,_,rfl,rfl,?_⟩;have Lb:=ka _ _ Eu;have ltk:=JY net (gW net m i);have hn12:=nok.hi;refine⟨_,rfl,.inl ⟨rfl,_,É Lb⟩,?_⟩;refine⟨_,rfl,p2,rfl,⟨_,q2⟩,fN (K:=K) (a:=p2) (xs:=((gW net m i).tk net).tip.map λ (k:Nat)=>V.int (k:Int))
    (λ D j rr ac H'=>H2 D=none/\aJ H2 H'/\H' D=some (.lst rr)/\IsL K H' (((((gW net m i).tk net).tip.take j).map λ k=>((gW net m i).tick,k)).map AY) rr/\∃ u,ac=[u,some (.int (gW net m i).tick)])
    (λ D j rr ac H' p=>p.2.1.tup q2) (λ D hD=>⟨hD,È hD,aE,.nil,none,rfl⟩) ?_ ?_⟩
   rotate_left
   ·rintro D j x' rr ac H3 hx ⟨hD,ko,iw,lr,u,rfl⟩;rw[Ø] at hx;obtain⟨kk,hk,rfl⟩:=ð.mp hx;have Cj:=(æ.mp hk).1;have vq:rr.length<=12:=by rw[lr.length];simp;lia
    refine fL ?_;refine⟨_,rfl,_,rfl,(sz0 2),λ e he=>?_⟩;have me:=È (o:=HO.tup [.int (gW net m i).tick,.int (kk:Int)]) he;have nDe:D≠e:=aP iw he;have muD:lS (upd H3 e (.tup [.int (gW net m i).tick,.int (kk:Int)]) D):=by rw[me _ _ iw];exact trivial
    refine⟨me _ _ iw,bD (by lia),hD,(ko.trans me).put hD,aE,?_,_,rfl⟩;rw[dC hk,Ð,Ð];exact ď (Ý (ds:=[.int (gW net m i).tick,.int (kk:Int)]) (ć (K:=K) å muD _ _ (Ò aE)) (.cons (Is.i _) (.cons (Is.i _) .nil))) (Õ (me.ts.trans (ć å muD)) _ _ lr)
   ·rintro D rr ac H3 ⟨hD,ko,iw,lr,_⟩;rw[Ê,ø] at lr;have Lc:=ko _ _ Lb;have l1:oi.length<=12 * i:=by rw[Ab.length,Ê];exact lY nok i
    have l2:rr.length<=12:=by rw[lr.length];simp;lia
    refine⟨tl,D,_,_,rfl,rfl,Lc,iw,Ĳ (nJ (by lia)),?_⟩;have mu3:lS (H3 tl):=by rw[Lc];exact trivial
    have Cm:bW K H3 (upd H3 tl (.lst (oi++rr))):=ć å mu3;have Cn:=ka.trans ko;refine⟨(s1.trans Cn).put uu,⟨_,aE,?_⟩,p1,Ï Cm _ _ (Ï ko.ts _ _ i1),_,_,_,rfl⟩;show IsL K _ ((gS net m i++uI net (gW net m i)).map AY) _;rw[Ð];exact IsL.app (Õ (Cn.ts.trans Cm) _ _ Ab) (Õ Cm _ _ lr)
  ·exact λ ac H' p=>hD _ _ p
theorem pA {B:Nat}:∀ (l:List (Int×Nat)) (ts:List (List Int)),(∀ x∈ts,x.length<=B)->∀ x∈l.foldl addTip ts,x.length<=B+l.length
 | [],ts,h,x,hx=>by have:=h x hx;simp;lia
 | t::l,ts,h,x,hx=>by
  have h2:∀ y∈addTip ts t,y.length<=B+1:=λ y hy=>by
   unfold addTip at hy;rcases ĥ hy with hy | rfl
   ·have:=h y hy;lia
   ·rw[â,ģ];have:(ts.getD t.2 []).length<=B:=by
     rw[ĕ];cases e:ts[t.2]? with
     | none=>simp
     | some z=>exact h z (Ó e)
    lia
  have:=pA (B:=B+1) l (addTip ts t) h2 x hx;rw[á];lia
theorem RunSz.pour {S:RunS}{B:Nat} (h:RunSz S B) (v a:Int):RunSz (S.pour v a) (B+1):=
 ⟨by have:=h.rows;show (S.rows++_).length<=_;rw[â,ģ];lia,by have:=h.pre;show (S.pre++_).length<=_;rw[â,ģ];lia,λ l hl=>by have:=h.tips l hl;lia⟩
theorem RunSz.go {S:RunS}{B:Nat} (h:RunSz S B) (nok:NetOk S.net) (k:Nat):RunSz (S.go k) (B+12 * k+1):=
 ⟨by have:=h.rows;show (S.rows++_).length<=_;rw[â,ģ];lia,by have:=h.pre;show (S.pre++_).length<=_;rw[â,ģ];lia,λ l hl=>by
  have h1:=pA (B:=B) _ _ h.tips l hl;have h2:=lY (m:=S.cur) nok k;lia⟩
theorem OA (net:Net):RunSz (o0 net) 0:=⟨Í _,Í _,λ l hl=>by
 have:=Ň (show l∈List.replicate net.vs.length [] from hl);subst this;exact Í _⟩
def yP (K:Ç) (C:Á):Sp:=λ vs H Q _=>∃ (r dx:Á) (x:V) (net:Net),vs=[.ref r,x]/\H r=some (.ins C dx [])/\Is K H (iT net) x/\NetOk net/\NetFull net/\
 ∀ fp H',(∀ b∈fp,H b=none)->d4 r H H'->cB K C H' r (o0 net) fp->Q .non H'
theorem P3 (F:Fun K "__init__" "Run.__init__" (bF (aU 54) 0) f fd) (T:Txt mg) (tx:RunTx K C)
  (mz:Callee P w K mg base "is_net" ["thing"] 4 (tU K) f1 je) (ng:Callee P w K mg base "first_moment" ["net"] 2 (oO K) f2 ju) :
  FnOk P w K mg base gP 5 f fd ["self","net"] (yP K C):=by
 refine F.ok ["self","net"] λ sc iu A outer s H vs Q E hr h=>?_
 ·obtain⟨r,dx,x,net,rfl,hi,hx,nok,pz,k⟩:=h;refine⟨_,(aF (bJ (dX (cS (bZ mz hr (aB (pv 1) aD)))) (aI OK) aT)
   (aF (qH (K:=K) rfl (pv 0) (pv 1) rfl)
   (aF (qH (K:=K) rfl (pv 0) (aZ aD) rfl)
   (aF (qH (K:=K) rfl (pv 0) (aZ (aB (bZ ng hr (aB (pv 1) aD)) aD)) rfl)
   (aI (qH (K:=K) rfl (pv 0) (gN (λ _ _ h=>h) rfl (LcOk.mk (N':=["vessel"]) (fr:=[none]) rfl trivial rfl rfl rfl rfl rfl trivial) (cU (K:=K) rfl (px K (pv 1) aG)) (λ _ _ _=>(gC 0 ["vessel"])) (λ _ _ _=>bX) (λ _ _ _=>(aZ aD))) rfl)))))),?_⟩
  refine⟨_,rfl,x,net,rfl,hx,nok,pz,λ H1 oo=>⟨_,rfl,cX ?_⟩⟩;refine⟨_,rfl,_,rfl,r,C,dx,[],rfl,oo _ _ hi,tx.cls,tx.net,by decide,?_⟩;have mu1:lS (H1 r):=by rw[oo _ _ hi];exact trivial
  have i2:upd H1 r (.ins C dx (cL "net" x [])) r=some (.ins C dx (cL "net" x [])):=aE;have b2:d4 r H (upd H1 r (.ins C dx (cL "net" x []))):=oo.but.trans å;have Li:Is K (upd H1 r (.ins C dx (cL "net" x []))) (iT net) x:=Ï (ć å mu1) _ _ (Ï oo.ts _ _ hx);generalize upd H1 r (.ins C dx (cL "net" x []))=H2 at i2 b2 Li;refine⟨ê _,λ R hR=>⟨_,rfl,r,C,dx,_,rfl,È hR _ _ i2,tx.cls,tx.rows,(show 1 < 1000 by decide),?_⟩⟩;have Lj:R≠r:=λ z=>by rw[z,i2] at hR;cases hR
  have fR:H R=none:=b2.free Lj hR;have mu2:lS (upd H2 R (.lst []) r):=by rw[È hR _ _ i2];exact trivial
  have i3:upd (upd H2 R (.lst [])) r (.ins C dx (cL "rows" (.ref R) (cL "net" x []))) r=some (.ins C dx (cL "rows" (.ref R) (cL "net" x []))):=aE;have b3:d4 r H (upd (upd H2 R (.lst [])) r (.ins C dx (cL "rows" (.ref R) (cL "net" x [])))):=(b2.trans (È hR).but).trans å;have Qr:Is K (upd (upd H2 R (.lst [])) r (.ins C dx (cL "rows" (.ref R) (cL "net" x [])))) (iT net) x:=Ï (ć å mu2) _ _ (Ï (È hR).ts _ _ Li);have Qs:upd (upd H2 R (.lst [])) r (.ins C dx (cL "rows" (.ref R) (cL "net" x []))) R=some (.lst []):=by rw[aM Lj];exact aE
  generalize upd (upd H2 R (.lst [])) r (.ins C dx (cL "rows" (.ref R) (cL "net" x [])))=H3 at i3 b3 Qr Qs;refine⟨_,rfl,x,net,rfl,Qr,nok,λ p H6 Bi cm=>⟨(sz0 1),λ M hM=>⟨_,rfl,r,C,dx,cL "rows" (.ref R) (cL "net" x []),rfl,È hM _ _ (Bi _ _ i3),tx.cls,tx.moments,(show 2 < 1000 by decide),?_⟩⟩⟩;have i6:=Bi _ _ i3;have Qt:M≠r:=λ z=>by rw[z,i6] at hM;cases hM
  have nMR:M≠R:=λ z=>by rw[z,Bi _ _ Qs] at hM;cases hM
  have fM:H M=none:=(b3.trans Bi.but).free Qt hM;have Ll:lS (upd H6 M (.lst [.ref p]) r):=by rw[È hM _ _ i6];exact trivial
  have xw:bW K H6 (upd (upd H6 M (.lst [.ref p])) r (.ins C dx (cL "moments" (.ref M) (cL "rows" (.ref R) (cL "net" x []))))):=(È hM).ts.trans (ć å Ll);have i7:upd (upd H6 M (.lst [.ref p])) r (.ins C dx (cL "moments" (.ref M) (cL "rows" (.ref R) (cL "net" x [])))) r=some (.ins C dx (cL "moments" (.ref M) (cL "rows" (.ref R) (cL "net" x [])))):=aE;have b7:d4 r H (upd (upd H6 M (.lst [.ref p])) r (.ins C dx (cL "moments" (.ref M) (cL "rows" (.ref R) (cL "net" x []))))):=((b3.trans Bi.but).trans (È hM).but).trans å;have Lm:upd (upd H6 M (.lst [.ref p])) r (.ins C dx (cL "moments" (.ref M) (cL "rows" (.ref R) (cL "net" x [])))) M=some (.lst [.ref p]):=by rw[aM Qt];exact aE
  have Ln:upd (upd H6 M (.lst [.ref p])) r (.ins C dx (cL "moments" (.ref M) (cL "rows" (.ref R) (cL "net" x [])))) R=some (.lst []):=by rw[aM Lj];exact È hM _ _ (Bi _ _ Qs)
  have Qu:=Ï xw _ _ (Ï Bi.ts _ _ Qr);have cm7:=Ï xw _ _ cm;generalize upd (upd H6 M (.lst [.ref p])) r (.ins C dx (cL "moments" (.ref M) (cL "rows" (.ref R) (cL "net" x []))))=H7 at i7 b7 Lm Ln Qu cm7;obtain⟨a,b,c,xs,ys,rfl,q,q1,l1,q2,l2⟩:=j5 Qu;have ue:xs.length=net.vs.length:=by rw[l1.length,Ê]
  have n2:=nok.hi;refine⟨_,rfl,.inr (.inl ⟨a,_,0,_,rfl,rfl,q,rfl,b,rfl,⟨_,q1⟩,fN (K:=K) (a:=b) (xs:=xs) (λ D i rr ac H'=>H7 D=none/\aJ H7 H'/\H' D=some (.lst rr)/\(∃ ts:List Á,rr=ts.map V.ref/\ts.length=i/\(D::ts).Nodup/\∀ t∈ts,H7 t=none/\H' t=some (.lst []))/\∃ u,ac=[u])
   (λ D i rr ac H' p=>p.2.1.tup q1) (λ D hD=>⟨hD,È hD,aE,⟨[],rfl,rfl,by simp,λ t ht=>(nomatch ht)⟩,none,rfl⟩) ?_ ?_⟩)⟩
  rotate_left
  ·rintro D i v rr ac H8 hv ⟨hD,sm,iw,⟨ts,rfl,yz,Bj,ml⟩,u,rfl⟩;have vn:=(æ.mp hv).1;refine fL ?_;refine⟨ê _,λ t ht=>⟨È ht _ _ iw,bD (by simp;lia),hD,(sm.trans (È ht)).put hD,aE,⟨ts++[t],by rw[Ð];rfl,by simp [yz],?_,?_⟩,_,rfl⟩⟩
   ·have Qv:D≠t:=λ z=>by rw[<- z,iw] at ht;cases ht
    have nts:t∉ts:=λ z=>by rw[(ml t z).2] at ht;cases ht
    rw[ă] at Bj ⊢;refine⟨λ z=>?_,?_⟩
    ·rcases ß.1 z with z | z
     ·exact Bj.1 z
     ·exact Qv (by simpa using z)
    ·rw[List.nodup_append];exact⟨Bj.2,by simp,λ a ha b hb=>by rw[ã] at hb;subst hb;exact λ z=>nts (z ▸ ha)⟩
   ·intro t' ht';have Qv:t≠D:=λ z=>by rw[z,iw] at ht;cases ht
    rcases ß.1 ht' with z | z
    ·have h1:=ml t' z;have ne1:t'≠D:=λ z2=>by rw[ă] at Bj;exact Bj.1 (z2 ▸ z)
     exact⟨h1.1,by rw[aM ne1];exact È ht _ _ h1.2⟩
    ·have:t'=t:=by simpa using z
     subst this;exact⟨sm.free ht,by rw[aM Qv];exact aE⟩
  ·rintro D rr ac H8 ⟨hD,sm,iw,⟨ts,rfl,yz,Bj,ml⟩,_⟩;refine⟨_,rfl,r,C,dx,_,rfl,sm _ _ i7,tx.cls,tx.tips,(show 3 < 1000 by decide),?_⟩;have nDr:D≠r:=λ z=>by rw[z,i7] at hD;cases hD
   have nDR:D≠R:=λ z=>by rw[z,Ln] at hD;cases hD
   have nDM:D≠M:=λ z=>by rw[z,Lm] at hD;cases hD
   have ntr:∀ t∈ts,t≠r:=λ t ht z=>by have:=(ml t ht).1;rw[z,i7] at this;cases this
   have ntR:∀ t∈ts,t≠R:=λ t ht z=>by have:=(ml t ht).1;rw[z,Ln] at this;cases this
   have ntM:∀ t∈ts,t≠M:=λ t ht z=>by have:=(ml t ht).1;rw[z,Lm] at this;cases this
   have mu8:lS (H8 r):=by rw[sm _ _ i7];exact trivial
   have ts8:bW K H7 (upd H8 r (.ins C dx (cL "tip_ticks" (.ref D) (cL "moments" (.ref M) (cL "rows" (.ref R) (cL "net" (.ref a) [])))))):=sm.ts.trans (ć å mu8);refine k (R::M::D::ts) _ (λ y hy=>?_) ((b7.trans sm.but).trans å) ⟨dx,.ref a,R,M,D,ts,[],[],.ref p,?_,rfl⟩
   ·rcases Ñ.1 hy with rfl | hy
    ·exact fR
    rcases Ñ.1 hy with rfl | hy
    ·exact fM
    rcases Ñ.1 hy with rfl | hy
    ·exact b7.free nDr hD
    exact b7.free (ntr y hy) (ml y hy).1
   ·exact {
     ins:=aE
     net:=Ï ts8 _ _ Qu
     hR:=by rw[aM Lj];exact sm _ _ Ln
     lR:=.nil
     hM:=by rw[aM Qt];exact sm _ _ Lm
     lM:=.nil
     cM:=Ï ts8 _ _ cm7
     hT:=by rw[aM nDr];exact iw
     tl:=by rw[yz,ue];simp [o0]
     ti:=λ i t l h1 h2=>by
      have hm:=Ó h1;have hl:=Ó h2;have:=Ň (show l∈List.replicate net.vs.length [] from hl);subst this;rw[aM (ntr t hm)];exact (ml t hm).2
     nd:=by
      rw[ă];refine⟨λ z=>?_,?_⟩
      ·rcases Ñ.1 z with z | z
       ·exact nMR z.symm
       rcases Ñ.1 z with z | z
       ·exact nDR z.symm
       exact ntR R z rfl
      rw[ă];refine⟨λ z=>?_,Bj⟩;rcases Ñ.1 z with z | z
      ·exact nDM z.symm
      exact ntM M z rfl
     ok:=FL nok }
def eL (K:Ç) (C:Á) (cx:RunS->V->Hp->Prop):Sp:=λ vs H Q _=>∃ (r:Á) (S:RunS) (fp:List Á),vs=[.ref r]/\cB K C H r S fp/\∀ v,cx S v H->Q v H
theorem LQ (F:Fun K "state" "Run.state" (bF (aU 54) 5) f fd) (T:Txt mg) (tx:RunTx K C):FnOk P w K mg base gP 1 f fd ["self"] (eL K C λ S v H=>Is K H (AL S.cur.held S.cur.coming S.cur.doors) v):=by
 refine F.ok ["self"] λ sc iu A outer s H vs Q E hr h=>?_
 ·obtain⟨r,S,fp,rfl,⟨dx,np,R,M,T',ts,rs,ms,mv,c,rfl⟩,k⟩:=h;refine⟨_,(aI (aO (px K (px K (dF (K:=K) rfl (pv 0) rfl) (qI kP aG)) aG))),?_⟩;obtain⟨a,po,st,rfl,q,hs,hp⟩:=jO c.cM;exact⟨_,rfl,r,C,dx,_,_,rfl,c.ins,tx.cls,tx.moments,dZ,1,rfl,.inl ⟨M,_,-1,_,rfl,rfl,É c.hM,iF _ _,.inr (.inl ⟨a,_,1,_,rfl,rfl,q,rfl,k _ hs⟩)⟩⟩
theorem P4 (F:Fun K "came" "Run.came" (bF (aU 54) 7) f fd) (T:Txt mg) (tx:RunTx K C):FnOk P w K mg base gP 1 f fd ["self"] (eL K C λ S v H=>v=.int S.cur.came):=by
 refine F.ok ["self"] λ sc iu A outer s H vs Q E hr h=>?_
 ·obtain⟨r,S,fp,rfl,⟨dx,np,R,M,T',ts,rs,ms,mv,c,rfl⟩,k⟩:=h;refine⟨_,(aI (aO (px K (px K (dF (K:=K) rfl (pv 0) rfl) (qI kP aG)) aG))),?_⟩;obtain⟨a,po,st,rfl,q,hs,hp⟩:=jO c.cM;exact⟨_,rfl,r,C,dx,_,_,rfl,c.ins,tx.cls,tx.moments,dZ,1,rfl,.inl ⟨M,_,-1,_,rfl,rfl,É c.hM,iF _ _,.inr (.inl ⟨a,_,3,_,rfl,rfl,q,rfl,k _ rfl⟩)⟩⟩
theorem BJ (F:Fun K "grounded" "Run.grounded" (bF (aU 54) 8) f fd) (T:Txt mg) (tx:RunTx K C):FnOk P w K mg base gP 1 f fd ["self"] (eL K C λ S v H=>v=.int S.cur.ground):=by
 refine F.ok ["self"] λ sc iu A outer s H vs Q E hr h=>?_
 ·obtain⟨r,S,fp,rfl,⟨dx,np,R,M,T',ts,rs,ms,mv,c,rfl⟩,k⟩:=h;refine⟨_,(aI (aO (px K (px K (dF (K:=K) rfl (pv 0) rfl) (qI kP aG)) aG))),?_⟩;obtain⟨a,po,st,rfl,q,hs,hp⟩:=jO c.cM;exact⟨_,rfl,r,C,dx,_,_,rfl,c.ins,tx.cls,tx.moments,dZ,1,rfl,.inl ⟨M,_,-1,_,rfl,rfl,É c.hM,iF _ _,.inr (.inl ⟨a,_,4,_,rfl,rfl,q,rfl,k _ rfl⟩)⟩⟩
theorem LR (F:Fun K "tick" "Run.tick" (bF (aU 54) 4) f fd) (T:Txt mg) (tx:RunTx K C):FnOk P w K mg base gP 1 f fd ["self"] (eL K C λ S v H=>v=.int S.cur.tick):=by
 refine F.ok ["self"] λ sc iu A outer s H vs Q E hr h=>?_
 ·obtain⟨r,S,fp,rfl,⟨dx,np,R,M,T',ts,rs,ms,mv,c,rfl⟩,k⟩:=h;refine⟨_,(aI (aO (px K (px K (dF (K:=K) rfl (pv 0) rfl) (qI kP aG)) aG))),?_⟩;obtain⟨a,po,st,rfl,q,hs,hp⟩:=jO c.cM;exact⟨_,rfl,r,C,dx,_,_,rfl,c.ins,tx.cls,tx.moments,dZ,1,rfl,.inl ⟨M,_,-1,_,rfl,rfl,É c.hM,iF _ _,.inr (.inl ⟨a,_,0,_,rfl,rfl,q,rfl,k _ rfl⟩)⟩⟩
section
variable {r dx R M T:Á}{H H':Hp}{S:RunS}{fp:List Á}{np mv:V}{ts:List Á}{rs ms:List V}
theorem LY {ak:Type}{xs:List ak} (h:xs.Nodup) {i j:Nat}{x:ak} (h1:xs[i]? = some x) (h2:xs[j]? = some x):i=j:=by
 obtain⟨a1,b1⟩:=æ.mp h1;obtain⟨a2,b2⟩:=æ.mp h2;exact (List.getElem_inj h (h₀:=a1) (h₁:=a2)).1 (b1.trans b2.symm)
theorem RunC.addTip (c:RunC K C H r S dx np R M T ts rs ms mv) {p:Int×Nat}{t:Á}{l:List Int} (h1:ts[p.2]? = some t) (h2:S.tips[p.2]? = some l) :
  RunC K C (upd H t (.lst ((l++[p.1]).map V.int))) r { S with tips:=addTip S.tips p } dx np R M T ts rs ms mv:=by
 have hm:=Ó h1;have ht:=c.ti _ _ _ h1 h2;have mu:lS (H t):=by rw[ht];exact trivial
 have Lo:bW K H (upd H t (.lst ((l++[p.1]).map V.int))):=ć å mu;have nd:=c.nd;rw[ă] at nd;have vv:=nd.2;rw[ă] at vv;have Qw:=vv.2;rw[ă] at Qw;have nR:R≠t:=λ z=>nd.1 (by rw[z];simp [hm]);have nM:M≠t:=λ z=>vv.1 (by rw[z];simp [hm]);have nT:T≠t:=λ z=>Qw.1 (by rw[z];exact hm);have nr:r≠t:=λ z=>c.r_notin (by rw[z];simp [hm]);have jr:p.2 < S.tips.length:=(æ.mp h2).1;have hgd:S.tips.getD p.2 []=l:=by rw[ĕ,h2];rfl
 exact {
  ins:=by rw[aM nr];exact c.ins
  net:=Ï Lo _ _ c.net
  hR:=by rw[aM nR];exact c.hR
  lR:=Õ Lo _ _ c.lR
  hM:=by rw[aM nM];exact c.hM
  lM:=Õ Lo _ _ c.lM
  cM:=Ï Lo _ _ c.cM
  hT:=by rw[aM nT];exact c.hT
  tl:=by show _=(List.set S.tips p.2 _).length;rw[Ė];exact c.tl
  ti:=λ i t' l' e1 e2=>by
   by_cases hi:i=p.2
   ·subst hi;rw[h1] at e1;cases e1;have e3:(S.tips.set p.2 (S.tips.getD p.2 []++[p.1]))[p.2]? = some l':=e2;rw[hgd,Ř jr] at e3;cases e3;exact aE
   ·have e3:(S.tips.set p.2 (S.tips.getD p.2 []++[p.1]))[i]? = some l':=e2;rw[ř (Ne.symm hi)] at e3;have ne:t'≠t:=λ z=>hi (LY Qw.2 (by rw[<- z];exact e1) h1);rw[aM ne];exact c.ti i t' l' e1 e3
  nd:=c.nd
  ok:=⟨c.ok.nok,c.ok.cur,by show (List.set S.tips p.2 _).length=_;rw[Ė];exact c.ok.tl⟩ }
end
def KB (K:Ç) (C:Á):Sp:=λ vs H Q _=>∃ (r:Á) (S:RunS) (fp:List Á) (k B:Nat),vs=[.ref r,.int (k:Int)]/\cB K C H r S fp/\RunSz S B/\B<=1000000/\k<=100000/\
 ∀ H',iI fp H H'->cB K C H' r (S.go k) fp->Q .non H'
theorem VB (F:Fun K "go" "Run.go" (bF (aU 54) 2) f fd) (T:Txt mg) (tx:RunTx K C) (oy:Callee P w K mg base "moment_gone" ["net","moment","many"] 6 (yL K) f1 je) :
  FnOk P w K mg base gP 7 f fd ["self","many"] (KB K C):=by
 refine F.ok ["self","many","moment","tipped","tick","number"] λ sc iu A outer s H vs Q E hr h=>?_
 ·obtain⟨r,S,fp,n,B,rfl,⟨dx,np,R,M,T',ts,rs,ms,mv,c,rfl⟩,sz,hB,hn,k⟩:=h;refine⟨_,(aF (bK (bZ oy hr (aB (dF (K:=K) rfl (pv 0) rfl) (aB (px K (dF (K:=K) rfl (pv 0) rfl) (qI kP aG)) (aB (pv 1) aD)))) (bC (K:=K) (n:=2) rfl rfl (aH (gL 2 sc.nd) (aH (gL 3 sc.nd) bA))))
   (aF (bQ (dH (K:=K) rfl ó Ā ā cD (dF (K:=K) rfl (pv 0) rfl) (aB (pv 2) aD)))
   (aF (bQ (dH (K:=K) rfl ó Ā ā cD (dF (K:=K) rfl (pv 0) rfl) (aB (bN (aB aK (aB (pv 1) (aB (pv 3) aD)))) aD)))
   (aI (dY þ rfl (cU (K:=K) rfl (pv 3)) (bC (K:=K) (n:=2) rfl rfl (aH (gL 4 sc.nd) (aH (gL 5 sc.nd) bA))) (aI (bQ (dH (K:=K) rfl ó Ā ā cD (px K (dF (K:=K) rfl (pv 0) rfl) (pv 5)) (aB (pv 4) aD))))))))),?_⟩
  have nok:=c.ok.nok;have mr:=c.ok.cur;have nd:=c.nd;have lrs:rs.length<=B:=by rw[c.lR.length,Ê];exact sz.rows
  have lms:ms.length<=B:=by rw[c.lM.length,Ê];exact sz.pre
  refine⟨_,rfl,r,C,dx,_,_,rfl,c.ins,tx.cls,tx.net,A4,_,rfl,r,C,dx,_,_,rfl,c.ins,tx.cls,tx.moments,dZ,1,rfl,.inl ⟨M,_,-1,_,rfl,rfl,É c.hM,iF _ _,_,rfl,np,mv,S.net,S.cur,n,rfl,c.net,c.cM,nok,mr,hn,λ pp mi tl oi H1 s1 qpp Cl qtl Ab=>?_⟩⟩;refine⟨pp,_,rfl,qpp,rfl,_,_,rfl,_,_,rfl,rfl,?_⟩;have ltv:oi.length<=12 * n:=by rw[Ab.length,Ê];exact lY nok n
  have Bk:R≠M:=λ z=>by rw[ă] at nd;exact nd.1 (by rw[z];simp)
  have rm:r≠M:=λ z=>c.r_notin (by rw[z];simp);have xa:r≠R:=λ z=>c.r_notin (by rw[z];simp);refine⟨_,rfl,r,C,dx,_,_,rfl,s1 _ _ c.ins,tx.cls,tx.moments,dZ,.inl ⟨rfl,_,É (s1 _ _ c.hM)⟩,_,rfl,M,_,_,rfl,rfl,s1 _ _ c.hM,nJ (by simp;lia),?_⟩;have muM:lS (H1 M):=by rw[s1 _ _ c.hM];exact trivial
  have Lp:bW K H1 (upd H1 M (.lst (ms++[mv]++[mi]))):=ć å muM;have Qx:=Lp _ _ qtl;have k2:∀ (b:Á) (o:HO),b≠M->H b=some o->upd H1 M (.lst (ms++[mv]++[mi])) b=some o:=λ b o h e=>by rw[aM h];exact s1 _ _ e
  have hM2:upd H1 M (.lst (ms++[mv]++[mi])) M=some (.lst (ms++[mv]++[mi])):=aE;have Fb:bW K H (upd H1 M (.lst (ms++[mv]++[mi]))):=s1.ts.trans Lp;have Lq:=Ï Lp _ _ Cl;have Qy:=Õ Lp _ _ Ab;generalize upd H1 M (.lst (ms++[mv]++[mi]))=H2 at Qx k2 hM2 Fb Lq Qy;refine⟨_,rfl,r,C,dx,_,_,rfl,k2 _ _ rm c.ins,tx.cls,tx.rows,G8,.inl ⟨rfl,_,É (k2 _ _ Bk c.hR)⟩,?_⟩;refine⟨_,rfl,_,rfl,(sz0 3),λ p3 Co=>?_⟩;have uf:aJ H2 (upd H2 p3 (.tup [.str "go",.int (n:Int),.ref tl])):=È Co;have Fc:Is K (upd H2 p3 (.tup [.str "go",.int (n:Int),.ref tl])) (OB (.go (n:Int) (gS S.net S.cur n))) (.ref p3):=
   Ý (ds:=[.str "go",.int (n:Int),.tup ((gS S.net S.cur n).map AY)]) (Ò aE) (.cons (Is.s _) (.cons (Is.i _) (.cons (Ý (uf.tup Qx) (Õ uf.ts _ _ Qy)) .nil)))
  generalize upd H2 p3 (.tup [.str "go",.int (n:Int),.ref tl])=H4 at Fc uf;have Fd:=uf _ _ (k2 _ _ Bk c.hR);refine⟨R,_,_,rfl,rfl,Fd,nJ (by lia),?_⟩;have Qz:lS (H4 R):=by rw[Fd];exact trivial
  have sw:bW K H4 (upd H4 R (.lst (rs++[.ref p3]))):=ć å Qz;have zb:bW K H (upd H4 R (.lst (rs++[.ref p3]))):=(Fb.trans uf.ts).trans sw;have keep:∀ (b:Á) (o:HO),b≠M->b≠R->H b=some o->upd H4 R (.lst (rs++[.ref p3])) b=some o:=λ b o h1 h2 e=>by
   rw[aM h2];exact uf _ _ (k2 _ _ h1 e)
  have Ra:=sw _ _ (uf.tup Qx);have Cp:=Õ (uf.ts.trans sw) _ _ Qy;rw[ă] at nd;have vv:=nd.2;rw[ă] at vv;have c5:RunC K C (upd H4 R (.lst (rs++[.ref p3]))) r { S with
   rows:=S.rows++[.go (n:Int) (gS S.net S.cur n)],pre:=S.pre++[S.cur],cur:=gW S.net S.cur n } dx np R M T' ts (rs++[.ref p3]) (ms++[mv]) mi:={
   ins:=keep _ _ rm xa c.ins
   net:=Ï zb _ _ c.net
   hR:=aE
   lR:=by
    show IsL K _ ((S.rows++[Row.go (n:Int) (gS S.net S.cur n)]).map OB) _;rw[Ð];exact ď (Ï sw _ _ Fc) (Õ zb _ _ c.lR)
   hM:=by rw[aM (Ne.symm Bk)];exact uf _ _ hM2
   lM:=by
    show IsL K _ ((S.pre++[S.cur]).map mV) _;rw[Ð];exact ď (Ï zb _ _ c.cM) (Õ zb _ _ c.lM)
   cM:=Ï (uf.ts.trans sw) _ _ Lq
   hT:=keep _ _ (λ z=>vv.1 (by rw[<- z];simp)) (λ z=>nd.1 (by rw[<- z];simp)) c.hT
   tl:=c.tl
   ti:=λ i t l h1 h2=>by
    have hm:=Ó h1;exact keep _ _ (λ z=>vv.1 (by rw[<- z];simp [hm])) (λ z=>nd.1 (by rw[<- z];simp [hm])) (c.ti i t l h1 h2)
   nd:=c.nd
   ok:=⟨c.ok.nok,qQ mr n,c.ok.tl⟩ }
  have b5:iI (R::M::T'::ts) H (upd H4 R (.lst (rs++[.ref p3]))):=λ b o hb e=>keep b o (λ z=>hb (by rw[z];simp)) (λ z=>hb (by rw[z];simp)) e;generalize upd H4 R (.lst (rs++[.ref p3]))=H5 at Ra Cp c5 b5;refine⟨_,rfl,tl,rfl,⟨_,Ra⟩,qZ (K:=K) (a:=tl) (xs:=oi)
   (λ i ac H'=>bS K H' tl oi/\IsL K H' ((gS S.net S.cur n).map AY) oi/\iI (R::M::T'::ts) H H'/\
    RunC K C H' r { S with rows:=S.rows++[.go (n:Int) (gS S.net S.cur n)],pre:=S.pre++[S.cur],cur:=gW S.net S.cur n,tips:=((gS S.net S.cur n).take i).foldl addTip S.tips } dx np R M T' ts (rs++[V.ref p3]) (ms++[mv]) mi/\
    ∃ v4 v5,ac=[some (.ref r),some (.int (n:Int)),some mi,some (.ref tl),v4,v5])
   ⟨Ra,Cp,b5,by rw[ago];exact c5,_,_,rfl⟩ (λ i ac H' _ p=>p.1) ?_ ?_⟩
  ·rintro i x ac H6 hx ⟨tl6,Rb,b6,c6,v4,v5,rfl⟩;obtain⟨d,hd,ix⟩:=L2.IsL.get' Rb hx;rw[Ø] at hd;obtain⟨⟨tk,nu⟩,Fa,rfl⟩:=ð.mp hd;have vn:=(æ.mp Fa).1;have hnu:nu < S.net.vs.length:=EY n _ (Ó Fa);obtain⟨e,zs,rfl,qe,le⟩:=(show Is K H6 (.tup [.int tk,.int (nu:Int)]) x from ix).un;obtain⟨x1,rr,rfl,h1,le⟩:=le.un;obtain⟨x2,rr,rfl,h2,le⟩:=le.un;have:=le.un0;subst this;have:=h1.ui;subst this;have:=h2.ui;subst this;refine⟨e,_,rfl,qe,rfl,_,_,rfl,_,_,rfl,rfl,?_⟩;have lt6':=c6.ok.tl;have yz:nu < ts.length:=by rw[c.tl,c.ok.tl];exact hnu
   have Cq:ts[nu]? = some ts[nu]:=by simp [yz]
   have hli:nu < (((gS S.net S.cur n).take i).foldl addTip S.tips).length:=by rw[nB,c.ok.tl];exact hnu
   have Ac:(((gS S.net S.cur n).take i).foldl addTip S.tips)[nu]? = some (((gS S.net S.cur n).take i).foldl addTip S.tips)[nu]:=by simp [hli]
   have hsz:=pA (B:=B) ((gS S.net S.cur n).take i) S.tips sz.tips _ (ń hli);generalize (((gS S.net S.cur n).take i).foldl addTip S.tips)[nu]=l at Ac hsz;have Dm:=lY (m:=S.cur) nok n;rw[î] at hsz;have Fe:=c6.ti nu _ l Cq Ac;refine⟨_,rfl,r,C,dx,_,_,rfl,c6.ins,tx.cls,tx.tips,G7,_,rfl,.inl ⟨T',_,(nu:Int),.ref ts[nu],rfl,rfl,É c6.hT,eJ (by rw[Ø,Cq];rfl),.inl ⟨rfl,_,É Fe⟩,_,rfl,ts[nu],_,_,rfl,rfl,Fe,nJ (by rw[Ê];lia),?_⟩⟩;have c7:=c6.addTip (p:=(tk,nu)) Cq Ac;have Aq:ts[nu]∈R::M::T'::ts:=by simp
   have Ll:lS (H6 ts[nu]):=by rw[Fe];exact trivial
   rw[Ð] at c7;refine⟨ć (K:=K) å Ll _ _ tl6,Õ (ć å Ll) _ _ Rb,b6.trans (iI.upd Aq),?_,_,_,rfl⟩;rw[dC Fa,afw];exact c7
  ·rintro ac H6 ⟨tl6,Rb,b6,c6,_⟩;have el:oi.length=(gS S.net S.cur n).length:=by rw[Ab.length,Ê]
   rw[el,ø] at c6;exact k _ b6 ⟨dx,np,R,M,T',ts,_,_,_,c6,rfl⟩
theorem FC:∀ (l:List Int) (i:Nat) (a:Int),i < l.length->(l.set i (l.getD i 0+a)).sum=l.sum+a
 | [],i,a,h=>by simp at h
 | x::l,0,a,_=>by simp;lia
 | x::l,i+1,a,h=>by
  have:=FC l i a (by simpa using h);simp only [List.set_cons_succ,đ,List.getD_cons_succ];lia
theorem y4 {n:Nat}:∀ (ss:List nE) (ds:List Bool) (has:List Int),has.length=n->(∀ s∈ss,0<=s.1/\s.1 < n)->(gB has ss ds).sum=has.sum+cN ss ds
 | [],ds,has,_,_=>by cases ds <;> simp [gB,cN]
 | s::ss,[],has,_,_=>by simp [gB,cN]
 | s::ss,d::ds,has,hl,h=>by
  have h1:=h s Þ;show (gB (n9 has s d) ss ds).sum=has.sum+((if d=true then s.2.1 else 0)+cN ss ds);rw[y4 (n:=n) ss ds (n9 has s d) (by rw[y6];exact hl) λ s hs=>h s (Ô _ hs)];unfold n9
  by_cases e:d=true
  ·rw[Å e,Å e,FC _ _ _ (by lia)];lia
  ·rw[Ä e,Ä e];lia
theorem CV:∀ {a b c:List Int}{n:Nat},a.length=n->b.length=n->c.length=n->(jB a b c).sum=a.sum+b.sum+c.sum
 | [],b,c,n,h,h2,h3=>by
  simp at h;subst h;have:=ý h2;have:=ý h3;subst b c;rfl
 | x::a,[],c,n,h1,h2,_=>by simp at h1 h2;lia
 | x::a,y::b,[],n,h1,_,h3=>by simp at h1 h3;lia
 | x::a,y::b,z::c,n,h1,h2,h3=>by
  simp at h1 h2 h3;show x+y+z+(jB a b c).sum=_;rw[CV (n:=n - 1) (by lia) (by lia) (by lia)];simp only [đ];lia
theorem HA (n:Nat):(dR n).sum=0:=by
 unfold dR
 induction n with
 | zero=>rfl
 | succ n ih=>rw[ġ,đ,ih];rfl
theorem PY {net:Net}{m:Mom} (nok:NetOk net) (mr:MomOk net m):(cI net m.held m.coming m.poured m.doors).sum=m.held.sum+m.coming.sum+m.poured.sum+cN net.sps m.doors:=by
 unfold cI;rw[y4 (n:=net.vs.length) _ _ _ (nC mr.st.h mr.st.c mr.pl) nok.sps,CV mr.st.h mr.st.c mr.pl]
def Mom.fair (m:Mom):Prop:=m.came=m.held.sum+m.coming.sum+m.ground
theorem IH (net:Net):(E5 net).fair:=by
 show (0:Int)=(dR _).sum+(dR _).sum+0;rw[HA];rfl
theorem Mom.fair_step {net:Net}{m:Mom} (nok:NetOk net) (mr:MomOk net m) (h:m.fair):(m.step net).fair:=by
 have hk:=kept nok (Mom.hs_len mr);have hs:=PY nok mr;unfold Mom.fair at h ⊢;show m.came+(m.poured.sum+cN net.sps m.doors)=(m.tk net).held.sum+(m.tk net).coming.sum+(m.ground+(m.tk net).ground);have:(m.tk net)=rE net m.held m.coming m.poured m.doors:=rfl;rw[this];lia
section
variable {t sl:Á}{σ:St}{H0:Hp}
end
theorem lV {np:V}{R M T:Á} (m:Str) (h:(CI np R M T).lookup m=none):(CI np R M T).lookup m=none:=h
section
variable {H:Hp}{r:Á}{S:RunS}{fp:List Á}
theorem cB.ins (c:cB K C H r S fp):∃ dx np R M T,H r=some (.ins C dx (CI np R M T)):=by
 obtain⟨dx,np,R,M,T,ts,rs,ms,mv,c,_⟩:=c;exact⟨dx,np,R,M,T,c.ins⟩
theorem cB.butL {H':Hp}{fq:List Á} (c:cB K C H r S fp) (s:iI fq H H') (hm:∀ b∈fq,lS (H b)) (h1:r∉fq) (h2:∀ b∈fp,b∉fq):cB K C H' r S fp:=by
 obtain⟨dx,np,R,M,T,ts,rs,ms,mv,c,rfl⟩:=c;refine⟨dx,np,R,M,T,ts,rs,ms,mv,c.keep (s.ts hm) λ b hb=>?_,rfl⟩;rcases Ñ.1 hb with rfl | hb
 ·rw[s _ _ h1 c.ins,c.ins]
 ·obtain⟨xs,e⟩:=c.lists b hb;rw[s _ _ (h2 b hb) e,e]
end
end Tw
namespace L2
open PySem PySem.Spec PyProof.Rows TwZ
section
variable {X:Cx}{gn:List (Á×Obj)}{σ:St}{H:Hp}{s:Â}
end
section
variable {H:Hp}
end
theorem dP.some {P:Ã}{w:World}{H:Hp}{h:Heap}{a:Á}{o:HO} (x:dP P w H h a o):∃ ob,h.get? a=some ob:=by
 cases o with
 | lst xs=>obtain⟨_,_,_,_,e⟩:=x;exact⟨_,e⟩
 | tup xs=>obtain⟨_,_,_,ob,e,_⟩:=x;exact⟨_,e⟩
 | dK gy=>obtain⟨_,_,_,_,o,_,_,e,_⟩:=x;exact⟨_,e⟩
 | dT gy=>obtain⟨_,_,_,_,o,_,_,e,_⟩:=x;exact⟨_,e⟩
 | set S n=>obtain⟨o,_,_,_,e,_⟩:=x;exact⟨_,e⟩
 | ins C dx fs=>obtain⟨_,_,_,e,_⟩:=x;exact⟨_,e⟩
 | own y=>obtain⟨_,e⟩:=x;exact⟨_,e⟩
 | xd fs=>obtain⟨_,⟨_,_,_,e,_⟩,_⟩:=x;exact⟨_,e⟩
 | rng lo hi=>obtain⟨_,_,_,e⟩:=x;exact⟨_,e⟩
 | frz ob u=>obtain⟨e,_⟩:=x;exact⟨_,e⟩
 | tbl ps=>exact⟨_,(show h.get? a=Option.some _ from x)⟩
 | met f y=>exact⟨_,(show h.get? a=Option.some _ from x)⟩
 | ext cx=>obtain⟨_,⟨_,e⟩,_⟩:=x;exact⟨_,e⟩
structure Fly (P:Ã) (w:World) (stack:List Env) (H:Hp) (h:Heap) (ea:Á) (cls a0:À) (H':Hp) (h' B:Heap):Prop where
 fl:Heap.FlyingW B stack ea cls a0 h'
 keep:∀ b o,h.get? b=some o->H b=none->b∉pE stack->B.get? b=some o
 slot:∀ b o,h.get? b=some o->H b=none->b∈pE stack->∃ sl,h'.get? b=some { o with slots:=sl }
 free:∀ b o,h.get? b=some o->H b=none->H' b=none
 there:∀ b o,h.get? b=some o->b∉pE stack->∃ o',B.get? b=some o'
 tups:∀ b xs,H b=some (.tup xs)->H' b=some (.tup xs)
 frzs:∀ b o u,H b=some (.frz o u)->H' b=some (.frz o u)
 tbls:∀ b ps,H b=some (.tbl ps)->∃ more,H' b=some (.tbl (ps++more))
 hok:pC P w H' B
def lW (P:Ã) (w:World):GW:=λ outer H s E e s'=>∃ (ea:Á) (cls a0:À) (H':Hp) (B:Heap),e=.ref ea/\s'.os=s.os/\AllBare s'.gens/\Fly P w outer H s.heap ea cls a0 H' s'.heap B/\E cls none H'
structure Leaves (X:Cx) (E:XK):Prop where
 stk:X.stack=X.env::X.outer
 fr:X.env.frame=some X.env.locals
 ex:X.ex=[]
 xe:∀ e s',wpAny (model X.prog X.w) X.A (leaving X.env e) (λ _ s''=>lW X.prog X.w X.outer X.H₀ X.s₀ E e s'') (λ e' s''=>lW X.prog X.w X.outer X.H₀ X.s₀ E e' s'') s'->X.xe e s'
section
variable {X:Cx}{gn:List (Á×Obj)}{σ:St}{H H':Hp}{s s':Â}{E:XK}
theorem PF {l:List Env}{b:Á}{env:Env} (he:env∈l) (hf:env.frame=some b):b∈pE l:=List.mem_filterMap.mpr ⟨env,he,hf⟩
theorem qR {l:List Env}{b L:Á}{env:Env} (hf:env.frame=some L) (h:b∈pE (env::l)):b=L\/b∈pE l:=by
 unfold pE at h ⊢;rw[Ġ,hf] at h;exact Ñ.1 h
theorem KP {h':Heap}{ea:Á}{cls:À}{vs:List À} (L:Leaves X E) (I:Inv X gn σ H s) (hx:Heap.MadeExcOf s.heap h' ea cls vs) (hE:E cls none H):X.xe (.ref ea) { s with heap:=h' }:=by
 refine L.xe _ _ ?_;have fr:X.A.frames=some (X.env::X.outer):=by rw[<- L.stk];exact I.ok.frames
 have hs:s.heap.FunFrames X.base (X.env::X.outer):=by rw[<- L.stk];exact I.stack
 have mh:∀ b∈pE (X.env::X.outer),H b=none:=by rw[<- L.stk];exact I.stkFree
 have vw:∀ b:Á,b∉X.ex:=λ b z=>by rw[L.ex] at z;cases z
 have out:∀ b o,X.s₀.heap.get? b=some o->b∉pE X.outer->b∉pE (X.env::X.outer):=λ b o e hb z=>by
  rcases qR L.fr z with z | z
  ·exact absurd (í (Ö e) I.ok.above) (by rw[z];exact Ē _)
  ·exact hb z
 refine wpAny_leaves_madeW (base:=PySem.W.hideAll s.heap (pE (X.env::X.outer))) fr L.fr (λ b o q=>PySem.W.of_hideAll _ q) (PySem.W.funFrames_hide hs λ env he a hf=>PF he hf) hx λ h2 t x1 x2 x3 x4=>?_;refine⟨ea,cls,.ref t,H,_,rfl,I.os,I.bare,⟨x1,λ b o e n hb=>?_,λ b o e n hb=>?_,λ b o e n=>I.base.free b o e n (vw b),λ b o e hb=>?_,I.base.tups,I.base.frzs,I.base.tbls,λ a o e=>?_⟩,hE⟩
 ·exact š _ (I.base.keep b o e n hb (vw b)) (out b o e hb)
 ·obtain⟨sl,e1⟩:=I.base.slot b o e n hb (vw b);obtain⟨_,o',mw,hd⟩:=I.ok.funs.mem hb;rw[e] at mw;cases mw;obtain⟨zq,e2⟩:=x4 b _ (hx.keeps _ _ e1) hd;exact⟨zq,e2⟩
 ·obtain⟨o',e1⟩:=I.base.there b o e (vw b);exact⟨o',š _ e1 (out b o e hb)⟩
 ·refine (I.hok a o e).stay (λ b u hb q=>š _ q λ z=>?_) (λ _ q=>q) λ _ _ q=>q;have:=mh b z;rcases hb with rfl | hb
  ·rw[e] at this;cases this
  ·rw[hb] at this;cases this
theorem cY (L:Leaves X E):iM (lW X.prog X.w) X E:=by
 intro gn σ H s e s' I h;obtain⟨ea,cls,a0,H',B,rfl,os,bare,F,hE⟩:=h;refine L.xe _ _ ?_;have fr:X.A.frames=some (X.env::X.outer):=by rw[<- L.stk];exact I.ok.frames
 have vw:∀ b:Á,b∉X.ex:=λ b z=>by rw[L.ex] at z;cases z
 have out:∀ b o,X.s₀.heap.get? b=some o->b∉pE X.outer->b∉pE X.stack:=λ b o e hb z=>by
  rw[L.stk] at z;rcases qR L.fr z with z | z
  ·exact absurd (í (Ö e) I.ok.above) (by rw[z];exact Ē _)
  ·exact hb z
 have inn:∀ b,b∈pE X.outer->b∈pE X.stack:=λ b hb=>by
  rw[L.stk];unfold pE at hb ⊢;rw[Ġ,L.fr];exact Ô _ hb
 refine wpAny_leaves_onW fr L.fr (by rw[<- L.stk];exact F.fl) λ h2 x1 x2=>?_;refine⟨ea,cls,a0,H',B,rfl,os.trans I.os,bare,⟨x1,λ b o e n hb=>?_,λ b o e n hb=>?_,λ b o e n=>?_,λ b o e hb=>?_,λ b xs e=>F.tups b xs (I.base.tups b xs e),λ b o u e=>F.frzs b o u (I.base.frzs b o u e),λ b ps e=>?_,F.hok⟩,hE⟩
 ·exact F.keep b o (I.base.keep b o e n hb (vw b)) (I.base.free b o e n (vw b)) (out b o e hb)
 ·obtain⟨sl,e1⟩:=I.base.slot b o e n hb (vw b);obtain⟨zq,e2⟩:=F.slot b _ e1 (I.base.free b o e n (vw b)) (inn b hb);obtain⟨_,o',mw,hd⟩:=I.ok.funs.mem hb;rw[e] at mw;cases mw;obtain⟨Rc,e3⟩:=x2 b _ e2 hd;exact⟨Rc,e3⟩
 ·obtain⟨o',e1⟩:=I.base.there b o e (vw b);exact F.free b o' e1 (I.base.free b o e n (vw b))
 ·obtain⟨o',e1⟩:=I.base.there b o e (vw b);exact F.there b o' e1 (out b o e hb)
 ·obtain⟨m1,e1⟩:=I.base.tbls b ps e;obtain⟨m2,e2⟩:=F.tbls b _ e1;exact⟨m1++m2,by rw[e2,Array.append_assoc]⟩
theorem DV {P:Ã}{w:World}:iM (lW P w) X E0:=λ _ _ _ _ _ _ _ h=>by
 obtain⟨_,_,_,_,_,_,_,_,_,h⟩:=h;exact h.elim
def CJ (ea:Á) (cls:À):HO:=.ext λ h=>∃ o,h.get? ea=some o/\o.cls=cls
theorem Inv.caught {ea:Á}{cls a0:À}{B:Heap} (I:Inv X gn σ H s) (os:s'.os=s.os) (bare:AllBare s'.gens) (F:Fly X.prog X.w X.stack H s.heap ea cls a0 H' s'.heap B):H' ea=none/\Inv X gn σ (upd H' ea (CJ ea cls)) s':=by
 obtain⟨ob,Lr,uh⟩:=F.fl.there;obtain⟨oe,vs,pj,_,hfd,_⟩:=F.fl.first
 have vx:H' ea=none:=by
  cases q:H' ea with
  | none=>rfl
  | some o=>
   obtain⟨o',e⟩:=(F.hok ea o q).some;rw[F.fl.2.1] at e;cases e
 have Re:∀ b∈pE X.stack,b≠ea:=λ b hb z=>by
  obtain⟨_,o',mw,hd⟩:=F.fl.2.2.1.mem hb;rw[z,pj] at mw;cases mw;exact hd _ hfd
 have ne:∀ b o,s.heap.get? b=some o->b≠ea:=λ b o e z=>by
  by_cases hb:b∈pE X.stack
  ·exact Re b hb z
  ·obtain⟨o',e'⟩:=F.there b o e hb;rw[z,F.fl.2.1] at e';cases e'
 have kb:∀ b u,B.get? b=some u->s'.heap.get? b=some u:=F.fl.1;refine⟨vx,I.call' (ch:=[]) os ⟨λ b o e n hb _=>kb _ _ (F.keep b o e n hb),λ b o e n hb _=>F.slot b o e n hb,λ b o e n _=>?_,λ b o e _=>?_,λ b xs e=>?_,λ b o u e=>?_,λ b ps e=>?_⟩ (λ b u e=>?_) bare (λ b z=>absurd z (by simp))⟩
 ·rw[aM (ne b o e)];exact F.free b o e n
 ·by_cases hb:b∈pE X.stack
  ·obtain⟨_,o',mw,_⟩:=F.fl.2.2.1.mem hb;exact⟨o',mw⟩
  ·obtain⟨o',e'⟩:=F.there b o e hb;exact⟨o',kb _ _ e'⟩
 ·have:=F.tups b xs e;rw[aM (aP this vx)];exact this
 ·have:=F.frzs b o u e;rw[aM (aP this vx)];exact this
 ·obtain⟨m,e1⟩:=F.tbls b ps e;exact⟨m,by rw[aM (aP e1 vx)];exact e1⟩
 ·by_cases hb:b=ea
  ·subst hb;rw[aE] at e;cases e;exact⟨⟨ob,Lr,uh⟩,⟨ob,Lr⟩,λ h1 h2 ⟨o,e1,e2⟩ k=>⟨o,k _ e1,e2⟩⟩
  ·rw[aM hb] at e;exact (F.hok b u e).stay (λ c v _ q=>kb c v q) (λ c q=>by rw[aM (aP q vx)];exact q) λ c xs q=>by rw[aM (aP q vx)];exact q
def RH (E:XK) (C:Á) (t:TA):TS:=λ _ σ H=>t σ H λ vs H1=>vs.length<=100/\E (.ref C) none H1
theorem gA {x:Str}{C:Á}{bm:List À}{newId Bl B:String}{np jd pos:Pos}{dy:Expr}{jo:List Expr}{t:TA} (L:Leaves X E) (hc:X.calm=true) (hg:Gl X x) (O:PySem.W.excIn X.K C bm newId=true) (hm:PySem.W.nsIn X.K mainGlobals x=some (some (.ref C))) (FB:ExcBaseFacts B newId Bl bm) (ha:PA X (dy::jo) t)
  (he:starEach (dy::jo) X.env=(false,eval dy X.env)::starEach jo X.env:=by exact wr0) (ky:(backTo jd (starEach jo X.env)).any (·.1)=false:=by exact wr0) (hd:(x == ("__debug__" : Str))=false:=by decide) :
  PS X (.Raise (some (.Call (.Name x np) (dy::jo) [] jd)) none pos) (RH E C t):=by
 intro gn s σ H D I h;have G:X.mg x=some (.ref C):=Ì I.ok.mod.kin I.ok.mod.glob hm;have ocl:OwnCls x C bm newId X.mg X.base:=by
  refine⟨G,?_⟩;have q:=O;unfold PySem.W.excIn at q
  split at q
  ·rename_i dd cd sl ho
   split at q
   ·rename_i C' bm' k0 k1 k2 k3 n k5 Ks hs
    simp only [Ğ,afx,beq_iff_eq] at q;obtain⟨⟨⟨⟨⟨rfl,rfl⟩,Ff⟩,ht⟩,hok⟩,Ls⟩:=q;obtain⟨nm,bs,mro,ns,qn,Di,sn,sub,ab,col,del⟩:=cd;dsimp only at Ks Ff hok Ls;subst Ks Ff;have oq:sl = #[k0,k1,k2,k3,some (.builtin n),k5]:=by obtain⟨l⟩:=sl;simp only at hs;rw[hs]
    subst oq;exact⟨bm',ns,nm,qn,bs,Di,sn,sub,ab,col,dd,k0,k1,k2,k3,k5,_,I.ok.mod.kin _ _ ho,.of_isNs (PySem.W.isNs_of_in I.ok.mod.kin hok),PySem.W.nsMap_none_of_in I.ok.mod.kin hok Ls,PySem.W.tail_of_in I.ok.mod.kin ht⟩
   ·cases q
  ·cases q
 obtain⟨tl,N,nm,q,bs,hdct,sn,sub,ab,col,dd,k0,k1,k2,k3,k5,mN,hC,hN,Ls,T⟩:=ocl.obj;refine wpAny_Raise_call_subT (C:=C) (nm:=nm) (q:=q) (N:=N) (bs:=bs) (bm:=tl) (hdct:=hdct) (sn:=sn) (sub:=sub) (ab:=ab) (col:=col) (dd:=dd) (k0:=k0) (k1:=k1) (k2:=k2) (k3:=k3) (k5:=k5) FB (mN:=mN) (T.hasType FB.hasBase) (I.ok.hd hc) (by rw[he];show (false || (backTo jd (starEach jo X.env)).any (·.1))=false;rw[ky];rfl) Ls (lE I hg G ⟨rfl,?_⟩ hd);have zz:=ha jd gn s σ H _ I h;rw[he] at zz ⊢;refine ş (ò zz (λ us bx ⟨vs,H1,I1,r1,ij,hE⟩=>⟨rfl,?_,I1.bk _ _ hC,hN.keeps I1.bk,T.keeps I1.bk,λ h' e hme=>KP L I1 hme hE⟩) λ _ _ y=>y);have:=r1.length;show us.length<=sizeLine;rw[à];lia
end
abbrev Cx.within (X:Cx) (pn:List (Á×Obj)) (E:À->Â->Prop):Cx:={ X with pn:=pn,xe:=E }
abbrev Cx.caughtIn (X:Cx) (ea:Á):Cx:={ X with A:=X.A.mark (some (.ref ea)),calm:=false,xe:=λ _ _=>False }
section
variable {X:Cx}{gn:List (Á×Obj)}{σ:St}{H:Hp}{s:Â}{pn:List (Á×Obj)}{E:À->Â->Prop}{ea:Á}
theorem Cx.Ok.within (ok:X.Ok):(X.within pn E).Ok:=
 ⟨ok.mod,ok.kind,ok.glob,ok.blt,ok.above,ok.inj,ok.has,ok.cab,ok.hd,ok.frames,ok.stk,ok.exf,ok.bs,ok.bsz,ok.noex,ok.exfs,ok.funs,ok.frf⟩
theorem Cx.Ok.unwithin (ok:(X.within pn E).Ok):X.Ok:=
 ⟨ok.mod,ok.kind,ok.glob,ok.blt,ok.above,ok.inj,ok.has,ok.cab,ok.hd,ok.frames,ok.stk,ok.exf,ok.bs,ok.bsz,ok.noex,ok.exfs,ok.funs,ok.frf⟩
theorem Inv.within (I:Inv X gn σ H s):Inv (X.within (X.pn++gn) E) [] σ H s:=
 ⟨I.ok.within,I.os,I.bare,I.base,I.loc,I.cell,I.free,I.freeC,λ p hp=>I.pin p (by simpa using hp),I.hok,I.len⟩
theorem Inv.unwithin {p2:List (Á×Obj)} (I:Inv (X.within (X.pn++gn) E) p2 σ H s):Inv X gn σ H s:=
 ⟨I.ok.unwithin,I.os,I.bare,I.base,I.loc,I.cell,I.free,I.freeC,λ p hp=>I.pin p (Ě _ hp),I.hok,I.len⟩
theorem Inv.mark (I:Inv X gn σ H s):Inv (X.caughtIn ea) gn σ H s:=
 ⟨⟨I.ok.mod,I.ok.kind,I.ok.glob,I.ok.blt,I.ok.above,I.ok.inj,I.ok.has,I.ok.cab,λ z=>Bool.noConfusion z,I.ok.frames,I.ok.stk,I.ok.exf,I.ok.bs,I.ok.bsz,I.ok.noex,I.ok.exfs,I.ok.funs,I.ok.frf⟩,I.os,I.bare,I.base,I.loc,I.cell,I.free,I.freeC,I.pin,I.hok,I.len⟩
theorem Inv.unmark (ok:X.Ok) (I:Inv (X.caughtIn ea) gn σ H s):Inv X gn σ H s:=
 ⟨ok,I.os,I.bare,I.base,I.loc,I.cell,I.free,I.freeC,I.pin,I.hok,I.len⟩
theorem M8 {M:Model}{A:Around}{E:À->Â->Prop}{i:Nat}{n:Str}{pos:Pos}{Q:Unit->Â->Prop} (I:Inv X gn σ H s) (hN:X.N.Nodup) (hi:X.N[i]? = some n) (hk:X.env.scope.names.lookup n=some .local)
  (h:∀ s',Inv X gn (σ.set i none) H s'->Q () s'):wpAny M A (do bindName X.env n .none;unbindBehindTheSuite X.env n pos) Q E s:=by
 obtain⟨m,hn,hl⟩:=id I.loc;have uh:(X.env.scope.kind == .class || (X.env.scope.kind == .module && X.env.locals != X.env.globals))=false:=by rw[I.ok.kind];rfl
 have Ao:X.env.kindOf n=some .local:=hk;have cy:i < σ.length:=by rw[I.len];exact (æ.mp hi).1
 refine Æ (wpAny_bindName (wpAny_storeName_local hk hn (λ h₁ hn₁ ae=>?_) uh));unfold unbindBehindTheSuite;refine ę ?_;unfold unbindName;refine Æ (wpAny_point (Æ ?_));unfold deleteName;simp only [Ao,uh];rw[Ä (by decide)];refine Æ (wpAny_nsDel_keeps hn₁ λ ap v hn₂ af=>?_);simp only [if_true,Option.isSome_some,Bool.not_true,Ę,if_false];have hs:=ae.trans af;obtain⟨oL,_,_,hoL,_⟩:=id hn;have Cb:=I.cne;refine Ë (wpAny_point (h _ ⟨I.ok,I.os,I.bare,⟨λ b o e n hb hx=>?_,λ b o e n hb hx=>?_,I.base.free,λ b o e hx=>?_,I.base.tups,I.base.frzs,I.base.tbls⟩,⟨_,hn₂,λ j y v' e1 e2 e3=>?_⟩,λ y c e=>?_,I.free,I.freeC,λ p hp=>?_,λ b ob e=>?_,by simpa using I.len⟩))
 ·exact (hs.2 b (é (í (Ö e) I.ok.above))).trans (I.base.keep b o e n hb hx)
 ·obtain⟨sl,e1⟩:=I.base.slot b o e n hb hx;exact⟨sl,(hs.2 b (é (í (Ö e) I.ok.above))).trans e1⟩
 ·obtain⟨o',e1⟩:=I.base.there b o e hx;exact⟨o',(hs.2 b (é (í (Ö e) I.ok.above))).trans e1⟩
 ·by_cases hj:j=i
  ·subst hj;rw[Ř cy] at e2;cases e2
  ·rw[ř (Ne.symm hj)] at e2;obtain⟨u',r',q⟩:=hl j y v' e1 e2 e3;refine⟨u',r',?_⟩;rcases q with ⟨k,e⟩ | ⟨k,c,e,z⟩
   ·refine .inl ⟨k,?_⟩;have:y≠n:=λ e=>hj (w4 hN e1 (e ▸ hi));simp [this,e]
   ·exact .inr ⟨k,c,e,z.sameBut hs (Cb y c e)⟩
 ·obtain⟨w',z⟩:=I.cell y c e;exact⟨w',z.sameBut hs (Cb y c e)⟩
 ·obtain⟨e,n,ne,nf,d⟩:=I.pin p hp;exact⟨(hs.2 p.1 ne).trans e,n,ne,nf,d⟩
 ·refine (I.hok b ob e).stay (λ c w' hc q=>(hs.2 c ?_).trans q) (λ _ q=>q) λ _ _ q=>q;rintro rfl;rcases hc with rfl | hc
  ·rw[I.free] at e;cases e
  ·rw[I.free] at hc;cases hc
def tTry (K:Ç) (E:XK) (CT:Á) (k i:Nat) (tb ts:TS):TS:=λ D σ H=>tb D σ H/\
 ∀ (cls:À) (H':Hp) (ea:Á) (ac:St),E cls none H'->ac.length=k->H' ea=none->PySem.W.exmOne K cls (.ref CT)=some true/\
  ts { nx:=λ ba H2=>D.nx (ba.set i none) H2,rt:=λ _ _=>False } (ac.set i (some (.ref ea))) (upd H' ea (CJ ea cls))
theorem S1 {EX:XK}{CT:Á}{x n:Str}{i:Nat}{body Ad:List Stmt}{gj:Stmt}{np Ew pos:Pos}{tb ts:TS} (zc:X.stack=X.env::X.outer) (Fg:X.env.frame=some X.env.locals)
  (hb:∀ (pn:List (Á×Obj)) (xe:À->Â->Prop),iM (lW X.prog X.w) (X.within pn xe) EX->ET (X.within pn xe) body tb)
  (hg:Gl X x) (hm:X.mg x=some (.ref CT)) (hN:X.N.Nodup) (hi:X.N[i]? = some n) (hk:X.env.scope.names.lookup n=some .local)
  (hs:∀ ea:Á,ET (X.caughtIn ea) (gj::Ad) ts) (hd:(x == ("__debug__" : Str))=false:=by decide) :
  PS X (.Try body [.ExceptHandler (some (.Name x np)) (some n) (gj::Ad) Ew] [] [] pos) (tTry X.K EX CT X.N.length i tb ts):=by
 intro gn s σ H D I h;obtain⟨h1,h2⟩:=h;refine wpAny_Try_except ?_;let XE:À->Â->Prop:=λ e s'=>∃ (σ:St) (H:Hp) (s:Â) (ea:Á) (cls a0:À) (H':Hp) (B:Heap),e=.ref ea/\Inv X gn σ H s/\s'.os=s.os/\AllBare s'.gens/\Fly X.prog X.w X.stack H s.heap ea cls a0 H' s'.heap B/\EX cls none H';have Fh:iM (lW X.prog X.w) (X.within (X.pn++gn) XE) EX:=by
  intro p2 σ H s e s' J hx;obtain⟨ea,cls,a0,H',B,rfl,os,bare,F,hE⟩:=hx;exact⟨σ,H,s,ea,cls,a0,H',B,rfl,J.unwithin,os,bare,F,hE⟩
 refine ò (hb (X.pn++gn) XE Fh [] s σ H D I.within h1) (λ f aj hf=>?_) λ e aj hx=>?_
 ·cases f with
  | next=>
   obtain⟨ac,H',J,q⟩:=hf;exact aT gn aj ac H' D J.unwithin q
  | brk=>obtain⟨ac,H',J,q⟩:=hf;exact⟨ac,H',J.unwithin,q⟩
  | cont=>obtain⟨ac,H',J,q⟩:=hf;exact⟨ac,H',J.unwithin,q⟩
  | ret u=>obtain⟨v,ac,H',J,r,q⟩:=hf;exact⟨v,ac,H',J.unwithin,r,q⟩
 ·obtain⟨ac,H0,s0,ea,cls,a0,H',B,rfl,J,os,bare,F,hE⟩:=hx;have fr:X.A.frames=some (X.env::X.outer):=by rw[<- zc];exact I.ok.frames
  have again:∀ h',Heap.FlyingW B X.stack ea cls a0 h'->aj.heap.UpToSlots h'->Fly X.prog X.w X.stack H0 s0.heap ea cls a0 H' h' B:=λ h' fl sm=>
   ⟨fl,F.keep,λ b o e n hb=>by
    obtain⟨sl,e1⟩:=F.slot b o e n hb;obtain⟨_,o',mw,hd⟩:=J.stack.mem hb;rw[e] at mw;cases mw;obtain⟨zq,e2⟩:=sm b _ e1 hd;exact⟨zq,e2⟩,F.free,F.there,F.tups,F.frzs,F.tbls,F.hok⟩
  refine wpAny_looks_onW fr Fg (by rw[<- zc];exact F.fl) λ au gb fk=>?_;refine wpAny_landsW gb λ bn dz fm=>?_;have F5:=again bn (by rw[zc];exact dz) (fk.trans fm);obtain⟨vx,J5⟩:=J.caught (s':={ aj with heap:=bn }) os bare F5;have ij:ac.length=X.N.length:=J.len;obtain⟨Rf,yz⟩:=h2 cls H' ea ac hE ij vx;refine wpAny_handleBy_cons (codeAny_handlers_test (lE (X:=X.caughtIn ea) J5.mark hg hm ?_ hd)) (by intro q;cases q);obtain⟨ob,Lr,Rg⟩:=dz.there;have LT0:PySem.W.Looks (model X.prog X.w) bn (typeOf (.ref ea)) ob.cls:=(PySem.W.Looks.ld Lr).andThen .now;have LT:PySem.W.Looks (model X.prog X.w) bn (typeOf (.ref ea)) cls:=by rw[<- Rg];exact LT0
  refine (PySem.W.exm_one (M:=model X.prog X.w) J5.kIn LT Rf).here ?_;refine codeAny_handlers_suite_as (lands_againW dz λ cf fl₆ sm₆=>?_);have F6:=again cf (by rw[zc];exact fl₆) ((fk.trans fm).trans sm₆);obtain⟨_,J6⟩:=J.caught (s':={ aj with heap:=cf }) os bare F6;refine jU (X:=X.caughtIn ea) J6.mark hN hi (.inl hk) (v:=.ref ea) rfl (λ s7 J7=>?_) (.inr hk);refine ò (hs ea gn s7 _ _ _ J7 yz) (λ f s8 hf=>?_) λ _ _ z=>False.elim z;cases f with
  | next=>
   obtain⟨cn,H8,J8,q⟩:=hf;exact M8 (J8.unmark I.ok) hN hi hk λ s9 J9=>⟨_,_,J9,q⟩
  | brk=>obtain⟨_,_,_,q⟩:=hf;exact False.elim q
  | cont=>obtain⟨_,_,_,q⟩:=hf;exact False.elim q
  | ret u=>obtain⟨_,_,_,_,_,q⟩:=hf;exact False.elim q
end
end L2
namespace L2
open PySem PySem.Spec PyProof.Rows TwZ PySem.Builtin PySem.Builtin.ObjectAttr PySem.Builtin.Getset_descriptor
structure ExcKit (K:Ç) (D:Á):Prop where
 ga:PySem.W.findIn K (.ref D) "__getattribute__" = some (some (.builtin "BaseException.__getattribute__"))
 gt:PySem.W.findIn K (.ref D) "__getattr__" = some none
 ca:PySem.W.findIn K (.ref D) "__class__" = some (some (.builtin "object.__class__"))
 gg:PySem.W.specialIn K (.builtin "object.__class__") "__get__" = some (some (.builtin "getset_descriptor.__get__"))
 tk:PySem.W.takesIn K (.builtin "object.__class__")=some true
 mo:PySem.W.mroIn K D (.type "object")=some true
 mb:PySem.W.mroIn K D (.type "BaseException")=some true
def GV (x D:Á) (h:Heap):Prop:=∃ o,h.get? x=some o/\o.cls=.ref D
theorem GV.ty {x D:Á}{h:Heap} (p:GV x D h) (M:Model):PySem.W.Looks M h (typeOf (.ref x)) (.ref D):=by
 obtain⟨o,h1,h2⟩:=p;exact h2 ▸ (PySem.W.Looks.ld h1).andThen .now
section
variable {prog:Ã}{x D:Á}
theorem NJ {M:Model}{A:Around}{E:À->Â->Prop}{s:Â} (Ae:À) {Q:Unit->Â->Prop} (L0:PySem.W.Looks M s.heap (typeOf (.ref x)) (.ref D)) (LB:PySem.W.Looks M s.heap (isSubtype (.ref D) (.type "BaseException")) true) (hq:Q () s) :
  wpAny M A (checkBuiltinCall "BaseException.__getattribute__" ⟨[.ref x,Ae],[]⟩) Q E s:=by
 obtain⟨h,g,d,t,os⟩:=s;have hk:builtinKind "BaseException.__getattribute__" = some .slot:=by decide +kernel
 have xb:splitId "BaseException.__getattribute__" = some ("BaseException","__getattribute__"):=by decide +kernel
 have ha:=PySem.F.args_bexc_ga (.ref x) Ae;simp only [checkBuiltinCall,hk,xb];refine Æ ?_;unfold isInstance
 repeat (first | with_reducible refine L0.at ?_ | with_reducible refine LB.at ?_ | wp_step)
 exact hq
theorem IU {A:Around}{E:À->Â->Prop}{s:Â}{Q:Option À->Â->Prop} (Z:ExcKit K D) (X:K.In s.heap) (p:GV x D s.heap) (hq:Q (some (.ref D)) { s with toks:=s.toks+1 }):wpAny (model prog w) A (getAttr? (.ref x) "__class__") Q E s:=by
 obtain⟨hh,g,d,t,os⟩:=s;have L0:=p.ty (model prog w);have L1:=Ş (M:=model prog w) X Z.ga;have L2:=Ş (M:=model prog w) X Z.gt;have L3:=Ş (M:=model prog w) X Z.ca;have L4:PySem.W.Looks (model prog w) hh (getOf (some (.builtin "object.__class__"))) (some (.builtin "getset_descriptor.__get__")):=PySem.W.looks_specialIn X Z.gg;have L5:=PySem.W.looks_takesIn (M:=model prog w) X Z.tk;have L6:=PySem.W.looks_mroIn (M:=model prog w) X Z.mo;have LF:PySem.W.Looks (model prog w) hh (find (.ref x) (.ref D) "__class__") (.bind (.builtin "getset_descriptor.__get__") (.builtin "object.__class__")):=
  L3.andThen (L4.andThen ((show PySem.W.Looks (model prog w) hh (dataDescriptor? (some (.builtin "object.__class__")) (some (.builtin "getset_descriptor.__get__"))) (some (.builtin "getset_descriptor.__get__",.builtin "object.__class__")) from L5.andThen .now).andThen (PySem.W.Looks.tag .now)))
 have LB:=PySem.W.looks_mroIn (M:=model prog w) X Z.mb;have hk:builtinKind "BaseException.__getattribute__" = some .slot:=by decide +kernel
 have xb:splitId "BaseException.__getattribute__" = some ("BaseException","__getattribute__"):=by decide +kernel
 have Li:(Value.builtin "BaseException.__getattribute__" == Value.builtin "object.__getattribute__")=false:=by decide +kernel
 unfold getAttr? getAttrBy? getAttrBy;refine Æ (wpAny_mkText (Æ (Ů (ô (Æ (L0.at (Æ (L1.at ?_))))))));simp only [Li,Bool.and_false,Ę,if_false];unfold getAttrByItsOwn hookBefore;refine Æ ?_;rw[show onTheHeap (Value.ref D)=true from rfl,Å rfl];refine L2.at (Æ (Ů (ô ?_)));unfold callGetattribute boundAndCalled;rw[Ä (by decide)];refine Æ (wpAny_of_eq (PySem.F.excAttr_ValueError.ga.bind (.ref x)) ?_);show wpAny _ _ (call (.builtin "BaseException.__getattribute__") [.ref x,.str "__class__" t]) _ _ _;refine wpAny_call (codeAny_call_builtin PySem.F.excAttr_ValueError.ga.plain PySem.F.entry_bexc_ga ?_);refine NJ (.str "__class__" t) L0 LB ?_;unfold Builtin.«object.__getattribute__»;refine Æ (Ë ?_);refine Æ (Ë ?_);refine Æ (L0.at (Æ (LF.at ?_)));show wpAny _ _ (holding [.builtin "object.__class__"] (call (.builtin "getset_descriptor.__get__") [.builtin "object.__class__",.ref x,.ref D]) >>= ret) _ _ _;refine Æ (ô (wpAny_call ?_));refine codeAny_call_builtin PySem.W.KF.slot_gs.plain PySem.W.KF.entry_gs (PySem.W.KF.slot_gs.check _ _ _ _ _ _ _ _ PySem.W.KF.type_class (PySem.W.KF.args_gs _ _ _) ?_);unfold Builtin.«getset_descriptor.__get__» descrGet;rw[PySem.W.dga_obj];refine Æ (Ë ?_);unfold descrGetter descrCheckInstance descrNameAndClass isInstance;simp only [PySem.W.KF.owner_class];repeat lk
 refine⟨Code.quiet_builtin _ (by decide +kernel),codeAny_builtin PySem.W.KF.entry_class ?_⟩;unfold Builtin.«object.__class__» shownTypeOf;repeat lk
 exact hq
theorem MH (Z:ExcKit K D) (vh:∃ c d cd sl,K.lookup D=some ⟨c,d,.cls cd,sl⟩):PySem.W.KitX K (.ref x) (.ref D) (GV x D) where
 ty:=λ M _ _ p=>p.ty M
 it:=λ _ _ X _=>by
  obtain⟨c',d',cd',zq,ho⟩:=vh;intro A' Q' E' s' k q;unfold isType loadHead;exact Æ (wpAny_loadPart (k _ _ (X _ _ ho)) (Ë q))
 ne:=λ _ _ _ _ _ _ X Bd=>by
  obtain⟨c',d',cd',zq,ho⟩:=vh;refine Bool.eq_false_iff.mpr λ q=>?_;have e:=Value.ref.inj (beq_iff_eq.mp q);rw[<- e,X _ _ ho] at Bd;cases Bd
 ca:=λ X p k=>IU Z X p k
end
def QP (K:Ç):List V->Hp->VK->Prop:=λ xs H Q=>∃ (ea D:Á) (c:V) (cv:À) (b:Bool),xs=[.ref ea,c]/\bH c cv/\H ea=some (CJ ea (.ref D))/\ExcKit K D/\(∃ c d cd sl,K.lookup D=some ⟨c,d,.cls cd,sl⟩)/\PySem.W.kitOne K (.ref D) cv=some b/\(∀ u,bH c u->u=cv)/\Q (.bl b) H
section
variable {X:Cx}
theorem JF:eY X (.builtin "isinstance") (QP X.K):=by
 intro gn s σ H xs us Q I r h;obtain⟨ea,D,c,cv,b,rfl,rc,he,Z,vh,e,hu,q⟩:=h;obtain⟨u,v,rfl,ru,rv⟩:=r.two;cases (show u=Value.ref ea from ru);have:=hu v rv;subst this;obtain⟨p,_,_⟩:=(show dP X.prog X.w H s.heap ea (CJ ea (.ref D)) from I.hok ea _ he);exact ĉ (MH Z vh) I.kIn p e (λ z=>nomatch z) λ tk=>⟨.bl b,H,I.tok tk,rfl,q⟩
theorem eS {K:Ç} (hK:X.K=K):eY X (.builtin "isinstance") (QP K):=by subst hK;exact JF
def OG:V->List V->Hp->VK->Prop:=λ x vs H Q=>∃ (l:Á) (bs:List Bool),x=.ref l/\vs=[.bl true]/\H l=some (.lst (bs.map V.bl))/\Q (.int (bs.countP id:Nat)) H
theorem IG:TW X "list.count" OG:=by
 intro gn s σ H x vs v us Q I rx rv h;obtain⟨l,bs,rfl,rfl,hH,q⟩:=h;cases rx;obtain⟨u,rfl,ru⟩:=rv.one;cases ru;obtain⟨z,gx,n,r,hl,e⟩:=I.lstM hH;have key:∀ (bs:List Bool) (gx:List À),bG (bs.map V.bl) gx->gx=bs.map Value.bool:=by
  intro bs
  induction bs with
  | nil=>intro gx r;cases r;rfl
  | cons b bs ih=>intro gx r;cases r with | cons r1 r2=>cases r1;rw[ih _ r2];rfl
 have ek:=key bs gx r;subst ek;refine ą F.slot_list_count ⟨_,e,rfl⟩ F.entry_list_count (F.args_list_count_2 _ _) (SeqAt.list_countAt l (bs.map Value.bool).toArray n none #[] (.bool true) (λ v=>match v with | .bool b=>b | _=>false)) ⟨e,λ y hy=>?_,?_⟩
 ·obtain⟨b,_,rfl⟩:=ä.1 (show y∈bs.map Value.bool by simpa using hy);cases b
  ·exact SeqAt.EqAt.bool_bool false true
  ·exact ĵ _
 ·have ec:(List.countP (λ v=>match v with | Value.bool b=>b | _=>false) (bs.map Value.bool).toArray.toList)=bs.countP id:=by
   rw[List.toList_toArray,List.countP_map];rfl
  rw[ec];exact⟨.int _,H,I.tok _,⟨_,rfl⟩,q⟩
theorem KC (hK:X.K=K):SlR X (UU K):=by subst hK;exact O6
end
theorem Fun.okR {x qual:Str}{st:Stmt}{ps:List Str}{k:Nat}{sp:Sp} (F:Fun K x qual st f fd) (N) (qw:FnScope N ps (aL st)->∀ (iu:À) (A:Around) (outer:List Env) (s:Â) (H:Hp) (vs:List V) (Q:VK) (E:XK),Room k (A.deeper (envOfC qual (aL st) s.heap.objs.size f iu))->sp vs H Q E->
   Leaves (CM (lW P w) P w K mg base N qual (aL st) f iu A outer s H E) E->
   ∃ t,ET (CM (lW P w) P w K mg base N qual (aL st) f iu A outer s H E) (jJ st) t/\t { nx:=λ _ H'=>Q .non H',rt:=Q } (pK N vs) H) (S:FnScope N ps (aL st):=by exact {}) (len:∀ vs H Q E,sp vs H Q E->vs.length=ps.length:=by intro vs H Q E h;repeat first | (obtain⟨rfl,_⟩:=h;rfl) | obtain⟨_,h⟩:=h):FnOk P w K mg base (lW P w) (k+1) f fd ps sp:=by
 obtain⟨oc,od,kV,doc,pm,an,iu,ct,yf,rfl,lk,sj⟩:=F.ex;exact R3 lk sj S len λ A outer s H vs Q E hr lh=>qw S iu A outer s H vs Q E hr lh ⟨rfl,rfl,rfl,λ _ _ h=>h⟩
structure CalleeR (P:Ã) (w:World) (K:Ç) (mg:Str->Option À) (base:Heap) (x:Str) (ps:List Str) (k:Nat) (sp:Sp) (f:Á) (fd:FuncData):Prop where
 ok:FnOk P w K mg base (lW P w) k f fd ps sp
 mg:mg x=some (.ref f)
 kp:PySem.W.keepIn K (.ref f)=true
 bd:gQ K fd ps []
structure MCalR (P:Ã) (w:World) (K:Ç) (mg:Str->Option À) (base:Heap) (C:Á) (m:Str) (ps:List Str) (k:Nat) (sp:Sp) (f:Á) (fd:FuncData):Prop where
 cls:Cls K C
 mt:Meth K C m f
 ok:FnOk P w K mg base (lW P w) k f fd ps sp
 bd:gQ K fd ps []
structure ExC (K:Ç) (x:Str) (C:Á):Prop where
 ns:PySem.W.nsIn K mainGlobals x=some (some (.ref C))
 exc:PySem.W.excIn K C [.type "ValueError",.type "Exception",.type "BaseException",.type "object"] "ValueError.__new__" = true
theorem OW {X:Cx}{a1 a2 a3 a4 a5 a6 a7 a8:Str}{k1 k2 k3 k4 k5 k6 k7 k8:Nat}{p1 p2 p3 p4 p5 p6 p7 p8:Pos} :
  PA X [.Constant (.str a1) k1 p1,.Constant (.str a2) k2 p2,.Constant (.str a3) k3 p3,.Constant (.str a4) k4 p4,.Constant (.str a5) k5 p5,.Constant (.str a6) k6 p6,.Constant (.str a7) k7 p7,.Constant (.str a8) k8 p8]
   (bM (tC (.str a1)) (bM (tC (.str a2)) (bM (tC (.str a3)) (bM (tC (.str a4)) (bM (tC (.str a5)) (bM (tC (.str a6)) (bM (tC (.str a7)) (bM (tC (.str a8)) fX)))))))):=
 have h8:=aB (X:=X) (aK (x:=a8)) aD;have h7:=aB (aK (x:=a7)) h8;have h6:=aB (aK (x:=a6)) h7;have h5:=aB (aK (x:=a5)) h6;have h4:=aB (aK (x:=a4)) h5;have h3:=aB (aK (x:=a3)) h4;have h2:=aB (aK (x:=a2)) h3
 aB (aK (x:=a1)) h2
theorem wW:bootBuiltins "ValueError" = some (.type "ValueError"):=by decide +kernel
end L2
namespace Tw
open PySem L2
structure TxtW (mg:Str->Option À) (im ik gp ia ib gr ic gw gu:Á):Prop where
 m_TipError:mg "TipError" = some (.ref im)
 m_NoNet:mg "NoNet" = some (.ref ik)
 m_NoVessel:mg "NoVessel" = some (.ref gp)
 m_TooLong:mg "TooLong" = some (.ref ia)
 m_TooMany:mg "TooMany" = some (.ref ib)
 m_TooMuch:mg "TooMuch" = some (.ref gr)
 m_Nothing:mg "Nothing" = some (.ref ic)
 m_NoText:mg "NoText" = some (.ref gw)
 m_NoRow:mg "NoRow" = some (.ref gu)
 b_ValueError:mg "ValueError" = none
structure KindOf (K:Ç) (ik gp ia ib gr ic gw gu:Á) (D:Á) (bs:List Bool):Prop where
 kit:ExcKit K D
 cl:∃ c d cd sl,K.lookup D=some ⟨c,d,.cls cd,sl⟩
 val:PySem.W.kitOne K (.ref D) (.type "ValueError")=some true
 ks:∃ b0 b1 b2 b3 b4 b5 b6 b7,bs=[b0,b1,b2,b3,b4,b5,b6,b7]/\PySem.W.kitOne K (.ref D) (.ref ik)=some b0/\PySem.W.kitOne K (.ref D) (.ref gp)=some b1/\PySem.W.kitOne K (.ref D) (.ref ia)=some b2/\
  PySem.W.kitOne K (.ref D) (.ref ib)=some b3/\PySem.W.kitOne K (.ref D) (.ref gr)=some b4/\PySem.W.kitOne K (.ref D) (.ref ic)=some b5/\PySem.W.kitOne K (.ref D) (.ref gw)=some b6/\PySem.W.kitOne K (.ref D) (.ref gu)=some b7
def uN:Sp:=λ vs H Q _=>∃ (n lo hi:Int),vs=[.int n,.int lo,.int hi]/\Q (.bl (decide (lo<=n) && decide (n<=hi))) H
theorem zL (F:Fun K "is_whole" "is_whole" (aU 48) f fd) (T:Txt mg):FnOk P w K mg base gP 1 f fd ["thing","least","most"] uN:=by
 refine F.ok ["thing","least","most"] λ sc iu A outer s H vs Q E hr h=>?_
 ·obtain⟨n,lo,hi,rfl,k⟩:=h;refine⟨_,(aI (aO (gG (bE (i9 (K:=K) rfl) rfl T.b_isinstance cQ (aB (pv 0) (aB (iB (v:=.ty "int") rfl T.b_int fZ rfl) aD))) (gG (zE (bE (i9 (K:=K) rfl) rfl T.b_isinstance cQ (aB (pv 0) (aB (iB (v:=.ty "bool") rfl T.b_bool u6 rfl) aD)))) (iK (vE vF vF (pv 1) (pv 0) (pv 2))))))),?_⟩;refine⟨_,rfl,_,"int",_,true,rfl,.inl (.int _),MI K,_,rfl,eX ?_⟩;refine⟨_,rfl,_,"bool",_,false,rfl,.inl (.int _),MJ K,_,rfl,_,rfl,eX ?_⟩;refine⟨_,rfl,_,rfl,_,_,rfl,rfl,_,rfl,eA (λ h1=>?_) λ h1=>?_⟩
  ·rw[h1,Bool.true_and] at k;exact⟨_,rfl,_,_,rfl,rfl,k⟩
  ·rw[Bool.not_eq_true] at h1;rw[h1,Bool.false_and] at k;exact k
def pM (K:Ç) (cV:Á):Sp:=λ vs H Q E=>∃ (x:V) (net:Net) (v:Int),vs=[x,.int v]/\Is K H (iT net) x/\((0<=v/\v < net.vs.length/\Q .non H)\/(¬ (0<=v/\v < net.vs.length)/\E (.ref cV) none H))
theorem tF (F:Fun K "need_vessel" "need_vessel" (aU 45) f fd) (T:Txt mg) (jv:ExC K "NoVessel" gp) (ir:Callee P w K mg base "is_whole" ["thing","least","most"] 1 uN f1 je) :
  FnOk P w K mg base (lW P w) 2 f fd ["net","number"] (pM K gp):=by
 refine F.okR ["net","number","vessels","spouts"] λ sc iu A outer s H vs Q E hr h L=>?_
 ·obtain⟨x,net,v,rfl,hx,k⟩:=h;refine⟨_,(aF (bK (pv 0) (bC (K:=K) (n:=2) rfl rfl (aH (gL 2 sc.nd) (aH (gL 3 sc.nd) bA))))
   (aI (bJ (dX (cS (bZ ir hr (aB (pv 1) (aB aG (aB (aS gI (oQ K T.b_len (pv 2)) aG) aD)))))) (aI (gA L rfl rfl jv.exc jv.ns ĝ (aB aK aD))) aT))),?_⟩
  obtain⟨a,b,c,xs,ys,rfl,q,q1,l1,q2,l2⟩:=j5 hx;have ue:xs.length=net.vs.length:=by rw[l1.length,Ê]
  refine⟨_,rfl,a,_,rfl,q,rfl,_,_,rfl,_,_,rfl,rfl,?_⟩;refine⟨_,rfl,_,rfl,b,xs,rfl,.inr q1,_,_,rfl,rfl,v,0,_,rfl,_,rfl,?_⟩;rcases k with ⟨h0,h1,k⟩ | ⟨hn,k⟩
  ·rw[Û h0,Û (show v<=((xs.length:Nat):Int) - 1 by lia)];exact cX k
  ·have:(decide (0<=v) && decide (v<=((xs.length:Nat):Int) - 1))=false:=by
    rw[afy];intro z;rw[Ğ,afz,afz] at z;exact hn ⟨z.1,by lia⟩
   rw[this];exact eX ⟨by show 1<=100;decide,k⟩
def QG:List Str:=["net","vessel","long","many","much","nothing","text","row"]
def DJ (K:Ç) (ik gp ia ib gr ic gw gu:Á):Sp:=λ vs H Q _=>∃ (ea D:Á) (bs:List Bool) (j:Nat) (wd:Str),vs=[.ref ea]/\H ea=some (CJ ea (.ref D))/\
 KindOf K ik gp ia ib gr ic gw gu D bs/\bs.countP id=1/\bs[j]? = some true/\(∀ i b,i < j->bs[i]? = some b->b=false)/\QG[j]? = some wd/\∀ p H',aJ H H'->bS K H' p [.str wd]->Q (.ref p) H'
theorem zQ (F:Fun K "_law_word" "_law_word" (aU 100) f fd) (T:Txt mg) (W:TxtW mg im ik gp ia ib gr ic gw gu) :
  FnOk P w K mg base gP 1 f fd ["error"] (DJ K ik gp ia ib gr ic gw gu):=by
 refine F.ok ["error","kinds"] λ sc iu A outer s H vs Q E hr h=>?_
 ·obtain⟨ea,D,bs,j,wd,rfl,he,kd,hc,hj,jr,hw,k⟩:=h
  (with_reducible refine⟨_,(aF (pL 1 sc.nd (aZ (aB (bE (eS (K:=K) rf) rf (by with_unfolding_all exact T.b_isinstance) cQ (aB (pv 0) (aB (cE (v:=.ref ik) rf (by with_unfolding_all exact⟨_,W.m_NoNet,rfl⟩)) aD))) (aB (bE (eS (K:=K) rf) rf (by with_unfolding_all exact T.b_isinstance) cQ (aB (pv 0) (aB (cE (v:=.ref gp) rf (by with_unfolding_all exact⟨_,W.m_NoVessel,rfl⟩)) aD))) (aB (bE (eS (K:=K) rf) rf (by with_unfolding_all exact T.b_isinstance) cQ (aB (pv 0) (aB (cE (v:=.ref ia) rf (by with_unfolding_all exact⟨_,W.m_TooLong,rfl⟩)) aD))) aD)))))
   (aF (pL 1 sc.nd (aS mS (pv 1) (aZ (aB (bE (eS (K:=K) rf) rf (by with_unfolding_all exact T.b_isinstance) cQ (aB (pv 0) (aB (cE (v:=.ref ib) rf (by with_unfolding_all exact⟨_,W.m_TooMany,rfl⟩)) aD))) (aB (bE (eS (K:=K) rf) rf (by with_unfolding_all exact T.b_isinstance) cQ (aB (pv 0) (aB (cE (v:=.ref gr) rf (by with_unfolding_all exact⟨_,W.m_TooMuch,rfl⟩)) aD))) (aB (bE (eS (K:=K) rf) rf (by with_unfolding_all exact T.b_isinstance) cQ (aB (pv 0) (aB (cE (v:=.ref ic) rf (by with_unfolding_all exact⟨_,W.m_Nothing,rfl⟩)) aD))) aD))))))
   (aF (pL 1 sc.nd (aS mS (pv 1) (aZ (aB (bE (eS (K:=K) rf) rf (by with_unfolding_all exact T.b_isinstance) cQ (aB (pv 0) (aB (cE (v:=.ref gw) rf (by with_unfolding_all exact⟨_,W.m_NoText,rfl⟩)) aD))) (aB (bE (eS (K:=K) rf) rf (by with_unfolding_all exact T.b_isinstance) cQ (aB (pv 0) (aB (cE (v:=.ref gu) rf (by with_unfolding_all exact⟨_,W.m_NoRow,rfl⟩)) aD))) aD)))))
   (aF (bJ (Ć (lO (dX (cS (bE (eS (K:=K) rf) rf (by with_unfolding_all exact T.b_isinstance) cQ (aB (pv 0) (aB (iB (v:=.ty "ValueError") rf W.b_ValueError wW rf) aD))))) (jN (aW qL (dH (K:=K) rf ó PySem.F.slot_list_count PySem.F.type_list_count (um IG) (pv 1) (aB fW aD)) aG (aX _))))) (aI (aO (bN (aB aK aD)))) aT)
   (aI (aO (bN (aB (px K (aZ OW) (dH (K:=K) rf ó af7 af8 (um BO) (pv 1) (aB fW aD))) aD)))))))),?_⟩)
  obtain⟨b0,b1,b2,b3,b4,b5,b6,b7,rfl,k0,k1,k2,k3,k4,k5,k6,k7⟩:=kd.ks;refine (bU _ rfl (NU ea D _ _ b0 rfl ⟨rfl,he,kd.kit,kd.cl,k0,λ u h=>h,?_⟩));refine (bU _ rfl (NU ea D _ _ b1 rfl ⟨rfl,he,kd.kit,kd.cl,k1,λ u h=>h,?_⟩));refine (bU _ rfl (NU ea D _ _ b2 rfl ⟨rfl,he,kd.kit,kd.cl,k2,λ u h=>h,(sz0 3),λ l1 h1=>?_⟩));have Lu:=È (o:=HO.lst [.bl b0,.bl b1,.bl b2]) h1 _ _ he;refine (bU _ rfl (bU _ rfl (NU ea D _ _ b3 rfl ⟨rfl,Lu,kd.kit,kd.cl,k3,λ u h=>h,?_⟩)));refine (bU _ rfl (NU ea D _ _ b4 rfl ⟨rfl,Lu,kd.kit,kd.cl,k4,λ u h=>h,?_⟩));refine (bU _ rfl (NU ea D _ _ b5 rfl ⟨rfl,Lu,kd.kit,kd.cl,k5,λ u h=>h,(sz0 3),λ l2 h2=>?_⟩));have s2:=È (o:=HO.lst [.bl b3,.bl b4,.bl b5]) h2;refine (JP l1 l2 _ _ rfl ⟨rfl,s2 _ _ aE,aE,(sz0 6),λ l3 h3=>?_⟩);have s3:=È (o:=HO.lst ([.bl b0,.bl b1,.bl b2]++[.bl b3,.bl b4,.bl b5])) h3;have Rh:=s3 _ _ (s2 _ _ Lu);refine (bU _ rfl (bU _ rfl (NU ea D _ _ b6 rfl ⟨rfl,Rh,kd.kit,kd.cl,k6,λ u h=>h,?_⟩)));refine (bU _ rfl (NU ea D _ _ b7 rfl ⟨rfl,Rh,kd.kit,kd.cl,k7,λ u h=>h,(sz0 2),λ l4 h4=>?_⟩));have s4:=È (o:=HO.lst [.bl b6,.bl b7]) h4;refine (JP l3 l4 _ _ rfl ⟨rfl,s4 _ _ aE,aE,(sz0 8),λ l5 h5=>?_⟩);have s5:=È (o:=HO.lst ([.bl b0,.bl b1,.bl b2]++[.bl b3,.bl b4,.bl b5]++[.bl b6,.bl b7])) h5;have sH:aJ H _:=((((È h1).trans s2).trans s3).trans s4).trans s5;have he5:=s5 _ _ (s4 _ _ Rh);refine (bU _ rfl (NU ea D _ _ true rfl ⟨rfl,he5,kd.kit,kd.cl,kd.val,λ u h=>h,(bU _ rfl (cX ?_))⟩));refine⟨_,rfl,.inl ⟨rfl,_,É aE⟩,l5,[b0,b1,b2,b3,b4,b5,b6,b7],rfl,rfl,aE,rfl,_,rfl,VD (by rw[hc];rfl) ?_⟩;refine⟨(sz0 8),λ l6 h6=>?_⟩;have s6:=È (o:=HO.lst [.str "net",.str "vessel",.str "long",.str "many",.str "much",.str "nothing",.str "text",.str "row"]) h6;have hj8:j < 8:=(æ.mp hj).1;refine (bU _ rfl ⟨.inl ⟨rfl,_,É (s6 _ _ aE)⟩,(JP l5 _ _ j rfl ⟨rfl,s6 _ _ aE,rfl,rfl,hj8,λ z hz=>?_,λ i z hi hz=>?_,?_⟩)⟩)
  ·have:([b0,b1,b2,b3,b4,b5,b6,b7].map V.bl)[j]? = some z:=hz;rw[Ø,hj] at this;cases this;rfl
  ·have:([b0,b1,b2,b3,b4,b5,b6,b7].map V.bl)[i]? = some z:=hz;rw[Ø] at this;obtain⟨b,hb,rfl⟩:=ð.mp this;rw[jr i b hi hb];rfl
  ·refine .inl ⟨l6,_,(j:Int),_,rfl,rfl,É aE,eJ (show (QG.map V.str)[j]? = some (.str wd) by rw[Ø,hw];rfl),(sz0 1),λ p hp=>?_⟩;exact k p _ ((sH.trans s6).trans (È hp)) (Ò aE)
def tS (K:Ç) (C cV:Á):Sp:=λ vs H Q E=>∃ (r:Á) (S:RunS) (fp:List Á) (v a:Int) (B:Nat),vs=[.ref r,.int v,.int a]/\cB K C H r S fp/\RunSz S B/\B<=1000000/\
 ((0<=v/\v < S.net.vs.length/\∀ H',iI fp H H'->cB K C H' r (S.pour v a) fp->Q .non H')\/(¬ (0<=v/\v < S.net.vs.length)/\E (.ref cV) none H))
theorem LS (F:Fun K "pour" "Run.pour" (bF (aU 54) 1) f fd) (T:Txt mg) (tx:RunTx K C) (ie:CalleeR P w K mg base "need_vessel" ["net","number"] 2 (pM K gp) f1 je)
  (mq:Callee P w K mg base "moment_poured" ["moment","vessel","amount"] 1 (rK K) f2 ju):FnOk P w K mg base (lW P w) 3 f fd ["self","vessel","amount"] (tS K C gp):=by
 refine F.okR ["self","vessel","amount"] λ sc iu A outer s H vs Q E hr h L=>?_
 ·obtain⟨r,S,fp,v,a,B,rfl,⟨dx,np,R,M,T',ts,rs,ms,mv,c,rfl⟩,sz,hB,k⟩:=h;refine⟨_,(aF (bQ (dL ie.ok (hr.mono (by decide)) rfl ie.mg ie.kp ie.bd .nil (cY L) (aB (dF (K:=K) rfl (pv 0) rfl) (aB (pv 1) aD))))
   (aF (bQ (dH (K:=K) rfl ó Ā ā cD (dF (K:=K) rfl (pv 0) rfl) (aB (bZ mq hr (aB (px K (dF (K:=K) rfl (pv 0) rfl) (qI kP aG)) (aB (pv 1) (aB (pv 2) aD)))) aD)))
   (aI (bQ (dH (K:=K) rfl ó Ā ā cD (dF (K:=K) rfl (pv 0) rfl) (aB (bN (aB aK (aB (pv 1) (aB (pv 2) aD)))) aD)))))),?_⟩
  obtain⟨ma,po,st,rfl,q,hs,hp⟩:=jO c.cM;have pl:=c.ok.cur.pl;have nd:=c.nd;have Bk:R≠M:=λ z=>by rw[ă] at nd;exact nd.1 (by rw[z];simp)
  have hnh:=c.ok.nok.hi;have lrs:rs.length<=B:=by rw[c.lR.length,Ê];exact sz.rows
  have lms:ms.length<=B:=by rw[c.lM.length,Ê];exact sz.pre
  refine⟨_,rfl,r,C,dx,_,_,rfl,c.ins,tx.cls,tx.net,A4,_,rfl,np,S.net,v,rfl,c.net,?_⟩;rcases k with ⟨v0,v1,k⟩ | ⟨hn,k⟩;rotate_left
  ·exact .inr ⟨hn,k⟩
  refine .inl ⟨v0,v1,?_⟩;refine⟨_,rfl,r,C,dx,_,_,rfl,c.ins,tx.cls,tx.moments,dZ,.inl ⟨rfl,_,É c.hM⟩,?_⟩;refine⟨_,rfl,r,C,dx,_,_,rfl,c.ins,tx.cls,tx.moments,dZ,1,rfl,.inl ⟨M,_,-1,_,rfl,rfl,É c.hM,iF _ _,_,rfl,_,rfl,.ref ma,S.net.vs.length,S.cur,v,a,rfl,c.cM,pl,hnh,v0,v1,λ p2 H2 s2 Lq=>?_⟩⟩;refine⟨M,_,_,rfl,rfl,s2 _ _ c.hM,nJ (by simp;lia),?_⟩;have muM:lS (H2 M):=by rw[s2 _ _ c.hM];exact trivial
  have Cm:bW K H2 (upd H2 M (.lst (ms++[V.ref ma]++[.ref p2]))):=ć å muM;have rm:r≠M:=λ z=>c.r_notin (by rw[z];simp);have xa:r≠R:=λ z=>c.r_notin (by rw[z];simp);refine⟨_,rfl,r,C,dx,_,_,rfl,by rw[aM rm];exact s2 _ _ c.ins,tx.cls,tx.rows,G8,.inl ⟨rfl,_,É (by rw[aM Bk];exact s2 _ _ c.hR)⟩,?_⟩;refine⟨_,rfl,_,rfl,(sz0 3),λ p3 Co=>?_⟩;have m4:aJ (upd H2 M (.lst (ms++[V.ref ma]++[.ref p2]))) (upd (upd H2 M (.lst (ms++[V.ref ma]++[.ref p2]))) p3 (.tup [.str "pour",.int v,.int a])):=È Co;have Fd:upd (upd H2 M (.lst (ms++[V.ref ma]++[.ref p2]))) p3 (.tup [.str "pour",.int v,.int a]) R=some (.lst rs):=m4 _ _ (by rw[aM Bk];exact s2 _ _ c.hR);refine⟨R,_,_,rfl,rfl,Fd,nJ (by lia),?_⟩;have Qz:lS (upd (upd H2 M (.lst (ms++[V.ref ma]++[.ref p2]))) p3 (.tup [.str "pour",.int v,.int a]) R):=by rw[Fd];exact trivial
  have sw:bW K (upd (upd H2 M (.lst (ms++[V.ref ma]++[.ref p2]))) p3 (.tup [.str "pour",.int v,.int a])) (upd (upd (upd H2 M (.lst (ms++[V.ref ma]++[.ref p2]))) p3 (.tup [.str "pour",.int v,.int a])) R (.lst (rs++[.ref p3]))):=ć å Qz;have Er:bW K H (upd (upd (upd H2 M (.lst (ms++[V.ref ma]++[.ref p2]))) p3 (.tup [.str "pour",.int v,.int a])) R (.lst (rs++[.ref p3]))):=((s2.ts.trans Cm).trans m4.ts).trans sw;have keep:∀ (b:Á) (o:HO),b≠M->b≠R->H b=some o->upd (upd (upd H2 M (.lst (ms++[V.ref ma]++[.ref p2]))) p3 (.tup [.str "pour",.int v,.int a])) R (.lst (rs++[.ref p3])) b=some o:=λ b o h1 h2 e=>by
   rw[aM h2];exact m4 _ _ (by rw[aM h1];exact s2 _ _ e)
  refine k _ (λ b o hb e=>keep b o (λ z=>hb (by rw[z];simp)) (λ z=>hb (by rw[z];simp)) e) ⟨dx,np,R,M,T',ts,rs++[.ref p3],ms++[.ref ma],.ref p2,?_,rfl⟩;rw[ă] at nd;have vv:=nd.2;rw[ă] at vv;exact {
   ins:=keep _ _ rm xa c.ins
   net:=Ï Er _ _ c.net
   hR:=aE
   lR:=by
    show IsL K _ ((S.rows++[Row.pour v a]).map OB) _;rw[Ð];exact ď (Ý (ds:=[.str "pour",.int v,.int a]) (sw _ _ (Ò aE)) (.cons (Is.s _) (.cons (Is.i _) (.cons (Is.i _) .nil)))) (Õ Er _ _ c.lR)
   hM:=by rw[aM (Ne.symm Bk)];exact m4 _ _ aE
   lM:=by
    show IsL K _ ((S.pre++[S.cur]).map mV) _;rw[Ð];exact ď (Ï Er _ _ c.cM) (Õ Er _ _ c.lM)
   cM:=Ï ((Cm.trans m4.ts).trans sw) _ _ Lq
   hT:=keep _ _ (λ z=>vv.1 (by rw[<- z];simp)) (λ z=>nd.1 (by rw[<- z];simp)) c.hT
   tl:=c.tl
   ti:=λ i t l h1 h2=>by
    have hm:=Ó h1;exact keep _ _ (λ z=>vv.1 (by rw[<- z];simp [hm])) (λ z=>nd.1 (by rw[<- z];simp [hm])) (c.ti i t l h1 h2)
   nd:=c.nd
   ok:=c.ok.pour v a }
end Tw
namespace L2
open PySem PySem.Spec PyProof.Rows
section
variable {M:Model}{A:Around}{E:À->Â->Prop}{s:Â}
end
section
variable {X:Cx}
end
end L2
namespace Tw
open PySem L2
section
variable {H H':Hp}{A A':Á->Prop}{S:RunS}{v:V}{a ha tl bl:Á}{st:V}{ts:List Á}{bs:List V}
end
section
variable {H:Hp}
end
theorem nO (net:Net) (m:Mom):∀ k,(gW net m k).tick=m.tick+k
 | 0=>by simp [gW]
 | k+1=>by
  show (gW net m k).tick+1=_;rw[nO net m k];lia
def tQ (K:Ç) (C cV:Á):Sp:=λ vs H Q E=>∃ (r:Á) (S:RunS) (fp:List Á) (v:Int),vs=[.ref r,.int v]/\cB K C H r S fp/\
 ((0<=v/\v < S.net.vs.length/\∀ l p,S.tips[v.toNat]? = some l->H p=none->Q (.ref p) (upd H p (.lst (l.map V.int))))\/(¬ (0<=v/\v < S.net.vs.length)/\E (.ref cV) none H))
theorem LP (F:Fun K "tips" "Run.tips" (bF (aU 54) 6) f fd) (T:Txt mg) (tx:RunTx K C) (ie:CalleeR P w K mg base "need_vessel" ["net","number"] 2 (pM K gp) f1 je) :
  FnOk P w K mg base (lW P w) 3 f fd ["self","vessel"] (tQ K C gp):=by
 refine F.okR ["self","vessel"] λ sc iu A outer s H vs Q E hr h L=>?_
 ·obtain⟨r,S,fp,v,rfl,⟨dx,np,R,M,T',ts,rs,ms,mv,c,rfl⟩,k⟩:=h;refine⟨_,(aF (bQ (dL ie.ok (hr.mono (by decide)) rfl ie.mg ie.kp ie.bd .nil (cY L) (aB (dF (K:=K) rfl (pv 0) rfl) (aB (pv 1) aD))))
   (aI (aO (aQ (kI (K:=K) rfl) rfl T.b_list nX (aB (px K (dF (K:=K) rfl (pv 0) rfl) (pv 1)) aD))))),?_⟩
  refine⟨_,rfl,r,C,dx,_,_,rfl,c.ins,tx.cls,tx.net,A4,_,rfl,np,S.net,v,rfl,c.net,?_⟩;rcases k with ⟨v0,v1,k⟩ | ⟨hn,k⟩;rotate_left
  ·exact .inr ⟨hn,k⟩
  refine .inl ⟨v0,v1,?_⟩;have yt:v.toNat < S.tips.length:=by rw[c.ok.tl];lia
  have hl:S.tips[v.toNat]? = some S.tips[v.toNat]:=by simp [yt]
  have jr:v.toNat < ts.length:=by rw[c.tl];exact yt
  have Cq:ts[v.toNat]? = some ts[v.toNat]:=by simp [jr]
  have Fe:=c.ti _ _ _ Cq hl;exact⟨_,rfl,r,C,dx,_,_,rfl,c.ins,tx.cls,tx.tips,G7,_,rfl,.inl ⟨T',_,v,.ref ts[v.toNat],rfl,rfl,É c.hT,lH v0 (by rw[Ø,Cq];rfl),ts[v.toNat],_,rfl,.inl (É Fe),λ p hp=>k _ p hl hp⟩⟩
theorem pP {n:Nat} (h:n<=10000000):n < sizeLine:=by rw[à];lia
end Tw
namespace L2
open PySem PySem.Spec PyProof.Rows
open Builtin Builtin.Str
def aR (i:Int):Str:=Str.ofString (toString i)
section
variable {X:Cx}{gn:List (Á×Obj)}{σ:St}{H:Hp}{s:Â}
theorem x9:∀ (l:List (Str×Tok)),bG (l.map λ p=>V.str p.1) (strValues l)
 | []=>.nil
 | p::l=>.cons ⟨p.2,rfl⟩ (x9 l)
theorem xC:∀ {xs:List Str}{us:List À},bG (xs.map V.str) us->∃ l:List (Str×Tok),us=strValues l/\l.map (·.1)=xs
 | [],_,h=>by cases h;exact⟨[],rfl,rfl⟩
 | x::xs,_,h=>by
  cases h with
  | cons r rr=>
   obtain⟨t,rfl⟩:=r;obtain⟨l,rfl,e⟩:=xC rr;exact⟨(x,t)::l,rfl,by rw[Ù,e]⟩
def KR (K:Ç):V->List V->Hp->VK->Prop:=λ x vs H Q=>∃ (sep:Str) (l:Á) (ts:List Str),x=.str sep/\vs=[.ref l]/\aY K H l (ts.map V.str)/\JoinOk sep ts=true/\Q (.str (Str.join sep ts)) H
theorem MA:NR X "str.join" (KR X.K):=by
 intro gn s σ H x vs v us Q I rx rv h;obtain⟨sep,l,ts,rfl,rfl,hq,hok,q⟩:=h;obtain⟨t,rfl⟩:=rx;obtain⟨u,rfl,ru⟩:=rv.one;cases ru;obtain⟨gx,r,hp,hz⟩:=I.list hq;obtain⟨ls,rfl,e⟩:=xC r;refine SC.join hp.isList e hok λ t' k=>⟨.str _,H,I.tok _,⟨t',rfl⟩,?_⟩;show Q (.str (glued sep ts)) H;rw[StrLaws.glued_eq_join];exact q
def OE:V->List V->Hp->VK->Prop:=λ x vs H Q=>∃ (y sep:Str),x=.str y/\vs=[.str sep]/\0 < sep.length/\y.length<=1000000/\∀ p,H p=none->Q (.ref p) (upd H p (.lst ((Txt.split y sep).map V.str)))
theorem hV (x y:Str) (hy:1<=y.length):(Txt.split x y).length<=x.length+1:=by have:=split_weight x y hy;lia
theorem gO:NR X "str.split" OE:=by
 intro gn s σ H x vs v us Q I rx rv h;obtain⟨x,y,rfl,rfl,hy,hx,q⟩:=h;obtain⟨t,rfl⟩:=rx;obtain⟨u,rfl,ru⟩:=rv.one;obtain⟨u,rfl⟩:=ru;have Lv:(y.length == 0)=false:=by rw[beq_eq_false_iff_ne];lia
 have hn:=hV x y (by lia);have Ri:x.length<=sizeLine:=by rw[à];lia
 cases h1:(decide (x.length < y.length) || decide (strKind x < strKind y))
 ·cases hf:(occurrences x y 0 x.length (x.length+1)).isEmpty
  ·have e:Txt.split x y=partsBetween x (occurrences x y 0 x.length (x.length+1)) y.length:=(Ä (Ż h1)).trans (Ä (Ż hf));rw[e] at hn;have hz:(partsBetween x (occurrences x y 0 x.length (x.length+1)) y.length).length<=sizeLine:=by rw[à];lia
   refine ą agf (Ń _ _ _) af0 (afm _ _) (meets_str_split_sep x y t u h1 Lv hf Ri hz) ?_;show wants _ _ _ { s with toks:=_,heap:=s.heap.push { cls:=.type "list",data:=.seq (strsFrom s.toks (partsBetween x (occurrences x y 0 x.length (x.length+1)) y.length)).toArray } };rw[strsFrom_eq];have hv:=x9 (numbered s.toks (partsBetween x (occurrences x y 0 x.length (x.length+1)) y.length));have em:(numbered s.toks (partsBetween x (occurrences x y 0 x.length (x.length+1)) y.length)).map (λ p=>V.str p.1)=(Txt.split x y).map V.str:=by rw[e,<- numbered_texts s.toks (partsBetween _ _ _),ü,numbered_texts];rfl
   rw[em] at hv;exact⟨.ref _,_,I.lnew hv (by rw[Ê,e];exact hz),rfl,q _ I.fresh⟩
  ·have e:Txt.split x y=[x]:=(Ä (Ż h1)).trans (Å hf);rw[e] at q;exact ą agf (Ń _ _ _) af0 (afm _ _) (meets_str_split_not_found x y t u h1 Lv hf) ⟨.ref _,_,I.lnew (t':=s.toks) (ys:=[.str x]) (.cons ⟨t,rfl⟩ .nil) (sz0 1),rfl,q _ I.fresh⟩
 ·have e:Txt.split x y=[x]:=Å h1;rw[e] at q;exact ą agf (Ń _ _ _) af0 (afm _ _) (meets_str_split_cannot_occur x y t u h1) ⟨.ref _,_,I.lnew (t':=s.toks) (ys:=[.str x]) (.cons ⟨t,rfl⟩ .nil) (sz0 1),rfl,q _ I.fresh⟩
def RV:V->List V->Hp->VK->Prop:=λ x vs H Q=>∃ (y sep:Str),x=.str y/\vs=[.str sep]/\0 < sep.length/\y.length<=1000000/\∀ p,H p=none->Q (.ref p) (upd H p (.tup [.str (Txt.partition y sep).1,.str (Txt.partition y sep).2.1,.str (Txt.partition y sep).2.2]))
theorem BN:NR X "str.partition" RV:=by
 intro gn s σ H x vs v us Q I rx rv h;obtain⟨x,y,rfl,rfl,hy,hx,q⟩:=h;obtain⟨t,rfl⟩:=rx;obtain⟨u,rfl,ru⟩:=rv.one;obtain⟨u,rfl⟩:=ru;have Lv:(y.length == 0)=false:=by rw[beq_eq_false_iff_ne];lia
 have Ri:x.length<=sizeLine:=by rw[à];lia
 refine ą F.slot_str_partition (Ń _ _ _) F.entry_str_partition (F.args_str_partition_2 _ _) (meets_str_partition x y t u Lv Ri) ?_;have q':=q s.heap.objs.size I.fresh;unfold Txt.partition at q';cases ho:occurrences x y 0 x.length 1 with
 | nil=>
  rw[ho] at q';exact⟨.ref _,_,I.laid (o:=.tup [.str x,.str Str.empty,.str Str.empty]) (t':=s.toks+1) (λ _ _ q=>Î _ q) (Í _) ⟨(sz0 3),_,.cons ⟨t,rfl⟩ (.cons ⟨s.toks,rfl⟩ (.cons ⟨s.toks,rfl⟩ .nil)),⟨_,Ü _ rfl,rfl,_,rfl⟩⟩,rfl,q'⟩
 | cons i r=>
  rw[ho] at q';exact⟨.ref _,_,I.laid (o:=.tup [.str (strSub x 0 i),.str y,.str (strSub x (i+y.length) x.length)]) (t':=s.toks+1+1) (λ _ _ q=>Î _ q) (Í _) ⟨(sz0 3),_,.cons ⟨s.toks,rfl⟩ (.cons ⟨u,rfl⟩ (.cons ⟨s.toks+1,rfl⟩ .nil)),⟨_,Ü _ rfl,rfl,_,rfl⟩⟩,rfl,q'⟩
def RZ:V->List V->Hp->VK->Prop:=λ x vs H Q=>∃ y:Str,x=.str y/\vs=[]/\Q (.bl (Txt.isdecimal y)) H
theorem MB:NR X "str.isdecimal" RZ:=by
 intro gn s σ H x vs v us Q I rx rv h;obtain⟨y,rfl,rfl,q⟩:=h;obtain⟨t,rfl⟩:=rx;have:=rv.zero;subst this;exact SC.isdecimal ⟨.bl _,H,I,rfl,q⟩
def V2:List V->Hp->VK->Prop:=λ xs H Q=>∃ (y:Str) (n:Int),xs=[.str y]/\PySem.intText? y=some n/\y.length<=640/\Q (.int n) H
theorem nW:eY X (.type "int") V2:=by
 intro gn s σ H xs us Q I r h;obtain⟨y,n,rfl,hn,hl,q⟩:=h;obtain⟨u,rfl,t,rfl⟩:=o6 r;exact PySem.W.KIN.call_text hn hl ⟨.int n,H,I.tok _,⟨_,rfl⟩,q⟩
def DG:V->Option Str
 | .int i=>if i.natAbs.log2 < 1920 then some (aR i) else none
 | .non=>some "None"
 | .str x=>some x
 | _=>none
def FN:List V->Hp->VK->Prop:=λ xs H Q=>∃ x y,xs=[x]/\DG x=some y/\Q (.str y) H
theorem bP:eY X (.type "str") FN:=by
 intro gn s σ H xs us Q I r h;obtain⟨x,y,rfl,e,q⟩:=h;obtain⟨u,rfl,rx⟩:=o6 r;cases x with
 | int i=>
  have e:(if i.natAbs.log2 < 1920 then some (aR i) else none)=some y:=e;obtain⟨t,rfl⟩:=rx
  split at e
  ·rename_i hi
   cases e;exact PySem.P.str_of_int hi ⟨.str _,H,I.tok _,⟨_,rfl⟩,q⟩
  ·cases e
 | non=>cases rx;cases e;exact PySem.P.str_of_none ⟨.str _,H,I.tok _,⟨_,rfl⟩,q⟩
 | str z=>obtain⟨t,rfl⟩:=rx;cases e;exact PySem.P.str_of_str ⟨.str _,H,I,⟨_,rfl⟩,q⟩
 | bl b=>cases e
 | byt b=>cases e
 | flt b=>cases e
 | ref a=>cases e
 | ty n=>cases e
theorem wA {i:Int} (h0:0<=i) (h1:i < 10 ^ 9):i.natAbs.log2 < 1920:=by
 have:i.natAbs < 2 ^ 30:=by lia
 by_cases hz:i.natAbs=0
 ·rw[hz];decide
 ·exact Nat.lt_trans ((Nat.log2_lt hz).mpr this) (by decide)
theorem dS {i:Int} (h0:0<=i) (h1:i < 10 ^ 9):DG (.int i)=some (aR i):=Å (wA h0 h1)
def UX:List V->Hp->VK->Prop:=λ xs H Q=>∃ y:Str,xs=[.str y]/\y.length<=1000000/\Q (.int y.length) H
theorem kJ:eY X (.builtin "len") UX:=by
 intro gn s σ H xs us Q I r h;obtain⟨y,rfl,hl,q⟩:=h;exact NK gn s σ H _ us Q I r ⟨.str y,y.length,rfl,⟨by rw[à];lia,rfl⟩,q⟩
def V5:R2:=λ x y H Q=>∃ i j,x=.str i/\y=.str j/\i.length+j.length<=1000000/\Q (.str (i++j)) H
theorem eF:iW X (binaryOp .Add) V5:=λ gn s σ H x y v u Q I rx ry ⟨i,j,e1,e2,hl,q⟩=>DY gn s σ H x y v u Q I rx ry ⟨i,j,e1,e2,by rw[à];lia,q⟩
def VM:V->Option Str
 | .str x=>some x
 | .int i=>if i.natAbs.log2 < 1920 then some (aR i) else none
 | _=>none
theorem N9 {i:Int} (h0:0<=i) (h1:i < 10 ^ 9):VM (.int i)=some (aR i):=Å (wA h0 h1)
def K6 (t:TE):TE:=λ σ H Q=>t σ H λ x H1=>∃ y,VM x=some y/\y.length<=1000000/\Q (.str y) H1
theorem i5 {e:Expr}{t:TE}{pos:Pos} (h:PE X e t):PE X (.FormattedValue e (-1) none pos) (K6 t):=by
 intro gn s σ H Q I hw;refine FormattedValue_plain (d8 (h gn s σ H _ I hw) λ v s1 ⟨x,H1,I1,r1,y,e1,hl,q1⟩=>?_);cases x with
 | str z=>
  obtain⟨t,rfl⟩:=r1;cases e1;exact formatField_str (λ t' k=>⟨.str _,H1,I1.tok _,⟨t',rfl⟩,q1⟩) (by rw[à];lia)
 | int i=>
  obtain⟨t,rfl⟩:=r1;have e1:(if i.natAbs.log2 < 1920 then some (aR i) else none)=some y:=e1
  split at e1
  ·rename_i hi
   cases e1;exact formatField_int_small hi ⟨.str _,H1,I1.tok _,⟨_,rfl⟩,q1⟩
  ·cases e1
 | non=>cases e1
 | bl b=>cases e1
 | byt b=>cases e1
 | flt b=>cases e1
 | ref a=>cases e1
 | ty n=>cases e1
def jT:List TE->Str->TE
 | [],ji=>λ _ H Q=>Q (.str ji) H
 | t::ts,ji=>λ σ H Q=>t σ H λ x H1=>∃ y,x=.str y/\(ji++y).length<=1000000/\jT ts (ji++y) σ H1 Q
def PJ (X:Cx) (es:List Expr) (ts:List TE):Prop:=∀ (ji:Str) (gn:List (Á×Obj)) (s:Â) (σ:St) (H:Hp) (Q:VK),ji.length<=1000000->Inv X gn σ H s->jT ts ji σ H Q->wpAny (model X.prog X.w) X.A (joinParts ji (evalEach es X.env)) (EP X gn σ Q) X.xe s
theorem zC:PJ X [] []:=λ ji gn s σ H Q ha I q=>joinParts_nil ⟨.str ji,H,I.tok _,⟨_,rfl⟩,q⟩ (by rw[à];lia)
theorem cK {e:Expr}{es:List Expr}{t:TE}{ts:List TE} (h:PE X e t) (hs:PJ X es ts):PJ X (e::es) (t::ts):=by
 intro ji gn s σ H Q ha I hw;show wpAny _ _ (joinParts ji (eval e X.env::evalEach es X.env)) _ _ s;refine joinParts_cons (d8 (h gn s σ H _ I hw) λ v s1 ⟨x,H1,I1,r1,y,e1,hl,q1⟩=>?_);subst e1;obtain⟨t,rfl⟩:=r1;exact⟨by rw[à];lia,hs (ji++y) gn s1 σ H1 Q hl I1 q1⟩
theorem FS {gk gm:Expr}{jo:List Expr}{pos:Pos}{ts:List TE} (h:PJ X (gk::gm::jo) ts):PE X (.JoinedStr (gk::gm::jo) pos) (jT ts Str.empty):=λ gn s σ H Q I hw=>
 JoinedStr_many (h Str.empty gn s σ H Q (by decide) I hw)
theorem BA {e:Expr}{pos:Pos}{t:TG} (h1:PG X e t):NV X [.Starred e pos] (R1 t VJ):=by
 intro gn s σ H vs us Q I r h;obtain⟨v,vr,e1,h⟩:=h;subst e1;cases r with
 | cons r rr=>
  show wpAny _ _ (assignInOrder (assign e X.env::[]) _) _ _ s;refine Ţ (d8 (h1 gn s σ H _ _ _ I r h) λ _ s1 ⟨gf,H1,I1,q1⟩=>?_);exact bA gn s1 gf H1 _ _ Q I1 rr q1
theorem D7 {prog:Ã}{w:World}{A:Around} (hh:A.handled=none) (I ax:Á) (kr:ax≠I) (items:Array À) (h1:1<=items.size) :
  Walks prog w A I [I,ax] [I] (items.size - 1) (λ i v=>items[i+1]? = some v) (λ i h=>h.IsListIter I ax (i+1)/\h.IsList ax items) where
 sub:=λ b hb=>by simp at hb;simp [hb]
 frame:=λ _ _ _ st hk=>⟨st.1.at λ o e=>hk I (by simp) o e,st.2.at λ o e=>hk ax (by simp) o e⟩
 item:=λ i s Q E hi st hQ=>by
  have pk:i+1 < items.size:=by lia
  refine wpAny_pyNext_list_item st.1 st.2 (x:=items[i+1]) (by simp [pk]) λ h' Rj zx=>?_;exact hQ _ h' s.toks (by simp [pk]) ⟨Rj,st.2.extBut zx.extBut kr⟩ λ b o hb e=>zx.extBut b o (λ h=>hb (by simp [h])) e
 done:=λ s Q E st hQ=>wpAny_pyNext_list_end hh st.1 st.2 (by rw[Nat.sub_add_cancel h1];simp) λ h' Ee=>hQ h' s.toks λ b o hb e=>Ee b o (λ h=>hb (by simp [h])) e
 self:=λ _ _ _ _ st hQ=>wpAny_pyIter_listiter st.1 hQ
theorem DH {prog:Ã}{w:World}{A:Around}{E:À->Â->Prop}{s:Â}{l:Á}{x:À}{r:List À}{Q:List À->Â->Prop} (hh:A.handled=none) (hl:s.heap.IsList l (x::r).toArray) (hr:r.length<=1000000)
  (hQ:∀ (s':Â),(∀ b o,s.heap.get? b=some o->s'.heap.get? b=some o)->s'.gens=s.gens->s'.drawn=s.drawn->s'.os=s.os->Q [x,.ref s'.heap.objs.size] { s' with heap:=s'.heap.push { cls:=.type "list",data:=.seq r.toArray } }) :
  wpAny (model prog w) A (unpackItems (.ref l) 2 (some 1)) Q E s:=by
 have jr:l≠s.heap.objs.size:=by obtain⟨o,ho,_⟩:=hl;exact é (Ö ho)
 unfold unpackItems;refine Æ ?_
 ·unfold notIterableAtAll;refine Æ (œ hl.typeIs slot_list_iter.lookup ?_);refine Ë ?_;simp only [Ę,if_false];refine Æ (ô (ŧ hl ?_));refine Æ (ô (PySem.W.kun_draw jr 1 0 _ _ ⟨_,Ü _ rfl,rfl,rfl⟩ (hl.push _) (by simp) λ h₁ fc ae=>?_));have ml:List.take 1 (List.drop 0 (x::r).toArray.toList)=[x]:=by simp
  rw[ml];rw[Ä (by simp)];have fo:h₁.IsList l (x::r).toArray:=(hl.push _).extBut ae.extBut jr;have hk1:∀ b o,b≠s.heap.objs.size->s.heap.get? b=some o->h₁.get? b=some o:=λ b o hb e=>ae.extBut b o hb (Î _ e);have hz:(x::r).toArray.size - 1=r.length:=by simp
  refine Æ (ô (wpAny_collect_iter (T := "list_iterator") (.inr (.inr (.inl rfl))) (D7 (by first | exact hh | simpa using hh) s.heap.objs.size l jr (x::r).toArray (by simp)).toS (λ i s' st=>st.1.typeIs) ⟨fc,fo⟩ ?_ (by simp) (λ s' ji mv it=>?_) (by rw[hz,à];lia)))
  ·intro b hb;simp only [Ñ,Ă,or_false] at hb;rcases hb with rfl | rfl
   ·obtain⟨o,ho,_⟩:=fc;exact Ö ho
   ·obtain⟨o,ho,_⟩:=fo;exact Ö ho
  ·have ea:ji.toList=r:=by
    apply List.ext_getElem?;intro j;rw[Array.getElem?_toList];have h1:ji.size=r.length:=by rw[it.1,hz]
    by_cases hj:j < r.length
    ·have e1:=it.2 j ji[j] (by simp [h1,hj]);simp at e1;rw[Array.getElem?_eq_getElem (by lia)];exact e1.symm
    ·rw[Array.getElem?_eq_none (by lia),List.getElem?_eq_none (by lia)]
   rw[ea];rw[Ä (by simp)];have e0:(2 - 1 - 1:Nat)=0:=rfl;simp only [Nat.sub_self,Nat.sub_zero,ø,List.drop_length];refine Æ (wpAny_newList (Ë ?_) (by rw[à];lia));refine hQ s' (λ b o e=>?_) mv.gens mv.drawn mv.os;have hb:b≠s.heap.objs.size:=é (Ö e);exact mv.heap b o (by simp [hb]) (hk1 b o hb e)
def R0 (K:Ç) (t:GS):TG:=λ v σ H Q=>∃ a x xs,v=.ref a/\aY K H a (x::xs)/\xs.length<=1000000/\∀ p,H p=none->t [x,.ref p] σ (upd H p (.lst xs)) Q
theorem OT {es:List Expr}{k:Nat}{pos:Pos}{t:GS} (hc:X.calm=true) (h:NV X es t) (hn:(assignEach es X.env).length=2:=by exact wr0) (sk:(assignEach es X.env).findIdx? (·.1)=some 1:=by exact wr0):PG X (.Tuple es k pos) (R0 X.K t):=by
 intro gn s σ H v u Q I r hw;obtain⟨a,x,xs,e1,hq,hl,hw⟩:=hw;subst e1;cases r;obtain⟨gx,rv,ht,hz⟩:=I.list hq;cases rv with
 | @cons _ u _ us ru rr=>
  have ij:=rr.length;rw[assign_Tuple];refine Æ (ł ?_);unfold unpack;rw[hn,sk];refine Æ (ô (DH (I.ok.hd hc) ht.isList (by lia) λ s' hk hg hd ho=>?_));have e:s'={ s with heap:=s'.heap,toks:=s'.toks }:=by cases s';cases s;cases hg;cases hd;cases ho;rfl
  have I1:Inv X gn σ H s':=by rw[e];exact I.kept hk
  exact h gn _ σ _ _ _ Q (I1.lnew (t':=s'.toks) rr (by rw[à];lia)) (.cons ru (.cons (show bH (.ref _) _ from rfl) .nil)) (hw _ I1.fresh)
end
section
variable {X:Cx}
theorem cZ (hK:X.K=K):NR X "str.join" (KR K):=by subst hK;exact MA
theorem BB {es:List Expr}{k:Nat}{pos:Pos}{t:GS} (hK:X.K=K) (hc:X.calm=true) (h:NV X es t) (hn:(assignEach es X.env).length=2:=by exact wr0) (sk:(assignEach es X.env).findIdx? (·.1)=some 1:=by exact wr0):PG X (.Tuple es k pos) (R0 K t):=by subst hK;exact OT hc h hn sk
theorem fG {o e:Expr}{es:List Expr}{to:TE}{t:TA}{name:Str}{apos jd:Pos}{id:String}{r:V->List V->Hp->VK->Prop} (hK:X.K=K)
  (slot:Slot "str" name id) (yg:typeOf (.builtin id)=pure (.type "method_descriptor")) (hm:NR X id r) (ho:PE X o to) (ha:PA X (e::es) t)
  (lj:attributeBase o name X.env (eval o X.env)=eval o X.env:=by exact wr0)
  (wg:((backTo jd (starEach (e::es) X.env)).all (λ x=>!x.1) && (backToKw jd (keywordEach [] X.env)).all (λ x=>x.1.isSome)
   && decide ((e::es).length+([]:List Keyword).length+(if ([]:List Keyword).isEmpty then 0 else 1) < 30))=true:=by exact wr0)
  (lw:(apos.endLine == jd.line)=true:=by exact wr0) (hs:starEach (e::es) X.env=(false,eval e X.env)::starEach es X.env:=by exact wr0) (ky:(backTo jd (starEach es X.env)).any (·.1)=false:=by exact wr0) :
  PE X (.Call (.Attribute o name apos) (e::es) [] jd) (tBM K "str" r to t):=by subst hK;exact QT F.plainAttrs_str slot yg hm ho ha lj wg lw hs ky
theorem S8 {o:Expr}{to:TE}{name:Str}{apos jd:Pos}{id:String}{r:V->List V->Hp->VK->Prop} (hK:X.K=K)
  (slot:Slot "str" name id) (yg:typeOf (.builtin id)=pure (.type "method_descriptor")) (hm:NR X id r) (ho:PE X o to)
  (lj:attributeBase o name X.env (eval o X.env)=eval o X.env:=by exact wr0) (lw:(apos.endLine == jd.line)=true:=by exact wr0):PE X (.Call (.Attribute o name apos) [] [] jd) (UK K "str" r to):=by subst hK;exact SB F.plainAttrs_str slot yg hm ho lj lw
end
end L2
namespace Tw
open PySem L2
abbrev one (c:Nat):Str:=⟨#[c]⟩
abbrev sg (x:Str):List Nat:=x.cps.toList
theorem jM {a b:Str} (h:sg a=sg b):a=b:=Str.ext' (Array.toList_inj.mp h)
theorem eN (a b:Str):sg (a++b)=sg a++sg b:=by show (a.cps++b.cps).toList=_;simp
theorem gT (a:Str):(sg a).length=a.length:=by simp [sg,Str.length]
theorem eM (c:Nat) (x y:Str) (r:List Str):sg (Str.join (one c) (x::y::r))=sg x++c::sg (Str.join (one c) (y::r)):=by
 show sg (x++one c++Str.join (one c) (y::r))=_;rw[eN,eN,Ļ];rfl
theorem GR {c:Nat}:∀ {x x' t t':List Nat},c∉x->c∉x'->x++c::t=x'++c::t'->x=x'/\t=t'
 | [],[],_,_,_,_,e=>⟨rfl,(ŗ e).2⟩
 | [],y::_,_,_,_,h,e=>absurd (by rw[(ŗ e).1];simp) h
 | y::_,[],_,_,h,_,e=>absurd (by rw[<- (ŗ e).1];simp) h
 | y::x,y'::x',_,_,h,h',e=>by
  obtain⟨a,b⟩:=GR (λ z=>h (Ô _ z)) (λ z=>h' (Ô _ z)) (ŗ e).2;exact⟨by rw[(ŗ e).1,a],b⟩
theorem CA (c:Nat):∀ (l m:List Str),l≠[]->m≠[]->(∀ a∈l,c∉sg a)->(∀ a∈m,c∉sg a)->Str.join (one c) l=Str.join (one c) m->l=m
 | [],_,h,_,_,_,_=>absurd rfl h
 | _,[],_,h,_,_,_=>absurd rfl h
 | [x],[y],_,_,_,_,e=>by rw[show x=y from e]
 | [x],y::z::r,_,_,h1,_,e=>by
  have e1:sg x=sg (Str.join (one c) (y::z::r)):=congrArg sg (show x=_ from e);rw[eM] at e1;exact absurd (e1 ▸ (by simp:c∈sg y++c::sg (Str.join (one c) (z::r)))) (h1 x (by simp))
 | y::z::r,[x],_,_,_,h1,e=>by
  have e1:sg (Str.join (one c) (y::z::r))=sg x:=congrArg sg (show _=x from e);rw[eM] at e1;exact absurd (e1 ▸ (by simp:c∈sg y++c::sg (Str.join (one c) (z::r)))) (h1 x (by simp))
 | x::y::r,x'::y'::r',_,_,h1,h2,e=>by
  have e1:=congrArg sg e;rw[eM,eM] at e1;obtain⟨a,b⟩:=GR (h1 x (by simp)) (h2 x' (by simp)) e1;have ih:=CA c (y::r) (y'::r') (by simp) (by simp) (λ a ha=>h1 a (Ô _ ha)) (λ a ha=>h2 a (Ô _ ha)) (jM b);rw[jM a,ih]
theorem hJ {c:Nat}{l:List Str} (hl:l≠[]) (hf:∀ a∈l,c∉sg a):Txt.split (Str.join (one c) l) (one c)=l:=by
 have h:=ŏ (Str.join (one c) l) (one c);have hf2:=afn (Str.join (one c) l) c;refine CA c _ _ (λ z=>?_) hl hf2 hf h;unfold Txt.split at z
 split at z
 ·cases z
 ·split at z
  ·cases z
  ·rw[StrLaws.partsBetween_eq] at z;obtain⟨p,r,e⟩:=StrLaws.partsFrom_ne (Str.join (one c) l) (one c).length 0 (Builtin.Str.occurrences (Str.join (one c) l) (one c) 0 (Str.join (one c) l).length ((Str.join (one c) l).length+1));rw[e] at z;cases z
theorem FT {c:Nat}{a b:Str} (hf:c∉sg a):Txt.partition (a++one c++b) (one c)=(a,one c,b):=by
 have ex:sg (a++one c++b)=sg a++c::sg b:=by rw[eN,eN,Ļ];rfl
 rcases PyProof.Rows.partition_whole (a++one c++b) (one c) with ⟨_,hn⟩ | ⟨i,hp,hi,hk⟩
 ·exfalso;obtain⟨i,h⟩:=(PyProof.Rows.mem_iff_at (a++one c++b) c).mp (by show c∈sg _;rw[ex];simp);exact hn i h
 ·have pk:=(StrLaws.subAt_one _ c i).mp hi;have Lw:(sg a++c::sg b)[i]? = some c:=by rw[<- ex];exact pk
  have vn:i=(sg a).length:=by
   rcases Nat.lt_trichotomy i (sg a).length with h | h | h
   ·rw[Ų h] at Lw;exact absurd (Ó Lw) hf
   ·exact h
   ·exfalso;refine hk _ h ((StrLaws.subAt_one _ c _).mpr ?_);show (sg (a++one c++b))[(sg a).length]? = some c;rw[ex,ű (Í _)];simp
  rw[hp];have e1:Builtin.Str.strSub (a++one c++b) 0 i=a:=jM (by show (Builtin.Str.strSub _ _ _).cps.toList=_;rw[StrLaws.strSub_toList,show (a++one c++b).cps.toList=_ from ex,vn];simp);have e2:Builtin.Str.strSub (a++one c++b) (i+(one c).length) (a++one c++b).length=b:=jM (by
   show (Builtin.Str.strSub _ _ _).cps.toList=_;rw[StrLaws.strSub_toList];show List.take _ (List.drop ((i+1)) (sg (a++one c++b)))=sg b;have el:=congrArg List.length ex;rw[gT,â,á] at el;have ed:List.drop ((sg a).length+1) (sg a++c::sg b)=sg b:=by
    rw[List.drop_append,agj (by lia),Ŀ,show (sg a).length+1 - (sg a).length=1 by lia];rfl
   rw[ex,vn,ed,el];exact õ (by show (sg b).length<=(sg a).length+((sg b).length+1) - ((sg a).length+1);lia))
  rw[e1,e2]
theorem i8 {n:Int} (h0:0<=n):∀ c∈sg (aR n),48<=c/\c<=57:=by
 obtain⟨m,rfl⟩:=ú h0;intro c hc;have hc:c∈(Str.ofString (toString ((m:Nat):Int))).cps.toList:=hc;rw[Ō] at hc;obtain⟨ch,tz,e⟩:=ä.mp hc;have r:=PyProof.Rows.digit_range (Nat.isDigit_of_mem_toDigits (by decide) (by decide) tz);rw[<- e];exact r
theorem SH {n:Int} (h0:0<=n):sg (aR n)≠[]:=by
 obtain⟨m,rfl⟩:=ú h0;show (Str.ofString (toString ((m:Nat):Int))).cps.toList≠[];rw[Ō];intro e;have h:=toDigits_len_ge 10 m;rw[List.map_eq_nil_iff.mp e] at h;exact absurd h (by decide)
theorem gF {n:Int} (h0:0<=n) (h:n < 10 ^ 9):(aR n).length<=9:=aew h0 (by decide) h
theorem P6 {n:Int} (h0:0<=n):Txt.isdecimal (aR n)=true:=by
 have h1:=SH h0;have h2:=i8 h0;show (decide ((aR n).length > 0) && (aR n).cps.all Unicode.isDecimal)=true;rw[Ğ];refine⟨Û ?_,?_⟩
 ·rw[<- gT];exact List.length_pos_iff.mpr h1
 ·rw[afo];intro x hx;have:=h2 x (by simpa using hx);exact (by decide +kernel:∀ c,c < 58->48<=c->Unicode.isDecimal c=true) x (by lia) (by lia)
def cO:Option Int->Str
 | none => "ground"
 | some i=>aR i
def lU (o:Option Int×Int):Str:=cO o.1++one 42++aR o.2
def dI (os:List (Option Int×Int)):Str:=Str.join (one 44) (os.map lU)
def iL (a:Str×Int):Str:=a.1++one 46++aR a.2
def fI (as:List (Str×Int)):Str:=if as=[] then "-" else Str.join (one 44) (as.map iL)
def eR (b:Bool):Str:=if b then "holds" else "loses"
def fP (b:Bool):Str:=if b then "open" else "shut"
def pH (v:Vs):List Str:=[aR v.size,aR v.brim,dI v.outs,eR v.holds,cO v.spill,fI v.acts]
def jL (v:Vs):Str:=Str.join (one 32) ("vessel" :: pH v)
def tE (s:nE):List Str:=[aR s.1,aR s.2.1,fP s.2.2]
def kQ (s:nE):Str:=Str.join (one 32) ("spout" :: tE s)
def qP (n:Net):Str:=Str.join (one 10) (n.vs.map jL++n.sps.map kQ)
def bT (w:Str):Option Int:=if Txt.isdecimal w=true/\w.length<=9 then (match PySem.intText? w with
 | some n=>if aR n=w then some n else none
 | none=>none) else none
def qF (w:Str):Option (Option Int):=if w = "ground" then some none else (bT w).map some
def mP (w:Str):Option (Option Int×Int):=(qF (Txt.partition w (one 42)).1).bind λ t=>(bT (Txt.partition w (one 42)).2.2).map λ p=>(t,p)
def qG (w:Str):Option (Str×Int):=(bT (Txt.partition w (one 46)).2.2).map λ p=>((Txt.partition w (one 46)).1,p)
def eQ {ak:Type} (f:Str->Option ak):List Str->Option (List ak)
 | []=>some []
 | w::ws=>(f w).bind λ a=>(eQ f ws).map λ r=>a::r
def mQ (w:Str):Option (List (Str×Int)):=if w = "-" then some [] else eQ qG (Txt.split w (one 44))
def xM:List Str->Option Vs
 | [a,b,c,d,e,f]=>(eQ mP (Txt.split c (one 44))).bind λ os=>(bT a).bind λ z=>(bT b).bind λ m=>(qF e).bind λ s=>(mQ f).map λ as=>⟨z,m,os,decide (d = "holds"),s,as⟩
 | _=>none
def B5:List Str->Option nE
 | [a,b,c]=>(bT a).bind λ t=>(bT b).map λ f=>(t,f,decide (c = "open"))
 | _=>none
def kT (x:Str):Option (Vs ⊕ nE):=match Txt.split x (one 32) with
 | []=>none
 | w::r=>if w = "vessel" /\ r.length=6 then (xM r).map Sum.inl else if w = "spout" /\ r.length=3 then (B5 r).map Sum.inr else none
def kD (l:List (Vs ⊕ nE)):List Vs:=l.filterMap λ x=>x.getLeft?
def hW (l:List (Vs ⊕ nE)):List nE:=l.filterMap λ x=>x.getRight?
def KL (x:Str):Option Net:=(eQ kT (Txt.split x (one 10))).map λ l=>⟨kD l,hW l⟩
theorem rM {ak:Type}{f:Str->Option ak}{g:ak->Str}:∀ {l:List ak},(∀ a∈l,f (g a)=some a)->eQ f (l.map g)=some l
 | [],_=>rfl
 | a::l,h=>by
  rw[Ù,eQ,h a Þ,rM λ b hb=>h b (Ô _ hb)];rfl
theorem i4 {n:Int} (h0:0<=n) (h1:n < 10 ^ 9):bT (aR n)=some n:=by
 unfold bT;rw[Å ⟨P6 h0,gF h0 h1⟩,show PySem.intText? (aR n)=some n from PySem.W.KIN.num_reads h0 (by lia)];exact Å rfl
theorem LU {n:Int} (h0:0<=n) {w:Str} (hw:∃ c∈sg w,57 < c\/c < 48):aR n≠w:=by
 intro e;obtain⟨c,hc,h⟩:=hw;have:=i8 h0 c (by rw[e];exact hc);lia
def AK (t:Option Int):Prop:=∀ i,t=some i->0<=i/\i < 10 ^ 9
theorem uZ {t:Option Int} (h:AK t):qF (cO t)=some t:=by
 cases t with
 | none=>rfl
 | some i=>
  obtain⟨h0,h1⟩:=h i rfl;show (if aR i = "ground" then some none else (bT (aR i)).map some)=_;rw[Ä (LU h0 (w := "ground") ⟨103,by decide +kernel,.inl (by decide)⟩),i4 h0 h1];rfl
def NB (x:Str):Prop:=∀ c∈sg x,33<=c
def NC (x:Str):Prop:=∀ c∈sg x,33<=c/\c≠44
theorem oT {n:Int} (h0:0<=n):NC (aR n):=λ c hc=>by have:=i8 h0 c hc;lia
theorem A2 {a b:Str} (ha:NC a) (hb:NC b):NC (a++b):=λ c hc=>by
 rw[eN] at hc;rcases ß.mp hc with h | h
 ·exact ha c h
 ·exact hb c h
theorem M3 {c:Nat} (h:33<=c/\c≠44):NC (one c):=λ d hd=>by
 have:d=c:=(by simpa [sg,one] using hd);rw[this];exact h
theorem G6 {t:Option Int} (h:AK t):NC (cO t):=by
 cases t with
 | none=>exact (by decide +kernel:∀ c∈sg (Str.ofString "ground"),33<=c/\c≠44)
 | some i=>exact oT (h i rfl).1
theorem A3:∀ {l:List Str},(∀ a∈l,NC a)->NB (Str.join (one 44) l)
 | [],_=>λ c hc=>absurd hc (by simp [sg,Str.join,Str.empty])
 | [x],h=>λ c hc=>(h x (by simp) c hc).1
 | x::y::r,h=>λ c hc=>by
  rw[eM] at hc;rcases ß.mp hc with h1 | h1
  ·exact (h x (by simp) c h1).1
  ·rcases Ñ.mp h1 with rfl | h1
   ·decide
   ·exact A3 (l:=y::r) (λ a ha=>h a (Ô _ ha)) c h1
structure OutIn (o:Option Int×Int):Prop where
 tg:AK o.1
 lo:0<=o.2
 hi:o.2 < 10 ^ 9
structure ActIn (a:Str×Int):Prop where
 w:a.1 = "open" \/ a.1 = "shut" \/ a.1 = "turn"
 lo:0<=a.2
 hi:a.2 < 10 ^ 9
theorem ActIn.sg {a:Str×Int} (h:ActIn a):∀ c∈Tw.sg a.1,97<=c/\c<=122:=by
 rcases h.w with e | e | e <;> rw[e] <;> decide +kernel
theorem M1 {o:Option Int×Int} (h:OutIn o):NC (lU o):=A2 (A2 (G6 h.tg) (M3 (by decide))) (oT h.lo)
theorem M4 {a:Str×Int} (h:ActIn a):NC (iL a):=A2 (A2 (λ c hc=>by have:=h.sg c hc;lia) (M3 (by decide))) (oT h.lo)
theorem HP {o:Option Int×Int} (h:OutIn o):mP (lU o)=some o:=by
 unfold mP lU;rw[FT (λ z=>?_)]
 ·show (qF (cO o.1)).bind _=_;rw[uZ h.tg];show (bT (aR o.2)).map _=_;rw[i4 h.lo h.hi];rfl
 ·cases e:o.1 with
  | none=>rw[e] at z;exact absurd z (by decide +kernel)
  | some i=>rw[e] at z;have:=i8 (h.tg i e).1 42 z;lia
theorem HR {a:Str×Int} (h:ActIn a):qG (iL a)=some a:=by
 unfold qG iL;rw[FT (λ z=>by have:=h.sg _ z;lia)];show (bT (aR a.2)).map _=_;rw[i4 h.lo h.hi];rfl
theorem DI {os:List (Option Int×Int)} (hn:os≠[]) (h:∀ o∈os,OutIn o):Txt.split (dI os) (one 44)=os.map lU:=
 hJ (by simpa using hn) λ a ha=>by
  obtain⟨o,ho,rfl⟩:=ä.mp ha;exact λ z=>(M1 (h o ho) 44 z).2 rfl
theorem NO {as:List (Str×Int)} (hn:as≠[]):fI as ≠ "-" := by
 unfold fI;rw[Ä hn];obtain⟨a,r,rfl⟩:=ś hn;intro e;have e1:=congrArg sg e;have h46:46∈sg (Str.join (one 44) ((a::r).map iL)):=by
  have hm:46∈sg (iL a):=by unfold iL;rw[eN,eN];simp [sg,one]
  cases r with
  | nil=>exact hm
  | cons b r=>rw[Ù,Ù,eM];exact Ě _ hm
 rw[e1] at h46;exact absurd h46 (by decide +kernel)
theorem B6 {as:List (Str×Int)} (h:∀ a∈as,ActIn a):mQ (fI as)=some as:=by
 by_cases hn:as=[]
 ·subst hn;rfl
 ·unfold mQ;rw[Ä (NO hn)];unfold fI;rw[Ä hn,hJ (by simpa using hn) (λ a ha=>by
   obtain⟨o,ho,rfl⟩:=ä.mp ha;exact λ z=>(M4 (h o ho) 44 z).2 rfl)]
  exact rM λ a ha=>HR (h a ha)
structure VsIn (v:Vs):Prop where
 s0:0<=v.size
 s1:v.size < 10 ^ 9
 b0:0<=v.brim
 b1:v.brim < 10 ^ 9
 on:v.outs≠[]
 os:∀ o∈v.outs,OutIn o
 sp:AK v.spill
 as:∀ a∈v.acts,ActIn a
 o3:v.outs.length<=3
 a3:v.acts.length<=3
theorem IN (b:Bool):decide (eR b = "holds")=b:=by cases b <;> decide +kernel
theorem IW (b:Bool):decide (fP b = "open")=b:=by cases b <;> decide +kernel
theorem HN {v:Vs} (h:VsIn v):xM (pH v)=some v:=by
 show (eQ mP (Txt.split (dI v.outs) (one 44))).bind (λ os=>(bT (aR v.size)).bind λ z=>(bT (aR v.brim)).bind λ m=>(qF (cO v.spill)).bind λ s=>(mQ (fI v.acts)).map λ as=>(⟨z,m,os,decide (eR v.holds = "holds"),s,as⟩:Vs))=_;rw[DI h.on h.os,rM (λ o ho=>HP (h.os o ho)),i4 h.s0 h.s1,i4 h.b0 h.b1,uZ h.sp,B6 h.as];simp only [Option.bind_some,Ķ,IN]
theorem PB {as:List (Str×Int)} (h:∀ a∈as,ActIn a):NB (fI as):=by
 unfold fI
 split
 ·exact (by decide +kernel:∀ c∈sg (Str.ofString "-"),33<=c)
 ·exact A3 λ a ha=>by obtain⟨o,ho,rfl⟩:=ä.mp ha;exact M4 (h o ho)
theorem P9 {os:List (Option Int×Int)} (h:∀ o∈os,OutIn o):NB (dI os):=A3 λ a ha=>by obtain⟨o,ho,rfl⟩:=ä.mp ha;exact M1 (h o ho)
theorem NC.nb {x:Str} (h:NC x):NB x:=λ c hc=>(h c hc).1
theorem M6 {v:Vs} (h:VsIn v):∀ w∈("vessel" : Str)::pH v,NB w:=by
 intro w hw;simp only [pH,Ñ,Ă,or_false] at hw;rcases hw with rfl | rfl | rfl | rfl | rfl | rfl | rfl
 ·exact (by decide +kernel:∀ c∈sg (Str.ofString "vessel"),33<=c)
 ·exact (oT h.s0).nb
 ·exact (oT h.b0).nb
 ·exact P9 h.os
 ·cases v.holds
  ·exact (by decide +kernel:∀ c∈sg (Str.ofString "loses"),33<=c)
  ·exact (by decide +kernel:∀ c∈sg (Str.ofString "holds"),33<=c)
 ·exact (G6 h.sp).nb
 ·exact PB h.as
structure SptIn (s:nE):Prop where
 t0:0<=s.1
 t1:s.1 < 10 ^ 9
 f0:0<=s.2.1
 f1:s.2.1 < 10 ^ 9
theorem M7 {s:nE} (h:SptIn s):∀ w∈("spout" : Str)::tE s,NB w:=by
 intro w hw;simp only [tE,Ñ,Ă,or_false] at hw;rcases hw with rfl | rfl | rfl | rfl
 ·exact (by decide +kernel:∀ c∈sg (Str.ofString "spout"),33<=c)
 ·exact (oT h.t0).nb
 ·exact (oT h.f0).nb
 ·cases s.2.2
  ·exact (by decide +kernel:∀ c∈sg (Str.ofString "shut"),33<=c)
  ·exact (by decide +kernel:∀ c∈sg (Str.ofString "open"),33<=c)
theorem DT {v:Vs} (h:VsIn v):kT (jL v)=some (.inl v):=by
 unfold kT jL;rw[hJ (by simp) λ a ha z=>by have:=M6 h a ha 32 z;lia];refine (Å (show ("vessel" : Str) = "vessel" /\ (pH v).length=6 from ⟨rfl,rfl⟩)).trans ?_;rw[HN h];rfl
theorem DU {s:nE} (h:SptIn s):kT (kQ s)=some (.inr s):=by
 unfold kT kQ;rw[hJ (by simp) λ a ha z=>by have:=M7 h a ha 32 z;lia];refine (Ä (show ¬ (("spout" : Str) = "vessel" /\ (tE s).length=6) from λ z=>absurd (show (3:Nat)=6 from z.2) (by decide))).trans ?_;refine (Å (show ("spout" : Str) = "spout" /\ (tE s).length=3 from ⟨rfl,rfl⟩)).trans ?_;show ((bT (aR s.1)).bind λ t=>(bT (aR s.2.1)).map λ f=>((t,f,decide (fP s.2.2 = "open")):nE)).map Sum.inr=_;rw[i4 h.t0 h.t1,i4 h.f0 h.f1];simp only [Option.bind_some,Ķ,IW]
theorem G5 {l:List Str} (h:∀ a∈l,NB a):∀ c∈sg (Str.join (one 32) l),32<=c:=by
 induction l with
 | nil=>intro c hc;exact absurd hc (by simp [sg,Str.join,Str.empty])
 | cons x r ih=>
  cases r with
  | nil=>intro c hc;have:=h x (by simp) c hc;lia
  | cons y r=>
   intro c hc;rw[eM] at hc;rcases ß.mp hc with h1 | h1
   ·have:=h x (by simp) c h1;lia
   ·rcases Ñ.mp h1 with rfl | h1
    ·decide
    ·exact ih (λ a ha=>h a (Ô _ ha)) c h1
theorem rN {ak:Type}{f:Str->Option ak}:∀ {l m:List Str}{a b:List ak},eQ f l=some a->eQ f m=some b->eQ f (l++m)=some (a++b)
 | [],m,a,b,h1,h2=>by cases h1;exact h2
 | x::l,m,a,b,h1,h2=>by
  rw[eQ] at h1;cases e:f x with
  | none=>rw[e] at h1;cases h1
  | some y=>
   rw[e] at h1;cases e2:eQ f l with
   | none=>rw[e2] at h1;cases h1
   | some r=>
    rw[e2] at h1;cases h1;rw[ũ,eQ,e,rN e2 h2];rfl
theorem oP {ak gc:Type}{f:Str->Option gc}{g:ak->Str}{k:ak->gc}:∀ {l:List ak},(∀ a∈l,f (g a)=some (k a))->eQ f (l.map g)=some (l.map k)
 | [],_=>rfl
 | a::l,h=>by
  rw[Ù,eQ,h a Þ,oP λ b hb=>h b (Ô _ hb)];rfl
theorem kC (a b):kD (a++b)=kD a++kD b:=List.filterMap_append ..
theorem iZ (a b):hW (a++b)=hW a++hW b:=List.filterMap_append ..
theorem PP (l:List Vs):kD (l.map Sum.inl)=l:=by unfold kD;induction l with | nil=>rfl | cons a l ih=>rw[Ù,Ġ];simp [ih]
theorem PN (l:List nE):kD (l.map Sum.inr)=[]:=by unfold kD;induction l with | nil=>rfl | cons a l ih=>rw[Ù,Ġ];simp [ih]
theorem KJ (l:List Vs):hW (l.map Sum.inl)=[]:=by unfold hW;induction l with | nil=>rfl | cons a l ih=>rw[Ù,Ġ];simp [ih]
theorem KI (l:List nE):hW (l.map Sum.inr)=l:=by unfold hW;induction l with | nil=>rfl | cons a l ih=>rw[Ù,Ġ];simp [ih]
structure NetIn (n:Net):Prop where
 ne:n.vs≠[]
 vs:∀ v∈n.vs,VsIn v
 sps:∀ s∈n.sps,SptIn s
 v12:n.vs.length<=12
 s12:n.sps.length<=12
theorem HI {n:Net} (h:NetIn n):Txt.split (qP n) (one 10)=n.vs.map jL++n.sps.map kQ:=
 hJ (λ z=>h.ne (List.map_eq_nil_iff.mp (List.append_eq_nil_iff.mp z).1)) λ a ha z=>by
  rcases ß.mp ha with ha | ha
  ·obtain⟨v,hv,rfl⟩:=ä.mp ha;have:=G5 (M6 (h.vs v hv)) 10 z;lia
  ·obtain⟨v,hv,rfl⟩:=ä.mp ha;have:=G5 (M7 (h.sps v hv)) 10 z;lia
theorem HQ {n:Net} (h:NetIn n):KL (qP n)=some n:=by
 unfold KL;rw[HI h,rN (oP (k:=Sum.inl) λ v hv=>DT (h.vs v hv)) (oP (k:=Sum.inr) λ s hs=>DU (h.sps s hs))];show some (Net.mk _ _)=_;rw[kC,iZ,PP,PN,KJ,KI,ı,Ŀ]
theorem tP {B:Nat}:∀ {l:List Str},(∀ a∈l,a.length<=B)->(l.map (·.length)).sum<=l.length * B
 | [],_=>by simp
 | a::l,h=>by
  have h1:=h a Þ;have h2:=tP λ b hb=>h b (Ô _ hb);rw[Ù,đ,á,Nat.succ_mul];lia
theorem mX {B:Nat}{c:Nat}{l:List Str} (h:∀ a∈l,a.length<=B):(Str.join (one c) l).length<=l.length * B+l.length:=by
 have h1:=StrLaws.join_length_le (one c) l;have h2:=tP h;have:(one c).length=1:=rfl;rw[this] at h1;lia
theorem jI {B:Nat}{sep:Str}{l:List Str} (h:∀ a∈l,a.length<=B) (h1:sep.length<=1) (h2:l.length * B+l.length<=1000000):JoinOk sep l=true:=by
 have h3:=tP h;have h4:l.length * sep.length<=l.length * 1:=ż _ h1;exact agk (by lia)
theorem qU {t:Option Int} (h:AK t):(cO t).length<=9:=by
 cases t with
 | none=>decide
 | some i=>exact gF (h i rfl).1 (h i rfl).2
theorem A6 {o:Option Int×Int} (h:OutIn o):(lU o).length<=19:=by
 have h1:=qU h.tg;have h2:=gF h.lo h.hi;have h3:(one 42).length=1:=rfl;unfold lU;rw[ù,ù];lia
theorem MF {a:Str×Int} (h:ActIn a):a.1.length=4:=by
 rcases h.w with e | e | e <;> rw[e] <;> rfl
theorem A7 {a:Str×Int} (h:ActIn a):(iL a).length<=19:=by
 have h1:=MF h;have h2:=gF h.lo h.hi;have h3:(one 46).length=1:=rfl;unfold iL;rw[ù,ù];lia
theorem BU {os:List (Option Int×Int)} (h:∀ o∈os,OutIn o) (h3:os.length<=3):(dI os).length<=60:=by
 have:=mX (c:=44) (l:=os.map lU) (B:=19) λ a ha=>by obtain⟨o,ho,rfl⟩:=ä.mp ha;exact A6 (h o ho)
 rw[Ê] at this;unfold dI;lia
theorem BW {as:List (Str×Int)} (h:∀ a∈as,ActIn a) (h3:as.length<=3):(fI as).length<=60:=by
 unfold fI
 split
 ·decide
 ·have:=mX (c:=44) (l:=as.map iL) (B:=19) λ a ha=>by obtain⟨o,ho,rfl⟩:=ä.mp ha;exact A7 (h o ho)
  rw[Ê] at this;lia
theorem BV (b:Bool):(eR b).length=5:=by cases b <;> rfl
theorem wB (b:Bool):(fP b).length=4:=by cases b <;> rfl
theorem BR {v:Vs} (h:VsIn v):∀ w∈("vessel" : Str)::pH v,w.length<=60:=by
 intro w hw;simp only [pH,Ñ,Ă,or_false] at hw;rcases hw with rfl | rfl | rfl | rfl | rfl | rfl | rfl
 ·decide
 ·have:=gF h.s0 h.s1;lia
 ·have:=gF h.b0 h.b1;lia
 ·exact BU h.os h.o3
 ·rw[BV];decide
 ·have:=qU h.sp;lia
 ·exact BW h.as h.a3
theorem PK {v:Vs} (h:VsIn v):(jL v).length<=500:=by
 have:=mX (c:=32) (BR h);have e:(("vessel" : Str)::pH v).length=7:=rfl;rw[e] at this;unfold jL;lia
theorem BS {s:nE} (h:SptIn s):∀ w∈("spout" : Str)::tE s,w.length<=60:=by
 intro w hw;simp only [tE,Ñ,Ă,or_false] at hw;rcases hw with rfl | rfl | rfl | rfl
 ·decide
 ·have:=gF h.t0 h.t1;lia
 ·have:=gF h.f0 h.f1;lia
 ·rw[wB];decide
theorem PL {s:nE} (h:SptIn s):(kQ s).length<=500:=by
 have:=mX (c:=32) (BS h);have e:(("spout" : Str)::tE s).length=4:=rfl;rw[e] at this;unfold kQ;lia
theorem rW {n:Net} (h:NetIn n):∀ a∈n.vs.map jL++n.sps.map kQ,a.length<=500:=λ a ha=>by
 rcases ß.mp ha with ha | ha
 ·obtain⟨v,hv,rfl⟩:=ä.mp ha;exact PK (h.vs v hv)
 ·obtain⟨v,hv,rfl⟩:=ä.mp ha;exact PL (h.sps v hv)
theorem PM {n:Net} (h:NetIn n):(qP n).length<=20000:=by
 have:=mX (c:=10) (rW h);rw[â,Ê,Ê] at this;have h1:=h.v12;have h2:=h.s12;unfold qP;lia
def gE (x:Str):Prop:=∀ c∈sg x,c < 128
theorem tD {w:Str} (ha:gE w) (h:Txt.isdecimal w=true):sg w≠[]/\∀ c∈sg w,48<=c/\c<=57:=by
 have h:(decide (w.length > 0) && w.cps.all Unicode.isDecimal)=true:=h;rw[Ğ] at h;refine⟨λ z=>?_,λ c hc=>?_⟩
 ·have:=è h.1;rw[<- gT,z] at this;cases this
 ·have h2:=(Array.all_eq_true'.mp h.2) c (by simpa using hc);have h3:=ha c hc;have:∀ c,c < 128->Unicode.isDecimal c=true->48<=c/\c<=57:=by decide +kernel
  exact this c h3 h2
theorem GG:∀ (cs:List Nat) (a:Nat),(∀ c∈cs,48<=c/\c<=57)->cs.foldl (λ ji c=>ji * 10+(c - 48)) a < (a+1) * 10 ^ cs.length
 | [],a,_=>by simp
 | c::cs,a,h=>by
  have h1:=GG cs (a * 10+(c - 48)) λ d hd=>h d (Ô _ hd);have h2:=h c Þ;have h3:(a * 10+(c - 48)+1) * 10 ^ cs.length<=((a+1) * 10) * 10 ^ cs.length:=Nat.mul_le_mul_right _ (by lia);rw[List.foldl_cons,á,Nat.pow_succ,Nat.mul_comm (10 ^ cs.length) 10,<- Nat.mul_assoc];lia
theorem JT (cs:List Nat) (h:∀ c∈cs,48<=c/\c<=57):NumText.digitsVal cs < 10 ^ cs.length:=by
 have:=GG cs 0 h;rw[Nat.zero_add,Nat.one_mul] at this;exact this
theorem sZ {w:Str} (ha:gE w) (h:Txt.isdecimal w=true) (hl:w.length<=9):∃ n:Int,PySem.intText? w=some n/\0<=n/\n < 10 ^ 9:=by
 obtain⟨h1,h2⟩:=tD ha h;refine⟨_,intText_digits h2 h1 (by lia),by lia,?_⟩;have:=JT (sg w) h2;have h3:10 ^ (sg w).length<=10 ^ 9:=Nat.pow_le_pow_right (by decide) (by rw[gT];exact hl);show ((NumText.digitsVal (sg w):Nat):Int) < 10 ^ 9;lia
theorem vA {w:Str} (ha:gE w) {n:Int} (h:bT w=some n):0<=n/\n < 10 ^ 9/\PySem.intText? w=some n/\w.length<=9:=by
 unfold bT at h
 split at h
 ·rename_i hc
  obtain⟨m,hm,h0,h1⟩:=sZ ha hc.1 hc.2;rw[hm] at h;simp only at h
  split at h
  ·cases h;exact⟨h0,h1,hm,hc.2⟩
  ·cases h
 ·cases h
theorem uJ (c:Nat):∀ {l:List Str}{p:Str},p∈l->∀ d∈sg p,d∈sg (Str.join (one c) l)
 | [],_,h=>nomatch h
 | [x],p,h=>by rw[ã.mp h];exact λ d hd=>hd
 | x::y::r,p,h=>λ d hd=>by
  rw[eM];rcases Ñ.mp h with rfl | h
  ·exact Ě _ hd
  ·exact Ĉ _ (Ô _ (uJ c h d hd))
theorem fB {c:Nat}{x p:Str} (h:gE x) (hp:p∈Txt.split x (one c)):gE p:=λ d hd=>h d (by
 have e:=ŏ x (one c);rw[<- e];exact uJ c hp d hd)
theorem CS {c:Nat}{x:Str} (h:gE x):gE (Txt.partition x (one c)).1/\gE (Txt.partition x (one c)).2.2:=by
 have e:=StrLaws.partition_sum x (one c);constructor
 ·exact λ d hd=>h d (by rw[<- e,eN,eN];exact Ě _ (Ě _ hd))
 ·exact λ d hd=>h d (by rw[<- e,eN,eN];exact Ĉ _ hd)
theorem BT {c:Nat}{x:Str}:(Txt.partition x (one c)).1.length<=x.length/\(Txt.partition x (one c)).2.2.length<=x.length:=⟨(afb x (one c)).1,(afb x (one c)).2.2⟩
theorem kU {ak:Type}{f:Str->Option ak}{w:Str}{a:ak}:∀ {l:List Str}{r:List ak},eQ f l=some r->f w=some a->eQ f (l++[w])=some (r++[a]):=λ h e=>rN h (by rw[eQ,e];rfl)
theorem kW {ak:Type}{f:Str->Option ak}{w:Str} (e:f w=none):∀ {l:List Str},w∈l->eQ f l=none
 | [],h=>nomatch h
 | x::l,h=>by
  rw[eQ];rcases Ñ.mp h with rfl | h
  ·rw[e];rfl
  ·rw[kW e h];cases f x <;> rfl
theorem dG {ak:Type}{l:List ak}{i:Nat}{x:ak} (h:l[i]? = some x):l.take (i+1)=l.take i++[x]:=by rw[Ĥ,h];rfl
theorem OD {a b c d e f:Str}:xM [a,b,c,d,e,f]=(eQ mP (Txt.split c (one 44))).bind λ os=>(bT a).bind λ z=>(bT b).bind λ m=>(qF e).bind λ s=>(mQ f).map λ as=>⟨z,m,os,decide (d = "holds"),s,as⟩:=rfl
theorem yY {a b c:Str}:B5 [a,b,c]=(bT a).bind λ t=>(bT b).map λ f=>(t,f,decide (c = "open")):=rfl
theorem KK {w:Str} (ha:gE w):(Txt.isdecimal w=false/\bT w=none)\/(Txt.isdecimal w=true/\¬ w.length<=9/\bT w=none)\/∃ n,Txt.isdecimal w=true/\w.length<=9/\PySem.intText? w=some n/\0<=n/\n < 10 ^ 9/\(bT w).isSome=decide (aR n=w):=by
 by_cases h1:Txt.isdecimal w=true
 ·by_cases h2:w.length<=9
  ·obtain⟨n,hn,h0,h9⟩:=sZ ha h1 h2;refine .inr (.inr ⟨n,h1,h2,hn,h0,h9,?_⟩);unfold bT;rw[Å ⟨h1,h2⟩,hn]
   by_cases hw:aR n=w
   ·simp [hw]
   ·simp [hw]
  ·exact .inr (.inl ⟨h1,h2,Ä λ z=>h2 z.2⟩)
 ·exact .inl ⟨by simpa using h1,Ä λ z=>h1 z.1⟩
end Tw
namespace L2
open PySem PySem.Spec PyProof.Rows
open Builtin Builtin.Str
def RP (x:Str):List V:=x.cps.toList.map λ c=>V.str ⟨#[c]⟩
def Itc (x:Str):It:=⟨λ i _=>i < x.cps.size,λ i H v H'=>H'=H/\∃ c,x.cps[i]? = some c/\v=.str ⟨#[c]⟩,λ i _=>x.cps.size<=i⟩
theorem TC {M:Model}{A:Around}{E:À->Â->Prop}{s:Â}{tg:Expr}{it:Á}{x:Str}{t:Tok}{Q:Unit->Â->Prop} (hQ:Q () s):wpAny M A (letOwnedTupleGo tg (.ref it) (.str x t)) Q E s:=by
 unfold letOwnedTupleGo;cases tg <;> exact Ë hQ
theorem JX {P:Ã}{w:World}{K:Ç}{tg:Expr} (it:Á) (x:Str) (t:Tok):Turn P w K tg (Itc x) [it] it (λ i h=>h.IsStrIter it "str_ascii_iterator" x t i) where
 mem:=by simp
 obj:=λ i h st b hb=>by
  have e:b=it:=by simpa using hb
  subst e;obtain⟨o,e,c,d⟩:=st;exact⟨o,e,λ v z=>by rw[d] at z;cases z⟩
 keep:=λ i h h' st k=>by
  obtain⟨o,e,r⟩:=st;exact⟨o,k it (by simp) o e,r⟩
 item:=by
  intro X hP hw hK hc i gn s σ H E I hf st hg;subst hP hw hK;obtain⟨f0,f1,f2,f3,f4,f5⟩:=hf it (by simp);refine (Walks.strAscii (prog:=X.prog) (w:=X.w) (I.ok.hd hc) it x t).item i s _ _ hg st λ v h' tk hv xm kk=>?_;obtain⟨c,u,hx,rfl⟩:=hv;have I1:Inv X gn σ H { s with heap:=h',toks:=tk }:=I.turned (λ b o hb e=>kk b o (by simpa using hb) e) f0 f1 f3 f4 f5;exact⟨_,rfl,TC ⟨.str ⟨#[c]⟩,H,I1,⟨u,rfl⟩,⟨rfl,c,hx,rfl⟩,xm,λ b hb=>(hf b hb).1⟩⟩
 done:=by
  intro X hP hw hK hc i gn s σ H E I hf st hg;subst hP hw hK;obtain⟨f0,f1,f2,f3,f4,f5⟩:=hf it (by simp);exact wpAny_pyNext_ascii_end (I.ok.hd hc) st (by have:x.cps.size<=i:=hg;simp;lia) λ h' eb=>⟨rfl,I.turned (t':=s.toks) (λ b o hb e=>eb b o hb e) f0 f1 f3 f4 f5⟩
 self:=λ _ _ _ _ _ st h=>wpAny_pyIter_striter_ascii st h
section
variable {X:Cx}{tg:Expr}
def VE (tl:TE):TI:=λ σ H R=>tl σ H λ v H1=>∃ x:Str,v=.str x/\x.cps.all (· < 128)=true/\R (Itc x) H1
theorem S5 {l:Expr}{tl:TE} (hl:PE X l tl):PI X tg l (VE tl):=by
 intro gn s σ H R I h;refine d8 (hl gn s σ H _ I h) λ v s1 ⟨x,H1,I1,r1,q1⟩=>?_;obtain⟨x,e,ha,q⟩:=q1;subst e;obtain⟨t,rfl⟩:=r1;refine wpAny_pyIter_ascii ha ?_;refine⟨s1.heap.objs.size,[s1.heap.objs.size],_,_,H1,rfl,I1.kept (t':=s1.toks) λ b o e=>Î _ e,JX _ x t,⟨_,Ü _ rfl,rfl,rfl⟩,λ b hb=>?_,q⟩;have e:b=s1.heap.objs.size:=by simpa using hb
 subst e;exact I1.fpOk (Í _) (I1.hok.fresh (Í _))
theorem OQ {K:Ç}{l:Expr}{tl:TE} (hK:X.K=K) (hl:PE X l tl):PI X tg l (VE tl):=S5 hl
theorem SQ {x:Str}{g:TG}{tc:TT}{te:TE}{fr:List (Option Nat)}{σ:St}{H1:Hp}{Q:Á->Hp->Prop} (Pv:Á->Nat->List V->St->Hp->Prop)
  (h0:∀ D,H1 D=none->Pv D 0 [] (EM fr σ) (upd H1 D (.lst []))) (jl:∀ D ys ac H',Pv D x.cps.size ys ac H'->Q D H')
  (pi:∀ D i c ys ac H',x.cps[i]? = some c->Pv D i ys ac H'->g (.str ⟨#[c]⟩) ac H' λ aq H3=>tc aq H3 λ b H4=>
    if b=true then te aq H4 λ y H5=>H5 D=some (.lst ys)/\ys.length < sizeLine/\Pv D (i+1) (ys++[y]) aq (upd H5 D (.lst (ys++[y])))
    else Pv D (i+1) ys aq H4):j6 (Itc x) g tc te fr σ H1 Q:=by
 refine rY (n:=x.cps.size) Pv h0 (λ D ys ac H' p=>⟨Í _,jl D ys ac H' p⟩) λ D i ys ac H' hi p=>⟨hi,λ v H2 y=>?_⟩;obtain⟨e,c,hc,rfl⟩:=y;subst e;exact pi D i c ys ac _ hc p
def UW:List V->Hp->VK->Prop:=λ xs H Q=>∃ y:Str,xs=[.str y]/\y.length<=1000000/\∀ l,H l=none->Q (.ref l) (upd H l (.lst (RP y)))
theorem JD (hc:X.calm=true):eY X (.type "list") UW:=by
 intro gn s σ H xs us Q I r h;obtain⟨y,rfl,hl,q⟩:=h;obtain⟨u,rfl,t,rfl⟩:=o6 r;have Lx:y.cps.size<=sizeLine:=by rw[à];have:y.cps.size=y.length:=rfl;lia
 refine call_list_str (I.ok.hd hc) y t (λ h' tk ji c' hk hS Fi=>?_) (hn:=Lx);have hv:bG (RP y) ji.toList:=by
  have ij:ji.size=y.cps.size:=Fi.1;have:∀ (l:List À) (cs:List Nat),l.length=cs.length->(∀ (j:Nat) v,l[j]? = some v->∃ (c:Nat) (u:Tok),cs[j]? = some c/\v=Value.str ⟨#[c]⟩ u)->bG (cs.map λ c=>V.str ⟨#[c]⟩) l:=by
   intro l
   induction l with
   | nil=>intro cs h _;cases cs with
    | nil=>exact .nil
    | cons a b=>cases h
   | cons v l ih=>
    intro cs h k;cases cs with
    | nil=>cases h
    | cons c cs=>
     obtain⟨c',u,xl,rfl⟩:=k 0 v rfl;cases xl;exact .cons ⟨u,rfl⟩ (ih cs (by simpa using h) λ j v hj=>k (j+1) v (by simpa using hj))
  refine this ji.toList y.cps.toList (by simp [ij]) λ j v hj=>?_;obtain⟨c,u,hc,rfl⟩:=Fi.2 j v (by simpa using hj);exact⟨c,u,by simpa using hc,rfl⟩
 refine⟨.ref _,_,I.laid (o:=.lst (RP y)) (t':=tk) hk (Í _) ⟨?_,ji.toList,c',hv,by simpa using hS⟩,rfl,q _ I.fresh⟩;unfold RP;rw[Ê];simpa using Lx
def FO:V->List V->Hp->VK->Prop:=λ x vs H Q=>∃ (l:Á) (xs:List V) (i:Int) (y:V),x=.ref l/\vs=[.int i,y]/\H l=some (.lst xs)/\0<=i/\i<=xs.length/\xs.length < 1000000/\Q .non (upd H l (.lst (xs.take i.toNat++y::xs.drop i.toNat)))
theorem AV {a:List V}{b:List À} (h:bG a b):∀ k:Nat,bG (a.take k) (b.take k)/\bG (a.drop k) (b.drop k):=by
 induction h with
 | nil=>intro k;simp;exact .nil
 | cons r rr ih=>
  intro k;cases k with
  | zero=>exact⟨.nil,.cons r rr⟩
  | succ k=>exact⟨.cons r (ih k).1,(ih k).2⟩
theorem IE:TW X "list.insert" FO:=by
 intro gn s σ H x vs v us Q I rx rv h;obtain⟨l,xs,i,y,rfl,rfl,hH,h0,hk,hx,q⟩:=h;cases rx;obtain⟨u1,u2,rfl,r1,r2⟩:=rv.two;obtain⟨t,rfl⟩:=r1;obtain⟨z,gx,n,r,hl,e⟩:=I.lstM hH;have hsz:gx.toArray.size<=sizeLine:=by rw[Ú];lia
 have An:¬ (!Builtin.List.listFitsIndex i)=true:=by
  rw[fitsIndex_both (by lia) (by lia)];decide
 have M:=AutoSeq1.list_insert_list_int_val_1 l gx.toArray n i t u2 An hsz;refine ą F.slot_list_insert ⟨_,e,rfl⟩ F.entry_list_insert (F.args_list_insert_3 _ _ _) M ⟨e,?_⟩;have rt:bG (xs.take i.toNat++y::xs.drop i.toNat) (gx.take i.toNat++u2::gx.drop i.toNat):=(AV r i.toNat).1.append (.cons r2 (AV r i.toNat).2);refine⟨.non,_,I.lset (its':=gx.take i.toNat++u2::gx.drop i.toNat) hH e ?_ rt ?_,rfl,q⟩
 ·have h1:¬ (i < 0):=by lia
  have h2:min i.toNat gx.toArray.size=i.toNat:=by rw[Ú];lia
  have h3:gx.length - i.toNat ≥ 0:=ê _;simp only [h1,if_false,h2];apply Array.toList_inj.mp;simp [õ]
 ·rw[â,á,î,Œ,à];lia
def rInS:R2:=λ x y H Q=>∃ a b:Str,x=.str a/\y=.str b/\Q (.bl (Txt.contains b a)) H
theorem SE:iW X (compareOp .In) rInS:=by
 intro gn s σ H x y v u Q I rx ry h;obtain⟨a,b,rfl,rfl,q⟩:=h;obtain⟨t,rfl⟩:=rx;obtain⟨t',rfl⟩:=ry;exact P.in_str ⟨.bl _,H,I,rfl,q⟩
end
end L2
namespace Tw
open PySem L2
def nY (l:List Str):Nat:=(l.map λ w=>w.length+1).sum
theorem eT (a:Str) (l:List Str):nY (a::l)=a.length+1+nY l:=by unfold nY;rw[Ù,đ]
theorem EV (a b:List Str):nY (a++b)=nY a+nY b:=by unfold nY;rw[Ð,ĭ]
theorem pG:∀ {l:List Str}{i:Nat}{a z:Str},l[i]? = some a->nY (l.set i z)+(a.length+1)=nY l+(z.length+1)
 | [],_,_,_,h=>by simp at h
 | x::l,0,a,z,h=>by simp at h;subst h;rw[afp,eT,eT];lia
 | x::l,i+1,a,z,h=>by
  have:=pG (l:=l) (i:=i) (a:=a) (z:=z) (by simpa using h);rw[List.set_cons_succ,eT,eT];lia
theorem wY:∀ (l:List Str) (i:Nat),nY (l.eraseIdx i)<=nY l
 | [],i=>by simp
 | x::l,0=>by rw[List.eraseIdx_cons_zero,eT];lia
 | x::l,i+1=>by
  have:=wY l i;rw[ŵ,eT,eT];lia
theorem NZ (l:List Str) (i:Nat):nY (l.take i)+nY (l.drop i)=nY l:=by rw[<- EV,List.take_append_drop]
theorem pF:∀ l:List Str,(l.map (·.length)).sum+l.length=nY l
 | []=>rfl
 | a::l=>by have:=pF l;rw[eT,Ù,đ,á];lia
theorem rX {sep:Str}{l:List Str} (h:sep.length<=1):(Str.join sep l).length<=nY l:=by
 have h1:=StrLaws.join_length_le sep l;have h2:l.length * sep.length<=l.length * 1:=ż _ h;have h3:=pF l;lia
theorem kF {sep:Str}{l:List Str} (h:sep.length<=1) (hw:nY l<=1000000):JoinOk sep l=true:=by
 have h2:l.length * sep.length<=l.length * 1:=ż _ h;have h3:=pF l;exact agk (by lia)
theorem qT (l:List Str):l.length<=nY l:=by have:=pF l;lia
theorem wX (x:Str) (c:Nat):nY (Txt.split x (one c))<=x.length+1:=by
 have:=PyProof.Rows.split_weight x (one c) (Í 1);rw[<- pF];exact this
theorem kM {sep:Str} (hs:gE sep):∀ {l:List Str},(∀ a∈l,gE a)->gE (Str.join sep l)
 | [],_=>λ c hc=>absurd hc (by simp [sg,Str.join,Str.empty])
 | [x],h=>h x (by simp)
 | x::y::r,h=>λ d hd=>by
  have e:sg (Str.join sep (x::y::r))=sg x++sg sep++sg (Str.join sep (y::r)):=by
   show sg (x++sep++Str.join sep (y::r))=_;rw[eN,eN]
  rw[e] at hd;rcases ß.mp hd with h1 | h1
  ·rcases ß.mp h1 with h1 | h1
   ·exact h x (by simp) d h1
   ·exact hs d h1
  ·exact kM hs (l:=y::r) (λ a ha=>h a (Ô _ ha)) d h1
def FE (x:Str):List Str:=x.cps.toList.map λ c=>one c
theorem UO (x:Str):RP x=(FE x).map V.str:=by unfold RP FE;rw[ü];rfl
theorem O7 (x:Str):nY (FE x)=2 * x.length:=by
 have:∀ l:List Nat,nY (l.map λ c=>one c)=2 * l.length:=by
  intro l
  induction l with
  | nil=>rfl
  | cons a l ih=>rw[Ù,eT,ih,á];show 1+1+_=_;lia
 unfold FE;rw[this,gT]
theorem O8 {x:Str} (h:gE x):∀ a∈FE x,gE a/\a.length<=1:=λ a ha=>by
 obtain⟨c,hc,rfl⟩:=ä.mp ha;exact⟨λ d hd=>(by rw[show d=c by simpa [sg,one] using hd];exact h c hc),Í _⟩
theorem xT:∀ l:List Str,(Str.join Str.empty l).length=(l.map (·.length)).sum
 | []=>rfl
 | [x]=>by simp [Str.join]
 | x::y::r=>by
  have e:Str.join Str.empty (x::y::r)=x++Str.empty++Str.join Str.empty (y::r):=rfl;have e0:Str.empty.length=0:=rfl;rw[e,ù,ù,xT (y::r),e0,Nat.add_zero];simp only [Ù,đ]
theorem O3 {l:List Str} (h:∀ a∈l,a.length<=1):(l.map (·.length)).sum<=l.length:=by
 have:=tP (B:=1) h;lia
def CL (w:Str):Bool:=(sg w).all λ c=>decide (48<=c) && decide (c<=57)
def tK (w:Str):Option Int:=if w = "" \/ 9 < w.length\/CL w=false then none else if (sg w)[0]? = some 48/\w ≠ "0" then none else PySem.intText? w
theorem PZ:∀ c,c < 128->Txt.contains "0123456789" (one c)=(decide (48<=c) && decide (c<=57)):=by decide +kernel
theorem EO {w:Str} (h:CL w=true) (hn:w ≠ "") (hl:w.length<=9):∃ n:Int,PySem.intText? w=some n/\0<=n/\n < 10 ^ 9:=by
 have h2:∀ c∈sg w,48<=c/\c<=57:=λ c hc=>by
  have:=ě.mp h c hc;simpa using this
 have h1:sg w≠[]:=λ z=>hn (jM (by rw[z];rfl));refine⟨_,intText_digits h2 h1 (by lia),by lia,?_⟩;have:=JT (sg w) h2;have h3:10 ^ (sg w).length<=10 ^ 9:=Nat.pow_le_pow_right (by decide) (by rw[gT];exact hl);show ((NumText.digitsVal (sg w):Nat):Int) < 10 ^ 9;lia
theorem LV {n:Int} (h0:0<=n) (h:(sg (aR n))[0]? = some 48):aR n = "0" := by
 have hd:NumText.AllDigits (sg (aR n)):=i8 h0;obtain⟨m,rfl⟩:=ú h0;have e:sg (aR (m:Int))=(Nat.toDigits 10 m).map Char.toNat:=Ō m;have ev:NumText.digitsVal (sg (aR (m:Int)))=m:=by rw[e];exact PySem.W.KIN.val_back m
 have ea:=NumText.toDigits_all _ hd;rw[ev] at ea;generalize sg (aR (m:Int))=cs at h e ea;cases cs with
 | nil=>cases h
 | cons c r=>
  obtain rfl:c=48:=by simpa using h
  have ed:(48::r).dropWhile (· == 48)=r.dropWhile (· == 48):=by simp [List.dropWhile_cons]
  rw[ed] at ea;cases er:r.dropWhile (· == 48) with
  | nil=>
   rw[er] at ea;have e2:sg (aR (m:Int))=(Nat.toDigits 10 m).map Char.toNat:=Ō m;rw[ea] at e2;exact jM (e2.trans (by decide +kernel))
  | cons d r'=>
   rw[er] at ea;have h1:=congrArg List.length e;rw[Ê,ea] at h1;have h2:=NumText.len_dropWhile (· == 48) r;rw[er] at h2;simp at h1 h2;lia
def AQ (l:List Int):Prop:=∀ x∈l,0<=x
theorem E3:∀ {l:List Int},AQ l->0<=l.sum/\∀ x∈l,x<=l.sum
 | [],_=>⟨ö _,λ x h=>nomatch h⟩
 | a::l,h=>by
  have h0:=h a Þ;obtain⟨h1,h2⟩:=E3 λ x hx=>h x (Ô _ hx);rw[đ];refine⟨by lia,λ x hx=>?_⟩;rcases Ñ.1 hx with rfl | hx
  ·lia
  ·have:=h2 x hx;lia
theorem G4:∀ {a b c:List Int},AQ a->AQ b->AQ c->AQ (jB a b c)
 | a::as,b::bs,c::cs,ha,hb,hc=>λ x hx=>by
  rcases Ñ.1 (show x∈(a+b+c)::jB as bs cs from hx) with rfl | hx
  ·have:=ha a Þ;have:=hb b Þ;have:=hc c Þ;lia
  ·exact G4 (λ x h=>ha x (Ô _ h)) (λ x h=>hb x (Ô _ h)) (λ x h=>hc x (Ô _ h)) x hx
 | [],_,_,_,_,_=>λ x hx=>by simp [jB] at hx
 | _::_,[],_,_,_,_=>λ x hx=>by simp [jB] at hx
 | _::_,_::_,[],_,_,_=>λ x hx=>by simp [jB] at hx
theorem G0 {l:List Int} (h:AQ l) (i:Nat):0<=l.getD i 0:=by
 rw[ĕ];cases e:l[i]? with
 | none=>exact ö _
 | some x=>exact h x (Ó e)
theorem LZ {l:List Int} (h:AQ l) (i:Nat) {a:Int} (ha:0<=a):AQ (l.set i a):=λ x hx=>by
 rcases ĥ hx with hx | rfl
 ·exact h x hx
 ·exact ha
theorem G3:∀ {ss:List nE}{ds:List Bool}{has:List Int},(∀ s∈ss,0<=s.2.1)->AQ has->AQ (gB has ss ds)
 | s::ss,d::ds,has,hs,h=>by
  show AQ (gB (n9 has s d) ss ds);refine G3 (λ s hm=>hs s (Ô _ hm)) ?_;unfold n9;have:=hs s Þ;have:=G0 h s.1.toNat
  split
  ·exact LZ h _ (by lia)
  ·exact h
 | [],_,_,_,h=>by cases ‹List Bool› <;> exact h
 | _::_,[],_,_,h=>h
theorem FZ {v:Vs}{has:Int} (hb:0<=v.brim) (h:0<=has):0<=cP v has:=by unfold cP;lia
theorem P8 {n m i:Nat}{v:Vs}{has:Int} (ok:VOk n m v) (fu:VFull i v) (h:0<=has):∀ g∈gJ v has,0<=g.2:=by
 have hb:0<=v.brim:=by have:=ok.size;have:=fu.br;lia
 have hh:=FZ hb h;have hw:1<=whole v.outs:=rB ok.ne ok.outs;intro g hg;unfold gJ at hg;rcases Ñ.1 hg with rfl | hg
 ·show 0<=has - cP v has;unfold cP;lia
 ·split at hg
  ·rcases ß.1 hg with hg | hg
   ·obtain⟨o,ho,rfl⟩:=ä.1 hg;have:=(ok.outs o ho).lo;exact Int.mul_nonneg (Int.ediv_nonneg hh (by lia)) (by lia)
   ·split at hg
    ·cases hg
    ·have:=ã.1 hg;subst this;exact Ģ _ (by lia)
  ·cases hg
theorem P7 {n m i:Nat}{v:Vs}{has:Int} (ok:VOk n m v) (fu:VFull i v) (h:0<=has):0<=iO v has:=by
 have hb:0<=v.brim:=by have:=ok.size;have:=fu.br;lia
 have hh:=FZ hb h;have hw:1<=whole v.outs:=rB ok.ne ok.outs;unfold iO
 split
 ·split
  ·exact Ģ _ (by lia)
  ·exact ö _
 ·exact hh
theorem BL {n m:Nat}:∀ (vs:List Vs) (hs:List Int) (j:Nat),(∀ v∈vs,VOk n m v)->(∀ (i:Nat) (v:Vs),vs[i]? = some v->VFull (j+i) v)->AQ hs->AQ (dW vs hs)/\∀ g∈dO vs hs,0<=g.2
 | v::vs,h::hs,j,ok,fu,nn=>by
  have h0:=nn h Þ;have fv:=fu 0 v rfl;have ov:=ok v Þ;obtain⟨i1,i2⟩:=BL vs hs (j+1) (λ v hv=>ok v (Ô _ hv)) (λ i v e=>by have:=fu (i+1) v e;rw[show j+1+i=j+(i+1) by lia];exact this) λ x hx=>nn x (Ô _ hx);refine⟨λ x hx=>?_,λ g hg=>?_⟩
  ·rcases Ñ.1 (show x∈iO v h::dW vs hs from hx) with rfl | hx
   ·exact P7 ov fv h0
   ·exact i1 x hx
  ·rcases ß.1 (show g∈gJ v h++dO vs hs from hg) with hg | hg
   ·exact P8 ov fv h0 g hg
   ·exact i2 g hg
 | [],_,_,_,_,_=>⟨λ x hx=>by simp [dW] at hx,λ g hg=>by simp [dO] at hg⟩
 | _::_,[],_,_,_,_=>⟨λ x hx=>by simp [dW] at hx,λ g hg=>by simp [dO] at hg⟩
theorem nL (k:Option Int):∀ {g:List (Option Int×Int)},(∀ x∈g,0<=x.2)->0<=d6 k g
 | [],_=>ö _
 | x::g,h=>by
  have h1:=h x Þ;have h2:=nL k λ y hy=>h y (Ô _ hy);show 0<=(if x.1=k then x.2 else 0)+d6 k g
  split <;> lia
theorem FU:∀ {ss:List nE}{ds:List Bool},(∀ s∈ss,0<=s.2.1/\s.2.1<=60)->0<=cN ss ds/\cN ss ds<=60 * ss.length
 | s::ss,d::ds,h=>by
  have h1:=h s Þ;have h2:=FU (ds:=ds) λ y hy=>h y (Ô _ hy);show 0<=(if d=true then s.2.1 else 0)+cN ss ds/\(if d=true then s.2.1 else 0)+cN ss ds<=_;rw[á]
  split <;> lia
 | [],_,_=>by simp [cN]
 | _::_,[],_=>by simp [cN];lia
theorem B1 {B:Int}:∀ {l:List Int},(∀ x∈l,x<=B)->l.sum<=B * l.length
 | [],_=>by simp
 | a::l,h=>by
  have h1:=h a Þ;have h2:=B1 λ x hx=>h x (Ô _ hx);rw[đ,á];have:B * ((l.length+1:Nat):Int)=B * l.length+B:=by rw[Int.natCast_add,Int.mul_add];simp
  lia
structure MomP (m:Mom):Prop where
 h:AQ m.held
 c:AQ m.coming
 p0:AQ m.poured
 p1:∀ x∈m.poured,x<=1000
 g:0<=m.ground
 f:m.fair
 t0:0<=m.tick
 t1:m.tick<=3000
 cm:m.came<=13000 * m.tick
theorem MomP.small {m:Mom} (h:MomP m):(∀ x∈m.held,0<=x/\x < 10 ^ 9)/\(∀ x∈m.coming,0<=x/\x < 10 ^ 9)/\(0<=m.came/\m.came < 10 ^ 9)/\0<=m.ground/\m.ground < 10 ^ 9:=by
 obtain⟨a1,a2⟩:=E3 h.h;obtain⟨b1,b2⟩:=E3 h.c;have hf:m.came=m.held.sum+m.coming.sum+m.ground:=h.f;have:=h.g;have:=h.cm;have:=h.t1;have:=h.t0;exact⟨λ x hx=>⟨h.h x hx,by have:=a2 x hx;lia⟩,λ x hx=>⟨h.c x hx,by have:=b2 x hx;lia⟩,⟨by lia,by lia⟩,by lia,by lia⟩
theorem kB (n:Nat):AQ (dR n)/\∀ x∈dR n,x<=1000:=by
 refine⟨λ x hx=>?_,λ x hx=>?_⟩ <;> (have:=Ň hx;lia)
theorem MomP.zero (net:Net):MomP (E5 net):=⟨(kB _).1,(kB _).1,(kB _).1,(kB _).2,ö _,IH net,ö _,by show (0:Int)<=3000;lia,by show (0:Int)<=13000 * 0;lia⟩
theorem MomP.step {net:Net}{m:Mom} (nok:NetOk net) (pz:NetFull net) (mr:MomOk net m) (h:MomP m) (ht:m.tick < 3000):MomP (m.step net):=by
 have nh:AQ (cI net m.held m.coming m.poured m.doors):=G3 (λ s hs=>(pz.sps s hs).1) (G4 h.h h.c h.p0);obtain⟨n1,n2⟩:=BL net.vs _ 0 nok.vs (λ i v e=>by rw[Nat.zero_add];exact pz.vs i v e) nh;have ho:=FU (ds:=m.doors) pz.sps;have hp:=B1 h.p1;have pl:=mr.pl;have:=nok.hi;have:=nok.sp;refine⟨n1,λ x hx=>?_,(kB _).1,(kB _).2,?_,Mom.fair_step nok mr h.f,?_,?_,?_⟩
 ·obtain⟨k,_,rfl⟩:=ä.1 (show x∈fC _ _ from hx);exact nL _ n2
 ·show 0<=m.ground+d6 none _;have:=nL none n2;have:=h.g;exact Int.add_nonneg h.g (nL none n2)
 ·show 0<=m.tick+1;have:=h.t0;lia
 ·show m.tick+1<=3000;lia
 ·show m.came+(m.poured.sum+cN net.sps m.doors)<=13000 * (m.tick+1);have:=h.cm;lia
theorem MomP.goes {net:Net} (nok:NetOk net) (pz:NetFull net) {m:Mom} (mr:MomOk net m) (h:MomP m):∀ k:Nat,m.tick+k<=3000->MomP (gW net m k)
 | 0,_=>h
 | k+1,hk=>by
  have zw:m.tick+(k:Int)+1<=3000:=by have:((k+1:Nat):Int)=(k:Int)+1:=rfl;lia
  exact MomP.step nok pz (qQ mr k) (MomP.goes nok pz mr h k (by lia)) (by rw[nO];lia)
theorem MomP.pour {m:Mom} (h:MomP m) {v a:Int} (h0:0<=a) (h1:m.poured.getD v.toNat 0+a<=1000):MomP (m.pour v a):=by
 have:=G0 h.p0 v.toNat;refine { h with p0:=LZ h.p0 _ (by lia),p1:=λ x hx=>?_ };rcases ĥ hx with hx | rfl
 ·exact h.p1 x hx
 ·exact h1
def Tk (l:List Int):Prop:=∀ x∈l,0<=x/\x < 10 ^ 9
theorem EW {net:Net}{m:Mom} (h0:0<=m.tick):∀ (k:Nat),m.tick+k<=3000->∀ t∈gS net m k,0<=t.1/\t.1 < 10 ^ 9
 | 0,_,t,h=>by simp [gS] at h
 | k+1,hk,t,h=>by
  have e:((k+1:Nat):Int)=(k:Int)+1:=rfl;rcases ß.1 (show t∈gS net m k++uI net (gW net m k) from h) with h | h
  ·exact EW h0 k (by lia) t h
  ·obtain⟨j,_,rfl⟩:=ä.1 h;show 0<=(gW net m k).tick/\(gW net m k).tick < _;rw[nO];lia
theorem wK:∀ (l:List (Int×Nat)) (ts:List (List Int)),(∀ t∈l,0<=t.1/\t.1 < 10 ^ 9)->(∀ x∈ts,Tk x)->∀ x∈l.foldl addTip ts,Tk x
 | [],ts,_,h=>h
 | t::l,ts,hl,h=>by
  refine wK l (addTip ts t) (λ t ht=>hl t (Ô _ ht)) λ x hx=>?_;rcases ĥ hx with hx | rfl
  ·exact h x hx
  ·intro y hy;rcases ß.1 hy with hy | hy
   ·rw[ĕ] at hy;cases e:ts[t.2]? with
    | none=>rw[e] at hy;cases hy
    | some z=>rw[e] at hy;exact h z (Ó e) y hy
   ·have:=ã.1 hy;subst this;exact hl t Þ
structure Rn (S:RunS) (d:Nat):Prop where
 fu:NetFull S.net
 ok:RunOk S
 mp:MomP S.cur
 tp:∀ x∈S.tips,Tk x
 sz:RunSz S (d+12 * S.cur.tick.toNat)
theorem Rn.zero {net:Net} (nok:NetOk net) (pz:NetFull net):Rn (o0 net) 0:=
 ⟨pz,FL nok,MomP.zero net,λ x hx=>by have:=Ň (show x∈List.replicate _ _ from hx);subst this;exact (λ y hy=>nomatch hy),by have:=OA net;exact⟨ë this.rows (ê _),ë this.pre (ê _),λ l hl=>ë (this.tips l hl) (ê _)⟩⟩
theorem K8 {S:RunS}{a b:Nat} (h:RunSz S a) (hb:a<=b):RunSz S b:=⟨ë h.rows hb,ë h.pre hb,λ l hl=>ë (h.tips l hl) hb⟩
theorem Rn.up {S:RunS}{d e:Nat} (h:Rn S d) (hd:d<=e):Rn S e:={ h with sz:=K8 h.sz (by lia) }
theorem Rn.pour {S:RunS}{d:Nat}{v a:Int} (h:Rn S d) (h0:0<=a) (h1:S.cur.poured.getD v.toNat 0+a<=1000):Rn (S.pour v a) (d+1):=
 ⟨h.fu,h.ok.pour v a,h.mp.pour h0 h1,h.tp,by
  show RunSz (S.pour v a) (d+1+12 * S.cur.tick.toNat);exact K8 (h.sz.pour v a) (by lia)⟩
theorem Rn.go {S:RunS}{d k:Nat} (h:Rn S d) (h1:S.cur.tick+k<=3000):Rn (S.go k) (d+1):=
 ⟨h.fu,h.ok.go k,h.mp.goes h.ok.nok h.fu h.ok.cur k h1,wK _ _ (EW h.mp.t0 k h1) h.tp,by
  show RunSz (S.go k) (d+1+12 * (gW S.net S.cur k).tick.toNat);have:=h.mp.t0;rw[nO];exact K8 (h.sz.go h.ok.nok k) (by lia)⟩
structure TxtS (mg:Str->Option À):Prop where
 b_str:mg "str" = none
theorem bV:bootBuiltins "str" = some (.type "str"):=by decide +kernel
section
variable {aw:Á}
end
end Tw
namespace L2
open PySem PySem.Spec PyProof.Rows TwZ
section
variable {prog:Ã}
end
noncomputable instance decD:DecidableEq D:=λ a b=>Classical.propDecidable (a=b)
section
variable {prog:Ã}
end
section
variable {X:Cx}{gn:List (Á×Obj)}{σ:St}{H:Hp}{s:Â}
end
section
variable {H H':Hp}{a:Á}{S:D}{gy:List (D×V)}
end
section
variable {X:Cx}{gn:List (Á×Obj)}{σ:St}{H:Hp}{s:Â}{a:Á}{S:D}{gy:List (D×V)}
end
end L2
namespace Tw
open PySem L2
end Tw
namespace L2
open PySem PySem.Spec PyProof.Rows TwZ
section
variable {X:Cx}
theorem FP {st:Stmt}{t:TS} (h:∀ pn:List (Á×Obj),PS (X.within pn λ _ _=>False) st t):PS X st t:=by
 intro gn s σ H D I h1;refine ò (h (X.pn++gn) [] s σ H D I.within h1) (λ f aj hf=>?_) λ _ _ z=>z.elim;cases f with
 | next=>obtain⟨ac,H',J,q⟩:=hf;exact⟨ac,H',J.unwithin,q⟩
 | brk=>obtain⟨ac,H',J,q⟩:=hf;exact⟨ac,H',J.unwithin,q⟩
 | cont=>obtain⟨ac,H',J,q⟩:=hf;exact⟨ac,H',J.unwithin,q⟩
 | ret u=>obtain⟨v,ac,H',J,r,q⟩:=hf;exact⟨v,ac,H',J.unwithin,r,q⟩
def tTru (K:Ç) (ta:TE):TT:=λ σ H Q=>ta σ H λ x H'=>∃ k,TQ K x H' k/\Q k H'
theorem xO {a:Expr}{ta:TE} (hK:X.K=K) (ha:PE X a ta) (he:∀ whole,isTrue a X.env whole=(do let v <- whole;standAt a.pos;holding [v] (truthy v))):PT X a (tTru K ta):=by subst hK;exact KY ha he
end
end L2
namespace Tw
open PySem L2
def pN:Sp:=λ vs H Q _=>∃ b:Bool,vs=[.bl b]/\Q (.str (fP b)) H
theorem zO (F:Fun K "door_word" "door_word" (aU 70) f fd) (T:Txt mg):FnOk P w K mg base gP 1 f fd ["door"] pN:=by
 refine F.ok ["door"] λ sc iu A outer s H vs Q E hr h=>?_
 ·obtain⟨b,rfl,k⟩:=h;refine⟨_,(aI (aO (jZ (cS (pv 0)) aK aK))),?_⟩;refine⟨_,rfl,_,rfl,?_⟩;cases b with
  | true=>exact k
  | false=>exact k
def yE:Sp:=λ vs H Q _=>∃ t:Option Int,vs=[kO t]/\AK t/\Q (.str (cO t)) H
theorem vK (F:Fun K "target_word" "target_word" (aU 69) f fd) (T:Txt mg) (TS:TxtS mg):FnOk P w K mg base gP 1 f fd ["target"] yE:=by
 refine F.ok ["target"] λ sc iu A outer s H vs Q E hr h=>?_
 ·obtain⟨t,rfl,ht,k⟩:=h;refine⟨_,(aI (aO (jZ (aW vG (pv 0) fY (aX _)) aK (aQ bP rfl TS.b_str bV (aB (pv 0) aD))))),?_⟩;cases t with
  | none=>exact⟨_,rfl,rfl,_,rfl,k⟩
  | some i=>exact⟨_,rfl,rfl,_,rfl,_,rfl,.int i,aR i,rfl,dS (ht i rfl).1 (ht i rfl).2,k⟩
section
variable {σ:St}{H:Hp}{Q:VK}{ts:List TE}{ji x:Str}{n m i:Nat}
theorem MR (ha:ji.length<=n) (hx:x.length<=m) (hn:n+m<=1000000) (k:(ji++x).length<=n+m->jT ts (ji++x) σ H Q):jT (tC (.str x)::ts) ji σ H Q:=by
 have h:(ji++x).length<=n+m:=by rw[ù];lia
 exact⟨x,rfl,by lia,k h⟩
theorem j_s (bi:σ[i]? = some (some (.str x))) (ha:ji.length<=n) (hx:x.length<=m) (hn:n+m<=1000000) (k:(ji++x).length<=n+m->jT ts (ji++x) σ H Q):jT (K6 (cF i)::ts) ji σ H Q:=by
 have h:(ji++x).length<=n+m:=by rw[ù];lia
 exact⟨_,bi,x,rfl,by lia,x,rfl,by lia,k h⟩
theorem U3 {j:Int} (bi:σ[i]? = some (some (.int j))) (h0:0<=j) (h1:j < 10 ^ 9) (ha:ji.length<=n) (hn:n+9<=1000000) (k:(ji++aR j).length<=n+9->jT ts (ji++aR j) σ H Q):jT (K6 (cF i)::ts) ji σ H Q:=by
 have hx:=gF h0 h1;have h:(ji++aR j).length<=n+9:=by rw[ù];lia
 exact⟨_,bi,aR j,N9 h0 h1,by lia,aR j,rfl,by lia,k h⟩
theorem j_t {t:Option Int} (bi:σ[i]? = some (some (kO t))) (ht:AK t) (ha:ji.length<=n) (hn:n+9<=1000000) (k:(ji++cO t).length<=n+9->jT ts (ji++cO t) σ H Q):jT (K6 (jC yE [] E0 (bM (cF i) fX))::ts) ji σ H Q:=by
 have hx:=qU ht;have h:(ji++cO t).length<=n+9:=by rw[ù];lia
 exact⟨_,bi,t,rfl,ht,cO t,rfl,by lia,cO t,rfl,by lia,k h⟩
theorem j_d {b:Bool} (bi:σ[i]? = some (some (.bl b))) (ha:ji.length<=n) (hn:n+4<=1000000) (k:(ji++fP b).length<=n+4->jT ts (ji++fP b) σ H Q):jT (K6 (jC pN [] E0 (bM (cF i) fX))::ts) ji σ H Q:=by
 have hx:=wB b;have h:(ji++fP b).length<=n+4:=by rw[ù];lia
 exact⟨_,bi,b,rfl,fP b,rfl,by lia,fP b,rfl,by lia,k h⟩
theorem JS:(" " : Str)=one 32:=by decide +kernel
theorem U0:("," : Str)=one 44:=by decide +kernel
theorem w_s:("*" : Str)=one 42:=by decide +kernel
theorem w_p:("." : Str)=one 46:=by decide +kernel
theorem TZ:("\n" : Str)=one 10:=by decide +kernel
theorem U6:("spout " : Str) = "spout" ++ one 32:=by decide +kernel
theorem U5:("vessel " : Str) = "vessel" ++ one 32:=by decide +kernel
theorem RO (sp:nE):Str.empty ++ "spout " ++ aR sp.1 ++ " " ++ aR sp.2.1 ++ " " ++ fP sp.2.2=kQ sp:=by
 show _ = "spout" ++ one 32++(aR sp.1++one 32++(aR sp.2.1++one 32++fP sp.2.2));rw[JS,U6];simp only [Str.append_assoc,ū]
theorem RC (v:Vs):Str.empty ++ "vessel " ++ aR v.size ++ " " ++ aR v.brim ++ " " ++ dI v.outs ++ " " ++ eR v.holds ++ " " ++ cO v.spill ++ " " ++ fI v.acts=jL v:=by
 show _ = "vessel" ++ one 32++(aR v.size++one 32++(aR v.brim++one 32++(dI v.outs++one 32++(eR v.holds++one 32++(cO v.spill++one 32++fI v.acts)))));rw[JS,U5];simp only [Str.append_assoc,ū]
end
def rG (K:Ç):Sp:=λ vs H Q _=>∃ (x:V) (sp:nE),vs=[x]/\Is K H (O5 sp) x/\SptIn sp/\Q (.str (kQ sp)) H
theorem wO (F:Fun K "spout_line" "spout_line" (aU 68) f fd) (T:Txt mg) (ki:Callee P w K mg base "door_word" ["door"] 1 pN f1 je):FnOk P w K mg base gP 2 f fd ["spout"] (rG K):=by
 refine F.ok ["spout","target","flow","door"] λ sc iu A outer s H vs Q E hr h=>?_
 ·obtain⟨x,sp,rfl,hx,hi,k⟩:=h;refine⟨_,(aF (bK (pv 0) (bC (K:=K) (n:=3) rfl rfl (aH (gL 1 sc.nd) (aH (gL 2 sc.nd) (aH (gL 3 sc.nd) bA)))))
   (aI (aO (FS (cK aK (cK (i5 (pv 1)) (cK aK (cK (i5 (pv 2)) (cK aK (cK (i5 (bZ ki hr (aB (pv 3) aD))) zC)))))))))),?_⟩
  obtain⟨a,xs,rfl,q,lx⟩:=(show Is K H (.tup [.int sp.1,.int sp.2.1,.bl sp.2.2]) x from hx).un;obtain⟨x1,r,rfl,h1,lx⟩:=lx.un;obtain⟨x2,r,rfl,h2,lx⟩:=lx.un;obtain⟨x3,r,rfl,h3,lx⟩:=lx.un;have:=lx.un0;subst this;have e1:=h1.ui;have e2:=h2.ui;have e3:=h3.ub;subst e1 e2 e3;refine⟨_,rfl,a,_,rfl,q,rfl,_,_,rfl,_,_,rfl,_,_,rfl,rfl,?_⟩;refine MR (n:=0) (m:=6) (Í _) (by decide) (by decide) λ l1=>?_;refine U3 rfl hi.t0 hi.t1 l1 (by decide) λ l2=>?_;refine MR (m:=1) l2 (by decide) (by decide) λ l3=>?_;refine U3 rfl hi.f0 hi.f1 l3 (by decide) λ l4=>?_;refine MR (m:=1) l4 (by decide) (by decide) λ l5=>?_;refine j_d rfl l5 (by decide) λ l6=>?_;show Q (.str _) H;rw[RO];exact k
def rF (K:Ç):Sp:=λ vs H Q _=>∃ (x:V) (v:Vs),vs=[x]/\Is K H (D8 v) x/\VsIn v/\∀ H',aJ H H'->Q (.str (jL v)) H'
theorem SD (o:Option Int×Int):Str.empty++cO o.1 ++ "*" ++ aR o.2=lU o:=by unfold lU;rw[w_s,ū]
theorem TN (a:Str×Int):Str.empty++a.1 ++ "." ++ aR a.2=iL a:=by unfold iL;rw[w_p,ū]
theorem vI (F:Fun K "vessel_line" "vessel_line" (aU 67) f fd) (T:Txt mg) (kx:Callee P w K mg base "target_word" ["target"] 1 yE f1 je):FnOk P w K mg base gP 2 f fd ["vessel"] (rF K):=by
 refine F.ok ["vessel","size","brim","outs","holds","spill","acts","out_words","act_words","holds_word"] λ sc iu A outer s H vs Q E hr h=>?_
 ·obtain⟨x,v,rfl,hx,hi,k⟩:=h;refine⟨_,(aF (bK (pv 0) (bC (K:=K) (n:=6) rfl rfl (aH (gL 1 sc.nd) (aH (gL 2 sc.nd) (aH (gL 3 sc.nd) (aH (gL 4 sc.nd) (aH (gL 5 sc.nd) (aH (gL 6 sc.nd) bA))))))))
   (aF (pL 7 sc.nd (fG (K:=K) rfl Č č (cZ (K:=K) rfl) aK (aB (gN (λ _ _ h=>h) rfl (LcOk.mk (N':=["target","parts"]) (fr:=[none,none]) rfl trivial rfl rfl rfl rfl rfl trivial) (cU (K:=K) rfl (pv 3)) (λ _ _ _=>(bC (K:=K) (n:=2) rfl rfl (aH (gC 0 ["target","parts"]) (aH (gC 1 ["target","parts"]) bA)))) (λ _ _ _=>bX) (λ _ _ _=>(FS (cK (i5 (bZ kx hr (aB (pv 0) aD))) (cK aK (cK (i5 (pv 1)) zC)))))) aD)))
   (aF (pL 8 sc.nd (jZ (xO (K:=K) rfl (pv 6) (λ _=>rfl)) (fG (K:=K) rfl Č č (cZ (K:=K) rfl) aK (aB (gN (λ _ _ h=>h) rfl (LcOk.mk (N':=["word","spout"]) (fr:=[none,none]) rfl trivial rfl rfl rfl rfl rfl trivial) (cU (K:=K) rfl (pv 6)) (λ _ _ _=>(bC (K:=K) (n:=2) rfl rfl (aH (gC 0 ["word","spout"]) (aH (gC 1 ["word","spout"]) bA)))) (λ _ _ _=>bX) (λ _ _ _=>(FS (cK (i5 (pv 0)) (cK aK (cK (i5 (pv 1)) zC)))))) aD)) aK))
   (aF (pL 9 sc.nd (jZ (cS (pv 4)) aK aK))
   (aI (aO (FS (cK aK (cK (i5 (pv 1)) (cK aK (cK (i5 (pv 2)) (cK aK (cK (i5 (pv 7)) (cK aK (cK (i5 (pv 9)) (cK aK (cK (i5 (bZ kx hr (aB (pv 5) aD))) (cK aK (cK (i5 (pv 8)) zC))))))))))))))))))),?_⟩
  obtain⟨va,o,c,rfl,qv,ho,hc⟩:=AU hx;obtain⟨oa,os,rfl,qo,lo⟩:=ho.un;obtain⟨ca,cs,rfl,qc,lc⟩:=hc.un;have Lg:os.length=v.outs.length:=by rw[lo.length,Ê]
  have Bh:cs.length=v.acts.length:=by rw[lc.length,Ê]
  have o3:=hi.o3;have a3:=hi.a3;refine⟨_,rfl,va,_,rfl,qv,rfl,_,_,rfl,_,_,rfl,_,_,rfl,_,_,rfl,_,_,rfl,_,_,rfl,rfl,?_⟩;dsimp only [bR];have el:∀ i o,v.outs[i]? = some o->OutIn o:=λ i o e=>hi.os o (Ó e);refine⟨rfl,_,rfl,oa,rfl,⟨_,qo⟩,fN (K:=K) (a:=oa) (xs:=os) (λ D i r ac H'=>H D=none/\aJ H H'/\H' D=some (.lst r)/\r=((v.outs.take i).map lU).map V.str/\∃ u1 u2,ac=[u1,u2])
   (λ D i r ac H' p=>p.2.1.tup qo) (λ D hD=>⟨hD,È hD,aE,rfl,none,none,rfl⟩) ?_ ?_⟩
  rotate_left
  ·rintro D i y r ac H1 hy ⟨hD,sm,iw,rfl,u1,u2,rfl⟩;obtain⟨t,ht,ta,rfl,qt⟩:=qJ lo hy;have ti:=el i t ht;refine⟨ta,_,rfl,sm.tup qt,rfl,_,_,rfl,_,_,rfl,rfl,?_⟩;refine j_t rfl ti.tg (n:=0) (Í _) (by decide) λ l1=>?_;refine MR (m:=1) l1 (by decide) (by decide) λ l2=>?_;refine U3 rfl ti.lo ti.hi l2 (by decide) λ l3=>?_;refine⟨iw,bD (by rw[Ê,Ê,î];lia),hD,sm.put hD,aE,?_,_,_,rfl⟩;rw[Ĥ,ht,Ð,Ð,SD];rfl
  rintro D1 r ac H1 ⟨Rk,s1,qg,rfl,_⟩;rw[Lg,õ (Í _)] at qg;have e1:Str.join "," (v.outs.map lU)=dI v.outs:=by rw[U0];rfl
  refine⟨",",D1,v.outs.map lU,rfl,rfl,É qg,jI (B:=19) (λ a ha=>by obtain⟨o,ho,rfl⟩:=ä.mp ha;exact A6 (hi.os o ho)) (by decide) (by rw[Ê];lia),?_⟩;rw[e1];dsimp only [bL,bR];refine uW (λ ac H'=>aJ H H'/\ac=[some (.ref va),some (.int v.size),some (.int v.brim),some (.ref oa),some (.bl v.holds),some (kO v.spill),some (.ref ca),some (.str (dI v.outs)),some (.str (fI v.acts)),none]) (λ D' Cr=>?_) ?_
  ·by_cases hn:v.acts=[]
   ·have Ly:cs=[]:=ý (by rw[Bh,hn];rfl);refine⟨_,rfl,false,.inr (.inl ⟨cs,s1.tup qc,by rw[Ly];rfl⟩),cX ?_⟩;exact Cr _ _ ⟨s1,by rw[show fI v.acts = "-" from Å hn];rfl⟩
   ·have Ly:cs.isEmpty=false:=by
     cases cs with
     | nil=>exact absurd (ý Bh.symm) hn
     | cons a b=>rfl
    refine⟨_,rfl,true,.inr (.inl ⟨cs,s1.tup qc,by rw[Ly];rfl⟩),eX ?_⟩;refine⟨rfl,_,rfl,ca,rfl,⟨_,s1.tup qc⟩,fN (K:=K) (a:=ca) (xs:=cs) (λ D i r ac H'=>H1 D=none/\aJ H1 H'/\H' D=some (.lst r)/\r=((v.acts.take i).map iL).map V.str/\∃ u1 u2,ac=[u1,u2])
     (λ D i r ac H' p=>p.2.1.tup (s1.tup qc)) (λ D hD=>⟨hD,È hD,aE,rfl,none,none,rfl⟩) ?_ ?_⟩
    rotate_left
    ·rintro D i y r ac H2 hy ⟨hD,sm,iw,rfl,u1,u2,rfl⟩;obtain⟨t,ht,ta,rfl,qt⟩:=rA lc hy;have ti:=hi.as t (Ó ht);refine⟨ta,_,rfl,(s1.trans sm).tup qt,rfl,_,_,rfl,_,_,rfl,rfl,?_⟩;refine j_s rfl (n:=0) (m:=4) (Í _) (ķ (MF ti)) (by decide) λ l1=>?_;refine MR (m:=1) l1 (by decide) (by decide) λ l2=>?_;refine U3 rfl ti.lo ti.hi l2 (by decide) λ l3=>?_;refine⟨iw,bD (by rw[Ê,Ê,î];lia),hD,sm.put hD,aE,?_,_,_,rfl⟩;rw[Ĥ,ht,Ð,Ð,TN];rfl
    rintro D2 r ac H2 ⟨Lz,s2,qh,rfl,_⟩;rw[Bh,õ (Í _)] at qh;have e2:Str.join "," (v.acts.map iL)=fI v.acts:=by unfold fI;rw[Ä hn,U0]
    refine⟨",",D2,v.acts.map iL,rfl,rfl,É qh,jI (B:=19) (λ a ha=>by obtain⟨o,ho,rfl⟩:=ä.mp ha;exact A7 (hi.as o ho)) (by decide) (by rw[Ê];lia),?_⟩;rw[e2];exact Cr _ _ ⟨s1.trans s2,rfl⟩
  rintro ac H2 ⟨s2,rfl⟩;refine⟨_,rfl,v.holds,rfl,?_⟩;have eh:∀ {R:V->Hp->Prop},R (.str (eR v.holds)) H2->(if v.holds=true then tC (V.str "holds") [some (.ref va),some (.int v.size),some (.int v.brim),some (.ref oa),some (.bl v.holds),some (kO v.spill),some (.ref ca),some (.str (dI v.outs)),some (.str (fI v.acts)),none] H2 R else tC (V.str "loses") [some (.ref va),some (.int v.size),some (.int v.brim),some (.ref oa),some (.bl v.holds),some (kO v.spill),some (.ref ca),some (.str (dI v.outs)),some (.str (fI v.acts)),none] H2 R):=λ {R} h=>by
   cases e:v.holds with
   | true=>rw[e] at h;exact h
   | false=>rw[e] at h;exact h
  refine eh ?_;refine MR (n:=0) (m:=7) (Í _) (by decide) (by decide) λ l1=>?_;refine U3 rfl hi.s0 hi.s1 l1 (by decide) λ l2=>?_;refine MR (m:=1) l2 (by decide) (by decide) λ l1=>?_;refine U3 rfl hi.b0 hi.b1 l1 (by decide) λ l2=>?_;refine MR (m:=1) l2 (by decide) (by decide) λ l1=>?_;refine j_s rfl l1 (BU hi.os hi.o3) (by decide) λ l2=>?_;refine MR (m:=1) l2 (by decide) (by decide) λ l1=>?_;refine j_s rfl l1 (ķ (BV v.holds)) (by decide) λ l2=>?_;refine MR (m:=1) l2 (by decide) (by decide) λ l1=>?_;refine j_t rfl hi.sp l1 (by decide) λ l2=>?_;refine MR (m:=1) l2 (by decide) (by decide) λ l1=>?_;refine j_s rfl l1 (BW hi.as hi.a3) (by decide) λ l2=>?_;show Q (.str _) H2;rw[RC];exact k _ s2
def rJ (K:Ç):Sp:=λ vs H Q _=>∃ (x:V) (net:Net),vs=[x]/\Is K H (iT net) x/\NetIn net/\∀ H',aJ H H'->Q (.str (qP net)) H'
theorem BF (F:Fun K "net_text" "net_text" (aU 66) f fd) (T:Txt mg) (oz:Callee P w K mg base "vessel_line" ["vessel"] 2 (rF K) f1 je) (qi:Callee P w K mg base "spout_line" ["spout"] 2 (rG K) f2 ju):FnOk P w K mg base gP 3 f fd ["net"] (rJ K):=by
 refine F.ok ["net","vessels","spouts"] λ sc iu A outer s H vs Q E hr h=>?_
 ·obtain⟨x,net,rfl,hx,hi,k⟩:=h;refine⟨_,(aF (bK (pv 0) (bC (K:=K) (n:=2) rfl rfl (aH (gL 1 sc.nd) (aH (gL 2 sc.nd) bA))))
   (aI (aO (fG (K:=K) rfl Č č (cZ (K:=K) rfl) aK (aB (aS mS (gN (λ _ _ h=>h) rfl (LcOk.mk (N':=["vessel"]) (fr:=[none]) rfl trivial rfl rfl rfl rfl rfl trivial) (cU (K:=K) rfl (pv 1)) (λ _ _ _=>(gC 0 ["vessel"])) (λ _ _ _=>bX) (λ _ _ _=>(bZ oz hr (aB (pv 0) aD)))) (gN (λ _ _ h=>h) rfl (LcOk.mk (N':=["spout"]) (fr:=[none]) rfl trivial rfl rfl rfl rfl rfl trivial) (cU (K:=K) rfl (pv 2)) (λ _ _ _=>(gC 0 ["spout"])) (λ _ _ _=>bX) (λ _ _ _=>(bZ qi hr (aB (pv 0) aD))))) aD))))),?_⟩
  obtain⟨na,nb,nc,xs,ys,rfl,qn,q1,l1,q2,l2⟩:=j5 hx;have e1:xs.length=net.vs.length:=by rw[l1.length,Ê]
  have e2:ys.length=net.sps.length:=by rw[l2.length,Ê]
  have v12:=hi.v12;have s12:=hi.s12;refine⟨_,rfl,na,_,rfl,qn,rfl,_,_,rfl,_,_,rfl,rfl,?_⟩;dsimp only [bR];refine⟨rfl,_,rfl,nb,rfl,⟨_,q1⟩,fN (K:=K) (a:=nb) (xs:=xs) (λ D i r ac H'=>H D=none/\aJ H H'/\H' D=some (.lst r)/\r=((net.vs.take i).map jL).map V.str/\∃ u1,ac=[u1])
   (λ D i r ac H' p=>p.2.1.tup q1) (λ D hD=>⟨hD,È hD,aE,rfl,none,rfl⟩) ?_ ?_⟩
  rotate_left
  ·rintro D i y r ac H1 hy ⟨hD,sm,iw,rfl,u1,rfl⟩;obtain⟨d,hd,iy⟩:=l1.get' hy;rw[Ø] at hd;obtain⟨v,hv,rfl⟩:=ð.mp hd;refine⟨_,rfl,y,v,rfl,Ï sm.ts _ _ iy,hi.vs v (Ó hv),λ H2 s2=>?_⟩;refine⟨s2 _ _ iw,bD (by rw[Ê,Ê,î];lia),hD,(sm.trans s2).put hD,aE,?_,_,rfl⟩;rw[Ĥ,hv,Ð,Ð];rfl
  rintro D1 r ac H1 ⟨Rk,s1,qg,rfl,_⟩;rw[e1,õ (Í _)] at qg;refine⟨_,rfl,nc,rfl,⟨_,s1.tup q2⟩,fN (K:=K) (a:=nc) (xs:=ys) (λ D i r ac H'=>H1 D=none/\aJ H1 H'/\H' D=some (.lst r)/\r=((net.sps.take i).map kQ).map V.str/\∃ u1,ac=[u1])
   (λ D i r ac H' p=>p.2.1.tup (s1.tup q2)) (λ D hD=>⟨hD,È hD,aE,rfl,none,rfl⟩) ?_ ?_⟩
  rotate_left
  ·rintro D i y r ac H2 hy ⟨hD,sm,iw,rfl,u1,rfl⟩;obtain⟨d,hd,iy⟩:=l2.get' hy;rw[Ø] at hd;obtain⟨v,hv,rfl⟩:=ð.mp hd;refine⟨_,rfl,y,v,rfl,Ï (s1.trans sm).ts _ _ iy,hi.sps v (Ó hv),?_⟩;refine⟨iw,bD (by rw[Ê,Ê,î];lia),hD,sm.put hD,aE,?_,_,rfl⟩;rw[Ĥ,hv,Ð,Ð];rfl
  rintro D2 r ac H2 ⟨Lz,s2,qh,rfl,_⟩;rw[e2,õ (Í _)] at qh;refine⟨D1,D2,_,_,rfl,rfl,s2 _ _ qg,qh,Ĳ (bD (by rw[Ê,Ê,Ê,Ê];lia)),λ p hp=>?_⟩;have vt:upd H2 p (.lst ((net.vs.map jL).map V.str++(net.sps.map kQ).map V.str)) p=some (.lst ((net.vs.map jL++net.sps.map kQ).map V.str)):=by rw[aE,Ð]
  have e3:Str.join "\n" (net.vs.map jL++net.sps.map kQ)=qP net:=by rw[TZ];rfl
  refine⟨"\n",p,net.vs.map jL++net.sps.map kQ,rfl,rfl,É vt,jI (rW hi) (by decide) (by rw[â,Ê,Ê];lia),?_⟩;rw[e3];exact k _ ((s1.trans s2).trans (È hp))
end Tw
namespace L2
open PySem PySem.Spec PyProof.Rows TwZ
inductive G where
 | non
 | bl (b:Bool)
 | int (i:Int)
 | str (z:Str)
 | tup (gs:List G)
 | lst (gs:List G)
mutual
def iN (K:Ç) (H:Hp):G->V->Prop
 | .non,v=>v=.non
 | .bl b,v=>v=.bl b
 | .int i,v=>v=.int i
 | .str z,v=>v=.str z
 | .tup gs,v=>∃ a xs,v=.ref a/\bS K H a xs/\eE K H gs xs
 | .lst gs,v=>∃ a xs,v=.ref a/\aY K H a xs/\eE K H gs xs
def eE (K:Ç) (H:Hp):List G->List V->Prop
 | [],vs=>vs=[]
 | g::gs,vs=>∃ v r,vs=v::r/\iN K H g v/\eE K H gs r
end
theorem eE.length {K:Ç}{H:Hp}:∀ {gs:List G}{xs:List V},eE K H gs xs->xs.length=gs.length
 | [],_,h=>by rw[eE] at h;subst h;rfl
 | g::gs,_,h=>by rw[eE] at h;obtain⟨v,r,rfl,_,h⟩:=h;rw[á,á,eE.length h]
theorem eE.get {K:Ç}{H:Hp}:∀ {gs:List G}{xs:List V}{i:Nat}{g:G},eE K H gs xs->gs[i]? = some g->∃ x,xs[i]? = some x/\iN K H g x
 | [],_,_,_,_,e=>by simp at e
 | g::gs,_,0,g',h,e=>by rw[eE] at h;obtain⟨v,r,rfl,h1,_⟩:=h;simp at e;subst e;exact⟨v,by simp,h1⟩
 | g::gs,_,i+1,g',h,e=>by
  rw[eE] at h;obtain⟨v,r,rfl,_,h⟩:=h;obtain⟨x,h1,h2⟩:=eE.get h (i:=i) (by simpa using e);exact⟨x,by simpa using h1,h2⟩
theorem eE.get' {K:Ç}{H:Hp}{gs:List G}{xs:List V}{i:Nat}{x:V} (h:eE K H gs xs) (e:xs[i]? = some x):∃ g,gs[i]? = some g/\iN K H g x:=by
 have hi:=(æ.mp e).1;rw[h.length] at hi;obtain⟨x',h1,h2⟩:=h.get (i:=i) (g:=gs[i]) (by simp [hi]);rw[e] at h1;cases h1;exact⟨gs[i],by simp [hi],h2⟩
section
variable {X:Cx}{gn:List (Á×Obj)}{σ:St}{H:Hp}{s:Â}
end
section
variable {H:Hp}
theorem eE.nil:eE K H [] []:=by rw[eE]
theorem eE.cons {g:G}{gs:List G}{x:V}{xs:List V} (h1:iN K H g x) (h2:eE K H gs xs):eE K H (g::gs) (x::xs):=by rw[eE];exact⟨x,xs,rfl,h1,h2⟩
theorem iN.i (i:Int):iN K H (.int i) (.int i):=by rw[iN]
theorem iN.s (i:Str):iN K H (.str i) (.str i):=by rw[iN]
theorem iN.b (i:Bool):iN K H (.bl i) (.bl i):=by rw[iN]
theorem iN.n:iN K H .non .non:=by rw[iN]
theorem iN.t {a:Á}{gs:List G}{xs:List V} (q:bS K H a xs) (l:eE K H gs xs):iN K H (.tup gs) (.ref a):=by rw[iN];exact⟨a,xs,rfl,q,l⟩
theorem iN.l {a:Á}{gs:List G}{xs:List V} (q:aY K H a xs) (l:eE K H gs xs):iN K H (.lst gs) (.ref a):=by rw[iN];exact⟨a,xs,rfl,q,l⟩
end
end L2
namespace L2
open PySem PySem.Spec PyProof.Rows TwZ Tw
def sB (t:Á) (H:Hp):Hp:=λ b=>if b=t then none else H b
section
variable {H H':Hp}{t:Á}
theorem IO:aJ (sB t H) H:=λ b o e=>by
 unfold sB at e
 split at e
 ·cases e
 ·exact e
theorem MV (b:d4 t H H'):aJ (sB t H) (sB t H'):=λ c o e=>by
 unfold sB at e ⊢
 split at e
 ·cases e
 ·rename_i n;rw[Ä n];exact b c o n e
theorem sA (s:aJ H H'):aJ (sB t H) (sB t H'):=MV λ c o _ e=>s c o e
theorem GC {a:Á}{o:HO} (h:H a=some o) (n:a≠t):sB t H a=some o:=by unfold sB;rw[Ä n];exact h
theorem aJ.lst {a:Á}{xs:List V} (s:aJ H H') (h:aY K H a xs):aY K H' a xs:=by
 rcases h with (h | ⟨o,h⟩) | h
 ·exact .inl (.inl (s _ _ h))
 ·exact .inl (.inr ⟨o,s _ _ h⟩)
 ·exact .inr h
mutual
theorem iN.same (s:aJ H H'):∀ {g:G}{v:V},iN K H g v->iN K H' g v
 | .non,v,h=>by rw[iN] at h ⊢;exact h
 | .bl b,v,h=>by rw[iN] at h ⊢;exact h
 | .int i,v,h=>by rw[iN] at h ⊢;exact h
 | .str z,v,h=>by rw[iN] at h ⊢;exact h
 | .tup gs,v,h=>by
  rw[iN] at h ⊢;obtain⟨a,xs,e,q,l⟩:=h;exact⟨a,xs,e,s.tup q,eE.same s l⟩
 | .lst gs,v,h=>by
  rw[iN] at h ⊢;obtain⟨a,xs,e,q,l⟩:=h;exact⟨a,xs,e,s.lst q,eE.same s l⟩
theorem eE.same (s:aJ H H'):∀ {gs:List G}{vs:List V},eE K H gs vs->eE K H' gs vs
 | [],vs,h=>by rw[eE] at h ⊢;exact h
 | g::gs,vs,h=>by
  rw[eE] at h ⊢;obtain⟨x,r,e,h1,h2⟩:=h;exact⟨x,r,e,iN.same s h1,eE.same s h2⟩
end
theorem iN.ut {gs:List G}{v:V} (h:iN K H (.tup gs) v):∃ a xs,v=.ref a/\bS K H a xs/\eE K H gs xs:=by rw[iN] at h;exact h
theorem iN.ul {gs:List G}{v:V} (h:iN K H (.lst gs) v):∃ a xs,v=.ref a/\aY K H a xs/\eE K H gs xs:=by rw[iN] at h;exact h
end
def GA:G->String
 | .non => "NoneType"
 | .bl _ => "bool"
 | .int _ => "int"
 | .str _ => "str"
 | .tup _ => "tuple"
 | .lst _ => "list"
def SZ (g:G) (T:String):Bool:=GA g == T || (GA g == "bool" && T == "int")
def A8:List String:=["tuple","int","bool","str","list"]
theorem MK (K:Ç) {A T:String}{b:Bool} (h:A=T/\b=true\/¬ ((Value.type A == Value.type T)=true)/\PySem.W.kitMeta T=true/\PySem.W.subIn K (.type A) (.type T)=some b):PySem.W.kitOne K (.type A) (.type T)=some b:=by
 unfold PySem.W.kitOne;rcases h with ⟨rfl,rfl⟩ | ⟨h1,h2,h3⟩
 ·rw[Å (by simp)]
 ·rw[Ä h1];show (if PySem.W.kitMeta T=true then PySem.W.subIn K (.type A) (.type T) else none)=some b;rw[Å h2,h3]
theorem PU (K:Ç):∀ A∈["NoneType","bool","int","str","tuple","list"],∀ T∈A8,PySem.W.kitOne K (.type A) (.type T)=some (A == T || (A == "bool" && T == "int")):=by
 intro A hA T hT;simp only [A8,Ñ,ã,Ă,or_false] at hA hT;rcases hA with rfl | rfl | rfl | rfl | rfl | rfl <;> rcases hT with rfl | rfl | rfl | rfl | rfl <;>
  first
   | exact MK K (.inl ⟨rfl,by decide +kernel⟩)
   | exact MK K (.inr ⟨by decide +kernel,by decide +kernel,rfl⟩)
theorem VC (K:Ç) (g:G) {T:String} (h:T∈A8):PySem.W.kitOne K (.type (GA g)) (.type T)=some (SZ g T):=PU K _ (by cases g <;> simp [GA]) T h
def QQ (K:Ç):List V->Hp->VK->Prop:=λ xs H Q=>∃ x T g,xs=[x,.ty T]/\T∈A8/\iN K H g x/\Q (.bl (SZ g T)) H
section
variable {X:Cx}
theorem JG:eY X (.builtin "isinstance") (QQ X.K):=by
 intro gn s σ H xs us Q I r h;obtain⟨x,T,g,rfl,hT,hg,q⟩:=h;obtain⟨u,v,rfl,ru,rv⟩:=r.two;cases rv;have e:=VC X.K g hT;cases g with
 | non=>rw[iN] at hg;subst hg;exact kH I ru .non e λ tk=>⟨.bl _,H,I.tok tk,rfl,q⟩
 | bl b=>rw[iN] at hg;subst hg;exact kH I ru (.bl b) e λ tk=>⟨.bl _,H,I.tok tk,rfl,q⟩
 | int b=>rw[iN] at hg;subst hg;exact kH I ru (.int b) e λ tk=>⟨.bl _,H,I.tok tk,rfl,q⟩
 | str b=>rw[iN] at hg;subst hg;exact kH I ru (.str b) e λ tk=>⟨.bl _,H,I.tok tk,rfl,q⟩
 | tup gs=>
  obtain⟨a,ys,rfl,hq,_⟩:=hg.ut;cases (show u=Value.ref a from ru);obtain⟨gx,rv',⟨o,h1,h2,_⟩,_⟩:=I.tuple hq;exact ĉ ž I.kIn ⟨o,h1,h2⟩ e (λ z=>nomatch z) λ tk=>⟨.bl _,H,I.tok tk,rfl,q⟩
 | lst gs=>
  obtain⟨a,ys,rfl,hq,_⟩:=hg.ul;cases (show u=Value.ref a from ru);obtain⟨gx,rv',⟨o,n,h1,h2,_⟩,_⟩:=I.list hq;exact ĉ afq I.kIn ⟨o,h1,h2⟩ e (λ z=>nomatch z) λ tk=>⟨.bl _,H,I.tok tk,rfl,q⟩
theorem wI {K:Ç} (hK:X.K=K):eY X (.builtin "isinstance") (QQ K):=by subst hK;exact JG
end
end L2
namespace Tw
open PySem L2
end Tw
namespace L2
open PySem PySem.Spec PyProof.Rows TwZ
end L2
namespace Tw
open PySem L2
section
variable {aw:Á}
end
structure TxtF (mg:Str->Option À):Prop where
 g_MOST_FIGURES:∃ u,mg "MOST_FIGURES" = some u/\bH (.int 9) u
def tT:Sp:=λ vs H Q _=>∃ x:Str,vs=[.str x]/\gE x/\x.length<=1000000/\Q (.bl (bT x).isSome) H
theorem zN (F:Fun K "is_number" "is_number" (aU 77) f fd) (T:Txt mg) (TS:TxtS mg) (UF:TxtF mg):FnOk P w K mg base gP 1 f fd ["word"] tT:=by
 refine F.ok ["word"] λ sc iu A outer s H vs Q E hr h=>?_
 ·obtain⟨x,rfl,ha,hl,k⟩:=h;refine⟨_,(aI (aO (gG (S8 (K:=K) rfl PySem.F.slot_str_isdecimal PySem.F.type_str_isdecimal MB (pv 0)) (gG (fH vF (bE kJ rfl T.b_len ļ (aB (pv 0) aD)) (cE rfl UF.g_MOST_FIGURES) (aX _)) (iK (fH d9 (aQ bP rfl TS.b_str bV (aB (aQ nW rfl T.b_int fZ (aB (pv 0) aD)) aD)) (pv 0) (aX _))))))),?_⟩;refine⟨_,rfl,rfl,x,rfl,rfl,?_⟩;rcases KK ha with ⟨h1,h2⟩ | ⟨h1,h2,h3⟩ | ⟨n,h1,h2,h3,h4,h5,h6⟩
  ·rw[h2] at k;rw[h1];exact⟨_,rfl,cX k⟩
  ·rw[h3] at k;rw[h1];exact⟨_,rfl,eX ⟨_,rfl,x,rfl,hl,_,_,rfl,rfl,_,rfl,eA (λ z=>absurd (è z) (by lia)) λ _=>k⟩⟩
  ·rw[h6] at k;rw[h1];refine⟨_,rfl,eX ⟨_,rfl,x,rfl,hl,_,_,rfl,rfl,_,rfl,wU (by lia) ?_⟩⟩;refine⟨_,rfl,x,n,rfl,h3,by lia,.int n,aR n,rfl,dS h4 h5,_,rfl,rfl,?_⟩;rw[show decide (V.str (aR n)=V.str x)=decide (aR n=x) by simp];exact k
def nH (c:Á):Sp:=λ vs H Q E=>∃ x:Str,vs=[.str x]/\gE x/\x.length<=1000000/\(∀ n,bT x=some n->Q (.int n) H)/\(bT x=none->E (.ref c) none H)
theorem vN (F:Fun K "read_number" "read_number" (aU 76) f fd) (T:Txt mg) (jb:ExC K "NoText" gw) (kj:Callee P w K mg base "is_number" ["word"] 1 tT f1 je):FnOk P w K mg base (lW P w) 2 f fd ["word"] (nH gw):=by
 refine F.okR ["word"] λ sc iu A outer s H vs Q E hr h L=>?_
 ·obtain⟨x,rfl,ha,hl,k1,k2⟩:=h;refine⟨_,(aF (bJ (dX (cS (bZ kj hr (aB (pv 0) aD)))) (aI (gA L rfl rfl jb.exc jb.ns ĝ (aB aK aD))) aT)
   (aI (aO (aQ nW rfl T.b_int fZ (aB (pv 0) aD))))),?_⟩
  refine⟨_,rfl,x,rfl,ha,hl,_,rfl,?_⟩;cases e:bT x with
  | none=>exact⟨(show 1<=100 by decide),k2 e⟩
  | some n=>
   obtain⟨h0,h1,h2,h3⟩:=vA ha e;exact⟨_,rfl,x,n,rfl,h2,by lia,k1 n e⟩
def yJ (c:Á):Sp:=λ vs H Q E=>∃ x:Str,vs=[.str x]/\gE x/\x.length<=1000000/\(∀ n,qF x=some n->Q (kO n) H)/\(qF x=none->E (.ref c) none H)
theorem vM (F:Fun K "read_target" "read_target" (aU 75) f fd) (T:Txt mg) (gv:CalleeR P w K mg base "read_number" ["word"] 2 (nH gw) f1 je):FnOk P w K mg base (lW P w) 3 f fd ["word"] (yJ gw):=by
 refine F.okR ["word"] λ sc iu A outer s H vs Q E hr h L=>?_
 ·obtain⟨x,rfl,ha,hl,k1,k2⟩:=h;refine⟨_,(aI (aO (jZ (aW d9 (pv 0) aK (aX _)) fY (dL gv.ok (hr.mono (by decide)) rfl gv.mg gv.kp gv.bd .nil (cY L) (aB (pv 0) aD))))),?_⟩;refine⟨_,rfl,rfl,_,rfl,?_⟩
  by_cases hx:x = "ground"
  ·subst hx;refine wU rfl ?_;exact k1 none rfl
  ·refine eA (λ z=>?_) λ _=>?_
   ·exact absurd (è z) (λ z=>hx (by cases z;rfl))
   ·have e:qF x=(bT x).map some:=Ä hx;refine⟨_,rfl,x,rfl,ha,hl,λ n hn=>k1 (some n) (by rw[e,hn];rfl),λ hn=>k2 (by rw[e,hn];rfl)⟩
def yK (K:Ç) (c:Á):Sp:=λ vs H Q E=>∃ (l:Á) (x1 x2 x3:Str),vs=[.ref l]/\H l=some (.lst [.str x1,.str x2,.str x3])/\gE x1/\gE x2/\x1.length<=1000000/\x2.length<=1000000/\(∀ sp p H',B5 [x1,x2,x3]=some sp->aJ H H'->Is K H' (O5 sp) p->Q p H')/\(B5 [x1,x2,x3]=none->E (.ref c) none H)
theorem wP (F:Fun K "read_spout" "read_spout" (aU 74) f fd) (T:Txt mg) (gv:CalleeR P w K mg base "read_number" ["word"] 2 (nH gw) f1 je):FnOk P w K mg base (lW P w) 3 f fd ["words"] (yK K gw):=by
 refine F.okR ["words","target","flow","door"] λ sc iu A outer s H vs Q E hr h L=>?_
 ·obtain⟨l,x1,x2,x3,rfl,hl,a1,a2,l1,l2,k1,k2⟩:=h;refine⟨_,(aF (bK (pv 0) (zD (K:=K) (n:=3) rfl rfl (aH (gL 1 sc.nd) (aH (gL 2 sc.nd) (aH (gL 3 sc.nd) bA)))))
   (aI (aO (bN (aB (dL gv.ok (hr.mono (by decide)) rfl gv.mg gv.kp gv.bd .nil (cY L) (aB (pv 1) aD)) (aB (dL gv.ok (hr.mono (by decide)) rfl gv.mg gv.kp gv.bd .nil (cY L) (aB (pv 2) aD)) (aB (fH d9 (pv 3) aK (aX _)) aD))))))),?_⟩
  refine⟨_,rfl,l,_,rfl,É hl,rfl,_,_,rfl,_,_,rfl,_,_,rfl,rfl,?_⟩;dsimp only [bR];refine⟨_,rfl,x1,rfl,a1,l1,λ n hn=>?_,λ hn=>k2 (by rw[yY,hn];rfl)⟩;refine⟨_,rfl,x2,rfl,a2,l2,λ m hm=>?_,λ hm=>k2 (by rw[yY,hn,hm];rfl)⟩;refine⟨_,rfl,rfl,(sz0 3),λ p hp=>?_⟩;have e:decide (V.str x3=V.str "open")=decide (x3 = "open"):=by simp
  refine k1 (n,m,decide (x3 = "open")) _ _ (by rw[yY,hn,hm];rfl) (È hp) (Ý (Ò aE) (.cons (Is.i _) (.cons (Is.i _) (.cons ?_ .nil))));rw[e];exact Is.b _
def uR (K:Ç) (c:Á):Sp:=λ vs H Q E=>∃ x:Str,vs=[.str x]/\gE x/\x.length<=100000/\(∀ as p H',mQ x=some as->aJ H H'->Is K H' (.tup (as.map CY)) p->Q p H')/\(mQ x=none->∀ H',aJ H H'->E (.ref c) none H')
theorem zK (F:Fun K "read_acts" "read_acts" (aU 73) f fd) (T:Txt mg) (gv:CalleeR P w K mg base "read_number" ["word"] 2 (nH gw) f1 je):FnOk P w K mg base (lW P w) 3 f fd ["act_words"] (uR K gw):=by
 refine F.okR ["act_words","acts","act_word","word","sign","spout"] λ sc iu A outer s H vs Q E hr h L=>?_
 ·obtain⟨x,rfl,ha,hl,k1,k2⟩:=h;refine⟨_,(aF (bJ (aW d9 (pv 0) aK (aX _)) (aI (aO (bN aD))) aT)
   (aF (pL 1 sc.nd (aZ aD))
   (aF (dY af1 rfl (dU (K:=K) rfl (fG (K:=K) rfl ħ Ĩ gO (pv 0) (aB aK aD))) (gL 2 sc.nd) (aF (bK (fG (K:=K) rfl afe aff BN (pv 2) (aB aK aD)) (bC (K:=K) (n:=3) rfl rfl (aH (gL 3 sc.nd) (aH (gL 4 sc.nd) (aH (gL 5 sc.nd) bA)))))
   (aI (bQ (dH (K:=K) rfl ó Ā ā cD (pv 1) (aB (bN (aB (pv 3) (aB (dL gv.ok (hr.mono (by decide)) rfl gv.mg gv.kp gv.bd .nil (cY L) (aB (pv 5) aD)) aD))) aD))))))
   (aI (aO (aQ (cT (K:=K) rfl) rfl T.b_tuple dB (aB (pv 1) aD))))))),?_⟩
  refine⟨_,rfl,rfl,_,rfl,?_⟩
  by_cases hx:x = "-"
  ·subst hx;refine wU rfl ⟨ê _,λ p hp=>?_⟩;exact k1 [] _ _ rfl (È hp) (Ý (Ò aE) .nil)
  ·refine eA (λ z=>absurd (è z) (λ z=>hx (by cases z;rfl))) λ _=>?_;have e:mQ x=eQ qG (Txt.split x (one 44)):=Ä hx;have hw:∀ y∈Txt.split x (one 44),gE y/\y.length<=100000:=λ y hy=>⟨fB ha hy,ë (Ħ hy) hl⟩;have oq:=hV x (one 44) (by decide);rw[e] at k1 k2;generalize pc:Txt.split x (one 44)=ws at k1 k2 hw oq;refine⟨ê _,λ al vo=>?_⟩;refine⟨_,rfl,rfl,x,",",rfl,rfl,by decide,by lia,λ sp lh=>?_⟩;rw[U0,pc];have Fj:al≠sp:=aP (show upd H al (.lst []) al=_ from aE) lh;have fs:H sp=none:=(È vo).free lh;have s1:aJ H (upd (upd H al (.lst [])) sp (.lst (ws.map V.str))):=(È vo).trans (È lh);have g1:upd (upd H al (.lst [])) sp (.lst (ws.map V.str)) al=some (.lst []):=by rw[aM Fj];exact aE
   have g2:upd (upd H al (.lst [])) sp (.lst (ws.map V.str)) sp=some (.lst (ws.map V.str)):=aE;generalize upd (upd H al (.lst [])) sp (.lst (ws.map V.str))=H1 at s1 g1 g2 ⊢;refine⟨sp,rfl,⟨_,É g2⟩,j9 (K:=K) (a:=sp) (xs:=ws.map V.str) (λ i ac H'=>aJ H H'/\H' sp=some (.lst (ws.map V.str))/\(∃ as us,eQ qG (ws.take i)=some as/\as.length<=i/\H' al=some (.lst us)/\IsL K H' (as.map CY) us)/\
    ∃ v2 v3 v4 v5,ac=[some (.str x),some (.ref al),v2,v3,v4,v5]) ⟨s1,g2,⟨[],[],rfl,Í _,g1,.nil⟩,_,_,_,_,rfl⟩ ?_ ?_ ?_⟩
   ·rintro i ac H2 _ ⟨_,h2,_⟩;exact É h2
   ·rintro i y ac H2 hy ⟨s2,xc,⟨as,us,er,Rl,sx,lu⟩,v2,v3,v4,v5,rfl⟩;rw[Ø] at hy;obtain⟨y,rp,rfl⟩:=ð.mp hy;have hyi:i < ws.length:=(æ.mp rp).1;obtain⟨ya,yl⟩:=hw y (Ó rp);obtain⟨pa1,Rm⟩:=CS (c:=46) ya;obtain⟨pl1,pl2⟩:=BT (c:=46) (x:=y);have eul:us.length=as.length:=by rw[lu.length,Ê]
    dsimp only [bL];refine⟨_,rfl,rfl,y,".",rfl,rfl,by decide,by lia,λ p hp=>?_⟩;rw[w_p];have s3:=È (o:=HO.tup [.str (Txt.partition y (one 46)).1,.str (Txt.partition y (one 46)).2.1,.str (Txt.partition y (one 46)).2.2]) hp;refine⟨p,_,rfl,Ò aE,rfl,_,_,rfl,_,_,rfl,_,_,rfl,rfl,?_⟩;dsimp only [bR];have qj:=s3 _ _ sx;have xf:=s3 _ _ xc;have Af:=Õ s3.ts _ _ lu;have pf:=s2.trans s3;generalize upd H2 p (.tup [.str (Txt.partition y (one 46)).1,.str (Txt.partition y (one 46)).2.1,.str (Txt.partition y (one 46)).2.2])=H3 at s3 qj xf Af pf ⊢;refine⟨_,rfl,.inl ⟨rfl,_,É qj⟩,_,rfl,_,rfl,_,rfl,Rm,by lia,λ n hn=>?_,λ hn=>k2 (kW (show qG y=none by unfold qG;rw[hn];rfl) (Ó rp)) _ pf⟩;refine⟨(sz0 2),λ q hq=>⟨al,us,_,rfl,rfl,È hq _ _ qj,pP (by lia),?_⟩⟩;have s4:=È (o:=HO.tup [.str (Txt.partition y (one 46)).1,.int n]) hq;have q4:bS K (upd H3 q (.tup [.str (Txt.partition y (one 46)).1,.int n])) q [.str (Txt.partition y (one 46)).1,.int n]:=Ò aE;have xg:=s4 _ _ qj;have xh:=s4 _ _ xf;generalize upd H3 q (.tup [.str (Txt.partition y (one 46)).1,.int n])=H4 at s4 q4 xg xh ⊢;have b5:d4 al H4 (upd H4 al (.lst (us++[.ref q]))):=å;have sw:=b5.ts (K:=K) (by rw[xg];exact trivial);refine⟨(pf.trans s4).put vo,b5 _ _ (Ne.symm Fj) xh,⟨as++[((Txt.partition y (one 46)).1,n)],us++[.ref q],?_,by rw[â,ģ];lia,aE,?_⟩,_,_,_,_,rfl⟩
    ·rw[dG rp];exact kU er (show qG y=_ by unfold qG;rw[hn];rfl)
    ·rw[Ð];exact ď (Ï sw _ _ (Ý q4 (.cons (Is.s _) (.cons (Is.i _) .nil)))) (Õ (s4.ts.trans sw) _ _ Af)
   ·rintro ac H2 ⟨s2,xc,⟨as,us,er,Rl,sx,lu⟩,v2,v3,v4,v5,rfl⟩;rw[Ê,õ (Í _)] at er;refine⟨_,rfl,al,us,rfl,.inl ⟨É sx,λ p hp=>?_⟩⟩;have s3:=È (o:=HO.tup us) hp;exact k1 as _ _ er (s2.trans s3) (Ý (Ò aE) (Õ s3.ts _ _ lu))
theorem BM {net:Net} (ok:NetOk net) (fu:NetFull net):NetIn net where
 ne:=λ z=>by have:=ok.lo;rw[z] at this;exact absurd this (by decide)
 v12:=ok.hi
 s12:=ok.sp
 vs:=λ v hv=>by
  obtain⟨i,hi⟩:=List.mem_iff_getElem?.1 hv;have a:=ok.vs v hv;have b:=fu.vs i v hi;have Fk:=ok.hi;have s12:=ok.sp;have:=a.size;have:=b.sz;have:=b.br;have:=b.bh;exact⟨by lia,by lia,by lia,by lia,a.ne,λ o ho=>⟨λ t e=>by have:=(a.outs o ho).tg t e;lia,by have:=(a.outs o ho).lo;lia,by have:=(a.outs o ho).hi;lia⟩,λ t e=>by have:=a.spill t e;lia,
   λ c hc=>⟨(a.acts c hc).word,(a.acts c hc).lo,by have:=(a.acts c hc).hi;lia⟩,a.o3,a.a3⟩
 sps:=λ s hs=>by
  have a:=ok.sps s hs;have b:=fu.sps s hs;have Fk:=ok.hi;exact⟨by lia,by lia,by lia,by lia⟩
theorem kN {c:Nat} (hc:c < 128):∀ {l:List Str},(∀ a∈l,gE a)->gE (Str.join (one c) l)
 | [],_=>λ c hc=>absurd hc (by simp [sg,Str.join,Str.empty])
 | [x],h=>h x (by simp)
 | x::y::r,h=>λ d hd=>by
  rw[eM] at hd;rcases ß.mp hd with h1 | h1
  ·exact h x (by simp) d h1
  ·rcases Ñ.mp h1 with rfl | h1
   ·exact hc
   ·exact kN hc (l:=y::r) (λ a ha=>h a (Ô _ ha)) d h1
theorem u8 {a b:Str} (ha:gE a) (hb:gE b):gE (a++b):=λ c hc=>by
 rw[eN] at hc;rcases ß.mp hc with h | h
 ·exact ha c h
 ·exact hb c h
theorem lI {n:Int} (h0:0<=n):gE (aR n):=λ c hc=>by have:=i8 h0 c hc;lia
theorem GQ {c:Nat} (h:c < 128):gE (one c):=λ d hd=>by
 have:d=c:=by simpa [sg,one] using hd
 rw[this];exact h
theorem CU {t:Option Int} (h:AK t):gE (cO t):=by
 cases t with
 | none=>exact (by decide +kernel:∀ c∈sg (Str.ofString "ground"),c < 128)
 | some i=>exact lI (h i rfl).1
theorem NM {os:List (Option Int×Int)} (h:∀ o∈os,OutIn o):gE (dI os):=kN (by decide) λ a ha=>by
 obtain⟨o,ho,rfl⟩:=ä.mp ha;exact u8 (u8 (CU (h o ho).tg) (GQ (by decide))) (lI (h o ho).lo)
theorem NN {as:List (Str×Int)} (h:∀ a∈as,ActIn a):gE (fI as):=by
 unfold fI
 split
 ·exact (by decide +kernel:∀ c∈sg (Str.ofString "-"),c < 128)
 ·exact kN (by decide) λ a ha=>by
   obtain⟨o,ho,rfl⟩:=ä.mp ha;exact u8 (u8 (λ c hc=>by have:=(h o ho).sg c hc;lia) (GQ (by decide))) (lI (h o ho).lo)
theorem Q9 {n:Net} (h:NetIn n):gE (qP n):=kN (by decide) λ a ha=>by
 rcases ß.mp ha with ha | ha
 ·obtain⟨v,hv,rfl⟩:=ä.mp ha;have hv:=h.vs v hv;refine kN (by decide) λ w hw=>?_;simp only [pH,Ñ,Ă,or_false] at hw;rcases hw with rfl | rfl | rfl | rfl | rfl | rfl | rfl
  ·exact (by decide +kernel:∀ c∈sg (Str.ofString "vessel"),c < 128)
  ·exact lI hv.s0
  ·exact lI hv.b0
  ·exact NM hv.os
  ·cases v.holds
   ·exact (by decide +kernel:∀ c∈sg (Str.ofString "loses"),c < 128)
   ·exact (by decide +kernel:∀ c∈sg (Str.ofString "holds"),c < 128)
  ·exact CU hv.sp
  ·exact NN hv.as
 ·obtain⟨s,hs,rfl⟩:=ä.mp ha;have hv:=h.sps s hs;refine kN (by decide) λ w hw=>?_;simp only [tE,Ñ,Ă,or_false] at hw;rcases hw with rfl | rfl | rfl | rfl
  ·exact (by decide +kernel:∀ c∈sg (Str.ofString "spout"),c < 128)
  ·exact lI hv.t0
  ·exact lI hv.f0
  ·cases s.2.2
   ·exact (by decide +kernel:∀ c∈sg (Str.ofString "shut"),c < 128)
   ·exact (by decide +kernel:∀ c∈sg (Str.ofString "open"),c < 128)
theorem jV (x:Str) (c:Nat):Txt.split x (one c)≠[]:=λ z=>by
 unfold Txt.split at z
 split at z
 ·cases z
 ·split at z
  ·cases z
  ·rw[StrLaws.partsBetween_eq] at z;obtain⟨p,r,e⟩:=StrLaws.partsFrom_ne x (one c).length 0 (Builtin.Str.occurrences x (one c) 0 x.length (x.length+1));rw[e] at z;cases z
theorem len6 {ak:Type}{l:List ak} (h:l.length=6):∃ a b c d e f,l=[a,b,c,d,e,f]:=by
 match l,h with
 | [a,b,c,d,e,f],_=>exact⟨a,b,c,d,e,f,rfl⟩
theorem len3 {ak:Type}{l:List ak} (h:l.length=3):∃ a b c,l=[a,b,c]:=by
 match l,h with
 | [a,b,c],_=>exact⟨a,b,c,rfl⟩
theorem K1 {σ:St}{H:Hp}{Q:Bool->Hp->Prop}{z kw:Str}{q:Á}{xs:List V}{n:Int} (h4:σ[4]? = some (some (.str z))) (h5:σ[5]? = some (some (.ref q))) (hq:H q=some (.lst xs)) (k:Q (decide (z=kw/\(xs.length:Int)=n)) H) :
  RN (sK (iJ U2 (cF 4) (tC (.str kw)))) (sK (iJ U2 (JN (KQ K) (bM (cF 5) fX)) (tC (.int n)))) σ H Q:=by
 refine⟨_,h4,rfl,_,rfl,?_⟩
 by_cases e:z=kw
 ·subst e;refine wU rfl ⟨_,h5,q,xs,rfl,.inl (É hq),rfl,_,rfl,?_⟩;have:decide (V.int (xs.length:Int)=V.int n)=decide (z=z/\(xs.length:Int)=n):=by simp
  rw[this];exact k
 ·refine eA (λ h=>absurd (è h) λ h=>e (by cases h;rfl)) λ _=>?_;rw[ñ (λ h=>e h.1)] at k;exact k
def yI (K:Ç) (c:Á):Sp:=λ vs H Q E=>∃ (l:Á) (ws:List Str),vs=[.ref l]/\H l=some (.lst (ws.map V.str))/\ws.length=6/\(∀ x∈ws,gE x/\x.length<=100000)/\(∀ v p H',xM ws=some v->aJ H H'->Is K H' (D8 v) p->Q p H')/\(xM ws=none->∀ H',aJ H H'->E (.ref c) none H')
theorem vL (F:Fun K "read_vessel" "read_vessel" (aU 72) f fd) (T:Txt mg) (gv:CalleeR P w K mg base "read_number" ["word"] 2 (nH gw) f1 je) (iz:CalleeR P w K mg base "read_target" ["word"] 3 (yJ gw) f2 ju)
  (jw:CalleeR P w K mg base "read_acts" ["act_words"] 3 (uR K gw) f3 pr):FnOk P w K mg base (lW P w) 4 f fd ["words"] (yI K gw):=by
 refine F.okR ["words","size","brim","out_words","holds_word","spill","act_words","outs","out_word","target","sign","parts"] λ sc iu A outer s H vs Q E hr h L=>?_
 ·obtain⟨l,ws,rfl,hl,h6,hw,k1,k2⟩:=h;refine⟨_,(aF (bK (pv 0) (zD (K:=K) (n:=6) rfl rfl (aH (gL 1 sc.nd) (aH (gL 2 sc.nd) (aH (gL 3 sc.nd) (aH (gL 4 sc.nd) (aH (gL 5 sc.nd) (aH (gL 6 sc.nd) bA))))))))
   (aF (pL 7 sc.nd (aZ aD))
   (aF (dY af1 rfl (dU (K:=K) rfl (fG (K:=K) rfl ħ Ĩ gO (pv 3) (aB aK aD))) (gL 8 sc.nd) (aF (bK (fG (K:=K) rfl afe aff BN (pv 8) (aB aK aD)) (bC (K:=K) (n:=3) rfl rfl (aH (gL 9 sc.nd) (aH (gL 10 sc.nd) (aH (gL 11 sc.nd) bA)))))
   (aI (bQ (dH (K:=K) rfl ó Ā ā cD (pv 7) (aB (bN (aB (dL iz.ok (hr.mono (by decide)) rfl iz.mg iz.kp iz.bd .nil (cY L) (aB (pv 9) aD)) (aB (dL gv.ok (hr.mono (by decide)) rfl gv.mg gv.kp gv.bd .nil (cY L) (aB (pv 11) aD)) aD))) aD))))))
   (aI (aO (bN (aB (dL gv.ok (hr.mono (by decide)) rfl gv.mg gv.kp gv.bd .nil (cY L) (aB (pv 1) aD)) (aB (dL gv.ok (hr.mono (by decide)) rfl gv.mg gv.kp gv.bd .nil (cY L) (aB (pv 2) aD)) (aB (aQ (cT (K:=K) rfl) rfl T.b_tuple dB (aB (pv 7) aD)) (aB (fH d9 (pv 4) aK (aX _)) (aB (dL iz.ok (hr.mono (by decide)) rfl iz.mg iz.kp iz.bd .nil (cY L) (aB (pv 5) aD)) (aB (dL jw.ok (hr.mono (by decide)) rfl jw.mg jw.kp jw.bd .nil (cY L) (aB (pv 6) aD)) aD)))))))))))),?_⟩
  obtain⟨x1,x2,x3,x4,x5,x6,rfl⟩:=len6 h6;obtain⟨a1,n1⟩:=hw x1 (by simp);obtain⟨a2,n2⟩:=hw x2 (by simp);obtain⟨a3,n3⟩:=hw x3 (by simp);obtain⟨a5,n5⟩:=hw x5 (by simp);obtain⟨a6,n6⟩:=hw x6 (by simp);clear hw h6;rw[OD] at k1 k2;refine⟨_,rfl,l,_,rfl,É hl,rfl,_,_,rfl,_,_,rfl,_,_,rfl,_,_,rfl,_,_,rfl,_,_,rfl,rfl,?_⟩;dsimp only [bR];have pc:∀ y∈Txt.split x3 (one 44),gE y/\y.length<=100000:=λ y hy=>⟨fB a3 hy,ë (Ħ hy) n3⟩;have oq:=hV x3 (one 44) (by decide);generalize hw3:Txt.split x3 (one 44)=ws at k1 k2 pc oq;refine⟨ê _,λ al vo=>?_⟩;refine⟨_,rfl,rfl,x3,",",rfl,rfl,by decide,by lia,λ sp lh=>?_⟩;rw[U0,hw3];have Fj:al≠sp:=aP (show upd H al (.lst []) al=_ from aE) lh;have s1:aJ H (upd (upd H al (.lst [])) sp (.lst (ws.map V.str))):=(È vo).trans (È lh);have g1:upd (upd H al (.lst [])) sp (.lst (ws.map V.str)) al=some (.lst []):=by rw[aM Fj];exact aE
  have g2:upd (upd H al (.lst [])) sp (.lst (ws.map V.str)) sp=some (.lst (ws.map V.str)):=aE;generalize upd (upd H al (.lst [])) sp (.lst (ws.map V.str))=H1 at s1 g1 g2 ⊢;refine⟨sp,rfl,⟨_,É g2⟩,j9 (K:=K) (a:=sp) (xs:=ws.map V.str) (λ i ac H'=>aJ H H'/\H' sp=some (.lst (ws.map V.str))/\(∃ as us,eQ mP (ws.take i)=some as/\as.length<=i/\H' al=some (.lst us)/\IsL K H' (as.map BD) us)/\
   ∃ v8 v9 km lb,ac=[some (.ref l),some (.str x1),some (.str x2),some (.str x3),some (.str x4),some (.str x5),some (.str x6),some (.ref al),v8,v9,km,lb]) ⟨s1,g2,⟨[],[],rfl,Í _,g1,.nil⟩,_,_,_,_,rfl⟩ ?_ ?_ ?_⟩
  ·rintro i ac H2 _ ⟨_,h2,_⟩;exact É h2
  ·rintro i y ac H2 hy ⟨s2,xc,⟨as,us,er,Rl,sx,lu⟩,v8,v9,km,lb,rfl⟩;rw[Ø] at hy;obtain⟨y,rp,rfl⟩:=ð.mp hy;have hyi:i < ws.length:=(æ.mp rp).1;obtain⟨ya,yl⟩:=pc y (Ó rp);obtain⟨pa1,Rm⟩:=CS (c:=42) ya;obtain⟨pl1,pl2⟩:=BT (c:=42) (x:=y);have eul:us.length=as.length:=by rw[lu.length,Ê]
   dsimp only [bL];refine⟨_,rfl,rfl,y,"*",rfl,rfl,by decide,by lia,λ p hp=>?_⟩;rw[w_s];have s3:=È (o:=HO.tup [.str (Txt.partition y (one 42)).1,.str (Txt.partition y (one 42)).2.1,.str (Txt.partition y (one 42)).2.2]) hp;refine⟨p,_,rfl,Ò aE,rfl,_,_,rfl,_,_,rfl,_,_,rfl,rfl,?_⟩;dsimp only [bR];have qj:=s3 _ _ sx;have xf:=s3 _ _ xc;have Af:=Õ s3.ts _ _ lu;have pf:=s2.trans s3;generalize upd H2 p (.tup [.str (Txt.partition y (one 42)).1,.str (Txt.partition y (one 42)).2.1,.str (Txt.partition y (one 42)).2.2])=H3 at s3 qj xf Af pf ⊢;have bad:mP y=none->E (.ref gw) none H3:=λ hn=>k2 (by rw[kW hn (Ó rp)];rfl) _ pf;refine⟨_,rfl,.inl ⟨rfl,_,É qj⟩,_,rfl,_,rfl,pa1,by lia,λ t ht=>?_,λ hn=>bad (by unfold mP;rw[hn];rfl)⟩;refine⟨_,rfl,_,rfl,Rm,by lia,λ n hn=>?_,λ hn=>bad (by unfold mP;rw[ht,hn];rfl)⟩;refine⟨(sz0 2),λ q hq=>⟨al,us,_,rfl,rfl,È hq _ _ qj,pP (by lia),?_⟩⟩;have s4:=È (o:=HO.tup [kO t,.int n]) hq;have q4:bS K (upd H3 q (.tup [kO t,.int n])) q [kO t,.int n]:=Ò aE;have xg:=s4 _ _ qj;have xh:=s4 _ _ xf;generalize upd H3 q (.tup [kO t,.int n])=H4 at s4 q4 xg xh ⊢;have b5:d4 al H4 (upd H4 al (.lst (us++[.ref q]))):=å;have sw:=b5.ts (K:=K) (by rw[xg];exact trivial);refine⟨(pf.trans s4).put vo,b5 _ _ (Ne.symm Fj) xh,⟨as++[(t,n)],us++[.ref q],?_,by rw[â,ģ];lia,aE,?_⟩,_,_,_,_,rfl⟩
   ·rw[dG rp];exact kU er (show mP y=_ by unfold mP;rw[ht,hn];rfl)
   ·rw[Ð];exact ď (Ï sw _ _ (Ý q4 (.cons (Is.tgOf t) (.cons (Is.i _) .nil)))) (Õ (s4.ts.trans sw) _ _ Af)
  ·rintro ac H2 ⟨s2,xc,⟨as,us,er,Rl,sx,lu⟩,v8,v9,km,lb,rfl⟩;rw[Ê,õ (Í _)] at er;rw[er] at k1 k2;refine⟨_,rfl,x1,rfl,a1,by lia,λ z hz=>?_,λ hz=>k2 (by rw[hz];rfl) _ s2⟩;refine⟨_,rfl,x2,rfl,a2,by lia,λ m hm=>?_,λ hm=>k2 (by rw[hz,hm];rfl) _ s2⟩;refine⟨_,rfl,al,us,rfl,.inl ⟨É sx,λ p hp=>?_⟩⟩;have s3:=È (o:=HO.tup us) hp;have q3:bS K (upd H2 p (.tup us)) p us:=Ò aE;have Af:=Õ s3.ts _ _ lu;have pf:=s2.trans s3;generalize upd H2 p (.tup us)=H3 at s3 q3 Af pf ⊢;refine⟨_,rfl,rfl,?_⟩;have e4:decide (V.str x4=V.str "holds")=decide (x4 = "holds"):=by simp
   rw[e4];refine⟨_,rfl,x5,rfl,a5,by lia,λ t ht=>?_,λ ht=>k2 (by rw[hz,hm,ht];rfl) _ pf⟩;refine⟨_,rfl,x6,rfl,a6,n6,λ cs q H4 Dr s4 iq=>?_,λ Dr H4 s4=>k2 (by rw[hz,hm,ht,Dr];rfl) _ (pf.trans s4)⟩;refine⟨(sz0 6),λ r Bg=>?_⟩;have s5:=È (o:=HO.tup [.int z,.int m,.ref p,.bl (decide (x4 = "holds")),kO t,q]) Bg;refine k1 ⟨z,m,as,decide (x4 = "holds"),t,cs⟩ _ _ (by rw[hz,hm,ht,Dr];rfl) ((pf.trans s4).trans s5) ?_;exact Ý (Ò aE) (.cons (Is.i _) (.cons (Is.i _) (.cons (Ý (s5.tup (s4.tup q3)) (Õ (s4.trans s5).ts _ _ Af)) (.cons (Is.b _) (.cons (Is.tgOf t) (.cons (Ï s5.ts _ _ iq) .nil))))))
def gX (x:Str):Str:=(Txt.split x (one 32)).headD ""
def E2:List (List Nat):=[[98,97,99,107],[114,111,117,110,100],[115,116,117,99,107],[115,111,111,110,101,115,116]]
def o5 (w:Str):Prop:=sg w∈E2
theorem j7 (c:Nat) (x:Str):Str.join (one c) [x]=x:=by rfl
theorem iV {c:Nat}{x:Str} (h:c∉sg x):Txt.split x (one c)=[x]:=by
 have:=hJ (c:=c) (l:=[x]) (by simp) λ a ha=>by rw[ã.1 ha];exact h
 rw[j7] at this;exact this
theorem UE {a b:List Nat} (h:32∉a):(a++32::b).takeWhile (· != 32)=a:=by
 induction a with
 | nil=>rfl
 | cons x a ih=>
  have h1:x≠32:=λ z=>h (by rw[z];exact Þ);rw[ũ,Ž];simp only [bne_iff_ne,ne_eq,h1,not_false_eq_true,if_true];rw[ih λ z=>h (Ô _ z)]
theorem K0 {a:List Nat} (h:32∉a):a.takeWhile (· != 32)=a:=by
 induction a with
 | nil=>rfl
 | cons x a ih=>
  have h1:x≠32:=λ z=>h (by rw[z];exact Þ);rw[Ž];simp only [bne_iff_ne,ne_eq,h1,not_false_eq_true,if_true];rw[ih λ z=>h (Ô _ z)]
theorem xX {l:List Str} (hn:l≠[]) (hf:∀ a∈l,32∉sg a):(sg (Str.join (one 32) l)).takeWhile (· != 32)=sg (l.headD ""):=by
 match l,hn with
 | [a],_=>rw[j7];exact K0 (hf a (by simp))
 | a::b::r,_=>rw[eM];exact UE (hf a (by simp))
theorem qX (y:Str):sg (gX y)=(sg y).takeWhile (· != 32):=by
 have h:=ŏ y (one 32);have hf:=afn y 32;have:=xX (jV y 32) hf;rw[show Str.join (one 32) (Txt.split y (one 32))=y from h] at this;exact this.symm
theorem SM {p:Nat->Bool}{l:List Nat}{d:Nat} (h:d∈l.takeWhile p):d∈l:=(List.takeWhile_sublist p).subset h
theorem qM {y:Str}{L:List Nat} (h:sg (gX y)=L):∀ d∈L,d∈sg y:=λ d hd=>by
 rw[<- h,qX] at hd;exact SM hd
theorem xP {y:Str}{c:Nat}{r:List Nat} (h:sg (gX y)=c::r):(sg y)[0]? = some c:=by
 rw[qX] at h;cases e:sg y with
 | nil=>rw[e] at h;cases h
 | cons d t=>
  rw[e,Ž] at h
  split at h
  ·injection h with h1 _;rw[h1];rfl
  ·cases h
def R7 (X Y:List Nat):Prop:=∃ c,(∀ d∈Y,d∈X\/d=c)/\X.length<=Y.length+1/\((Y[0]? = X[0]?\/Y[0]? = some c)\/∀ d∈Y,d∈X)
theorem B2:∀ ds:List Nat,sg (Str.join Str.empty (ds.map one))=ds
 | []=>rfl
 | [d]=>rfl
 | d::e::r=>by
  have q:Str.join Str.empty ((d::e::r).map one)=one d++Str.empty++Str.join Str.empty ((e::r).map one):=rfl;rw[q,eN,eN,B2 (e::r)];rfl
theorem VA {x:Str}{c:Nat}:∀ {us:List Str},(∀ u∈us,u∈FE x\/u=one c)->∃ ds:List Nat,us=ds.map one/\∀ d∈ds,d∈sg x\/d=c
 | [],_=>⟨[],rfl,λ d h=>nomatch h⟩
 | u::us,h=>by
  obtain⟨ds,rfl,hd⟩:=VA λ v hv=>h v (Ô _ hv);rcases h u Þ with e | rfl
  ·obtain⟨d,Ep,rfl⟩:=ä.1 e;exact⟨d::ds,rfl,λ q hq=>(Ñ.1 hq).elim (λ z=>.inl (z ▸ Ep)) (hd q)⟩
  ·exact⟨c::ds,rfl,λ q hq=>(Ñ.1 hq).elim .inr (hd q)⟩
theorem zH {a b:Nat} (h:one a=one b):a=b:=by have:=congrArg sg h;simpa [sg,one] using this
theorem JK {x:Str}{c:Nat}{us:List Str} (hu:∀ u∈us,u∈FE x\/u=one c) (hm:(FE x).length<=us.length+1) (hf:(us[0]? = (FE x)[0]?\/us[0]? = some (one c))\/∀ u∈us,u∈FE x):R7 (sg x) (sg (Str.join Str.empty us)):=by
 obtain⟨ds,rfl,hd⟩:=VA hu;rw[B2];have e:FE x=(sg x).map one:=rfl;rw[e,Ê,Ê] at hm;refine⟨c,hd,hm,?_⟩;rcases hf with (hf | hf) | hf
 ·rw[e,Ø,Ø] at hf;refine .inl (.inl ?_);cases h1:ds[0]? <;> cases h2:(sg x)[0]? <;> rw[h1,h2] at hf
  ·cases hf
  ·cases hf
  ·exact congrArg some (zH (ï hf))
 ·rw[Ø] at hf;refine .inl (.inr ?_);cases h1:ds[0]? <;> rw[h1] at hf
  ·cases hf
  ·exact congrArg some (zH (ï hf))
 ·refine .inr λ d h=>?_;have:=hf (one d) (ä.2 ⟨d,h,rfl⟩);rw[e] at this;obtain⟨q,hq,e2⟩:=ä.1 this;rw[<- zH e2];exact hq
def GX (ms:List Str) (x y:Str):Prop:=R7 (sg x) (sg y)\/(∃ us,y=Str.join (one 10) us/\∀ u∈us,u∈Txt.split x (one 10))\/
 ∃ i l ws,(Txt.split x (one 10))[i]? = some l/\(∀ v∈ws,v∈ms\/v∈Txt.split l (one 32))/\y=Str.join (one 10) ((Txt.split x (one 10)).set i (Str.join (one 32) ws))
theorem tO {X Y L B:List Nat}{c:Nat} (h:∀ d∈Y,d∈X\/d=c) (hX:∀ d∈X,d∈B) (hL:∀ d∈L,d∈Y) (hc:(L.any λ a=>L.any λ b=>a != b && !B.contains a && !B.contains b)=true):False:=by
 obtain⟨a,ha,h1⟩:=agg.1 hc;obtain⟨b,hb,h2⟩:=agg.1 h1;simp only [Ğ,bne_iff_ne,ne_eq,afx,List.contains_eq_mem,af9] at h2;have e1:=(h a (hL a ha)).resolve_left λ z=>h2.1.2 (hX a z);have e2:=(h b (hL b hb)).resolve_left λ z=>h2.2 (hX b z);exact h2.1.1 (e1.trans e2.symm)
def zG (L B:List Nat):Bool:=L.any λ a=>!B.contains a
theorem LO {Y L B:List Nat} (h:∀ d∈Y,d∈B) (hL:∀ d∈L,d∈Y) (hc:zG L B=true):False:=by
 obtain⟨a,ha,h1⟩:=agg.1 hc;simp only [afx,List.contains_eq_mem,af9] at h1;exact h1 (h a (hL a ha))
def AX (L B:List Nat):Bool:=L.any λ a=>L.any λ b=>a != b && !B.contains a && !B.contains b
def VV (B:List Nat):Prop:=10∉B/\∀ L∈E2,AX L B=true/\zG L (10::B)=true
def sI:List Str:=["","held","go","pour","tips","0","00","-1","1","tick"]
instance (v:Str):Decidable (o5 v):=inferInstanceAs (Decidable (sg v∈E2))
theorem AT:∀ v∈sI,¬ o5 v/\32∉sg v:=by decide +kernel
theorem MX:sg (gX Str.empty)=[]:=by rw[qX];rfl
theorem AR {ms:List Str}{x y:Str}{ws:List Str} (hm:∀ v∈ms,¬ o5 v/\32∉sg v) (hx:∀ v∈Txt.split x (one 32),¬ o5 v) (hw:∀ v∈ws,v∈ms\/v∈Txt.split x (one 32)) (e:y=Str.join (one 32) ws):¬ o5 (gX y):=by
 intro z;have ho:∀ v∈ws,¬ o5 v/\32∉sg v:=λ v hv=>by
  rcases hw v hv with h | h
  ·exact hm v h
  ·exact⟨hx v h,afn x 32 v h⟩
 unfold o5 at z
 by_cases hn:ws=[]
 ·subst hn;rw[e,show Str.join (one 32) []=Str.empty from rfl,MX] at z;exact absurd z (by decide)
 ·rw[qX,e,xX hn λ a ha=>(ho a ha).2] at z;cases ws with
  | nil=>exact hn rfl
  | cons a r=>exact (ho a Þ).1 z
theorem Q4 {ms:List Str}{x y:Str}{B:List Nat} (hm:∀ v∈ms,¬ o5 v/\32∉sg v) (hB:VV B) (hx:∀ d∈sg x,d∈B) (h:GX ms x y):¬ o5 (gX y):=by
 have Bm:10∉sg x:=λ z=>hB.1 (hx _ z);rcases h with ⟨c,h1,_,_⟩ | ⟨us,rfl,hu⟩ | ⟨i,l,ws,hl,hw,e⟩
 ·intro z;exact tO h1 hx (qM rfl) (hB.2 _ z).1
 ·rw[iV Bm] at hu;intro z;refine LO (Y:=sg (Str.join (one 10) us)) (B:=10::B) (λ d hd=>?_) (qM rfl) (hB.2 _ z).2;have:∀ us:List Str,(∀ u∈us,u=x)->∀ d∈sg (Str.join (one 10) us),d∈10::B:=λ us=>by
   intro hu
   match us with
   | []=>intro d hd;cases hd
   | [a]=>intro d hd;rw[j7,hu a (by simp)] at hd;exact Ô _ (hx d hd)
   | a::b::r=>
    induction r generalizing a b with
    | nil=>
     intro d hd;rw[eM,j7,hu a (by simp),hu b (by simp)] at hd;rcases ß.1 hd with h | h
     ·exact Ô _ (hx d h)
     ·rcases Ñ.1 h with h | h
      ·rw[h];exact Þ
      ·exact Ô _ (hx d h)
    | cons c r ih=>
     intro d hd;rw[eM] at hd;rcases ß.1 hd with h | h
     ·rw[hu a (by simp)] at h;exact Ô _ (hx d h)
     ·rcases Ñ.1 h with h | h
      ·rw[h];exact Þ
      ·exact ih b c (λ u h=>hu u (Ô _ h)) d h
  exact this us (λ u h=>ã.1 (hu u h)) d hd
 ·rw[iV Bm] at hl e;cases i with
  | succ i=>simp at hl
  | zero=>
   simp only [Ŷ,ő] at hl;subst hl;rw[afp,j7] at e;refine AR hm (λ v hv z=>?_) hw e;refine LO (Y:=sg v) (B:=10::B) (λ d hd=>Ô _ (hx d ?_)) (λ d hd=>hd) (hB.2 _ z).2;have:=uJ 32 hv d hd;rw[show Str.join (one 32) (Txt.split x (one 32))=x from ŏ x (one 32)] at this;exact this
theorem TB {ms:List Str}{y:Str} (hm:∀ v∈ms,¬ o5 v/\32∉sg v) (h:GX ms "grounded" y):¬ o5 (gX y):=by
 have eg:sg "grounded" = [103,114,111,117,110,100,101,100]:=by decide +kernel
 have Bm:10∉sg "grounded" := by decide +kernel
 have h32:32∉sg "grounded" := by decide +kernel
 rcases h with ⟨c,h1,h2,h3⟩ | ⟨us,rfl,hu⟩ | ⟨i,l,ws,hl,hw,e⟩
 ·rw[eg] at h1 h2 h3;intro z;have z':=z;unfold o5 E2 at z;simp only [Ñ,Ă,or_false] at z;rcases z with z | z | z | z
  ·exact tO h1 (λ d h=>h) (qM z) (by decide)
  ·have hf:=xP z;have hb:32∉sg y:=λ hb=>by
    rcases h3 with h3 | h3
    ·have hc:c=114:=by
      rcases h3 with h3 | h3
      ·rw[hf] at h3;exact absurd h3 (by decide)
      ·rw[hf] at h3;exact (ï h3).symm
     rcases h1 _ hb with h | h
     ·exact absurd h (by decide)
     ·rw[hc] at h;exact absurd h (by decide)
    ·exact absurd (h3 _ hb) (by decide)
   rw[qX,K0 hb] at z;rw[z] at h2;exact absurd h2 (by decide)
  ·exact tO h1 (λ d h=>h) (qM z) (by decide)
  ·exact tO h1 (λ d h=>h) (qM z) (by decide)
 ·rw[iV Bm] at hu;intro z;cases us with
  | nil=>unfold o5 at z;rw[show Str.join (one 10) []=Str.empty from rfl,MX] at z;exact absurd z (by decide)
  | cons a r=>
   have ha:=ã.1 (hu a Þ);have e0:(sg (Str.join (one 10) (a::r)))[0]? = some 103:=by
    cases r with
    | nil=>rw[j7,ha,eg];rfl
    | cons b r=>rw[eM,ha,eg];rfl
   unfold o5 E2 at z;simp only [Ñ,Ă,or_false] at z;rcases z with z | z | z | z <;> (have:=xP z;rw[e0] at this;exact absurd this (by decide))
 ·rw[iV Bm] at hl e;cases i with
  | succ i=>simp at hl
  | zero=>
   simp only [Ŷ,ő] at hl;subst hl;rw[afp,j7] at e;refine AR hm (λ v hv=>?_) hw e;rw[iV h32] at hv;rw[ã.1 hv];show ¬ (sg "grounded" ∈ E2);rw[eg];decide
def uA (l:List Str):Str:=if l=[] then "none" else Str.join (one 32) l
def FY (l:List Int):Str:=uA (l.map aR)
inductive Ans where
 | told (z:Str)
 | no (w:Str)
def lP (S:RunS) (w:Str):Ans:=
 if w = "held" then .told (FY S.cur.held) else if w = "coming" then .told (FY S.cur.coming) else if w = "doors" then .told (uA (S.cur.doors.map fP)) else
 if w = "tick" then .told (aR S.cur.tick) else if w = "came" then .told (aR S.cur.came) else if w = "grounded" then .told (aR S.cur.ground) else .no "row"
def IR (S:RunS) (n:Int):RunS×Ans:=if 3000 < S.cur.tick+n then (S,.no "much") else (S.go n.toNat,.told "ok")
def rD (S:RunS) (n:Int):RunS×Ans:=(S,if n < S.net.vs.length then .told (FY (S.tips.getD n.toNat [])) else .no "vessel")
def jG (S:RunS) (n m:Int):RunS×Ans:=if n < S.net.vs.length then (if 1000 < S.cur.poured.getD n.toNat 0+m then (S,.no "much") else (S.pour n m,.told "ok")) else (S,.no "vessel")
def kL (S:RunS) (w:Str):List Int->RunS×Ans
 | []=>(S,lP S w)
 | [n]=>if w = "go" then IR S n else if w = "tips" then rD S n else (S,.no "row")
 | [n,m]=>if w = "pour" then jG S n m else (S,.no "row")
 | _=>(S,.no "row")
def iQ:List Str->Option (List Int)
 | []=>some []
 | a::r=>match bT a,iQ r with
  | some n,some l=>some (n::l)
  | _,_=>none
def tM (S:RunS):List Str->RunS×Ans
 | []=>(S,.no "row")
 | w::r=>match iQ r with
  | some l=>kL S w l
  | none=>(S,.no "row")
def jQ (S:RunS) (x:Str):RunS×Ans:=tM S (Txt.split x (one 32))
theorem Q2 {w:Str} (h1:sg w≠[]) (h2:∀ c∈sg w,48<=c/\c<=57):Txt.isdecimal w=true:=by
 show (decide (w.length > 0) && w.cps.all Unicode.isDecimal)=true;rw[Ğ];refine⟨Û (by rw[<- gT];exact List.length_pos_iff.mpr h1),?_⟩;rw[afo];intro x hx;have:=h2 x (by simpa using hx);exact (by decide +kernel:∀ c,c < 58->48<=c->Unicode.isDecimal c=true) x (by lia) (by lia)
theorem GI {w:Str}:CL w=true↔∀ c∈sg w,48<=c/\c<=57:=by
 unfold CL;rw[ě];refine⟨λ h c hc=>by have:=h c hc;simpa using this,λ h c hc=>by have:=h c hc;simpa using this⟩
theorem LW {w:Str} (h1:sg w≠[]) (h2:∀ c∈sg w,48<=c/\c<=57) (h3:(sg w)[0]? = some 48->w = "0"):aR ((NumText.digitsVal (sg w):Nat):Int)=w:=by
 refine jM ?_;have e:sg (aR ((NumText.digitsVal (sg w):Nat):Int))=(Nat.toDigits 10 (NumText.digitsVal (sg w))).map Char.toNat:=Ō _;have hd:NumText.AllDigits (sg w):=h2;have ea:=NumText.toDigits_all _ hd
 by_cases h0:(sg w)[0]? = some 48
 ·have:=h3 h0;subst this;decide +kernel
 ·rw[e,ea];cases hs:sg w with
  | nil=>exact absurd hs h1
  | cons c r=>
   rw[hs] at h0 h2;have hc:c≠48:=λ z=>h0 (by rw[z];rfl);have ed:(c::r).dropWhile (· == 48)=c::r:=by rw[List.dropWhile_cons];simp [hc]
   rw[ed];show ((c::r).map Char.ofNat).map Char.toNat=c::r;rw[ü];refine (List.map_congr_left λ d hd=>?_).trans (List.map_id _);have:=h2 d hd;exact (by decide +kernel:∀ d,d < 58->(Char.ofNat d).toNat=d) d (by lia)
theorem DS {w:Str} (ha:gE w):bT w=tK w:=by
 by_cases hA:Txt.isdecimal w=true/\w.length<=9
 ·obtain⟨h1,h2⟩:=tD ha hA.1;have kr:w ≠ "" := λ z=>h1 (by rw[z];rfl);have hd:CL w=true:=GI.mpr h2;have hi:PySem.intText? w=some ((NumText.digitsVal (sg w):Nat):Int):=intText_digits h2 h1 (by have:=gT w;lia);unfold bT tK;rw[Å hA,hi,Ä (λ z=>by rcases z with z | z | z;exact kr z;lia;rw[hd] at z;cases z)];simp only
  by_cases h0:(sg w)[0]? = some 48/\w ≠ "0"
  ·rw[Å h0,Ä];intro z;have e:(sg (aR ((NumText.digitsVal (sg w):Nat):Int)))[0]? = some 48:=by rw[z];exact h0.1
   exact h0.2 (z.symm.trans (LV (by lia) e))
  ·rw[Ä h0,Å (LW h1 h2 λ z=>Classical.byContradiction λ z2=>h0 ⟨z,z2⟩)]
 ·have e:tK w=none:=by
   refine Å ?_
   by_cases h9:9 < w.length
   ·exact .inr (.inl h9)
   by_cases hw:w = ""
   ·exact .inl hw
   refine .inr (.inr ?_);rw[afy];intro hd;exact hA ⟨Q2 (λ z=>hw (jM (by rw[z];rfl))) (GI.mp hd),by lia⟩
  rw[e];exact Ä hA
end Tw
namespace L2
open PySem PySem.Spec PyProof.Rows TwZ
structure KDt (P:Ã) (w:World) (K:Ç) (a:Á) (gy:List (fT×V)):Prop where
 nm:(a == sysModules)=false
 ob:∀ h:Heap,K.In h->∃ vs,KV gy vs/\h.DictOf (dM P w) a vs
def RX (a:Á) (gy:List (fT×V)):R2:=λ x y H Q=>∃ k:fT,y=.ref a/\x=kV k/\Q (.bl (!(fJ gy k).isSome)) H
def UI (a:Á) (gy:List (fT×V)) (ty:TE):TE:=λ σ H Q=>ty σ H λ y H1=>∃ (k:fT) (v:V),y=kV k/\fJ gy k=some v/\Q v H1
def RI (gy:List (fT×V)) (ty tx:TE):TE:=λ σ H Q=>ty σ H λ y H1=>tx σ H1 λ z H2=>∃ k:fT,y=kV k/\Q ((fJ gy k).getD z) H2
section
variable {X:Cx}{a:Á}{gy:List (fT×V)}{x:Str}{p pos apos jd:Pos}{e f:Expr}{ty tx:TE}
theorem LK (D:KDt X.prog X.w X.K a gy):iW X (compareOp .NotIn) (RX a gy):=by
 intro gn s σ H x y v u Q I rx ry h;obtain⟨k,rfl,rfl,q⟩:=h;cases ry;obtain⟨vs,rel,dd⟩:=D.ob _ I.kIn;refine wpAny_notIn_of (xV rx) D.nm dd.mapOf ?_;rw[<- (rel.val k).isSome_eq];exact⟨.bl (!(fJ gy k).isSome),H,I.tok _,rfl,q⟩
theorem OU (D:KDt X.prog X.w X.K a gy) (hg:Gl X x) (hm:X.mg x=some (.ref a)) (hi:PE X e ty) (hs:VW e:=by exact λ _ _=>rfl) (hd:(x == ("__debug__" : Str))=false:=by decide):PE X (.Subscript (.Name x p) e pos) (UI a gy ty):=by
 intro gn s σ H Q I h;refine O4 PySem.F.slot_dict_getitem.lookup hs (lE I hg hm (d8 (hi gn s σ H _ I h) λ iv s2 ⟨y,H2,I2,ry,k,v,ey,l,q2⟩=>?_) hd);subst ey;obtain⟨vs,rel,dd⟩:=D.ob _ I2.kIn;obtain⟨w',hw,so⟩:=nF.some_of (v:=v) (o:=valueAt vs k) (by rw[<- l];exact rel.val k);exact⟨dd.typeIs,wpAny_getItem_of (xV ry) dd.mapOf hw ⟨v,H2,I2.tok _,so,q2⟩⟩
theorem LD (D:KDt X.prog X.w X.K a gy) (hg:Gl X x) (hm:X.mg x=some (.ref a)) (he:PE X e ty) (hf:PE X f tx) (m:M2 X (.Name x p) "get" apos e f jd) (hd:(x == ("__debug__" : Str))=false:=by decide):PE X (.Call (.Attribute (.Name x p) "get" apos) [e,f] [] jd) (RI gy ty tx):=by
 intro gn s σ H Q I h;refine wpAny_Call_method m.base m.few m.line af5 Ŋ PySem.F.type_dict_get (lE I hg hm ?_ hd);obtain⟨vs,rel,dd⟩:=D.ob _ I.kIn;refine⟨dd.typeIs,λ b q=>?_,?_⟩
 ·cases q;obtain⟨ob,_,_,h1,h2,_⟩:=dd;exact⟨ob,h1,h2.2.1⟩
 rw[m.trees];refine Ŝ rfl (ş (ō (d8 (he gn s σ H _ I h) λ iv s2 ⟨y,H2,I2,ry,q2⟩=>
  ō (d8 (hf gn s2 σ H2 _ I2 q2) λ fv s3 ⟨z,H3,I3,rz,k,ey,q3⟩=>afr ?_))))
 subst ey;obtain⟨vs,rel,dd⟩:=D.ob _ I3.kIn;exact call_meetsIn Ŋ dd.typeIs ŷ (Ŵ _ _ _) (meets_dict_get_default (dM X.prog X.w) a (xV ry) D.nm fv) ⟨_,dd.mapOf,⟨_,H3,I3.tok _,(rel.val k).getD rz,q3⟩⟩
end
theorem OI {X:Cx}{e:Expr}{t:TT} (h:∀ pn:List (Á×Obj),PT (X.within pn λ _ _=>False) e t):PT X e t:=by
 intro gn s σ H Q I h1;exact ò (h (X.pn++gn) [] s σ H Q I.within h1) (λ b aj ⟨H',J,q⟩=>⟨H',J.unwithin,q⟩) λ _ _ z=>z.elim
def RM (i:Nat) (R:Á->Sp->Prop) (E:XK) (t:TA):TE:=λ σ H Q=>∃ f sp,σ[i]? = some (some (.ref f))/\R f sp/\t σ H λ vs H1=>sp vs H1 Q E
section
variable {X:Cx}{CX:GW}{k i:Nat}{R:Á->Sp->Prop}{E:XK}{x:Str}{p pos:Pos}{e:Expr}{es:List Expr}{t:TA}
theorem LG (hR:∀ f sp,R f sp->∃ fd ps,FnOk X.prog X.w X.K X.mg X.base CX k f fd ps sp/\PySem.W.keepIn X.K (.ref f)=true/\gQ X.K fd ps []) (hr:Room k X.A) (hx:iM CX X E)
  (hN:X.N[i]? = some x) (hv:VT X.env.scope x) (ha:PA X (e::es) t)
  (hd:(x == ("__debug__" : Str))=false:=by decide) (sj:(x == ("__classdict__" : Str))=false:=by decide) (he:starEach (e::es) X.env=(false,eval e X.env)::starEach es X.env:=by exact wr0) (pe:(backTo pos (starEach es X.env)).any (·.1)=false:=by exact wr0) :
  PE X (.Call (.Name x p) (e::es) [] pos) (RM i R E t):=by
 intro gn s σ H Q I h;obtain⟨f,sp,bi,hf,h⟩:=h;obtain⟨fd,ps,F,hk,hb⟩:=hR f sp hf;refine Ŏ ?_;refine d8 ((L9 hN hv hd sj) gn s σ H (λ v H'=>v=V.ref f/\H'=H) I ⟨_,bi,rfl,rfl⟩) λ u s0 ⟨v,H0,I0,rv,q⟩=>?_;obtain⟨rfl,rfl⟩:=q;obtain rfl:u=Value.ref f:=rv;refine Ť (h₀:=X.base) I.ok.mod.kin hk (d8 (ha pos gn s0 σ H0 _ I0 h) λ us s1 ⟨vs,H1,I1,r,q⟩=>⟨I1.kIn,?_⟩) he pe;exact yW F hr hb .nil hx I1 r (by rw[ı];exact q)
end
def RG (tv te tl th:TE):TS:=λ D σ H=>tv σ H λ v H1=>te σ H1 λ x H2=>tl σ H2 λ a H3=>th σ H3 λ c H4=>∃ l b xs ys i j,x=.ref l/\v=.ref b/\a=.int i/\c=.int j/\
 H4 l=some (.lst xs)/\H4 b=some (.lst ys)/\l≠b/\0<=i/\i<=j/\j<=xs.length/\xs.length+ys.length<=sizeLine/\D.nx σ (upd H4 l (.lst (xs.take i.toNat++ys++xs.drop j.toNat)))
section
variable {X:Cx}{o lo hi value:Expr}{pos pos' p2:Pos}{tv te tl th:TE}
theorem KZ (hv:PE X value tv) (ho:PE X o te) (hl:PE X lo tl) (hu:PE X hi th) (hs:swapsWith value (some (.Subscript o (.Slice (some lo) (some hi) none p2) pos')) pos.line X.env=pure false:=by exact wr0) :
  PS X (.Assign [.Subscript o (.Slice (some lo) (some hi) none p2) pos'] value pos) (RG tv te tl th):=by
 intro gn s σ H D I h;refine wpAny_Assign_Subscript (d8 (hv gn s σ H _ I h) λ r s1 ⟨v,H1,I1,rv,q1⟩=>d8 (ho gn s1 σ H1 _ I1 q1) λ u s2 ⟨x,H2,I2,rx,q2⟩=>?_) hs;refine wpAny_Slice ?_;rw[evalPart_some];refine d8 (hl gn s2 σ H2 _ I2 q2) λ vl s3 ⟨a,H3,I3,ra,q3⟩=>?_;rw[evalPart_some];refine d8 (hu gn s3 σ H3 _ I3 q3) λ vu s4 ⟨c,H4,I4,rc,l,b,xs,ys,i,j,e1,e2,e3,e4,g1,g2,kr,h0,h1,h2,hz,q4⟩=>?_;subst e1 e2 e3 e4;cases rx;cases rv;rw[evalPart_none];refine Ë ?_;have I5:Inv X gn σ H4 { s4 with heap:=s4.heap.push { cls:=.type "slice",data:=.fields #[vl,vu,.none] } }:=I4.kept (t':=s4.toks) λ b ob q=>Î _ q;exact HK I5 g1 g2 kr (Heap.IsSliceOf.new ..) ra rc h0 h1 h2 hz λ s' I'=>⟨σ,_,I',q4⟩
end
def VF (K:Ç) (tl:TE):TI:=λ σ H R=>CC K tl σ H R\/T9 K tl σ H R
theorem FR {X:Cx}{K:Ç}{tg l:Expr}{tl:TE} (hK:X.K=K) (hl:PE X l tl):PI X tg l (VF K tl):=λ gn s σ H R I h=>by
 rcases h with h | h
 ·exact dU hK hl gn s σ H R I h
 ·exact cU hK hl gn s σ H R I h
def tNo:TE:=λ _ _ _=>False
theorem V6 {X:Cx}{e:Expr}:PE X e tNo:=λ _ _ _ _ _ _ h=>h.elim
end L2
namespace Tw
open PySem L2
theorem aY.same' {K:Ç}{H H':Hp}{a:Á}{xs:List V} (e:aJ H H') (h:aY K H a xs):aY K H' a xs:=by
 rcases h with h | h
 ·exact .inl (h.imp (e _ _) λ ⟨o,h⟩=>⟨o,e _ _ h⟩)
 ·exact .inr h
theorem jK.same {K:Ç}{H H':Hp}{t:Bool}{a:Á}{us:List V} (s:aJ H H') (h:jK K H t a us):jK K H' t a us:=by
 cases t with
 | true=>exact s.tup (a:=a) h
 | false=>exact aY.same' s h
theorem G9 {K:Ç}{t:Bool}{a:Á}{us:List V}{ts:List Str}{σ:St}{H:Hp}{Q:VK}{i:Nat} (hi:σ[i]? = some (some (.ref a))) (hq:jK K H t a us) (he:us.map DG=ts.map some) (hl:us.length<=900000)
  (k:∀ l H',aJ H H'->H' l=some (.lst (ts.map V.str))->Q (.ref l) H'):tLC (VF K (cF i)) [none] (bL 0) DC (JN FN (bM (cF 0) fX)) σ H Q:=by
 have len:us.length=ts.length:=by have:=congrArg List.length he;simpa using this
 have go:∀ (D:Á) (j:Nat) (x:V) (ys:List V) (ac:St) (H':Hp),us[j]? = some x->(H D=none/\aJ H H'/\H' D=some (.lst ys)/\ys=(ts.take j).map V.str/\∃ u,ac=[u])->bL 0 x ac H' λ aq H3=>DC aq H3 λ b H4=>
   if b=true then JN FN (bM (cF 0) fX) aq H4 λ y H5=>H5 D=some (.lst ys)/\ys.length < sizeLine/\(λ D j ys ac H'=>H D=none/\aJ H H'/\H' D=some (.lst ys)/\ys=(ts.take j).map V.str/\∃ u,ac=[u]) D (j+1) (ys++[y]) aq (upd H5 D (.lst (ys++[y])))
   else (λ D j ys ac H'=>H D=none/\aJ H H'/\H' D=some (.lst ys)/\ys=(ts.take j).map V.str/\∃ u,ac=[u]) D (j+1) ys aq H4:=by
  rintro D j x ys ac H' hx ⟨hD,sm,iw,rfl,u,rfl⟩;have hj:=(æ.mp hx).1;obtain⟨y,hy⟩:∃ y,ts[j]? = some y:=⟨_,Ċ (by lia)⟩;have e1:DG x=some y:=by
   have:=congrArg (λ l=>l[j]?) he;simp only [Ø,hx,hy,Ķ,ő] at this;exact this
  refine⟨_,rfl,x,y,rfl,e1,iw,?_,hD,sm.put hD,aE,?_,_,rfl⟩
  ·rw[à,Ê,î];lia
  ·rw[dG hy,Ð];rfl
 cases t with
 | true=>
  refine .inr ⟨_,hi,a,rfl,⟨us,hq⟩,fN (K:=K) (a:=a) (xs:=us) (λ D j ys ac H'=>H D=none/\aJ H H'/\H' D=some (.lst ys)/\ys=(ts.take j).map V.str/\∃ u,ac=[u]) (λ D j ys ac H' p=>p.2.1.tup hq) (λ D hD=>⟨hD,È hD,aE,rfl,none,rfl⟩) ?_ go⟩;rintro D ys ac H' ⟨hD,sm,iw,rfl,_⟩;rw[len,ø] at iw;exact k D H' sm iw
 | false=>
  refine .inl ⟨_,hi,a,rfl,⟨us,hq⟩,qV (K:=K) (a:=a) (xs:=us) (λ D j ys ac H'=>H D=none/\aJ H H'/\H' D=some (.lst ys)/\ys=(ts.take j).map V.str/\∃ u,ac=[u]) (λ D j ys ac H' p=>jK.same (t:=false) p.2.1 hq) (λ D hD=>⟨hD,È hD,aE,rfl,none,rfl⟩) ?_ go⟩;rintro D ys ac H' ⟨hD,sm,iw,rfl,_⟩;rw[len,ø] at iw;exact k D H' sm iw
structure TxtB (mg:Str->Option À):Prop where
 g_MOST_POURED:∃ u,mg "MOST_POURED" = some u/\bH (.int 1000) u
 g_MOST_TICKS:∃ u,mg "MOST_TICKS" = some u/\bH (.int 3000) u
def oM (K:Ç):Sp:=λ vs H Q _=>∃ (x:V) (m:Mom) (v:Int),vs=[x,.int v]/\Is K H (mV m) x/\0<=v/\v < m.poured.length/\Q (.int (1000 - m.poured.getD v.toNat 0)) H
theorem tG (F:Fun K "most_to_pour" "most_to_pour" (aU 28) f fd) (T:Txt mg) (U:TxtB mg):FnOk P w K mg base gP 1 f fd ["moment","vessel"] (oM K):=by
 refine F.ok ["moment","vessel"] λ sc iu A outer s H vs Q E hr h=>?_
 ·obtain⟨x,m,v,rfl,hx,v0,v1,k⟩:=h;refine⟨_,(aI (aO (aS gI (cE rfl U.g_MOST_POURED) (px K (px K (pv 0) aG) (pv 1))))),?_⟩;obtain⟨ma,po,st,rfl,q,hs,hp⟩:=jO hx;have jr:v.toNat < m.poured.length:=by lia
  have hg:m.poured[v.toNat]? = some (m.poured.getD v.toNat 0):=by rw[ĕ,Ċ jr];rfl
  exact⟨_,rfl,.inr (.inl ⟨ma,_,2,_,rfl,rfl,q,rfl,_,rfl,.inr (.inl ⟨po,_,v,_,rfl,rfl,hp,lH v0 (by rw[Ø,hg];rfl),_,_,rfl,rfl,k⟩)⟩)⟩
def uS (K:Ç):Sp:=λ vs H Q _=>∃ (x:V) (m:Mom),vs=[x]/\Is K H (mV m) x/\Q (.int (3000 - m.tick)) H
theorem wQ (F:Fun K "most_to_go" "most_to_go" (aU 29) f fd) (T:Txt mg) (U:TxtB mg):FnOk P w K mg base gP 1 f fd ["moment"] (uS K):=by
 refine F.ok ["moment"] λ sc iu A outer s H vs Q E hr h=>?_
 ·obtain⟨x,m,rfl,hx,k⟩:=h;refine⟨_,(aI (aO (aS gI (cE rfl U.g_MOST_TICKS) (px K (pv 0) aG)))),?_⟩;obtain⟨ma,po,st,rfl,q,hs,hp⟩:=jO hx;exact⟨_,rfl,.inr (.inl ⟨ma,_,0,_,rfl,rfl,q,rfl,_,_,rfl,rfl,k⟩)⟩
def iA (K:Ç):Sp:=λ vs H Q _=>∃ (t:Bool) (a:Á) (us:List V) (ts:List Str),vs=[.ref a]/\jK K H t a us/\us.map DG=ts.map some/\nY ts<=900000/\∀ H',aJ H H'->Q (.str (uA ts)) H'
theorem vH (F:Fun K "with_blanks" "with_blanks" (aU 93) f fd) (T:Txt mg) (TS:TxtS mg):FnOk P w K mg base gP 1 f fd ["things"] (iA K):=by
 refine F.ok ["things"] λ sc iu A outer s H vs Q E hr h=>?_
 ·obtain⟨t,a,us,ts,rfl,hq,he,hw,k⟩:=h;refine⟨_,(aI (aO (jZ (xO (K:=K) rfl (pv 0) (λ _=>rfl)) (fG (K:=K) rfl Č č (cZ (K:=K) rfl) aK (aB (gN (λ _ _ h=>h) rfl (LcOk.mk (N':=["thing"]) (fr:=[none]) rfl trivial rfl rfl rfl rfl rfl trivial) (FR (K:=K) rfl (pv 0)) (λ _ _ _=>(gC 0 ["thing"])) (λ _ _ _=>bX) (λ _ _ _=>(aQ bP rfl TS.b_str bV (aB (pv 0) aD)))) aD)) aK))),?_⟩;have len:us.length=ts.length:=by have:=congrArg List.length he;simpa using this
  have hl:=qT ts;refine⟨_,rfl,!us.isEmpty,?_,?_⟩
  ·cases t with
   | true=>exact .inr (.inl ⟨us,hq,rfl⟩)
   | false=>exact .inl ⟨us,hq,rfl⟩
  cases us with
  | nil=>
   have:ts=[]:=ý len.symm;subst this;exact k H (Ď _)
  | cons u r=>
   have yz:ts≠[]:=λ z=>by rw[z] at len;cases len
   have ew:uA ts=Str.join (one 32) ts:=Ä yz;rw[ew] at k;refine⟨rfl,G9 (K:=K) rfl hq he (by lia) λ l H' s' Lx=>?_⟩;refine⟨" ",l,ts,rfl,rfl,É Lx,kF (by decide) (by lia),?_⟩;rw[JS];exact k _ s'
def IZ (wd:Str):Nat:=if wd = "pour" then 2 else if wd = "go" then 1 else if wd = "tips" then 1 else 0
def NI (cR cM cV:Á) (wr:Str):Á:=if wr = "much" then cM else if wr = "vessel" then cV else cR
def fU (K:Ç) (C cR cM cV:Á) (wd:Str):Sp:=λ vs H Q E=>∃ (e l:Á) (S:RunS) (fp:List Á) (ns:List Int) (d:Nat),vs=[.ref e,.ref l]/\cB K C H e S fp/\Rn S d/\d<=1000/\H l=some (.lst (ns.map V.int))/\
 (∀ n∈ns,0<=n/\n < 10 ^ 9)/\ns.length=IZ wd/\(∀ S' z,kL S wd ns=(S',.told z)->∀ H',iI fp H H'->cB K C H' e S' fp->Q (.str z) H')/\
 (∀ S' wr,kL S wd ns=(S',.no wr)->E (.ref (NI cR cM cV wr)) none H)
theorem tN:∀ {l:List Int},(∀ x∈l,0<=x/\x < 10 ^ 9)->nY (l.map aR)<=10 * l.length
 | [],_=>Í _
 | a::l,h=>by
  have h1:=h a Þ;have h2:=tN λ x hx=>h x (Ô _ hx);have h3:=gF h1.1 h1.2;rw[Ù,eT,á];lia
theorem iU {l:List Int} (h:∀ x∈l,0<=x/\x < 10 ^ 9):(l.map V.int).map DG=(l.map aR).map some:=by
 rw[ü,ü];exact List.map_congr_left λ x hx=>dS (h x hx).1 (h x hx).2
theorem Rn.held {S:RunS}{d:Nat} (h:Rn S d):∀ x∈S.cur.held,0<=x/\x < 10 ^ 9:=h.mp.small.1
theorem Rn.coming {S:RunS}{d:Nat} (h:Rn S d):∀ x∈S.cur.coming,0<=x/\x < 10 ^ 9:=h.mp.small.2.1
theorem Rn.came {S:RunS}{d:Nat} (h:Rn S d):0<=S.cur.came/\S.cur.came < 10 ^ 9:=h.mp.small.2.2.1
theorem Rn.ground {S:RunS}{d:Nat} (h:Rn S d):0<=S.cur.ground/\S.cur.ground < 10 ^ 9:=h.mp.small.2.2.2
theorem Rn.tick {S:RunS}{d:Nat} (h:Rn S d):0<=S.cur.tick/\S.cur.tick < 10 ^ 9:=⟨h.mp.t0,by have:=h.mp.t1;lia⟩
theorem Rn.w_held {S:RunS}{d:Nat} (h:Rn S d):nY (S.cur.held.map aR)<=900000:=by
 have:=tN h.held;have:=h.ok.cur.st.h;have:=h.ok.nok.hi;lia
theorem Rn.w_coming {S:RunS}{d:Nat} (h:Rn S d):nY (S.cur.coming.map aR)<=900000:=by
 have:=tN h.coming;have:=h.ok.cur.st.c;have:=h.ok.nok.hi;lia
theorem Rn.doors {S:RunS}{d:Nat} (h:Rn S d):S.cur.doors.length<=12:=by
 have:=h.ok.cur.st.d;have:=h.ok.nok.sp;lia
theorem wZ:∀ l:List Bool,nY (l.map fP)=5 * l.length
 | []=>rfl
 | b::l=>by rw[Ù,eT,wZ l,á,wB];lia
theorem Rn.w_doors {S:RunS}{d:Nat} (h:Rn S d):nY (S.cur.doors.map fP)<=900000:=by
 rw[wZ];have:=h.doors;lia
theorem vT (F:Fun K "answer_held" "answer_held" (aU 83) f fd) (T:Txt mg) (gz:MCal P w K mg base C "state" ["self"] 1 (eL K C λ S v H=>Is K H (AL S.cur.held S.cur.coming S.cur.doors) v) f1 je)
  (jc:Callee P w K mg base "with_blanks" ["things"] 1 (iA K) f2 ju):FnOk P w K mg base (lW P w) 9 f fd ["run","numbers"] (fU K C gu gr gp "held"):=by
 refine F.okR ["run","numbers"] λ sc iu A outer s H vs Q E hr h L=>?_
 ·obtain⟨e,l,S,fp,ns,d,rfl,ra,rn,hd,hl,hn,hc,k,_⟩:=h;obtain rfl:ns=[]:=ý hc;refine⟨_,(aI (aO (bZ jc hr (aB (px K (eW (pv 0) gz.cls gz.mt gz.ok (hr.mono (by decide)) gz.bd .nil iE) aG) aD)))),?_⟩;obtain⟨dx,np,R,M,T',ei⟩:=ra.ins;refine⟨_,rfl,e,dx,_,rfl,ei,lV "state" rfl,e,S,fp,rfl,ra,λ v hv=>?_⟩;obtain⟨a,b1,b2,b3,rfl,q,q1,q2,q3⟩:=uL hv;exact .inr (.inl ⟨a,_,0,_,rfl,rfl,q,rfl,true,b1,_,S.cur.held.map aR,rfl,q1,iU rn.held,rn.w_held,λ H' s=>k S _ rfl H' s.butL (ra.same s)⟩)
theorem rS (F:Fun K "answer_coming" "answer_coming" (aU 84) f fd) (T:Txt mg) (gz:MCal P w K mg base C "state" ["self"] 1 (eL K C λ S v H=>Is K H (AL S.cur.held S.cur.coming S.cur.doors) v) f1 je)
  (jc:Callee P w K mg base "with_blanks" ["things"] 1 (iA K) f2 ju):FnOk P w K mg base (lW P w) 9 f fd ["run","numbers"] (fU K C gu gr gp "coming"):=by
 refine F.okR ["run","numbers"] λ sc iu A outer s H vs Q E hr h L=>?_
 ·obtain⟨e,l,S,fp,ns,d,rfl,ra,rn,hd,hl,hn,hc,k,_⟩:=h;obtain rfl:ns=[]:=ý hc;refine⟨_,(aI (aO (bZ jc hr (aB (px K (eW (pv 0) gz.cls gz.mt gz.ok (hr.mono (by decide)) gz.bd .nil iE) aG) aD)))),?_⟩;obtain⟨dx,np,R,M,T',ei⟩:=ra.ins;refine⟨_,rfl,e,dx,_,rfl,ei,lV "state" rfl,e,S,fp,rfl,ra,λ v hv=>?_⟩;obtain⟨a,b1,b2,b3,rfl,q,q1,q2,q3⟩:=uL hv;exact .inr (.inl ⟨a,_,1,_,rfl,rfl,q,rfl,true,b2,_,S.cur.coming.map aR,rfl,q2,iU rn.coming,rn.w_coming,λ H' s=>k S _ rfl H' s.butL (ra.same s)⟩)
theorem tJ (F:Fun K "answer_doors" "answer_doors" (aU 85) f fd) (T:Txt mg) (gz:MCal P w K mg base C "state" ["self"] 1 (eL K C λ S v H=>Is K H (AL S.cur.held S.cur.coming S.cur.doors) v) f1 je)
  (jc:Callee P w K mg base "with_blanks" ["things"] 1 (iA K) f2 ju) (ki:Callee P w K mg base "door_word" ["door"] 1 pN f3 pr):FnOk P w K mg base (lW P w) 9 f fd ["run","numbers"] (fU K C gu gr gp "doors"):=by
 refine F.okR ["run","numbers"] λ sc iu A outer s H vs Q E hr h L=>?_
 ·obtain⟨e,l,S,fp,ns,d,rfl,ra,rn,hd,hl,hn,hc,k,_⟩:=h;obtain rfl:ns=[]:=ý hc;refine⟨_,(aI (FP λ pn=>(aO (bZ jc hr (aB (gN (λ _ _ h=>h) rfl (LcOk.mk (N':=["door"]) (fr:=[none]) rfl trivial rfl rfl rfl rfl rfl trivial) (cU (K:=K) rfl (px K (eW (pv 0) gz.cls gz.mt gz.ok (hr.mono (by decide)) gz.bd .nil iE) aG)) (λ _ _ _=>(gC 0 ["door"])) (λ _ _ _=>bX) (λ _ _ _=>(bZ ki hr (aB (pv 0) aD)))) aD))))),?_⟩;obtain⟨dx,np,R,M,T',ei⟩:=ra.ins;refine⟨_,rfl,e,dx,_,rfl,ei,lV "state" rfl,e,S,fp,rfl,ra,λ v hv=>?_⟩;obtain⟨a,b1,b2,b3,rfl,q,q1,q2,q3⟩:=uL hv;refine .inr (.inl ⟨a,_,2,_,rfl,rfl,q,rfl,b3,rfl,⟨_,q3⟩,fN (K:=K) (a:=b3) (xs:=S.cur.doors.map V.bl) (λ D j ys ac H'=>H D=none/\aJ H H'/\H' D=some (.lst ys)/\ys=((S.cur.doors.take j).map fP).map V.str/\∃ u,ac=[u])
   (λ D j ys ac H' p=>p.2.1.tup q3) (λ D hD=>⟨hD,È hD,aE,rfl,none,rfl⟩) ?_ ?_⟩)
  rotate_left
  ·rintro D j x ys ac H' hx ⟨hD,sm,iw,rfl,u,rfl⟩;obtain⟨b,hb,rfl⟩:∃ b,S.cur.doors[j]? = some b/\x=.bl b:=by
    rw[Ø] at hx;cases hq:S.cur.doors[j]? with
    | none=>rw[hq] at hx;cases hx
    | some b=>rw[hq] at hx;cases hx;exact⟨b,rfl,rfl⟩
   have yk:=rn.doors;refine⟨_,rfl,b,rfl,iw,?_,hD,sm.put hD,aE,?_,_,rfl⟩
   ·rw[à,Ê,Ê,î];lia
   ·rw[dG hb,Ð,Ð];rfl
  ·rintro D ys ac H' ⟨hD,sm,iw,rfl,_⟩;rw[Ê,ø] at iw;exact⟨false,D,_,S.cur.doors.map fP,rfl,É iw,(by rw[ü,ü,ü];rfl),rn.w_doors,λ H2 s2=>k S _ rfl H2 (sm.trans s2).butL (ra.same (sm.trans s2))⟩
theorem vR (F:Fun K "answer_tick" "answer_tick" (aU 86) f fd) (T:Txt mg) (TS:TxtS mg) (ii:MCal P w K mg base C "tick" ["self"] 1 (eL K C λ S v H=>v=.int S.cur.tick) f1 je) :
  FnOk P w K mg base (lW P w) 9 f fd ["run","numbers"] (fU K C gu gr gp "tick"):=by
 refine F.okR ["run","numbers"] λ sc iu A outer s H vs Q E hr h L=>?_
 ·obtain⟨e,l,S,fp,ns,d,rfl,ra,rn,hd,hl,hn,hc,k,_⟩:=h;obtain rfl:ns=[]:=ý hc;refine⟨_,(aI (aO (aQ bP rfl TS.b_str bV (aB (eW (pv 0) ii.cls ii.mt ii.ok (hr.mono (by decide)) ii.bd .nil iE) aD)))),?_⟩;obtain⟨dx,np,R,M,T',ei⟩:=ra.ins;refine⟨_,rfl,e,dx,_,rfl,ei,lV "tick" rfl,e,S,fp,rfl,ra,λ v hv=>?_⟩;subst hv;exact⟨_,_,rfl,dS rn.tick.1 rn.tick.2,k S _ rfl H (Ď H).butL ra⟩
theorem vU (F:Fun K "answer_came" "answer_came" (aU 87) f fd) (T:Txt mg) (TS:TxtS mg) (jf:MCal P w K mg base C "came" ["self"] 1 (eL K C λ S v H=>v=.int S.cur.came) f1 je) :
  FnOk P w K mg base (lW P w) 9 f fd ["run","numbers"] (fU K C gu gr gp "came"):=by
 refine F.okR ["run","numbers"] λ sc iu A outer s H vs Q E hr h L=>?_
 ·obtain⟨e,l,S,fp,ns,d,rfl,ra,rn,hd,hl,hn,hc,k,_⟩:=h;obtain rfl:ns=[]:=ý hc;refine⟨_,(aI (aO (aQ bP rfl TS.b_str bV (aB (eW (pv 0) jf.cls jf.mt jf.ok (hr.mono (by decide)) jf.bd .nil iE) aD)))),?_⟩;obtain⟨dx,np,R,M,T',ei⟩:=ra.ins;refine⟨_,rfl,e,dx,_,rfl,ei,lV "came" rfl,e,S,fp,rfl,ra,λ v hv=>?_⟩;subst hv;exact⟨_,_,rfl,dS rn.came.1 rn.came.2,k S _ rfl H (Ď H).butL ra⟩
theorem oS (F:Fun K "answer_grounded" "answer_grounded" (aU 88) f fd) (T:Txt mg) (TS:TxtS mg) (il:MCal P w K mg base C "grounded" ["self"] 1 (eL K C λ S v H=>v=.int S.cur.ground) f1 je) :
  FnOk P w K mg base (lW P w) 9 f fd ["run","numbers"] (fU K C gu gr gp "grounded"):=by
 refine F.okR ["run","numbers"] λ sc iu A outer s H vs Q E hr h L=>?_
 ·obtain⟨e,l,S,fp,ns,d,rfl,ra,rn,hd,hl,hn,hc,k,_⟩:=h;obtain rfl:ns=[]:=ý hc;refine⟨_,(aI (aO (aQ bP rfl TS.b_str bV (aB (eW (pv 0) il.cls il.mt il.ok (hr.mono (by decide)) il.bd .nil iE) aD)))),?_⟩;obtain⟨dx,np,R,M,T',ei⟩:=ra.ins;refine⟨_,rfl,e,dx,_,rfl,ei,lV "grounded" rfl,e,S,fp,rfl,ra,λ v hv=>?_⟩;subst hv;exact⟨_,_,rfl,dS rn.ground.1 rn.ground.2,k S _ rfl H (Ď H).butL ra⟩
theorem AI (S:RunS) (n:Int):kL S "go" [n]=IR S n:=by
 show (if ("go" : Str) = "go" then IR S n else if ("go" : Str) = "tips" then rD S n else (S,.no "row"))=_;exact Å rfl
theorem wJ (S:RunS) (n:Int):kL S "tips" [n]=rD S n:=by
 show (if ("tips" : Str) = "go" then IR S n else if ("tips" : Str) = "tips" then rD S n else (S,.no "row"))=_;rw[Ä (by decide +kernel),Å rfl]
theorem r8 (S:RunS) (n m:Int):kL S "pour" [n,m]=jG S n m:=by
 show (if ("pour" : Str) = "pour" then jG S n m else (S,.no "row"))=_;exact Å rfl
theorem Rn.wtip {S:RunS}{d:Nat} (h:Rn S d) (hd:d<=1000) {l:List Int} (hl:l∈S.tips):nY (l.map aR)<=900000:=by
 have h1:=tN (h.tp l hl);have h2:=h.sz.tips l hl;have h3:=h.mp.t0;have h4:=h.mp.t1;lia
theorem vQ (F:Fun K "answer_tips" "answer_tips" (aU 89) f fd) (T:Txt mg) (jg:MCalR P w K mg base C "tips" ["self","vessel"] 3 (tQ K C gp) f1 je)
  (jc:Callee P w K mg base "with_blanks" ["things"] 1 (iA K) f2 ju):FnOk P w K mg base (lW P w) 9 f fd ["run","numbers"] (fU K C gu gr gp "tips"):=by
 refine F.okR ["run","numbers"] λ sc iu A outer s H vs Q E hr h L=>?_
 ·obtain⟨e,l,S,fp,ns,d,rfl,ra,rn,hd,hl,hn,hc,k,kE⟩:=h;obtain⟨n,rfl⟩:∃ n,ns=[n]:=match ns,hc with | [n],_=>⟨n,rfl⟩
  rw[wJ] at k kE;have qk:=(hn n (by simp)).1;refine⟨_,(aI (aO (bZ jc hr (aB (kZ (pv 0) jg.cls jg.mt jg.ok (hr.mono (by decide)) jg.bd .nil (cY L) (aB (px K (pv 1) aG) aD)) aD)))),?_⟩;obtain⟨dx,np,R,M,T',ei⟩:=ra.ins;refine⟨_,rfl,e,dx,_,rfl,ei,lV "tips" rfl,_,rfl,.inl ⟨l,_,0,.int n,rfl,rfl,É hl,rfl,e,S,fp,n,rfl,ra,?_⟩⟩;unfold rD at k kE
  by_cases hv:n < S.net.vs.length
  ·rw[Å hv] at k;refine .inl ⟨qk,hv,λ tl p uu hp=>?_⟩;have eg:S.tips.getD n.toNat []=tl:=by rw[ĕ,uu];rfl
   rw[eg] at k;have hm:=Ó uu;have s1:=È (o:=HO.lst (tl.map V.int)) hp;exact⟨false,p,_,tl.map aR,rfl,É aE,iU (rn.tp tl hm),rn.wtip hd hm,λ H' s2=>k S _ rfl H' (s1.trans s2).butL (ra.same (s1.trans s2))⟩
  ·rw[Ä hv] at kE;refine .inr ⟨λ z=>hv z.2,?_⟩;exact kE S _ rfl
theorem zP (F:Fun K "answer_go" "answer_go" (aU 81) f fd) (T:Txt mg) (tx:RunTx K C) (jj:ExC K "TooMuch" gr) (qm:Callee P w K mg base "most_to_go" ["moment"] 1 (uS K) f1 je)
  (jm:MCal P w K mg base C "go" ["self","many"] 7 (KB K C) f2 ju):FnOk P w K mg base (lW P w) 9 f fd ["run","numbers"] (fU K C gu gr gp "go"):=by
 refine F.okR ["run","numbers"] λ sc iu A outer s H vs Q E hr h L=>?_
 ·obtain⟨e,l,S,fp,ns,d,rfl,ra,rn,hd,hl,hn,hc,k,kE⟩:=h;obtain⟨n,rfl⟩:∃ n,ns=[n]:=match ns,hc with | [n],_=>⟨n,rfl⟩
  rw[AI] at k kE;have qk:=(hn n (by simp)).1;refine⟨_,(aF (bJ (aW oE (px K (pv 1) aG) (bZ qm hr (aB (px K (dF (K:=K) rfl (pv 0) rfl) (qI kP aG)) aD)) (aX _)) (aI (gA L rfl rfl jj.exc jj.ns ĝ (aB aK aD))) aT)
   (aF (bQ (kZ (pv 0) jm.cls jm.mt jm.ok (hr.mono (by decide)) jm.bd .nil iE (aB (px K (pv 1) aG) aD)))
   (aI (aO aK)))),?_⟩
  have zd:=ra;obtain⟨dx,np,R,M,T',ts,rs,ms,mv,c,rfl⟩:=zd;refine⟨_,rfl,.inl ⟨l,_,0,.int n,rfl,rfl,É hl,rfl,_,rfl,e,C,dx,_,_,rfl,c.ins,tx.cls,tx.moments,dZ,1,rfl,.inl ⟨M,_,-1,_,rfl,rfl,É c.hM,iF _ _,mv,S.cur,rfl,c.cM,?_⟩⟩⟩;unfold IR at k kE;refine⟨_,_,rfl,rfl,_,rfl,eA (λ hT=>?_) λ hF=>?_⟩
  ·have hT:=è hT;rw[Å (by lia)] at kE;exact⟨by show 1<=100;decide,kE S _ rfl⟩
  ·have hF:¬ (3000 - S.cur.tick < n):=λ z=>hF (Û z);rw[Ä (by lia)] at k;have ht:=rn.mp.t0;obtain⟨m,rfl⟩:=ú qk;have e0:kL S "go" [(m:Int)]=IR S m:=AI S m;refine⟨_,rfl,e,dx,_,rfl,c.ins,lV "go" rfl,_,rfl,.inl ⟨l,_,0,.int (m:Int),rfl,rfl,É hl,rfl,e,S,_,m,_,rfl,ra,rn.sz,?_,?_,λ H' b zd=>k (S.go m) _ rfl H' b zd⟩⟩
   ·have:=rn.mp.t1;lia
   ·lia
theorem vS (F:Fun K "answer_pour" "answer_pour" (aU 80) f fd) (T:Txt mg) (tx:RunTx K C) (jj:ExC K "TooMuch" gr) (ie:CalleeR P w K mg base "need_vessel" ["net","number"] 2 (pM K gp) f1 je) (nj:Callee P w K mg base "most_to_pour" ["moment","vessel"] 1 (oM K) f2 ju)
  (jh:MCalR P w K mg base C "pour" ["self","vessel","amount"] 3 (tS K C gp) f3 pr):FnOk P w K mg base (lW P w) 9 f fd ["run","numbers"] (fU K C gu gr gp "pour"):=by
 refine F.okR ["run","numbers","vessel","amount"] λ sc iu A outer s H vs Q E hr h L=>?_
 ·obtain⟨e,l,S,fp,ns,d,rfl,ra,rn,hd,hl,hn,hc,k,kE⟩:=h;obtain⟨n,m,rfl⟩:∃ n m,ns=[n,m]:=match ns,hc with | [n,m],_=>⟨n,m,rfl⟩
  rw[r8] at k kE;have qk:=(hn n (by simp)).1;have uw:=(hn m (by simp)).1;refine⟨_,(aF (bK (pv 1) (zD (K:=K) (n:=2) rfl rfl (aH (gL 2 sc.nd) (aH (gL 3 sc.nd) bA))))
   (aF (bQ (dL ie.ok (hr.mono (by decide)) rfl ie.mg ie.kp ie.bd .nil (cY L) (aB (dF (K:=K) rfl (pv 0) rfl) (aB (pv 2) aD))))
   (aF (bJ (aW oE (pv 3) (bZ nj hr (aB (px K (dF (K:=K) rfl (pv 0) rfl) (qI kP aG)) (aB (pv 2) aD))) (aX _)) (aI (gA L rfl rfl jj.exc jj.ns ĝ (aB aK aD))) aT)
   (aF (bQ (kZ (pv 0) jh.cls jh.mt jh.ok (hr.mono (by decide)) jh.bd .nil (cY L) (aB (pv 2) (aB (pv 3) aD))))
   (aI (aO aK)))))),?_⟩
  have zd:=ra;obtain⟨dx,np,R,M,T',ts,rs,ms,mv,c,rfl⟩:=zd;refine⟨_,rfl,l,_,rfl,É hl,rfl,_,_,rfl,_,_,rfl,rfl,?_⟩;refine⟨_,rfl,e,C,dx,_,_,rfl,c.ins,tx.cls,tx.net,A4,_,rfl,np,S.net,n,rfl,c.net,?_⟩;unfold jG at k kE
  by_cases hv:n < S.net.vs.length
  ·rw[Å hv] at k kE;have pe:=rn.ok.cur.pl;refine .inl ⟨qk,hv,?_⟩;refine⟨_,rfl,_,rfl,e,C,dx,_,_,rfl,c.ins,tx.cls,tx.moments,dZ,1,rfl,.inl ⟨M,_,-1,_,rfl,rfl,É c.hM,iF _ _,_,rfl,mv,S.cur,n,rfl,c.cM,qk,by rw[pe];exact hv,?_⟩⟩;refine⟨_,_,rfl,rfl,_,rfl,eA (λ hT=>?_) λ hF=>?_⟩
   ·have hT:=è hT;rw[Å (by lia)] at kE;exact⟨by show 1<=100;decide,kE S _ rfl⟩
   ·have hF:¬ (1000 - S.cur.poured.getD n.toNat 0 < m):=λ z=>hF (Û z);rw[Ä (by lia)] at k;refine⟨_,rfl,e,dx,_,rfl,c.ins,lV "pour" rfl,_,rfl,_,rfl,e,S,_,n,m,_,rfl,ra,rn.sz,?_,.inl ⟨qk,hv,λ H' b zd=>k (S.pour n m) _ rfl H' b zd⟩⟩;have:=rn.mp.t1;have:=rn.mp.t0;lia
  ·rw[Ä hv] at kE;exact .inr ⟨λ z=>hv z.2,kE S _ rfl⟩
def sE:List Str:=["pour","go","held","coming","doors","tick","came","grounded","tips","back","round","stuck","soonest"]
def r6 (wd:Str):Nat:=if wd = "pour" then 2 else if wd = "go" then 1 else if wd = "tips" then 1 else if wd = "stuck" then 1 else if wd = "soonest" then 2 else 0
def kS (wd:Str):fT:=.inr (some wd)
structure TxtD (P:Ã) (w:World) (K:Ç) (mg:Str->Option À) (base:Heap) (C cR cM cV aA aN:Á) (vy Bn:List (fT×V)):Prop where
 mA:mg "ANSWERS" = some (.ref aA)
 mN:mg "NUMBER_COUNTS" = some (.ref aN)
 dA:KDt P w K aA vy
 dN:KDt P w K aN Bn
 inA:∀ wd:Str,(fJ vy (kS wd)).isSome=decide (wd∈sE)
 inN:∀ wd:Str,(fJ Bn (kS wd)).getD (.int 0)=.int (r6 wd)
 fn:∀ (wd:Str) (v:V),fJ vy (kS wd)=some v->¬ o5 wd->∃ f fd,v=.ref f/\FnOk P w K mg base (lW P w) 9 f fd ["run","numbers"] (fU K C cR cM cV wd)/\PySem.W.keepIn K (.ref f)=true/\gQ K fd ["run","numbers"] []
def AnsR (K:Ç) (C cR cM cV:Á) (vy:List (fT×V)) (f:Á) (sp:Sp):Prop:=∃ wd,fJ vy (kS wd)=some (.ref f)/\¬ o5 wd/\sp=fU K C cR cM cV wd
theorem TxtD.hR {P:Ã}{w:World}{K:Ç}{mg:Str->Option À}{base:Heap}{C cR cM cV aA aN:Á}{vy Bn:List (fT×V)} (U:TxtD P w K mg base C cR cM cV aA aN vy Bn):∀ f sp,AnsR K C cR cM cV vy f sp->∃ fd ps,FnOk P w K mg base (lW P w) 9 f fd ps sp/\PySem.W.keepIn K (.ref f)=true/\gQ K fd ps []:=by
 rintro f sp ⟨wd,h1,h2,rfl⟩;obtain⟨f',fd,e,h3,h4,h5⟩:=U.fn wd _ h1 h2;cases e;exact⟨fd,_,h3,h4,h5⟩
def DR (z:Str):Option (Str×List Int):=match Txt.split z (one 32) with
 | []=>none
 | w::r=>if w∈sE/\r.length=r6 w then (iQ r).map λ l=>(w,l) else none
theorem mU:∀ {r:List Str}{l:List Int},iQ r=some l->l.length=r.length
 | [],l,h=>by cases h;rfl
 | a::r,l,h=>by
  unfold iQ at h
  split at h
  ·rename_i n l' _ h2;cases h;rw[á,á,mU h2]
  ·cases h
theorem tW:∀ {r:List Str}{l:List Int},(∀ u∈r,gE u)->iQ r=some l->∀ n∈l,0<=n/\n < 10 ^ 9
 | [],l,_,h=>by cases h;exact λ n hn=>nomatch hn
 | a::r,l,ha,h=>by
  unfold iQ at h
  split at h
  ·rename_i n l' h1 h2
   cases h;intro m hm;rcases Ñ.1 hm with rfl | hm
   ·have:=vA (ha a Þ) h1;exact⟨this.1,this.2.1⟩
   ·exact tW (λ u hu=>ha u (Ô _ hu)) h2 m hm
  ·cases h
theorem vY:∀ {r:List Str},(iQ r).isSome=r.all λ a=>(bT a).isSome
 | []=>rfl
 | a::r=>by
  have ih:=vY (r:=r);rw[Ŗ,<- ih];show (match bT a,iQ r with
   | some n,some l=>some (n::l)
   | _,_=>none).isSome=_
  cases bT a <;> cases iQ r <;> rfl
theorem FX:∀ {r:List Str}{l:List Int},iQ r=some l->∀ (i:Nat) (u:Str),r[i]? = some u->∃ n,bT u=some n/\l[i]? = some n
 | [],l,h,i,u,hi=>by simp at hi
 | a::r,l,h,i,u,hi=>by
  unfold iQ at h
  split at h
  ·rename_i n l' h1 h2
   cases h;cases i with
   | zero=>simp only [Ŷ,ő] at hi;subst hi;exact⟨n,h1,rfl⟩
   | succ i=>exact FX h2 i u (by simpa using hi)
  ·cases h
theorem A1 (w:Str) (h:¬ o5 w):w ≠ "back" /\ w ≠ "round" /\ w ≠ "stuck" /\ w ≠ "soonest" := by
 refine⟨?_,?_,?_,?_⟩ <;> (rintro rfl;exact h (by decide +kernel))
theorem GN {w:Str} (h:¬ o5 w):r6 w=IZ w:=by
 obtain⟨_,_,h3,h4⟩:=A1 w h;unfold r6 IZ;rw[Ä h3,Ä h4]
theorem Q6 {S:RunS}{w:Str}{l:List Int} (ho:¬ o5 w) (h:¬ (w∈sE/\l.length=r6 w)):kL S w l=(S,.no "row"):=by
 rw[GN ho] at h
 match l with
 | []=>
  show (S,lP S w)=_;have:lP S w=.no "row" := by
   unfold lP;rw[Ä,Ä,Ä,Ä,Ä,Ä] <;> (rintro rfl;exact h ⟨by decide +kernel,by decide +kernel⟩)
  rw[this]
 | [n]=>
  show (if w = "go" then IR S n else if w = "tips" then rD S n else (S,.no "row"))=_;rw[Ä,Ä] <;> (rintro rfl;exact h ⟨by decide +kernel,(show 1=IZ _ by decide +kernel)⟩)
 | [n,m]=>
  show (if w = "pour" then jG S n m else (S,.no "row"))=_;rw[Ä];rintro rfl;exact h ⟨by decide +kernel,(show 2=IZ _ by decide +kernel)⟩
 | _::_::_::_=>rfl
theorem CQ {S:RunS}{z:Str} (ho:¬ o5 (gX z)):jQ S z=match DR z with
  | some q=>kL S q.1 q.2
  | none=>(S,.no "row"):=by
 unfold jQ DR gX at *;generalize Txt.split z (one 32)=ws at *
 match ws with
 | []=>rfl
 | w::r=>
  have ho:¬ o5 w:=ho;show tM S (w::r)=_;unfold tM;simp only;cases hn:iQ r with
  | none=>by_cases hc:w∈sE/\r.length=r6 w <;> simp [hc]
  | some l=>
   have hl:=mU hn
   by_cases hc:w∈sE/\r.length=r6 w
   ·simp [hc]
   ·simp only [hc,if_false];exact Q6 ho (by rw[hl];exact hc)
section
variable {CD aA aN:Á}{vy Bn:List (fT×V)}
def rH (K:Ç) (cR:Á):Sp:=λ vs H Q E=>∃ (x:V) (g:G),vs=[x]/\iN K H g x/\(∀ z,g=.str z->gE z/\z.length<=100000/\¬ o5 (gX z))/\
 (∀ z wd ns p l H',g=.str z->DR z=some (wd,ns)->aJ H H'->bS K H' p [.str wd,.ref l]->H' l=some (.lst (ns.map V.int))->Q (.ref p) H')/\
 ((∀ z,g=.str z->DR z=none)->∀ H',aJ H H'->E (.ref cR) none H')
theorem BE (F:Fun K "read_row" "read_row" (aU 97) f fd) (T:Txt mg) (TS:TxtS mg) (jq:ExC K "NoRow" gu) (UA:TxtD P w K mg base C gu gr gp aA aN vy Bn)
  (kj:Callee P w K mg base "is_number" ["word"] 1 tT f1 je):FnOk P w K mg base (lW P w) 3 f fd ["row"] (rH K gu):=by
 refine F.okR ["row","word","rest","numbers"] λ sc iu A outer s H vs Q E hr h L=>?_
 ·obtain⟨x,g,rfl,ig,ze,k1,k2⟩:=h;refine⟨_,(aF (bJ (dX (cS (bE (wI (K:=K) rfl) rfl T.b_isinstance cQ (aB (pv 0) (aB (iB (v:=.ty "str") rfl TS.b_str bV rfl) aD))))) (aI (gA L rfl rfl jq.exc jq.ns ĝ (aB aK aD))) aT)
   (aF (bK (fG (K:=K) rfl ħ Ĩ gO (pv 0) (aB aK aD)) (BB (K:=K) rfl rfl (aH (gL 1 sc.nd) (BA (gL 2 sc.nd)))))
   (aF (bJ (OI λ pn=>(Ć (lO (aW (LK UA.dA) (pv 1) (cE (v:=.ref aA) rfl ⟨_,UA.mA,rfl⟩) (by rfl)) (lO (aW qL (oQ K T.b_len (pv 2)) (LD UA.dN rfl UA.mN (pv 1) aG ⟨rfl,rfl,rfl,rfl⟩) (aX _)) (jN (dX (cS (bE (kK (K:=K) rfl rfl) rfl T.b_all ŋ (aB (gN (λ _ _ h=>h) rfl (LcOk.mk (N':=["part"]) (fr:=[none]) rfl trivial rfl rfl rfl rfl rfl trivial) (dU (K:=K) rfl (pv 2)) (λ _ _ _=>(gC 0 ["part"])) (λ _ _ _=>bX) (λ _ _ _=>(bZ kj hr (aB (pv 0) aD)))) aD))))))))) (aI (gA L rfl rfl jq.exc jq.ns ĝ (aB aK aD))) aT)
   (aF (FP λ pn=>(gK (i:=3) sc.nd rfl rfl (λ _ _ h=>h) rfl (LcOk.mk (N':=["part"]) (fr:=[none]) rfl trivial rfl rfl rfl rfl rfl trivial) (dU (K:=K) rfl (pv 2)) (λ _ _ _=>(gC 0 ["part"])) (λ _ _ _=>bX) (λ _ _ _=>(aQ nW rfl T.b_int fZ (aB (pv 0) aD)))))
   (aF (bJ (Ć (rO (aW d9 (pv 1) aK (aX _)) (nK (aW oE (px K (pv 3) aG) V6 (aX _))))) (aI (gA L rfl rfl jq.exc jq.ns ĝ (aB aK aD))) aT)
   (aI (aO (bN (aB (pv 1) (aB (pv 3) aD)))))))))),?_⟩
  refine⟨_,rfl,_,"str",g,rfl,by decide,ig,_,rfl,?_⟩
  by_cases hg:∃ z,g=.str z
  rotate_left
  ·have e:SZ g "str" = false:=by
    cases g with
    | str z=>exact absurd ⟨z,rfl⟩ hg
    | _=>rfl
   rw[e];exact eX ⟨(show 1<=100 by decide),k2 (λ z h=>absurd ⟨z,h⟩ hg) _ (Ď _)⟩
  obtain⟨z,rfl⟩:=hg;obtain rfl:x=.str z:=by rw[iN] at ig;exact ig
  obtain⟨za,zl,zo⟩:=ze z rfl;clear ze;refine cX ?_;have er:DR z=match Txt.split z (one 32) with
   | []=>none
   | w::r=>if w∈sE/\r.length=r6 w then (iQ r).map λ l=>(w,l) else none:=rfl
  have pc:∀ u∈Txt.split z (one 32),gE u/\u.length<=100000:=λ u hu=>⟨fB za hu,ë (Ħ hu) zl⟩;have mx:=hV z (one 32) (by decide);have kr:=jV z 32;have ho:¬ o5 ((Txt.split z (one 32)).headD ""):=zo;refine⟨_,rfl,rfl,z," ",rfl,rfl,by decide,by lia,λ p hp=>?_⟩;rw[JS];generalize Txt.split z (one 32)=ws at pc mx kr er ho ⊢;obtain⟨wd,r,rfl⟩:=ś kr;have ho:¬ o5 wd:=ho;simp only at er;have s4:=È (o:=HO.lst ((wd::r).map V.str)) hp;have g4:upd H p (.lst ((wd::r).map V.str)) p=some (.lst (.str wd::r.map V.str)):=aE;generalize upd H p (.lst ((wd::r).map V.str))=H4 at s4 g4 ⊢;refine⟨p,.str wd,r.map V.str,rfl,É g4,by rw[Ê];simp at mx;lia,λ q hq=>⟨_,_,rfl,_,_,rfl,rfl,?_⟩⟩;have s5:=s4.trans (È (o:=HO.lst (r.map V.str)) hq);have g5:upd H4 q (.lst (r.map V.str)) q=some (.lst (r.map V.str)):=aE;dsimp only [bR];generalize upd H4 q (.lst (r.map V.str))=H5 at s5 g5 ⊢;clear s4 g4 hp hq;have vq:(r.map V.str).length=r.length:=Ê ..;have Bg:r.length<=100001:=by simp at mx;lia
  have sy:(wd∈sE->r.length=r6 wd->iQ r=none)->∀ H',aJ H H'->E (.ref gu) none H':=λ hh=>k2 λ z' e=>by
   cases e;rw[er]
   by_cases hc:wd∈sE/\r.length=r6 wd
   ·rw[Å hc,hh hc.1 hc.2];rfl
   ·rw[Ä hc]
  refine⟨_,rfl,kS wd,rfl,rfl,_,rfl,?_⟩;rw[UA.inA]
  by_cases h1:wd∈sE
  rotate_left
  ·rw[ñ h1];exact eX (eX ⟨(show 1<=100 by decide),sy (λ h=>absurd h h1) _ s5⟩)
  rw[Û h1];refine cX ⟨_,rfl,q,_,rfl,.inl (É g5),_,rfl,kS wd,rfl,?_⟩;rw[UA.inN,vq];refine⟨rfl,_,rfl,?_⟩
  by_cases h2:r.length=r6 wd
  rotate_left
  ·have e:(!decide (V.int ((r.length:Nat):Int)=V.int ((r6 wd:Nat):Int)))=true:=by
    rw[ñ (λ h=>h2 (by have:=V.int.inj h;lia))];rfl
   rw[e];exact eX (eX ⟨(show 1<=100 by decide),sy (λ _ h=>absurd h h2) _ s5⟩)
  have e:(!decide (V.int ((r.length:Nat):Int)=V.int ((r6 wd:Nat):Int)))=false:=by
   rw[Û (by rw[h2])];rfl
  rw[e];refine cX ⟨_,rfl,q,rfl,⟨_,É g5⟩,qV (K:=K) (a:=q) (xs:=r.map V.str) (λ D j ys ac H'=>H5 D=none/\aJ H5 H'/\H' D=some (.lst ys)/\ys=((r.take j).map λ u=>(bT u).isSome).map V.bl/\∃ u,ac=[u])
   (λ D j ys ac H' p=>É (p.2.1 _ _ g5)) (λ D hD=>⟨hD,È hD,aE,rfl,none,rfl⟩) ?_ ?_⟩
  rotate_left
  ·rintro D j x ys ac H' hx ⟨hD,sm,iw,rfl,u,rfl⟩;rw[Ø] at hx;obtain⟨v,hv,rfl⟩:=ð.mp hx;obtain⟨va,vl⟩:=pc v (Ô _ (Ó hv));refine⟨_,rfl,v,rfl,va,by lia,iw,?_,hD,sm.put hD,aE,?_,_,rfl⟩
   ·rw[à,Ê,Ê,î];lia
   ·rw[dG hv,Ð,Ð];rfl
  rintro D ys ac H6 ⟨hD,s6,iw,rfl,_⟩;rw[vq,ø] at iw;refine⟨false,D,r.map λ u=>(bT u).isSome,rfl,É iw,_,rfl,?_⟩;have ea:(r.map λ u=>(bT u).isSome).all id=(iQ r).isSome:=by rw[vY,List.all_map];rfl
  rw[ea];cases hn:iQ r with
  | none=>exact eX ⟨(show 1<=100 by decide),sy (λ _ _=>hn) _ (s5.trans s6)⟩
  | some l=>
   have Ac:=mU hn;refine cX ?_;have s56:=s5.trans s6;have g6:=s6 _ _ g5;dsimp only [bR];refine⟨_,rfl,q,rfl,⟨_,É g6⟩,qV (K:=K) (a:=q) (xs:=r.map V.str) (λ D j ys ac H'=>H6 D=none/\aJ H6 H'/\H' D=some (.lst ys)/\ys=(l.take j).map V.int/\∃ u,ac=[u])
    (λ D j ys ac H' p=>É (p.2.1 _ _ g6)) (λ D hD=>⟨hD,È hD,aE,rfl,none,rfl⟩) ?_ ?_⟩
   rotate_left
   ·rintro D j x ys ac H' hx ⟨hD,sm,iw,rfl,u,rfl⟩;rw[Ø] at hx;obtain⟨v,hv,rfl⟩:=ð.mp hx;obtain⟨va,vl⟩:=pc v (Ô _ (Ó hv));obtain⟨n,hnv,hln⟩:=FX hn j v hv;obtain⟨_,_,hi,h9⟩:=vA va hnv;refine⟨_,rfl,v,n,rfl,hi,by lia,iw,?_,hD,sm.put hD,aE,?_,_,rfl⟩
    ·rw[à,Ê,î];lia
    ·rw[dG hln,Ð];rfl
   rintro D2 ys ac H7 ⟨Lz,s7,Fl,rfl,_⟩;rw[vq,<- Ac,ø] at Fl;have hso:¬ (V.str wd=V.str "soonest"):=λ h=>(A1 wd ho).2.2.2 (by cases h;rfl);refine⟨_,rfl,rfl,_,rfl,?_⟩;rw[ñ hso];refine cX (cX ⟨_,rfl,_,rfl,(sz0 2),λ p7 hp7=>?_⟩);have s8:=È (o:=HO.tup [.str wd,.ref D2]) hp7;refine k1 z wd l p7 D2 _ rfl ?_ ((s56.trans s7).trans s8) (Ò aE) (s8 _ _ Fl);rw[er,Å ⟨h1,h2⟩,hn];rfl
theorem SN {e:V}:([("run",e)]:List (Str×V)).lookup ("run" : Str)=some e:=rfl
structure DeskTx2 (K:Ç) (CD:Á):Prop where
 cls:Cls K CD
 run:jA K CD "run"
def K9 (K:Ç) (C CD cR cM cV:Á):Sp:=λ vs H Q E=>∃ (dk dx e:Á) (x:V) (g:G) (S:RunS) (fp:List Á) (d:Nat),vs=[.ref dk,x]/\H dk=some (.ins CD dx [("run",.ref e)])/\cB K C H e S fp/\Rn S d/\d<=1000/\iN K H g x/\
 (∀ z,g=.str z->gE z/\z.length<=100000/\¬ o5 (gX z))/\
 (∀ z S' y,g=.str z->jQ S z=(S',.told y)->∀ H',iI fp H H'->cB K C H' e S' fp->Q (.str y) H')/\
 (∀ z S' wr,g=.str z->jQ S z=(S',.no wr)->∀ H',aJ H H'->E (.ref (NI cR cM cV wr)) none H')/\((∀ z,g≠.str z)->∀ H',aJ H H'->E (.ref cR) none H')
theorem Q7 {z wd:Str}{ns:List Int} (h:DR z=some (wd,ns)) (ha:gE z) (ho:¬ o5 (gX z)):¬ o5 wd/\ns.length=IZ wd/\wd∈sE/\∀ n∈ns,0<=n/\n < 10 ^ 9:=by
 unfold DR at h;unfold gX at ho;have hs:∀ u∈Txt.split z (one 32),gE u:=λ u hu=>fB ha hu;generalize Txt.split z (one 32)=ws at *
 match ws with
 | []=>cases h
 | w::r=>
  simp only at h
  split at h
  ·rename_i hc
   obtain⟨l,hl,e⟩:=ð.mp h;cases e;have ho:¬ o5 wd:=ho;exact⟨ho,by rw[<- GN ho,<- hc.2];exact mU hl,hc.1,tW (λ u hu=>hs u (Ô _ hu)) hl⟩
  ·cases h
theorem SF (F:Fun K "say" "Desk.say" (bF (aU 96) 1) f fd) (T:Txt mg) (tx:DeskTx2 K CD) (UA:TxtD P w K mg base C gu gr gp aA aN vy Bn)
  (kf:CalleeR P w K mg base "read_row" ["row"] 3 (rH K gu) f1 je):FnOk P w K mg base (lW P w) 10 f fd ["self","row"] (K9 K C CD gu gr gp):=by
 refine F.okR ["self","row","word","numbers","answer"] λ sc iu A outer s H vs Q E hr h L=>?_
 ·obtain⟨dk,dx,e,x,g,S,fp,d,rfl,hi,ra,rn,hd,ig,hz,k1,k2,k3⟩:=h;refine⟨_,(aF (bK (dL kf.ok (hr.mono (by decide)) rfl kf.mg kf.kp kf.bd .nil (cY L) (aB (pv 1) aD)) (bC (K:=K) (n:=2) rfl rfl (aH (gL 2 sc.nd) (aH (gL 3 sc.nd) bA))))
   (aF (pL 4 sc.nd (OU UA.dA rfl UA.mA (pv 2)))
   (aI (aO (LG UA.hR (hr.mono (by decide)) (cY L) (i:=4) rfl (.inl rfl) (aB (dF (K:=K) rfl (pv 0) rfl) (aB (pv 3) aD))))))),?_⟩
  refine⟨_,rfl,x,g,rfl,ig,hz,λ z wd ns p l H1 eg er s1 qp hl=>?_,λ hN H1 s1=>?_⟩;rotate_left
  ·by_cases hg:∃ z,g=.str z
   ·obtain⟨z,rfl⟩:=hg;have ea:=CQ (S:=S) (hz z rfl).2.2;rw[hN z rfl] at ea;exact k2 z S "row" rfl ea H1 s1
   ·exact k3 (λ z e=>hg ⟨z,e⟩) H1 s1
  obtain⟨za,zl,zo⟩:=hz z eg;obtain⟨ho,hc,hw,hn⟩:=Q7 er za zo;have ea:=CQ (S:=S) zo;rw[er] at ea;have ea:jQ S z=kL S wd ns:=ea;obtain⟨v,hv⟩:∃ v,fJ vy (kS wd)=some v:=Option.isSome_iff_exists.mp (by rw[UA.inA,Û hw]);obtain⟨f2,ju,rfl,_⟩:=UA.fn wd v hv ho;refine⟨p,_,rfl,qp,rfl,_,_,rfl,_,_,rfl,rfl,?_⟩;refine⟨_,rfl,kS wd,_,rfl,hv,?_⟩;refine⟨f2,_,rfl,⟨wd,hv,ho,rfl⟩,_,rfl,dk,CD,dx,_,_,rfl,s1 _ _ hi,tx.cls,tx.run,SN,_,rfl,?_⟩;refine⟨e,l,S,fp,ns,d,rfl,ra.same s1,rn,hd,hl,hn,hc,λ S' y h H' b zd=>k1 z S' y eg (ea.trans h) H' (s1.butL.trans b) zd,λ S' wr h=>k2 z S' wr eg (ea.trans h) H1 s1⟩
end
end Tw
namespace L2
open PySem PySem.Spec PyProof.Rows TwZ
section
variable {X:Cx}{gn:List (Á×Obj)}{σ:St}{H:Hp}{s:Â}
def V3 (K:Ç):R2:=λ x y H Q=>∃ (a b:Á) (xs:List V),x=.ref a/\y=.ref b/\bS K H a xs/\bS K H b []/\Q (.bl (decide (xs.length=0))) H
theorem LM {K:Ç} (hK:X.K=K) (hu:X.A.units+64 < cLine):iW X (compareOp .Eq) (V3 K):=by
 subst hK;intro gn s σ H x y v u Q I rx ry h;obtain⟨a,b,xs,rfl,rfl,q1,q2,q⟩:=h;cases rx;cases ry;obtain⟨us,r1,p1,_⟩:=I.tuple q1;obtain⟨vs,r2,p2,_⟩:=I.tuple q2;have e1:=r1.length;cases r2;refine SeqAt.eq_tupleAt (e:=λ _=>true) p1 p2 (by lia) (λ j h1 h2=>absurd h2 (Nat.not_lt_zero _)) ⟨.bl _,H,I,rfl,?_⟩;rw[show ((List.range (min us.toArray.size (#[]:Array À).size)).all (λ _=>true) && us.toArray.size == (#[]:Array À).size)=decide (xs.length=0) by rw[e1];cases us <;> rfl];exact q
def HC (H:Hp) (z:Str) (n:Int):À->Bool
 | .ref b=>match H b with
  | some (.lst [.str c,.int d])=>c == z && d == n
  | _=>false
 | _=>false
def RW (K:Ç):R2:=λ x y H Q=>∃ (a p:Á) (z:Str) (n:Int) (ts:List (Á×Str×Int)),x=.ref a/\y=.ref p/\H a=some (.lst [.str z,.int n])/\H p=some (.lst (ts.map λ t=>.ref t.1))/\
 (∀ t∈ts,H t.1=some (.lst [.str t.2.1,.int t.2.2]))/\Q (.bl (!ts.any λ t=>t.2.1 == z && t.2.2 == n)) H
theorem HU {K:Ç} (hK:X.K=K) (hu:X.A.units+64 < cLine):iW X (compareOp .NotIn) (RW K):=by
 subst hK;intro gn s σ H x y v u Q I rx ry h;obtain⟨a,p,z,n,ts,rfl,rfl,h1,h2,ht,q⟩:=h;cases rx;cases ry;have uq:X.A.in1.units=X.A.units+1:=rfl;have hin2:X.A.in1.in1.units=X.A.units+2:=rfl;obtain⟨us,r,pl,-⟩:=I.list (É h2);have eu:∀ (ts:List (Á×Str×Int)) (us:List À),bG (ts.map λ t=>.ref t.1) us->us=ts.map λ t=>Value.ref t.1:=λ ts=>by
  induction ts with
  | nil=>intro us r;cases r;rfl
  | cons t ts ih=>intro us r;cases r with | cons r1 r2=>cases r1;rw[ih _ r2];rfl
 have eu:=eu _ _ r;subst eu;obtain⟨ws,rw1,pw,_⟩:=I.list (É h1);cases rw1 with | cons ra rr=>cases rr with | cons rb rn=>cases rn;obtain⟨ta,rfl⟩:=ra;obtain⟨tb,rfl⟩:=rb;exact (by
  have ev:∀ t∈ts,HC H z n (.ref t.1)=(t.2.1 == z && t.2.2 == n):=λ t m=>by unfold HC;simp only [ht t m]
  refine SeqAt.notIn_listAt (HC H z n) pl.isList (λ y hy=>?_) ⟨.bl _,H,I,rfl,?_⟩
  ·obtain⟨t,m,rfl⟩:=ä.mp (List.mem_toArray.mp hy);rw[ev t m];obtain⟨vs,rv,pv,_⟩:=I.list (É (ht t m));cases rv with | cons qa qr=>cases qr with | cons qb qn=>cases qn;obtain⟨tc,rfl⟩:=qa;obtain⟨td,rfl⟩:=qb;exact (by
    by_cases xo:t.1=a
    ·have e:=ht t m;rw[xo,h1] at e;obtain⟨e1,e2⟩:z=t.2.1/\n=t.2.2:=by simpa using e
     rw[<- e1,<- e2,xo,agd,agd];exact ĵ _
    refine SeqAt.EqAt.of_refs xo ?_;have:=SeqAt.RcAt.lists (A:=X.A.in1) (e:=λ j=>if j=0 then t.2.1 == z else t.2.2 == n) pv.isList pw.isList rfl (by lia) (λ j g1 g2=>by
     match j,g1,g2 with
     | 0,_,_=>exact afi _ _ _ _
     | 1,_,_=>exact afh _ _ _ _)
    simpa [List.range,List.range.loop] using this)
  ·rw[show (!(ts.map λ t=>Value.ref t.1).toArray.any (HC H z n))=(!ts.any λ t=>t.2.1 == z && t.2.2 == n) by
    rw[show (ts.map λ t=>Value.ref t.1).toArray.any (HC H z n)=(ts.map λ t=>Value.ref t.1).any (HC H z n) by simp,List.any_map];congr 1;clear h2 q pl r ht
    induction ts with
    | nil=>rfl
    | cons t ts ih=>rw[ē,ē,ih (λ t m=>ev t (.tail _ m)),Function.comp,ev t (.head _)]]
   exact q)
end
end L2
namespace Tw
open PySem L2
def yQ:Sp:=λ vs H Q _=>∃ t:Option Int,vs=[kO t]/\AK t/\∀ H',aJ H H'->Q (.str (cO t)) H'
theorem zX (F:Fun K "_law_goal" "_law_goal" (aU 104) f fd) (T:Txt mg) (TS:TxtS mg):FnOk P w K mg base gP 1 f fd ["target"] yQ:=by
 refine F.ok ["target"] λ sc iu A outer s H vs Q E hr h=>?_
 ·obtain⟨t,rfl,ht,k⟩:=h;refine⟨_,(aI (aO (px K (aZ (aB (aQ bP rfl TS.b_str bV (aB (pv 0) aD)) (aB aK aD))) (aQ fA rfl T.b_int fZ (aB (fH vG (pv 0) fY (aX _)) aD))))),?_⟩;cases t with
  | none=>exact⟨_,rfl,.non,"None",rfl,rfl,(sz0 2),λ l hl=>⟨_,rfl,rfl,.inr ⟨_,rfl,.inl ⟨l,_,1,_,rfl,rfl,É aE,rfl,k _ (È hl)⟩⟩⟩⟩
  | some i=>exact⟨_,rfl,.int i,aR i,rfl,dS (ht i rfl).1 (ht i rfl).2,(sz0 2),λ l hl=>⟨_,rfl,rfl,.inr ⟨_,rfl,.inl ⟨l,_,0,_,rfl,rfl,É aE,rfl,k _ (È hl)⟩⟩⟩⟩
def tR (K:Ç):Sp:=λ vs H Q _=>∃ (x:V) (net:Net),vs=[x]/\Is K H (iT net) x/\NetIn net/\∀ H',aJ H H'->Q (.str (qP net)) H'
theorem OX (o:Option Int×Int):cO o.1 ++ "*" ++ aR o.2=lU o:=by unfold lU;rw[w_s]
theorem QB (a:Str×Int):a.1 ++ "." ++ aR a.2=iL a:=by unfold iL;rw[w_p]
theorem zR (F:Fun K "_law_text" "_law_text" (aU 105) f fd) (T:Txt mg) (TS:TxtS mg) (mj:Callee P w K mg base "_law_goal" ["target"] 1 yQ f1 je):FnOk P w K mg base gP 2 f fd ["net"] (tR K):=by
 refine F.ok ["net","rows","size","brim","outs","holds","spill","acts","words","target","flow","is_open"] λ sc iu A outer s H vs Q E hr h=>?_
 ·obtain⟨x,net,rfl,hx,hi,k⟩:=h;refine⟨_,(aF (pL 1 sc.nd (aZ aD))
   (aF (dY þ rfl (cU (K:=K) rfl (px K (pv 0) aG)) (bC (K:=K) (n:=6) rfl rfl (aH (gL 2 sc.nd) (aH (gL 3 sc.nd) (aH (gL 4 sc.nd) (aH (gL 5 sc.nd) (aH (gL 6 sc.nd) (aH (gL 7 sc.nd) bA))))))) (aF (pL 8 sc.nd (aZ (aB aK (aB (aQ bP rfl TS.b_str bV (aB (pv 2) aD)) (aB (aQ bP rfl TS.b_str bV (aB (pv 3) aD)) (aB (fG (K:=K) rfl Č č (cZ (K:=K) rfl) aK (aB (gN (λ _ _ h=>h) rfl (LcOk.mk (N':=["out"]) (fr:=[none]) rfl trivial rfl rfl rfl rfl rfl trivial) (cU (K:=K) rfl (pv 4)) (λ _ _ _=>(gC 0 ["out"])) (λ _ _ _=>bX) (λ _ _ _=>(aS eF (aS eF (bZ mj hr (aB (px K (pv 0) aG) aD)) aK) (aQ bP rfl TS.b_str bV (aB (px K (pv 0) aG) aD))))) aD)) aD))))))
   (aF (pL 8 sc.nd (aS mS (pv 8) (aZ (aB (px K (aZ (aB aK (aB aK aD))) (aQ fA rfl T.b_int fZ (aB (pv 5) aD))) (aB (bZ mj hr (aB (pv 6) aD)) aD)))))
   (aF (bQ (dH (K:=K) rfl ó Ā ā cD (pv 8) (aB (fG (K:=K) rfl Č č (cZ (K:=K) rfl) aK (aB (gN (λ _ _ h=>h) rfl (LcOk.mk (N':=["word","spout"]) (fr:=[none,none]) rfl trivial rfl rfl rfl rfl rfl trivial) (cU (K:=K) rfl (pv 7)) (λ _ _ _=>(bC (K:=K) (n:=2) rfl rfl (aH (gC 0 ["word","spout"]) (aH (gC 1 ["word","spout"]) bA)))) (λ _ _ _=>bX) (λ _ _ _=>(aS eF (aS eF (pv 0) aK) (aQ bP rfl TS.b_str bV (aB (pv 1) aD))))) aD)) aD)))
   (aF (bJ (aW (LM (K:=K) rfl hr.units) (pv 7) (bN aD) (aX _)) (aI (bK aK (j4 (pv 8) (qI kP aG) eO))) aT)
   (aI (bQ (dH (K:=K) rfl ó Ā ā cD (pv 1) (aB (fG (K:=K) rfl Č č (cZ (K:=K) rfl) aK (aB (pv 8) aD)) aD)))))))))
   (aF (dY þ rfl (cU (K:=K) rfl (px K (pv 0) aG)) (bC (K:=K) (n:=3) rfl rfl (aH (gL 9 sc.nd) (aH (gL 10 sc.nd) (aH (gL 11 sc.nd) bA)))) (aI (bQ (dH (K:=K) rfl ó Ā ā cD (pv 1) (aB (fG (K:=K) rfl Č č (cZ (K:=K) rfl) aK (aB (aZ (aB aK (aB (aQ bP rfl TS.b_str bV (aB (pv 9) aD)) (aB (aQ bP rfl TS.b_str bV (aB (pv 10) aD)) (aB (px K (aZ (aB aK (aB aK aD))) (aQ fA rfl T.b_int fZ (aB (pv 11) aD))) aD))))) aD)) aD)))))
   (aI (aO (fG (K:=K) rfl Č č (cZ (K:=K) rfl) aK (aB (pv 1) aD))))))),?_⟩
  obtain⟨na,nb,nc,xs,ys,rfl,qn,q1,l1,q2,l2⟩:=j5 hx;have e1:xs.length=net.vs.length:=by rw[l1.length,Ê]
  have e2:ys.length=net.sps.length:=by rw[l2.length,Ê]
  have v12:=hi.v12;have s12:=hi.s12;refine⟨ê _,λ rl vq=>?_⟩;have s0:=È (o:=HO.lst []) vq;have g0:upd H rl (.lst []) rl=some (.lst []):=aE;generalize upd H rl (.lst [])=H0 at s0 g0 ⊢;dsimp only [bL,bR];refine uW (λ ac H'=>aJ H H'/\H' rl=some (.lst ((net.vs.map jL).map V.str))/\∃ v2 v3 v4 v5 v6 v7 v8,ac=[some (.ref na),some (.ref rl),v2,v3,v4,v5,v6,v7,v8,none,none,none]) (λ D' Cr=>?_) ?_
  ·refine⟨_,rfl,.inr (.inl ⟨na,_,0,_,rfl,rfl,s0.tup qn,rfl,nb,rfl,⟨_,s0.tup q1⟩,qZ (K:=K) (a:=nb) (xs:=xs) (λ i ac H'=>aJ H H'/\H' rl=some (.lst (((net.vs.take i).map jL).map V.str))/\∃ v2 v3 v4 v5 v6 v7 v8,ac=[some (.ref na),some (.ref rl),v2,v3,v4,v5,v6,v7,v8,none,none,none])
    ⟨s0,g0,_,_,_,_,_,_,_,rfl⟩ (λ i ac H' _ p=>p.1.tup q1) ?_ ?_⟩)⟩
   rotate_left
   ·rintro ac H1 ⟨s1,h1,v2,v3,v4,v5,v6,v7,v8,rfl⟩;rw[e1,õ (Í _)] at h1;exact Cr _ _ ⟨s1,h1,_,_,_,_,_,_,_,rfl⟩
   rintro i y ac H1 hy ⟨s1,h1,v2,v3,v4,v5,v6,v7,v8,rfl⟩;obtain⟨d,hd,iy⟩:=l1.get' hy;rw[Ø] at hd;obtain⟨v,hv,rfl⟩:=ð.mp hd;have vz:=hi.vs v (Ó hv);obtain⟨va,o,c,rfl,qv,ho,hc⟩:=AU (Ï s1.ts _ _ iy);obtain⟨oa,os,rfl,qo,lo⟩:=ho.un;obtain⟨ca,cs,rfl,qc,lc⟩:=hc.un;have Lg:os.length=v.outs.length:=by rw[lo.length,Ê]
   have Bh:cs.length=v.acts.length:=by rw[lc.length,Ê]
   have o3:=vz.o3;have a3:=vz.a3;refine⟨va,_,rfl,qv,rfl,_,_,rfl,_,_,rfl,_,_,rfl,_,_,rfl,_,_,rfl,_,_,rfl,rfl,?_⟩;dsimp only [bL,bR];refine⟨_,rfl,.int v.size,_,rfl,dS vz.s0 vz.s1,_,rfl,.int v.brim,_,rfl,dS vz.b0 vz.b1,rfl,_,rfl,oa,rfl,⟨_,qo⟩,fN (K:=K) (a:=oa) (xs:=os) (λ D i r ac H'=>H1 D=none/\aJ H1 H'/\H' D=some (.lst r)/\r=((v.outs.take i).map lU).map V.str/\∃ u1,ac=[u1])
    (λ D i r ac H' p=>p.2.1.tup qo) (λ D hD=>⟨hD,È hD,aE,rfl,none,rfl⟩) ?_ ?_⟩
   rotate_left
   ·rintro D j y r ac H2 hy ⟨hD,sm,iw,rfl,u1,rfl⟩;obtain⟨t,ht,ta,rfl,qt⟩:=qJ lo hy;have ti:=vz.os t (Ó ht);have lg:=qU ti.tg;have ln:=gF ti.lo ti.hi;refine⟨_,rfl,.inr (.inl ⟨ta,_,0,_,rfl,rfl,sm.tup qt,rfl,t.1,rfl,ti.tg,λ H3 s3=>⟨_,_,rfl,rfl,(show (cO t.1).length+1<=1000000 by lia),?_⟩⟩)⟩;refine⟨_,rfl,.inr (.inl ⟨ta,_,1,_,rfl,rfl,(sm.trans s3).tup qt,rfl,.int t.2,_,rfl,dS ti.lo ti.hi,_,_,rfl,rfl,?_,?_⟩)⟩
    ·rw[ù];show (cO t.1).length+1+_<=1000000;lia
    ·refine⟨s3 _ _ iw,bD (by rw[Ê,Ê,î];lia),hD,(sm.trans s3).put hD,aE,?_,_,rfl⟩;rw[Ĥ,ht,Ð,Ð,OX];rfl
   rintro D1 r ac H2 ⟨Rk,s2,qg,rfl,_⟩;rw[Lg,õ (Í _)] at qg;have ej:Str.join "," (v.outs.map lU)=dI v.outs:=by rw[U0];rfl
   refine⟨",",D1,v.outs.map lU,rfl,rfl,É qg,jI (B:=19) (λ a ha=>by obtain⟨o,ho,rfl⟩:=ä.mp ha;exact A6 (vz.os o ho)) (by decide) (by rw[Ê];lia),(sz0 4),λ wl mx=>?_⟩;rw[ej];have s3:=È (o:=HO.lst [.str "vessel",.str (aR v.size),.str (aR v.brim),.str (dI v.outs)]) mx;have g3:upd H2 wl (.lst [.str "vessel",.str (aR v.size),.str (aR v.brim),.str (dI v.outs)]) wl=some (.lst [.str "vessel",.str (aR v.size),.str (aR v.brim),.str (dI v.outs)]):=aE;have Cn:=s2.trans s3;generalize upd H2 wl (.lst [.str "vessel",.str (aR v.size),.str (aR v.brim),.str (dI v.outs)])=H3 at s3 g3 Cn ⊢;dsimp only [bL,bR];refine⟨_,rfl,(sz0 2),λ l4 vp=>⟨_,rfl,.inr ⟨_,rfl,.inl ⟨l4,_,_,.str (eR v.holds),rfl,rfl,É aE,by cases v.holds <;> rfl,?_⟩⟩⟩⟩;have s4:=Cn.trans (È (o:=HO.lst [.str "loses",.str "holds"]) vp);have g4:=È (o:=HO.lst [.str "loses",.str "holds"]) vp _ _ g3;generalize upd H3 l4 (.lst [.str "loses",.str "holds"])=H4 at s4 g4 ⊢;refine⟨_,rfl,v.spill,rfl,vz.sp,λ H5 s5=>⟨(sz0 2),λ l6 Ma=>⟨wl,l6,_,_,rfl,rfl,È Ma _ _ (s5 _ _ g4),aE,(sz0 6),λ w2 Kw=>?_⟩⟩⟩;have s6:=(s4.trans s5).trans ((È (o:=HO.lst [.str (eR v.holds),.str (cO v.spill)]) Ma).trans (È (o:=HO.lst [.str "vessel",.str (aR v.size),.str (aR v.brim),.str (dI v.outs),.str (eR v.holds),.str (cO v.spill)]) Kw));have fw:H1 w2=none:=((s4.trans s5).trans (È (o:=HO.lst [.str (eR v.holds),.str (cO v.spill)]) Ma)).free Kw;have g6:upd (upd H5 l6 (.lst [.str (eR v.holds),.str (cO v.spill)])) w2 (.lst [.str "vessel",.str (aR v.size),.str (aR v.brim),.str (dI v.outs),.str (eR v.holds),.str (cO v.spill)]) w2=some (.lst [.str "vessel",.str (aR v.size),.str (aR v.brim),.str (dI v.outs),.str (eR v.holds),.str (cO v.spill)]):=aE;dsimp only [bL,bR];show gZ _ _ _ _ (upd (upd H5 l6 (.lst [.str (eR v.holds),.str (cO v.spill)])) w2 (.lst [.str "vessel",.str (aR v.size),.str (aR v.brim),.str (dI v.outs),.str (eR v.holds),.str (cO v.spill)]));generalize upd (upd H5 l6 (.lst [.str (eR v.holds),.str (cO v.spill)])) w2 (.lst [.str "vessel",.str (aR v.size),.str (aR v.brim),.str (dI v.outs),.str (eR v.holds),.str (cO v.spill)])=H6 at s6 g6 ⊢;clear s5 Ma Kw s4 g4 vp Cn g3 s3 s2 qg Rk;have nwr:rl≠w2:=aP h1 fw;have Ro:=s6.tup qc;refine⟨_,rfl,.inl ⟨rfl,_,É g6⟩,rfl,_,rfl,ca,rfl,⟨_,Ro⟩,fN (K:=K) (a:=ca) (xs:=cs) (λ D i r ac H'=>H6 D=none/\aJ H6 H'/\H' D=some (.lst r)/\r=((v.acts.take i).map iL).map V.str/\∃ u1 u2,ac=[u1,u2])
    (λ D i r ac H' p=>p.2.1.tup Ro) (λ D hD=>⟨hD,È hD,aE,rfl,none,none,rfl⟩) ?_ ?_⟩
   rotate_left
   ·rintro D j y r ac H7 hy ⟨hD,sm,iw,rfl,u1,u2,rfl⟩;obtain⟨t,ht,ta,rfl,qt⟩:=rA lc hy;have ti:=vz.as t (Ó ht);have lg:=MF ti;have ln:=gF ti.lo ti.hi;refine⟨ta,_,rfl,(s6.trans sm).tup qt,rfl,_,_,rfl,_,_,rfl,rfl,?_⟩;refine⟨_,rfl,_,_,rfl,rfl,(show t.1.length+1<=1000000 by lia),_,rfl,.int t.2,_,rfl,dS ti.lo ti.hi,_,_,rfl,rfl,?_,?_⟩
    ·rw[ù];show t.1.length+1+_<=1000000;lia
    ·refine⟨iw,bD (by rw[Ê,Ê,î];lia),hD,sm.put hD,aE,?_,_,_,rfl⟩;rw[Ĥ,ht,Ð,Ð,QB];rfl
   rintro D2 r ac H7 ⟨Lz,s7,qh,rfl,_⟩;rw[Bh,õ (Í _)] at qh;refine⟨",",D2,v.acts.map iL,rfl,rfl,É qh,jI (B:=19) (λ a ha=>by obtain⟨o,ho,rfl⟩:=ä.mp ha;exact A7 (vz.as o ho)) (by decide) (by rw[Ê];lia),w2,_,_,rfl,rfl,s7 _ _ g6,bD (show 6<=1000 by decide),?_⟩;have s8:=(s6.trans s7).put (o:=HO.lst [.str "vessel",.str (aR v.size),.str (aR v.brim),.str (dI v.outs),.str (eR v.holds),.str (cO v.spill),.str (Str.join "," (v.acts.map iL))]) fw;have g8:upd H7 w2 (.lst [.str "vessel",.str (aR v.size),.str (aR v.brim),.str (dI v.outs),.str (eR v.holds),.str (cO v.spill),.str (Str.join "," (v.acts.map iL))]) w2=some (.lst [.str "vessel",.str (aR v.size),.str (aR v.brim),.str (dI v.outs),.str (eR v.holds),.str (cO v.spill),.str (Str.join "," (v.acts.map iL))]):=aE;dsimp only [bL,bR];show gZ _ _ _ _ (upd H7 w2 (.lst [.str "vessel",.str (aR v.size),.str (aR v.brim),.str (dI v.outs),.str (eR v.holds),.str (cO v.spill),.str (Str.join "," (v.acts.map iL))]));generalize upd H7 w2 (.lst [.str "vessel",.str (aR v.size),.str (aR v.brim),.str (dI v.outs),.str (eR v.holds),.str (cO v.spill),.str (Str.join "," (v.acts.map iL))])=H8 at s8 g8 ⊢;clear s6 g6 Ro s7 qh Lz;refine uW (λ ac H'=>aJ H1 H'/\H' w2=some (.lst ((("vessel" : Str)::pH v).map V.str))/\ac=[some (.ref na),some (.ref rl),some (.int v.size),some (.int v.brim),some (.ref oa),some (.bl v.holds),some (kO v.spill),some (.ref ca),some (.ref w2),none,none,none]) (λ D2' Fm=>?_) ?_
   ·refine⟨_,rfl,ê _,λ pt hpt=>⟨_,pt,_,rfl,rfl,(s8.trans (È hpt)).tup qc,Ò aE,_,rfl,?_⟩⟩;rw[Bh,show decide (v.acts.length=0)=decide (v.acts=[]) by cases v.acts <;> simp];have s9:=È (o:=HO.tup []) hpt;have g9:=s9 _ _ g8;generalize upd H8 pt (.tup [])=H9 at s9 g9 ⊢;refine eA (λ hT=>?_) λ hT=>?_
    ·have hT:=è hT;refine⟨_,rfl,1,rfl,w2,_,-1,6,rfl,rfl,g9,rfl,Fm _ _ ⟨(s8.trans s9).put fw,?_,rfl⟩⟩;rw[aE];show some (HO.lst [V.str "vessel",.str (aR v.size),.str (aR v.brim),.str (dI v.outs),.str (eR v.holds),.str (cO v.spill),.str "-"])=_;rw[show pH v=[aR v.size,aR v.brim,dI v.outs,eR v.holds,cO v.spill,fI v.acts] from rfl,show fI v.acts = "-" from Å hT];rfl
    ·have hT:¬ v.acts=[]:=λ h=>hT (Û h);refine Fm _ _ ⟨s8.trans s9,?_,rfl⟩;rw[g9,show pH v=[aR v.size,aR v.brim,dI v.outs,eR v.holds,cO v.spill,fI v.acts] from rfl,show fI v.acts=Str.join (one 44) (v.acts.map iL) from Ä hT,U0];rfl
   rintro ac H9 ⟨s9,g9,rfl⟩;have h9:=s9 _ _ h1;have ew:Str.join " " (("vessel" : Str)::pH v)=jL v:=by rw[JS];rfl
   refine⟨_,rfl,.inl ⟨rfl,_,É h9⟩,rfl,_,rfl," ",w2,("vessel" : Str)::pH v,rfl,rfl,É g9,jI (BR vz) (by decide) (show 7 * 60+7<=1000000 by decide),rl,_,_,rfl,rfl,h9,bD (by rw[Ê,Ê,î];lia),?_⟩;rw[ew];refine⟨(s1.trans s9).put vq,?_,_,_,_,_,_,_,_,rfl⟩;rw[aE,dG hv,Ð,Ð];rfl
  rintro ac H1 ⟨s1,h1,v2,v3,v4,v5,v6,v7,v8,rfl⟩;refine uW (λ ac H'=>aJ H H'/\H' rl=some (.lst ((net.vs.map jL++net.sps.map kQ).map V.str))/\∃ v2 v3 v4 v5 v6 v7 v8 v9 km lb,ac=[some (.ref na),some (.ref rl),v2,v3,v4,v5,v6,v7,v8,v9,km,lb]) (λ D' Cr=>?_) ?_
  ·refine⟨_,rfl,.inr (.inl ⟨na,_,1,_,rfl,rfl,s1.tup qn,rfl,nc,rfl,⟨_,s1.tup q2⟩,qZ (K:=K) (a:=nc) (xs:=ys) (λ i ac H'=>aJ H H'/\H' rl=some (.lst ((net.vs.map jL++(net.sps.take i).map kQ).map V.str))/\∃ v2 v3 v4 v5 v6 v7 v8 v9 km lb,ac=[some (.ref na),some (.ref rl),v2,v3,v4,v5,v6,v7,v8,v9,km,lb])
    ⟨s1,by rw[h1];simp,_,_,_,_,_,_,_,_,_,_,rfl⟩ (λ i ac H' _ p=>p.1.tup q2) ?_ ?_⟩)⟩
   rotate_left
   ·rintro ac H2 ⟨s2,h2,v2,v3,v4,v5,v6,v7,v8,v9,km,lb,rfl⟩;rw[e2,õ (Í _)] at h2;exact Cr _ _ ⟨s2,h2,_,_,_,_,_,_,_,_,_,_,rfl⟩
   rintro i y ac H2 hy ⟨s2,h2,v2,v3,v4,v5,v6,v7,v8,v9,km,lb,rfl⟩;obtain⟨d,hd,iy⟩:=l2.get' hy;rw[Ø] at hd;obtain⟨sp,hv,rfl⟩:=ð.mp hd;have rh:=hi.sps sp (Ó hv);obtain⟨a,zs,rfl,q,lx⟩:=(show Is K H (.tup [.int sp.1,.int sp.2.1,.bl sp.2.2]) y from iy).un;obtain⟨x1,r,rfl,j1,lx⟩:=lx.un;obtain⟨x2,r,rfl,j2,lx⟩:=lx.un;obtain⟨x3,r,rfl,j3,lx⟩:=lx.un;have:=lx.un0;subst this;have f1:=j1.ui;have f2:=j2.ui;have f3:=j3.ub;subst f1 f2 f3;refine⟨a,_,rfl,s2.tup q,rfl,_,_,rfl,_,_,rfl,_,_,rfl,rfl,?_⟩;dsimp only [bL,bR];refine⟨_,rfl,.inl ⟨rfl,_,É h2⟩,rfl,_,rfl,.int sp.1,_,rfl,dS rh.t0 rh.t1,_,rfl,.int sp.2.1,_,rfl,dS rh.f0 rh.f1,(sz0 2),λ l3 Ec=>?_⟩;refine⟨_,rfl,.inr ⟨_,rfl,.inl ⟨l3,_,_,.str (fP sp.2.2),rfl,rfl,É aE,by cases sp.2.2 <;> rfl,(sz0 4),λ l4 vp=>?_⟩⟩⟩;have s4:=(È (o:=HO.lst [.str "shut",.str "open"]) Ec).trans (È (o:=HO.lst [.str "spout",.str (aR sp.1),.str (aR sp.2.1),.str (fP sp.2.2)]) vp);have g4:upd (upd H2 l3 (.lst [.str "shut",.str "open"])) l4 (.lst [.str "spout",.str (aR sp.1),.str (aR sp.2.1),.str (fP sp.2.2)]) l4=some (.lst ((("spout" : Str)::tE sp).map V.str)):=aE;have ew:Str.join " " (("spout" : Str)::tE sp)=kQ sp:=by rw[JS];rfl
   refine⟨" ",l4,("spout" : Str)::tE sp,rfl,rfl,É g4,jI (BS rh) (by decide) (show 4 * 60+4<=1000000 by decide),rl,_,_,rfl,rfl,s4 _ _ h2,bD (by rw[Ê,â,Ê,Ê,î];lia),?_⟩;rw[ew];refine⟨(s2.trans s4).put vq,?_,_,_,_,_,_,_,_,_,_,_,rfl⟩;rw[aE,dG hv,Ð,Ð,Ð,Ð,Ļ];rfl
  rintro ac H2 ⟨s2,h2,v2,v3,v4,v5,v6,v7,v8,v9,km,lb,rfl⟩;have e3:Str.join "\n" (net.vs.map jL++net.sps.map kQ)=qP net:=by rw[TZ];rfl
  refine⟨rfl,_,rfl,"\n",rl,net.vs.map jL++net.sps.map kQ,rfl,rfl,É h2,jI (rW hi) (by decide) (by rw[â,Ê,Ê];lia),?_⟩;rw[e3];exact k _ s2
section
variable {aw:Á}
end
section
variable {ak:Type}(dD:ak->L2.D)(nxt:ak->Int->ak)(fin:ak->Int->Bool)(mm Pa:Nat)
variable {dD nxt fin mm Pa}
end
end Tw
namespace HT
open PySem PySem.Spec PyProof.Rows L2
section
variable {prog:Ã}{A:Around}{E:À->Â->Prop}{s:Â}
end
end HT
namespace L2
open PySem
section
variable {X:Cx}
end
end L2
namespace Tw
open PySem L2
theorem Ext.sm {t sl:Á}{H H1 H2:Hp} (e:Ext t sl H H1) (s:aJ H1 H2):Ext t sl H H2:=⟨e.bt.trans s.but,e.tp.same s⟩
end Tw
namespace HT
open PySem PySem.Spec PyProof.Rows L2
section
variable {prog:Ã}{A:Around}{E:À->Â->Prop}{s:Â}
end
end HT
namespace L2
open PySem PySem.Spec PyProof.Rows
section
variable {X:Cx}{e st:Expr}{te:TE}{pos p2:Pos}
end
end L2
namespace Tw
open PySem L2
section
variable {aw:Á}
end
section
variable {aw t:Á}
structure MkG (K:Ç) (t:Á) (g:G) (te:TE):Prop where
 h:∀ σ H (Q:V->Hp->Prop),(∃ q,H t=some (.lst q))->(∀ v H',aJ H H'->iN K (sB t H') g v->Q v H')->te σ H Q
structure MkGL (K:Ç) (t:Á) (gs:List G) (ta:TA):Prop where
 h:∀ σ H (Q:List V->Hp->Prop),(∃ q,H t=some (.lst q))->(∀ vs H',aJ H H'->eE K (sB t H') gs vs->Q vs H')->ta σ H Q
theorem mk_i {i:Int}:MkG K t (.int i) (tC (.int i)):=⟨λ σ H Q _ k=>k _ H (Ď _) (.i _)⟩
theorem mk_b {i:Bool}:MkG K t (.bl i) (tC (.bl i)):=⟨λ σ H Q _ k=>k _ H (Ď _) (.b _)⟩
theorem mk_s {i:Str}:MkG K t (.str i) (tC (.str i)):=⟨λ σ H Q _ k=>k _ H (Ď _) (.s _)⟩
theorem mk_n:MkG K t .non (tC .non):=⟨λ σ H Q _ k=>k _ H (Ď _) .n⟩
theorem E6:MkGL K t [] fX:=⟨λ σ H Q _ k=>k _ H (Ď _) .nil⟩
theorem nP {te:TE}{ta:TA}{g:G}{gs:List G} (h1:MkG K t g te) (h2:MkGL K t gs ta):MkGL K t (g::gs) (bM te ta):=⟨λ σ H Q ⟨q,ht⟩ k=>h1.h σ H _ ⟨q,ht⟩ λ v H1 s1 i1=>h2.h σ H1 _ ⟨q,s1 _ _ ht⟩ λ vs H2 s2 i2=>k _ H2 (s1.trans s2) (.cons (iN.same (sA s2) i1) i2)⟩
theorem SI {ta:TA}{gs:List G} (h:MkGL K t gs ta) (hl:gs.length<=100):MkG K t (.tup gs) (UG ta):=⟨λ σ H Q ⟨q,ht⟩ k=>h.h σ H _ ⟨q,ht⟩ λ vs H1 s1 i1=>⟨by rw[i1.length,à];lia,λ p hp=>by
 have s2:=È (o:=HO.tup vs) hp;have np:p≠t:=λ z=>by rw[z,s1 _ _ ht] at hp;cases hp
 exact k _ _ (s1.trans s2) (iN.t (Ò (GC aE np)) (eE.same (sA s2) i1))⟩⟩
theorem MC {ta:TA}{gs:List G}{σ:St}{H:Hp}{Q:V->Hp->Prop} (h:MkGL K t gs ta) (hl:gs.length<=100) (ht:∃ q,H t=some (.lst q)) (k:∀ l xs H',aJ H H'->H' l=some (.lst xs)->l≠t->eE K (sB t H') gs xs->Q (.ref l) H'):AZ ta σ H Q:=by
 obtain⟨q,ht⟩:=ht;refine h.h σ H _ ⟨q,ht⟩ λ vs H1 s1 i1=>⟨by rw[i1.length,à];lia,λ p hp=>?_⟩;have s2:=È (o:=HO.lst vs) hp;have np:p≠t:=λ z=>by rw[z,s1 _ _ ht] at hp;cases hp
 exact k _ _ _ (s1.trans s2) aE np (eE.same (sA s2) i1)
theorem SJ {ta:TA}{gs:List G} (h:MkGL K t gs ta) (hl:gs.length<=100):MkG K t (.lst gs) (AZ ta):=⟨λ σ H Q ht k=>MC h hl ht λ l xs H' s e n i=>k _ _ s (iN.l (É (GC e n)) i)⟩
theorem fQ.l {H:Hp}{t sl:Á} (h:fQ H t sl):∃ q,H t=Option.some (HO.lst q):=by obtain⟨ns,pos,cell,e,_⟩:=h;exact⟨_,e⟩
end
structure MkCalR (P:Ã) (w:World) (K:Ç) (mg:Str->Option À) (base:Heap) (C:Á) (x:Str) (ps:List Str) (k:Nat) (sp:Sp) (f:Á) (fd:FuncData):Prop where
 make:Mk K C f
 ok:FnOk P w K mg base (lW P w) k f fd ps sp
 mg:mg x=some (.ref C)
 bd:gQ K fd ps []
section
variable {aw t:Á}
end
def KA (K:Ç):Sp:=λ vs H Q _=>∃ net:Net,vs=[.str (qP net)]/\NetOk net/\NetFull net/\∀ p H',aJ H H'->Is K H' (iT net) p->Q p H'
theorem zJ (F:Fun K "read_net" "read_net" (aU 71) f fd) (T:Txt mg) (TS:TxtS mg) (jb:ExC K "NoText" gw) (jp:CalleeR P w K mg base "read_vessel" ["words"] 4 (yI K gw) f1 je) (jt:CalleeR P w K mg base "read_spout" ["words"] 3 (yK K gw) f2 ju)
  (mz:Callee P w K mg base "is_net" ["thing"] 4 (tU K) f3 pr) (tf:Callee P w K mg base "net_text" ["net"] 3 (rJ K) f4 yy):FnOk P w K mg base (lW P w) 5 f fd ["text"] (KA K):=by
 refine F.okR ["text","vessels","spouts","line","word","rest","net"] λ sc iu A outer s H vs Q E hr h L=>?_
 ·obtain⟨net,rfl,nok,pz,k1⟩:=h;have Cs:=BM nok pz;have za:=Q9 Cs;have zl:(qP net).length<=100000:=ë (PM Cs) (by decide);have Cf:=HQ Cs;refine⟨_,(aF (bJ (dX (cS (bE (wI (K:=K) rfl) rfl T.b_isinstance cQ (aB (pv 0) (aB (iB (v:=.ty "str") rfl TS.b_str bV rfl) aD))))) (aI (gA L rfl rfl jb.exc jb.ns ĝ (aB aK aD))) aT)
   (aF (S2 (i:=1) (j:=2) rfl sc.nd rfl rfl (by decide) rfl rfl (aB (aZ aD) (aB (aZ aD) aD)) rfl)
   (aF (dY af1 rfl (dU (K:=K) rfl (fG (K:=K) rfl ħ Ĩ gO (pv 0) (aB aK aD))) (gL 3 sc.nd) (aF (bK (fG (K:=K) rfl ħ Ĩ gO (pv 3) (aB aK aD)) (BB (K:=K) rfl rfl (aH (gL 4 sc.nd) (BA (gL 5 sc.nd)))))
   (aI (bJ (Ć (rO (aW d9 (pv 4) aK (aX _)) (nK (aW d9 (oQ K T.b_len (pv 5)) aG (aX _))))) (aI (bQ (dH (K:=K) rfl ó Ā ā cD (pv 1) (aB (dL jp.ok (hr.mono (by decide)) rfl jp.mg jp.kp jp.bd .nil (cY L) (aB (pv 5) aD)) aD)))) (aI (bJ (Ć (rO (aW d9 (pv 4) aK (aX _)) (nK (aW d9 (oQ K T.b_len (pv 5)) aG (aX _))))) (aI (bQ (dH (K:=K) rfl ó Ā ā cD (pv 2) (aB (dL jt.ok (hr.mono (by decide)) rfl jt.mg jt.kp jt.bd .nil (cY L) (aB (pv 5) aD)) aD)))) (aI (gA L rfl rfl jb.exc jb.ns ĝ (aB aK aD)))))))))
   (aF (pL 6 sc.nd (bN (aB (aQ (cT (K:=K) rfl) rfl T.b_tuple dB (aB (pv 1) aD)) (aB (aQ (cT (K:=K) rfl) rfl T.b_tuple dB (aB (pv 2) aD)) aD))))
   (aF (bJ (Ć (lO (dX (cS (bZ mz hr (aB (pv 6) aD)))) (jN (aW qL (bZ tf hr (aB (pv 6) aD)) (pv 0) (aX _))))) (aI (gA L rfl rfl jb.exc jb.ns ĝ (aB aK aD))) aT)
   (aI (aO (pv 6)))))))),?_⟩
  refine⟨_,rfl,_,"str",.str (qP net),rfl,by decide,.s _,_,rfl,cX ?_⟩;generalize hz:qP net=z at za zl Cf ⊢;have Ag:∀ y∈Txt.split z (one 10),gE y/\y.length<=100000:=λ y hy=>⟨fB za hy,ë (Ħ hy) zl⟩;have oq:=hV z (one 10) (by decide);have Mb:KL z=(eQ kT (Txt.split z (one 10))).map λ l=>⟨kD l,hW l⟩:=rfl;generalize hw3:Txt.split z (one 10)=ls at Ag oq Mb;refine⟨ê _,λ vl Aa=>⟨ê _,λ sl Bo=>⟨_,_,rfl,?_⟩⟩⟩;have Rp:vl≠sl:=aP (show upd H vl (.lst []) vl=_ from aE) Bo;have fsl:H sl=none:=(È Aa).free Bo;have s1:aJ H (upd (upd H vl (.lst [])) sl (.lst [])):=(È Aa).trans (È Bo);have g1:upd (upd H vl (.lst [])) sl (.lst []) vl=some (.lst []):=by rw[aM Rp];exact aE
  have g2:upd (upd H vl (.lst [])) sl (.lst []) sl=some (.lst []):=aE;dsimp only [bR];generalize upd (upd H vl (.lst [])) sl (.lst [])=H1 at s1 g1 g2 ⊢;refine⟨_,rfl,rfl,z,"\n",rfl,rfl,by decide,by lia,λ lp xx=>?_⟩;rw[TZ,hw3];have nlv:vl≠lp:=aP g1 xx;have Rq:sl≠lp:=aP g2 xx;have s2:aJ H (upd H1 lp (.lst (ls.map V.str))):=s1.trans (È xx);have g3:upd H1 lp (.lst (ls.map V.str)) lp=some (.lst (ls.map V.str)):=aE;have g1:=È (o:=.lst (ls.map V.str)) xx _ _ g1;have g2:=È (o:=.lst (ls.map V.str)) xx _ _ g2;generalize upd H1 lp (.lst (ls.map V.str))=H2 at s2 g1 g2 g3 ⊢;refine⟨lp,rfl,⟨_,É g3⟩,j9 (K:=K) (a:=lp) (xs:=ls.map V.str) (λ i ac H'=>aJ H H'/\H' lp=some (.lst (ls.map V.str))/\(∃ rs us ts,eQ kT (ls.take i)=some rs/\(kD rs).length<=i/\(hW rs).length<=i/\H' vl=some (.lst us)/\IsL K H' ((kD rs).map D8) us/\H' sl=some (.lst ts)/\IsL K H' ((hW rs).map O5) ts)/\
   ∃ v3 v4 v5,ac=[some (.str z),some (.ref vl),some (.ref sl),v3,v4,v5,none]) ⟨s2,g3,⟨[],[],[],rfl,Í _,Í _,g1,.nil,g2,.nil⟩,_,_,_,rfl⟩ ?_ ?_ ?_⟩
  ·rintro i ac H3 _ ⟨_,h2,_⟩;exact É h2
  ·rintro i y ac H3 hy ⟨s3,zf,⟨rs,us,ts,er,li,ri,xi,lu,xj,lt⟩,v3,v4,v5,rfl⟩;rw[Ø] at hy;obtain⟨y,rp,rfl⟩:=ð.mp hy;have hyi:i < ls.length:=(æ.mp rp).1;obtain⟨ya,yl⟩:=Ag y (Ó rp);have eul:us.length=(kD rs).length:=by rw[lu.length,Ê]
   have etl:ts.length=(hW rs).length:=by rw[lt.length,Ê]
   have pc:∀ u∈Txt.split y (one 32),gE u/\u.length<=100000:=λ u hu=>⟨fB ya hu,ë (Ħ hu) yl⟩;have mx:=hV y (one 32) (by decide);have kr:=jV y 32;have nk:kT y=match Txt.split y (one 32) with
    | []=>none
    | w::r=>if w = "vessel" /\ r.length=6 then (xM r).map Sum.inl else if w = "spout" /\ r.length=3 then (B5 r).map Sum.inr else none:=rfl
   dsimp only [bL];refine⟨_,rfl,rfl,y," ",rfl,rfl,by decide,by lia,λ p hp=>?_⟩;rw[JS];generalize Txt.split y (one 32)=ws at pc mx kr nk ⊢;obtain⟨wd,r,rfl⟩:=ś kr;simp only at nk;have s4:=È (o:=HO.lst ((wd::r).map V.str)) hp;have g4:upd H3 p (.lst ((wd::r).map V.str)) p=some (.lst (.str wd::r.map V.str)):=aE;have Bp:=s3.trans s4;have Bq:=s4 _ _ zf;have Br:=s4 _ _ xi;have tj:=s4 _ _ xj;have Bs:=Õ s4.ts _ _ lu;have Bt:=Õ s4.ts _ _ lt;generalize upd H3 p (.lst ((wd::r).map V.str))=H4 at s4 g4 Bp Bq Br tj Bs Bt ⊢;clear s4 s3 zf xi xj lu lt hp;refine⟨p,.str wd,r.map V.str,rfl,É g4,by rw[Ê];simp at mx;lia,λ q hq=>⟨_,_,rfl,_,_,rfl,rfl,?_⟩⟩;have s5:=È (o:=HO.lst (r.map V.str)) hq;have g5:upd H4 q (.lst (r.map V.str)) q=some (.lst (r.map V.str)):=aE;have Fn:=Bp.trans s5;have Bu:=s5 _ _ Bq;have zg:=s5 _ _ Br;have zh:=s5 _ _ tj;have Rr:=Õ s5.ts _ _ Bs;have Cp:=Õ s5.ts _ _ Bt;dsimp only [bR];generalize upd H4 q (.lst (r.map V.str))=H5 at s5 g5 Fn Bu zg zh Rr Cp ⊢;clear s5 Bp Bq Br tj Bs Bt hq g4;have bad:kT y=none->False:=λ hn=>by rw[Mb,kW hn (Ó rp)] at Cf;cases Cf
   have Rs:∀ x∈r,gE x/\x.length<=100000:=λ x hx=>pc x (Ô _ hx);refine K1 rfl rfl g5 ?_;refine eA (λ hT=>?_) λ hT=>?_
   ·
    have hT:=è hT;rw[Ê] at hT;have hr:r.length=6:=by have:=hT.2;lia
    rw[Å ⟨hT.1,hr⟩] at nk;refine⟨_,rfl,.inl ⟨rfl,_,É zg⟩,_,rfl,q,r,rfl,g5,hr,Rs,λ v pv H6 ev s6 iv=>?_,λ hn H6 s6=>(bad (by rw[nk,hn];rfl)).elim⟩;have Fo:=s6 _ _ zg;refine⟨vl,us,_,rfl,rfl,Fo,pP (by lia),?_⟩;have b7:d4 vl H6 (upd H6 vl (.lst (us++[pv]))):=å;have xw:=b7.ts (K:=K) (by rw[Fo];exact trivial);refine⟨(Fn.trans s6).put Aa,b7 _ _ (Ne.symm nlv) (s6 _ _ Bu),⟨rs++[.inl v],us++[pv],ts,?_,?_,?_,aE,?_,b7 _ _ (Ne.symm Rp) (s6 _ _ zh),?_⟩,_,_,_,rfl⟩
    ·rw[dG rp];exact kU er (by rw[nk,ev];rfl)
    ·rw[kC,â];show _+1<=_;lia
    ·rw[iZ,â];show _+0<=_;lia
    ·rw[kC,Ð];exact ď (Ï xw _ _ iv) (Õ (s6.ts.trans xw) _ _ Rr)
    ·rw[iZ,Ð];show IsL K _ (_++[]) _;rw[ı];exact Õ (s6.ts.trans xw) _ _ Cp
   have hT:¬ (wd = "vessel" /\ r.length=6):=λ h=>hT (Û ⟨h.1,by rw[Ê];lia⟩);rw[Ä hT] at nk;refine K1 rfl rfl g5 ?_;refine eA (λ hS=>?_) λ hS=>?_
   ·
    have hS:=è hS;rw[Ê] at hS;have hr:r.length=3:=by have:=hS.2;lia
    rw[Å ⟨hS.1,hr⟩] at nk;obtain⟨x1,x2,x3,rfl⟩:=len3 hr;obtain⟨a1,n1⟩:=Rs x1 (by simp);obtain⟨a2,n2⟩:=Rs x2 (by simp);refine⟨_,rfl,.inl ⟨rfl,_,É zh⟩,_,rfl,q,x1,x2,x3,rfl,g5,a1,a2,by lia,by lia,λ v pv H6 ev s6 iv=>?_,λ hn=>(bad (by rw[nk,hn];rfl)).elim⟩;have Fp:=s6 _ _ zh;refine⟨sl,ts,_,rfl,rfl,Fp,pP (by lia),?_⟩;have b7:d4 sl H6 (upd H6 sl (.lst (ts++[pv]))):=å;have xw:=b7.ts (K:=K) (by rw[Fp];exact trivial);refine⟨(Fn.trans s6).put fsl,b7 _ _ (Ne.symm Rq) (s6 _ _ Bu),⟨rs++[.inr v],us,ts++[pv],?_,?_,?_,b7 _ _ Rp (s6 _ _ zg),?_,aE,?_⟩,_,_,_,rfl⟩
    ·rw[dG rp];exact kU er (by rw[nk,ev];rfl)
    ·rw[kC,â];show _+0<=_;lia
    ·rw[iZ,â];show _+1<=_;lia
    ·rw[kC,Ð];show IsL K _ (_++[]) _;rw[ı];exact Õ (s6.ts.trans xw) _ _ Rr
    ·rw[iZ,Ð];exact ď (Ï xw _ _ iv) (Õ (s6.ts.trans xw) _ _ Cp)
   have hS:¬ (wd = "spout" /\ r.length=3):=λ h=>hS (Û ⟨h.1,by rw[Ê];lia⟩);rw[Ä hS] at nk;exact (bad nk).elim
  ·rintro ac H3 ⟨s3,zf,⟨rs,us,ts,er,li,ri,xi,lu,xj,lt⟩,v3,v4,v5,rfl⟩;rw[Ê,õ (Í _)] at er;rw[er] at Mb;have nv:(⟨kD rs,hW rs⟩:Net)=net:=by rw[Mb] at Cf;exact ï Cf
   refine⟨_,rfl,vl,us,rfl,.inl ⟨É xi,λ pa hpa=>?_⟩⟩;have s4:=È (o:=HO.tup us) hpa;have q4:bS K (upd H3 pa (.tup us)) pa us:=Ò aE;have tj:=s4 _ _ xj;have Bs:=Õ s4.ts _ _ lu;have Bt:=Õ s4.ts _ _ lt;have Bp:=s3.trans s4;generalize upd H3 pa (.tup us)=H4 at s4 q4 tj Bs Bt Bp ⊢;refine⟨_,rfl,sl,ts,rfl,.inl ⟨É tj,λ pb hpb=>⟨(sz0 2),λ pn Fq=>?_⟩⟩⟩;have s5:=(È (o:=HO.tup ts) hpb).trans (È (o:=HO.tup [.ref pa,.ref pb]) Fq);have q5:bS K (upd (upd H4 pb (.tup ts)) pn (.tup [.ref pa,.ref pb])) pb ts:=(È Fq).tup (Ò aE);have q6:bS K (upd (upd H4 pb (.tup ts)) pn (.tup [.ref pa,.ref pb])) pn [.ref pa,.ref pb]:=Ò aE;generalize upd (upd H4 pb (.tup ts)) pn (.tup [.ref pa,.ref pb])=H5 at s5 q5 q6 ⊢;have Fn:=Bp.trans s5;have Bv:Is K H5 (iT net) (.ref pn):=by
    rw[<- nv];exact Ý q6 (.cons (Ý (s5.tup q4) (Õ s5.ts _ _ Bs)) (.cons (Ý q5 (Õ s5.ts _ _ Bt)) .nil))
   clear s3 zf xi lu xj lt s4 q4 tj Bs Bt Bp s5 q5 q6;dsimp only [bR];refine⟨_,rfl,_,net,rfl,Bv,nok,pz,λ H6 s6=>⟨_,rfl,cX ?_⟩⟩;refine⟨_,rfl,_,net,rfl,Ï s6.ts _ _ Bv,Cs,λ H7 s7=>⟨_,rfl,rfl,_,rfl,?_⟩⟩;rw[hz,Û rfl];exact cX ⟨_,rfl,k1 _ _ ((Fn.trans s6).trans s7) (Ï (s6.trans s7).ts _ _ Bv)⟩
section
variable {CD:Á}
def pO (K:Ç) (C CD:Á):Sp:=λ vs H Q _=>∃ (r dx:Á) (net:Net),vs=[.ref r,.str (qP net)]/\H r=some (.ins CD dx [])/\NetOk net/\NetFull net/\
 ∀ e fp H',H e=none->e≠r->(∀ b∈fp,H b=none)->d4 r H H'->H' r=some (.ins CD dx [("run",.ref e)])->cB K C H' e (o0 net) fp->Q .non H'
theorem IC (F:Fun K "__init__" "Desk.__init__" (bF (aU 96) 0) f fd) (T:Txt mg) (tx:DeskTx2 K CD)
  (kg:CalleeR P w K mg base "read_net" ["text"] 5 (KA K) f1 je) (md:MkCal P w K mg base C "Run" ["self","net"] 5 (yP K C) f2 ju) :
  FnOk P w K mg base (lW P w) 7 f fd ["self","text"] (pO K C CD):=by
 refine F.okR ["self","text"] λ sc iu A outer s H vs Q E hr h L=>?_
 ·obtain⟨r,dx,net,rfl,hi,ok,fu,k⟩:=h;refine⟨_,(aI (qH (K:=K) rfl (pv 0) (zF md.make md.ok (hr.mono (by decide)) rfl md.mg md.bd .nil iE (aB (dL kg.ok (hr.mono (by decide)) rfl kg.mg kg.kp kg.bd .nil (cY L) (aB (pv 1) aD)) aD)) rfl)),?_⟩;refine⟨_,rfl,net,rfl,ok,fu,λ p H1 s1 ip=>?_⟩;intro r2 Fs Rt Ru vv;have s2:aJ H1 (upd (upd H1 Fs (.own r2)) r2 (.ins C Fs [])):=λ b o e=>by rw[aM (aP e Rt),aM (aP e Ru)];exact e
  have Ct:=s1 _ _ hi;have nr:r≠r2:=aP Ct Rt;have Lw:=s2 _ _ Ct;have fr2:H r2=none:=s1.free Rt;refine⟨r2,Fs,p,net,rfl,aE,Ï s2.ts _ _ ip,ok,fu,λ fp H3 Rv b3 ra=>?_⟩;have hi3:=b3 _ _ nr Lw;have hff:∀ b∈fp,H b=none:=λ b hb=>(s1.trans s2).free (Rv b hb);have Av:r∉fp:=λ z=>by rw[hff r z] at hi;cases hi
  have mu:lS (H3 r):=by rw[hi3];exact trivial
  refine⟨rfl,_,rfl,r,CD,dx,[],rfl,hi3,tx.cls,tx.run,by decide,?_⟩;have bb:d4 r H (upd H3 r (.ins CD dx [("run",.ref r2)])):=by
   intro b o hb e;rw[aM hb];exact b3 _ _ (λ z=>by rw[z,fr2] at e;cases e) (s2 _ _ (s1 _ _ e))
  exact k r2 fp _ fr2 nr.symm hff bb aE (ra.but å mu nr Av)
def lX (K:Ç) (H:Hp):Ans->V->Prop
 | .told z,v=>v=.str z
 | .no wr,v=>∃ p,v=.ref p/\bS K H p [.str wr]
def DL (K:Ç) (C CD:Á):Sp:=λ vs H Q _=>∃ (dk dx e:Á) (x:V) (g:G) (S:RunS) (fp:List Á) (d:Nat),vs=[.ref dk,x]/\H dk=some (.ins CD dx [("run",.ref e)])/\cB K C H e S fp/\Rn S d/\d<=1000/\iN K H g x/\
 (∀ z,g=.str z->gE z/\z.length<=100000/\¬ o5 (gX z))/\
 (∀ z v H',g=.str z->iI fp H H'->cB K C H' e (jQ S z).1 fp->lX K H' (jQ S z).2 v->Q v H')/\((∀ z,g≠.str z)->∀ v H',aJ H H'->lX K H' (.no "row") v->Q v H')
theorem JL {S S':RunS}{z wr:Str} (h:jQ S z=(S',.no wr)):S'=S/\(wr = "row" \/ wr = "vessel" \/ wr = "much"):=by
 have key:∀ (wd:Str) (l:List Int),kL S wd l=(S',.no wr)->S'=S/\(wr = "row" \/ wr = "vessel" \/ wr = "much"):=by
  intro wd l h
  match l with
  | []=>
   obtain⟨h1,h2⟩:=Ĕ h;refine⟨h1.symm,.inl ?_⟩;unfold lP at h2
   repeat (split at h2;· cases h2)
   exact (Ans.no.inj h2).symm
  | [n]=>
   have h:(if wd = "go" then IR S n else if wd = "tips" then rD S n else (S,.no "row"))=(S',.no wr):=h;unfold IR rD at h
   split at h
   ·split at h
    ·obtain⟨h1,h2⟩:=Ĕ h;exact⟨h1.symm,.inr (.inr (Ans.no.inj h2).symm)⟩
    ·exact absurd (Ĕ h).2 (λ z=>by cases z)
   ·split at h
    ·obtain⟨h1,h2⟩:=Ĕ h
     split at h2
     ·cases h2
     ·exact⟨h1.symm,.inr (.inl (Ans.no.inj h2).symm)⟩
    ·obtain⟨h1,h2⟩:=Ĕ h;exact⟨h1.symm,.inl (Ans.no.inj h2).symm⟩
  | [n,m]=>
   have h:(if wd = "pour" then jG S n m else (S,.no "row"))=(S',.no wr):=h;unfold jG at h
   split at h
   ·split at h
    ·split at h
     ·obtain⟨h1,h2⟩:=Ĕ h;exact⟨h1.symm,.inr (.inr (Ans.no.inj h2).symm)⟩
     ·exact absurd (Ĕ h).2 (λ z=>by cases z)
    ·obtain⟨h1,h2⟩:=Ĕ h;exact⟨h1.symm,.inr (.inl (Ans.no.inj h2).symm)⟩
   ·obtain⟨h1,h2⟩:=Ĕ h;exact⟨h1.symm,.inl (Ans.no.inj h2).symm⟩
  | _::_::_::_=>obtain⟨h1,h2⟩:=Ĕ h;exact⟨h1.symm,.inl (Ans.no.inj h2).symm⟩
 unfold jQ at h;generalize Txt.split z (one 32)=ws at h
 match ws with
 | []=>obtain⟨h1,h2⟩:=Ĕ h;exact⟨h1.symm,.inl (Ans.no.inj h2).symm⟩
 | w::r=>
  unfold tM at h;simp only at h
  split at h
  ·exact key _ _ h
  ·obtain⟨h1,h2⟩:=Ĕ h;exact⟨h1.symm,.inl (Ans.no.inj h2).symm⟩
theorem zT (F:Fun K "_law_said" "_law_said" (aU 109) f fd) (T:Txt mg) (W:TxtW mg im ik gp ia ib gr ic gw gu)
  (Rw:KindOf K ik gp ia ib gr ic gw gu gu [false,false,false,false,false,false,false,true]) (Rx:PySem.W.exmOne K (.ref gu) (.ref im)=some true)
  (Ry:KindOf K ik gp ia ib gr ic gw gu gp [false,true,false,false,false,false,false,false]) (Rz:PySem.W.exmOne K (.ref gp) (.ref im)=some true)
  (Sa:KindOf K ik gp ia ib gr ic gw gu gr [false,false,false,false,true,false,false,false]) (Sb:PySem.W.exmOne K (.ref gr) (.ref im)=some true)
  (kh:MCalR P w K mg base CD "say" ["self","row"] 10 (K9 K C CD gu gr gp) f1 je)
  (rq:Callee P w K mg base "_law_word" ["error"] 1 (DJ K ik gp ia ib gr ic gw gu) f2 ju) :
  FnOk P w K mg base gP 11 f fd ["desk","row"] (DL K C CD):=by
 refine F.ok ["desk","row","error","found","e"] λ sc iu A outer s H vs Q E hr h=>?_
 ·obtain⟨dk,dx,e,x,g,S,fp,d,rfl,hi,ra,rn,hd,ig,hz,k1,k2⟩:=h;let EX:XK:=λ cls _ H'=>aJ H H'/\∃ wr:Str,(wr = "row" \/ wr = "vessel" \/ wr = "much")/\cls=.ref (NI gu gr gp wr)/\∀ p H2,aJ H H2->bS K H2 p [.str wr]->Q (.ref p) H2;refine⟨_,(aF (pL 2 sc.nd fY)
   (aF (pL 3 sc.nd fY)
   (aF (S1 (EX:=EX) rfl rfl (λ pn xe hx=>(aI (pL 3 sc.nd (kZ (pv 0) kh.cls kh.mt kh.ok (hr.mono (by decide)) kh.bd .nil hx (aB (pv 1) aD))))) rfl W.m_TipError sc.nd (i:=4) rfl rfl (λ ea=>(aI (pL 2 sc.nd (pv 4)))))
   (aF (bJ (aW vG (pv 2) fY (aX _)) (aI (aO (pv 3))) aT)
   (aI (aO (bZ rq hr (aB (pv 2) aD)))))))),?_⟩
  dsimp only [gZ,nZ,bL,tC];refine⟨?_,?_⟩
  ·refine⟨_,rfl,dk,dx,_,rfl,hi,rfl,_,rfl,dk,dx,e,x,g,S,fp,d,rfl,hi,ra,rn,hd,ig,hz,λ z S' y eg ea H1 b1 Ft=>?_,λ z S' wr eg ea H1 s1=>?_,λ hg H1 s1=>?_⟩
   ·refine⟨_,rfl,rfl,_,rfl,eX ⟨_,rfl,k1 z _ H1 eg b1 ?_ ?_⟩⟩
    ·rw[ea];exact Ft
    ·rw[ea];exact rfl
   ·obtain⟨rfl,hw⟩:=JL ea;refine⟨s1,wr,hw,rfl,λ p H2 s2 q=>k1 z _ H2 eg s2.butL ?_ ?_⟩
    ·rw[ea];exact ra.same s2
    ·rw[ea];exact⟨p,rfl,q⟩
   ·exact⟨s1,("row" : Str),.inl rfl,rfl,λ p H2 s2 q=>k2 hg _ H2 s2 ⟨p,rfl,q⟩⟩
  ·rintro cls H' ea ac ⟨sH,wr,hw,rfl,kk⟩ ij vx;obtain⟨u0,u1,u2,u3,u4,rfl⟩:∃ u0 u1 u2 u3 u4,ac=[u0,u1,u2,u3,u4]:=by
    match ac,ij with
    | [u0,u1,u2,u3,u4],_=>exact⟨_,_,_,_,_,rfl⟩
   rcases hw with rfl | rfl | rfl
   ·have s1:=È (o:=CJ ea (.ref gu)) vx;refine⟨Rx,⟨_,rfl,?_⟩⟩;refine⟨_,rfl,rfl,_,rfl,cX ?_⟩;refine⟨_,rfl,ea,gu,_,7,"row",rfl,aE,Rw,rfl,rfl,?_,rfl,λ p H2 ka qp=>kk p H2 (sH.trans (s1.trans ka)) qp⟩;intro i b hi hb;rcases i with _ | _ | _ | _ | _ | _ | _ | i
    all_goals first | (injection hb with hb;exact hb.symm) | lia
   ·have s1:=È (o:=CJ ea (.ref gp)) vx;refine⟨Rz,⟨_,rfl,?_⟩⟩;refine⟨_,rfl,rfl,_,rfl,cX ?_⟩;refine⟨_,rfl,ea,gp,_,1,"vessel",rfl,aE,Ry,rfl,rfl,?_,rfl,λ p H2 ka qp=>kk p H2 (sH.trans (s1.trans ka)) qp⟩;intro i b hi hb;rcases i with _ | i
    all_goals first | (injection hb with hb;exact hb.symm) | lia
   ·have s1:=È (o:=CJ ea (.ref gr)) vx;refine⟨Sb,⟨_,rfl,?_⟩⟩;refine⟨_,rfl,rfl,_,rfl,cX ?_⟩;refine⟨_,rfl,ea,gr,_,4,"much",rfl,aE,Sa,rfl,rfl,?_,rfl,λ p H2 ka qp=>kk p H2 (sH.trans (s1.trans ka)) qp⟩;intro i b hi hb;rcases i with _ | _ | _ | _ | i
    all_goals first | (injection hb with hb;exact hb.symm) | lia
end
theorem oU {ws:List Str}{i:Nat}{z:Str} (h:ws[i]? = some z):(ws.map V.str)[i]? = some (.str z):=by rw[Ø,h];rfl
theorem yV {i n:Nat} (h:i < n):seqIndex? ((i:Nat):Int) n=some i:=by
 unfold seqIndex?;have h1:¬ ((i:Nat):Int) < 0:=by lia
 simp [h1,h]
theorem w6:∀ (ws:List Str) (i:Nat),(ws.map V.str).eraseIdx i=(ws.eraseIdx i).map V.str
 | [],i=>rfl
 | x::ws,0=>rfl
 | x::ws,i+1=>by rw[Ù,ŵ,ŵ,Ù,w6 ws i]
theorem PH (ws:List Str) (i:Nat) (z:Str):(ws.map V.str).take i++V.str z::(ws.map V.str).drop i=(ws.take i++z::ws.drop i).map V.str:=by rw[Ð,Ù,List.map_take,List.map_drop]
def uP (K:Ç):Sp:=λ vs H Q _=>∃ (l:Á) (ws:List Str) (way at':Int) (z:Str),vs=[.ref l,.int way,.int at',.str z]/\H l=some (.lst (ws.map V.str))/\0<=at'/\nY ws<=500000/\
 ∀ p us H',aJ H H'->H p=none->H' p=some (.lst (us.map V.str))->(∀ u∈us,u∈ws\/u=z)->nY us<=nY ws+(z.length+1)->us.length<=ws.length+1->ws.length<=us.length+1->((us[0]? = ws[0]?\/us[0]? = some z)\/∀ u∈us,u∈ws)->Q (.ref p) H'
theorem vW (F:Fun K "_law_turned" "_law_turned" (aU 106) f fd) (T:Txt mg):FnOk P w K mg base gP 1 f fd ["row","way","at","thing"] (uP K):=by
 refine F.ok ["row","way","at","thing","other"] λ sc iu A outer s H vs Q E hr h=>?_
 ·obtain⟨l,ws,way,at',z,rfl,hl,h0,hw,k⟩:=h;refine⟨_,(aF (pL 0 sc.nd (aQ (kI (K:=K) rfl) rfl T.b_list nX (aB (pv 0) aD)))
   (aF (bJ (Ć (lO (aW d9 (pv 1) aG (aX _)) (jN (aW d9 (oQ K T.b_len (pv 0)) aG (aX _))))) (aF (bQ (dH (K:=K) rfl ó PySem.F.slot_list_insert PySem.F.type_list_insert IE (pv 0) (aB (aS lC (pv 2) (aS cG (oQ K T.b_len (pv 0)) aG)) (aB (pv 3) aD))))
   (aI (aO (pv 0)))) aT)
   (aF (pL 2 sc.nd (aS lC (pv 2) (oQ K T.b_len (pv 0))))
   (aF (bJ (aW d9 (pv 1) aG (aX _)) (aI (bK (pv 3) (j4 (pv 0) (pv 2) eO))) (aI (bJ (aW d9 (pv 1) aG (aX _)) (aI (bQ (dH (K:=K) rfl ó PySem.F.slot_list_pop PySem.F.type_list_pop M9 (pv 0) (aB (pv 2) aD)))) (aF (pL 4 sc.nd (px K (pv 0) (pv 2)))
   (aF (bK (px K (pv 0) (aS lC (aS cG (pv 2) aG) (oQ K T.b_len (pv 0)))) (j4 (pv 0) (pv 2) eO))
   (aI (bK (pv 4) (j4 (pv 0) (aS lC (aS cG (pv 2) aG) (oQ K T.b_len (pv 0))) eO))))))))
   (aI (aO (pv 0))))))),?_⟩
  have hlw:=qT ws;refine⟨_,rfl,l,_,rfl,.inl (É hl),λ p hp=>?_⟩;have s1:=È (o:=HO.lst (ws.map V.str)) hp;have g1:upd H p (.lst (ws.map V.str)) p=some (.lst (ws.map V.str)):=aE;generalize upd H p (.lst (ws.map V.str))=H1 at s1 g1 ⊢;have Mc:(ws.map V.str).length=ws.length:=Ê ..;have fin:∀ us:List Str,(∀ u∈us,u∈ws\/u=z)->nY us<=nY ws+(z.length+1)->us.length<=ws.length+1->ws.length<=us.length+1->((us[0]? = ws[0]?\/us[0]? = some z)\/∀ u∈us,u∈ws)->Q (.ref p) (upd H1 p (.lst (us.map V.str))):=λ us h1 h2 h3 h4 h5=>k p us _ (s1.put hp) hp aE h1 h2 h3 h4 h5;dsimp only [bL,bR];have hI:∀ D:Ends,D.rt=Q->gZ (K7 (tBM K "list" FO (cF 0) (bM (iJ (rI (λ x j=>0 < j) λ i j=>V.int (i % j)) (cF 2) (iJ (xN λ i j=>V.int (i+j)) (JN (KQ K) (bM (cF 0) fX)) (tC (V.int 1)))) (bM (cF 3) fX)))) (K2 (cF 0)) D [some (.ref p),some (.int way),some (.int at'),some (.str z),none] H1:=λ D hD=>by
   have m0:=Ģ at' (show (((ws.map V.str).length:Nat):Int)+1≠0 by lia);have m1:=ĳ at' (show (0:Int) < (((ws.map V.str).length:Nat):Int)+1 by lia);refine⟨_,rfl,.inl ⟨rfl,_,É g1⟩,_,rfl,_,rfl,p,_,rfl,.inl (É g1),_,_,rfl,rfl,_,_,rfl,rfl,(show (0:Int) < (((ws.map V.str).length:Nat):Int)+1 by lia),_,rfl,p,_,_,_,rfl,rfl,g1,m0,by lia,by lia,_,rfl,?_⟩;rw[hD,PH];generalize (at' % ((((ws.map V.str).length:Nat):Int)+1)).toNat=i;refine fin _ (λ u hu=>?_) ?_ ?_ ?_ ?_
   ·rcases ß.mp hu with hu | hu
    ·exact .inl (List.mem_of_mem_take hu)
    ·rcases Ñ.mp hu with hu | hu
     ·exact .inr hu
     ·exact .inl (List.mem_of_mem_drop hu)
   ·have:=NZ ws i;rw[EV,eT];lia
   ·rw[â,á,î,Œ];lia
   ·rw[â,á,î,Œ];lia
   ·cases i with
    | zero=>exact .inl (.inr rfl)
    | succ i=>cases ws with
     | nil=>exact .inl (.inr (by simp))
     | cons a r=>exact .inl (.inl rfl)
  refine⟨_,rfl,rfl,_,rfl,eA (λ _=>hI _ rfl) λ hN=>?_⟩;refine⟨_,rfl,p,_,rfl,.inl (É g1),rfl,_,rfl,eA (λ _=>hI _ rfl) λ hE=>?_⟩;have kr:0 < ws.length:=by
   have:¬ (((ws.map V.str).length:Nat):Int)=0:=λ h=>hE (Û (by rw[h]));lia
  have m0:=Ģ at' (show (((ws.map V.str).length:Nat):Int)≠0 by lia);have m1:=ĳ at' (show (0:Int) < (((ws.map V.str).length:Nat):Int) by lia);refine⟨_,rfl,_,rfl,p,_,rfl,.inl (É g1),_,_,rfl,rfl,(show (0:Int) < (((ws.map V.str).length:Nat):Int) by lia),?_⟩;dsimp only [bL,bR];generalize at' % (((ws.map V.str).length:Nat):Int)=at2 at m0 m1 ⊢;obtain⟨i,rfl⟩:=ú m0;have hi:i < ws.length:=by lia
  obtain⟨a,ha⟩:∃ a,ws[i]? = some a:=⟨_,Ċ hi⟩;have Ch:IL (ws.map V.str).length ((i:Nat):Int)=some i:=lF (k:=((i:Nat):Int)) m0 m1;have Sc:(ws.map V.str).set i (.str z)=(ws.set i z).map V.str:=by rw[į]
  refine⟨_,rfl,rfl,_,rfl,eA (λ _=>?_) λ _=>?_⟩
  ·refine⟨_,rfl,_,rfl,_,rfl,p,_,_,i,rfl,rfl,g1,Ch,_,rfl,?_⟩;rw[Sc];refine fin _ (λ u hu=>?_) ?_ ?_ ?_ ?_
   ·rcases ĥ hu with h | h
    ·exact .inl h
    ·exact .inr h
   ·have:=pG (z:=z) ha;lia
   ·rw[Ė];lia
   ·rw[Ė];lia
   ·cases ws with
    | nil=>exact absurd hi (Nat.not_lt_zero _)
    | cons a r=>cases i with
     | zero=>exact .inl (.inr rfl)
     | succ i=>exact .inl (.inl rfl)
  refine⟨_,rfl,rfl,_,rfl,eA (λ _=>?_) λ _=>?_⟩
  ·refine⟨_,rfl,.inl ⟨rfl,_,É g1⟩,_,rfl,p,_,((i:Nat):Int),i,.str a,rfl,rfl,g1,by lia,by lia,?_,oU ha,_,rfl,?_⟩
   ·exact yV (by lia)
   ·have he:(ws.map V.str).eraseIdx i=(ws.eraseIdx i).map V.str:=w6 ws i;rw[he];refine fin _ (λ u hu=>.inl (af2 hu)) ?_ ?_ ?_ (.inr λ u hu=>af2 hu)
    ·have:=wY ws i;lia
    ·have:=List.length_eraseIdx_le ws i;lia
    ·rw[List.length_eraseIdx];split <;> lia
  have m3:=Ģ (((i:Nat):Int)+1) (show (((ws.map V.str).length:Nat):Int)≠0 by lia);have m4:=ĳ (((i:Nat):Int)+1) (show (0:Int) < (((ws.map V.str).length:Nat):Int) by lia);obtain⟨j,hj⟩:=ú m3;have Cj:j < ws.length:=by lia
  obtain⟨b,hb⟩:∃ b,ws[j]? = some b:=⟨_,Ċ Cj⟩;have Fu:(ws.map V.str).set i (.str b)=(ws.set i b).map V.str:=by rw[į]
  refine⟨_,rfl,_,rfl,.inl ⟨p,_,_,_,rfl,rfl,É g1,eJ (oU ha),?_⟩⟩;dsimp only [bL,bR];refine⟨_,rfl,_,rfl,_,_,rfl,rfl,_,rfl,p,_,rfl,.inl (É g1),_,_,rfl,rfl,(show (0:Int) < (((ws.map V.str).length:Nat):Int) by lia),?_⟩;dsimp only;rw[hj];refine .inl ⟨p,_,_,_,rfl,rfl,É g1,eJ (oU hb),_,rfl,_,rfl,p,_,_,i,rfl,rfl,g1,Ch,?_⟩;rw[Fu];have g2:upd H1 p (.lst ((ws.set i b).map V.str)) p=some (.lst ((ws.set i b).map V.str)):=aE;have l2:((ws.set i b).map V.str).length=(ws.map V.str).length:=by rw[Ê,Ê,Ė]
  have w1:=pG (z:=b) ha;have yu:(ws.set i b)[j]? = some b:=by
   rw[List.getElem?_set]
   split
   ·rename_i e;subst e;simp [hi]
   ·exact hb
  have w2:=pG (z:=a) yu;refine⟨_,rfl,_,rfl,_,rfl,_,_,rfl,rfl,_,rfl,p,_,rfl,.inl (É g2),_,_,rfl,rfl,(show (0:Int) < ((((ws.set i b).map V.str).length:Nat):Int) by lia),?_⟩;dsimp only;rw[l2,hj];refine⟨p,_,_,j,rfl,rfl,g2,by rw[l2];exact lF (k:=((j:Nat):Int)) (by lia) (by lia),_,rfl,?_⟩;have e2:((ws.set i b).map V.str).set j (.str a)=((ws.set i b).set j a).map V.str:=by simp only [į]
  rw[e2];have hM:∀ u∈(ws.set i b).set j a,u∈ws:=by
   intro u hu;rcases ĥ hu with h | h
   ·rcases ĥ h with h | h
    ·exact h
    ·rw[h];exact Ó hb
   ·rw[h];exact Ó ha
  exact k p _ _ ((s1.put hp).put hp) hp aE (λ u hu=>.inl (hM u hu)) (by lia) (by rw[Ė,Ė];lia) (by rw[Ė,Ė];lia) (.inr hM)
def DN:Sp:=λ vs H Q _=>∃ x:Str,vs=[.str x]/\gE x/\x.length<=1000000/\∀ H',aJ H H'->Q (kO (tK x)) H'
theorem vX (F:Fun K "_law_number" "_law_number" (aU 107) f fd) (T:Txt mg):FnOk P w K mg base gP 1 f fd ["word"] DN:=by
 refine F.ok ["word"] λ sc iu A outer s H vs Q E hr h=>?_
 ·obtain⟨x,rfl,ha,hl,k⟩:=h;refine⟨_,(aF (bJ (Ć (lO (aW d9 (pv 0) aK (aX _)) (lO (aW oE (bE kJ rfl T.b_len ļ (aB (pv 0) aD)) aG (aX _)) (jN (dX (cS (bE (kK (K:=K) rfl rfl) rfl T.b_all ŋ (aB (gN (λ _ _ h=>h) rfl (LcOk.mk (N':=["sign"]) (fr:=[none]) rfl trivial rfl rfl rfl rfl rfl trivial) (OQ (K:=K) rfl (pv 0)) (λ _ _ _=>(gC 0 ["sign"])) (λ _ _ _=>bX) (λ _ _ _=>(fH SE (pv 0) aK (by rfl)))) aD)))))))) (aI (aO fY)) aT)
   (aF (bJ (Ć (rO (aW d9 (px K (pv 0) aG) aK (aX _)) (nK (aW qL (pv 0) aK (aX _))))) (aI (aO fY)) aT)
   (aI (aO (aQ nW rfl T.b_int fZ (aB (pv 0) aD)))))),?_⟩
  refine⟨_,rfl,rfl,_,rfl,eA (λ hT=>?_) λ hT=>?_⟩
  ·have hx:x = "" := by have:=è hT;cases this;rfl
   have e:tK x=none:=Å (.inl hx);rw[e] at k;exact k H (Ď _)
  have hx:x ≠ "" := λ h=>hT (Û (by rw[h]));refine⟨_,rfl,x,rfl,hl,_,_,rfl,rfl,_,rfl,eA (λ hT=>?_) λ hT=>?_⟩
  ·have hx:9 < x.length:=by have:=è hT;lia
   have e:tK x=none:=Å (.inr (.inl hx));rw[e] at k;exact k H (Ď _)
  have hx9:x.length<=9:=by
   have:¬ (9:Int) < ((x.length:Nat):Int):=λ h=>hT (Û h);lia
  have ze:x.cps.all (· < 128)=true:=by
   rw[afo];intro c hc;have:=ha c (by simpa using hc);simpa using this
  have hcz:x.cps.size=(sg x).length:=by simp [sg]
  refine⟨_,rfl,x,rfl,ze,SQ (λ D i r ac H'=>H D=none/\aJ H H'/\H' D=some (.lst r)/\r=(((sg x).take i).map λ c=>decide (48<=c) && decide (c<=57)).map V.bl/\∃ u1,ac=[u1])
   (λ D hD=>⟨hD,È hD,aE,rfl,none,rfl⟩) ?_ ?_⟩
  rotate_left
  ·rintro D i c r ac H1 hc ⟨hD,sm,iw,rfl,u1,rfl⟩;have xl:(sg x)[i]? = some c:=by simpa [sg] using hc
   refine⟨_,rfl,one c,"0123456789",rfl,rfl,?_⟩;rw[PZ c (ha c (Ó xl))];have yp:=gT x;refine⟨iw,bD (by rw[Ê,Ê,î];lia),hD,sm.put hD,aE,?_,_,rfl⟩;rw[dG xl,Ð,Ð];rfl
  rintro D r ac H1 ⟨hD,s1,iw,rfl,_⟩;rw[hcz,õ (Í _)] at iw;refine⟨false,D,(sg x).map λ c=>decide (48<=c) && decide (c<=57),rfl,É iw,_,rfl,?_⟩;have ed:(((sg x).map λ c=>decide (48<=c) && decide (c<=57)).all id)=CL x:=by unfold CL;rw[List.all_map];rfl
  rw[ed];cases hd:CL x with
  | false=>
   have e:tK x=none:=Å (.inr (.inr hd));rw[e] at k;exact eX (k H1 s1)
  | true=>
   refine cX ?_;obtain⟨n,hn,qk,Sd⟩:=EO hd hx hx9;have oq:=gT x;have kr:sg x≠[]:=λ z=>hx (jM (by rw[z];rfl));obtain⟨c,hc⟩:∃ c,(sg x)[0]? = some c:=⟨_,Ċ (List.length_pos_iff.mpr kr)⟩;have e1:tK x=if (sg x)[0]? = some 48/\x ≠ "0" then none else some n:=by
    unfold tK;rw[Ä (λ z=>by rcases z with z | z | z;exact hx z;lia;rw[hd] at z;cases z),hn]
   dsimp only [bR];refine⟨_,rfl,.inr (.inr ⟨x,0,c,rfl,rfl,by rw[à];lia,eJ (xs:=x.cps.toList) (j:=0) hc,rfl,_,rfl,?_⟩)⟩;have e0:(V.str (one c)=V.str "0")↔c=48:=by
    constructor
    ·intro h;have h:one c = "0" := by cases h;rfl
     have:=congrArg sg h;rw[show sg (Str.ofString "0")=[48] by decide +kernel] at this;simpa [sg,one] using this
    ·rintro rfl;rw[show one 48=Str.ofString "0" by decide +kernel]
   by_cases Se:c=48
   ·subst Se;refine wU (e0.mpr rfl) ⟨_,rfl,rfl,_,rfl,?_⟩
    by_cases h0:x = "0"
    ·have ez:(!decide (V.str x=V.str "0"))=false:=by rw[Û (by rw[h0])];rfl
     rw[ez];refine cX ⟨_,rfl,x,n,rfl,hn,by lia,?_⟩;have e2:tK x=some n:=by rw[e1,Ä (λ z=>z.2 h0)]
     rw[e2] at k;exact k H1 s1
    ·have ez:(!decide (V.str x=V.str "0"))=true:=by rw[ñ (λ h=>h0 (by cases h;rfl))];rfl
     rw[ez];refine eX ?_;have e2:tK x=none:=by rw[e1,Å ⟨hc,h0⟩]
     rw[e2] at k;exact k H1 s1
   ·refine eA (λ h=>absurd (e0.mp (è h)) Se) λ _=>cX ⟨_,rfl,x,n,rfl,hn,by lia,?_⟩;have e2:tK x=some n:=by rw[e1,Ä (λ z=>Se (by rw[hc] at z;have:=z.1;simpa using this))]
    rw[e2] at k;exact k H1 s1
def DP (K:Ç):Sp:=λ vs H Q _=>∃ (t sl wl:Á) (x:Str) (ms:List Str),vs=[.ref t,.str x,.ref wl]/\fQ H t sl/\gE x/\x.length<=100000/\wl≠t/\H wl=some (.lst (ms.map V.str))/\(∀ m∈ms,gE m/\m.length<=10)/\ms.length<=30/\
 ∀ y H',Ext t sl H H'->gE y->y.length<=2 * x.length+20->GX ms x y->Q (.str y) H'
def UQ:Str := " !\"#$&'()*+,-./0123456789:;<=>?@ABCDEFGHIJKLMNOPQRSTUVWXYZ[\\]^_`abcdefghijklm"
def UP:Str := "nopqrstuvwxyz{|}~\n"
theorem sgAB:gE (UQ++UP)/\(UQ++UP).length=95:=⟨(by decide +kernel:∀ c∈sg (UQ++UP),c < 128),by decide +kernel⟩
theorem R6:gE "\n" := (by decide +kernel:∀ c∈sg (Str.ofString "\n"),c < 128)
theorem VS:gE " " := (by decide +kernel:∀ c∈sg (Str.ofString " "),c < 128)
theorem VR:gE Str.empty:=(by decide +kernel:∀ c∈sg Str.empty,c < 128)
theorem Ext.fr0 {t sl:Á}{H H1:Hp}{p:Á} (e:Ext t sl H H1) (hp:H1 p=none):H p=none:=by
 cases hc:H p with
 | none=>rfl
 | some o=>rw[e.bt _ _ (e.ne hp) hc] at hp;cases hp
theorem RF {σ:St}{H:Hp}{Q:Bool->Hp->Prop}{x:Str}{lv:Int} (h4:σ[4]? = some (some (.int lv))) (h1:σ[1]? = some (some (.str x))) (k:Q (decide (lv=0/\x ≠ "")) H) :
  RN (sK (iJ U2 (cF 4) (tC (.int 0)))) (sK (iJ rNe (cF 1) (tC (.str "")))) σ H Q:=by
 refine⟨_,h4,rfl,_,rfl,?_⟩
 by_cases e:lv=0
 ·subst e;refine wU rfl ⟨_,h1,rfl,_,rfl,?_⟩;have:(!decide (V.str x=V.str ""))=decide ((0:Int)=0/\x ≠ ""):=by simp
  rw[this];exact k
 ·refine eA (λ h=>absurd (è h) λ h=>e (by cases h;rfl)) λ _=>?_;rw[ñ (λ h=>e h.1)] at k;exact k
theorem w_e:("" : Str)=Str.empty:=by decide +kernel
theorem zZ (F:Fun K "_law_bent" "_law_bent" (aU 108) f fd) (T:Txt mg) (gq:Callee P w K mg base "_law_draw" ["tape","many"] 1 iX f1 je) (jy:Callee P w K mg base "_law_turned" ["row","way","at","thing"] 1 (uP K) f2 ju):FnOk P w K mg base gP 2 f fd ["tape","text","words_more"] (DP K):=by
 refine F.ok ["tape","text","words_more","signs","level","way","sign","spoilt","lines","line","at","words","some","word"] λ sc iu A outer s H vs Q E hr h=>?_
 ·obtain⟨t,sl,wl,x,ms,rfl,tp,ha,hl,Sf,mx,Sg,Mc,k⟩:=h
  (with_reducible refine⟨_,(aF (pL 3 sc.nd aK)
   (aF (pL 3 sc.nd (aS eF (pv 3) aK))
   (aF (pL 4 sc.nd (bZ (by with_unfolding_all exact gq) hr (aB (pv 0) (aB aG aD))))
   (aF (pL 5 sc.nd (bZ (by with_unfolding_all exact gq) hr (aB (pv 0) (aB aG aD))))
   (aF (bJ (Ć (rO (aW d9 (pv 4) aG (aX _)) (nK (aW qL (pv 1) aK (aX _))))) (aF (pL 6 sc.nd (px K (pv 3) (bZ (by with_unfolding_all exact gq) hr (aB (pv 0) (aB (bE kJ rf (by with_unfolding_all exact T.b_len) ļ (aB (pv 3) aD)) aD)))))
   (aF (bJ (aW d9 (bZ (by with_unfolding_all exact gq) hr (aB (pv 0) (aB aG aD))) aG (aX _)) (aI (pL 6 sc.nd (px K (pv 1) (bZ (by with_unfolding_all exact gq) hr (aB (pv 0) (aB (bE kJ rf (by with_unfolding_all exact T.b_len) ļ (aB (pv 1) aD)) aD)))))) aT)
   (aF (pL 7 sc.nd (bZ (by with_unfolding_all exact jy) hr (aB (aQ (JD rf) rf (by with_unfolding_all exact T.b_list) nX (aB (pv 1) aD)) (aB (pv 5) (aB (bZ (by with_unfolding_all exact gq) hr (aB (pv 0) (aB (aS cG (bE kJ rf (by with_unfolding_all exact T.b_len) ļ (aB (pv 1) aD)) aG) aD))) (aB (pv 6) aD))))))
   (aI (aO (fG (K:=K) rf Č č (cZ (K:=K) rf) aK (aB (pv 7) aD))))))) aT)
   (aF (pL 8 sc.nd (fG (K:=K) rf ħ Ĩ gO (pv 1) (aB aK aD)))
   (aF (bJ (aW d9 (pv 4) aG (aX _)) (aF (pL 9 sc.nd (px K (pv 8) (bZ (by with_unfolding_all exact gq) hr (aB (pv 0) (aB (oQ K (by with_unfolding_all exact T.b_len) (pv 8)) aD)))))
   (aI (aO (fG (K:=K) rf Č č (cZ (K:=K) rf) aK (aB (bZ (by with_unfolding_all exact jy) hr (aB (pv 8) (aB (pv 5) (aB (bZ (by with_unfolding_all exact gq) hr (aB (pv 0) (aB (aS cG (oQ K (by with_unfolding_all exact T.b_len) (pv 8)) aG) aD))) (aB (pv 9) aD))))) aD))))) aT)
   (aF (pL 10 sc.nd (bZ (by with_unfolding_all exact gq) hr (aB (pv 0) (aB (oQ K (by with_unfolding_all exact T.b_len) (pv 8)) aD))))
   (aF (pL 11 sc.nd (fG (K:=K) rf ħ Ĩ gO (px K (pv 8) (pv 10)) (aB aK aD)))
   (aF (pL 12 sc.nd (aS mS (pv 2) (pv 11)))
   (aF (pL 13 sc.nd (px K (pv 12) (bZ (by with_unfolding_all exact gq) hr (aB (pv 0) (aB (oQ K (by with_unfolding_all exact T.b_len) (pv 12)) aD)))))
   (aF (pL 11 sc.nd (bZ (by with_unfolding_all exact jy) hr (aB (pv 11) (aB (pv 5) (aB (bZ (by with_unfolding_all exact gq) hr (aB (pv 0) (aB (aS cG (oQ K (by with_unfolding_all exact T.b_len) (pv 11)) aG) aD))) (aB (pv 13) aD))))))
   (aF (bK (fG (K:=K) rf Č č (cZ (K:=K) rf) aK (aB (pv 11) aD)) (j4 (pv 8) (pv 10) eO))
   (aI (aO (fG (K:=K) rf Č č (cZ (K:=K) rf) aK (aB (pv 8) aD))))))))))))))))),?_⟩)
  refine⟨_,rfl,UQ,UP,rfl,rfl,by decide,?_⟩;obtain⟨SA,SL⟩:=sgAB;dsimp only [bL,bR];generalize UQ++UP=S at SA SL ⊢;refine⟨_,rfl,t,sl,3,rfl,tp,by decide,by decide,λ lv H1 b1 tp1 lv0 lv1=>?_⟩;dsimp only [bL,bR];refine⟨_,rfl,t,sl,4,rfl,tp1,by decide,by decide,λ wy H2 b2 Sh wy0 wy1=>?_⟩;have e2:Ext t sl H H2:=⟨b1.trans b2,Sh⟩;dsimp only [bL,bR];clear b1 b2 tp1;refine RF rfl rfl ?_;refine eA (λ hT=>?_) λ hT=>?_
  ·
   obtain⟨-,hx⟩:=è hT;have hxp:0 < x.length:=by
    rw[<- gT];exact List.length_pos_iff.mpr λ z=>hx (jM (by rw[z];rfl))
   refine⟨_,rfl,_,rfl,_,rfl,S,rfl,by lia,t,sl,_,rfl,Sh,by lia,by lia,λ r H3 b3 Ah r0 r1=>?_⟩;obtain⟨i,rfl⟩:=ú r0;obtain⟨c,hc⟩:∃ c,(sg S)[i]? = some c:=⟨_,Ċ (by rw[gT];lia)⟩;have Fv:=SA c (Ó hc);refine .inr (.inr ⟨S,((i:Nat):Int),c,rfl,rfl,by rw[à];lia,eJ (xs:=S.cps.toList) hc,?_⟩);have e3:Ext t sl H H3:=⟨e2.bt.trans b3,Ah⟩;dsimp only [bL,bR];refine uW (λ ac H'=>Ext t sl H H'/\∃ c,c < 128/\ac=[some (.ref t),some (.str x),some (.ref wl),some (.str S),some (.int lv),some (.int wy),some (.str (one c)),none,none,none,none,none,none,none]) (λ D' hD=>?_) ?_
   ·refine⟨_,rfl,t,sl,2,rfl,Ah,by decide,by decide,λ q H4 b4 uy q0 q1=>⟨rfl,_,rfl,eA (λ _=>?_) λ _=>hD _ _ ⟨⟨e3.bt.trans b4,uy⟩,c,Fv,rfl⟩⟩⟩;refine⟨_,rfl,_,rfl,_,rfl,x,rfl,by lia,t,sl,_,rfl,uy,by lia,by lia,λ r H5 b5 Fw r0 r1=>?_⟩;obtain⟨i,rfl⟩:=ú r0;obtain⟨c,hc⟩:∃ c,(sg x)[i]? = some c:=⟨_,Ċ (by rw[gT];lia)⟩;exact .inr (.inr ⟨x,((i:Nat):Int),c,rfl,rfl,by rw[à];lia,eJ (xs:=x.cps.toList) hc,hD _ _ ⟨⟨(e3.bt.trans b4).trans b5,Fw⟩,c,ha c (Ó hc),rfl⟩⟩)
   rintro ac H4 ⟨e4,c,Fv,rfl⟩;refine⟨_,rfl,x,rfl,by lia,λ l hl=>⟨_,rfl,_,rfl,_,rfl,x,rfl,by lia,_,_,rfl,rfl,t,sl,_,rfl,e4.tp.same (È hl),by lia,by lia,λ r H5 b5 Fw r0 r1=>?_⟩⟩;have tm:l≠t:=e4.ne hl;have g5:=b5 _ _ tm (show upd H4 l (.lst (RP x)) l=_ from aE);rw[UO] at g5;have Ku:=O7 x;have hsa:=O8 ha;have hsn:(FE x).length=x.length:=by unfold FE;rw[Ê,gT]
   refine⟨_,rfl,l,FE x,wy,r,one c,rfl,g5,r0,by lia,λ p us H6 s6 hp g6 hu hw hul Le Ar=>?_⟩;dsimp only [bL,bR];have hu1:∀ u∈us,gE u/\u.length<=1:=λ u h=>by
    rcases hu u h with h | h
    ·exact hsa u h
    ·rw[h];exact⟨λ d hd=>(by cases (show d=c by simpa [sg,one] using hd);lia),Í _⟩
   have Ak:(one c).length=1:=rfl;refine⟨rfl,_,rfl,"",p,us,rfl,rfl,É g6,kF (by decide) (by lia),?_⟩;rw[w_e];refine k _ _ (((e4.new hl).trans ⟨b5,Fw⟩).sm s6) (kM VR λ a ha=>(hu1 a ha).1) ?_ (.inl (JK hu Le Ar));rw[xT];have:=O3 λ a ha=>(hu1 a ha).2;lia
  dsimp only [bR];refine⟨_,rfl,rfl,x,"\n",rfl,rfl,by decide,by lia,λ lp xx=>?_⟩;rw[TZ];have Ku:=wX x 10;have kr:=jV x 10;have Ag:∀ y∈Txt.split x (one 10),gE y/\y.length<=x.length:=λ y hy=>⟨fB ha hy,Ħ hy⟩;generalize hlsE:Txt.split x (one 10)=ls at Ku kr Ag ⊢;have hlp0:0 < ls.length:=List.length_pos_iff.mpr kr;have hlw:=qT ls;have e3:=e2.new (o:=HO.lst (ls.map V.str)) xx;have tm:lp≠t:=e2.ne xx;have fl:H lp=none:=e2.fr0 xx;have nlw:lp≠wl:=λ z=>by rw[<- z,fl] at mx;cases mx
  have g3:upd H2 lp (.lst (ls.map V.str)) lp=some (.lst (ls.map V.str)):=aE;have lml:(ls.map V.str).length=ls.length:=Ê ..;dsimp only [bL,bR];generalize upd H2 lp (.lst (ls.map V.str))=H3 at e3 g3 ⊢;clear e2 Sh xx;refine⟨_,rfl,rfl,_,rfl,eA (λ _=>?_) λ _=>?_⟩
  ·
   refine⟨_,rfl,_,rfl,_,rfl,lp,_,rfl,.inl (É g3),t,sl,_,rfl,e3.tp,by lia,by lia,λ r H4 b4 uy r0 r1=>?_⟩;obtain⟨i,rfl⟩:=ú r0;obtain⟨y,hy⟩:∃ y,ls[i]? = some y:=⟨_,Ċ (by lia)⟩;have g4:=b4 _ _ tm g3;refine .inl ⟨lp,_,((i:Nat):Int),_,rfl,rfl,É g4,eJ (oU hy),?_⟩;dsimp only [bL,bR];refine⟨rfl,_,rfl,_,rfl,_,rfl,_,rfl,lp,_,rfl,.inl (É g4),_,_,rfl,rfl,t,sl,_,rfl,uy,by lia,by lia,λ r H5 b5 Fw r0 r1=>?_⟩;obtain⟨ya,yl⟩:=Ag y (Ó hy);refine⟨_,rfl,lp,ls,wy,r,y,rfl,b5 _ _ tm g4,r0,by lia,λ p us H6 s6 hp g6 hu hw hul Le Ar=>?_⟩;refine⟨"\n",p,us,rfl,rfl,É g6,kF (by decide) (by lia),?_⟩;have hj:=rX (sep := "\n") (l:=us) (by decide);refine k _ _ (((e3.trans ⟨b4,uy⟩).trans ⟨b5,Fw⟩).sm s6) (kM R6 λ a h=>?_) (by lia) (.inr (.inl ⟨us,by rw[TZ],λ u h=>by rw[hlsE];exact (hu u h).elim id λ e=>e ▸ Ó hy⟩));rcases hu a h with h | h
   ·exact (Ag a h).1
   ·rw[h];exact ya
  dsimp only [bR];refine⟨_,rfl,_,rfl,lp,_,rfl,.inl (É g3),t,sl,_,rfl,e3.tp,by lia,by lia,λ r H4 b4 uy r0 r1=>?_⟩;obtain⟨i,rfl⟩:=ú r0;obtain⟨y,hy⟩:∃ y,ls[i]? = some y:=⟨_,Ċ (by lia)⟩;have g4:=b4 _ _ tm g3;have e4:=e3.trans ⟨b4,uy⟩;obtain⟨ya,yl⟩:=Ag y (Ó hy);dsimp only [bL,bR];clear b4 g3 e3 r0;refine⟨_,rfl,_,rfl,.inl ⟨lp,_,((i:Nat):Int),_,rfl,rfl,É g4,eJ (oU hy),rfl,y," ",rfl,rfl,by decide,by lia,λ p5 Cu=>?_⟩⟩;rw[JS];have rp:=wX y 32;have hyn:=jV y 32;have pc:∀ u∈Txt.split y (one 32),gE u/\u.length<=y.length:=λ u hu=>⟨fB ya hu,Ħ hu⟩;generalize hwsE:Txt.split y (one 32)=ws at rp hyn pc ⊢;have hwp:0 < ws.length:=List.length_pos_iff.mpr hyn;have hww:=qT ws;have s5:=È (o:=HO.lst (ws.map V.str)) Cu;have e5:=e4.new (o:=HO.lst (ws.map V.str)) Cu;have g5:upd H4 p5 (.lst (ws.map V.str)) p5=some (.lst (ws.map V.str)):=aE;have n5t:p5≠t:=e4.ne Cu;have n5l:p5≠lp:=λ z=>by rw[z,g4] at Cu;cases Cu
  have Si:=s5 _ _ g4;have Sj:=e5.bt _ _ Sf mx;dsimp only [bL,bR];generalize upd H4 p5 (.lst (ws.map V.str))=H5 at s5 e5 g5 Si Sj ⊢;clear s5 Cu g4 e4 uy;have lmm:(ms.map V.str).length=ms.length:=Ê ..;have lmw:(ws.map V.str).length=ws.length:=Ê ..;refine⟨_,rfl,_,rfl,wl,p5,_,_,rfl,rfl,Sj,g5,by rw[à];lia,λ p6 Md=>?_⟩;have s6:=È (o:=HO.lst (ms.map V.str++ws.map V.str)) Md;have e6:=e5.new (o:=HO.lst (ms.map V.str++ws.map V.str)) Md;have g6:upd H5 p6 (.lst (ms.map V.str++ws.map V.str)) p6=some (.lst ((ms++ws).map V.str)):=by rw[aE,Ð]
  have n6t:p6≠t:=e5.ne Md;have Sk:=s6 _ _ Si;have Sl:=s6 _ _ g5;dsimp only [bL,bR];generalize upd H5 p6 (.lst (ms.map V.str++ws.map V.str))=H6 at s6 e6 g6 Sk Sl ⊢;clear s6 Md e5 g5 Si Sj;have lmb:((ms++ws).map V.str).length=ms.length+ws.length:=by rw[Ê,â]
  refine⟨_,rfl,_,rfl,_,rfl,p6,_,rfl,.inl (É g6),t,sl,_,rfl,e6.tp,by lia,by lia,λ r H7 b7 tp7 r0 r1=>?_⟩;obtain⟨j,rfl⟩:=ú r0;obtain⟨z,hz⟩:∃ z,(ms++ws)[j]? = some z:=⟨_,Ċ (by rw[â];lia)⟩;refine .inl ⟨p6,_,((j:Nat):Int),_,rfl,rfl,É (b7 _ _ n6t g6),eJ (oU hz),?_⟩;have e7:=e6.trans ⟨b7,tp7⟩;have gl7:=b7 _ _ tm Sk;have g7:=b7 _ _ n5t Sl;have hzz:gE z/\z.length<=x.length+10:=by
   rcases ß.mp (Ó hz) with h | h
   ·exact⟨(Sg z h).1,by have:=(Sg z h).2;lia⟩
   ·exact⟨(pc z h).1,by have:=(pc z h).2;lia⟩
  have hzy:z.length<=y.length+10:=by
   rcases ß.mp (Ó hz) with h | h
   ·have:=(Sg z h).2;lia
   ·have:=(pc z h).2;lia
  dsimp only [bL,bR];clear b7 e6 g6 Sk Sl r0;refine⟨_,rfl,_,rfl,_,rfl,_,rfl,p5,_,rfl,.inl (É g7),_,_,rfl,rfl,t,sl,_,rfl,tp7,by lia,by lia,λ r H8 b8 tp8 r0 r1=>?_⟩;refine⟨_,rfl,p5,ws,wy,r,z,rfl,b8 _ _ n5t g7,r0,by lia,λ p9 us H9 s9 hp9 g9 hu hw hul Le Ar=>?_⟩;have e9:=(e7.trans ⟨b8,tp8⟩).sm s9;have gl9:=s9 _ _ (b8 _ _ tm gl7);have n9l:p9≠lp:=λ q=>by rw[q,b8 _ _ tm gl7] at hp9;cases hp9
  dsimp only [bL,bR];have hua:∀ u∈us,gE u:=λ u h=>by
   rcases hu u h with h | h
   ·exact (pc u h).1
   ·rw[h];exact hzz.1
  refine⟨rfl,_,rfl," ",p9,us,rfl,rfl,É g9,kF (by decide) (by lia),?_⟩;have hj:=rX (sep := " ") (l:=us) (by decide);have ja:gE (Str.join " " us):=kM VS hua;generalize hyE:Str.join " " us=y' at hj ja ⊢;refine⟨_,rfl,_,rfl,lp,_,((i:Nat):Int),i,rfl,rfl,gl9,lF (k:=((i:Nat):Int)) (by lia) (by lia),?_⟩;have em:(ls.map V.str).set i (.str y')=(ls.set i y').map V.str:=by rw[į]
  rw[em];have hwset:=pG (z:=y') hy;refine⟨rfl,_,rfl,"\n",lp,ls.set i y',rfl,rfl,É aE,kF (by decide) (by lia),?_⟩;have hj2:=rX (sep := "\n") (l:=ls.set i y') (by decide);refine k _ _ (e9.put tp fl) (kM R6 λ a h=>?_) (by lia) (.inr (.inr ⟨i,y,us,by rw[hlsE];exact hy,λ v hv=>?_,by rw[hlsE,<- hyE,TZ,JS]⟩));rotate_left
  ·rw[hwsE];rcases hu v hv with h | h
   ·exact .inr h
   ·rw[h];exact ß.mp (Ó hz)
  rcases ĥ h with h | h
  ·exact (Ag a h).1
  ·rw[h];exact ja
section
variable {σ:St}{H:Hp}{Q:VK}{t sl r rl na nb:Á}{S:RunS}{fp:List Á}{i j l:Nat}{n m v x:Int}{xs ys:List V}{u:V}
theorem FF {s1 R:TS}{D:Ends} (I:St->Hp->Prop) (h1:∀ R':TS,(∀ ac H',I ac H'->R' D ac H')->gZ s1 R' D σ H) (h2:∀ ac H',I ac H'->R D ac H'):gZ s1 R D σ H:=h1 R h2
end
end Tw
namespace L2
open PySem PySem.Spec PyProof.Rows TwZ
section
variable {X:Cx}
end
end L2
namespace Tw
open PySem L2
section
variable {H:Hp}
end
section
variable {H H':Hp}
theorem sD {fq:List Á} (s:iI fq H H') (hm:∀ b∈fq,lS (H b)):bW K H H':=by
 intro b xs h;have ne:∀ {o:HO},H b=some o->¬ lS (some o)->b∉fq:=λ e n z=>by have:=hm b z;rw[e] at this;exact n this
 rcases h with (h | ⟨o,h⟩) | h
 ·exact .inl (.inl (s _ _ (ne h (λ z=>z)) h))
 ·exact .inl (.inr ⟨o,s _ _ (ne h (λ z=>z)) h⟩)
 ·exact .inr h
variable {r h tt:Á}{ts fp:List Á}{st p:V}{net:Net}{S:RunS}
end
def bI (b:Bool):Int:=if b then 1 else 0
def two {ak:Type} (f:Bool->ak):List ak:=[f false,f true]
def put {ak:Type} (f:Bool->ak) (b:Bool) (x:ak):Bool->ak:=λ c=>if c=b then x else f c
theorem mR {ak:Type}{f:Bool->ak}{b:Bool}{x:ak}:put f b x b=x:=Å rfl
theorem vB {ak:Type}{f:Bool->ak}{b c:Bool}{x:ak} (h:c≠b):put f b x c=f c:=Ä h
theorem lG (f:Bool->V) (b:Bool):AO (two f) (bI b)=some (f b):=by cases b <;> rfl
theorem R4 {n:Int} (h0:0<=n) (h1:n < 2):∃ b,n=bI b:=by
 rcases (show n=0\/n=1 by lia) with rfl | rfl
 ·exact⟨false,rfl⟩
 ·exact⟨true,rfl⟩
theorem M0 {b c:Bool} (h:c≠b):c = !b:=by cases b <;> cases c <;> simp_all
section
variable {H H':Hp}{t sl nl rl ql hl gl cl tl ol:Á}{r h tt:Bool->Á}{ts fp:Bool->List Á}{st p:Bool->V}{net:Bool->Net}{S:Bool->RunS}{B:Nat}
end
section
variable {H:Hp}
theorem SO {te:TE}{fr:List (Option Nat)}{σ:St}{Q:Á->Hp->Prop}{nl:Á}{x y:V} (Fg:EM fr σ=[none]) (hl:H nl=some (.lst [x,y]))
  (k:∀ D,H D=none->te [some x] (upd H D (.lst [])) λ y0 H5=>H5 D=some (.lst [])/\0 < sizeLine/\aY K (upd H5 D (.lst [y0])) nl [x,y]/\([some x]:St)=[some x]/\
   te [some y] (upd H5 D (.lst [y0])) λ y1 H6=>H6 D=some (.lst [y0])/\1 < sizeLine/\aY K (upd H6 D (.lst [y0,y1])) nl [x,y]/\Q D (upd H6 D (.lst [y0,y1]))) :
  j6 (R9 K nl) (bL 0) DC te fr σ H Q:=by
 refine qV (K:=K) (a:=nl) (xs:=[x,y]) (λ D i ys ac H'=>aY K H' nl [x,y]/\match i with
   | 0=>H D=none/\ys=[]/\ac=[none]/\H'=upd H D (.lst [])
   | 1=>ac=[some x]/\te [some y] H' λ y1 H6=>H6 D=some (.lst ys)/\ys.length < sizeLine/\aY K (upd H6 D (.lst (ys++[y1]))) nl [x,y]/\Q D (upd H6 D (.lst (ys++[y1])))
   | _=>Q D H') (λ _ _ _ _ _ p=>p.1) ?_ ?_ ?_
 ·intro D hD;exact⟨É (È hD _ _ hl),hD,rfl,Fg,rfl⟩
 ·rintro D ys ac H' ⟨_,q⟩;exact q
 ·rintro D i z ys ac H' hz ⟨q,p⟩;rcases i with _ | _ | i
  ·obtain⟨hD,rfl,rfl,rfl⟩:=p;cases hz;refine fL ?_;exact k D hD
  ·obtain⟨rfl,p⟩:=p;cases hz;refine fL ?_;exact p
  ·cases hz
end
theorem xQ {K:Ç}{H:Hp}{z:Á}{xs:List V}{n:Nat}{Q':VK} (hz:H z=some (.lst [.int 0])) (hx:xs.length=n) (hn:n<=12) (kk:∀ hl,H hl=none->Q' (.ref hl) (upd H hl (.lst ((dR n).map V.int)))):UV (.ref z) (.int (xs.length:Int)) H Q':=by
 refine⟨z,_,[.int 0],rfl,rfl,hz,by lia,by lia,?_,λ hl wu=>?_⟩
 ·rw[hx];exact Ĳ (bD (by simp;lia))
 ·have en:((xs.length:Nat):Int).toNat=n:=by rw[hx];simp
  rw[en,OC];exact kk hl wu
def Gr (H H':Hp):Prop:=∀ x o,H x=some o->∃ o',H' x=some o'
theorem Gr.refl (H:Hp):Gr H H:=λ x o e=>⟨o,e⟩
theorem Gr.trans {H H1 H2:Hp} (a:Gr H H1) (b:Gr H1 H2):Gr H H2:=λ x o e=>by obtain⟨o',e'⟩:=a x o e;exact b x o' e'
theorem Gr.of {H H':Hp} (s:aJ H H'):Gr H H':=λ x o e=>⟨o,s x o e⟩
theorem Gr.upd {H:Hp}{a:Á}{o:HO}:Gr H (upd H a o):=λ x o' e=>by
 by_cases z:x=a
 ·subst z;exact⟨o,aE⟩
 ·exact⟨o',by rw[aM z];exact e⟩
theorem Gr.free {H H':Hp} (s:Gr H H') {x:Á} (h:H' x=none):H x=none:=by
 cases q:H x with
 | none=>rfl
 | some o=>obtain⟨o',e⟩:=s x o q;rw[h] at e;cases e
structure Fr (H0 H:Hp) (G:List (List Á)):Prop where
 sm:Gr H0 H
 nw:∀ g∈G,∀ x∈g,H0 x=none/\∃ o,H x=some o
 dj:G.Pairwise λ a b=>∀ x∈a,x∉b
theorem Fr.nil (H:Hp):Fr H H []:=⟨Gr.refl H,λ g h=>(nomatch h),.nil⟩
theorem Fr.same {H0 H H':Hp}{G:List (List Á)} (f:Fr H0 H G) (s:Gr H H'):Fr H0 H' G:=⟨f.sm.trans s,λ g hg x hx=>⟨(f.nw g hg x hx).1,by obtain⟨o,e⟩:=(f.nw g hg x hx).2;exact s _ _ e⟩,f.dj⟩
theorem Fr.add {H0 H H':Hp}{G:List (List Á)}{g:List Á} (f:Fr H0 H G) (s:Gr H H') (hg:∀ x∈g,H x=none/\∃ o,H' x=some o):Fr H0 H' (g::G):=by
 refine⟨f.sm.trans s,λ a ha x hx=>?_,.cons (λ b hb x hx Me=>?_) f.dj⟩
 ·rcases Ñ.1 ha with rfl | ha
  ·exact⟨f.sm.free (hg x hx).1,(hg x hx).2⟩
  ·exact (f.same s).nw a ha x hx
 ·obtain⟨o,e⟩:=(f.nw b hb x Me).2;rw[(hg x hx).1] at e;cases e
theorem Fr.old {H0 H:Hp}{G:List (List Á)}{g:List Á} (f:Fr H0 H G) {x:Á}{o:HO} (hx:H0 x=some o) (hg:g∈G):x∉g:=λ z=>by
 rw[(f.nw g hg x z).1] at hx;cases hx
theorem KU {ak:Type}{R:ak->ak->Prop}:∀ {G:List ak}{i j:Nat}{a b:ak},G.Pairwise R->i < j->G[i]? = some a->G[j]? = some b->R a b
 | [],i,j,a,b,_,_,h,_=>by simp at h
 | c::G,0,j+1,a,b,.cons hc _,_,h1,h2=>by
  have:c=a:=by simpa using h1
  subst this;exact hc b (Ó (show G[j]? = some b from by simpa using h2))
 | c::G,i+1,j+1,a,b,.cons _ hp,Ki,h1,h2=>KU (i:=i) (j:=j) hp (by lia) (by simpa using h1) (by simpa using h2)
theorem Fr.at {H0 H:Hp}{G:List (List Á)}{i j:Nat}{a b:List Á} (f:Fr H0 H G) (Ki:i≠j) (h1:G[i]? = some a) (h2:G[j]? = some b):∀ x∈a,x∉b:=by
 intro x hx Me;rcases Nat.lt_or_gt_of_ne Ki with h | h
 ·exact KU f.dj h h1 h2 x hx Me
 ·exact KU f.dj h h2 h1 x Me hx
def sel {ak:Type} (a b:ak):Bool->ak:=λ c=>if c then b else a
section
variable {H:Hp}
end
section
variable {H H':Hp}{t sl nl rl ql hl gl cl tl ol:Á}{r h tt:Bool->Á}{ts fp:Bool->List Á}{st p:Bool->V}{net:Bool->Net}{S:Bool->RunS}{B:Nat}
end
section
variable {CD:Á}
theorem wR (F:Fun K "_law_words" "_law_words" (aU 111) f fd) (T:Txt mg) (TS:TxtS mg):FnOk P w K mg base gP 1 f fd ["numbers"] (iA K):=by
 refine F.ok ["numbers"] λ sc iu A outer s H vs Q E hr h=>?_
 ·obtain⟨t,a,us,ts,rfl,hq,he,hw,k⟩:=h;refine⟨_,(aI (aO (px K (aZ (aB (fG (K:=K) rfl Č č (cZ (K:=K) rfl) aK (aB (gN (λ _ _ h=>h) rfl (LcOk.mk (N':=["number"]) (fr:=[none]) rfl trivial rfl rfl rfl rfl rfl trivial) (FR (K:=K) rfl (pv 0)) (λ _ _ _=>(gC 0 ["number"])) (λ _ _ _=>bX) (λ _ _ _=>(aQ bP rfl TS.b_str bV (aB (pv 0) aD)))) aD)) (aB aK aD))) (aQ fA rfl T.b_int fZ (aB (fH d9 (oQ K T.b_len (pv 0)) aG (aX _)) aD))))),?_⟩;have len:us.length=ts.length:=by have:=congrArg List.length he;simpa using this
  have hl:=qT ts;refine⟨rfl,G9 (K:=K) rfl hq he (by lia) λ l H1 s1 vk=>⟨" ",l,ts,rfl,rfl,É vk,kF (by decide) (by lia),(sz0 2),λ p hp=>?_⟩⟩;have s2:=s1.trans (È (o:=HO.lst [.str (Str.join " " ts),.str "none"]) hp);have g2:upd H1 p (.lst [.str (Str.join " " ts),.str "none"]) p=some (.lst [.str (Str.join " " ts),.str "none"]):=aE;generalize upd H1 p (.lst [.str (Str.join " " ts),.str "none"])=H2 at s2 g2 ⊢;refine⟨_,rfl,a,us,rfl,?_,rfl,?_⟩
  ·have q2:=jK.same s2 hq;cases t with
   | true=>exact .inr q2
   | false=>exact .inl q2
  refine .inr ⟨_,rfl,?_⟩
  by_cases hz:ts=[]
  ·subst hz;obtain rfl:us=[]:=ý len;exact .inl ⟨p,_,1,_,rfl,rfl,É g2,rfl,k H2 s2⟩
  ·have hu:¬ (V.int ((us.length:Nat):Int)=V.int 0):=λ h=>hz (ý (by have:=V.int.inj h;lia));rw[ñ hu];have ew:uA ts=Str.join (one 32) ts:=Ä hz;rw[ew] at k;rw[JS] at g2;exact .inl ⟨p,_,0,_,rfl,rfl,É g2,rfl,k H2 s2⟩
def yM (K:Ç) (C:Á):Sp:=λ vs H Q _=>∃ (r:Á) (S:RunS) (fp:List Á) (d:Nat) (wd:Str),vs=[.ref r,.str wd]/\cB K C H r S fp/\Rn S d/\∀ v H',aJ H H'->lX K H' (lP S wd) v->Q v H'
theorem zW (F:Fun K "_law_look" "_law_look" (aU 112) f fd) (T:Txt mg) (TS:TxtS mg)
  (gz:MCal P w K mg base C "state" ["self"] 1 (eL K C λ S v H=>Is K H (AL S.cur.held S.cur.coming S.cur.doors) v) f1 je)
  (ii:MCal P w K mg base C "tick" ["self"] 1 (eL K C λ S v H=>v=.int S.cur.tick) f2 ju)
  (jf:MCal P w K mg base C "came" ["self"] 1 (eL K C λ S v H=>v=.int S.cur.came) f3 pr)
  (il:MCal P w K mg base C "grounded" ["self"] 1 (eL K C λ S v H=>v=.int S.cur.ground) f4 yy)
  (jn:Callee P w K mg base "_law_words" ["numbers"] 1 (iA K) f5 Fx):FnOk P w K mg base gP 2 f fd ["run","word"] (yM K C):=by
 refine F.ok ["run","word","held","coming","doors"] λ sc iu A outer s H vs Q E hr h=>?_
 ·obtain⟨r,S,fp,d,wd,rfl,ra,rn,k⟩:=h
  (with_reducible refine⟨_,(aF (bK (eW (pv 0) (by with_unfolding_all exact gz.cls) (by with_unfolding_all exact gz.mt) (by with_unfolding_all exact gz.ok) (hr.mono (by decide)) (by with_unfolding_all exact gz.bd) .nil iE) (bC (K:=K) (n:=3) rf rf (aH (gL 2 sc.nd) (aH (gL 3 sc.nd) (aH (gL 4 sc.nd) bA)))))
   (aF (bJ (aW d9 (pv 1) aK (aX _)) (aI (aO (bZ (by with_unfolding_all exact jn) hr (aB (pv 2) aD)))) aT)
   (aF (bJ (aW d9 (pv 1) aK (aX _)) (aI (aO (bZ (by with_unfolding_all exact jn) hr (aB (pv 3) aD)))) aT)
   (aF (bJ (aW d9 (pv 1) aK (aX _)) (aI (aO (bZ (by with_unfolding_all exact jn) hr (aB (gN (λ _ _ h=>h) rf (LcOk.mk (N':=["is_open"]) (fr:=[none]) rf (by with_unfolding_all exact trivial) rf rf rf rf rf (by with_unfolding_all exact trivial)) (cU (K:=K) rf (pv 4)) (λ _ _ _=>(gC 0 ["is_open"])) (λ _ _ _=>bX) (λ _ _ _=>(px K (aZ (aB aK (aB aK aD))) (aQ fA rf (by with_unfolding_all exact T.b_int) fZ (aB (pv 0) aD))))) aD)))) aT)
   (aF (bJ (aW (DX (K:=K) rf) (pv 1) (aZ (aB aK (aB aK (aB aK aD)))) (by with_unfolding_all rfl)) (aI (aO (aQ bP rf (by with_unfolding_all exact TS.b_str) bV (aB (px K (aZ (aB (eW (pv 0) (by with_unfolding_all exact ii.cls) (by with_unfolding_all exact ii.mt) (by with_unfolding_all exact ii.ok) (hr.mono (by decide)) (by with_unfolding_all exact ii.bd) .nil iE) (aB (eW (pv 0) (by with_unfolding_all exact jf.cls) (by with_unfolding_all exact jf.mt) (by with_unfolding_all exact jf.ok) (hr.mono (by decide)) (by with_unfolding_all exact jf.bd) .nil iE) (aB (eW (pv 0) (by with_unfolding_all exact il.cls) (by with_unfolding_all exact il.mt) (by with_unfolding_all exact il.ok) (hr.mono (by decide)) (by with_unfolding_all exact il.bd) .nil iE) aD)))) (dH (K:=K) rf ó af7 af8 (um BO) (aZ (aB aK (aB aK (aB aK aD)))) (aB (pv 1) aD))) aD)))) aT)
   (aI (aO (bN (aB aK aD))))))))),?_⟩)
  obtain⟨dx,np,R,M,T',ei⟩:=ra.ins;refine⟨_,rfl,r,dx,_,rfl,ei,lV "state" rfl,r,S,fp,rfl,ra,λ v hv=>?_⟩;obtain⟨a,b1,b2,b3,rfl,q,q1,q2,q3⟩:=uL hv;refine⟨a,_,rfl,q,rfl,_,_,rfl,_,_,rfl,_,_,rfl,rfl,?_⟩;refine⟨_,rfl,rfl,_,rfl,eA (λ hT=>?_) λ hF=>?_⟩
  ·obtain rfl:wd = "held" := by have:=è hT;exact V.str.inj this
   exact⟨_,rfl,true,b1,_,S.cur.held.map aR,rfl,q1,iU rn.held,rn.w_held,λ H' s=>k _ H' s rfl⟩
  have n1:wd ≠ "held" := λ z=>hF (Û (by rw[z]));refine⟨_,rfl,rfl,_,rfl,eA (λ hT=>?_) λ hF=>?_⟩
  ·obtain rfl:wd = "coming" := by have:=è hT;exact V.str.inj this
   exact⟨_,rfl,true,b2,_,S.cur.coming.map aR,rfl,q2,iU rn.coming,rn.w_coming,λ H' s=>k _ H' s rfl⟩
  have n2:wd ≠ "coming" := λ z=>hF (Û (by rw[z]));refine⟨_,rfl,rfl,_,rfl,eA (λ hT=>?_) λ hF=>?_⟩
  ·obtain rfl:wd = "doors" := by have:=è hT;exact V.str.inj this
   refine⟨_,rfl,b3,rfl,⟨_,q3⟩,fN (K:=K) (a:=b3) (xs:=S.cur.doors.map V.bl) (λ D j ys ac H'=>H D=none/\aJ H H'/\H' D=some (.lst ys)/\ys=((S.cur.doors.take j).map fP).map V.str/\∃ u,ac=[u])
    (λ D j ys ac H' p=>p.2.1.tup q3) (λ D hD=>⟨hD,È hD,aE,rfl,none,rfl⟩) ?_ ?_⟩
   rotate_left
   ·rintro D j x ys ac H' hx ⟨hD,sm,iw,rfl,u,rfl⟩;obtain⟨b,hb,rfl⟩:∃ b,S.cur.doors[j]? = some b/\x=.bl b:=by
     rw[Ø] at hx;obtain⟨b,h1,h2⟩:=ð.mp hx;exact⟨b,h1,h2.symm⟩
    have yk:=rn.doors;refine⟨(sz0 2),λ q hq=>⟨_,rfl,.inr ⟨b,rfl,.inl ⟨q,_,_,.str (fP b),rfl,rfl,É aE,?_,?_⟩⟩⟩⟩
    ·cases b <;> rfl
    have s3:=È (o:=HO.lst [.str "shut",.str "open"]) hq;refine⟨s3 _ _ iw,?_,hD,(sm.trans s3).put hD,aE,?_,_,rfl⟩
    ·rw[à,Ê,Ê,î];lia
    ·rw[dG hb,Ð,Ð];rfl
   ·rintro D ys ac H' ⟨hD,sm,iw,rfl,_⟩;rw[Ê,ø] at iw;exact⟨false,D,_,S.cur.doors.map fP,rfl,É iw,(by rw[ü,ü,ü];rfl),rn.w_doors,λ H2 s2=>k _ H2 (sm.trans s2) rfl⟩
  have n3:wd ≠ "doors" := λ z=>hF (Û (by rw[z]));have el:lP S wd=if wd = "tick" then .told (aR S.cur.tick) else if wd = "came" then .told (aR S.cur.came) else if wd = "grounded" then .told (aR S.cur.ground) else .no "row" := by
   unfold lP;rw[Ä n1,Ä n2,Ä n3]
  refine⟨_,rfl,(sz0 3),λ p hp=>?_⟩;have s1:=È (o:=HO.lst [.str "tick",.str "came",.str "grounded"]) hp;have g1:upd H p (.lst [.str "tick",.str "came",.str "grounded"]) p=some (.lst [.str "tick",.str "came",.str "grounded"]):=aE;generalize upd H p (.lst [.str "tick",.str "came",.str "grounded"])=H1 at s1 g1 ⊢
  by_cases h3:wd = "tick" \/ wd = "came" \/ wd = "grounded"
  ·have uq:D4 (V.str wd) [.str "tick",.str "came",.str "grounded"]=true:=by rcases h3 with rfl | rfl | rfl <;> decide +kernel
   obtain⟨j,n,hj,hn,hr,Sm,jr⟩:∃ (j:Nat) (n:Int),(j < 3/\(∀ z,([.str "tick",.str "came",.str "grounded"]:List V)[j]? = some z->D5 z (.str wd)=true)/\∀ (i:Nat) (z:V),i < j->([.str "tick",.str "came",.str "grounded"]:List V)[i]? = some z->D5 z (.str wd)=false)/\
     ([.int S.cur.tick,.int S.cur.came,.int S.cur.ground]:List V)[j]? = some (.int n)/\(0<=n/\n < 10 ^ 9)/\lP S wd=.told (aR n)/\j < 3:=by
    rcases h3 with rfl | rfl | rfl
    ·refine⟨0,_,⟨by decide,λ z h=>?_,λ i z h=>by lia⟩,rfl,rn.tick,el.trans (Å rfl),by decide⟩;cases h;decide +kernel
    ·refine⟨1,_,⟨by decide,λ z h=>?_,λ i z h hz=>?_⟩,rfl,rn.came,el.trans ((Ä (by decide +kernel)).trans (Å rfl)),by decide⟩
     ·cases h;decide +kernel
     ·obtain rfl:i=0:=by lia
      cases hz;decide +kernel
    ·refine⟨2,_,⟨by decide,λ z h=>?_,λ i z h hz=>?_⟩,rfl,rn.ground,el.trans ((Ä (by decide +kernel)).trans ((Ä (by decide +kernel)).trans (Å rfl))),by decide⟩
     ·cases h;decide +kernel
     ·rcases i with _ | _ | i
      ·cases hz;decide +kernel
      ·cases hz;decide +kernel
      ·lia
   refine⟨p,_,rfl,.inl (É g1),rfl,rfl,_,rfl,?_⟩;rw[show (if false=true then !D4 (V.str wd) [.str "tick",.str "came",.str "grounded"] else D4 (V.str wd) [.str "tick",.str "came",.str "grounded"])=true from uq];have Sn:=s1 _ _ ei;have Ft:=ra.same s1;refine eX ⟨_,rfl,r,dx,_,rfl,Sn,lV "tick" rfl,r,S,fp,rfl,Ft,λ v1 e1=>⟨_,rfl,r,dx,_,rfl,Sn,lV "came" rfl,r,S,fp,rfl,Ft,λ v2 e2=>⟨_,rfl,r,dx,_,rfl,Sn,lV "grounded" rfl,r,S,fp,rfl,Ft,λ v3 e3=>⟨(sz0 3),λ l hl=>?_⟩⟩⟩⟩;subst e1 e2 e3;have s2:=s1.trans (È (o:=HO.lst [.int S.cur.tick,.int S.cur.came,.int S.cur.ground]) hl);have g2:upd H1 l (.lst [.int S.cur.tick,.int S.cur.came,.int S.cur.ground]) l=some (.lst [.int S.cur.tick,.int S.cur.came,.int S.cur.ground]):=aE;generalize upd H1 l (.lst [.int S.cur.tick,.int S.cur.came,.int S.cur.ground])=H2 at s2 g2 ⊢;refine⟨(sz0 3),λ l2 uj=>?_⟩;have s3:=s2.trans (È (o:=HO.lst [.str "tick",.str "came",.str "grounded"]) uj);have g3:=È (o:=HO.lst [.str "tick",.str "came",.str "grounded"]) uj _ _ g2;refine⟨.inl ⟨rfl,_,É aE⟩,_,rfl,l2,_,.str wd,j,rfl,rfl,aE,rfl,rfl,hj.1,hj.2.1,?_,?_⟩
   ·exact λ i z h hz=>hj.2.2 i z h hz
   ·exact .inl ⟨l,_,j,_,rfl,rfl,É g3,eJ hn,_,_,rfl,dS hr.1 hr.2,k _ _ s3 (by rw[Sm];exact rfl)⟩
  ·have uq:D4 (V.str wd) [.str "tick",.str "came",.str "grounded"]=false:=by
    rw[afy];intro z;refine h3 ?_;unfold D4 at z;simp only [ē,List.any_nil,Bool.or_false,Bool.or_eq_true] at z;rcases z with z | z | z
    ·have z:("tick" : Str)=wd:=by simpa [D5] using z
     exact .inl z.symm
    ·have z:("came" : Str)=wd:=by simpa [D5] using z
     exact .inr (.inl z.symm)
    ·have z:("grounded" : Str)=wd:=by simpa [D5] using z
     exact .inr (.inr z.symm)
   refine⟨p,_,rfl,.inl (É g1),rfl,rfl,_,rfl,?_⟩;rw[show (if false=true then !D4 (V.str wd) [.str "tick",.str "came",.str "grounded"] else D4 (V.str wd) [.str "tick",.str "came",.str "grounded"])=false from uq];have Sm:lP S wd=.no "row" := by
    rw[el,Ä (λ z=>h3 (.inl z)),Ä (λ z=>h3 (.inr (.inl z))),Ä (λ z=>h3 (.inr (.inr z)))]
   refine cX ⟨(sz0 1),λ q hq=>k _ _ (s1.trans (È hq)) ?_⟩;rw[Sm];exact⟨q,rfl,Ò aE⟩
theorem NH (a:V) (l:List V):EQ (a::l) (some 1) none=l:=by
 have h:=HT.sIx_nat 1 (a::l).length;unfold EQ;rw[HT.sIx_none,show (1:Int)=((1:Nat):Int) from rfl,HT.sIx_nat,á,Nat.min_eq_left (by lia),List.drop_succ_cons,List.drop_zero,õ (by lia)]
theorem GH:∀ r:List Str,((r.map λ u=>kO (bT u)).all lQ)=true
 | []=>rfl
 | u::r=>by
  rw[Ù,Ŗ,GH r,Bool.and_true];cases bT u <;> rfl
theorem LX:∀ r:List Str,D4 .non (r.map λ u=>kO (bT u)) = !(iQ r).isSome
 | []=>rfl
 | u::r=>by
  have ih:=LX r;rw[vY] at ih ⊢;unfold D4 at ih ⊢;rw[Ù,ē,ih,Ŗ];cases bT u <;> simp [kO,D5]
theorem FA:∀ {r:List Str}{l:List Int},iQ r=some l->(r.map λ u=>kO (bT u))=l.map V.int
 | [],l,h=>by cases h;rfl
 | a::r,l,h=>by
  unfold iQ at h
  split at h
  ·rename_i n l' h1 h2
   cases h;rw[Ù,Ù,h1,FA h2];rfl
  ·cases h
def yS (K:Ç) (C:Á):Sp:=λ vs H Q _=>∃ (r ha:Á) (x:V) (S:RunS) (fp:List Á) (d:Nat) (z:Str),vs=[.ref r,x,.ref ha,.str z]/\cB K C H r S fp/\Rn S d/\d<=1000/\Is K H (iT S.net) x/\H ha=some (.lst (S.cur.poured.map V.int))/\ha∉fp/\
 gE z/\z.length<=100000/\∀ v H',iI (ha::fp) H H'->cB K C H' r (jQ S z).1 fp->H' ha=some (.lst ((jQ S z).1.cur.poured.map V.int))->lX K H' (jQ S z).2 v->Q v H'
theorem wS (F:Fun K "_law_due" "_law_due" (aU 113) f fd) (T:Txt mg)
  (pd:Callee P w K mg base "_law_number" ["word"] 1 DN f1 je) (kl:Callee P w K mg base "_law_look" ["run","word"] 2 (yM K C) f2 ju)
  (ii:MCal P w K mg base C "tick" ["self"] 1 (eL K C λ S v H=>v=.int S.cur.tick) f3 pr)
  (jm:MCal P w K mg base C "go" ["self","many"] 7 (KB K C) f4 yy) (jg:MCalR P w K mg base C "tips" ["self","vessel"] 3 (tQ K C gp) f5 Fx)
  (jh:MCalR P w K mg base C "pour" ["self","vessel","amount"] 3 (tS K C gp) f6 So) (jn:Callee P w K mg base "_law_words" ["numbers"] 1 (iA K) f7 Sq):FnOk P w K mg base gP 8 f fd ["run","net","hand","row"] (yS K C):=by
 refine F.ok ["run","net","hand","row","words","numbers"] λ sc iu A outer s H vs Q E hr h=>?_
 ·obtain⟨r,ha,x,S,fp,d,z,rfl,ra,rn,hd,hx,hh,Mf,za,zl,k⟩:=h
  (with_reducible refine⟨_,(aF (pL 4 sc.nd (fG (K:=K) rf ħ Ĩ gO (pv 3) (aB aK aD)))
   (aF (gK (i:=5) sc.nd rf rf (λ _ _ h=>h) rf (LcOk.mk (N':=["word"]) (fr:=[none]) rf (by with_unfolding_all exact trivial) rf rf rf rf rf (by with_unfolding_all exact trivial)) (dU (K:=K) rf (LA (KC (K:=K) rf) (pv 4) (OL aG) OM)) (λ _ _ _=>(gC 0 ["word"])) (λ _ _ _=>bX) (λ _ _ _=>(bZ (by with_unfolding_all exact pd) hr (aB (pv 0) aD))))
   (aF (bJ (aW d9 (oQ K (by with_unfolding_all exact T.b_len) (pv 4)) aG (aX _)) (aI (aO (bZ (by with_unfolding_all exact kl) hr (aB (pv 0) (aB (pv 3) aD))))) aT)
   (aF (bJ (Ć (lO (aW (DX (K:=K) rf) fY (pv 5) (by with_unfolding_all rfl)) (jN (aW (HU (K:=K) rf hr.units) (aZ (aB (px K (pv 4) aG) (aB (oQ K (by with_unfolding_all exact T.b_len) (pv 4)) aD))) (aZ (aB (aZ (aB aK (aB aG aD))) (aB (aZ (aB aK (aB aG aD))) (aB (aZ (aB aK (aB aG aD))) aD)))) (by with_unfolding_all rfl))))) (aI (aO (bN (aB aK aD)))) aT)
   (aF (bJ (aW d9 (px K (pv 4) aG) aK (aX _)) (aF (bJ (aW oE (aS cG (eW (pv 0) (by with_unfolding_all exact ii.cls) (by with_unfolding_all exact ii.mt) (by with_unfolding_all exact ii.ok) (hr.mono (by decide)) (by with_unfolding_all exact ii.bd) .nil iE) (px K (pv 5) aG)) aG (aX _)) (aI (aO (bN (aB aK aD)))) aT)
   (aF (bJ (aW oE (px K (pv 5) aG) aG (aX _)) (aI (KZ (aS LJ (aZ (aB aG aD)) (oQ K (by with_unfolding_all exact T.b_len) (pv 2))) (pv 2) aG (oQ K (by with_unfolding_all exact T.b_len) (pv 2)))) aT)
   (aF (bQ (kZ (pv 0) (by with_unfolding_all exact jm.cls) (by with_unfolding_all exact jm.mt) (by with_unfolding_all exact jm.ok) (hr.mono (by decide)) (by with_unfolding_all exact jm.bd) .nil iE (aB (px K (pv 5) aG) aD)))
   (aI (aO aK))))) aT)
   (aF (bJ (aW QU (px K (pv 5) aG) (oQ K (by with_unfolding_all exact T.b_len) (px K (pv 1) aG)) (aX _)) (aI (aO (bN (aB aK aD)))) aT)
   (aF (bJ (aW d9 (px K (pv 4) aG) aK (aX _)) (aI (aO (bZ (by with_unfolding_all exact jn) hr (aB (kZ (pv 0) (by with_unfolding_all exact jg.cls) (by with_unfolding_all exact jg.mt) (by with_unfolding_all exact jg.ok) (hr.mono (by decide)) (by with_unfolding_all exact jg.bd) .nil DV (aB (px K (pv 5) aG) aD)) aD)))) aT)
   (aF (bJ (aW oE (aS cG (px K (pv 2) (px K (pv 5) aG)) (px K (pv 5) aG)) aG (aX _)) (aI (aO (bN (aB aK aD)))) aT)
   (aF (bK (aS cG (px K (pv 2) (px K (pv 5) aG)) (px K (pv 5) aG)) (j4 (pv 2) (px K (pv 5) aG) eO))
   (aF (bQ (kZ (pv 0) (by with_unfolding_all exact jh.cls) (by with_unfolding_all exact jh.mt) (by with_unfolding_all exact jh.ok) (hr.mono (by decide)) (by with_unfolding_all exact jh.bd) .nil DV (aB (px K (pv 5) aG) (aB (px K (pv 5) aG) aD))))
   (aI (aO aK)))))))))))),?_⟩)
  have pc:∀ u∈Txt.split z (one 32),gE u/\u.length<=100000:=λ u hu=>⟨fB za hu,ë (Ħ hu) zl⟩;have mx:=hV z (one 32) (by decide);have kr:=jV z 32;have hjn:=ŏ z (one 32);have ea:jQ S z=tM S (Txt.split z (one 32)):=rfl;rw[ea] at k;refine⟨_,rfl,rfl,z," ",rfl,rfl,by decide,by lia,λ p hp=>?_⟩;rw[JS];generalize Txt.split z (one 32)=ws at pc mx kr hjn k ⊢;clear ea;obtain⟨wd,r',rfl⟩:=ś kr;have s1:=È (o:=HO.lst ((wd::r').map V.str)) hp;have g1:upd H p (.lst ((wd::r').map V.str)) p=some (.lst (.str wd::r'.map V.str)):=aE;dsimp only [bL,bR];generalize upd H p (.lst ((wd::r').map V.str))=H1 at s1 g1 ⊢;have vq:r'.length<=100001:=by simp at mx;lia
  have Sr:EQ (.str wd::r'.map V.str) (some 1) none=r'.map V.str:=NH _ _;refine⟨_,rfl,1,rfl,p,_,rfl,É g1,λ p2 vt=>?_⟩;rw[Sr];have g2:upd H1 p2 (.lst (r'.map V.str)) p2=some (.lst (r'.map V.str)):=aE;have s2:=s1.trans (È (o:=HO.lst (r'.map V.str)) vt);have Ss:=È (o:=HO.lst (r'.map V.str)) vt _ _ g1;generalize upd H1 p2 (.lst (r'.map V.str))=H2 at s2 g2 Ss ⊢;clear hp vt g1 s1;have Su:(r'.map V.str).length=r'.length:=Ê ..;refine⟨p2,rfl,⟨_,É g2⟩,qV (K:=K) (a:=p2) (xs:=r'.map V.str) (λ D j ys ac H'=>H2 D=none/\aJ H2 H'/\H' D=some (.lst ys)/\ys=(r'.take j).map (λ u=>kO (bT u))/\∃ u,ac=[u])
   (λ D j ys ac H' p=>É (p.2.1 _ _ g2)) (λ D hD=>⟨hD,È hD,aE,rfl,none,rfl⟩) ?_ ?_⟩
  rotate_left
  ·rintro D j x' ys ac H' uc ⟨hD,sm,iw,rfl,u,rfl⟩;rw[Ø] at uc;obtain⟨v,hv,rfl⟩:=ð.mp uc;obtain⟨va,vl⟩:=pc v (Ô _ (Ó hv));refine⟨_,rfl,v,rfl,va,by lia,λ H3 s3=>?_⟩;rw[<- DS va];refine⟨s3 _ _ iw,?_,hD,(sm.trans s3).put hD,aE,?_,_,rfl⟩
   ·rw[à,Ê,î];lia
   ·rw[dG hv,Ð];rfl
  rintro D ys ac H3 ⟨hD,s3,iw,rfl,_⟩;rw[Su,ø] at iw;have pf:=s2.trans s3;have Fy:=s3 _ _ Ss;dsimp only [bL,bR];have nDh:D≠ha:=λ e=>by have:=s2 _ _ hh;rw[<- e,hD] at this;cases this
  clear Ss g2 hD s2 s3;refine⟨_,rfl,p,_,rfl,.inl (É Fy),rfl,_,rfl,eA (λ hT=>?_) λ hF=>?_⟩
  ·obtain rfl:r'=[]:=by
    have:=V.int.inj (è hT);rw[á,Su] at this;exact ý (by lia)
   have ez:z=wd:=hjn.symm;subst ez;have e1:tM S [z]=(S,lP S z):=rfl;rw[e1] at k;refine⟨_,rfl,_,rfl,r,S,fp,d,z,rfl,ra.same pf,rn,λ v H4 s4 ans=>?_⟩;have uf:=pf.trans s4;exact k v H4 uf.butL (ra.same uf) (uf _ _ hh) ans
  have hr0:r'≠[]:=λ z=>hF (Û (by rw[z];rfl));dsimp only [bR];have Mg:=pf _ _ hh;have Sv:=ra.same pf;obtain⟨dx,np,R,M,T',ei⟩:=Sv.ins;obtain⟨na,nb,nc,xs,ys,rfl,qn,qv,lv,_,_⟩:=j5 (Ï pf.ts _ _ hx);have yp:xs.length=S.net.vs.length:=by rw[lv.length,Ê]
  have nhr:ha≠r:=λ e=>by rw[e,ei] at Mg;cases Mg
  have Sw:∀ H4,aJ H H4->tM S (wd::r')=(S,.no "row")->∀ q,H4 q=none->Q (.ref q) (upd H4 q (.tup [.str "row"])):=λ H4 s4 e q hq=>by
   have s5:=s4.trans (È (o:=HO.tup [.str "row"]) hq);refine k _ _ s5.butL ?_ ?_ ?_
   ·rw[e];exact ra.same s5
   ·rw[e];exact s5 _ _ hh
   ·rw[e];exact⟨q,rfl,Ò aE⟩
  refine⟨_,rfl,D,_,rfl,.inl (É iw),rfl,GH r',_,rfl,?_⟩;rw[show (if false=true then !D4 V.non (r'.map λ u=>kO (bT u)) else D4 V.non (r'.map λ u=>kO (bT u))) = !(iQ r').isSome from LX r'];cases hn:iQ r' with
  | none=>
   have e1:tM S (wd::r')=(S,.no "row"):=by unfold tM;simp only [hn]
   exact eX (eX ⟨(sz0 1),Sw H3 pf e1⟩)
  | some l=>
  have e1:tM S (wd::r')=kL S wd l:=by unfold tM;simp only [hn]
  have Ac:=mU hn;have uq:=tW (λ u hu=>(pc u (Ô _ hu)).1) hn;rw[FA hn] at iw;refine cX ?_;have Mh:AO (.str wd::r'.map V.str) 0=some (.str wd):=lH (ö _) rfl;refine⟨_,rfl,.inl ⟨p,_,0,_,rfl,rfl,É Fy,Mh,_,rfl,p,_,rfl,.inl (É Fy),(sz0 2),λ q0 h0=>⟨(sz0 2),λ q1 h1=>⟨(sz0 2),λ q2 h2=>⟨(sz0 2),λ q3 h3=>⟨(sz0 3),λ q4 h4=>?_⟩⟩⟩⟩⟩⟩;have L:(((V.str wd::r'.map V.str).length:Nat):Int)=(l.length:Int)+1:=by rw[á,Su,Ac];rfl
  rw[L] at h1 h2 h3 h4 ⊢;have t1:=È (o:=HO.lst [.str wd,.int ((l.length:Int)+1)]) h0;have u0:upd H3 q0 (.lst [.str wd,.int ((l.length:Int)+1)]) q0=some (.lst [.str wd,.int ((l.length:Int)+1)]):=aE;generalize upd H3 q0 (.lst [.str wd,.int ((l.length:Int)+1)])=J0 at h1 h2 h3 h4 t1 u0 ⊢;have t2:=È (o:=HO.lst [.str "pour",.int 3]) h1;have u1:upd J0 q1 (.lst [.str "pour",.int 3]) q1=some (.lst [.str "pour",.int 3]):=aE;generalize upd J0 q1 (.lst [.str "pour",.int 3])=J1 at h2 h3 h4 t2 u1 ⊢;have t3:=È (o:=HO.lst [.str "go",.int 2]) h2;have u2:upd J1 q2 (.lst [.str "go",.int 2]) q2=some (.lst [.str "go",.int 2]):=aE;generalize upd J1 q2 (.lst [.str "go",.int 2])=J2 at h3 h4 t3 u2 ⊢;have t4:=È (o:=HO.lst [.str "tips",.int 2]) h3;have u3:upd J2 q3 (.lst [.str "tips",.int 2]) q3=some (.lst [.str "tips",.int 2]):=aE;generalize upd J2 q3 (.lst [.str "tips",.int 2])=J3 at h4 t4 u3 ⊢;have t5:=È (o:=HO.lst [.ref q1,.ref q2,.ref q3]) h4;have u4:upd J3 q4 (.lst [.ref q1,.ref q2,.ref q3]) q4=some (.lst [.ref q1,.ref q2,.ref q3]):=aE;generalize upd J3 q4 (.lst [.ref q1,.ref q2,.ref q3])=J4 at t5 u4 ⊢;have xy:=((t2.trans t3).trans t4).trans t5;have sJ:=pf.trans (t1.trans xy);have v0:=xy _ _ u0;have v1:=((t3.trans t4).trans t5) _ _ u1;have v2:=(t4.trans t5) _ _ u2;have v3:=t5 _ _ u3;have wc:=(t1.trans xy) _ _ iw;have Sx:=(t1.trans xy) _ _ Fy;have Bw:=(t1.trans xy) _ _ Mg;have Mi:=Sv.same (t1.trans xy);have eiJ:=(t1.trans xy) _ _ ei;have qnJ:=(t1.trans xy).tup qn;have qvJ:=(t1.trans xy).tup qv;clear t1 t2 t3 t4 t5 xy u0 u1 u2 u3 h0 h1 h2 h3 h4 Mg Sv ei qn qv iw Fy;refine⟨q0,q4,wd,(l.length:Int)+1,[(q1,"pour",3),(q2,"go",2),(q3,"tips",2)],rfl,rfl,v0,u4,λ t m=>?_,_,rfl,?_⟩
  ·rcases m with _ | ⟨_,_ | ⟨_,_ | ⟨_,m⟩⟩⟩
   ·exact v1
   ·exact v2
   ·exact v3
   ·cases m
  rw[show (([(q1,"pour",3),(q2,"go",2),(q3,"tips",2)]:List (Á×Str×Int)).any λ (t:Á×Str×Int)=>t.2.1 == wd && t.2.2 == (l.length:Int)+1)=decide ((wd = "pour" /\ l.length=2)\/(wd = "go" /\ l.length=1)\/(wd = "tips" /\ l.length=1)) by
   rw[ľ,afz,ē,ē,ē,List.any_nil];simp only [Bool.or_eq_true,Ğ,beq_iff_eq,Ę,or_false];refine or_congr (and_congr eq_comm ?_) (or_congr (and_congr eq_comm ?_) (and_congr eq_comm ?_)) <;> lia]
  clear v0 v1 v2 v3 u4
  by_cases hc:(wd = "pour" /\ l.length=2)\/(wd = "go" /\ l.length=1)\/(wd = "tips" /\ l.length=1)
  rotate_left
  ·have e2:kL S wd l=(S,.no "row"):=by
    match l with
    | []=>exact absurd (ý Ac.symm) hr0
    | [n]=>
     show (if wd = "go" then IR S n else if wd = "tips" then rD S n else (S,.no "row"))=_;rw[Ä (λ z=>hc (.inr (.inl ⟨z,rfl⟩))),Ä (λ z=>hc (.inr (.inr ⟨z,rfl⟩)))]
    | [n,m]=>
     show (if wd = "pour" then jG S n m else (S,.no "row"))=_;rw[Ä (λ z=>hc (.inl ⟨z,rfl⟩))]
    | _::_::_::_=>rfl
   rw[ñ hc];exact eX ⟨(sz0 1),Sw J4 sJ (e1.trans e2)⟩
  rw[Û hc];clear hr0 Sw;refine cX ?_;dsimp only [bR];rw[e1] at k;refine⟨_,rfl,.inl ⟨p,_,0,_,rfl,rfl,É Sx,Mh,rfl,_,rfl,?_⟩⟩;have fin:∀ {a:Ans}{H4:Hp}{v:V},aJ J4 H4->kL S wd l=(S,a)->lX K H4 a v->Q v H4:=λ {a H4 v} s4 e an=>by
   have s5:=sJ.trans s4;refine k _ _ s5.butL ?_ ?_ ?_
   ·rw[e];exact ra.same s5
   ·rw[e];exact s5 _ _ hh
   ·rw[e];exact an
  have tup:∀ {wr:Str},kL S wd l=(S,.no wr)->∀ q,J4 q=none->Q (.ref q) (upd J4 q (.tup [.str wr])):=λ e q hq=>fin (È hq) e ⟨q,rfl,Ò aE⟩;have pe:S.cur.poured.length=S.net.vs.length:=rn.ok.cur.pl;have Fk:=rn.ok.nok.hi;rcases hc with ⟨rfl,h2⟩ | ⟨rfl,h2⟩ | ⟨rfl,h2⟩;rotate_left
  ·
   obtain⟨n,rfl⟩:∃ n,l=[n]:=match l,h2 with | [n],_=>⟨n,rfl⟩
   have qk:=(uq n (by simp)).1;have we:AO ([n].map V.int) 0=some (.int n):=rfl;refine eA (λ _=>?_) λ hF=>absurd (Û rfl) hF;refine⟨_,rfl,r,dx,_,rfl,eiJ,lV "tick" rfl,r,S,fp,rfl,Mi,λ v hv=>?_⟩;subst hv;refine⟨_,rfl,.inl ⟨D,_,0,_,rfl,rfl,É wc,we,_,_,rfl,rfl,_,_,rfl,rfl,_,rfl,eA (λ hT=>?_) λ hF=>?_⟩⟩
   ·have hT:=è hT;exact⟨(sz0 1),tup (by rw[AI];exact Å hT)⟩
   have hF:¬ (3000 < S.cur.tick+n):=λ z=>hF (Û z);have eg:kL S "go" [n]=(S.go n.toNat,.told "ok"):=by rw[AI];exact Ä hF
   have ht:=rn.mp.t0;have gone:∀ (ac:St) (J5:Hp),ac[0]? = some (some (.ref r))->ac[5]? = some (some (.ref D))->iI [ha] J4 J5->J5 ha=some (.lst ((S.go n.toNat).cur.poured.map V.int))->∀ De:Ends,De.rt=Q->
     gZ (K7 (K3 C "go" (KB K C) [] E0 (cF 0) (bM (iJ (AM K) (cF 5) (tC (V.int 0))) fX))) (K2 (tC (V.str "ok"))) De ac J5:=λ ac J5 g0 g5 b5 h5 De hDe=>by
    have bs:iI (ha::fp) H J5:=λ x o hx e=>b5 x o (λ z=>hx (by rw[ã.1 z];exact Þ)) (sJ _ _ e);have hmu:∀ x∈[ha],lS (J4 x):=λ x hx=>by rw[ã.1 hx,Bw];exact trivial
    have Cv:cB K C J5 r S fp:=Mi.butL b5 hmu (λ z=>nhr (ã.1 z).symm) λ x hx z=>Mf (by rw[<- ã.1 z];exact hx);have nD:D∉[ha]:=λ z=>nDh (ã.1 z);have Fz:=b5 _ _ nD wc;obtain⟨Sy,np5,R5,M5,T5,Sz⟩:=Cv.ins;obtain⟨m,rfl⟩:=ú qk;refine⟨_,g0,r,Sy,_,rfl,Sz,lV "go" rfl,_,g5,.inl ⟨D,_,0,_,rfl,rfl,É Fz,we,r,S,fp,m,_,rfl,Cv,rn.sz,?_,?_,λ H6 b6 Ta=>?_⟩⟩
    ·have:=rn.mp.t1;lia
    ·have:=rn.mp.t1;lia
    ·show De.rt _ _;rw[hDe];refine k _ _ (λ x o hx e=>b6 _ _ (λ z=>hx (Ô _ z)) (bs x o hx e)) ?_ ?_ ?_
     ·rw[eg];exact Ta
     ·rw[eg];exact b6 _ _ Mf h5
     ·rw[eg];exact rfl
   dsimp only [bR,gZ];refine⟨_,rfl,.inl ⟨D,_,0,_,rfl,rfl,É wc,we,_,_,rfl,rfl,_,rfl,eA (λ hT=>?_) λ hT=>?_⟩⟩
   ·have hT:0 < n:=è hT;have ez:(S.go n.toNat).cur.poured=dR S.net.vs.length:=by
     obtain⟨k,hk⟩:∃ k,n.toNat=k+1:=⟨n.toNat - 1,by lia⟩;rw[hk];rfl
    refine⟨(sz0 1),λ q hq=>?_⟩;have t1:=È (o:=HO.lst [.int 0]) hq;have w1:upd J4 q (.lst [.int 0]) q=some (.lst [.int 0]):=aE;generalize upd J4 q (.lst [.int 0])=J5 at t1 w1 ⊢;have Tb:=t1 _ _ Bw;have Mc:(S.cur.poured.map V.int).length=S.net.vs.length:=by rw[Ê];exact pe
    refine⟨_,rfl,ha,_,rfl,.inl (É Tb),xQ (K:=K) w1 Mc Fk λ hl wu=>?_⟩;have t2:=È (o:=HO.lst ((dR S.net.vs.length).map V.int)) wu;have w2:upd J5 hl (.lst ((dR S.net.vs.length).map V.int)) hl=some (.lst ((dR S.net.vs.length).map V.int)):=aE;have nhl:ha≠hl:=aP Tb wu;generalize upd J5 hl (.lst ((dR S.net.vs.length).map V.int))=J6 at t2 w2 ⊢;have hh6:=t2 _ _ Tb;refine⟨_,rfl,_,rfl,ha,_,rfl,.inl (É hh6),ha,hl,_,_,0,_,rfl,rfl,rfl,rfl,hh6,w2,nhl,ö _,by lia,ö _,?_,?_⟩
    ·have e1:((dR S.net.vs.length).map V.int).length=S.net.vs.length:=by rw[Ê];exact jS _
     rw[Mc,e1,à];lia
    have Tc:(S.cur.poured.map V.int).take (0:Int).toNat++(dR S.net.vs.length).map V.int++(S.cur.poured.map V.int).drop (((S.cur.poured.map V.int).length:Nat):Int).toNat=(dR S.net.vs.length).map V.int:=by
     rw[show (0:Int).toNat=0 from rfl,ago,Ŀ,ĺ,List.drop_length,ı]
    rw[Tc];refine gone _ _ rfl rfl (λ x o hx e=>?_) ?_ _ rfl
    ·rw[aM (λ z=>hx (by rw[z];exact ã.2 rfl))];exact t2 _ _ (t1 _ _ e)
    ·rw[ez];exact aE
   ·have hT:¬ 0 < n:=λ z=>hT (Û z);obtain rfl:n=0:=by lia
    exact gone _ _ rfl rfl (λ x o _ e=>e) Bw _ rfl
  ·
   obtain⟨n,rfl⟩:∃ n,l=[n]:=match l,h2 with | [n],_=>⟨n,rfl⟩
   have qk:=(uq n (by simp)).1;have we:AO ([n].map V.int) 0=some (.int n):=rfl;rw[ñ (show ¬ (V.str "tips" = V.str "go") from λ z=>absurd (V.str.inj z) (by decide +kernel))];refine cX ?_;dsimp only [bR];refine⟨_,rfl,.inl ⟨D,_,0,_,rfl,rfl,É wc,we,_,rfl,.inr (.inl ⟨na,_,0,_,rfl,rfl,qnJ,rfl,nb,xs,rfl,.inr qvJ,_,_,rfl,rfl,_,rfl,eA (λ hT=>?_) λ hT=>?_⟩)⟩⟩
   ·have hT:=è hT;refine⟨(sz0 1),tup (wr := "vessel") ?_⟩;rw[wJ];unfold rD;rw[Ä (by lia)]
   have hT:n < S.net.vs.length:=by
    have:¬ ((xs.length:Nat):Int)<=n:=λ z=>hT (Û z);lia
   dsimp only [bR];refine⟨_,rfl,.inl ⟨p,_,0,_,rfl,rfl,É Sx,Mh,rfl,_,rfl,eA (λ _=>?_) λ hF=>absurd (Û rfl) hF⟩⟩;refine⟨_,rfl,r,dx,_,rfl,eiJ,lV "tips" rfl,_,rfl,.inl ⟨D,_,0,_,rfl,rfl,É wc,we,r,S,fp,n,rfl,Mi,.inl ⟨qk,hT,λ tl p uu hp=>?_⟩⟩⟩;have eg:S.tips.getD n.toNat []=tl:=by rw[ĕ,uu];rfl
   have hm:=Ó uu;refine⟨false,p,_,tl.map aR,rfl,É aE,iU (rn.tp tl hm),rn.wtip hd hm,λ H' s'=>fin ((È hp).trans s') (a:=.told (FY tl)) ?_ rfl⟩;rw[wJ];unfold rD;rw[Å hT,eg]
  ·
   obtain⟨n,m,rfl⟩:∃ n m,l=[n,m]:=match l,h2 with | [n,m],_=>⟨n,m,rfl⟩
   have qk:=(uq n (by simp)).1;have uw:=(uq m (by simp)).1;have we:AO ([n,m].map V.int) 0=some (.int n):=rfl;have Ct:AO ([n,m].map V.int) 1=some (.int m):=rfl;rw[ñ (show ¬ (V.str "pour" = V.str "go") from λ z=>absurd (V.str.inj z) (by decide +kernel))];refine cX ?_;dsimp only [bR];refine⟨_,rfl,.inl ⟨D,_,0,_,rfl,rfl,É wc,we,_,rfl,.inr (.inl ⟨na,_,0,_,rfl,rfl,qnJ,rfl,nb,xs,rfl,.inr qvJ,_,_,rfl,rfl,_,rfl,eA (λ hT=>?_) λ hT=>?_⟩)⟩⟩
   ·have hT:=è hT;refine⟨(sz0 1),tup (wr := "vessel") ?_⟩;rw[r8];unfold jG;rw[Ä (by lia)]
   have hT:n < S.net.vs.length:=by
    have:¬ ((xs.length:Nat):Int)<=n:=λ z=>hT (Û z);lia
   dsimp only [bR];refine⟨_,rfl,.inl ⟨p,_,0,_,rfl,rfl,É Sx,Mh,rfl,_,rfl,?_⟩⟩;rw[ñ (show ¬ (V.str "pour" = V.str "tips") from λ z=>absurd (V.str.inj z) (by decide +kernel))];refine cX ?_;dsimp only [bR];have jr:n.toNat < S.cur.poured.length:=by lia
   have ur:S.cur.poured[n.toNat]? = some (S.cur.poured.getD n.toNat 0):=by rw[ĕ,Ċ jr];rfl
   have Fq:AO (S.cur.poured.map V.int) n=some (.int (S.cur.poured.getD n.toNat 0)):=lH qk (by rw[Ø,ur];rfl);refine⟨_,rfl,_,rfl,.inl ⟨D,_,0,_,rfl,rfl,É wc,we,.inl ⟨ha,_,n,_,rfl,rfl,É Bw,Fq,_,rfl,.inl ⟨D,_,1,_,rfl,rfl,É wc,Ct,_,_,rfl,rfl,_,_,rfl,rfl,_,rfl,eA (λ hU=>?_) λ hU=>?_⟩⟩⟩⟩
   ·have hU:=è hU;refine⟨(sz0 1),tup (wr := "much") ?_⟩;rw[r8];unfold jG;rw[Å hT,Å hU]
   have hU:¬ 1000 < S.cur.poured.getD n.toNat 0+m:=λ z=>hU (Û z);have eg:kL S "pour" [n,m]=(S.pour n m,.told "ok"):=by rw[r8];unfold jG;rw[Å hT,Ä hU]
   dsimp only [bR];refine⟨_,rfl,_,rfl,.inl ⟨D,_,0,_,rfl,rfl,É wc,we,.inl ⟨ha,_,n,_,rfl,rfl,É Bw,Fq,_,rfl,.inl ⟨D,_,1,_,rfl,rfl,É wc,Ct,_,_,rfl,rfl,?_⟩⟩⟩⟩;have Ch:IL (S.cur.poured.map V.int).length n=some n.toNat:=lF (k:=n) qk (by rw[Ê];lia);refine⟨_,rfl,_,rfl,.inl ⟨D,_,0,_,rfl,rfl,É wc,we,ha,_,n,n.toNat,rfl,rfl,Bw,Ch,?_⟩⟩;have Td:(S.cur.poured.map V.int).set n.toNat (.int (S.cur.poured.getD n.toNat 0+m))=(S.pour n m).cur.poured.map V.int:=by
    show _=(S.cur.poured.set n.toNat (S.cur.poured.getD n.toNat 0+m)).map V.int;rw[į]
   rw[Td];have mu:lS (J4 ha):=by rw[Bw];exact trivial
   have b5:d4 ha J4 (upd J4 ha (.lst ((S.pour n m).cur.poured.map V.int))):=å;have Cv:=Mi.but b5 mu nhr Mf;have Fz:=b5 _ _ nDh wc;have h5:upd J4 ha (.lst ((S.pour n m).cur.poured.map V.int)) ha=some (.lst ((S.pour n m).cur.poured.map V.int)):=aE;have bs:iI (ha::fp) H (upd J4 ha (.lst ((S.pour n m).cur.poured.map V.int))):=λ x o hx e=>b5 x o (λ z=>hx (by rw[z];exact Þ)) (sJ _ _ e);generalize upd J4 ha (.lst ((S.pour n m).cur.poured.map V.int))=J5 at Cv Fz h5 bs ⊢;obtain⟨Sy,np5,R5,M5,T5,Sz⟩:=Cv.ins;refine⟨_,rfl,r,Sy,_,rfl,Sz,lV "pour" rfl,_,rfl,.inl ⟨D,_,0,_,rfl,rfl,É Fz,we,_,rfl,.inl ⟨D,_,1,_,rfl,rfl,É Fz,Ct,r,S,fp,n,m,_,rfl,Cv,rn.sz,?_,.inl ⟨qk,hT,λ H6 b6 Ta=>?_⟩⟩⟩⟩
   ·have:=rn.mp.t1;have:=rn.mp.t0;lia
   ·refine k _ _ (λ x o hx e=>b6 _ _ (λ z=>hx (Ô _ z)) (bs x o hx e)) ?_ ?_ ?_
    ·rw[eg];exact Ta
    ·rw[eg];exact b6 _ _ Mf h5
    ·rw[eg];exact rfl
def IX:List Nat:=[48,49,50,51,52,53,54,55,56,57]
theorem TK {d:Nat} (h:48<=d/\d<=57):d∈IX:=(by decide:∀ d,d < 58->48<=d->d∈IX) d (by lia) h.1
theorem vZ {n:Int} (h:0<=n):∀ d∈sg (aR n),d∈IX:=λ d hd=>TK (i8 h d hd)
theorem eZ {n:Int} (h0:0<=n) (h:n < 10 ^ 10):(aR n).length<=10:=aew h0 (by decide) h
theorem hG {i:Int} (h0:0<=i) (h1:i < 10 ^ 10):DG (.int i)=some (aR i):=Å (by
 have:i.natAbs < 2 ^ 34:=by lia
 by_cases hz:i.natAbs=0
 ·rw[hz];decide
 ·exact Nat.lt_trans ((Nat.log2_lt hz).mpr this) (by decide))
instance (B:List Nat):Decidable (VV B):=inferInstanceAs (Decidable (10∉B/\∀ L∈E2,AX L B=true/\zG L (10::B)=true))
def CZ (x:Str):Prop:=gE x/\x.length<=40/\((∃ B,VV B/\∀ d∈sg x,d∈B)\/x = "grounded")
theorem fE {x:Str}{B:List Nat} (hB:VV B) (hA:∀ d∈B,d < 128) (hx:∀ d∈sg x,d∈B) (hl:x.length<=40):CZ x:=⟨λ d hd=>hA d (hx d hd),hl,.inl ⟨B,hB,hx⟩⟩
theorem iC {w:Str}{n:Int} (h0:0<=n) (h1:n < 10 ^ 10) (hB:VV (sg w++IX)) (hA:∀ d∈sg w++IX,d < 128) (hl:w.length<=10):CZ (w++aR n):=by
 have:=eZ h0 h1;refine fE hB hA (λ d hd=>?_) (by rw[ù];lia);rw[eN] at hd;rcases ß.1 hd with h | h
 ·exact Ě _ h
 ·exact Ĉ _ (vZ h0 d h)
theorem HM {n m:Int} (n0:0<=n) (n1:n < 10 ^ 10) (m0:0<=m) (m1:m < 10 ^ 10):CZ ("pour " ++ aR n ++ " " ++ aR m):=by
 have:=eZ n0 n1;have:=eZ m0 m1;have e1:("pour " : Str).length=5:=by decide +kernel
 have e2:(" " : Str).length=1:=by decide +kernel
 refine fE (B:=sg "pour " ++ IX) (by decide +kernel) (by decide +kernel) (λ d hd=>?_) (by rw[ù,ù,ù];lia);rw[eN,eN,eN] at hd;rcases ß.1 hd with h | h
 ·rcases ß.1 h with h | h
  ·rcases ß.1 h with h | h
   ·exact Ě _ h
   ·exact Ĉ _ (vZ n0 d h)
  ·exact Ě _ ((by decide +kernel:∀ d∈sg " ",d∈sg "pour ") d h)
 ·exact Ĉ _ (vZ m0 d h)
theorem FM {K:Ç}{t sl:Á}{a b:Int}{i:Nat}{D:Ends}{σ:St}{H:Hp} (h0:σ[0]? = some (some (.ref t))) (tp:fQ H t sl) (a0:0 < a) (a1:a<=2000) (b0:0 < b) (b1:b<=2000)
  (k:∀ n H',Ext t sl H H'->0<=n->n < 10 ^ 10->D.nx (σ.set i (some (.str (aR n)))) H') :
  nZ (JN FN (bM (iJ (AM K) (AZ (bM (jC jD [] E0 (bM (cF 0) (bM (tC (V.int a)) fX))) (bM (jC jD [] E0 (bM (cF 0) (bM (tC (V.int b)) fX)))
   (bM (jC jD [] E0 (bM (cF 0) (bM (iJ (rI QE λ i j=>V.int (i ^ j.toNat)) (tC (V.int 10)) (tC (V.int 10))) fX))) fX))))
   (iJ (rI QF λ i j=>V.int (i / j)) (jC jD [] E0 (bM (cF 0) (bM (tC (V.int 8)) fX))) (tC (V.int 3)))) fX)) (bL i) D σ H:=by
 refine⟨_,h0,t,sl,a,rfl,tp,a0,by lia,λ n1 H1 d1 t1 l1 u1=>⟨_,h0,t,sl,b,rfl,t1,b0,by lia,λ n2 H2 d2 t2 l2 u2=>⟨_,h0,_,_,rfl,rfl,?c,t,sl,_,rfl,t2,?p,?q,λ n3 H3 d3 t3 l3 u3=>⟨(sz0 3),λ p hp=>?_⟩⟩⟩⟩
 case c=>exact (by unfold QE;decide)
 case p=>decide
 case q=>decide
 have u3:n3 < 10 ^ 10:=u3;have tm:p≠t:=λ z=>by obtain⟨o,e⟩:=t3.some;rw[z,e] at hp;cases hp
 have s4:=È (o:=HO.lst [.int n1,.int n2,.int n3]) hp;have g4:upd H3 p (.lst [.int n1,.int n2,.int n3]) p=some (.lst [.int n1,.int n2,.int n3]):=aE;have e4:Ext t sl H (upd H3 p (.lst [.int n1,.int n2,.int n3])):=⟨((d1.trans d2).trans d3).trans s4.but,t3.same s4⟩;generalize upd H3 p (.lst [.int n1,.int n2,.int n3])=H4 at s4 g4 e4 ⊢;refine⟨_,h0,t,sl,8,rfl,e4.tp,by decide,by decide,λ r H5 d5 t5 r0 r1=>⟨_,_,rfl,rfl,?_,?_⟩⟩
 ·exact⟨by decide,by decide⟩
 have q0:0<=r / 3:=Int.ediv_nonneg r0 (by decide);have q1:r / 3 < 3:=by lia
 obtain⟨j,hj⟩:=ú q0;have hj3:j < 3:=by lia
 have g5:=d5 _ _ tm g4;have e5:Ext t sl H H5:=⟨e4.bt.trans d5,t5⟩;obtain⟨n,hn,qk,Sd⟩:∃ n:Int,([.int n1,.int n2,.int n3]:List V)[j]? = some (.int n)/\0<=n/\n < 10 ^ 10:=by
  match j,hj3 with
  | 0,_=>exact⟨n1,rfl,l1,by lia⟩
  | 1,_=>exact⟨n2,rfl,l2,by lia⟩
  | 2,_=>exact⟨n3,rfl,l3,u3⟩
 dsimp only;rw[hj];exact .inl ⟨p,_,((j:Nat):Int),_,rfl,rfl,É g5,eJ hn,_,_,rfl,hG qk Sd,k n H5 e5 qk Sd⟩
def yH (K:Ç):Sp:=λ vs H Q _=>∃ (t sl:Á) (x:V),vs=[.ref t,x]/\fQ H t sl/\∀ z H',Ext t sl H H'->CZ z->Q (.str z) H'
theorem BK (F:Fun K "_law_row" "_law_row" (aU 110) f fd) (T:Txt mg) (TS:TxtS mg) (gq:Callee P w K mg base "_law_draw" ["tape","many"] 1 jD f1 je):FnOk P w K mg base gP 2 f fd ["tape","net"] (yH K):=by
 refine F.ok ["tape","net","number","amount","some"] λ sc iu A outer s H vs Q E hr h=>?_
 ·obtain⟨t,sl,x,rfl,tp,k⟩:=h
  (with_reducible refine⟨_,(aF (pL 2 sc.nd (aQ bP rf (by with_unfolding_all exact TS.b_str) bV (aB (px K (aZ (aB (bZ (by with_unfolding_all exact gq) hr (aB (pv 0) (aB aG aD))) (aB (bZ (by with_unfolding_all exact gq) hr (aB (pv 0) (aB aG aD))) (aB (bZ (by with_unfolding_all exact gq) hr (aB (pv 0) (aB (aS DW aG aG) aD))) aD)))) (aS jH (bZ (by with_unfolding_all exact gq) hr (aB (pv 0) (aB aG aD))) aG)) aD)))
   (aF (pL 3 sc.nd (aQ bP rf (by with_unfolding_all exact TS.b_str) bV (aB (px K (aZ (aB (bZ (by with_unfolding_all exact gq) hr (aB (pv 0) (aB aG aD))) (aB (bZ (by with_unfolding_all exact gq) hr (aB (pv 0) (aB aG aD))) (aB (bZ (by with_unfolding_all exact gq) hr (aB (pv 0) (aB (aS DW aG aG) aD))) aD)))) (aS jH (bZ (by with_unfolding_all exact gq) hr (aB (pv 0) (aB aG aD))) aG)) aD)))
   (aF (pL 4 sc.nd (aZ (aB (aS eF (aS eF (aS eF aK (pv 2)) aK) (pv 3)) (aB (aS eF aK (aQ bP rf (by with_unfolding_all exact TS.b_str) bV (aB (bZ (by with_unfolding_all exact gq) hr (aB (pv 0) (aB aG aD))) aD))) (aB (aS eF aK (pv 2)) (aB aK (aB aK aD)))))))
   (aF (pL 4 sc.nd (aS mS (pv 4) (aZ (aB aK (aB aK (aB aK (aB aK (aB (aS eF aK (pv 3)) (aB (aS eF aK (pv 3)) (aB aK aD))))))))))
   (aI (aO (px K (pv 4) (bZ (by with_unfolding_all exact gq) hr (aB (pv 0) (aB aG aD)))))))))),?_⟩)
  refine FM (K:=K) (sl:=sl) rfl tp (by decide) (by decide) (by decide) (by decide) λ n H1 e1 n0 n1=>?_;refine FM (K:=K) (sl:=sl) rfl e1.tp (by decide) (by decide) (by decide) (by decide) λ m H2 e2 m0 m1=>?_;have Cw:=e1.trans e2;have ln:=eZ n0 n1;have lm:=eZ m0 m1;have c5:("pour " : Str).length=5:=by decide +kernel
  have c1:(" " : Str).length=1:=by decide +kernel
  have c3:("go " : Str).length=3:=by decide +kernel
  have c6:("tips " : Str).length=5:=by decide +kernel
  have c7:("pour 0 " : Str).length=7:=by decide +kernel
  refine⟨_,rfl,_,_,rfl,rfl,by lia,_,_,rfl,rfl,by rw[ù];lia,_,rfl,_,_,rfl,rfl,by rw[ù,ù];lia,?_⟩;refine⟨_,rfl,t,sl,9,rfl,Cw.tp,by decide,by decide,λ q H3 d3 t3 q0 q1=>?_⟩;have lq:=eZ q0 (by lia);refine⟨_,_,rfl,hG q0 (by lia),_,_,rfl,rfl,by lia,?_⟩;refine⟨_,rfl,_,_,rfl,rfl,by lia,(sz0 5),λ p hp=>?_⟩;have e3:Ext t sl H H3:=⟨Cw.bt.trans d3,t3⟩;have w1:upd H3 p (.lst [.str ("pour " ++ aR n ++ " " ++ aR m),.str ("go " ++ aR q),.str ("tips " ++ aR n),.str "held",.str "coming"]) p=some (.lst [.str ("pour " ++ aR n ++ " " ++ aR m),.str ("go " ++ aR q),.str ("tips " ++ aR n),.str "held",.str "coming"]):=aE;have e4:=e3.new (o:=HO.lst [.str ("pour " ++ aR n ++ " " ++ aR m),.str ("go " ++ aR q),.str ("tips " ++ aR n),.str "held",.str "coming"]) hp;generalize upd H3 p (.lst [.str ("pour " ++ aR n ++ " " ++ aR m),.str ("go " ++ aR q),.str ("tips " ++ aR n),.str "held",.str "coming"])=H4 at w1 e4 ⊢;refine⟨_,rfl,_,rfl,_,_,rfl,rfl,by lia,_,rfl,_,_,rfl,rfl,by lia,(sz0 7),λ p2 vt=>?_⟩;have s5:=È (o:=HO.lst [.str "doors",.str "tick",.str "came",.str "grounded",.str ("go " ++ aR m),.str ("pour 0 " ++ aR m),.str "go 2"]) vt;have e5:=e4.new (o:=HO.lst [.str "doors",.str "tick",.str "came",.str "grounded",.str ("go " ++ aR m),.str ("pour 0 " ++ aR m),.str "go 2"]) vt;have w2:upd H4 p2 (.lst [.str "doors",.str "tick",.str "came",.str "grounded",.str ("go " ++ aR m),.str ("pour 0 " ++ aR m),.str "go 2"]) p2=some (.lst [.str "doors",.str "tick",.str "came",.str "grounded",.str ("go " ++ aR m),.str ("pour 0 " ++ aR m),.str "go 2"]):=aE;generalize upd H4 p2 (.lst [.str "doors",.str "tick",.str "came",.str "grounded",.str ("go " ++ aR m),.str ("pour 0 " ++ aR m),.str "go 2"])=H5 at s5 e5 w2 ⊢;refine⟨p,p2,_,_,rfl,rfl,s5 _ _ w1,w2,(sz0 12),λ p3 Co=>?_⟩;let zs:List Str:=["pour " ++ aR n ++ " " ++ aR m,"go " ++ aR q,"tips " ++ aR n,"held","coming","doors","tick","came","grounded","go " ++ aR m,"pour 0 " ++ aR m,"go 2"];have Te:∀ z∈zs,CZ z:=by
   intro z hz;simp only [zs,Ñ,Ă,or_false] at hz;rcases hz with rfl | rfl | rfl | rfl | rfl | rfl | rfl | rfl | rfl | rfl | rfl | rfl
   ·exact HM n0 n1 m0 m1
   ·exact iC q0 (by lia) (by decide +kernel) (by decide +kernel) (by lia)
   ·exact iC n0 n1 (by decide +kernel) (by decide +kernel) (by lia)
   ·exact fE (B:=sg "held") (by decide +kernel) (by decide +kernel) (λ d h=>h) (by decide +kernel)
   ·exact fE (B:=sg "coming") (by decide +kernel) (by decide +kernel) (λ d h=>h) (by decide +kernel)
   ·exact fE (B:=sg "doors") (by decide +kernel) (by decide +kernel) (λ d h=>h) (by decide +kernel)
   ·exact fE (B:=sg "tick") (by decide +kernel) (by decide +kernel) (λ d h=>h) (by decide +kernel)
   ·exact fE (B:=sg "came") (by decide +kernel) (by decide +kernel) (λ d h=>h) (by decide +kernel)
   ·exact⟨(by decide +kernel:∀ c∈sg "grounded",c < 128),by decide +kernel,.inr rfl⟩
   ·exact iC m0 m1 (by decide +kernel) (by decide +kernel) (by lia)
   ·exact iC m0 m1 (by decide +kernel) (by decide +kernel) (by lia)
   ·exact fE (B:=sg "go 2") (by decide +kernel) (by decide +kernel) (λ d h=>h) (by decide +kernel)
  have e6:=e5.new (o:=HO.lst (zs.map V.str)) Co;have w3:upd H5 p3 (.lst (zs.map V.str)) p3=some (.lst (zs.map V.str)):=aE;have n3:p3≠t:=e5.ne Co;show K2 (iJ (AM K) (cF 4) (jC jD [] E0 (bM (cF 0) (bM (tC (V.int 12)) fX)))) _ _ (upd H5 p3 (.lst (zs.map V.str)));generalize upd H5 p3 (.lst (zs.map V.str))=H6 at e6 w3 ⊢;refine⟨_,rfl,_,rfl,t,sl,12,rfl,e6.tp,by decide,by decide,λ r H7 d7 t7 r0 r1=>?_⟩;obtain⟨i,rfl⟩:=ú r0;obtain⟨z,hz⟩:∃ z,zs[i]? = some z:=⟨_,Ċ (by show i < 12;lia)⟩;exact .inl ⟨p3,_,((i:Nat):Int),.str z,rfl,rfl,É (d7 _ _ n3 w3),eJ (oU hz),k z H7 ⟨e6.bt.trans d7,t7⟩ (Te z (Ó hz))⟩
end
theorem Fr.trans {H0 H1 H2:Hp}{G1 G2:List (List Á)} (a:Fr H0 H1 G1) (b:Fr H1 H2 G2):Fr H0 H2 (G2++G1):=by
 refine⟨a.sm.trans b.sm,λ g hg x hx=>?_,?_⟩
 ·rcases ß.1 hg with h | h
  ·exact⟨a.sm.free (b.nw g h x hx).1,(b.nw g h x hx).2⟩
  ·obtain⟨n,o,e⟩:=a.nw g h x hx;exact⟨n,b.sm x o e⟩
 ·rw[List.pairwise_append];refine⟨b.dj,a.dj,λ g hg g' hg' x hx uc=>?_⟩;obtain⟨o,e⟩:=(a.nw g' hg' x uc).2;rw[(b.nw g hg x hx).1] at e;cases e
theorem EE {K:Ç}{te:TE}{fr:List (Option Nat)}{σ:St}{H:Hp}{Q:Á->Hp->Prop}{nl:Á}{p:Bool->V} (A:Bool->V->List Á->Hp->Prop) (Fg:EM fr σ=[none]) (hl:H nl=some (.lst (two p)))
  (ke:∀ (b:Bool) (U:Hp) (Q1:VK),aJ H U->(∀ w g U',aJ U U'->(∀ x∈g,U x=none/\∃ o,U' x=some o)->A b w g U'->Q1 w U')->te [some (p b)] U Q1)
  (hA:∀ b w g U U' D xs,A b w g U->d4 D U U'->U D=some (.lst xs)->D∉g->A b w g U')
  (k:∀ (D:Á) (y:Bool->V) (g:Bool->List Á) (H':Hp),H D=none->H' D=some (.lst (two y))->aJ H H'->(∀ b,A b (y b) (g b) H')->Fr H H' [g true,g false,[D]]->Q D H') :
  j6 (R9 K nl) (bL 0) DC te fr σ H Q:=by
 refine SO (x:=p false) (y:=p true) Fg hl λ D hD=>?_;have sU:=È (o:=HO.lst []) hD;have gU:upd H D (.lst []) D=some (.lst []):=aE;have F0:=(Fr.nil H).add (g:=[D]) (Gr.of sU) (λ x hx=>by have:=ã.1 hx;subst this;exact⟨hD,_,gU⟩);generalize upd H D (.lst [])=U at sU gU F0;refine ke false _ _ sU λ y0 g0 H5 s5 n0 a0=>?_;have g5:=s5 _ _ gU;have Tf:D∉g0:=λ z=>by rw[(n0 D z).1] at gU;cases gU
 have Mj:aJ H (upd H5 D (.lst [y0])):=(sU.trans s5).put hD;have Cy:upd H5 D (.lst [y0]) D=some (.lst [y0]):=aE;have a0':=hA _ _ _ _ _ D _ a0 (å (o:=HO.lst [y0])) g5 Tf;have F1:=F0.add (g:=g0) ((Gr.of s5).trans (Gr.upd (a:=D) (o:=HO.lst [y0]))) (λ x hx=>⟨(n0 x hx).1,by
  obtain⟨o,e⟩:=(n0 x hx).2;exact Gr.upd x o e⟩)
 refine⟨g5,by decide,É (Mj _ _ hl),rfl,?_⟩;generalize upd H5 D (.lst [y0])=U1 at Mj Cy a0' F1 ⊢;refine ke true _ _ Mj λ y1 g1 H6 s6 n1 a1=>?_;have g6:=s6 _ _ Cy;have nD1:D∉g1:=λ z=>by rw[(n1 D z).1] at Cy;cases Cy
 have s6':aJ H (upd H6 D (.lst [y0,y1])):=(Mj.trans s6).put hD;have g5x:=Cy;have Tg:=hA _ _ _ _ _ D _ (hA _ _ _ _ H6 D _ a0' s6.but Cy Tf) (å (o:=HO.lst [y0,y1])) g6 Tf;have Th:=hA _ _ _ _ _ D _ a1 (å (o:=HO.lst [y0,y1])) g6 nD1;have F2:=F1.add (g:=g1) ((Gr.of s6).trans (Gr.upd (a:=D) (o:=HO.lst [y0,y1]))) (λ x hx=>⟨(n1 x hx).1,by
  obtain⟨o,e⟩:=(n1 x hx).2;exact Gr.upd x o e⟩)
 refine⟨g6,by decide,É (s6' _ _ hl),k D (sel y0 y1) (sel g0 g1) _ hD aE s6' (λ b=>?_) F2⟩;cases b with
 | false=>exact Tg
 | true=>exact Th
structure Dj (t sl nl dl rl hl:Á) (ha:Bool->Á) (fd fr:Bool->List Á):Prop where
 b1:∀ x∈[t,sl,nl,dl,rl,hl],∀ b,x∉fd b/\x∉fr b/\x≠ha b
 nt:∀ x∈[nl,dl,rl,hl],x≠t
 hh:∀ b,ha b≠ha (!b)
 hd:∀ b c,ha b∉fd c
 hr:∀ b c,ha b∉fr c
 dr:∀ b c x,x∈fd b->x∉fr c
 dd:∀ b x,x∈fd b->x∉fd (!b)
 rr:∀ b x,x∈fr b->x∉fr (!b)
structure D16 (K:Ç) (C CD:Á) (H:Hp) (t sl nl dl rl hl:Á) (dk e r ha:Bool->Á) (fd fr:Bool->List Á) (p:Bool->V) (net:Bool->Net) (S T:Bool->RunS):Prop where
 tp:fQ H t sl
 hn:H nl=some (.lst (two p))
 hd:H dl=some (.lst (two λ b=>.ref (dk b)))
 hr:H rl=some (.lst (two λ b=>.ref (r b)))
 hh:H hl=some (.lst (two λ b=>.ref (ha b)))
 di:∀ b,∃ dx,H (dk b)=some (.ins CD dx [("run",.ref (e b))])
 de:∀ b,cB K C H (e b) (S b) (fd b)
 ra:∀ b,cB K C H (r b) (T b) (fr b)
 ho:∀ b,H (ha b)=some (.lst ((T b).cur.poured.map V.int))
 np:∀ b,Is K H (iT (net b)) (p b)
section
variable {CD:Á}{H H':Hp}{t sl nl dl rl hl:Á}{dk e r ha:Bool->Á}{fd fr:Bool->List Á}{p:Bool->V}{net:Bool->Net}{S T:Bool->RunS}
theorem rV {H:Hp}{x y:Á}{xs:List V}{c d:Á}{f:List (Str×V)} (h1:H x=some (.lst xs)) (h2:H y=some (.ins c d f)):x≠y:=λ z=>by rw[z,h2] at h1;cases h1
theorem D16.same (h:D16 K C CD H t sl nl dl rl hl dk e r ha fd fr p net S T) (s:aJ H H'):D16 K C CD H' t sl nl dl rl hl dk e r ha fd fr p net S T:=
 ⟨h.tp.same s,s _ _ h.hn,s _ _ h.hd,s _ _ h.hr,s _ _ h.hh,λ b=>(h.di b).imp λ dx q=>s _ _ q,λ b=>(h.de b).same s,λ b=>(h.ra b).same s,λ b=>s _ _ (h.ho b),λ b=>Ï s.ts _ _ (h.np b)⟩
theorem D16.draw (h:D16 K C CD H t sl nl dl rl hl dk e r ha fd fr p net S T) (j:Dj t sl nl dl rl hl ha fd fr) (b:d4 t H H') (tp':fQ H' t sl):D16 K C CD H' t sl nl dl rl hl dk e r ha fd fr p net S T:=by
 obtain⟨q,ht⟩:=h.tp.l;refine⟨tp',b _ _ (j.nt _ (by simp)) h.hn,b _ _ (j.nt _ (by simp)) h.hd,b _ _ (j.nt _ (by simp)) h.hr,b _ _ (j.nt _ (by simp)) h.hh,λ c=>?_,λ c=>?_,λ c=>?_,λ c=>b _ _ (λ z=>(j.b1 t (by simp) c).2.2 z.symm) (h.ho c),λ c=>Ï (b.ts h.tp.mut) _ _ (h.np c)⟩
 ·obtain⟨dx,q2⟩:=h.di c;exact⟨dx,b _ _ (rV ht q2).symm q2⟩
 ·obtain⟨dx,np,R,M,T',ei⟩:=(h.de c).ins;exact (h.de c).but b h.tp.mut (rV ht ei) (j.b1 t (by simp) c).1
 ·obtain⟨dx,np,R,M,T',ei⟩:=(h.ra c).ins;exact (h.ra c).but b h.tp.mut (rV ht ei) (j.b1 t (by simp) c).2.1
theorem D16.mv (h:D16 K C CD H t sl nl dl rl hl dk e r ha fd fr p net S T) {L:List Á}{S' T':Bool->RunS} (bl:iI L H H') (hL:∀ x∈L,∃ xs,H x=some (.lst xs)) (h0:∀ x∈[t,sl,nl,dl,rl,hl],x∉L)
  (hde:∀ b,cB K C H' (e b) (S' b) (fd b)\/(S' b=S b/\∀ x∈fd b,x∉L)) (hra:∀ b,(cB K C H' (r b) (T' b) (fr b)/\H' (ha b)=some (.lst ((T' b).cur.poured.map V.int)))\/(T' b=T b/\ha b∉L/\∀ x∈fr b,x∉L)) :
  D16 K C CD H' t sl nl dl rl hl dk e r ha fd fr p net S' T':=by
 have hm:∀ x∈L,lS (H x):=λ x hx=>by obtain⟨xs,q⟩:=hL x hx;rw[q];exact trivial
 have ni:∀ {y c d:Á}{f:List (Str×V)},H y=some (.ins c d f)->y∉L:=λ q z=>by obtain⟨xs,q2⟩:=hL _ z;rw[q] at q2;cases q2
 obtain⟨ns,pos,cell,et,es,g⟩:=h.tp;refine⟨⟨ns,pos,cell,bl _ _ (h0 _ (by simp)) et,bl _ _ (h0 _ (by simp)) es,g⟩,bl _ _ (h0 _ (by simp)) h.hn,bl _ _ (h0 _ (by simp)) h.hd,bl _ _ (h0 _ (by simp)) h.hr,bl _ _ (h0 _ (by simp)) h.hh,λ c=>?_,λ c=>?_,λ c=>?_,λ c=>?_,λ c=>Ï (sD bl hm) _ _ (h.np c)⟩
 ·obtain⟨dx,q⟩:=h.di c;exact⟨dx,bl _ _ (ni q) q⟩
 ·rcases hde c with q | ⟨q,q2⟩
  ·exact q
  ·obtain⟨dx,np,R,M,T2,ei⟩:=(h.de c).ins;rw[q];exact (h.de c).butL bl hm (ni ei) q2
 ·rcases hra c with q | ⟨q,_,q2⟩
  ·exact q.1
  ·obtain⟨dx,np,R,M,T2,ei⟩:=(h.ra c).ins;rw[q];exact (h.ra c).butL bl hm (ni ei) q2
 ·rcases hra c with q | ⟨q,q1,_⟩
  ·exact q.2
  ·rw[q];exact bl _ _ q1 (h.ho c)
theorem D16.desk {b:Bool}{S':RunS} (h:D16 K C CD H t sl nl dl rl hl dk e r ha fd fr p net S T) (j:Dj t sl nl dl rl hl ha fd fr) (bl:iI (fd b) H H') (ra:cB K C H' (e b) S' (fd b)):D16 K C CD H' t sl nl dl rl hl dk e r ha fd fr p net (put S b S') T:=by
 refine h.mv bl (h.de b).lists (λ x hx=>(j.b1 x hx b).1) (λ c=>?_) λ c=>.inr ⟨rfl,j.hd c b,λ x hx z=>j.dr b c x z hx⟩
 by_cases hc:c=b
 ·subst hc;rw[mR];exact .inl ra
 ·rw[vB hc];have:=M0 hc;subst this;exact .inr ⟨rfl,λ x hx z=>j.dd b x z hx⟩
theorem D16.law {b:Bool}{T':RunS} (h:D16 K C CD H t sl nl dl rl hl dk e r ha fd fr p net S T) (j:Dj t sl nl dl rl hl ha fd fr) (bl:iI (ha b::fr b) H H') (ra:cB K C H' (r b) T' (fr b)) (ho:H' (ha b)=some (.lst (T'.cur.poured.map V.int))) :
  D16 K C CD H' t sl nl dl rl hl dk e r ha fd fr p net S (put T b T'):=by
 refine h.mv bl (λ x hx=>?_) (λ x hx z=>?_) (λ c=>.inr ⟨rfl,λ x hx z=>?_⟩) λ c=>?_
 ·rcases Ñ.1 hx with rfl | hx
  ·exact⟨_,h.ho b⟩
  ·exact (h.ra b).lists x hx
 ·rcases Ñ.1 z with z | z
  ·exact (j.b1 x hx b).2.2 z
  ·exact (j.b1 x hx b).2.1 z
 ·rcases Ñ.1 z with z | z
  ·rw[z] at hx;exact j.hd b c hx
  ·exact j.dr c b x hx z
 ·by_cases hc:c=b
  ·subst hc;rw[mR];exact .inl ⟨ra,ho⟩
  ·rw[vB hc];have:=M0 hc;subst this;refine .inr ⟨rfl,λ z=>?_,λ x hx z=>?_⟩
   ·rcases Ñ.1 z with z | z
    ·exact j.hh b z.symm
    ·exact j.hr _ _ z
   ·rcases Ñ.1 z with z | z
    ·rw[z] at hx;exact j.hr _ _ hx
    ·exact j.rr b x z hx
end
theorem Q8 {S:RunS}{d:Nat} (h:Rn S d) (w:Str) {l:List Int} (hl:∀ n∈l,0<=n):Rn (kL S w l).1 (d+1)/\(kL S w l).1.net=S.net:=by
 have up:Rn S (d+1):=h.up (by lia)
 match l,hl with
 | [],_=>exact⟨up,rfl⟩
 | [n],hl=>
  show Rn (if w = "go" then IR S n else if w = "tips" then rD S n else (S,.no "row")).1 (d+1)/\(if w = "go" then IR S n else if w = "tips" then rD S n else (S,.no "row")).1.net=S.net;have hn:=hl n (by simp);have ht:=h.mp.t0
  split
  ·unfold IR
   split
   ·exact⟨up,rfl⟩
   ·exact⟨h.go (by lia),rfl⟩
  ·split
   ·exact⟨up,rfl⟩
   ·exact⟨up,rfl⟩
 | [n,m],hl=>
  show Rn (if w = "pour" then jG S n m else (S,.no "row")).1 (d+1)/\(if w = "pour" then jG S n m else (S,.no "row")).1.net=S.net;have hm:=hl m (by simp)
  split
  ·unfold jG
   split
   ·split
    ·exact⟨up,rfl⟩
    ·exact⟨h.pour hm (by lia),rfl⟩
   ·exact⟨up,rfl⟩
  ·exact⟨up,rfl⟩
 | _::_::_::_,_=>exact⟨up,rfl⟩
theorem GP {S:RunS}{d:Nat}{z:Str} (h:Rn S d) (ha:gE z):Rn (jQ S z).1 (d+1)/\(jQ S z).1.net=S.net:=by
 have hs:∀ u∈Txt.split z (one 32),gE u:=λ u hu=>fB ha hu;unfold jQ;generalize Txt.split z (one 32)=ws at hs
 match ws,hs with
 | [],_=>exact⟨h.up (by lia),rfl⟩
 | w::r,hs=>
  have e:tM S (w::r)=match iQ r with
   | some l=>kL S w l
   | none=>(S,.no "row"):=rfl
  rw[e];cases hn:iQ r with
  | none=>exact⟨h.up (by lia),rfl⟩
  | some l=>exact Q8 h w λ n Ou=>(tW (λ u hu=>hs u (Ô _ hu)) hn n Ou).1
theorem lX.ne {K:Ç}{H:Hp}{a:Ans}{x y:V}{Q:V->Hp->Prop} (h:lX K H a x) (h':lX K H a y) (k:Q (.bl false) H):rNe x y H Q\/yZ K x y H Q:=by
 cases a with
 | told z=>rw[show x=.str z from h,show y=.str z from h'];exact .inl ⟨by simp [RQ],by simpa using k⟩
 | no w=>obtain⟨p,rfl,q⟩:=h;obtain⟨p',rfl,q'⟩:=h';exact .inr ⟨[.str w],by simp,by simp [jP,D.depth],Ý q (.cons (.s _) .nil),Ý q' (.cons (.s _) .nil),k⟩
theorem lX.same {K:Ç}{H H':Hp}{a:Ans}{v:V} (h:lX K H a v) (s:aJ H H'):lX K H' a v:=by
 cases a with
 | told z=>exact h
 | no w=>obtain⟨p,e,q⟩:=h;exact⟨p,e,s.tup q⟩
theorem lX.butL {K:Ç}{H H':Hp}{a:Ans}{v:V}{L:List Á} (h:lX K H a v) (ts:bW K H H'):lX K H' a v:=by
 cases a with
 | told z=>exact h
 | no w=>obtain⟨p,e,q⟩:=h;exact⟨p,e,ts p _ q⟩
theorem SK {K:Ç}{t:Á}{ta:TA}{gs:List G}{g:TG}{tb R:TS}{D:Ends}{σ:St}{H:Hp} (h:MkGL K t gs ta) (hl:gs.length<=100) (ht:∃ q,H t=some (.lst q)) (Pv:Á->List V->Nat->St->Hp->Prop)
  (h0:∀ l xs H',aJ H H'->H' l=some (.lst xs)->l≠t->eE K (sB t H') gs xs->Pv l xs 0 σ H') (hk:∀ l xs i σ H,Pv l xs i σ H->aY K H l xs)
  (hs:∀ l xs i x σ H,xs[i]? = some x->Pv l xs i σ H->g x σ H λ ba H2=>tb { D with nx:=Pv l xs (i+1),ct:=Pv l xs (i+1),bk:=R D } ba H2) (hd:∀ l xs σ H,Pv l xs xs.length σ H->R D σ H):gZ (K5 (CC K (AZ ta)) g tb) R D σ H:=by
 dsimp only [gZ,K5,CC];refine MC (K:=K) (t:=t) h hl ht λ l xs H1 s1 e1 n1 i1=>?_;exact⟨l,rfl,⟨_,É e1⟩,j9 (K:=K) (a:=l) (xs:=xs) (D:={ D with nx:=R D }) (Pv l xs) (h0 l xs H1 s1 e1 n1 i1) (λ i σ H _ p=>hk _ _ _ _ _ p) (λ i x σ H hi p=>hs l xs i x σ H hi p) (λ σ H p=>hd _ _ _ _ p)⟩
theorem UN {ak:Type}{A:Bool->ak->Prop} (h:∀ b,∃ x,A b x):∃ f:Bool->ak,∀ b,A b (f b):=by
 obtain⟨x,hx⟩:=h false;obtain⟨y,hy⟩:=h true;exact⟨sel x y,λ b=>by cases b;exact hx;exact hy⟩
theorem VQ {H H':Hp}{t sl nl dl rl hl:Á}{ha:Bool->Á}{fd fr:Bool->List Á} (F:Fr H H' [[ha true],[ha false],[hl],fr true,fr false,[rl],fd true,fd false,[dl]]) (o1:∃ o,H t=some o) (o2:∃ o,H sl=some o) (o3:∃ o,H nl=some o) (ht:t≠nl):Dj t sl nl dl rl hl ha fd fr:=by
 let iH:Bool->Nat:=λ b=>if b then 0 else 1
 let iR:Bool->Nat:=λ b=>if b then 3 else 4
 let iD:Bool->Nat:=λ b=>if b then 6 else 7
 have gH:∀ b,([[ha true],[ha false],[hl],fr true,fr false,[rl],fd true,fd false,[dl]]:List (List Á))[iH b]? = some [ha b]:=λ b=>by cases b <;> rfl
 have gR:∀ b,([[ha true],[ha false],[hl],fr true,fr false,[rl],fd true,fd false,[dl]]:List (List Á))[iR b]? = some (fr b):=λ b=>by cases b <;> rfl
 have gD:∀ b,([[ha true],[ha false],[hl],fr true,fr false,[rl],fd true,fd false,[dl]]:List (List Á))[iD b]? = some (fd b):=λ b=>by cases b <;> rfl
 have jz:∀ x,(∃ o,H x=some o)->∀ b,x∉fd b/\x∉fr b/\x≠ha b:=λ x ⟨o,e⟩ b=>⟨F.old e (Ó (gD b)),F.old e (Ó (gR b)),λ z=>F.old e (Ó (gH b)) (by rw[z];exact ã.2 rfl)⟩;have new:∀ (i:Nat) (x:Á),(i=2\/i=5\/i=8)->([[ha true],[ha false],[hl],fr true,fr false,[rl],fd true,fd false,[dl]]:List (List Á))[i]? = some [x]->∀ b,x∉fd b/\x∉fr b/\x≠ha b:=λ i x hi e b=>by
  have m:x∈[x]:=ã.2 rfl;refine⟨F.at (i:=i) (j:=iD b) ?_ e (gD b) x m,F.at (i:=i) (j:=iR b) ?_ e (gR b) x m,λ z=>F.at (i:=i) (j:=iH b) ?_ e (gH b) x m (by rw[z];exact ã.2 rfl)⟩
  all_goals (rcases hi with rfl | rfl | rfl <;> cases b <;> decide)
 have tn:∀ (i:Nat) (x:Á),([[ha true],[ha false],[hl],fr true,fr false,[rl],fd true,fd false,[dl]]:List (List Á))[i]? = some [x]->x≠t:=λ i x e z=>by
  obtain⟨o,e1⟩:=o1;exact F.old e1 (Ó e) (by rw[z];exact ã.2 rfl)
 refine⟨λ x hx b=>?_,λ x hx=>?_,λ b z=>?_,λ b c z=>?_,λ b c z=>?_,λ b c x hx z=>?_,λ b x hx z=>?_,λ b x hx z=>?_⟩
 ·simp only [Ñ,Ă,or_false] at hx;rcases hx with rfl | rfl | rfl | rfl | rfl | rfl
  ·exact jz _ o1 b
  ·exact jz _ o2 b
  ·exact jz _ o3 b
  ·exact new 8 _ (.inr (.inr rfl)) rfl b
  ·exact new 5 _ (.inr (.inl rfl)) rfl b
  ·exact new 2 _ (.inl rfl) rfl b
 ·simp only [Ñ,Ă,or_false] at hx;rcases hx with rfl | rfl | rfl | rfl
  ·exact ht.symm
  ·exact tn 8 _ rfl
  ·exact tn 5 _ rfl
  ·exact tn 2 _ rfl
 ·exact F.at (i:=iH b) (j:=iH (!b)) (by cases b <;> decide) (gH b) (gH (!b)) (ha b) (ã.2 rfl) (by rw[z];exact ã.2 rfl)
 ·exact F.at (i:=iH b) (j:=iD c) (by cases b <;> cases c <;> decide) (gH b) (gD c) (ha b) (ã.2 rfl) z
 ·exact F.at (i:=iH b) (j:=iR c) (by cases b <;> cases c <;> decide) (gH b) (gR c) (ha b) (ã.2 rfl) z
 ·exact F.at (i:=iD b) (j:=iR c) (by cases b <;> cases c <;> decide) (gD b) (gR c) x hx z
 ·exact F.at (i:=iD b) (j:=iD (!b)) (by cases b <;> decide) (gD b) (gD (!b)) x hx z
 ·exact F.at (i:=iR b) (j:=iR (!b)) (by cases b <;> decide) (gR b) (gR (!b)) x hx z
theorem x8:(∀ m∈sI,(∀ c∈sg m,c < 128)/\m.length<=10)/\sI.length<=30:=⟨by decide +kernel,by decide⟩
theorem xL {z y:Str} (rf:CZ z) (h:GX sI z y):¬ o5 (gX y):=by
 rcases rf.2.2 with ⟨B,hB,hx⟩ | rfl
 ·exact Q4 AT hB hx h
 ·exact TB AT h
theorem xK {z:Str} (rf:CZ z):¬ o5 (gX z):=xL rf (.inl ⟨0,λ d h=>.inl h,Nat.le_succ _,.inr λ d h=>h⟩)
theorem KW {ak:Type} (f:Bool->ak) (b:Bool):put f b (f b)=f:=funext λ c=>by
 by_cases h:c=b
 ·subst h;rw[mR]
 ·rw[vB h]
def xR:List Str:=["held","coming","doors","tick","came","grounded"]
theorem ME:∀ x∈xR,((∀ c∈sg x,c < 128)/\x.length<=10)/\32∉sg x/\¬ o5 x:=by decide +kernel
theorem GO {S:RunS}{z:Str} (h:32∉sg z):jQ S z=(S,lP S z)/\gX z=z:=by
 unfold jQ gX;rw[iV h];exact⟨rfl,rfl⟩
def EZ:List G:=[.non,.int 7,.lst [],.tup [.str "held"],.bl true]
theorem JZ:∀ g∈EZ,∀ z,g≠.str z:=by
 intro g hg z;simp only [EZ,Ñ,Ă,or_false] at hg;rcases hg with h | h | h | h | h <;> subst h <;> exact λ e=>by cases e
section
variable {CD:Á}
theorem PD {U:Hp}{x:V}{net:Net}{Q:VK} (hx:Is K U (iT net) x) (nok:NetOk net) (pz:NetFull net)
  (k:∀ dk dx e fp H5,aJ U H5->(∀ b∈fp,U b=none)->H5 dk=some (.ins CD dx [("run",.ref e)])->cB K C H5 e (o0 net) fp->Q (.ref dk) H5):QJ CD (pO K C CD) [] E0 (bM (jC (tR K) [] E0 (bM (cF 0) fX)) fX) [some x] U Q:=by
 have Cs:=BM nok pz;refine⟨_,rfl,x,net,rfl,hx,Cs,λ H1 s1=>λ r dx hr Ti ndx=>?_⟩;have m1:aJ H1 (upd (upd H1 dx (.own r)) r (.ins CD dx [])):=λ b o e=>by
  rw[aM (aP e hr),aM (aP e Ti)];exact e
 refine⟨r,dx,net,rfl,aE,nok,pz,λ e fp H' he ner hf bt hi ra=>⟨rfl,?_⟩⟩;have s2:aJ H1 H':=λ b o q=>bt b o (aP q hr) (m1 b o q);exact k r dx e fp H' (s1.trans s2) (λ b hb=>(s1.trans m1).free (hf b hb)) hi ra
theorem SG (F:Fun K "law" "law" (aU 114) f fd) (T:Txt mg) (TS:TxtS mg)
  (gq:Callee P w K mg base "_law_draw" ["tape","many"] 1 iX f1 je)
  (ny:Callee P w K mg base "_law_net" ["tape","most","small"] 4 (DO K) f2 ju)
  (se:Callee P w K mg base "_law_text" ["net"] 2 (tR K) f3 pr)
  (qu:MkCalR P w K mg base CD "Desk" ["self","text"] 7 (pO K C CD) f4 yy)
  (md:MkCal P w K mg base C "Run" ["self","net"] 5 (yP K C) f5 Fx)
  (jx:Callee P w K mg base "_law_said" ["desk","row"] 11 (DL K C CD) f6 So)
  (tq:Callee P w K mg base "_law_row" ["tape","net"] 2 (yH K) f7 Sq)
  (sf:Callee P w K mg base "_law_bent" ["tape","text","words_more"] 2 (DP K) f8 fd8)
  (og:Callee P w K mg base "_law_due" ["run","net","hand","row"] 8 (yS K C) f9 fd9)
  (kl:Callee P w K mg base "_law_look" ["run","word"] 2 (yM K C) Cz Tj)
  (ii:MCal P w K mg base C "tick" ["self"] 1 (eL K C λ S v H=>v=.int S.cur.tick) Db Tl):FnOk P w K mg base gP 12 f fd ["script"] (FD K):=by
 refine F.ok ["script","tape","nets","desks","runs","hands","thing","turn","at","row","due","k","word","left","ticks","rows"] λ sc iu A outer s H vs Q E hr h=>?_
 ·obtain⟨a,ns,rfl,hS,ij,k⟩:=h
  (with_reducible refine⟨_,(aF (pL 1 sc.nd (aZ (aB (aQ (kI (K:=K) rf) rf (by with_unfolding_all exact T.b_list) nX (aB (pv 0) aD)) (aB aG (aB aG aD)))))
   (aF (pL 2 sc.nd (aZ (aB (bZ (by with_unfolding_all exact ny) hr (aB (pv 1) (aB aG (aB fW aD)))) (aB (bZ (by with_unfolding_all exact ny) hr (aB (pv 1) (aB aG (aB fW aD)))) aD))))
   (aF (bJ (aW d9 (bZ (by with_unfolding_all exact gq) hr (aB (pv 1) (aB aG aD))) aG (aX _)) (aI (bK (px K (pv 2) aG) (j4 (pv 2) aG eO))) aT)
   (aF (gK (i:=3) sc.nd rf rf (λ _ _ h=>h) rf (LcOk.mk (N':=["net"]) (fr:=[none]) rf (by with_unfolding_all exact trivial) rf rf rf rf rf (by with_unfolding_all exact trivial)) (dU (K:=K) rf (pv 2)) (λ _ _ _=>(gC 0 ["net"])) (λ _ _ _=>bX) (λ _ _ _=>(zF (by with_unfolding_all exact qu.make) (by with_unfolding_all exact qu.ok) (hr.mono (by decide)) rf (by with_unfolding_all exact qu.mg) (by with_unfolding_all exact qu.bd) .nil DV (aB (bZ (by with_unfolding_all exact se) hr (aB (pv 0) aD)) aD))))
   (aF (gK (i:=4) sc.nd rf rf (λ _ _ h=>h) rf (LcOk.mk (N':=["net"]) (fr:=[none]) rf (by with_unfolding_all exact trivial) rf rf rf rf rf (by with_unfolding_all exact trivial)) (dU (K:=K) rf (pv 2)) (λ _ _ _=>(gC 0 ["net"])) (λ _ _ _=>bX) (λ _ _ _=>(zF (by with_unfolding_all exact md.make) (by with_unfolding_all exact md.ok) (hr.mono (by decide)) rf (by with_unfolding_all exact md.mg) (by with_unfolding_all exact md.bd) .nil iE (aB (pv 0) aD))))
   (aF (gK (i:=5) sc.nd rf rf (λ _ _ h=>h) rf (LcOk.mk (N':=["net"]) (fr:=[none]) rf (by with_unfolding_all exact trivial) rf rf rf rf rf (by with_unfolding_all exact trivial)) (dU (K:=K) rf (pv 2)) (λ _ _ _=>(gC 0 ["net"])) (λ _ _ _=>bX) (λ _ _ _=>(aS LJ (aZ (aB aG aD)) (oQ K (by with_unfolding_all exact T.b_len) (px K (pv 0) aG)))))
   (aF (dY þ rf (dU (K:=K) rf (aZ (aB fY (aB aG (aB (aZ aD) (aB (bN (aB aK aD)) (aB fW aD))))))) (gL 6 sc.nd) (aI (bJ (aW (iW.or qL (lB (K:=K) rf hr.units)) (bZ (by with_unfolding_all exact jx) hr (aB (px K (pv 3) aG) (aB (pv 6) aD))) (bN (aB aK aD)) (aX _)) (aI (aO fW)) aT)))
   (aF (dY þ rf (gM rf (by with_unfolding_all exact T.b_range) (aB (aS cG aG (bZ (by with_unfolding_all exact gq) hr (aB (pv 1) (aB aG aD)))) aD)) (gL 7 sc.nd) (aF (pL 8 sc.nd (bZ (by with_unfolding_all exact gq) hr (aB (pv 1) (aB aG aD))))
   (aF (pL 9 sc.nd (bZ (by with_unfolding_all exact tq) hr (aB (pv 1) (aB (px K (pv 2) (pv 8)) aD))))
   (aF (bJ (aW d9 (bZ (by with_unfolding_all exact gq) hr (aB (pv 1) (aB aG aD))) aG (aX _)) (aI (pL 9 sc.nd (bZ (by with_unfolding_all exact sf) hr (aB (pv 1) (aB (pv 9) (aB (aZ (aB aK (aB aK (aB aK (aB aK (aB aK (aB aK (aB aK (aB aK (aB aK (aB aK aD))))))))))) aD)))))) aT)
   (aF (pL 10 sc.nd (bZ (by with_unfolding_all exact og) hr (aB (px K (pv 4) (pv 8)) (aB (px K (pv 2) (pv 8)) (aB (px K (pv 5) (pv 8)) (aB (pv 9) aD))))))
   (aF (bJ (aW (iW.or qL (lB (K:=K) rf hr.units)) (bZ (by with_unfolding_all exact jx) hr (aB (px K (pv 3) (pv 8)) (aB (pv 9) aD))) (pv 10) (aX _)) (aI (aO fW)) aT)
   (aI (dY þ rf (gM rf (by with_unfolding_all exact T.b_range) (aB aG aD)) (gL 11 sc.nd) (aI (dY þ rf (dU (K:=K) rf (aZ (aB aK (aB aK (aB aK (aB aK (aB aK (aB aK aD)))))))) (gL 12 sc.nd) (aI (bJ (aW (iW.or qL (lB (K:=K) rf hr.units)) (bZ (by with_unfolding_all exact jx) hr (aB (px K (pv 3) (pv 11)) (aB (pv 12) aD))) (bZ (by with_unfolding_all exact kl) hr (aB (px K (pv 4) (pv 11)) (aB (pv 12) aD))) (aX _)) (aI (aO fW)) aT))))))))))))
   (aF (pL 13 sc.nd (aS gI aG (px K (px K (pv 5) aG) aG)))
   (aF (pL 14 sc.nd (aS gI aG (eW (px K (pv 4) aG) (by with_unfolding_all exact ii.cls) (by with_unfolding_all exact ii.mt) (by with_unfolding_all exact ii.ok) (hr.mono (by decide)) (by with_unfolding_all exact ii.bd) .nil iE)))
   (aF (pL 15 sc.nd (aZ (aB (aS eF aK (aQ bP rf (by with_unfolding_all exact TS.b_str) bV (aB (aS cG (pv 13) aG) aD))) (aB (aS eF aK (aQ bP rf (by with_unfolding_all exact TS.b_str) bV (aB (pv 13) aD))) (aB aK (aB (aS eF aK (aQ bP rf (by with_unfolding_all exact TS.b_str) bV (aB (aS cG (pv 14) aG) aD))) aD))))))
   (aF (pL 15 sc.nd (aS mS (pv 15) (aZ (aB (aS eF aK (aQ bP rf (by with_unfolding_all exact TS.b_str) bV (aB (pv 14) aD))) (aB aK aD)))))
   (aF (dY þ rf (dU (K:=K) rf (aS mS (pv 15) (aZ (aB aK (aB aK (aB aK (aB aK (aB aK aD)))))))) (gL 9 sc.nd) (aI (bJ (aW (iW.or qL (lB (K:=K) rf hr.units)) (bZ (by with_unfolding_all exact jx) hr (aB (px K (pv 3) aG) (aB (pv 9) aD))) (bZ (by with_unfolding_all exact og) hr (aB (px K (pv 4) aG) (aB (px K (pv 2) aG) (aB (px K (pv 5) aG) (aB (pv 9) aD))))) (aX _)) (aI (aO fW)) aT)))
   (aI (aO fW))))))))))))))),?_⟩)
  refine⟨_,rfl,a,_,rfl,.inl hS,λ sl oq=>⟨(sz0 3),λ t ht=>?_⟩⟩;have Ev:sl≠t:=aP (show upd H sl (.lst (ns.map V.int)) sl=_ from aE) ht;have tp0:fQ (upd (upd H sl (.lst (ns.map V.int))) t (.lst [.ref sl,.int 0,.int 0])) t sl:=⟨ns,0,0,aE,by rw[aM Ev];exact aE,by lia⟩;generalize upd (upd H sl (.lst (ns.map V.int))) t (.lst [.ref sl,.int 0,.int 0])=H0 at tp0;refine⟨_,rfl,t,sl,5,false,rfl,by decide,by decide,tp0,λ A0 p0 H1 e1 Bx By uw Ml=>⟨_,rfl,t,sl,3,true,rfl,by decide,by decide,e1.tp,λ B0 p1 H2 e2 Ga Gb Qj Lh=>⟨(sz0 2),λ nl Ck=>?_⟩⟩⟩;have Ml:=Ï (e2.bt.ts e1.tp.mut) _ _ Ml;have s3:=È (o:=HO.lst [p0,p1]) Ck;have g3:upd H2 nl (.lst [p0,p1]) nl=some (.lst [p0,p1]):=aE;have Ah:=e2.tp.same s3;have i0:=Ï s3.ts _ _ Ml;have i1:=Ï s3.ts _ _ Lh;have tm:nl≠t:=λ z=>by obtain⟨o,e⟩:=e2.tp.some;rw[z,e] at Ck;cases Ck
  have Rq:nl≠sl:=e2.tp.ne_sl Ck;generalize upd H2 nl (.lst [p0,p1])=H3 at s3 g3 Ah i0 i1;dsimp only [bL];refine FF (λ ac H'=>∃ (net:Bool->Net) (p:Bool->V),fQ H' t sl/\H' nl=some (.lst (two p))/\(∀ b,NetOk (net b)/\NetFull (net b)/\Is K H' (iT (net b)) (p b))/\
   ac=[some (.ref a),some (.ref t),some (.ref nl),none,none,none,none,none,none,none,none,none,none,none,none,none]) (λ R hD=>?_) ?_
  ·dsimp only [gZ];refine⟨_,rfl,t,sl,_,rfl,Ah,by decide,by decide,λ d H4 b4 t4 d0 d1=>⟨rfl,_,rfl,eA (λ _=>?_) λ _=>?_⟩⟩
   ·have g4:=b4 _ _ tm g3;have mu:lS (H4 nl):=by rw[g4];exact trivial
    have Mm:=(b4.ts (K:=K) Ah.mut).trans (ć (K:=K) (å (o:=HO.lst [p0,p0])) mu);refine⟨_,rfl,.inl ⟨nl,_,0,_,rfl,rfl,É g4,rfl,_,rfl,nl,_,1,1,rfl,rfl,g4,rfl,?_⟩⟩;exact hD _ _ ⟨λ _=>A0,λ _=>p0,t4.put tm Rq,aE,λ _=>⟨Bx,By,Ï Mm _ _ i0⟩,rfl⟩
   ·have Mm:=b4.ts (K:=K) Ah.mut;exact hD _ _ ⟨λ b=>if b then B0 else A0,λ b=>if b then p1 else p0,t4,b4 _ _ tm g3,λ b=>match b with
     | false=>⟨Bx,By,Ï Mm _ _ i0⟩
     | true=>⟨Ga,Gb,Ï Mm _ _ i1⟩,rfl⟩
  clear i0 i1 Ah g3 s3 Ml Lh Bx Ga By Gb uw Qj e1 e2;rintro ac H4 ⟨net,p,uy,zi,nv,rfl⟩;have Gc:∀ b,Is K H4 (iT (net b)) (p b):=λ b=>(nv b).2.2;have ntsl:t≠sl:=λ z=>Ev z.symm;refine⟨_,rfl,nl,rfl,⟨_,É zi⟩,EE (K:=K) (p:=p) (λ b v g U=>∃ dk dx e,v=.ref dk/\U dk=some (.ins CD dx [("run",.ref e)])/\cB K C U e (o0 (net b)) g) rfl zi (λ b U Q1 sU q1=>?_) ?_ ?_⟩
  ·exact PD (C:=C) (Ï sU.ts _ _ (Gc b)) (nv b).1 (nv b).2.1 λ dk dx e fp H5 s5 hf hi ra=>q1 _ fp H5 s5 (λ x hx=>⟨hf x hx,by obtain⟨xs,q⟩:=ra.lists x hx;exact⟨_,q⟩⟩) ⟨dk,dx,e,rfl,hi,ra⟩
  ·rintro b v g U U' D xs ⟨dk,dx,e,rfl,hi,ra⟩ bu hD hg;obtain⟨Fs,np,R,M,T2,ei⟩:=ra.ins;exact⟨dk,dx,e,rfl,bu _ _ (rV hD hi).symm hi,ra.but bu (by rw[hD];exact trivial) (rV hD ei) hg⟩
  intro dl yd fd H5 yk gdl s5 ad F5;refine⟨_,rfl,nl,rfl,⟨_,É (s5 _ _ zi)⟩,EE (K:=K) (p:=p) (λ b v g U=>∃ r,v=.ref r/\cB K C U r (o0 (net b)) g) rfl (s5 _ _ zi) (λ b U Q1 sU q1=>?_) ?_ ?_⟩
  ·refine⟨_,rfl,λ r dx hr Ti ndx=>?_⟩;have m1:aJ U (upd (upd U dx (.own r)) r (.ins C dx [])):=λ b o e=>by
    rw[aM (aP e hr),aM (aP e Ti)];exact e
   refine⟨r,dx,p b,net b,rfl,aE,Ï ((s5.trans sU).trans m1).ts _ _ (Gc b),(nv b).1,(nv b).2.1,λ fp H6 Rv bt ra=>⟨rfl,?_⟩⟩;exact q1 _ fp H6 (λ b o q=>bt b o (aP q hr) (m1 b o q)) (λ x hx=>⟨m1.free (Rv x hx),by obtain⟨xs,q⟩:=ra.lists x hx;exact⟨_,q⟩⟩) ⟨r,rfl,ra⟩
  ·rintro b v g U U' D xs ⟨r,rfl,ra⟩ bu hD hg;obtain⟨Fs,np,R,M,T2,ei⟩:=ra.ins;exact⟨r,rfl,ra.but bu (by rw[hD];exact trivial) (rV hD ei) hg⟩
  intro rl yr fr H6 vq grl s6 ar F6;have Gd:=s5.trans s6;refine⟨_,rfl,nl,rfl,⟨_,É (Gd _ _ zi)⟩,EE (K:=K) (p:=p) (λ b v g U=>∃ h,v=.ref h/\g=[h]/\U h=some (.lst ((dR (net b).vs.length).map V.int))) rfl (Gd _ _ zi) (λ b U Q1 sU q1=>?_) ?_ ?_⟩
  ·refine⟨(sz0 1),λ q hq=>?_⟩;have t1:=È (o:=HO.lst [.int 0]) hq;have w1:upd U q (.lst [.int 0]) q=some (.lst [.int 0]):=aE;generalize upd U q (.lst [.int 0])=U1 at t1 w1 ⊢;obtain⟨na,nb,nc,xs,ys,ep,qn,qv,lv,_,_⟩:=j5 (Ï ((Gd.trans sU).trans t1).ts _ _ (Gc b));have yp:xs.length=(net b).vs.length:=by rw[lv.length,Ê]
   rw[ep];refine⟨_,rfl,.inr (.inl ⟨na,_,0,_,rfl,rfl,qn,rfl,nb,xs,rfl,.inr qv,xQ (K:=K) w1 yp (nv b).1.hi λ h hh=>?_⟩)⟩;refine q1 _ [h] _ (t1.trans (È hh)) (λ x hx=>?_) ⟨h,rfl,rfl,aE⟩;have:=ã.1 hx;subst this;exact⟨t1.free hh,_,aE⟩
  ·rintro b v g U U' D xs ⟨h,rfl,rfl,hh⟩ bu hD hg;exact⟨h,rfl,rfl,bu _ _ (λ z=>hg (by rw[z];exact ã.2 rfl)) hh⟩
  intro hl yh gh H7 wu ghl s7 ah F7;dsimp only [bL];obtain⟨dk,ad⟩:=UN ad;obtain⟨dx,ad⟩:=UN ad;obtain⟨e,ad⟩:=UN ad;obtain⟨r,ar⟩:=UN ar;obtain⟨ha,ah⟩:=UN ah;obtain rfl:yd=λ b=>.ref (dk b):=funext λ b=>(ad b).1;obtain rfl:yr=λ b=>.ref (r b):=funext λ b=>(ar b).1;obtain rfl:yh=λ b=>.ref (ha b):=funext λ b=>(ah b).1;have Mn:=Gd.trans s7;have Mo:=s6.trans s7;have Dc:=(F5.trans F6).trans F7;rw[(ah true).2.1,(ah false).2.1] at Dc;have dj:Dj t sl nl dl rl hl ha fd fr:=VQ Dc uy.some (by obtain⟨ns,pos,cell,_,q,_⟩:=uy;exact⟨_,q⟩) ⟨_,zi⟩ tm.symm;have c0:D16 K C CD H7 t sl nl dl rl hl dk e r ha fd fr p net (λ b=>o0 (net b)) (λ b=>o0 (net b)):=
   ⟨uy.same Mn,Mn _ _ zi,Mo _ _ gdl,s7 _ _ grl,ghl,λ b=>⟨dx b,Mo _ _ (ad b).2.1⟩,λ b=>((ad b).2.2).same Mo,λ b=>((ar b).2).same s7,λ b=>(ah b).2.2,λ b=>Ï Mn.ts _ _ (Gc b)⟩
  have rn0:∀ b,Rn (o0 (net b)) 0:=λ b=>Rn.zero (nv b).1 (nv b).2.1;have hnn:∀ b,(o0 (net b)).net=net b:=λ b=>rfl;clear ad ar ah F5 F6 F7 Dc s5 s6 s7 Gd Mn Mo gdl grl ghl yk vq wu Gc zi uy nv;refine SK (K:=K) (t:=t) (gs:=EZ) (nP mk_n (nP mk_i (nP (SJ E6 (by decide)) (nP (SI (nP mk_s E6) (by decide)) (nP mk_b E6))))) (by decide) c0.tp.l
    (λ l xs m ac H'=>H' l=some (.lst xs)/\eE K H' EZ xs/\D16 K C CD H' t sl nl dl rl hl dk e r ha fd fr p net (λ b=>o0 (net b)) (λ b=>o0 (net b))/\∃ v6,ac=[some (.ref a),some (.ref t),some (.ref nl),some (.ref dl),some (.ref rl),some (.ref hl),v6,none,none,none,none,none,none,none,none,none])
    (λ l xs H1 s1 hl nl gl=>⟨hl,eE.same IO gl,c0.same s1,_,rfl⟩) (λ l xs m ac H' p=>É p.1) ?_ ?_
  ·rintro l xs m y ac H8 hy ⟨hl8,gl8,c8,v6,rfl⟩;obtain⟨g,hgm,ig⟩:=gl8.get' hy;have nz:=JZ g (Ó hgm);dsimp only [bL];obtain⟨zj,hi⟩:=c8.di false;refine⟨_,rfl,.inl ⟨dl,_,0,_,rfl,rfl,É c8.hd,rfl,_,rfl,dk false,zj,e false,y,g,_,fd false,0,rfl,hi,c8.de false,rn0 false,by decide,ig,λ z q=>(nz z q).elim,λ z v H9 q=>(nz z q).elim,λ _ v H9 s9 an=>?_⟩⟩;refine⟨(sz0 1),λ q hq=>?_⟩;have xn:=s9.trans (È (o:=HO.tup [.str "row"]) hq);refine lX.ne (an.same (È hq)) ⟨q,rfl,Ò aE⟩ ⟨_,rfl,cX ?_⟩;exact⟨xn _ _ hl8,eE.same xn gl8,c8.same xn,_,rfl⟩
  ·rintro l xs ac H8 ⟨_,_,c8,v6,rfl⟩;refine⟨_,rfl,t,sl,_,rfl,c8.tp,by decide,by decide,λ c H9 b9 t9 Ly hc1=>⟨_,_,rfl,rfl,?_⟩⟩;have c9:=c8.draw dj b9 t9;refine⟨_,rfl,by lia,by lia,?_⟩;refine nQ (lo:=0) (n:=(1+c).toNat) (λ i ac H'=>∃ S,D16 K C CD H' t sl nl dl rl hl dk e r ha fd fr p net S S/\(∀ b,Rn (S b) i/\(S b).net=net b)/\∃ v6 v7 v8 v9 km lb v12,ac=[some (.ref a),some (.ref t),some (.ref nl),some (.ref dl),some (.ref rl),some (.ref hl),v6,v7,v8,v9,km,lb,v12,none,none,none]) ?_ ?_ ?_
   ·exact⟨_,c9,λ b=>⟨rn0 b,rfl⟩,_,_,_,_,_,_,_,rfl⟩
   ·clear c8 c9;rintro i ac uk hi ⟨S,uz,hS,v6,v7,v8,v9,km,lb,v12,rfl⟩;have hi60:i < 60:=by lia
    refine⟨_,rfl,t,sl,_,rfl,uz.tp,by decide,by decide,λ at_ Pp b11 Mp a0 a1=>?_⟩;have zk:=uz.draw dj b11 Mp;obtain⟨b,rfl⟩:=R4 a0 a1;clear uz;dsimp only [bL];refine⟨_,rfl,_,rfl,_,rfl,.inl ⟨nl,_,bI b,_,rfl,rfl,É zk.hn,lG _ b,t,sl,p b,rfl,zk.tp,λ z H12 Cw rf=>?_⟩⟩;have zm:=zk.draw dj Cw.bt Cw.tp;clear zk;dsimp only [bL];refine FF (λ ac H'=>∃ z,D16 K C CD H' t sl nl dl rl hl dk e r ha fd fr p net S S/\gE z/\z.length<=1000/\¬ o5 (gX z)/\∃ v7 km lb v12,ac=[some (.ref a),some (.ref t),some (.ref nl),some (.ref dl),some (.ref rl),some (.ref hl),v6,v7,some (.int (bI b)),some (.str z),km,lb,v12,none,none,none]) (λ R hR=>?_) ?_
    ·dsimp only [gZ];refine⟨_,rfl,t,sl,3,rfl,zm.tp,by decide,by decide,λ q H13 d13 Dd q0 q1=>⟨rfl,_,rfl,eA (λ _=>?_) λ _=>?_⟩⟩
     ·have tu:=zm.draw dj d13 Dd;refine⟨_,rfl,_,rfl,(sz0 10),λ wl mx=>?_⟩;have sh:=tu.same (È (o:=HO.lst (sI.map V.str)) mx);have g14:upd H13 wl (.lst (sI.map V.str)) wl=some (.lst (sI.map V.str)):=aE;have Sf:wl≠t:=λ q=>by obtain⟨o,w⟩:=Dd.some;rw[q,w] at mx;cases mx
      refine⟨t,sl,wl,z,sI,rfl,sh.tp,rf.1,ë rf.2.1 (by decide),Sf,g14,x8.1,x8.2,λ y H15 e15 ay ly br=>?_⟩;have:=rf.2.1;exact hR _ _ ⟨y,sh.draw dj e15.bt e15.tp,ay,by lia,xL rf br,_,_,_,_,rfl⟩
     ·have:=rf.2.1;exact hR _ _ ⟨z,zm.draw dj d13 Dd,rf.1,by lia,xK rf,_,_,_,_,rfl⟩
    clear zm rf Cw;rintro ac H13 ⟨z,tu,za,zl,zo,u7,km,lb,v12,rfl⟩;refine⟨_,rfl,_,rfl,.inl ⟨rl,_,bI b,_,rfl,rfl,É tu.hr,lG _ b,_,rfl,_,rfl,.inl ⟨nl,_,bI b,_,rfl,rfl,É tu.hn,lG _ b,_,rfl,_,rfl,.inl ⟨hl,_,bI b,_,rfl,rfl,É tu.hh,lG _ b,_,rfl,r b,ha b,p b,S b,fr b,i,z,rfl,tu.ra b,(hS b).1,by lia,by rw[(hS b).2];exact tu.np b,tu.ho b,dj.hr b b,za,ë zl (by decide),λ v H14 b14 Ge Gf an=>?_⟩⟩⟩⟩;have sh:=tu.law dj b14 Ge Gf;have Df:=GP (hS b).1 za;clear tu b14 Ge Gf;dsimp only [bL];obtain⟨zj,pk⟩:=sh.di b;refine⟨_,rfl,_,rfl,.inl ⟨dl,_,bI b,_,rfl,rfl,É sh.hd,lG _ b,_,rfl,dk b,zj,e b,.str z,.str z,S b,fd b,i,rfl,pk,sh.de b,(hS b).1,by lia,.s _,(λ z' q=>by cases q;exact⟨za,ë zl (by decide),zo⟩),λ z' v2 H15 q Tm Gg zn=>?_,λ h=>(h z rfl).elim⟩⟩;cases q;have Ai:=sh.desk dj Tm Gg;have Mq:=an.butL (L:=[]) (sD Tm (sh.de b).mut);refine⟨_,rfl,lX.ne zn Mq ⟨_,rfl,cX ?_⟩⟩;have Mr:∀ c,Rn (put S b (jQ (S b) z).1 c) (i+1)/\(put S b (jQ (S b) z).1 c).net=net c:=λ c=>by
     by_cases hc:c=b
     ·subst hc;rw[mR];exact⟨Df.1,Df.2.trans (hS c).2⟩
     ·rw[vB hc];exact⟨(hS c).1.up (by lia),(hS c).2⟩
    generalize put S b (jQ (S b) z).1=S' at Ai Mr;clear sh an Mq zn Tm Gg Df pk;dsimp only [bR];refine⟨2,rfl,by decide,by decide,nQ (lo:=0) (n:=2) (λ j ac H'=>D16 K C CD H' t sl nl dl rl hl dk e r ha fd fr p net S' S'/\∃ v8 v9 km lb v12,ac=[some (.ref a),some (.ref t),some (.ref nl),some (.ref dl),some (.ref rl),some (.ref hl),v6,u7,v8,v9,km,lb,v12,none,none,none]) ⟨Ai,_,_,_,_,_,rfl⟩ ?_ ?_⟩
    ·clear Ai;rintro j ac Gh hj ⟨xk,w8,w9,Kt,w11,w12,rfl⟩;obtain⟨b',yn⟩:=R4 (n:=0+(j:Int)) (by lia) (by lia);dsimp only [bL];rw[yn];refine⟨(sz0 6),λ q hq=>?_⟩;have vb:=xk.same (È (o:=HO.lst (xR.map V.str)) hq);have Ms:upd Gh q (.lst (xR.map V.str)) q=some (.lst (xR.map V.str)):=aE;refine⟨q,rfl,⟨_,É Ms⟩,j9 (K:=K) (a:=q) (xs:=xR.map V.str) (λ m ac H'=>H' q=some (.lst (xR.map V.str))/\q∉fd b'/\D16 K C CD H' t sl nl dl rl hl dk e r ha fd fr p net S' S'/\∃ v12,ac=[some (.ref a),some (.ref t),some (.ref nl),some (.ref dl),some (.ref rl),some (.ref hl),v6,u7,w8,w9,Kt,some (.int (bI b')),v12,none,none,none]) ⟨Ms,(xk.de b').notfp hq,vb,_,rfl⟩ (λ m ac H' _ p=>É p.1) ?_ ?_⟩
     ·rintro m x ac H18 hx ⟨g18,nq,xz,v12,rfl⟩;rw[Ø] at hx;obtain⟨wd,Ql,rfl⟩:=ð.mp hx;obtain⟨⟨wa,wl⟩,wb,wo⟩:=ME wd (Ó Ql);dsimp only [bL];obtain⟨zj,pk⟩:=xz.di b';refine⟨_,rfl,_,rfl,.inl ⟨dl,_,bI b',_,rfl,rfl,É xz.hd,lG _ b',_,rfl,dk b',zj,e b',.str wd,.str wd,S' b',fd b',i+1,rfl,pk,xz.de b',(Mr b').1,by lia,.s _,(λ z' q=>by cases q;exact⟨wa,by lia,by rw[(GO (S:=S' b') wb).2];exact wo⟩),λ z' v2 H19 q' b19 Gi zn=>?_,λ h=>(h wd rfl).elim⟩⟩;cases q';rw[(GO wb).1] at Gi zn;have Dg:=xz.desk dj b19 Gi;rw[KW] at Dg;have g19:=b19 _ _ nq g18;refine⟨_,rfl,_,rfl,.inl ⟨rl,_,bI b',_,rfl,rfl,É Dg.hr,lG _ b',_,rfl,r b',S' b',fr b',i+1,wd,rfl,Dg.ra b',(Mr b').1,λ v3 H20 Tn Gj=>?_⟩⟩;refine lX.ne (zn.same Tn) Gj ⟨_,rfl,?_⟩;exact cX ⟨Tn _ _ g19,nq,Dg.same Tn,_,rfl⟩
     ·rintro ac H18 ⟨g18,nq,xz,v12,rfl⟩;exact⟨xz,_,_,_,_,_,rfl⟩
    ·rintro ac Gh ⟨xk,w8,w9,Kt,w11,w12,rfl⟩;exact⟨S',xk,Mr,_,_,_,_,_,_,_,rfl⟩
   ·clear c8 c9;rintro ac uk ⟨S,uz,hS,v6,v7,v8,v9,km,lb,v12,rfl⟩;have hN:(1+c).toNat<=41:=by lia
    generalize (1+c).toNat=N at hS hN;dsimp only;have rt:=(hS true).1;have pe:=rt.ok.cur.pl;have Ao:=rt.ok.nok.lo;obtain⟨x0,yw⟩:∃ x0,(S true).cur.poured[0]? = some x0:=⟨_,Ċ (by lia)⟩;have uw:=Ó yw;have x0l:=rt.mp.p0 _ uw;have x0u:=rt.mp.p1 _ uw;have ur:AO ((S true).cur.poured.map V.int) 0=some (.int x0):=lH (ö _) (by rw[show (0:Int).toNat=0 from rfl,Ø,yw];rfl);have t0l:=rt.mp.t0;have t0u:=rt.mp.t1;refine⟨_,rfl,.inl ⟨hl,_,1,_,rfl,rfl,É uz.hh,rfl,.inl ⟨ha true,_,0,_,rfl,rfl,É (uz.ho true),ur,_,_,rfl,rfl,?_⟩⟩⟩;obtain⟨zj,np,R,M,T',ei⟩:=(uz.ra true).ins;refine⟨_,rfl,.inl ⟨rl,_,1,_,rfl,rfl,É uz.hr,rfl,r true,zj,_,rfl,ei,lV "tick" rfl,r true,S true,fr true,rfl,uz.ra true,λ v hv=>?_⟩⟩;subst hv;refine⟨_,_,rfl,rfl,?_⟩;dsimp only [bL];have lf0:0<=1000 - x0:=by lia
    have To:0<=3000 - (S true).cur.tick:=by lia
    have lf1:1000 - x0<=1000:=by lia
    have Tp:3000 - (S true).cur.tick<=3000:=by lia
    generalize 1000 - x0=lf at lf0 lf1 ⊢;generalize 3000 - (S true).cur.tick=tk at To Tp ⊢;clear ur x0l x0u uw yw t0l t0u pe Ao rt ei;have p7:("pour 0 " : Str).length=7:=by decide +kernel
    have g3:("go " : Str).length=3:=by decide +kernel
    have n1:=eZ (n:=lf+1) (by lia) (by lia);have n2:=eZ (n:=lf) (by lia) (by lia);have n3:=eZ (n:=tk+1) (by lia) (by lia);have n4:=eZ (n:=tk) (by lia) (by lia);refine⟨_,rfl,_,_,rfl,rfl,_,_,rfl,hG (by lia) (by lia),_,_,rfl,rfl,by lia,_,rfl,_,_,rfl,hG (by lia) (by lia),_,_,rfl,rfl,by lia,_,rfl,_,_,rfl,rfl,_,_,rfl,hG (by lia) (by lia),_,_,rfl,rfl,by lia,(sz0 4),λ q1 xp=>?_⟩;have w1:upd uk q1 (.lst (["pour 0 " ++ aR (lf+1),"pour 0 " ++ aR lf,"pour 0 1","go " ++ aR (tk+1)].map V.str)) q1=some (.lst (["pour 0 " ++ aR (lf+1),"pour 0 " ++ aR lf,"pour 0 1","go " ++ aR (tk+1)].map V.str)):=aE;have zk:=uz.same (È (o:=HO.lst (["pour 0 " ++ aR (lf+1),"pour 0 " ++ aR lf,"pour 0 1","go " ++ aR (tk+1)].map V.str)) xp);dsimp only [bL];refine⟨_,rfl,_,rfl,_,_,rfl,hG (by lia) (by lia),_,_,rfl,rfl,by lia,(sz0 2),λ q2 xq=>?_⟩;have w1b:=È (o:=HO.lst (["go " ++ aR tk,"go 1"].map V.str)) xq _ _ w1;have zm:=zk.same (È (o:=HO.lst (["go " ++ aR tk,"go 1"].map V.str)) xq);refine⟨q1,q2,_,_,rfl,rfl,w1b,aE,(sz0 6),λ q3 Az=>?_⟩;have w3:=aE (H:=upd (upd uk q1 (.lst (["pour 0 " ++ aR (lf+1),"pour 0 " ++ aR lf,"pour 0 1","go " ++ aR (tk+1)].map V.str))) q2 (.lst (["go " ++ aR tk,"go 1"].map V.str))) (a:=q3) (o:=HO.lst (["pour 0 " ++ aR (lf+1),"pour 0 " ++ aR lf,"pour 0 1","go " ++ aR (tk+1),"go " ++ aR tk,"go 1"].map V.str));have tu:=zm.same (È (o:=HO.lst (["pour 0 " ++ aR (lf+1),"pour 0 " ++ aR lf,"pour 0 1","go " ++ aR (tk+1),"go " ++ aR tk,"go 1"].map V.str)) Az);dsimp only [bL];refine⟨_,rfl,(sz0 5),λ q4 Tq=>?_⟩;have w3b:=È (o:=HO.lst ((["go 0","tick","came","grounded","held"]:List Str).map V.str)) Tq _ _ w3;have sh:=tu.same (È (o:=HO.lst ((["go 0","tick","came","grounded","held"]:List Str).map V.str)) Tq);refine⟨q3,q4,_,_,rfl,rfl,w3b,aE,(sz0 11),λ q5 Gk=>?_⟩;let zs:List Str:=["pour 0 " ++ aR (lf+1),"pour 0 " ++ aR lf,"pour 0 1","go " ++ aR (tk+1),"go " ++ aR tk,"go 1","go 0","tick","came","grounded","held"];have Te:∀ z∈zs,CZ z:=by
     intro z hz;simp only [zs,Ñ,Ă,or_false] at hz;rcases hz with rfl | rfl | rfl | rfl | rfl | rfl | rfl | rfl | rfl | rfl | rfl
     ·exact iC (by lia) (by lia) (by decide +kernel) (by decide +kernel) (by lia)
     ·exact iC (by lia) (by lia) (by decide +kernel) (by decide +kernel) (by lia)
     ·exact fE (B:=sg "pour 0 1") (by decide +kernel) (by decide +kernel) (λ d h=>h) (by decide +kernel)
     ·exact iC (by lia) (by lia) (by decide +kernel) (by decide +kernel) (by lia)
     ·exact iC (by lia) (by lia) (by decide +kernel) (by decide +kernel) (by lia)
     ·exact fE (B:=sg "go 1") (by decide +kernel) (by decide +kernel) (λ d h=>h) (by decide +kernel)
     ·exact fE (B:=sg "go 0") (by decide +kernel) (by decide +kernel) (λ d h=>h) (by decide +kernel)
     ·exact fE (B:=sg "tick") (by decide +kernel) (by decide +kernel) (λ d h=>h) (by decide +kernel)
     ·exact fE (B:=sg "came") (by decide +kernel) (by decide +kernel) (λ d h=>h) (by decide +kernel)
     ·exact⟨(by decide +kernel:∀ c∈sg "grounded",c < 128),by decide +kernel,.inr rfl⟩
     ·exact fE (B:=sg "held") (by decide +kernel) (by decide +kernel) (λ d h=>h) (by decide +kernel)
    have Ai:=sh.same (È (o:=HO.lst (zs.map V.str)) Gk);have fq:q5∉fd true/\q5∉fr true/\q5≠ha true:=⟨(sh.de true).notfp Gk,(sh.ra true).notfp Gk,λ z=>by have h:=sh.ho true;rw[<- z] at h;cases Gk.symm.trans h⟩;have w5:=aE (H:=upd (upd (upd (upd uk q1 (.lst (["pour 0 " ++ aR (lf+1),"pour 0 " ++ aR lf,"pour 0 1","go " ++ aR (tk+1)].map V.str))) q2 (.lst (["go " ++ aR tk,"go 1"].map V.str))) q3 (.lst (["pour 0 " ++ aR (lf+1),"pour 0 " ++ aR lf,"pour 0 1","go " ++ aR (tk+1),"go " ++ aR tk,"go 1"].map V.str))) q4 (.lst ((["go 0","tick","came","grounded","held"]:List Str).map V.str))) (a:=q5) (o:=HO.lst (zs.map V.str));refine⟨q5,rfl,⟨_,É w5⟩,j9 (K:=K) (a:=q5) (xs:=zs.map V.str) (λ m ac H'=>H' q5=some (.lst (zs.map V.str))/\∃ S,D16 K C CD H' t sl nl dl rl hl dk e r ha fd fr p net S S/\(∀ b,Rn (S b) (N+m)/\(S b).net=net b)/\∃ v6 v7 v8 v9 km lb v12 v13 v14 v15,ac=[some (.ref a),some (.ref t),some (.ref nl),some (.ref dl),some (.ref rl),some (.ref hl),v6,v7,v8,v9,km,lb,v12,v13,v14,v15])
     ⟨w5,S,Ai,λ b=>hS b,_,_,_,_,_,_,_,_,_,_,rfl⟩ (λ m ac H' _ p=>É p.1) ?_ ?_⟩
    ·clear uz zk zm tu sh Ai hS w1 w1b w3 w3b w5 xp xq Az Tq Gk;rintro m x ac Gh hx ⟨g16,S,xk,hS,v6,v7,v8,v9,km,lb,v12,v13,v14,v15,rfl⟩;rw[Ø] at hx;obtain⟨z,hz,rfl⟩:=ð.mp hx;have hm:m < 11:=(æ.mp hz).1;have rf:=Te z (Ó hz);have zl:=rf.2.1;dsimp only [bL];obtain⟨zj,pk⟩:=xk.di true;refine⟨_,rfl,.inl ⟨dl,_,1,_,rfl,rfl,É xk.hd,rfl,_,rfl,dk true,zj,e true,.str z,.str z,S true,fd true,N+m,rfl,pk,xk.de true,(hS true).1,by lia,.s _,(λ z' q=>by cases q;exact⟨rf.1,by lia,xK rf⟩),λ z' v2 H17 q b17 Tr zn=>?_,λ h=>(h z rfl).elim⟩⟩;cases q;have vb:=xk.desk dj b17 Tr;have Ms:=b17 _ _ fq.1 g16;refine⟨_,rfl,.inl ⟨rl,_,1,_,rfl,rfl,É vb.hr,rfl,_,rfl,.inl ⟨nl,_,1,_,rfl,rfl,É vb.hn,rfl,_,rfl,.inl ⟨hl,_,1,_,rfl,rfl,É vb.hh,rfl,_,rfl,r true,ha true,p true,S true,fr true,N+m,z,rfl,vb.ra true,(hS true).1,by lia,by rw[(hS true).2];exact vb.np true,vb.ho true,dj.hr true true,rf.1,by lia,λ v H18 Ts Tu Tv an=>?_⟩⟩⟩⟩;have xz:=vb.law dj Ts Tu Tv;have mu:∀ x∈ha true::fr true,lS (H17 x):=λ x hx=>by
      rcases Ñ.1 hx with rfl | hx
      ·rw[vb.ho true];exact trivial
      ·exact (vb.ra true).mut x hx
     have Gj:=zn.butL (L:=[]) (sD Ts mu);have Df:=GP (hS true).1 rf.1;refine lX.ne Gj an ⟨_,rfl,?_⟩;refine cX ⟨Ts _ _ (λ z=>by rcases Ñ.1 z with z | z;exact fq.2.2 z;exact fq.2.1 z) Ms,_,xz,λ b=>?_,_,_,_,_,_,_,_,_,_,_,rfl⟩
     by_cases hc:b=true
     ·subst hc;rw[mR];exact⟨Df.1,Df.2.trans (hS true).2⟩
     ·rw[vB hc];exact⟨(hS b).1.up (by lia),(hS b).2⟩
    ·rintro ac Gh _;exact k Gh
end
theorem MQ {P:Ã}{w:World}{K:Ç}{a:Á}{ep:Nat}{l:List (Str×Tok×À)}{gy:List (fT×V)} (h:K.lookup a=some ⟨.type "dict",none,.dict (l.map λ q=>⟨PyData.keyHash w.params q.1,.str q.1 q.2.1,q.2.2⟩).toArray ep,#[]⟩)
  (nm:(a == sysModules)=false) (rel:Paired (λ p q=>p.1=kS q.1/\bH p.2 q.2.2) gy l) (nd:(l.map (·.1)).Nodup):KDt P w K a gy where
 nm:=nm
 ob:=λ h' hK=>by
  refine⟨l.map λ q=>(kS q.1,q.2.2),?_,_,_,ep,hK a _ h,⟨rfl,rfl,rfl⟩,rfl,?_,?_,?_⟩
  ·clear h nd
   induction rel with
   | nil=>exact .nil
   | cons h1 _ ih=>exact .cons h1 ih
  ·intro e he;obtain⟨q,_,rfl⟩:=ä.1 (List.mem_toArray.mp he);exact⟨kS q.1,by show oG (kS q.1) (.str q.1 q.2.1)=true;simp [oG,kS,Value.isStrOf],rfl⟩
  ·rw[List.toList_toArray];clear h nd rel
   induction l with
   | nil=>exact .nil
   | cons q l ih=>exact .cons (by show oG (kS q.1) (.str q.1 q.2.1)=true;simp [oG,kS,Value.isStrOf]) rfl ih
  ·rw[ü];have e:((λ x:fT×À=>x.1) ∘ λ q:Str×Tok×À=>(kS q.1,q.2.2))=kS ∘ λ q=>q.1:=rfl;rw[e,<- ü];exact nd.map (f:=kS) (λ a b kr z=>kr (by unfold kS at z;cases z;rfl))
section
variable {cR cM cV aA aN f1 f2 f3 f4 f5 f6 f7 f8 f9 g1 g2 g3 g4:Á}{t1 t2 t3 t4 t5 t6 t7 t8 t9 t10 Mp t12 Dd u1 u2 u3 u4 u5 v1 v2 v3 v4 v5:Tok}{m n:Nat}
def oI (P:Ã) (w:World) (K:Ç) (mg:Str->Option À) (base:Heap) (C cR cM cV:Á) (wd:Str) (f:Á):Prop:=∃ fd,FnOk P w K mg base (lW P w) 9 f fd ["run","numbers"] (fU K C cR cM cV wd)/\PySem.W.keepIn K (.ref f)=true/\gQ K fd ["run","numbers"] []
theorem O1 (mA:mg "ANSWERS" = some (.ref aA)) (mN:mg "NUMBER_COUNTS" = some (.ref aN))
  (hA:K.lookup aA=some ⟨.type "dict",none,.dict #[⟨PyData.keyHash w.params "pour",.str "pour" t1,.ref f1⟩,⟨PyData.keyHash w.params "go",.str "go" t2,.ref f2⟩,⟨PyData.keyHash w.params "held",.str "held" t3,.ref f3⟩,⟨PyData.keyHash w.params "coming",.str "coming" t4,.ref f4⟩,⟨PyData.keyHash w.params "doors",.str "doors" t5,.ref f5⟩,⟨PyData.keyHash w.params "tick",.str "tick" t6,.ref f6⟩,⟨PyData.keyHash w.params "came",.str "came" t7,.ref f7⟩,⟨PyData.keyHash w.params "grounded",.str "grounded" t8,.ref f8⟩,⟨PyData.keyHash w.params "tips",.str "tips" t9,.ref f9⟩,⟨PyData.keyHash w.params "back",.str "back" t10,.ref g1⟩,⟨PyData.keyHash w.params "round",.str "round" Mp,.ref g2⟩,⟨PyData.keyHash w.params "stuck",.str "stuck" t12,.ref g3⟩,⟨PyData.keyHash w.params "soonest",.str "soonest" Dd,.ref g4⟩] m,#[]⟩)
  (hN:K.lookup aN=some ⟨.type "dict",none,.dict #[⟨PyData.keyHash w.params "pour",.str "pour" u1,.int 2 v1⟩,⟨PyData.keyHash w.params "go",.str "go" u2,.int 1 v2⟩,⟨PyData.keyHash w.params "tips",.str "tips" u3,.int 1 v3⟩,⟨PyData.keyHash w.params "stuck",.str "stuck" u4,.int 1 v4⟩,⟨PyData.keyHash w.params "soonest",.str "soonest" u5,.int 2 v5⟩] n,#[]⟩)
  (nA:(aA == sysModules)=false) (nN:(aN == sysModules)=false)
  (c1:oI P w K mg base C cR cM cV "pour" f1) (c2:oI P w K mg base C cR cM cV "go" f2) (c3:oI P w K mg base C cR cM cV "held" f3) (c4:oI P w K mg base C cR cM cV "coming" f4) (c5:oI P w K mg base C cR cM cV "doors" f5)
  (c6:oI P w K mg base C cR cM cV "tick" f6) (c7:oI P w K mg base C cR cM cV "came" f7) (c8:oI P w K mg base C cR cM cV "grounded" f8) (c9:oI P w K mg base C cR cM cV "tips" f9) :
  TxtD P w K mg base C cR cM cV aA aN [(kS "pour",.ref f1),(kS "go",.ref f2),(kS "held",.ref f3),(kS "coming",.ref f4),(kS "doors",.ref f5),(kS "tick",.ref f6),(kS "came",.ref f7),(kS "grounded",.ref f8),(kS "tips",.ref f9),(kS "back",.ref g1),(kS "round",.ref g2),(kS "stuck",.ref g3),(kS "soonest",.ref g4)]
   [(kS "pour",.int 2),(kS "go",.int 1),(kS "tips",.int 1),(kS "stuck",.int 1),(kS "soonest",.int 2)]:=by
 have ks:∀ {a b:Str},kS a=kS b↔a=b:=⟨λ z=>by unfold kS at z;cases z;rfl,λ z=>by rw[z]⟩;have vc:∀ (a:Str) (v:V) (r:List (fT×V)) (wd:Str),fJ ((kS a,v)::r) (kS wd)=if a=wd then some v else fJ r (kS wd):=λ a v r wd=>by
  by_cases h:a=wd
  ·rw[Å h];exact eU (ks.2 h)
  ·rw[Ä h];exact eV λ z=>h (ks.1 z)
 refine { mA:=mA,mN:=mN,dA:=MQ (l:=[("pour",t1,.ref f1),("go",t2,.ref f2),("held",t3,.ref f3),("coming",t4,.ref f4),("doors",t5,.ref f5),("tick",t6,.ref f6),("came",t7,.ref f7),("grounded",t8,.ref f8),("tips",t9,.ref f9),("back",t10,.ref g1),("round",Mp,.ref g2),("stuck",t12,.ref g3),("soonest",Dd,.ref g4)]) hA nA ?_ (show (["pour","go","held","coming","doors","tick","came","grounded","tips","back","round","stuck","soonest"]:List Str).Nodup by decide +kernel),dN:=MQ (l:=[("pour",u1,.int 2 v1),("go",u2,.int 1 v2),("tips",u3,.int 1 v3),("stuck",u4,.int 1 v4),("soonest",u5,.int 2 v5)]) hN nN ?_ (show (["pour","go","tips","stuck","soonest"]:List Str).Nodup by decide +kernel),inA:=λ wd=>?_,inN:=λ wd=>?_,fn:=λ wd v hv ho=>?_ }
 ·exact .cons ⟨rfl,rfl⟩ (.cons ⟨rfl,rfl⟩ (.cons ⟨rfl,rfl⟩ (.cons ⟨rfl,rfl⟩ (.cons ⟨rfl,rfl⟩ (.cons ⟨rfl,rfl⟩ (.cons ⟨rfl,rfl⟩ (.cons ⟨rfl,rfl⟩ (.cons ⟨rfl,rfl⟩ (.cons ⟨rfl,rfl⟩ (.cons ⟨rfl,rfl⟩ (.cons ⟨rfl,rfl⟩ (.cons ⟨rfl,rfl⟩ .nil))))))))))))
 ·exact .cons ⟨rfl,_,rfl⟩ (.cons ⟨rfl,_,rfl⟩ (.cons ⟨rfl,_,rfl⟩ (.cons ⟨rfl,_,rfl⟩ (.cons ⟨rfl,_,rfl⟩ .nil))))
 ·by_cases h:wd∈sE
  ·rw[Û h];simp only [sE,Ñ,Ă,or_false] at h;simp only [vc];rcases h with rfl | rfl | rfl | rfl | rfl | rfl | rfl | rfl | rfl | rfl | rfl | rfl | rfl <;> exact rfl
  ·rw[ñ h];simp only [sE,Ñ,Ă,or_false,not_or] at h;obtain⟨h1,h2,h3,h4,h5,h6,h7,h8,h9,Bm,h11,Fk,h13⟩:=h;simp only [vc];rw[Ä (Ne.symm h1),Ä (Ne.symm h2),Ä (Ne.symm h3),Ä (Ne.symm h4),Ä (Ne.symm h5),Ä (Ne.symm h6),Ä (Ne.symm h7),Ä (Ne.symm h8),Ä (Ne.symm h9),Ä (Ne.symm Bm),Ä (Ne.symm h11),Ä (Ne.symm Fk),Ä (Ne.symm h13)];rfl
 ·simp only [vc];unfold r6
  by_cases h1:wd = "pour"
  ·subst h1;exact rfl
  by_cases h2:wd = "go"
  ·subst h2;exact rfl
  by_cases h3:wd = "tips"
  ·subst h3;exact rfl
  by_cases h4:wd = "stuck"
  ·subst h4;exact rfl
  by_cases h5:wd = "soonest"
  ·subst h5;exact rfl
  rw[Ä (Ne.symm h1),Ä (Ne.symm h2),Ä (Ne.symm h3),Ä (Ne.symm h4),Ä (Ne.symm h5),Ä h1,Ä h2,Ä h3,Ä h4,Ä h5];rfl
 ·have fin:∀ {x:Str}{f:Á},oI P w K mg base C cR cM cV x f->x=wd->v=.ref f->∃ f fd,v=.ref f/\FnOk P w K mg base (lW P w) 9 f fd ["run","numbers"] (fU K C cR cM cV wd)/\PySem.W.keepIn K (.ref f)=true/\gQ K fd ["run","numbers"] []:=λ c e e2=>by
   subst e;obtain⟨fd,c⟩:=c;exact⟨_,fd,e2,c⟩
  obtain⟨o1,o2,o3,o4⟩:=A1 wd ho;simp only [vc] at hv
  by_cases h1:("pour" : Str)=wd
  ·rw[Å h1] at hv;exact fin c1 h1 (ï hv).symm
  rw[Ä h1] at hv
  by_cases h2:("go" : Str)=wd
  ·rw[Å h2] at hv;exact fin c2 h2 (ï hv).symm
  rw[Ä h2] at hv
  by_cases h3:("held" : Str)=wd
  ·rw[Å h3] at hv;exact fin c3 h3 (ï hv).symm
  rw[Ä h3] at hv
  by_cases h4:("coming" : Str)=wd
  ·rw[Å h4] at hv;exact fin c4 h4 (ï hv).symm
  rw[Ä h4] at hv
  by_cases h5:("doors" : Str)=wd
  ·rw[Å h5] at hv;exact fin c5 h5 (ï hv).symm
  rw[Ä h5] at hv
  by_cases h6:("tick" : Str)=wd
  ·rw[Å h6] at hv;exact fin c6 h6 (ï hv).symm
  rw[Ä h6] at hv
  by_cases h7:("came" : Str)=wd
  ·rw[Å h7] at hv;exact fin c7 h7 (ï hv).symm
  rw[Ä h7] at hv
  by_cases h8:("grounded" : Str)=wd
  ·rw[Å h8] at hv;exact fin c8 h8 (ï hv).symm
  rw[Ä h8] at hv
  by_cases h9:("tips" : Str)=wd
  ·rw[Å h9] at hv;exact fin c9 h9 (ï hv).symm
  rw[Ä h9] at hv;rw[Ä (Ne.symm o1),Ä (Ne.symm o2),Ä (Ne.symm o3),Ä (Ne.symm o4)] at hv;cases hv
end
theorem bY {ak:Type}{p:List ak->Prop} (h:∀ a0,p [a0]):∀ us:List ak,us.length=1->p us
 | [a0],_=>h a0
theorem cA {ak:Type}{p:List ak->Prop} (h:∀ a0 a1,p [a0,a1]):∀ us:List ak,us.length=2->p us
 | [a0,a1],_=>h a0 a1
theorem eI {ak:Type}{p:List ak->Prop} (h:∀ a0 a1 a2,p [a0,a1,a2]):∀ us:List ak,us.length=3->p us
 | [a0,a1,a2],_=>h a0 a1 a2
theorem AG {ak:Type}{p:List ak->Prop} (h:∀ a0 a1 a2 a3,p [a0,a1,a2,a3]):∀ us:List ak,us.length=4->p us
 | [a0,a1,a2,a3],_=>h a0 a1 a2 a3
theorem Q3 {ak:Type}{p:List ak->Prop} (h:∀ a0 a1 a2 a3 a4,p [a0,a1,a2,a3,a4]):∀ us:List ak,us.length=5->p us
 | [a0,a1,a2,a3,a4],_=>h a0 a1 a2 a3 a4
abbrev Na (K:Ç) (x:Str) (f:Á):Prop:=PySem.W.nsIn K mainGlobals x=some (some (.ref f))
abbrev Nn (K:Ç) (x:Str):Prop:=PySem.W.nsIn K mainGlobals x=some none
abbrev Kp (K:Ç) (f:Á):Prop:=PySem.W.keepIn K (.ref f)=true
abbrev Cd (K:Ç) (c:À) (q:Str):Prop:=PySem.W.codeIn K c q=true
abbrev Lk (K:Ç) (f:Á) (m q:Str) (s:Stmt) (oc:À) (od:Option Á) (kV dc pm:À) (an:Option Á) (cd ct:À) (sl:Array (Option À)):Prop:=K.lookup f=some ⟨oc,od,.func (PySem.W.fnOf m q (nU s) (jJ s) (aL s) .none kV dc pm an cd ct),sl⟩
theorem all_mk {l:PySem.W.OpenLaw}{w:World}{K:Ç}{h:Heap}{mg:Str->Option À}{fa f0 f1 f2 f3 f4 f5 f6 f7 f8 f9 Cz Db Mt Gm Mu Mv Mw Mx My Mz Nb Nc Nd Nf Ng Nh Ni Nj Go Gp Nk Nl Nm Gq Gs No Np Nq Nr Nt Nu Nv Nw Nx Ny Gu Gv Gw Nz Gx Gy Gz Ha Hb Hc Hd He Hf Hg Hh Oa Hi Ob Oc Od Oe Of Og Oh Oi Oj Tx C CD aw im ik gp ia ib gr ic gw gu:Á} (X:K.In h) (G:h.Ns mainGlobals mg) (hfa:mg "law" = some (.ref fa))
  {od0 an0 od1 Mq od2 zn od3 Gj od4 an4 od5 an5 od6 an6 od7 an7 od8 an8 od9 an9 Ty Tz Ua Ub Uc Ud Ue Uf Ug Uh Ui Uj Uk Ul Um Uo Up Uq Ur Us Ut Uu Uv Uw Ux Uy Uz Va Vb Vc Vd Ve Vf Vg Vh Vi Vj Vk Vl Vm Vn Vo Vp Vq Vr Vt Vu Vv Vw Vx Vy Vz VX VY VZ Wa Wb Wc Wd We Wf Wg Wh Wi Wj Wk Wl Wm Wn Wo Wp Wq Wr Ws Wt Wu Wv Ww Wx Wy Wz WA WB WC WD WE WF WG WH WI WJ WK WL WM WN WO WP WQ WR WS WT WU WV WW WX WY WZ W0 W1 W2 W3 W4 W5 W6 W7 W8 W9 Xa Xb Xc Xd Xe Xf Hj:Option Á}{sl0 sl1 zt sl3 sl4 sl5 sl6 sl7 sl8 sl9 Xg Xh Xi Xj Xk Xl Xm Xn Xo Xp Xq Xr Xs Xt Xu Xv Xw Xx Xy Xz XA XB XC XD XF XG XH XI XJ XL XM XN XO XQ XR XS XT XU XV XW XX XY XZ X0 X1 X2 X3 X4 X5 X6 X7 X8 X9 Ya Yb Yc Yd Ye Yf Yg Yh Yi:Array (Option À)}{oc0 kV0 dc0 pm0 ct0 cd0 oc1 kV1 dc1 pm1 ct1 cd1 oc2 kV2 dc2 pm2 ct2 cd2 oc3 kV3 dc3 pm3 ct3 cd3 oc4 kV4 dc4 pm4 ct4 cd4 oc5 kV5 dc5 pm5 ct5 cd5 oc6 kV6 dc6 pm6 ct6 cd6 oc7 kV7 dc7 pm7 ct7 cd7 oc8 kV8 dc8 pm8 ct8 cd8 oc9 kV9 dc9 pm9 ct9 cd9 Yj Yk Yl Ym Yn Hk Yo Yp Yq Yr Ys Hl Yt Yu Yv Yw Yx Hm Yy Yz YA YB YC Hn YD YE YF YG YH Ho YI YJ YK YL YM Hq YN YO YQ YR YS Hr YT YU YV YW YX Hs YY YZ Y0 Y1 Y2 Ht Y3 Y4 Y5 Y6 Y7 Hu Y8 Y9 Za Zb Zc Hv Zd Ze Zf Zg Zh Hw Zi Zj Zk Zl Zm Hy Zn Zo Zp Zq Zr Hz Zs Zt Zu Zv Zw Ia Zx Zy Zz ZA ZB Ib ZC ZD ZE ZF ZG Ic ZH ZI ZJ ZK ZL Id ZM ZN ZO ZP ZQ Ie ZR ZS ZT ZU ZV Ig ZW ZX ZY ZZ Z0 Ih Z1 Z2 Z3 Z4 Z5 Ii Z6 Z7 Z8 Z9 a_ Ij b_ c_ d_ e_ f_ Ik g_ h_ i_ j_ k_ Il l_ m_ n_ o_ p_ Im q_ r_ s_ t_ u_ Io v_ w_ x_ y_ z_ Ip A_ B_ C_ D_ E_ Iq F_ G_ H_ I_ J_ Ir K_ L_ M_ N_ O_ Iu P_ Q_ R_ S_ T_ Iv U_ V_ W_ X_ Y_ Iw Z_ B' F' G' J' Ix K' L' M' V' W' Iy X' Y' Z' pm45 ct45 Iz oc46 kV46 dc46 pm46 ct46 Ja oc47 kV47 dc47 pm47 ct47 Jb oc48 kV48 dc48 pm48 ct48 Jc oc49 kV49 dc49 pm49 ct49 Jd oc50 kV50 dc50 pm50 ct50 Je oc51 kV51 dc51 pm51 ct51 Jf oc52 kV52 dc52 pm52 ct52 Jg oc53 kV53 dc53 pm53 ct53 Jh oc54 kV54 dc54 pm54 ct54 Ji oc55 kV55 dc55 pm55 ct55 Jj oc56 kV56 dc56 pm56 ct56 Jk oc57 kV57 dc57 pm57 ct57 Jl oc58 kV58 dc58 pm58 ct58 Jm oc59 kV59 dc59 pm59 ct59 Jn oc60 kV60 dc60 pm60 ct60 Jo oc61 kV61 dc61 pm61 ct61 Jp oc62 kV62 dc62 pm62 ct62 Jq oc63 kV63 dc63 pm63 ct63 Jr oc64 kV64 dc64 pm64 ct64 Js oc65 kV65 dc65 pm65 ct65 Jt oc66 kV66 dc66 pm66 ct66 Ju oc67 kV67 dc67 pm67 ct67 Jv oc68 kV68 dc68 pm68 ct68 Jw oc69 kV69 dc69 pm69 ct69 Jx oc70 kV70 dc70 pm70 ct70 Jy oc71 Jz Ka Kb Kc Bz:À}
  {To Tp tk2 tk3 tk4 tk5 tk6 tk7 tw1 tw2 tw3:Tok}{odw:Option Á}{nw:Nat}{slw:Array (Option À)}
  (aCD:Na K "Desk" CD)
  (aC:Na K "Run" C)
  {aA aN ga0 ga1 ga2 ga3:Á}{ka0 ka1 ka2 ka3 ka4 ka5 ka6 ka7 ka8 ka9 ka10 ka11 ka12 ku0 kv0 ku1 kv1 ku2 kv2 ku3 kv3 ku4 kv4:Tok}{mA nA:Nat}
  {tkB1 tkB2:Tok}
  {tkF:Tok}
  {qcV qcR qcS:À}{qdV qdR qdS:Option Á}{qkV qkR qkS:ClassData}{qsV qsR qsS:Array (Option À)}
  (a0:Na K "_law_draw" f0)
  (l0:Lk K f0 "_law_draw" "_law_draw" (aU 99) oc0 od0 kV0 dc0 pm0 an0 cd0 ct0 sl0)
  (c0:Cd K cd0 "_law_draw")
  (k0:Kp K f0)
  (a1:Na K "_law_outs" f1)
  (l1:Lk K f1 "_law_outs" "_law_outs" (aU 101) oc1 od1 kV1 dc1 pm1 Mq cd1 ct1 sl1)
  (c1:Cd K cd1 "_law_outs")
  (k1:Kp K f1)
  (a2:Na K "_law_vessel" f2)
  (l2:Lk K f2 "_law_vessel" "_law_vessel" (aU 102) oc2 od2 kV2 dc2 pm2 zn cd2 ct2 zt)
  (c2:Cd K cd2 "_law_vessel")
  (k2:Kp K f2)
  (a3:Na K "_law_net" f3)
  (l3:Lk K f3 "_law_net" "_law_net" (aU 103) oc3 od3 kV3 dc3 pm3 Gj cd3 ct3 sl3)
  (c3:Cd K cd3 "_law_net")
  (k3:Kp K f3)
  (a4:Na K "_law_goal" f4)
  (l4:Lk K f4 "_law_goal" "_law_goal" (aU 104) oc4 od4 kV4 dc4 pm4 an4 cd4 ct4 sl4)
  (c4:Cd K cd4 "_law_goal")
  (k4:Kp K f4)
  (a5:Na K "_law_text" f5)
  (l5:Lk K f5 "_law_text" "_law_text" (aU 105) oc5 od5 kV5 dc5 pm5 an5 cd5 ct5 sl5)
  (c5:Cd K cd5 "_law_text")
  (k5:Kp K f5)
  (a6:Na K "is_number" f6)
  (l6:Lk K f6 "is_number" "is_number" (aU 77) oc6 od6 kV6 dc6 pm6 an6 cd6 ct6 sl6)
  (c6:Cd K cd6 "is_number")
  (k6:Kp K f6)
  (a7:Na K "read_number" f7)
  (l7:Lk K f7 "read_number" "read_number" (aU 76) oc7 od7 kV7 dc7 pm7 an7 cd7 ct7 sl7)
  (c7:Cd K cd7 "read_number")
  (k7:Kp K f7)
  (a8:Na K "read_target" f8)
  (l8:Lk K f8 "read_target" "read_target" (aU 75) oc8 od8 kV8 dc8 pm8 an8 cd8 ct8 sl8)
  (c8:Cd K cd8 "read_target")
  (k8:Kp K f8)
  (a9:Na K "read_acts" f9)
  (l9:Lk K f9 "read_acts" "read_acts" (aU 73) oc9 od9 kV9 dc9 pm9 an9 cd9 ct9 sl9)
  (c9:Cd K cd9 "read_acts")
  (k9:Kp K f9)
  (a10:Na K "read_vessel" Cz)
  (l10:Lk K Cz "read_vessel" "read_vessel" (aU 72) Yj Ty Yk Yl Ym Tz Hk Yn Xg)
  (uz:Cd K Hk "read_vessel")
  (k10:Kp K Cz)
  (a11:Na K "read_spout" Db)
  (l11:Lk K Db "read_spout" "read_spout" (aU 74) Yo Ua Yp Yq Yr Ub Hl Ys Xh)
  (zk:Cd K Hl "read_spout")
  (k11:Kp K Db)
  (a12:Na K "is_tuple" Mt)
  (l12:Lk K Mt "is_tuple" "is_tuple" (aU 47) Yt Uc Yu Yv Yw Ud Hm Yx Xi)
  (zm:Cd K Hm "is_tuple")
  (k12:Kp K Mt)
  (a13:Na K "is_whole" Gm)
  (l13:Lk K Gm "is_whole" "is_whole" (aU 48) Yy Ue Yz YA YB Uf Hn YC Xj)
  (tu:Cd K Hn "is_whole")
  (k13:Kp K Gm)
  (a14:Na K "is_out" Mu)
  (l14:Lk K Mu "is_out" "is_out" (aU 42) YD Ug YE YF YG Uh Ho YH Xk)
  (sh:Cd K Ho "is_out")
  (k14:Kp K Mu)
  (a15:Na K "is_act" Mv)
  (l15:Lk K Mv "is_act" "is_act" (aU 43) YI Ui YJ YK YL Uj Hq YM Xl)
  (Ai:Cd K Hq "is_act")
  (k15:Kp K Mv)
  (a16:Na K "is_vessel" Mw)
  (l16:Lk K Mw "is_vessel" "is_vessel" (aU 41) YN Uk YO YQ YR Ul Hr YS Xm)
  (xk:Cd K Hr "is_vessel")
  (k16:Kp K Mw)
  (a17:Na K "is_spout" Mx)
  (l17:Lk K Mx "is_spout" "is_spout" (aU 44) YT Um YU YV YW Uo Hs YX Xn)
  (vb:Cd K Hs "is_spout")
  (k17:Kp K Mx)
  (a18:Na K "is_net" My)
  (l18:Lk K My "is_net" "is_net" (aU 40) YY Up YZ Y0 Y1 Uq Ht Y2 Xo)
  (xz:Cd K Ht "is_net")
  (k18:Kp K My)
  (a19:Na K "target_word" Mz)
  (l19:Lk K Mz "target_word" "target_word" (aU 69) Y3 Ur Y4 Y5 Y6 Us Hu Y7 Xp)
  (Dg:Cd K Hu "target_word")
  (k19:Kp K Mz)
  (a20:Na K "vessel_line" Nb)
  (l20:Lk K Nb "vessel_line" "vessel_line" (aU 67) Y8 Ut Y9 Za Zb Uu Hv Zc Xq)
  (c20:Cd K Hv "vessel_line")
  (k20:Kp K Nb)
  (a21:Na K "door_word" Nc)
  (l21:Lk K Nc "door_word" "door_word" (aU 70) Zd Uv Ze Zf Zg Uw Hw Zh Xr)
  (c21:Cd K Hw "door_word")
  (k21:Kp K Nc)
  (a22:Na K "spout_line" Nd)
  (l22:Lk K Nd "spout_line" "spout_line" (aU 68) Zi Ux Zj Zk Zl Uy Hy Zm Xs)
  (c22:Cd K Hy "spout_line")
  (k22:Kp K Nd)
  (a23:Na K "net_text" Nf)
  (l23:Lk K Nf "net_text" "net_text" (aU 66) Zn Uz Zo Zp Zq Va Hz Zr Xt)
  (c23:Cd K Hz "net_text")
  (k23:Kp K Nf)
  (a24:Na K "read_net" Ng)
  (l24:Lk K Ng "read_net" "read_net" (aU 71) Zs Vb Zt Zu Zv Vc Ia Zw Xu)
  (c24:Cd K Ia "read_net")
  (k24:Kp K Ng)
  (a25:Na K "first_state" Nh)
  (l25:Lk K Nh "first_state" "first_state" (aU 12) Zx Vd Zy Zz ZA Ve Ib ZB Xv)
  (c25:Cd K Ib "first_state")
  (k25:Kp K Nh)
  (a26:Na K "pouring" Ni)
  (l26:Lk K Ni "pouring" "pouring" (aU 13) ZC Vf ZD ZE ZF Vg Ic ZG Xw)
  (c26:Cd K Ic "pouring")
  (k26:Kp K Ni)
  (a27:Na K "first_moment" Nj)
  (l27:Lk K Nj "first_moment" "first_moment" (aU 24) ZH Vh ZI ZJ ZK Vi Id ZL Xx)
  (c27:Cd K Id "first_moment")
  (k27:Kp K Nj)
  (a28:PySem.W.findIn K (.ref C) "__init__" = some (some (.ref Go)))
  (i28:PySem.W.isFn K (.ref Go)=true)
  (l28:Lk K Go "__init__" "Run.__init__" (bF (aU 54) 0) ZM Vj ZN ZO ZP Vk Ie ZQ Xy)
  (c28:Cd K Ie "Run.__init__")
  (k28:Kp K Go)
  (a29:PySem.W.findIn K (.ref CD) "__init__" = some (some (.ref Gp)))
  (i29:PySem.W.isFn K (.ref Gp)=true)
  (l29:Lk K Gp "__init__" "Desk.__init__" (bF (aU 96) 0) ZR Vl ZS ZT ZU Vm Ig ZV Xz)
  (c29:Cd K Ig "Desk.__init__")
  (k29:Kp K Gp)
  (a30:Na K "need_vessel" Nk)
  (l30:Lk K Nk "need_vessel" "need_vessel" (aU 45) ZW Vn ZX ZY ZZ Vo Ih Z0 XA)
  (c30:Cd K Ih "need_vessel")
  (k30:Kp K Nk)
  (a31:Na K "most_to_pour" Nl)
  (l31:Lk K Nl "most_to_pour" "most_to_pour" (aU 28) Z1 Vp Z2 Z3 Z4 Vq Ii Z5 XB)
  (c31:Cd K Ii "most_to_pour")
  (k31:Kp K Nl)
  (a32:Na K "moment_poured" Nm)
  (l32:Lk K Nm "moment_poured" "moment_poured" (aU 25) Z6 Vr Z7 Z8 Z9 Vt Ij a_ XC)
  (c32:Cd K Ij "moment_poured")
  (k32:Kp K Nm)
  (a33:PySem.W.findIn K (.ref C) "pour" = some (some (.ref Gq)))
  (i33:PySem.W.isFn K (.ref Gq)=true)
  (l33:Lk K Gq "pour" "Run.pour" (bF (aU 54) 1) b_ Vu c_ d_ e_ Vv Ik f_ XD)
  (c33:Cd K Ik "Run.pour")
  (k33:Kp K Gq)
  (a34:Na K "answer_pour" Gs)
  (l34:Lk K Gs "answer_pour" "answer_pour" (aU 80) g_ Vw h_ i_ j_ Vx Il k_ XF)
  (c34:Cd K Il "answer_pour")
  (k34:Kp K Gs)
  (a35:Na K "most_to_go" No)
  (l35:Lk K No "most_to_go" "most_to_go" (aU 29) l_ Vy m_ n_ o_ Vz Im p_ XG)
  (c35:Cd K Im "most_to_go")
  (k35:Kp K No)
  (a36:Na K "filled" Np)
  (l36:Lk K Np "filled" "filled" (aU 16) q_ VX r_ s_ t_ VY Io u_ XH)
  (c36:Cd K Io "filled")
  (k36:Kp K Np)
  (a37:Na K "send" Nq)
  (l37:Lk K Nq "send" "send" (aU 19) v_ VZ w_ x_ y_ Wa Ip z_ XI)
  (c37:Cd K Ip "send")
  (k37:Kp K Nq)
  (a38:Na K "share_out" Nr)
  (l38:Lk K Nr "share_out" "share_out" (aU 18) A_ Wb B_ C_ D_ Wc Iq E_ XJ)
  (c38:Cd K Iq "share_out")
  (k38:Kp K Nr)
  (a39:Na K "settle" Nt)
  (l39:Lk K Nt "settle" "settle" (aU 17) F_ Wd G_ H_ I_ We Ir J_ XL)
  (c39:Cd K Ir "settle")
  (k39:Kp K Nt)
  (a40:Na K "doors_behind" Nu)
  (l40:Lk K Nu "doors_behind" "doors_behind" (aU 20) K_ Wf L_ M_ N_ Wg Iu O_ XM)
  (c40:Cd K Iu "doors_behind")
  (k40:Kp K Nu)
  (a41:Na K "tick_behind" Nv)
  (l41:Lk K Nv "tick_behind" "tick_behind" (aU 14) P_ Wh Q_ R_ S_ Wi Iv T_ XN)
  (c41:Cd K Iv "tick_behind")
  (k41:Kp K Nv)
  (a42:Na K "came_in" Nw)
  (l42:Lk K Nw "came_in" "came_in" (aU 15) U_ Wj V_ W_ X_ Wk Iw Y_ XO)
  (c42:Cd K Iw "came_in")
  (k42:Kp K Nw)
  (a43:Na K "moment_behind" Nx)
  (l43:Lk K Nx "moment_behind" "moment_behind" (aU 27) Z_ Wl B' F' G' Wm Ix J' XQ)
  (c43:Cd K Ix "moment_behind")
  (k43:Kp K Nx)
  (a44:Na K "moment_gone" Ny)
  (l44:Lk K Ny "moment_gone" "moment_gone" (aU 26) K' Wn L' M' V' Wo Iy W' XR)
  (c44:Cd K Iy "moment_gone")
  (k44:Kp K Ny)
  (a45:PySem.W.findIn K (.ref C) "go" = some (some (.ref Gu)))
  (i45:PySem.W.isFn K (.ref Gu)=true)
  (l45:Lk K Gu "go" "Run.go" (bF (aU 54) 2) X' Wp Y' Z' pm45 Wq Iz ct45 XS)
  (c45:Cd K Iz "Run.go")
  (k45:Kp K Gu)
  (a46:Na K "answer_go" Gv)
  (l46:Lk K Gv "answer_go" "answer_go" (aU 81) oc46 Wr kV46 dc46 pm46 Ws Ja ct46 XT)
  (c46:Cd K Ja "answer_go")
  (k46:Kp K Gv)
  (a47:PySem.W.findIn K (.ref C) "state" = some (some (.ref Gw)))
  (i47:PySem.W.isFn K (.ref Gw)=true)
  (l47:Lk K Gw "state" "Run.state" (bF (aU 54) 5) oc47 Wt kV47 dc47 pm47 Wu Jb ct47 XU)
  (c47:Cd K Jb "Run.state")
  (k47:Kp K Gw)
  (a48:Na K "with_blanks" Nz)
  (l48:Lk K Nz "with_blanks" "with_blanks" (aU 93) oc48 Wv kV48 dc48 pm48 Ww Jc ct48 XV)
  (c48:Cd K Jc "with_blanks")
  (k48:Kp K Nz)
  (a49:Na K "answer_held" Gx)
  (l49:Lk K Gx "answer_held" "answer_held" (aU 83) oc49 Wx kV49 dc49 pm49 Wy Jd ct49 XW)
  (c49:Cd K Jd "answer_held")
  (k49:Kp K Gx)
  (a50:Na K "answer_coming" Gy)
  (l50:Lk K Gy "answer_coming" "answer_coming" (aU 84) oc50 Wz kV50 dc50 pm50 WA Je ct50 XX)
  (c50:Cd K Je "answer_coming")
  (k50:Kp K Gy)
  (a51:Na K "answer_doors" Gz)
  (l51:Lk K Gz "answer_doors" "answer_doors" (aU 85) oc51 WB kV51 dc51 pm51 WC Jf ct51 XY)
  (c51:Cd K Jf "answer_doors")
  (k51:Kp K Gz)
  (a52:PySem.W.findIn K (.ref C) "tick" = some (some (.ref Ha)))
  (i52:PySem.W.isFn K (.ref Ha)=true)
  (l52:Lk K Ha "tick" "Run.tick" (bF (aU 54) 4) oc52 WD kV52 dc52 pm52 WE Jg ct52 XZ)
  (c52:Cd K Jg "Run.tick")
  (k52:Kp K Ha)
  (a53:Na K "answer_tick" Hb)
  (l53:Lk K Hb "answer_tick" "answer_tick" (aU 86) oc53 WF kV53 dc53 pm53 WG Jh ct53 X0)
  (c53:Cd K Jh "answer_tick")
  (k53:Kp K Hb)
  (a54:PySem.W.findIn K (.ref C) "came" = some (some (.ref Hc)))
  (i54:PySem.W.isFn K (.ref Hc)=true)
  (l54:Lk K Hc "came" "Run.came" (bF (aU 54) 7) oc54 WH kV54 dc54 pm54 WI Ji ct54 X1)
  (c54:Cd K Ji "Run.came")
  (k54:Kp K Hc)
  (a55:Na K "answer_came" Hd)
  (l55:Lk K Hd "answer_came" "answer_came" (aU 87) oc55 WJ kV55 dc55 pm55 WK Jj ct55 X2)
  (c55:Cd K Jj "answer_came")
  (k55:Kp K Hd)
  (a56:PySem.W.findIn K (.ref C) "grounded" = some (some (.ref He)))
  (i56:PySem.W.isFn K (.ref He)=true)
  (l56:Lk K He "grounded" "Run.grounded" (bF (aU 54) 8) oc56 WL kV56 dc56 pm56 WM Jk ct56 X3)
  (c56:Cd K Jk "Run.grounded")
  (k56:Kp K He)
  (a57:Na K "answer_grounded" Hf)
  (l57:Lk K Hf "answer_grounded" "answer_grounded" (aU 88) oc57 WN kV57 dc57 pm57 WO Jl ct57 X4)
  (c57:Cd K Jl "answer_grounded")
  (k57:Kp K Hf)
  (a58:PySem.W.findIn K (.ref C) "tips" = some (some (.ref Hg)))
  (i58:PySem.W.isFn K (.ref Hg)=true)
  (l58:Lk K Hg "tips" "Run.tips" (bF (aU 54) 6) oc58 WP kV58 dc58 pm58 WQ Jm ct58 X5)
  (c58:Cd K Jm "Run.tips")
  (k58:Kp K Hg)
  (a59:Na K "answer_tips" Hh)
  (l59:Lk K Hh "answer_tips" "answer_tips" (aU 89) oc59 WR kV59 dc59 pm59 WS Jn ct59 X6)
  (c59:Cd K Jn "answer_tips")
  (k59:Kp K Hh)
  (a60:Na K "read_row" Oa)
  (l60:Lk K Oa "read_row" "read_row" (aU 97) oc60 WT kV60 dc60 pm60 WU Jo ct60 X7)
  (c60:Cd K Jo "read_row")
  (k60:Kp K Oa)
  (a61:PySem.W.findIn K (.ref CD) "say" = some (some (.ref Hi)))
  (i61:PySem.W.isFn K (.ref Hi)=true)
  (l61:Lk K Hi "say" "Desk.say" (bF (aU 96) 1) oc61 WV kV61 dc61 pm61 WW Jp ct61 X8)
  (c61:Cd K Jp "Desk.say")
  (k61:Kp K Hi)
  (a62:Na K "_law_word" Ob)
  (l62:Lk K Ob "_law_word" "_law_word" (aU 100) oc62 WX kV62 dc62 pm62 WY Jq ct62 X9)
  (c62:Cd K Jq "_law_word")
  (k62:Kp K Ob)
  (a63:Na K "_law_said" Oc)
  (l63:Lk K Oc "_law_said" "_law_said" (aU 109) oc63 WZ kV63 dc63 pm63 W0 Jr ct63 Ya)
  (c63:Cd K Jr "_law_said")
  (k63:Kp K Oc)
  (a64:Na K "_law_row" Od)
  (l64:Lk K Od "_law_row" "_law_row" (aU 110) oc64 W1 kV64 dc64 pm64 W2 Js ct64 Yb)
  (c64:Cd K Js "_law_row")
  (k64:Kp K Od)
  (a65:Na K "_law_turned" Oe)
  (l65:Lk K Oe "_law_turned" "_law_turned" (aU 106) oc65 W3 kV65 dc65 pm65 W4 Jt ct65 Yc)
  (c65:Cd K Jt "_law_turned")
  (k65:Kp K Oe)
  (a66:Na K "_law_bent" Of)
  (l66:Lk K Of "_law_bent" "_law_bent" (aU 108) oc66 W5 kV66 dc66 pm66 W6 Ju ct66 Yd)
  (c66:Cd K Ju "_law_bent")
  (k66:Kp K Of)
  (a67:Na K "_law_number" Og)
  (l67:Lk K Og "_law_number" "_law_number" (aU 107) oc67 W7 kV67 dc67 pm67 W8 Jv ct67 Ye)
  (c67:Cd K Jv "_law_number")
  (k67:Kp K Og)
  (a68:Na K "_law_words" Oh)
  (l68:Lk K Oh "_law_words" "_law_words" (aU 111) oc68 W9 kV68 dc68 pm68 Xa Jw ct68 Yf)
  (c68:Cd K Jw "_law_words")
  (k68:Kp K Oh)
  (a69:Na K "_law_look" Oi)
  (l69:Lk K Oi "_law_look" "_law_look" (aU 112) oc69 Xb kV69 dc69 pm69 Xc Jx ct69 Yg)
  (c69:Cd K Jx "_law_look")
  (k69:Kp K Oi)
  (a70:Na K "_law_due" Oj)
  (l70:Lk K Oj "_law_due" "_law_due" (aU 113) oc70 Xd kV70 dc70 pm70 Xe Jy ct70 Yh)
  (c70:Cd K Jy "_law_due")
  (k70:Kp K Oj)
  (a71:Na K "law" Tx)
  (l71:Lk K Tx "law" "law" (aU 114) oc71 Xf Jz Ka Kb Hj Bz Kc Yi)
  (c71:Cd K Bz "law")
  (k71:Kp K Tx)
  (pg:PySem.W.plainGet K C Str.empty=true)
  (hd:PySem.W.hasDictIn K C=true)
  (po:PySem.W.plainOver K C=true)
  (sa:PySem.W.findIn K (.ref C) "__setattr__" = some (some (.builtin "object.__setattr__")))
  (mk:PySem.W.makesIn K C=true)
  (kc:Kp K C)
  (n0:PySem.W.findIn K (.ref C) "net" = some none)
  (n1:PySem.W.findIn K (.ref C) "rows" = some none)
  (n2:PySem.W.findIn K (.ref C) "moments" = some none)
  (n3:PySem.W.findIn K (.ref C) "tip_ticks" = some none)
  (pg2:PySem.W.plainGet K CD Str.empty=true)
  (hd2:PySem.W.hasDictIn K CD=true)
  (po2:PySem.W.plainOver K CD=true)
  (sa2:PySem.W.findIn K (.ref CD) "__setattr__" = some (some (.builtin "object.__setattr__")))
  (mk2:PySem.W.makesIn K CD=true)
  (kc2:Kp K CD)
  (nr2:PySem.W.findIn K (.ref CD) "run" = some none)
  (mc0:PySem.W.nsIn K mainGlobals "MOST_VESSELS" = some (some (.int 12 To)))
  (mc1:PySem.W.nsIn K mainGlobals "MOST_SPOUTS" = some (some (.int 12 Tp)))
  (mc2:PySem.W.nsIn K mainGlobals "MOST_SIZE" = some (some (.int 60 tk2)))
  (mc3:PySem.W.nsIn K mainGlobals "MOST_BRIM" = some (some (.int 200 tk3)))
  (mc4:PySem.W.nsIn K mainGlobals "MOST_OUTS" = some (some (.int 3 tk4)))
  (mc5:PySem.W.nsIn K mainGlobals "MOST_PARTS" = some (some (.int 60 tk5)))
  (mc6:PySem.W.nsIn K mainGlobals "MOST_ACTS" = some (some (.int 3 tk6)))
  (mc7:PySem.W.nsIn K mainGlobals "MOST_FLOW" = some (some (.int 60 tk7)))
  (mcw:Na K "ACT_WORDS" aw)
  (mlw:K.lookup aw=some ⟨.type "tuple",odw,.seq #[.str "open" tw1,.str "shut" tw2,.str "turn" tw3] nw,slw⟩)
  (Kd:Na K "ANSWERS" aA)
  (Ke:Na K "NUMBER_COUNTS" aN)
  (mlA:K.lookup aA=some ⟨.type "dict",none,.dict #[⟨PyData.keyHash w.params "pour",.str "pour" ka0,.ref Gs⟩,⟨PyData.keyHash w.params "go",.str "go" ka1,.ref Gv⟩,⟨PyData.keyHash w.params "held",.str "held" ka2,.ref Gx⟩,⟨PyData.keyHash w.params "coming",.str "coming" ka3,.ref Gy⟩,⟨PyData.keyHash w.params "doors",.str "doors" ka4,.ref Gz⟩,⟨PyData.keyHash w.params "tick",.str "tick" ka5,.ref Hb⟩,⟨PyData.keyHash w.params "came",.str "came" ka6,.ref Hd⟩,⟨PyData.keyHash w.params "grounded",.str "grounded" ka7,.ref Hf⟩,⟨PyData.keyHash w.params "tips",.str "tips" ka8,.ref Hh⟩,⟨PyData.keyHash w.params "back",.str "back" ka9,.ref ga0⟩,⟨PyData.keyHash w.params "round",.str "round" ka10,.ref ga1⟩,⟨PyData.keyHash w.params "stuck",.str "stuck" ka11,.ref ga2⟩,⟨PyData.keyHash w.params "soonest",.str "soonest" ka12,.ref ga3⟩] mA,#[]⟩)
  (mlN:K.lookup aN=some ⟨.type "dict",none,.dict #[⟨PyData.keyHash w.params "pour",.str "pour" ku0,.int 2 kv0⟩,⟨PyData.keyHash w.params "go",.str "go" ku1,.int 1 kv1⟩,⟨PyData.keyHash w.params "tips",.str "tips" ku2,.int 1 kv2⟩,⟨PyData.keyHash w.params "stuck",.str "stuck" ku3,.int 1 kv3⟩,⟨PyData.keyHash w.params "soonest",.str "soonest" ku4,.int 2 kv4⟩] nA,#[]⟩)
  (mcB1:PySem.W.nsIn K mainGlobals "MOST_POURED" = some (some (.int 1000 tkB1)))
  (mcB2:PySem.W.nsIn K mainGlobals "MOST_TICKS" = some (some (.int 3000 tkB2)))
  (mcF:PySem.W.nsIn K mainGlobals "MOST_FIGURES" = some (some (.int 9 tkF)))
  (zS:Nn K "str")
  (tw:Na K "TipError" im)
  (zp:Na K "NoNet" ik)
  (oh:Na K "NoVessel" gp)
  (vd:Na K "TooLong" ia)
  (ve:Na K "TooMany" ib)
  (ph:Na K "TooMuch" gr)
  (vf:Na K "Nothing" ic)
  (si:Na K "NoText" gw)
  (ug:Na K "NoRow" gu)
  (xv:Nn K "ValueError")
  (gaV:PySem.W.findIn K (.ref gp) "__getattribute__" = some (some (.builtin "BaseException.__getattribute__")))
  (gtV:PySem.W.findIn K (.ref gp) "__getattr__" = some none)
  (caV:PySem.W.findIn K (.ref gp) "__class__" = some (some (.builtin "object.__class__")))
  (gg:PySem.W.specialIn K (.builtin "object.__class__") "__get__" = some (some (.builtin "getset_descriptor.__get__")))
  (tk:PySem.W.takesIn K (.builtin "object.__class__")=some true)
  (moV:PySem.W.mroIn K gp (.type "object")=some true)
  (mbV:PySem.W.mroIn K gp (.type "BaseException")=some true)
  (clV:K.lookup gp=some ⟨qcV,qdV,.cls qkV,qsV⟩)
  (gaR:PySem.W.findIn K (.ref gu) "__getattribute__" = some (some (.builtin "BaseException.__getattribute__")))
  (gtR:PySem.W.findIn K (.ref gu) "__getattr__" = some none)
  (caR:PySem.W.findIn K (.ref gu) "__class__" = some (some (.builtin "object.__class__")))
  (moR:PySem.W.mroIn K gu (.type "object")=some true)
  (mbR:PySem.W.mroIn K gu (.type "BaseException")=some true)
  (clR:K.lookup gu=some ⟨qcR,qdR,.cls qkR,qsR⟩)
  (gaS:PySem.W.findIn K (.ref gr) "__getattribute__" = some (some (.builtin "BaseException.__getattribute__")))
  (gtS:PySem.W.findIn K (.ref gr) "__getattr__" = some none)
  (caS:PySem.W.findIn K (.ref gr) "__class__" = some (some (.builtin "object.__class__")))
  (moS:PySem.W.mroIn K gr (.type "object")=some true)
  (mbS:PySem.W.mroIn K gr (.type "BaseException")=some true)
  (clS:K.lookup gr=some ⟨qcS,qdS,.cls qkS,qsS⟩)
  (z0:Nn K "len")
  (z1:Nn K "sum")
  (z2:Nn K "all")
  (z3:Nn K "max")
  (z4:Nn K "min")
  (z5:Nn K "int")
  (z6:Nn K "tuple")
  (z7:Nn K "list")
  (z8:Nn K "bool")
  (z9:Nn K "range")
  (z10:Nn K "zip")
  (z11:Nn K "enumerate")
  (z12:Nn K "isinstance")
  (z13:Nn K "divmod")
  (z14:Nn K "set")
  (z15:Nn K "sorted")
  (yqA:(aA == sysModules)=false)
  (yqN:(aN == sysModules)=false)
  (exV:PySem.W.excIn K gp [.type "ValueError",.type "Exception",.type "BaseException",.type "object"] "ValueError.__new__" = true)
  (vaV:PySem.W.kitOne K (.ref gp) (.type "ValueError")=some true)
  (kkV0:PySem.W.kitOne K (.ref gp) (.ref ik)=some false)
  (kkV1:PySem.W.kitOne K (.ref gp) (.ref gp)=some true)
  (kkV2:PySem.W.kitOne K (.ref gp) (.ref ia)=some false)
  (kkV3:PySem.W.kitOne K (.ref gp) (.ref ib)=some false)
  (kkV4:PySem.W.kitOne K (.ref gp) (.ref gr)=some false)
  (kkV5:PySem.W.kitOne K (.ref gp) (.ref ic)=some false)
  (kkV6:PySem.W.kitOne K (.ref gp) (.ref gw)=some false)
  (kkV7:PySem.W.kitOne K (.ref gp) (.ref gu)=some false)
  (hmVh:PySem.W.exmOne K (.ref gp) (.ref im)=some true)
  (exX:PySem.W.excIn K gw [.type "ValueError",.type "Exception",.type "BaseException",.type "object"] "ValueError.__new__" = true)
  (exR:PySem.W.excIn K gu [.type "ValueError",.type "Exception",.type "BaseException",.type "object"] "ValueError.__new__" = true)
  (vaR:PySem.W.kitOne K (.ref gu) (.type "ValueError")=some true)
  (kkR0:PySem.W.kitOne K (.ref gu) (.ref ik)=some false)
  (kkR1:PySem.W.kitOne K (.ref gu) (.ref gp)=some false)
  (kkR2:PySem.W.kitOne K (.ref gu) (.ref ia)=some false)
  (kkR3:PySem.W.kitOne K (.ref gu) (.ref ib)=some false)
  (kkR4:PySem.W.kitOne K (.ref gu) (.ref gr)=some false)
  (kkR5:PySem.W.kitOne K (.ref gu) (.ref ic)=some false)
  (kkR6:PySem.W.kitOne K (.ref gu) (.ref gw)=some false)
  (kkR7:PySem.W.kitOne K (.ref gu) (.ref gu)=some true)
  (hmRh:PySem.W.exmOne K (.ref gu) (.ref im)=some true)
  (exS:PySem.W.excIn K gr [.type "ValueError",.type "Exception",.type "BaseException",.type "object"] "ValueError.__new__" = true)
  (vaS:PySem.W.kitOne K (.ref gr) (.type "ValueError")=some true)
  (kkS0:PySem.W.kitOne K (.ref gr) (.ref ik)=some false)
  (kkS1:PySem.W.kitOne K (.ref gr) (.ref gp)=some false)
  (kkS2:PySem.W.kitOne K (.ref gr) (.ref ia)=some false)
  (kkS3:PySem.W.kitOne K (.ref gr) (.ref ib)=some false)
  (kkS4:PySem.W.kitOne K (.ref gr) (.ref gr)=some true)
  (kkS5:PySem.W.kitOne K (.ref gr) (.ref ic)=some false)
  (kkS6:PySem.W.kitOne K (.ref gr) (.ref gw)=some false)
  (kkS7:PySem.W.kitOne K (.ref gr) (.ref gu)=some false)
  (hmSh:PySem.W.exmOne K (.ref gr) (.ref im)=some true) :
  ∃ fd:FuncData,(∀ (s:Â) (v:À),BindsTo s fd ⟨[v],[]⟩ [("script",v)])/\∀ base:Heap,K.In base->base.Ns mainGlobals mg->FnOk l.prog w K mg base gP 12 fa fd ["script"] (FD K):=by
 have e:=hfa.symm.trans (Ì X G a71);cases e;have T:Txt mg:=⟨û X G z0,û X G z1,û X G z2,û X G z3,û X G z4,û X G z5,û X G z6,û X G z7,û X G z8,û X G z9,û X G z10,û X G z11,û X G z12,û X G z13,û X G z14,û X G z15⟩;have U:TxtN K mg aw:=⟨⟨_,Ì X G mc0,_,rfl⟩,⟨_,Ì X G mc1,_,rfl⟩,⟨_,Ì X G mc2,_,rfl⟩,⟨_,Ì X G mc3,_,rfl⟩,⟨_,Ì X G mc4,_,rfl⟩,⟨_,Ì X G mc5,_,rfl⟩,⟨_,Ì X G mc6,_,rfl⟩,⟨_,Ì X G mc7,_,rfl⟩,⟨_,Ì X G mcw,rfl⟩,λ H=>.inr ⟨_,_,_,mlw,rfl,rfl,by show 3<=sizeLine;decide,.cons ⟨_,rfl⟩ (.cons ⟨_,rfl⟩ (.cons ⟨_,rfl⟩ .nil))⟩⟩;have UB:TxtB mg:=⟨⟨_,Ì X G mcB1,_,rfl⟩,⟨_,Ì X G mcB2,_,rfl⟩⟩;have UF:TxtF mg:=⟨⟨_,Ì X G mcF,_,rfl⟩⟩;have TS:TxtS mg:=⟨û X G zS⟩;have W:TxtW mg im ik gp ia ib gr ic gw gu:=⟨Ì X G tw,Ì X G zp,Ì X G oh,Ì X G vd,Ì X G ve,Ì X G ph,Ì X G vf,Ì X G si,Ì X G ug,û X G xv⟩;have jv:ExC K "NoVessel" gp:=⟨oh,exV⟩;have Ry:KindOf K ik gp ia ib gr ic gw gu gp [false,true,false,false,false,false,false,false]:=⟨⟨gaV,gtV,caV,gg,tk,moV,mbV⟩,⟨_,_,_,_,clV⟩,vaV,⟨_,_,_,_,_,_,_,_,rfl,kkV0,kkV1,kkV2,kkV3,kkV4,kkV5,kkV6,kkV7⟩⟩;have Rz:=hmVh;have jb:ExC K "NoText" gw:=⟨si,exX⟩;have jq:ExC K "NoRow" gu:=⟨ug,exR⟩;have Rw:KindOf K ik gp ia ib gr ic gw gu gu [false,false,false,false,false,false,false,true]:=⟨⟨gaR,gtR,caR,gg,tk,moR,mbR⟩,⟨_,_,_,_,clR⟩,vaR,⟨_,_,_,_,_,_,_,_,rfl,kkR0,kkR1,kkR2,kkR3,kkR4,kkR5,kkR6,kkR7⟩⟩;have Rx:=hmRh;have jj:ExC K "TooMuch" gr:=⟨ph,exS⟩;have Sa:KindOf K ik gp ia ib gr ic gw gu gr [false,false,false,false,true,false,false,false]:=⟨⟨gaS,gtS,caS,gg,tk,moS,mbS⟩,⟨_,_,_,_,clS⟩,vaS,⟨_,_,_,_,_,_,_,_,rfl,kkS0,kkS1,kkS2,kkS3,kkS4,kkS5,kkS6,kkS7⟩⟩;have Sb:=hmSh;have tx2:DeskTx2 K CD:=⟨⟨pg2,hd2,po2,sa2⟩,nr2⟩;have tx:RunTx K C:=⟨⟨pg,hd,po,sa⟩,n0,n1,n2,n3⟩;have F0:=aV (st:=(aU 99)) l0 c0 k0;have F1:=aV (st:=(aU 101)) l1 c1 k1;have F2:=aV (st:=(aU 102)) l2 c2 k2;have F3:=aV (st:=(aU 103)) l3 c3 k3;have F4:=aV (st:=(aU 104)) l4 c4 k4;have F5:=aV (st:=(aU 105)) l5 c5 k5;have F6:=aV (st:=(aU 77)) l6 c6 k6;have F7:=aV (st:=(aU 76)) l7 c7 k7;have F8:=aV (st:=(aU 75)) l8 c8 k8;have F9:=aV (st:=(aU 73)) l9 c9 k9;have F10:=aV (st:=(aU 72)) l10 uz k10;have F11:=aV (st:=(aU 74)) l11 zk k11;have F12:=aV (st:=(aU 47)) l12 zm k12;have Ol:=aV (st:=(aU 48)) l13 tu k13;have F14:=aV (st:=(aU 42)) l14 sh k14;have F15:=aV (st:=(aU 43)) l15 Ai k15;have F16:=aV (st:=(aU 41)) l16 xk k16;have F17:=aV (st:=(aU 44)) l17 vb k17;have F18:=aV (st:=(aU 40)) l18 xz k18;have F19:=aV (st:=(aU 69)) l19 Dg k19;have F20:=aV (st:=(aU 67)) l20 c20 k20;have F21:=aV (st:=(aU 70)) l21 c21 k21;have F22:=aV (st:=(aU 68)) l22 c22 k22;have F23:=aV (st:=(aU 66)) l23 c23 k23;have F24:=aV (st:=(aU 71)) l24 c24 k24;have F25:=aV (st:=(aU 12)) l25 c25 k25;have F26:=aV (st:=(aU 13)) l26 c26 k26;have F27:=aV (st:=(aU 24)) l27 c27 k27;have F28:=aV (st:=(bF (aU 54) 0)) l28 c28 k28;have F29:=aV (st:=(bF (aU 96) 0)) l29 c29 k29;have F30:=aV (st:=(aU 45)) l30 c30 k30;have F31:=aV (st:=(aU 28)) l31 c31 k31;have F32:=aV (st:=(aU 25)) l32 c32 k32;have F33:=aV (st:=(bF (aU 54) 1)) l33 c33 k33;have F34:=aV (st:=(aU 80)) l34 c34 k34;have F35:=aV (st:=(aU 29)) l35 c35 k35;have F36:=aV (st:=(aU 16)) l36 c36 k36;have F37:=aV (st:=(aU 19)) l37 c37 k37;have F38:=aV (st:=(aU 18)) l38 c38 k38;have F39:=aV (st:=(aU 17)) l39 c39 k39;have F40:=aV (st:=(aU 20)) l40 c40 k40;have F41:=aV (st:=(aU 14)) l41 c41 k41;have F42:=aV (st:=(aU 15)) l42 c42 k42;have F43:=aV (st:=(aU 27)) l43 c43 k43;have F44:=aV (st:=(aU 26)) l44 c44 k44;have F45:=aV (st:=(bF (aU 54) 2)) l45 c45 k45;have F46:=aV (st:=(aU 81)) l46 c46 k46;have F47:=aV (st:=(bF (aU 54) 5)) l47 c47 k47;have F48:=aV (st:=(aU 93)) l48 c48 k48;have F49:=aV (st:=(aU 83)) l49 c49 k49;have F50:=aV (st:=(aU 84)) l50 c50 k50;have F51:=aV (st:=(aU 85)) l51 c51 k51;have F52:=aV (st:=(bF (aU 54) 4)) l52 c52 k52;have F53:=aV (st:=(aU 86)) l53 c53 k53;have F54:=aV (st:=(bF (aU 54) 7)) l54 c54 k54;have F55:=aV (st:=(aU 87)) l55 c55 k55;have F56:=aV (st:=(bF (aU 54) 8)) l56 c56 k56;have Dc:=aV (st:=(aU 88)) l57 c57 k57;have F58:=aV (st:=(bF (aU 54) 6)) l58 c58 k58;have F59:=aV (st:=(aU 89)) l59 c59 k59;have F60:=aV (st:=(aU 97)) l60 c60 k60;have F61:=aV (st:=(bF (aU 96) 1)) l61 c61 k61;have F62:=aV (st:=(aU 100)) l62 c62 k62;have F63:=aV (st:=(aU 109)) l63 c63 k63;have F64:=aV (st:=(aU 110)) l64 c64 k64;have F65:=aV (st:=(aU 106)) l65 c65 k65;have F66:=aV (st:=(aU 108)) l66 c66 k66;have F67:=aV (st:=(aU 107)) l67 c67 k67;have F68:=aV (st:=(aU 111)) l68 c68 k68;have F69:=aV (st:=(aU 112)) l69 c69 k69;have F70:=aV (st:=(aU 113)) l70 c70 k70;have F71:=aV (st:=(aU 114)) l71 c71 k71;refine⟨PySem.W.fnOf "law" "law" (nU (aU 114)) (jJ (aU 114)) (aL (aU 114)) .none Jz Ka Kb Hj Bz Kc,λ s v=>.of_eq rfl,λ base _ _=>?_⟩;have CB0:Callee l.prog w K mg base "_law_draw" ["tape","many"] 1 jD f0 _:=⟨oF F0 T,Ì X G a0,k0,F0.binds λ _ _ _ _ _ _=>cA λ _ _=>rfl⟩;have C0:Callee l.prog w K mg base "_law_draw" ["tape","many"] 1 iX f0 _:=⟨zY F0 T,Ì X G a0,k0,F0.binds λ _ _ _ _ _ _=>cA λ _ _=>rfl⟩;have C1:Callee l.prog w K mg base "_law_outs" ["tape","many","small"] 2 (DM K) f1 _:=⟨zU F1 T C0,Ì X G a1,k1,F1.binds λ _ _ _ _ _ _=>eI λ _ _ _=>rfl⟩;have C2:Callee l.prog w K mg base "_law_vessel" ["tape","number","many","spouts","small"] 3 (uO K) f2 _:=⟨vV F2 T C0 C1,Ì X G a2,k2,F2.binds λ _ _ _ _ _ _=>Q3 λ _ _ _ _ _=>rfl⟩;have C3:Callee l.prog w K mg base "_law_net" ["tape","most","small"] 4 (DO K) f3 _:=⟨zV F3 T C0 C2,Ì X G a3,k3,F3.binds λ _ _ _ _ _ _=>eI λ _ _ _=>rfl⟩;have C4:Callee l.prog w K mg base "_law_goal" ["target"] 1 yQ f4 _:=⟨zX F4 T TS,Ì X G a4,k4,F4.binds λ _ _ _ _ _ _=>bY λ _=>rfl⟩;have C5:Callee l.prog w K mg base "_law_text" ["net"] 2 (tR K) f5 _:=⟨zR F5 T TS C4,Ì X G a5,k5,F5.binds λ _ _ _ _ _ _=>bY λ _=>rfl⟩;have C6:Callee l.prog w K mg base "is_number" ["word"] 1 tT f6 _:=⟨zN F6 T TS UF,Ì X G a6,k6,F6.binds λ _ _ _ _ _ _=>bY λ _=>rfl⟩;have C7:CalleeR l.prog w K mg base "read_number" ["word"] 2 (nH gw) f7 _:=⟨vN F7 T jb C6,Ì X G a7,k7,F7.binds λ _ _ _ _ _ _=>bY λ _=>rfl⟩;have C8:CalleeR l.prog w K mg base "read_target" ["word"] 3 (yJ gw) f8 _:=⟨vM F8 T C7,Ì X G a8,k8,F8.binds λ _ _ _ _ _ _=>bY λ _=>rfl⟩;have C9:CalleeR l.prog w K mg base "read_acts" ["act_words"] 3 (uR K gw) f9 _:=⟨zK F9 T C7,Ì X G a9,k9,F9.binds λ _ _ _ _ _ _=>bY λ _=>rfl⟩;have C10:CalleeR l.prog w K mg base "read_vessel" ["words"] 4 (yI K gw) Cz _:=⟨vL F10 T C7 C8 C9,Ì X G a10,k10,F10.binds λ _ _ _ _ _ _=>bY λ _=>rfl⟩;have C11:CalleeR l.prog w K mg base "read_spout" ["words"] 3 (yK K gw) Db _:=⟨wP F11 T C7,Ì X G a11,k11,F11.binds λ _ _ _ _ _ _=>bY λ _=>rfl⟩;have Kf:Callee l.prog w K mg base "is_tuple" ["thing","least","most"] 1 (oK K) Mt _:=⟨BH F12 T,Ì X G a12,k12,F12.binds λ _ _ _ _ _ _=>eI λ _ _ _=>rfl⟩;have CB13:Callee l.prog w K mg base "is_whole" ["thing","least","most"] 1 uN Gm _:=⟨zL Ol T,Ì X G a13,k13,Ol.binds λ _ _ _ _ _ _=>eI λ _ _ _=>rfl⟩;have Om:Callee l.prog w K mg base "is_whole" ["thing","least","most"] 1 nG Gm _:=⟨BG Ol T,Ì X G a13,k13,Ol.binds λ _ _ _ _ _ _=>eI λ _ _ _=>rfl⟩;have C14:Callee l.prog w K mg base "is_out" ["thing","vessel_count"] 2 (yN K) Mu _:=⟨HY F14 T U Kf Om,Ì X G a14,k14,F14.binds λ _ _ _ _ _ _=>cA λ _ _=>rfl⟩;have C15:Callee l.prog w K mg base "is_act" ["thing","spout_count"] 2 (yO K) Mv _:=⟨IA F15 T U Kf Om,Ì X G a15,k15,F15.binds λ _ _ _ _ _ _=>cA λ _ _=>rfl⟩;have C16:Callee l.prog w K mg base "is_vessel" ["thing","number","vessel_count","spout_count"] 3 (oN K) Mw _:=⟨zM F16 T U Kf Om C14 C15,Ì X G a16,k16,F16.binds λ _ _ _ _ _ _=>AG λ _ _ _ _=>rfl⟩;have C17:Callee l.prog w K mg base "is_spout" ["thing","vessel_count"] 2 (rL K) Mx _:=⟨BI F17 T U Kf Om,Ì X G a17,k17,F17.binds λ _ _ _ _ _ _=>cA λ _ _=>rfl⟩;have C18:Callee l.prog w K mg base "is_net" ["thing"] 4 (tU K) My _:=⟨HZ F18 T U Kf C16 C17,Ì X G a18,k18,F18.binds λ _ _ _ _ _ _=>bY λ _=>rfl⟩;have C19:Callee l.prog w K mg base "target_word" ["target"] 1 yE Mz _:=⟨vK F19 T TS,Ì X G a19,k19,F19.binds λ _ _ _ _ _ _=>bY λ _=>rfl⟩;have C20:Callee l.prog w K mg base "vessel_line" ["vessel"] 2 (rF K) Nb _:=⟨vI F20 T C19,Ì X G a20,k20,F20.binds λ _ _ _ _ _ _=>bY λ _=>rfl⟩;have C21:Callee l.prog w K mg base "door_word" ["door"] 1 pN Nc _:=⟨zO F21 T,Ì X G a21,k21,F21.binds λ _ _ _ _ _ _=>bY λ _=>rfl⟩;have C22:Callee l.prog w K mg base "spout_line" ["spout"] 2 (rG K) Nd _:=⟨wO F22 T C21,Ì X G a22,k22,F22.binds λ _ _ _ _ _ _=>bY λ _=>rfl⟩;have C23:Callee l.prog w K mg base "net_text" ["net"] 3 (rJ K) Nf _:=⟨BF F23 T C20 C22,Ì X G a23,k23,F23.binds λ _ _ _ _ _ _=>bY λ _=>rfl⟩;have C24:CalleeR l.prog w K mg base "read_net" ["text"] 5 (KA K) Ng _:=⟨zJ F24 T TS jb C10 C11 C18 C23,Ì X G a24,k24,F24.binds λ _ _ _ _ _ _=>bY λ _=>rfl⟩;have C25:Callee l.prog w K mg base "first_state" ["net"] 1 (yR K) Nh _:=⟨vP F25 T,Ì X G a25,k25,F25.binds λ _ _ _ _ _ _=>bY λ _=>rfl⟩;have C26:Callee l.prog w K mg base "pouring" ["net","amount"] 1 (nI K) Ni _:=⟨DZ F26 T,Ì X G a26,k26,F26.binds λ _ _ _ _ _ _=>cA λ _ _=>rfl⟩;have C27:Callee l.prog w K mg base "first_moment" ["net"] 2 (oO K) Nj _:=⟨tH F27 T C25 C26,Ì X G a27,k27,F27.binds λ _ _ _ _ _ _=>bY λ _=>rfl⟩;have C28:MkCal l.prog w K mg base C "Run" ["self","net"] 5 (yP K C) Go _:=⟨⟨mk,a28,i28,kc⟩,P3 F28 T tx C18 C27,Ì X G aC,F28.binds λ _ _ _ _ _ _=>cA λ _ _=>rfl⟩;have C29:MkCalR l.prog w K mg base CD "Desk" ["self","text"] 7 (pO K C CD) Gp _:=⟨⟨mk2,a29,i29,kc2⟩,IC F29 T tx2 C24 C28,Ì X G aCD,F29.binds λ _ _ _ _ _ _=>cA λ _ _=>rfl⟩;have C30:CalleeR l.prog w K mg base "need_vessel" ["net","number"] 2 (pM K gp) Nk _:=⟨tF F30 T jv CB13,Ì X G a30,k30,F30.binds λ _ _ _ _ _ _=>cA λ _ _=>rfl⟩;have C31:Callee l.prog w K mg base "most_to_pour" ["moment","vessel"] 1 (oM K) Nl _:=⟨tG F31 T UB,Ì X G a31,k31,F31.binds λ _ _ _ _ _ _=>cA λ _ _=>rfl⟩;have C32:Callee l.prog w K mg base "moment_poured" ["moment","vessel","amount"] 1 (rK K) Nm _:=⟨rQ F32 T,Ì X G a32,k32,F32.binds λ _ _ _ _ _ _=>eI λ _ _ _=>rfl⟩;have C33:MCalR l.prog w K mg base C "pour" ["self","vessel","amount"] 3 (tS K C gp) Gq _:=⟨tx.cls,⟨a33,i33,k33⟩,LS F33 T tx C30 C32,F33.binds λ _ _ _ _ _ _=>eI λ _ _ _=>rfl⟩;have C34:CalleeR l.prog w K mg base "answer_pour" ["run","numbers"] 9 (fU K C gu gr gp "pour") Gs _:=⟨vS F34 T tx jj C30 C31 C33,Ì X G a34,k34,F34.binds λ _ _ _ _ _ _=>cA λ _ _=>rfl⟩;have C35:Callee l.prog w K mg base "most_to_go" ["moment"] 1 (uS K) No _:=⟨wQ F35 T UB,Ì X G a35,k35,F35.binds λ _ _ _ _ _ _=>bY λ _=>rfl⟩;have C36:Callee l.prog w K mg base "filled" ["spouts","state","poured"] 1 (uU K) Np _:=⟨IB F36 T,Ì X G a36,k36,F36.binds λ _ _ _ _ _ _=>eI λ _ _ _=>rfl⟩;have C37:Callee l.prog w K mg base "send" ["sent","target","amount"] 1 yG Nq _:=⟨P2 F37 T,Ì X G a37,k37,F37.binds λ _ _ _ _ _ _=>eI λ _ _ _=>rfl⟩;have C38:Callee l.prog w K mg base "share_out" ["outs","has","sent"] 2 (yF K) Nr _:=⟨zI F38 T C37,Ì X G a38,k38,F38.binds λ _ _ _ _ _ _=>eI λ _ _ _=>rfl⟩;have C39:Callee l.prog w K mg base "settle" ["vessel","has","sent"] 3 (uQ K) Nt _:=⟨HX F39 T C37 C38,Ì X G a39,k39,F39.binds λ _ _ _ _ _ _=>eI λ _ _ _=>rfl⟩;have C40:Callee l.prog w K mg base "doors_behind" ["vessels","doors","tipped"] 1 (yT K) Nu _:=⟨tI F40 T,Ì X G a40,k40,F40.binds λ _ _ _ _ _ _=>eI λ _ _ _=>rfl⟩;have C41:Callee l.prog w K mg base "tick_behind" ["net","state","poured"] 4 (DK K) Nv _:=⟨vJ F41 T C36 C39 C40,Ì X G a41,k41,F41.binds λ _ _ _ _ _ _=>eI λ _ _ _=>rfl⟩;have C42:Callee l.prog w K mg base "came_in" ["net","state","poured"] 1 (uV K) Nw _:=⟨E1 F42 T,Ì X G a42,k42,F42.binds λ _ _ _ _ _ _=>eI λ _ _ _=>rfl⟩;have C43:Callee l.prog w K mg base "moment_behind" ["net","moment"] 5 (uT K) Nx _:=⟨rR F43 T C41 C42 C26,Ì X G a43,k43,F43.binds λ _ _ _ _ _ _=>cA λ _ _=>rfl⟩;have C44:Callee l.prog w K mg base "moment_gone" ["net","moment","many"] 6 (yL K) Ny _:=⟨vO F44 T C43,Ì X G a44,k44,F44.binds λ _ _ _ _ _ _=>eI λ _ _ _=>rfl⟩;have C45:MCal l.prog w K mg base C "go" ["self","many"] 7 (KB K C) Gu _:=⟨tx.cls,⟨a45,i45,k45⟩,VB F45 T tx C44,F45.binds λ _ _ _ _ _ _=>cA λ _ _=>rfl⟩;have C46:CalleeR l.prog w K mg base "answer_go" ["run","numbers"] 9 (fU K C gu gr gp "go") Gv _:=⟨zP F46 T tx jj C35 C45,Ì X G a46,k46,F46.binds λ _ _ _ _ _ _=>cA λ _ _=>rfl⟩;have On:MCal l.prog w K mg base C "state" ["self"] 1 (eL K C λ S v H=>Is K H (AL S.cur.held S.cur.coming S.cur.doors) v) Gw _:=⟨tx.cls,⟨a47,i47,k47⟩,LQ F47 T tx,F47.binds λ _ _ _ _ _ _=>bY λ _=>rfl⟩;have Oo:Callee l.prog w K mg base "with_blanks" ["things"] 1 (iA K) Nz _:=⟨vH F48 T TS,Ì X G a48,k48,F48.binds λ _ _ _ _ _ _=>bY λ _=>rfl⟩;have C49:CalleeR l.prog w K mg base "answer_held" ["run","numbers"] 9 (fU K C gu gr gp "held") Gx _:=⟨vT F49 T On Oo,Ì X G a49,k49,F49.binds λ _ _ _ _ _ _=>cA λ _ _=>rfl⟩;have C50:CalleeR l.prog w K mg base "answer_coming" ["run","numbers"] 9 (fU K C gu gr gp "coming") Gy _:=⟨rS F50 T On Oo,Ì X G a50,k50,F50.binds λ _ _ _ _ _ _=>cA λ _ _=>rfl⟩;have C51:CalleeR l.prog w K mg base "answer_doors" ["run","numbers"] 9 (fU K C gu gr gp "doors") Gz _:=⟨tJ F51 T On Oo C21,Ì X G a51,k51,F51.binds λ _ _ _ _ _ _=>cA λ _ _=>rfl⟩;have Op:MCal l.prog w K mg base C "tick" ["self"] 1 (eL K C λ S v H=>v=.int S.cur.tick) Ha _:=⟨tx.cls,⟨a52,i52,k52⟩,LR F52 T tx,F52.binds λ _ _ _ _ _ _=>bY λ _=>rfl⟩;have C53:CalleeR l.prog w K mg base "answer_tick" ["run","numbers"] 9 (fU K C gu gr gp "tick") Hb _:=⟨vR F53 T TS Op,Ì X G a53,k53,F53.binds λ _ _ _ _ _ _=>cA λ _ _=>rfl⟩;have C54:MCal l.prog w K mg base C "came" ["self"] 1 (eL K C λ S v H=>v=.int S.cur.came) Hc _:=⟨tx.cls,⟨a54,i54,k54⟩,P4 F54 T tx,F54.binds λ _ _ _ _ _ _=>bY λ _=>rfl⟩;have C55:CalleeR l.prog w K mg base "answer_came" ["run","numbers"] 9 (fU K C gu gr gp "came") Hd _:=⟨vU F55 T TS C54,Ì X G a55,k55,F55.binds λ _ _ _ _ _ _=>cA λ _ _=>rfl⟩;have C56:MCal l.prog w K mg base C "grounded" ["self"] 1 (eL K C λ S v H=>v=.int S.cur.ground) He _:=⟨tx.cls,⟨a56,i56,k56⟩,BJ F56 T tx,F56.binds λ _ _ _ _ _ _=>bY λ _=>rfl⟩;have C57:CalleeR l.prog w K mg base "answer_grounded" ["run","numbers"] 9 (fU K C gu gr gp "grounded") Hf _:=⟨oS Dc T TS C56,Ì X G a57,k57,Dc.binds λ _ _ _ _ _ _=>cA λ _ _=>rfl⟩;have C58:MCalR l.prog w K mg base C "tips" ["self","vessel"] 3 (tQ K C gp) Hg _:=⟨tx.cls,⟨a58,i58,k58⟩,LP F58 T tx C30,F58.binds λ _ _ _ _ _ _=>cA λ _ _=>rfl⟩;have C59:CalleeR l.prog w K mg base "answer_tips" ["run","numbers"] 9 (fU K C gu gr gp "tips") Hh _:=⟨vQ F59 T C58 Oo,Ì X G a59,k59,F59.binds λ _ _ _ _ _ _=>cA λ _ _=>rfl⟩;have UA:=O1 (P:=l.prog) (w:=w) (base:=base) (C:=C) (cR:=gu) (cM:=gr) (cV:=gp) (Ì X G Kd) (Ì X G Ke) mlA mlN yqA yqN ⟨_,C34.ok,C34.kp,C34.bd⟩ ⟨_,C46.ok,C46.kp,C46.bd⟩ ⟨_,C49.ok,C49.kp,C49.bd⟩ ⟨_,C50.ok,C50.kp,C50.bd⟩ ⟨_,C51.ok,C51.kp,C51.bd⟩ ⟨_,C53.ok,C53.kp,C53.bd⟩ ⟨_,C55.ok,C55.kp,C55.bd⟩ ⟨_,C57.ok,C57.kp,C57.bd⟩ ⟨_,C59.ok,C59.kp,C59.bd⟩;have C60:CalleeR l.prog w K mg base "read_row" ["row"] 3 (rH K gu) Oa _:=⟨BE F60 T TS jq UA C6,Ì X G a60,k60,F60.binds λ _ _ _ _ _ _=>bY λ _=>rfl⟩;have C61:MCalR l.prog w K mg base CD "say" ["self","row"] 10 (K9 K C CD gu gr gp) Hi _:=⟨tx2.cls,⟨a61,i61,k61⟩,SF F61 T tx2 UA C60,F61.binds λ _ _ _ _ _ _=>cA λ _ _=>rfl⟩;have C62:Callee l.prog w K mg base "_law_word" ["error"] 1 (DJ K ik gp ia ib gr ic gw gu) Ob _:=⟨zQ F62 T W,Ì X G a62,k62,F62.binds λ _ _ _ _ _ _=>bY λ _=>rfl⟩;have C63:Callee l.prog w K mg base "_law_said" ["desk","row"] 11 (DL K C CD) Oc _:=⟨zT F63 T W Rw Rx Ry Rz Sa Sb C61 C62,Ì X G a63,k63,F63.binds λ _ _ _ _ _ _=>cA λ _ _=>rfl⟩;have C64:Callee l.prog w K mg base "_law_row" ["tape","net"] 2 (yH K) Od _:=⟨BK F64 T TS CB0,Ì X G a64,k64,F64.binds λ _ _ _ _ _ _=>cA λ _ _=>rfl⟩;have C65:Callee l.prog w K mg base "_law_turned" ["row","way","at","thing"] 1 (uP K) Oe _:=⟨vW F65 T,Ì X G a65,k65,F65.binds λ _ _ _ _ _ _=>AG λ _ _ _ _=>rfl⟩;have C66:Callee l.prog w K mg base "_law_bent" ["tape","text","words_more"] 2 (DP K) Of _:=⟨zZ F66 T C0 C65,Ì X G a66,k66,F66.binds λ _ _ _ _ _ _=>eI λ _ _ _=>rfl⟩;have C67:Callee l.prog w K mg base "_law_number" ["word"] 1 DN Og _:=⟨vX F67 T,Ì X G a67,k67,F67.binds λ _ _ _ _ _ _=>bY λ _=>rfl⟩;have C68:Callee l.prog w K mg base "_law_words" ["numbers"] 1 (iA K) Oh _:=⟨wR F68 T TS,Ì X G a68,k68,F68.binds λ _ _ _ _ _ _=>bY λ _=>rfl⟩;have C69:Callee l.prog w K mg base "_law_look" ["run","word"] 2 (yM K C) Oi _:=⟨zW F69 T TS On Op C54 C56 C68,Ì X G a69,k69,F69.binds λ _ _ _ _ _ _=>cA λ _ _=>rfl⟩;have C70:Callee l.prog w K mg base "_law_due" ["run","net","hand","row"] 8 (yS K C) Oj _:=⟨wS F70 T C67 C69 Op C45 C58 C33 C68,Ì X G a70,k70,F70.binds λ _ _ _ _ _ _=>AG λ _ _ _ _=>rfl⟩;exact SG F71 T TS C0 C3 C5 C29 C28 C63 C64 C66 C70 C69 Op
theorem walk {l:PySem.W.OpenLaw}{q:Ã}{loose:List Str}{XP:(Str->Option À)->Heap->Prop}{YP:World->Heap->Prop}{d:DefRec}{K:Params->Ç} (hn:l.most=some 63) (Dt:d.params.defaults=[])
  (hY:∀ (w:World) (h:Heap),YP w h->(K w.params).In h)
  (F:∀ (w:World) (mg:Str->Option À) (fa:Á) (h:Heap),(K w.params).In h->h.Ns mainGlobals mg->mg d.name=some (.ref fa)->
   ∃ fd:FuncData,(∀ (s:Â) (u:À),BindsTo s fd ⟨[u],[]⟩ [("script",u)])/\∀ base:Heap,(K w.params).In base->base.Ns mainGlobals mg->FnOk l.prog w (K w.params) mg base gP 12 fa fd ["script"] (FD (K w.params))) :
  PySem.W.WalkO q loose XP YP l.row.toRowW d [] (λ f vs=>PySem.call f vs):=
 L2.walk_of (n:=63) (k:=12) (x := "script") (CX:=λ _=>gP) (sp:=λ w=>FD (K w.params)) hn (by decide) Dt ⟨rfl,by decide,by decide⟩ hY F (λ _ _ a ns hl _ hS=>⟨a,ns,rfl,hS,hl,λ _=>rfl⟩) λ _ _ _ _ _ z=>z
end Tw
def PySem.W.Fast.tw8960284320612623535:Nat:=0
theorem PySem.W.Fast.te8960284320612623535:PySem.W.Fast.tw8960284320612623535=PySem.W.Fast.tw8960284320612623535:=rfl
def PySem.W.Fast.tw14446125997087796871:PySem.Program:=PySem.Challenge.pw_tipwell_k16_whole_desks
theorem PySem.W.Fast.te14446125997087796871:PySem.Challenge.pw_tipwell_k16_whole_desks=PySem.W.Fast.tw14446125997087796871:=rfl
namespace PySem.W.Fast
def tw2808305275865415327:=0
def tw7563363334727804910:=0
def tw12903291636901079880:=0
def tw500087112918778694:=0
def tw11466912433719426578:=0
def tw2748027689297078376:=0
def tw11372986529462953027:=0
def tw350544859531661073:=0
def tw4959265067147484032:=0
def tw18019307828738388935:=0
def tw12015356886700636782:=0
def tw10678880491723851993:=0
def tw13493706225404525414:=0
def tw7766246946466386786:=0
def tw9804872377732656223:=0
def tw15402678387013186592:=0
def tw9521815062127160100:=0
def tw2574921646891431268:=0
def tw15449721329439812705:=0
def tw3693294366021484915:=0
def tw1549747706192763353:=0
def tw4387068789102750370:=0
def tw10476807924229475564:=0
def tw11062688578784816084:=0
def tw4502316546023687838:=0
def tw7423411933741160796:=0
def tw9797263641886027347:=0
def tw16031171311723284515:=0
def tw5794613609598644287:=0
def tw1405519473095682995:=0
def tw6607910676279254837:=0
def tw15285331340111938946:=0
def tw12857045037463843619:=0
def tw17174477486557173528:=0
def tw13430300997292887093:=0
def tw17635537995240446886:=0
def tw17363518262327788779:=0
def tw2697153873332463811:=0
def tw15839271302195608502:=0
def tw8771344619820157300:=0
def tw16038944872539895674:=0
def tw10271917584189980115:=0
def tw10168807968286296734:=0
def tw9365986262555753192:=0
def tw2944649870905926798:=0
def tw7585019468176214027:=0
def tw8909880013498539889:=0
def tw5188229224798762265:=0
def tw5349703181845707306:=0
def tw12273040886493377679:=0
def tw7169798317323051846:=0
def tw12133498939770432901:=0
def tw7117786723520009265:=0
def tw13316561874203750601:=0
def tw2901542966624238245:=0
def tw9450068762500915789:=0
def tw1965855879187193437:=0
def tw1667729803406522778:=0
def tw7951790831051030278:=0
def tw15245754906637933789:=0
def tw2921986320925269282:=0
def tw3443811566080866792:=0
def tw6055365064020158541:=0
def tw5892931338003208553:=0
def tw3657736878523133239:=0
def tw4146080081480398640:=0
def tw11640268985440935922:=0
def tw17800353394684133798:=0
def tw5004623581577339841:=0
def tw4008889474232956755:=0
def tw15655166730705759720:=0
def tw13059768433909739111:=0
def tw7205517654114512266:=0
def tw14933220652916654246:=0
def tw18037565587768166570:=0
def tw353628957775322335:=0
def tw5398140285702072376:=0
def tw9876209825509016611:=0
def tw4192589913825276476:=0
def tw8903880755368041700:=0
def tw9240977288403264183:=0
def tw11611696455401991779:=0
def tw16820036664152660398:=0
def tw2486366018991486139:=0
def tw8012597377857190798:=0
def tw14408578231745016856:=0
def tw2281038889150829276:=0
def tw4923843963384886955:=0
def tw12640582581801316257:=0
def tw401536690606779071:=0
def tw10029205847961353383:=0
def tw16517319091262725810:=0
def tw17368175748558610892:=0
def tw15272849391211383733:=0
def tw3487127017675737795:=0
def tw10074179039092164453:=0
def tw18184899226332025967:=0
def tw10279182146464081093:=0
def tw15204205528847597702:=0
def tw9247826732692434825:=0
def tw15996111719307287754:=0
def tw7165129043354620839:=0
def tw17633293370724518096:=0
def tw652475713182296144:=0
def tw15225739695641072671:=0
def tw18142771090859294850:=0
def tw11981474205014097542:=0
def tw15526358996467992060:=0
def tw529854471934972789:=0
def tw17833158503151366385:=0
def tw3847276237372743266:=0
def tw11835008063667081850:=0
def tw8489602878732462209:=0
def tw14272060063671569181:=0
def tw14618865857564758614:=0
def tw4459564838985251866:=0
def tw12858387777554531729:=0
def tw6156185301302255170:=0
def tw17219507563429647423:=0
def tw6361214148507124706:=0
def tw13651778351468400187:=0
def tw15216387942690337585:=0
def tw9202905010565796719:=0
def tw16006556987443174118:=0
def tw4977026296281864432:=0
def tw16876281746525396136:=0
def tw7306051992296101502:=0
def tw9368397094085787755:=0
def tw8960642655467198470:=0
def tw17414635702048211412:=0
def tw7611575164392386769:=0
def tw6349943605902592525:=0
def tw16258861526178950552:=0
def tw13484691975663347042:=0
def tw5159059340647046333:=0
def tw8772899684393337627:=0
def tw12760494208105723808:=0
def tw18374983713487570417:=0
def tw10294131329426880044:=0
def tw2285435221476092524:=0
def tw5133673681082407654:=0
def tw15124492104444059305:=0
def tw5446442768683390143:=0
def tw17912488111879794232:=0
def tw12623434969103793560:=0
def tw14734045307261988125:=0
def tw507362843880327748:=0
def tw3674507869935012507:=0
def tw14362669451487926118:=0
def tw5553661446659457590:=0
def tw5925561940825834948:=0
def tw1559081031282016648:=0
def tw12982852380310470686:=0
def tw2592608096718612285:=0
def tw6042533148949399834:=0
def tw13632099189559320115:=0
def tw6518458183881441326:=0
def tw3100727093250334706:=0
def tw16077002028761911184:=0
def tw13976445575966149457:=0
def tw1904502359859847345:=0
def tw16765592651727775147:=0
def tw8772857252620970448:=0
def tw17204680669288943228:=0
def tw17491876947018814042:=0
def tw6714032872448433348:=0
def tw6051235863020109565:=0
def tw7647745374603322648:=0
def tw12865968624502658245:=0
def tw3023424692790447032:=0
def tw2358361950779954993:=0
def tw16645340751257728889:=0
def tw17614166081681610844:=0
def tw1468143297732994142:=0
def tw10955629189090146347:=0
def tw2214172538078747668:=0
def tw12189142855603408245:=0
def tw9654373096575136592:=0
def tw1673657565108225401:=0
def tw7051941424316469928:=0
def tw11596507227490231349:=0
def tw13057794694768112098:=0
def tw5424908379244971078:=0
def tw12081307562203737445:=0
def tw12461712501553262300:=0
def tw8566872556943039011:=0
def tw1276045283473867443:=0
def tw15330663795490655410:=0
def tw4185462102646564526:=0
def tw13423991720759212873:=0
def tw4410901132282466207:=0
def tw14244925968829899583:=0
def tw17933833301158198105:=0
def tw14481845370510424936:=0
def tw16472237714106997895:=0
def tw2156841459603791894:=0
def tw4412736764219016981:=0
def tw17338493852836465072:=0
def tw478058101989512581:=0
def tw11886703283108082307:=0
def tw5381089947589868161:=0
def tw7643747664712164577:=0
def tw17823610808704095093:=0
def tw11049751800049730587:=0
def tw15538093645303284142:=0
def tw14949220502144497875:=0
def tw9727667613267667620:=0
def tw6773098174412185849:=0
def tw7517345901600269518:=0
def tw5589095176318863507:=0
def tw13831835335666060595:=0
def tw14811128548983807438:=0
def tw9218935443804397788:=0
def tw9677025902583021923:=0
def tw8915534929842486086:=0
def tw15905088177209894795:=0
def tw9146007271934376213:=0
def tw14428874471781687535:=0
def tw12144404103014222925:=0
def tw10351022640895664532:=0
def tw14518717990999467613:=0
def tw10439152809852411769:=0
def tw9488494121702287916:=0
def tw17259719019763590329:=0
def tw14173968299552299953:=0
end PySem.W.Fast
open PySem PySem.W PyProof.Rows
set_option maxRecDepth 100000 in
set_option maxHeartbeats 0 in
theorem PySem.Challenge.cw_tipwell_k16_whole_desks_holds : PySem.Challenge.rw_tipwell_k16_whole_desks.Holds := by
 w_on;o_law;k_head;(case hw=>w_witness2)
 k_fill
 refine Tw.walk (l:=PySem.Challenge.rw_tipwell_k16_whole_desks) rfl rfl (λ w h Y=>by first | exact PySem.W.kIn_of Y | exact PySem.W.km_in_of Y) ?F
 case F=>
  intro w mg fa h KX G Du;refine' Tw.all_mk KX G Du ?_ ?_ ?_ ?_ ?_ ?_ ?_ ?_ ?_ ?_ ?_ ?_ ?_ ?_ ?_ ?_ ?_ ?_ ?_ ?_ ?_ ?_ ?_ ?_ ?_ ?_ ?_ ?_ ?_ ?_ ?_ ?_ ?_ ?_ ?_ ?_ ?_ ?_ ?_ ?_ ?_ ?_ ?_ ?_ ?_ ?_ ?_ ?_ ?_ ?_ ?_ ?_ ?_ ?_ ?_ ?_ ?_ ?_ ?_ ?_ ?_ ?_ ?_ ?_ ?_ ?_ ?_ ?_ ?_ ?_ ?_ ?_ ?_ ?_ ?_ ?_ ?_ ?_ ?_ ?_ ?_ ?_ ?_ ?_ ?_ ?_ ?_ ?_ ?_ ?_ ?_ ?_ ?_ ?_ ?_ ?_ ?_ ?_ ?_ ?_ ?_ ?_ ?_ ?_ ?_ ?_ ?_ ?_ ?_ ?_ ?_ ?_ ?_ ?_ ?_ ?_ ?_ ?_ ?_ ?_ ?_ ?_ ?_ ?_ ?_ ?_ ?_ ?_ ?_ ?_ ?_ ?_ ?_ ?_ ?_ ?_ ?_ ?_ ?_ ?_ ?_ ?_ ?_ ?_ ?_ ?_ ?_ ?_ ?_ ?_ ?_ ?_ ?_ ?_ ?_ ?_ ?_ ?_ ?_ ?_ ?_ ?_ ?_ ?_ ?_ ?_ ?_ ?_ ?_ ?_ ?_ ?_ ?_ ?_ ?_ ?_ ?_ ?_ ?_ ?_ ?_ ?_ ?_ ?_ ?_ ?_ ?_ ?_ ?_ ?_ ?_ ?_ ?_ ?_ ?_ ?_ ?_ ?_ ?_ ?_ ?_ ?_ ?_ ?_ ?_ ?_ ?_ ?_ ?_ ?_ ?_ ?_ ?_ ?_ ?_ ?_ ?_ ?_ ?_ ?_ ?_ ?_ ?_ ?_ ?_ ?_ ?_ ?_ ?_ ?_ ?_ ?_ ?_ ?_ ?_ ?_ ?_ ?_ ?_ ?_ ?_ ?_ ?_ ?_ ?_ ?_ ?_ ?_ ?_ ?_ ?_ ?_ ?_ ?_ ?_ ?_ ?_ ?_ ?_ ?_ ?_ ?_ ?_ ?_ ?_ ?_ ?_ ?_ ?_ ?_ ?_ ?_ ?_ ?_ ?_ ?_ ?_ ?_ ?_ ?_ ?_ ?_ ?_ ?_ ?_ ?_ ?_ ?_ ?_ ?_ ?_ ?_ ?_ ?_ ?_ ?_ ?_ ?_ ?_ ?_ ?_ ?_ ?_ ?_ ?_ ?_ ?_ ?_ ?_ ?_ ?_ ?_ ?_ ?_ ?_ ?_ ?_ ?_ ?_ ?_ ?_ ?_ ?_ ?_ ?_ ?_ ?_ ?_ ?_ ?_ ?_ ?_ ?_ ?_ ?_ ?_ ?_ ?_ ?_ ?_ ?_ ?_ ?_ ?_ ?_ ?_ ?_ ?_ ?_ ?_ ?_ ?_ ?_ ?_ ?_ ?_ ?_ ?_ ?_ ?_ ?_ ?_ ?_ ?_ ?_ ?_ ?_ ?_ ?_ ?_ ?_ ?_ ?_ ?_ ?_ ?_ ?_ ?_ ?_ ?_ ?_ ?yqA ?yqN ?exV ?vaV ?kkV0 ?kkV1 ?kkV2 ?kkV3 ?kkV4 ?kkV5 ?kkV6 ?kkV7 ?hmVh ?exX ?exR ?vaR ?kkR0 ?kkR1 ?kkR2 ?kkR3 ?kkR4 ?kkR5 ?kkR6 ?kkR7 ?hmRh ?exS ?vaS ?kkS0 ?kkS1 ?kkS2 ?kkS3 ?kkS4 ?kkS5 ?kkS6 ?kkS7 ?hmSh
  all_goals (try delta Tw.Na)
  all_goals (try delta Tw.Nn)
  all_goals (try delta Tw.Kp)
  all_goals (try delta Tw.Cd)
  all_goals (try delta Tw.Lk)
  all_goals try k_is
  (case yqA=>decide)
  (case yqN=>decide)
  (case exV=>k_exc)
  (case vaV=>kit_is)
  (case kkV0=>kit_is)
  (case kkV1=>kit_is)
  (case kkV2=>kit_is)
  (case kkV3=>kit_is)
  (case kkV4=>kit_is)
  (case kkV5=>kit_is)
  (case kkV6=>kit_is)
  (case kkV7=>kit_is)
  (case hmVh=>kts_exm)
  (case exX=>k_exc)
  (case exR=>k_exc)
  (case vaR=>kit_is)
  (case kkR0=>kit_is)
  (case kkR1=>kit_is)
  (case kkR2=>kit_is)
  (case kkR3=>kit_is)
  (case kkR4=>kit_is)
  (case kkR5=>kit_is)
  (case kkR6=>kit_is)
  (case kkR7=>kit_is)
  (case hmRh=>kts_exm)
  (case exS=>k_exc)
  (case vaS=>kit_is)
  (case kkS0=>kit_is)
  (case kkS1=>kit_is)
  (case kkS2=>kit_is)
  (case kkS3=>kit_is)
  (case kkS4=>kit_is)
  (case kkS5=>kit_is)
  (case kkS6=>kit_is)
  (case kkS7=>kit_is)
  (case hmSh=>kts_exm)
#print axioms PySem.Challenge.cw_tipwell_k16_whole_desks_holds