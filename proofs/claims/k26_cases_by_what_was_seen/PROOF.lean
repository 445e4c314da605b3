import PyProof.Rows.All
import Wide.All
import OpenK.AllK
import Wide.FinOn
import Lean
import PyProof.EqAt
import PyProof.EqKinds
import PyProof.TupleCall
import PyProof.FactsAll.NoneType
import PyProof.ZipIter
import PyProof.EnumMake
import KE.KUnpack
import KE.KTryMore
import PyProof.NsDelKeeps
import PyProof.TupleKey
import PyProof.FactsAll.bool_1
import PyProof.NeKinds
import PyProof.ListRange
import PyProof.Rows.SetFrom
import PyProof.CollectWalk
import PyProof.Rows.SortWalk
import KE.RegKIsAll
import KE.RegKTryMore
import PySem.Challenge.RW_tipwell_k26_cases_by_what_was_seen
set_option Elab.async false
set_option linter.all false
set_option maxRecDepth 100000
noncomputable section
def aaa:=@PySem.wpAny_bind
abbrev aab:=PySem.W.Frag
def aac:=@PySem.Heap.get?_push_of_some
def aad:=@List.length_map
def aae:=@PySem.wpAny_pure
def aaf:=@List.getElem?_map
def aag:=@PySem.Heap.get?_push_size
def aah:=@List.size_toArray
def aai:=@List.getElem?_eq_some_iff
def aaj:=@Nat.le_refl
def aak:=@PySem.Heap.lt_size
def aal:=@Bool.false_ne_true
def aam:=@List.map_append
def aan:=@Nat.lt_of_lt_of_le
def aao:=@PySem.W.mg_of
def aap:=@Array.length_toList
def aaq:=@Array.getElem?_eq_getElem
def aar:=@Nat.ne_of_lt
def aas:=@List.take_length
def aat:=@List.length_take
def aau:=@Option.map_eq_some_iff
def aav:=@PySem.F.plainAttrs_list
def aaw:=@List.length_append
def aax:=@List.mem_cons
def aay:=@List.mem_cons_of_mem
def aaz:=@PySem.W.mg_none_of
def aba:=@PySem.boot_len
def abb:=@List.getElem?_eq_getElem
def abc:=@List.mem_append_right
def abd:=@PySem.Heap.size_push
def abe:=@List.map_cons
def abf:=@PySem.wpAny_holding
def abg:=@Nat.zero_le
def abh:=@PySem.F.slot_list_append
def abi:=@PySem.F.type_list_append
def abj:=@PySem.wpAny_field
def abk:=@List.length_cons
def abl:=@List.mem_of_getElem?
def abm:=@Array.getElem?_toList
def abn:=@of_decide_eq_true
def abo:=@decide_eq_false
def abp:=@PySem.wpAny_mono
def abq:=@decide_eq_true
def abr:=@Int.toNat_natCast
def abt:=@List.mem_cons_self
def abu:=@Option.some.inj
def abv:=@List.take_of_length_le
def abw:=@List.append_assoc
def abx:=@List.mem_singleton
def aby:=@Nat.le_of_lt
def abz:=@PySem.mem_of_lookup
def aca:=@Nat.lt_irrefl
def acb:=@Nat.le_trans
def acd:=@List.map_map
def ace:=@List.all_eq_true
def acf:=@List.append_nil
def acg:=@PySem.wpAny_rule
def ach:=@List.getElem_mem
def aci:=@List.getElem?_append_right
def acj:=@List.getElem?_append_left
def ack:=@PySem.Heap.get?_update_self
def acl:=@List.map_nil
def acm:=@PySem.Heap.get?_update_other
def acn:=@List.getD_eq_getElem?_getD
def aco:=@List.getElem?_eq_none
def acp:=@List.length_singleton
def acq:=@List.mem_map
def acr:=@List.getElem?_set_self
def acs:=@List.nodup_cons
def act:=@List.mem_append
def acu:=@List.length_filter_le
def acv:=@List.length_range
def acw:=@List.getElem?_set_ne
def acx:=@List.mem_range
def acy:=@List.not_mem_nil
def acz:=@List.length_replicate
def ada:=@List.mem_iff_getElem?
def adb:=@List.mem_append_left
variable {P:PySem.Program}{w:PySem.World}{K:aab}{mg:PySem.Str->Option PySem.Value}{base:PySem.Heap}{C c_TipError c_NoNet c_NoVessel c_TooLong c_TooMany c_TooMuch c_Nothing c_NoText c_NoRow:PySem.Addr}
namespace L2
open PySem PySem.Spec PyProof.Rows
abbrev eS:=Sum Int (Option Str)
def BG:Value->Bool
 | .none=>true
 | _=>false
theorem tP {v:Value} (h:BG v=true):v=Value.none:=by
 cases v <;> simp_all [BG]
def q0:eS->Value->Bool
 | .inl k,v=>Value.isInt k v
 | .inr (some x),v=>Value.isStrOf x v
 | .inr none,v=>BG v
def lC:Int:=0xFCA86420
def keyH (w:World):eS->Int
 | .inl k=>hashInt k
 | .inr (some x)=>hashStr w x
 | .inr none=>lC
theorem cG:∀ {k:eS}{v:Value},q0 k v=true->(∃ i t,k=Sum.inl i/\v=Value.int i t)\/(∃ x t,k=Sum.inr (some x)/\v=Value.str x t)\/(k=Sum.inr none/\v=Value.none)
 | .inl i,v,h=>by
  obtain⟨t,e⟩:=Value.isInt_shape (k:=i) (v:=v) h;exact .inl ⟨i,t,rfl,e⟩
 | .inr (some x),v,h=>by
  obtain⟨t,e⟩:=Value.isStrOf_shape (x:=x) (v:=v) h;exact .inr (.inl ⟨x,t,rfl,e⟩)
 | .inr none,v,h=>.inr (.inr ⟨rfl,tP h⟩)
theorem yP (i:Int) (t:Tok):q0 (.inl i) (.int i t)=true:=by simp [q0,Value.isInt]
theorem yO (x:Str) (t:Tok):q0 (.inr (some x)) (.str x t)=true:=by simp [q0,Value.isStrOf]
theorem GI (a b:Int):decide ((Sum.inl a:eS)=Sum.inl b)=(a == b):=by
 by_cases e:a=b
 ·subst e;simp
 ·have h:¬ (Sum.inl a:eS)=Sum.inl b:=λ q=>e (Sum.inl.inj q);rw[abo h];exact (beq_eq_false_iff_ne.mpr e).symm
theorem GG (a b:Str):decide ((Sum.inr (some a):eS)=Sum.inr (some b))=decide (a=b):=by
 by_cases e:a=b
 ·subst e;simp
 ·have h:¬ (Sum.inr (some a):eS)=Sum.inr (some b):=λ q=>e (abu (Sum.inr.inj q));rw[abo h,abo e]
theorem B7 (i:Int) (o:Option Str):decide ((Sum.inl i:eS)=Sum.inr o)=false:=abo (λ q=>nomatch q)
theorem B8 (i:Int) (o:Option Str):decide ((Sum.inr o:eS)=Sum.inl i)=false:=abo (λ q=>nomatch q)
theorem GF (x:Str):decide ((Sum.inr (some x):eS)=Sum.inr none)=false:=abo (λ q=>nomatch (Sum.inr.inj q))
theorem GH (x:Str):decide ((Sum.inr none:eS)=Sum.inr (some x))=false:=abo (λ q=>nomatch (Sum.inr.inj q))
theorem BL {prog:Program}{w:World}{A:Around}{E:Value->Shared->Prop}{s:Shared}{Q:Int->Shared->Prop} (h:Q lC { s with toks:=s.toks+1 }) :
  wpAny (model prog w) A (pyHash .none) Q E s:=by
 have hT:s.TypeIs .none "NoneType" := rfl;unfold pyHash;have hv:[Value.none].any Value.onHeap=false:=rfl;refine aaa ?_;rw[cRoomFor,if_neg (by rw[hv];exact aal)];refine aae ?_;refine aaa (wpAny_specialOf hT F.slot_NoneType_hash.lookup ?_);show wpAny _ _ (if (some (Value.builtin "NoneType.__hash__") == some Value.none)=true then _ else _) Q E s;rw[if_neg (by rw[beq_builtin_none];exact aal)];refine aaa (wpAny_specialOf hT F.slot_NoneType_hash.lookup ?_);show wpAny _ _ (callSpecialIfBoundUnlessNone? .none "__hash__" _ >>= _) Q E s;refine aaa (wpAny_callSpecialIfBoundUnlessNone?_slot hT F.slot_NoneType_hash
  (wpAny_call_entry F.slot_NoneType_hash hT F.entry_NoneType_hash
   (show wpAny _ _ (do ret (<- mkInt lC)) _ _ s from wpAny_ret_mkInt ?_) (F.args_NoneType_hash_1 _)))
 show wpAny _ _ (if (decide (-(2:Int) ^ 63<=lC) && decide (lC < 2 ^ 63))=true then _ else _) Q E _;rw[if_pos (by decide)];exact aae h
def dB (prog:Program) (w:World):PySem.KeyKind prog w eS where
 is:=q0
 hash:=keyH w
 inj:=λ v a b ha hb=>by
  rcases cG ha with ⟨i,t,rfl,rfl⟩ | ⟨x,t,rfl,rfl⟩ | ⟨rfl,rfl⟩
  ·rcases cG hb with ⟨j,u,rfl,e⟩ | ⟨y,u,rfl,e⟩ | ⟨rfl,e⟩
   ·injection e with e1 _;rw[e1]
   ·exact nomatch e
   ·exact nomatch e
  ·rcases cG hb with ⟨j,u,rfl,e⟩ | ⟨y,u,rfl,e⟩ | ⟨rfl,e⟩
   ·exact nomatch e
   ·injection e with e1 _;rw[e1]
   ·exact nomatch e
  ·rcases cG hb with ⟨j,u,rfl,e⟩ | ⟨y,u,rfl,e⟩ | ⟨rfl,e⟩
   ·exact nomatch e
   ·exact nomatch e
   ·rfl
 byValue:=λ k v h=>by
  rcases cG h with ⟨i,t,rfl,rfl⟩ | ⟨x,t,rfl,rfl⟩ | ⟨rfl,rfl⟩ <;> rfl
 pyHash:=λ hv h=>by
  rcases cG hv with ⟨i,t,rfl,rfl⟩ | ⟨x,t,rfl,rfl⟩ | ⟨rfl,rfl⟩
  ·exact wpAny_pyHash_int h
  ·exact wpAny_pyHash_str h
  ·exact BL h
 eqBool:=λ hu hv h=>by
  rcases cG hu with ⟨i,t,rfl,rfl⟩ | ⟨x,t,rfl,rfl⟩ | ⟨rfl,rfl⟩
  ·rcases cG hv with ⟨j,u,rfl,rfl⟩ | ⟨y,u,rfl,rfl⟩ | ⟨rfl,rfl⟩
   ·rw[GI] at h;exact wpAny_eqBool_int h
   ·rw[B7] at h;exact SeqAt.EqAt.int_str i t y u _ _ _ _ h
   ·rw[B7] at h;exact SeqAt.EqAt.int_none i t _ _ _ _ h
  ·rcases cG hv with ⟨j,u,rfl,rfl⟩ | ⟨y,u,rfl,rfl⟩ | ⟨rfl,rfl⟩
   ·rw[B8] at h;exact SeqAt.EqAt.str_int x t j u _ _ _ _ h
   ·rw[GG] at h;exact wpAny_eqBool_str h
   ·rw[GF] at h;exact SeqAt.EqAt.str_none x t _ _ _ _ h
  ·rcases cG hv with ⟨j,u,rfl,rfl⟩ | ⟨y,u,rfl,rfl⟩ | ⟨rfl,rfl⟩
   ·rw[B8] at h;exact SeqAt.EqAt.none_int j u _ _ _ _ h
   ·rw[GH] at h;exact SeqAt.EqAt.none_str y u _ _ _ _ h
   ·rw[abq rfl] at h;exact SeqAt.EqAt.same Value.none _ _ _ _ h
 «strs»:=λ k x t v h=>by
  rcases cG h with ⟨i,u,rfl,e⟩ | ⟨y,u,rfl,e⟩ | ⟨rfl,e⟩
  ·exact nomatch e
  ·injection e with e1 _;subst e1;cases v <;> rfl
  ·exact nomatch e
theorem tL (prog:Program) (w:World) (i:Int) (t:Tok):(dB prog w).is (.inl i) (.int i t)=true:=yP i t
theorem tK (prog:Program) (w:World) (x:Str) (t:Tok):(dB prog w).is (.inr (some x)) (.str x t)=true:=yO x t
inductive V where
 | non | bl (b:Bool) | int (i:Int) | str (x:Str) | byt (b:Array UInt8) | flt (b:UInt64) | ref (a:Addr) | ty (n:String)
 deriving DecidableEq
def bG:V->Value->Prop
 | .non,u=>u=Value.none
 | .bl b,u=>u=Value.bool b
 | .int i,u=>∃ t,u=Value.int i t
 | .str x,u=>∃ t,u=Value.str x t
 | .byt b,u=>∃ t,u=Value.bytes b t
 | .flt b,u=>∃ t,u=Value.float b t
 | .ref a,u=>u=Value.ref a
 | .ty n,u=>u=Value.type n
abbrev bI:List V->List Value->Prop:=Paired bG
theorem bI.length {xs:List V}{us:List Value} (r:bI xs us):xs.length=us.length:=Paired.length r
theorem bI.get:∀ {xs:List V}{us:List Value}{i:Nat}{x:V},bI xs us->xs[i]? = some x->∃ u,us[i]? = some u/\bG x u
 | _,_,_,_,.nil,e=>by simp at e
 | _,_,0,_,.cons r _,e=>by simp at e;subst e;exact⟨_,rfl,r⟩
 | _,_,i+1,x,.cons _ t,e=>by
  obtain⟨u,h1,h2⟩:=bI.get (i:=i) (x:=x) t (by simpa using e);exact⟨u,by simpa using h1,h2⟩
theorem bI.set {x:V}{u:Value} (r:bG x u):∀ {xs:List V}{us:List Value} (i:Nat),bI xs us->bI (xs.set i x) (us.set i u)
 | _,_,_,.nil=>.nil
 | _,_,0,.cons _ t=>.cons r t
 | _,_,i+1,.cons q t=>.cons q (bI.set r i t)
theorem bI.append:∀ {xs ys:List V}{us ws:List Value},bI xs us->bI ys ws->bI (xs++ys) (us++ws)
 | _,_,_,_,.nil,s=>s
 | _,_,_,_,.cons r t,s=>.cons r (bI.append t s)
theorem bI.take:∀ {xs:List V}{us:List Value} (n:Nat),bI xs us->bI (xs.take n) (us.take n)
 | _,_,0,_=>.nil
 | _,_,_+1,.nil=>.nil
 | _,_,n+1,.cons r t=>.cons r (bI.take n t)
theorem bI.drop:∀ {xs:List V}{us:List Value} (n:Nat),bI xs us->bI (xs.drop n) (us.drop n)
 | _,_,0,r=>r
 | _,_,_+1,.nil=>.nil
 | _,_,n+1,.cons _ t=>bI.drop n t
def sL:Option V->Option Value->Prop
 | some v,some u=>bG v u
 | none,none=>True
 | _,_=>False
def KV {bb:Type}:List (bb×V)->List (bb×Value)->Prop:=Paired λ (p:bb×V) (q:bb×Value)=>p.1=q.1/\bG p.2 q.2
def kV:eS->V
 | .inl i=>.int i
 | .inr (some x)=>.str x
 | .inr none=>.non
inductive HO where
 | lst (xs:List V)
 | tup (xs:List V)
 | dK (kvs:List (eS×V)) | dT (kvs:List (List eS×V))
 | set (S:Int->Bool) (n:Nat)
 | ins (C dx:Addr) (fs:List (Str×V))
 | own (x:Addr)
 | xd (fs:List (Str×V))
 | met (f x:Addr)
 | rng (lo hi:Int)
 | frz (o:Obj) (u:HO)
 | tbl (ps:Array Value)
 | ext (ei:Heap->Prop)
abbrev Hp:=Addr->Option HO
def upd (H:Hp) (a:Addr) (o:HO):Hp:=λ b=>if b=a then some o else H b
theorem aB {H:Hp}{a:Addr}{o:HO}:upd H a o a=some o:=by unfold upd;rw[if_pos rfl]
theorem aK {H:Hp}{a b:Addr}{o:HO} (h:b≠a):upd H a o b=H b:=by unfold upd;rw[if_neg h]
theorem EV {H:Hp}{a b:Addr}{o u:HO} (h:H a=some o) (h':H b=some u) (d:o≠u):a≠b:=by
 intro e;subst e;rw[h] at h';exact d (abu h')
theorem aJ {H:Hp}{a b:Addr}{o:HO} (h:H a=some o) (h':H b=none):a≠b:=by
 intro e;subst e;rw[h] at h';cases h'
section
variable (P:Program)(w:World)
def cJ (H:Hp) (h:Heap) (a:Addr):HO->Prop
 | .lst xs=>xs.length<=sizeLine/\∃ (its:List Value) (n:Nat),bI xs its/\h.get? a=some { cls:=.type "list",data:=.seq its.toArray n }
 | .tup xs=>xs.length<=sizeLine/\∃ its:List Value,bI xs its/\IsTup h a its.toArray
 | .dK kvs=>kvs.length<=sizeLine/\(a == sysModules)=false/\∃ vs,KV kvs vs/\h.DictOf (dB P w) a vs
 | .dT kvs=>kvs.length<=sizeLine/\(a == sysModules)=false/\∃ xs:List (List eS×Addr×Value),
   Paired (λ (p:List eS×V) (q:List eS×Addr×Value)=>p.1=q.1/\H q.2.1=some (.tup (p.1.map kV))/\bG p.2 q.2.2) kvs xs/\
   ∃ o es ep,h.get? a=some o/\o.ExactDict/\o.data=.dict es ep/\es.toList=xs.map (entryOfKey (tupleKind (dB P w)))/\(xs.map (·.1)).Nodup
 | .set S n=>h.SetOf (intKind P w) a S n
 | .ins C dx fs=>H dx=some (.own a)/\fs.length<=1000/\dx≠a/\h.get? a=some (PySem.W.instObj C dx)/\
   ∃ mA,h.Ns1 dx mA/\(∀ f,sL (fs.lookup f) (mA f))/\PySem.Within mA (fs.map (·.1))
 | .own _=>∃ o,h.get? a=some o
 | .xd fs=>∃ mA,h.Ns1 a mA/\∀ f,sL (fs.lookup f) (mA f)
 | .rng lo hi=>∃ t u v,h.get? a=some { cls:=.type "range",data:=.fields #[.int lo t,.int hi u,.int 1 v] }
 | .frz o u=>h.get? a=some o/\cJ H h a u
 | .tbl ps=>h.get? a=some { cls:=.none,data:=.fields ps }
 | .met f x=>h.get? a=some (PySem.W.methodObj (.ref f) (.ref x))
 | .ext ei=>ei h/\(∃ o,h.get? a=some o)/\∀ h1 h2:Heap,ei h1->(∀ o,h1.get? a=some o->h2.get? a=some o)->ei h2
def kA (H:Hp) (h:Heap):Prop:=∀ a o,H a=some o->cJ P w H h a o
end
section
variable {H H':Hp}{h h':Heap}{a:Addr}{o:HO}
theorem cJ.lt (x:cJ P w H h a o):a < h.objs.size:=by
 cases o with
 | lst xs=>obtain⟨_,_,_,_,e⟩:=x;exact aak e
 | tup xs=>obtain⟨_,_,_,p⟩:=x;exact p.lt
 | dK kvs=>obtain⟨_,_,_,_,o,_,_,e,_⟩:=x;exact aak e
 | dT kvs=>obtain⟨_,_,_,_,o,_,_,e,_⟩:=x;exact aak e
 | set S n=>obtain⟨o,_,_,_,e,_⟩:=x;exact aak e
 | ins C dx fs=>obtain⟨_,_,_,e,_⟩:=x;exact aak e
 | own y=>obtain⟨_,e⟩:=x;exact aak e
 | xd fs=>obtain⟨_,⟨_,_,_,e,_⟩,_⟩:=x;exact aak e
 | rng lo hi=>obtain⟨_,_,_,e⟩:=x;exact aak e
 | frz ob u=>obtain⟨e,_⟩:=x;exact aak e
 | tbl ps=>exact aak (show h.get? a=some _ from x)
 | met f y=>exact aak (show h.get? a=some _ from x)
 | ext ei=>obtain⟨_,⟨_,e⟩,_⟩:=x;exact aak e
theorem Paired.mapP {az de:Type}{F G:az->de->Prop}:∀ {fm:List az}{fq:List de},Paired F fm fq->(∀ a b,F a b->G a b)->Paired G fm fq
 | _,_,.nil,_=>.nil
 | _,_,.cons r t,f=>.cons (f _ _ r) (Paired.mapP t f)
theorem cJ.stay (x:cJ P w H h a o) (k:∀ b u,(b=a\/H b=some (.own a))->h.get? b=some u->h'.get? b=some u)
  (ho:∀ b,H b=some (.own a)->H' b=some (.own a)) (ht:∀ b xs,H b=some (.tup xs)->H' b=some (.tup xs)):cJ P w H' h' a o:=by
 induction o with
 | lst xs=>obtain⟨z,its,n,r,e⟩:=x;exact⟨z,its,n,r,k _ _ (.inl rfl) e⟩
 | tup xs=>obtain⟨z,its,r,ob,e,c⟩:=x;exact⟨z,its,r,ob,k _ _ (.inl rfl) e,c⟩
 | dK kvs=>obtain⟨z,y,vs,r,ob,es,ep,e,c⟩:=x;exact⟨z,y,vs,r,ob,es,ep,k _ _ (.inl rfl) e,c⟩
 | dT kvs=>
  obtain⟨z,y,xs,r,ob,es,ep,e,c⟩:=x;exact⟨z,y,xs,Paired.mapP r λ p q z=>⟨z.1,ht _ _ z.2.1,z.2.2⟩,ob,es,ep,k _ _ (.inl rfl) e,c⟩
 | set S n=>obtain⟨ob,es,ep,t,e,c⟩:=x;exact⟨ob,es,ep,t,k _ _ (.inl rfl) e,c⟩
 | ins C dx fs=>
  obtain⟨d,z,ne,e,mA,⟨od,es,ep,e2,c⟩,r⟩:=x;exact⟨ho _ d,z,ne,k _ _ (.inl rfl) e,mA,⟨od,es,ep,k _ _ (.inr d) e2,c⟩,r⟩
 | own y=>obtain⟨ob,e⟩:=x;exact⟨ob,k _ _ (.inl rfl) e⟩
 | xd fs=>obtain⟨mA,⟨od,es,ep,e,c⟩,r⟩:=x;exact⟨mA,⟨od,es,ep,k _ _ (.inl rfl) e,c⟩,r⟩
 | rng lo hi=>obtain⟨t,u,v,e⟩:=x;exact⟨t,u,v,k _ _ (.inl rfl) e⟩
 | frz ob u ih=>obtain⟨e,q⟩:=x;exact⟨k _ _ (.inl rfl) e,ih q⟩
 | tbl ps=>
  have e:h.get? a=some { cls:=.none,data:=.fields ps }:=x;show h'.get? a=some { cls:=.none,data:=.fields ps };exact k a _ (.inl rfl) e
 | met f y=>
  have e:h.get? a=some (PySem.W.methodObj (.ref f) (.ref y)):=x;show h'.get? a=some (PySem.W.methodObj (.ref f) (.ref y));exact k a _ (.inl rfl) e
 | ext ei=>obtain⟨p,⟨o,e⟩,st⟩:=x;exact⟨st _ _ p λ o q=>k _ _ (.inl rfl) q,⟨o,k _ _ (.inl rfl) e⟩,st⟩
theorem kA.lt (x:kA P w H h) (e:H a=some o):a < h.objs.size:=(x a o e).lt
theorem kA.fresh (x:kA P w H h) (e:h.objs.size<=a):H a=none:=by
 cases q:H a with
 | none=>rfl
 | some u=>exact absurd (aan (x.lt q) e) (aca _)
theorem kA.kept (x:kA P w H h) (k:∀ b u,h.get? b=some u->h'.get? b=some u):kA P w H h':=λ a o e=>
 (x a o e).stay (λ b u _ q=>k b u q) (λ _ q=>q) λ _ _ q=>q
theorem kA.laid (x:kA P w H h) (k:∀ b u,h.get? b=some u->h'.get? b=some u) (hp:h.objs.size<=a) (new:cJ P w (upd H a o) h' a o):kA P w (upd H a o) h':=λ b u e=>by
 have hn:=x.fresh hp
 by_cases hb:b=a
 ·subst hb;rw[aB] at e;cases e;exact new
 ·rw[aK hb] at e;exact (x b u e).stay (λ c v _ q=>k c v q) (λ c q=>by rw[aK (aJ q hn)];exact q) λ c xs q=>by rw[aK (aJ q hn)];exact q
end
def Rd (H:Hp) (a:Addr) (u:HO):Prop:=H a=some u\/∃ o,H a=some (.frz o u)
theorem Rd.ok {P:Program}{w:World}{H:Hp}{h:Heap}{a:Addr}{u:HO} (r:Rd H a u) (x:kA P w H h):cJ P w H h a u:=by
 rcases r with r | ⟨o,r⟩
 ·exact x a u r
 ·obtain⟨_,q⟩:=x a _ r;exact q
def qM:Option HO->Prop
 | some (.lst _)=>True
 | some (.dK _)=>True
 | some (.dT _)=>True
 | some (.set _ _)=>True
 | some (.ins _ _ _)=>True
 | some (.ext _)=>True
 | _=>False
section
variable {H:Hp}{h h':Heap}{x e:Addr}{o':HO}
theorem kA.write (ok:kA P w H h) (mu:qM (H x)) (he:e=x\/H e=some (.own x)) (k:∀ b u,b≠e->h.get? b=some u->h'.get? b=some u) (heo:∃ u,h'.get? e=some u)
  (new:cJ P w (upd H x o') h' x o'):kA P w (upd H x o') h':=λ b u q=>by
 have nown:∀ c y,H c=some (.own y)->c≠x:=λ c y r z=>by subst z;rw[r] at mu;exact mu
 have ntup:∀ c xs,H c=some (.tup xs)->c≠x:=λ c xs r z=>by subst z;rw[r] at mu;exact mu
 by_cases hb:b=x
 ·subst hb;rw[aB] at q;cases q;exact new
 ·rw[aK hb] at q
  by_cases hbe:b=e
  ·have q':H b=some (.own x):=by
    rcases he with z | z
    ·exact absurd (hbe.trans z) hb
    ·rw[hbe];exact z
   rw[q] at q';cases q';obtain⟨v,hv⟩:=heo;exact⟨v,by rw[hbe];exact hv⟩
  ·refine (ok b u q).stay (λ c v hc r=>k c v ?_ r) (λ c r=>by rw[aK (nown c b r)];exact r) λ c xs r=>by rw[aK (ntup c xs r)];exact r
   rcases hc with rfl | hc
   ·exact hbe
   ·rintro rfl;rcases he with z | z
    ·exact nown c b hc z
    ·rw[hc] at z;cases z;exact hb rfl
end
structure Un (fs ex:List Addr) (H H':Hp) (h h':Heap):Prop where
 keep:∀ b o,h.get? b=some o->H b=none->b∉fs->b∉ex->h'.get? b=some o
 slot:∀ b o,h.get? b=some o->H b=none->b∈fs->b∉ex->∃ sl,h'.get? b=some { o with slots:=sl }
 free:∀ b o,h.get? b=some o->H b=none->b∉ex->H' b=none
 there:∀ b o,h.get? b=some o->b∉ex->∃ o',h'.get? b=some o'
 tups:∀ b xs,H b=some (.tup xs)->H' b=some (.tup xs)
 frzs:∀ b o u,H b=some (.frz o u)->H' b=some (.frz o u)
 tbls:∀ b ps,H b=some (.tbl ps)->∃ more,H' b=some (.tbl (ps++more))
section
variable {fs fs' ex ex':List Addr}{H H1 H2:Hp}{h h1 h2 h':Heap}{a x e:Addr}{o:HO}
theorem Un.any (u:Un fs ex H H1 h h1) {b:Addr}{ob:Obj} (q:h.get? b=some ob) (n:H b=none) (hx:b∉ex):∃ sl,h1.get? b=some { ob with slots:=sl }:=by
 by_cases hb:b∈fs
 ·exact u.slot b ob q n hb hx
 ·exact⟨ob.slots,u.keep b ob q n hb hx⟩
theorem Un.kept (k:∀ b u,h.get? b=some u->h'.get? b=some u):Un fs ex H H h h':=
 ⟨λ b ob q _ _ _=>k b ob q,λ b ob q _ _ _=>⟨ob.slots,k b ob q⟩,λ _ _ _ n _=>n,λ b ob q _=>⟨ob,k b ob q⟩,λ _ _ q=>q,λ _ _ _ q=>q,λ _ ps q=>⟨#[],by rw[q];simp⟩⟩
theorem Un.refl:Un fs ex H H h h:=Un.kept λ _ _ q=>q
theorem Un.laid (k:∀ b u,h.get? b=some u->h'.get? b=some u) (hp:h.objs.size<=a) (hn:H a=none):Un fs ex H (upd H a o) h h' where
 keep:=λ b u q _ _ _=>k b u q
 slot:=λ b u q _ _ _=>⟨u.slots,k b u q⟩
 free:=λ b u q n _=>by rw[aK (aar (aan (aak q) hp))];exact n
 there:=λ b u q _=>⟨u,k b u q⟩
 tups:=λ b xs q=>by rw[aK (aJ q hn)];exact q
 frzs:=λ b u xs q=>by rw[aK (aJ q hn)];exact q
 tbls:=λ b ps q=>⟨#[],by rw[aK (aJ q hn),q];simp⟩
theorem Un.write (mu:qM (H x)) (he:e=x\/H e=some (.own x)) (k:∀ b u,b≠e->h.get? b=some u->h'.get? b=some u) (heo:∃ u,h'.get? e=some u):Un fs ex H (upd H x o) h h':=by
 have hx:∀ b,H b=none->b≠x:=λ b n z=>by subst z;rw[n] at mu;exact mu
 have hb:∀ b,H b=none->b≠e:=λ b n z=>by
  subst z;rcases he with r | r
  ·exact hx b n r
  ·rw[n] at r;cases r
 have hm:∀ b u,H b=some u->¬ qM (some u)->b≠x:=λ b u q nm z=>by subst z;rw[q] at mu;exact nm mu
 refine⟨λ b u q n _ _=>k b u (hb b n) q,λ b u q n _ _=>⟨u.slots,k b u (hb b n) q⟩,λ b u q n _=>by rw[aK (hx b n)];exact n,λ b u q _=>?_,
  λ b xs q=>by rw[aK (hm b _ q λ z=>z)];exact q,λ b u xs q=>by rw[aK (hm b _ q λ z=>z)];exact q,λ b ps q=>⟨#[],by rw[aK (hm b _ q λ z=>z),q];simp⟩⟩
 by_cases hbe:b=e
 ·subst hbe;exact heo
 ·exact⟨u,k b u hbe q⟩
end
def trk (h:Heap) (H:Hp):List Addr:=(List.range h.objs.size).filter λ a=>(H a).isSome
def rO (h:Heap) (H:Hp):Heap:=PySem.W.hideAll h (trk h H)
theorem yS (h:Heap) (H:Hp):(rO h H).objs.size=h.objs.size:=PySem.W.hideAll_size _ _
theorem BK {h:Heap}{H:Hp}{b:Addr}{o:Obj} (e:h.get? b=some o) (n:H b=none):(rO h H).get? b=some o:=
 PySem.W.hideAll_get _ e λ hm=>by
  have q:(H b).isSome=true:=(List.mem_filter.mp hm).2;rw[n] at q;simp at q
theorem DQ {h:Heap}{H:Hp}{b:Addr}{o:Obj} (e:(rO h H).get? b=some o):h.get? b=some o/\H b=none:=by
 have e':h.get? b=some o:=PySem.W.of_hideAll (trk h H) e;refine⟨e',?_⟩;cases q:H b with
 | none=>rfl
 | some x=>
  have hm:b∈trk h H:=List.mem_filter.mpr ⟨acx.mpr (aak e'),by simp [q]⟩;have z:(rO h H).get? b=none:=PySem.W.hideAll_none (trk h H) hm;rw[z] at e;cases e
structure Mod (K:aab) (mg:Str->Option Value) (base:Heap):Prop where
 kin:K.In base
 glob:base.Ns mainGlobals mg
 blt:∃ mb,base.Ns builtinsNs mb/\∀ x:Str,x ≠ "__name__" -> mb x=bootBuiltins x
 nolimit:base.NoLimit
structure Cx where
 prog:Program
 w:World
 K:aab
 mg:Str->Option Value
 base:Heap
 A:Around
 N:List Str
 s₀:Shared
 H₀:Hp
 env:Env
 outer:List Env
 stack:List Env
 ex:List Addr
 fn:Str->Bool
 calm:Bool
 pn:List (Addr×Obj)
 xe:Value->Shared->Prop
def kB (l:List Env):List Addr:=l.filterMap (·.frame)
abbrev Cx.fs (X:Cx):List Addr:=kB X.outer
def Vis (sc:Scope) (x:Str):Prop:=sc.names.lookup x=some .local\/sc.names.lookup x=some .cell\/sc.names.lookup x=some .free
def JH (sc:Scope) (x:Str):Prop:=sc.names.lookup x=some .local\/sc.names.lookup x=some .cell
def Look (env:Env) (h:Heap) (m:Str->Option Value) (x:Str) (u:Value):Prop:=
 (env.kindOf x=some .local/\m x=some u)\/((env.kindOf x=some .cell\/env.kindOf x=some .free)/\∃ c,env.cells.lookup x=some c/\h.IsCell c (some u))
structure Cx.Ok (X:Cx):Prop where
 mod:Mod X.K X.mg X.base
 kind:X.env.scope.kind=.function
 glob:X.env.globals=mainGlobals
 blt:X.env.builtins=builtinsNs
 above:X.s₀.heap.objs.size<=X.env.locals
 inj:∀ x y c,X.env.cells.lookup x=some c->X.env.cells.lookup y=some c->x=y
 has:∀ x,(X.env.kindOf x=some .cell\/X.env.kindOf x=some .free)->∃ c,X.env.cells.lookup x=some c
 cab:∀ x c,X.fn x=true->X.env.cells.lookup x=some c->X.s₀.heap.objs.size<=c
 hd:X.calm=true->X.A.handled=none
 frames:X.A.frames=some X.stack
 stk:X.stack=X.outer\/(X.stack=X.env::X.outer/\X.env.frame=some X.env.locals)
 exf:∀ b∈X.ex,b≠X.env.locals/\∀ x c,X.env.cells.lookup x=some c->c≠b
 bs:∀ b o,X.base.get? b=some o->X.s₀.heap.get? b=some o/\X.H₀ b=none
 bsz:X.base.objs.size<=X.s₀.heap.objs.size
 noex:∀ b o,X.base.get? b=some o->b∉X.ex
 exfs:∀ b∈X.ex,b∉X.fs
 funs:X.s₀.heap.FunFrames X.base X.outer
 frf:∀ b∈X.fs,X.H₀ b=none
structure Inv (X:Cx) (pins:List (Addr×Obj)) (σ:List (Option V)) (H:Hp) (s:Shared):Prop where
 ok:X.Ok
 os:s.os=X.s₀.os
 bare:AllBare s.gens
 base:Un X.fs X.ex X.H₀ H X.s₀.heap s.heap
 loc:∃ m,s.heap.Ns X.env.locals m/\∀ (i:Nat) (x:Str) (v:V),X.N[i]? = some x->σ[i]? = some (some v)->Vis X.env.scope x->∃ u,bG v u/\Look X.env s.heap m x u
 cell:∀ x c,X.env.cells.lookup x=some c->∃ v,s.heap.IsCell c v
 free:H X.env.locals=none
 freeC:∀ x c,X.env.cells.lookup x=some c->H c=none
 pin:∀ p∈X.pn++pins,s.heap.get? p.1=some p.2/\H p.1=none/\p.1≠X.env.locals/\p.1∉X.fs/\∀ v,p.2.data≠.cell v
 hok:kA X.prog X.w H s.heap
 len:σ.length=X.N.length
section
variable {X:Cx}{pins:List (Addr×Obj)}{σ:List (Option V)}{H H':Hp}{s:Shared}{h':Heap}
theorem Cx.Ok.nofr (ok:X.Ok) {b:Addr}{o:Obj} (e:X.base.get? b=some o):b∉X.fs:=λ hb=>by
 have:=(ok.funs.mem hb).1;rw[e] at this;cases this
theorem Inv.bs (I:Inv X pins σ H s):∀ b o,X.base.get? b=some o->s.heap.get? b=some o/\H b=none:=λ b o e=>
 ⟨I.base.keep b o (I.ok.bs b o e).1 (I.ok.bs b o e).2 (I.ok.nofr e) (I.ok.noex b o e),I.base.free b o (I.ok.bs b o e).1 (I.ok.bs b o e).2 (I.ok.noex b o e)⟩
theorem Inv.bk (I:Inv X pins σ H s):∀ b o,X.base.get? b=some o->s.heap.get? b=some o:=λ b o e=>(I.bs b o e).1
theorem Inv.mod (I:Inv X pins σ H s):Mod X.K X.mg X.base:=I.ok.mod
theorem Inv.kIn (I:Inv X pins σ H s):X.K.In s.heap:=I.ok.mod.kin.keeps I.bk
theorem Inv.lt (I:Inv X pins σ H s):X.env.locals < s.heap.objs.size:=let ⟨_,hn,_⟩:=I.loc;hn.lt
theorem Inv.sz (I:Inv X pins σ H s):X.s₀.heap.objs.size<=s.heap.objs.size:=acb I.ok.above (aby I.lt)
theorem Inv.nofs (I:Inv X pins σ H s) {a:Addr} (h:s.heap.objs.size<=a):a∉X.fs:=λ hb=>by
 obtain⟨_,o,ho,_⟩:=I.ok.funs.mem hb;exact absurd (aan (aak ho) (acb I.sz h)) (aca _)
theorem Inv.cne (I:Inv X pins σ H s):∀ x c,X.env.cells.lookup x=some c->c≠X.env.locals:=λ x c e z=>by
 obtain⟨v,o,ho,hd⟩:=I.cell x c e;obtain⟨m,⟨o',es,ep,ho',hd',_⟩,_⟩:=I.loc;rw[z,ho'] at ho;cases ho;rw[hd'] at hd;cases hd
theorem Inv.funs (I:Inv X pins σ H s):s.heap.FunFrames X.base X.outer:=by
 have all:∀ (l:List Env),(∀ b∈kB l,b∈X.fs)->X.s₀.heap.FunFrames X.base l->s.heap.FunFrames X.base l:=by
  intro l
  induction l with
  | nil=>intro _ _;trivial
  | cons env r ih=>
   intro hs hl;obtain⟨hk,⟨L,o,hf,hn,ho,hd⟩,hr⟩:=hl;have hL:L∈X.fs:=hs L (by unfold kB;rw[List.filterMap_cons,hf];exact abt);obtain⟨sl,e⟩:=I.base.slot L o ho (I.ok.frf L hL) hL λ z=>I.ok.exfs L z hL;exact⟨hk,⟨L,_,hf,hn,e,hd⟩,ih (λ b hb=>hs b (by unfold kB;rw[List.filterMap_cons,hf];exact aay _ hb)) hr⟩
 exact all X.outer (λ _ hb=>hb) I.ok.funs
theorem Inv.stack (I:Inv X pins σ H s):s.heap.FunFrames X.base X.stack:=by
 rcases I.ok.stk with e | ⟨e,hf⟩
 ·rw[e];exact I.funs
 ·rw[e];obtain⟨m,hn,_⟩:=I.loc;refine .cons (by rw[I.ok.kind];decide) hf hn ?_ I.funs;exact Heap.get?_none_of_le (acb I.ok.bsz I.ok.above)
theorem Inv.stkSub (I:Inv X pins σ H s):∀ b∈kB X.stack,b∈X.env.locals::X.fs:=λ b hb=>by
 rcases I.ok.stk with e | ⟨e,hf⟩
 ·rw[e] at hb;exact aay _ hb
 ·rw[e] at hb;unfold kB at hb;rw[List.filterMap_cons,hf] at hb;exact hb
theorem Inv.stkFree (I:Inv X pins σ H s):∀ b∈kB X.stack,H b=none:=λ b hb=>by
 rcases aax.mp (I.stkSub b hb) with e | hb
 ·rw[e];exact I.free
 ·obtain⟨_,o,ho,_⟩:=I.ok.funs.mem hb;exact I.base.free b o ho (I.ok.frf b hb) λ z=>I.ok.exfs b z hb
theorem Inv.step {g':Array GenState}{t':Nat}{d':Drawn}{ch:List Addr} (I:Inv X pins σ H s)
  (hch:∀ b∈ch,(b∈X.ex\/X.s₀.heap.objs.size<=b)/\b≠X.env.locals/\(∀ x c,X.env.cells.lookup x=some c->c≠b)/\∀ p∈X.pn++pins,p.1≠b)
  (keep:∀ b o,b≠X.env.locals->b∉X.fs->b∉ch->s.heap.get? b=some o->H b=none->h'.get? b=some o)
  (slot:∀ b o,b≠X.env.locals->b∈X.fs->b∉ch->s.heap.get? b=some o->H b=none->∃ sl,h'.get? b=some { o with slots:=sl }) (free:∀ b o,b∉ch->s.heap.get? b=some o->H b=none->H' b=none)
  (there:∀ b o,b∉ch->s.heap.get? b=some o->∃ o',h'.get? b=some o')
  (tups:∀ b xs,H b=some (.tup xs)->H' b=some (.tup xs)) (frzs:∀ b o u,H b=some (.frz o u)->H' b=some (.frz o u)) (tbls:∀ b ps,H b=some (.tbl ps)->∃ more,H' b=some (.tbl (ps++more)))
  (ns:∀ m,s.heap.Ns X.env.locals m->h'.Ns X.env.locals m) (hok:kA X.prog X.w H' h') (hg:AllBare g') :
  Inv X pins σ H' { s with heap:=h',gens:=g',drawn:=d',toks:=t' }:=by
 have neL:∀ b o,X.s₀.heap.get? b=some o->b≠X.env.locals:=λ b o e=>aar (aan (aak e) I.ok.above);have neC:∀ b o,X.s₀.heap.get? b=some o->b∉X.ex->b∉ch:=λ b o e hx hb=>by
  rcases (hch b hb).1 with z | z
  ·exact hx z
  ·exact absurd (aan (aak e) z) (aca _)
 have cellK:∀ x c,X.env.cells.lookup x=some c->∀ v,s.heap.IsCell c v->h'.IsCell c v:=λ x c e v ⟨o,ho,hd⟩=>by
  have nch:c∉ch:=λ z=>(hch c z).2.2.1 x c e rfl
  by_cases hc:c∈X.fs
  ·obtain⟨sl,q⟩:=slot c o (I.cne x c e) hc nch ho (I.freeC x c e);exact⟨_,q,hd⟩
  ·exact⟨o,keep c o (I.cne x c e) hc nch ho (I.freeC x c e),hd⟩
 refine⟨I.ok,I.os,hg,⟨λ b o e n hb hx=>?_,λ b o e n hb hx=>?_,λ b o e n hx=>?_,λ b o e hx=>?_,λ b xs e=>tups b xs (I.base.tups b xs e),λ b o xs e=>frzs b o xs (I.base.frzs b o xs e),λ b ps e=>?_⟩,?_,λ x c e=>?_,?_,λ x c e=>?_,λ p hp=>?_,hok,I.len⟩
 ·exact keep b o (neL b o e) hb (neC b o e hx) (I.base.keep b o e n hb hx) (I.base.free b o e n hx)
 ·obtain⟨sl,e1⟩:=I.base.slot b o e n hb hx;obtain⟨sl',e2⟩:=slot b _ (neL b o e) hb (neC b o e hx) e1 (I.base.free b o e n hx);exact⟨sl',e2⟩
 ·obtain⟨o',e1⟩:=I.base.there b o e hx;exact free b o' (neC b o e hx) e1 (I.base.free b o e n hx)
 ·obtain⟨o',e1⟩:=I.base.there b o e hx;exact there b o' (neC b o e hx) e1
 ·obtain⟨m1,e1⟩:=I.base.tbls b ps e;obtain⟨m2,e2⟩:=tbls b _ e1;exact⟨m1++m2,by rw[e2,Array.append_assoc]⟩
 ·obtain⟨m,hn,hl⟩:=I.loc;refine⟨m,ns m hn,λ i x v e1 e2 e3=>?_⟩;obtain⟨u,r,l⟩:=hl i x v e1 e2 e3;refine⟨u,r,?_⟩;rcases l with l | ⟨k,c,e,z⟩
  ·exact .inl l
  ·exact .inr ⟨k,c,e,cellK x c e _ z⟩
 ·obtain⟨v,z⟩:=I.cell x c e;exact⟨v,cellK x c e v z⟩
 ·obtain⟨m,⟨o,_,_,ho,_⟩,_⟩:=I.loc;exact free _ o (λ z=>(hch _ z).2.1 rfl) ho I.free
 ·obtain⟨v,o,ho,hd⟩:=I.cell x c e;exact free c o (λ z=>(hch c z).2.2.1 x c e rfl) ho (I.freeC x c e)
 ·obtain⟨e,n,ne,nf,d⟩:=I.pin p hp;have nch:p.1∉ch:=λ z=>(hch p.1 z).2.2.2 p hp rfl;exact⟨keep p.1 p.2 ne nf nch e n,free p.1 p.2 nch e n,ne,nf,d⟩
theorem Inv.un {t':Nat} (I:Inv X pins σ H s) (u:Un X.fs [] H H' s.heap h') (hok:kA X.prog X.w H' h'):Inv X pins σ H' { s with heap:=h',toks:=t' }:=by
 obtain⟨m,⟨o,es,ep,ho,r⟩,_⟩:=id I.loc;obtain⟨sl,hL⟩:=u.any ho I.free (by simp);exact I.step (g':=s.gens) (d':=s.drawn) (ch:=[]) (λ _ z=>nomatch z) (λ b o _ hb _ e n=>u.keep b o e n hb (by simp)) (λ b o _ hb _ e n=>u.slot b o e n hb (by simp)) (λ b o _ e n=>u.free b o e n (by simp)) (λ b o _ e=>u.there b o e (by simp)) u.tups u.frzs u.tbls (λ m' hm=>by
  obtain⟨o',es',ep',ho',r'⟩:=hm;rw[ho] at ho';cases ho';exact⟨_,es',ep',hL,r'⟩) hok I.bare
theorem Inv.call {g':Array GenState}{t':Nat}{d':Drawn}{ch:List Addr} (I:Inv X pins σ H s) (u:Un (kB X.stack) ch H H' s.heap h') (hok:kA X.prog X.w H' h') (hg:AllBare g')
  (hch:∀ b∈ch,(b∈X.ex\/X.s₀.heap.objs.size<=b)/\b≠X.env.locals/\(∀ x c,X.env.cells.lookup x=some c->c≠b)/\∀ p∈X.pn++pins,p.1≠b) :
  Inv X pins σ H' { s with heap:=h',gens:=g',drawn:=d',toks:=t' }:=by
 obtain⟨m,⟨o,es,ep,ho,r⟩,_⟩:=id I.loc;obtain⟨sl,hL⟩:=u.any ho I.free λ z=>(hch _ z).2.1 rfl;exact I.step (ch:=ch) hch (λ b o hL hb hc e n=>u.keep b o e n (λ z=>(aax.mp (I.stkSub b z)).elim hL hb) hc) (λ b o _ _ hc e n=>u.any e n hc) (λ b o hc e n=>u.free b o e n hc) (λ b o hc e=>u.there b o e hc) u.tups u.frzs u.tbls (λ m' hm=>by
  obtain⟨o',es',ep',ho',r'⟩:=hm;rw[ho] at ho';cases ho';exact⟨_,es',ep',hL,r'⟩) hok hg
theorem Inv.turned {t':Nat}{it:Addr} (I:Inv X pins σ H s) (k:∀ b o,b≠it->s.heap.get? b=some o->h'.get? b=some o) (hn:H it=none) (hL:it≠X.env.locals)
  (h1:it∈X.ex\/X.s₀.heap.objs.size<=it) (h2:∀ x c,X.env.cells.lookup x=some c->c≠it) (h3:∀ p∈X.pn++pins,p.1≠it):Inv X pins σ H { s with heap:=h',toks:=t' }:=by
 have nit:∀ b u,H b=some u->b≠it:=λ b u e z=>by rw[z,hn] at e;cases e
 refine I.step (g':=s.gens) (d':=s.drawn) (ch:=[it]) (λ b hb=>?_) (λ b o _ _ hc e _=>k b o (λ z=>hc (by simp [z])) e) (λ b o _ _ hc e _=>⟨o.slots,k b o (λ z=>hc (by simp [z])) e⟩) (λ _ _ _ _ n=>n)
  (λ b o hc e=>⟨o,k b o (λ z=>hc (by simp [z])) e⟩) (λ _ _ e=>e) (λ _ _ _ e=>e) (λ b ps e=>⟨#[],by rw[e];simp⟩) (λ m hm=>?_) (λ b u e=>?_) I.bare
 ·have e:b=it:=by simpa using hb
  subst e;exact⟨h1,hL,h2,h3⟩
 ·obtain⟨o,es,ep,ho,r⟩:=hm;exact⟨o,es,ep,k _ o (Ne.symm hL) ho,r⟩
 ·refine (I.hok b u e).stay (λ c v hc q=>k c v ?_ q) (λ _ q=>q) λ _ _ q=>q;rcases hc with z | z
  ·rw[z];exact nit b u e
  ·exact nit c _ z
theorem Inv.tok (I:Inv X pins σ H s) (t:Nat):Inv X pins σ H { s with toks:=t }:=I.un (h':=s.heap) (t':=t) Un.refl I.hok
theorem Inv.kept {t':Nat} (I:Inv X pins σ H s) (k:∀ b u,s.heap.get? b=some u->h'.get? b=some u):Inv X pins σ H { s with heap:=h',toks:=t' }:=I.un (Un.kept k) (I.hok.kept k)
theorem Inv.laid {a:Addr}{o:HO}{t':Nat} (I:Inv X pins σ H s) (k:∀ b u,s.heap.get? b=some u->h'.get? b=some u) (hp:s.heap.objs.size<=a) (new:cJ X.prog X.w (upd H a o) h' a o) :
  Inv X pins σ (upd H a o) { s with heap:=h',toks:=t' }:=I.un (Un.laid k hp (I.hok.fresh hp)) (I.hok.laid k hp new)
theorem Inv.write {x e:Addr}{o:HO}{t':Nat} (I:Inv X pins σ H s) (mu:qM (H x)) (he:e=x\/H e=some (.own x)) (k:∀ b u,b≠e->s.heap.get? b=some u->h'.get? b=some u) (heo:∃ u,h'.get? e=some u)
  (new:cJ X.prog X.w (upd H x o) h' x o):Inv X pins σ (upd H x o) { s with heap:=h',toks:=t' }:=I.un (Un.write mu he k heo) (I.hok.write mu he k heo new)
theorem Inv.pins_of {pins':List (Addr×Obj)} (I:Inv X pins σ H s) (h:∀ p∈pins',s.heap.get? p.1=some p.2/\H p.1=none/\p.1≠X.env.locals/\p.1∉X.fs/\∀ v,p.2.data≠.cell v):Inv X pins' σ H s:=
 ⟨I.ok,I.os,I.bare,I.base,I.loc,I.cell,I.free,I.freeC,λ p hp=>(act.mp hp).elim (λ z=>I.pin p (adb _ z)) (h p),I.hok,I.len⟩
theorem oI {N:List Str} (hN:N.Nodup) {i j:Nat}{x:Str} (a:N[i]? = some x) (b:N[j]? = some x):i=j:=by
 obtain⟨h1,e1⟩:=aai.mp a;obtain⟨h2,e2⟩:=aai.mp b;exact (List.getElem_inj hN).mp (e1.trans e2.symm)
theorem lI {M:Model}{A:Around}{E:Value->Shared->Prop}{i:Nat}{x:Str}{v:V}{u:Value}{Q:Unit->Shared->Prop} (I:Inv X pins σ H s) (hN:X.N.Nodup) (hi:X.N[i]? = some x) (hx:JH X.env.scope x) (r:bG v u)
  (h:∀ s',Inv X pins (σ.set i (some v)) H s'->(∃ a,Heap.SameBut a s.heap s'.heap/\(a=X.env.locals\/X.env.cells.lookup x=some a))->Q () s') (hf:X.fn x=true\/X.env.scope.names.lookup x=some .local:=by first | exact .inl rfl | exact .inr rfl | assumption):wpAny M A (storeName X.env x u) Q E s:=by
 obtain⟨m,hn,hl⟩:=id I.loc;have hcls:(X.env.scope.kind == .class || (X.env.scope.kind == .module && X.env.locals != X.env.globals))=false:=by rw[I.ok.kind];rfl
 have df:i < σ.length:=by rw[I.len];exact (aai.mp hi).1
 have cne:=I.cne;have tracked:∀ {a:Addr}{h':Heap},(∃ o,s.heap.get? a=some o/\H a=none)->Heap.SameBut a s.heap h'->kA X.prog X.w H h':=λ {a h'} ha hs b ob e=>by
  obtain⟨_,_,hfree⟩:=ha;refine (I.hok b ob e).stay (λ c w' hc q=>(hs.2 c ?_).trans q) (λ _ q=>q) λ _ _ q=>q;rintro rfl;rcases hc with rfl | hc
  ·rw[hfree] at e;cases e
  ·rw[hfree] at hc;cases hc
 rcases hx with hk | hk
 ·refine wpAny_storeName_local hk hn (λ h' hn' hs=>?_) hcls;obtain⟨oL,_,_,hoL,_⟩:=id hn;refine h _ ⟨I.ok,I.os,I.bare,⟨λ b o e n hb hx=>?_,λ b o e n hb hx=>?_,I.base.free,λ b o e hx=>?_,I.base.tups,I.base.frzs,I.base.tbls⟩,⟨_,hn',λ j y v' e1 e2 e3=>?_⟩,λ y c e=>?_,I.free,I.freeC,λ p hp=>?_,tracked ⟨oL,hoL,I.free⟩ hs,by simpa using I.len⟩ ⟨_,hs,.inl rfl⟩
  ·exact (hs.2 b (aar (aan (aak e) I.ok.above))).trans (I.base.keep b o e n hb hx)
  ·obtain⟨sl,e1⟩:=I.base.slot b o e n hb hx;exact⟨sl,(hs.2 b (aar (aan (aak e) I.ok.above))).trans e1⟩
  ·obtain⟨o',e1⟩:=I.base.there b o e hx;exact⟨o',(hs.2 b (aar (aan (aak e) I.ok.above))).trans e1⟩
  ·by_cases hj:j=i
   ·subst hj;rw[hi] at e1;cases e1;rw[acr df] at e2;cases e2;exact⟨u,r,.inl ⟨hk,by simp⟩⟩
   ·rw[acw (Ne.symm hj)] at e2;obtain⟨u',r',q⟩:=hl j y v' e1 e2 e3;refine⟨u',r',?_⟩;rcases q with ⟨k,e⟩ | ⟨k,c,e,z⟩
    ·refine .inl ⟨k,?_⟩;have:y≠x:=λ e=>hj (oI hN e1 (e ▸ hi));simp [this,e]
    ·exact .inr ⟨k,c,e,z.sameBut hs (cne y c e)⟩
  ·obtain⟨w',z⟩:=I.cell y c e;exact⟨w',z.sameBut hs (cne y c e)⟩
  ·obtain⟨e,n,ne,nf,d⟩:=I.pin p hp;exact⟨(hs.2 p.1 ne).trans e,n,ne,nf,d⟩
 ·have hfn:X.fn x=true:=by
   rcases hf with z | z
   ·exact z
   ·rw[z] at hk;cases hk
  obtain⟨c,hc⟩:=I.ok.has x (.inl hk);obtain⟨w',z⟩:=I.cell x c hc;refine wpAny_storeName_cell I.ok.kind hk hc z (λ h' hc' hs=>?_);obtain⟨oc,hoc,hocd⟩:=id z;refine h { s with heap:=h' } ⟨I.ok,I.os,I.bare,⟨λ b o e n hb hx=>?_,λ b o e n hb hx=>?_,I.base.free,λ b o e hx=>?_,I.base.tups,I.base.frzs,I.base.tbls⟩,⟨m,hn.sameBut hs (Ne.symm (cne x c hc)),λ j y v' e1 e2 e3=>?_⟩,λ y c' e=>?_,I.free,I.freeC,λ p hp=>?_,tracked ⟨oc,hoc,I.freeC x c hc⟩ hs,by simpa using I.len⟩ ⟨c,hs,.inr hc⟩
  ·exact (hs.2 b (aar (aan (aak e) (I.ok.cab x c hfn hc)))).trans (I.base.keep b o e n hb hx)
  ·obtain⟨sl,e1⟩:=I.base.slot b o e n hb hx;exact⟨sl,(hs.2 b (aar (aan (aak e) (I.ok.cab x c hfn hc)))).trans e1⟩
  ·obtain⟨o',e1⟩:=I.base.there b o e hx;exact⟨o',(hs.2 b (aar (aan (aak e) (I.ok.cab x c hfn hc)))).trans e1⟩
  ·by_cases hj:j=i
   ·subst hj;rw[hi] at e1;cases e1;rw[acr df] at e2;cases e2;exact⟨u,r,.inr ⟨.inl hk,c,hc,hc'⟩⟩
   ·rw[acw (Ne.symm hj)] at e2;obtain⟨u',r',q⟩:=hl j y v' e1 e2 e3;refine⟨u',r',?_⟩;rcases q with q | ⟨k,c',e,z'⟩
    ·exact .inl q
    ·refine .inr ⟨k,c',e,z'.sameBut hs ?_⟩;rintro rfl;exact hj (oI hN e1 (I.ok.inj _ _ _ e hc ▸ hi))
  ·by_cases hcc:c'=c
   ·subst hcc;exact⟨_,hc'⟩
   ·obtain⟨w2,z2⟩:=I.cell y c' e;exact⟨w2,z2.sameBut hs hcc⟩
  ·obtain⟨e,n,ne,nf,d⟩:=I.pin p hp;refine⟨(hs.2 p.1 ?_).trans e,n,ne,nf,d⟩;intro q;rw[q,hoc] at e;have q':oc=p.2:=abu e;exact d w' (by rw[<- q'];exact hocd)
theorem kD {M:Model}{A:Around}{E:Value->Shared->Prop}{i:Nat}{x:Str}{v:V}{u:Value}{Q:Unit->Shared->Prop} (I:Inv X pins σ H s) (hN:X.N.Nodup) (hi:X.N[i]? = some x) (hx:JH X.env.scope x) (r:bG v u)
  (h:∀ s',Inv X pins (σ.set i (some v)) H s'->Q () s') (hf:X.fn x=true\/X.env.scope.names.lookup x=some .local:=by first | exact .inl rfl | exact .inr rfl | assumption):wpAny M A (storeName X.env x u) Q E s:=
 lI I hN hi hx r (λ s' I' _=>h s' I') hf
theorem Inv.call' {s':Shared}{ch:List Addr} (I:Inv X pins σ H s) (ho:s'.os=s.os) (u:Un (kB X.stack) ch H H' s.heap s'.heap) (hok:kA X.prog X.w H' s'.heap) (hg:AllBare s'.gens)
  (hch:∀ b∈ch,(b∈X.ex\/X.s₀.heap.objs.size<=b)/\b≠X.env.locals/\(∀ x c,X.env.cells.lookup x=some c->c≠b)/\∀ p∈X.pn++pins,p.1≠b):Inv X pins σ H' s':=by
 obtain⟨h',g',d',t',o'⟩:=s';have e:o'=s.os:=ho;subst e;exact I.call (g':=g') (t':=t') (d':=d') u hok hg hch
end
abbrev XK:=Value->Option Addr->Hp->Prop
abbrev St:=List (Option V)
abbrev VK:=V->Hp->Prop
abbrev TE:=St->Hp->VK->Prop
abbrev TT:=St->Hp->(Bool->Hp->Prop)->Prop
abbrev TA:=St->Hp->(List V->Hp->Prop)->Prop
structure Ends where
 nx:St->Hp->Prop
 rt:VK
 bk:St->Hp->Prop:=λ _ _=>False
 ct:St->Hp->Prop:=λ _ _=>False
abbrev TS:=Ends->St->Hp->Prop
def EP (X:Cx) (pins:List (Addr×Obj)) (σ:St) (Q:VK) (u:Value) (s':Shared):Prop:=∃ v H',Inv X pins σ H' s'/\bG v u/\Q v H'
def TP (X:Cx) (pins:List (Addr×Obj)) (σ:St) (Q:Bool->Hp->Prop) (b:Bool) (s':Shared):Prop:=∃ H',Inv X pins σ H' s'/\Q b H'
def AP (X:Cx) (pins:List (Addr×Obj)) (σ:St) (Q:List V->Hp->Prop) (us:List Value) (s':Shared):Prop:=∃ vs H',Inv X pins σ H' s'/\bI vs us/\Q vs H'
def SP (X:Cx) (pins:List (Addr×Obj)) (D:Ends) (f:Flow) (s':Shared):Prop:=
 match f with
 | .next=>∃ ad H',Inv X pins ad H' s'/\D.nx ad H'
 | .brk=>∃ ad H',Inv X pins ad H' s'/\D.bk ad H'
 | .cont=>∃ ad H',Inv X pins ad H' s'/\D.ct ad H'
 | .ret u=>∃ v ad H',Inv X pins ad H' s'/\bG v u/\D.rt v H'
def PE (X:Cx) (e:Expr) (t:TE):Prop:=
 ∀ (pins:List (Addr×Obj)) (s:Shared) (σ:St) (H:Hp) (Q:VK),Inv X pins σ H s->t σ H Q->wpAny (model X.prog X.w) X.A (eval e X.env) (EP X pins σ Q) X.xe s
def PT (X:Cx) (e:Expr) (t:TT):Prop:=
 ∀ (pins:List (Addr×Obj)) (s:Shared) (σ:St) (H:Hp) (Q:Bool->Hp->Prop),Inv X pins σ H s->t σ H Q->wpAny (model X.prog X.w) X.A (isTrue e X.env (eval e X.env)) (TP X pins σ Q) X.xe s
def PW (X:Cx) (e:Expr) (t:TT):Prop:=
 ∀ (whole:Sem Value) (pins:List (Addr×Obj)) (s:Shared) (σ:St) (H:Hp) (Q:Bool->Hp->Prop),Inv X pins σ H s->t σ H Q->wpAny (model X.prog X.w) X.A (isTrue e X.env whole) (TP X pins σ Q) X.xe s
theorem PW.pt {X:Cx}{e:Expr}{t:TT} (h:PW X e t):PT X e t:=h _
def PA (X:Cx) (es:List Expr) (t:TA):Prop:=
 ∀ (pos:Pos) (pins:List (Addr×Obj)) (s:Shared) (σ:St) (H:Hp) (Q:List V->Hp->Prop),Inv X pins σ H s->t σ H Q->wpAny (model X.prog X.w) X.A (spliced (backTo pos (starEach es X.env))) (AP X pins σ Q) X.xe s
def PS (X:Cx) (st:Stmt) (t:TS):Prop:=
 ∀ (pins:List (Addr×Obj)) (s:Shared) (σ:St) (H:Hp) (D:Ends),Inv X pins σ H s->t D σ H->wpAny (model X.prog X.w) X.A (exec st X.env) (SP X pins D) X.xe s
def w9 (X:Cx) (st:List Stmt) (t:TS):Prop:=
 ∀ (pins:List (Addr×Obj)) (s:Shared) (σ:St) (H:Hp) (D:Ends),Inv X pins σ H s->t D σ H->wpAny (model X.prog X.w) X.A (execs st X.env) (SP X pins D) X.xe s
theorem cY {az:Type}{t:Sem az}{Q Q':az->Shared->Prop}{M:Model}{A:Around}{E:Value->Shared->Prop}{s:Shared} (h:wpAny M A t Q E s) (hQ:∀ a s,Q a s->Q' a s):wpAny M A t Q' E s:=abp h hQ λ _ _ x=>x
section
variable {X:Cx}
def cZ (i:Nat):TE:=λ σ H Q=>∃ v,σ[i]? = some (some v)/\Q v H
def tC (v:V):TE:=λ _ H Q=>Q v H
theorem G7 {i:Nat}{x:Str}{pos:Pos} (hN:X.N[i]? = some x) (hv:Vis X.env.scope x) (hd:(x == ("__debug__" : Str))=false:=by decide) (hcd:(x == ("__classdict__" : Str))=false:=by decide):PE X (.Name x pos) (cZ i):=by
 intro pins s σ H Q I h;obtain⟨v,e,h⟩:=h;obtain⟨m,hn,hl⟩:=I.loc;obtain⟨u,r,l⟩:=hl i x v hN e hv;have fin:EP X pins σ Q u s:=⟨v,H,I,r,h⟩;rcases l with ⟨hk,hm⟩ | ⟨hk,c,hc,hcell⟩
 ·exact wpAny_Name (wpAny_loadName_local I.ok.kind hk hn hm fin) hd
 ·rcases hk with hk | hk
  ·exact wpAny_Name (wpAny_loadName_cell I.ok.kind hk hc hcell fin) hd
  ·exact wpAny_Name (wpAny_loadName_free I.ok.kind hk hc hcell fin hcd) hd
theorem aE {i j pos}:PE X (.Constant (.int i) j pos) (tC (.int i)):=λ _ _ _ H _ I h=>wpAny_Constant_int ⟨.int i,H,I.tok _,⟨_,rfl⟩,h⟩
theorem i4 {b j pos}:PE X (.Constant (.bool b) j pos) (tC (.bl b)):=λ _ _ _ H _ I h=>Constant_bool ⟨.bl b,H,I,rfl,h⟩
theorem eF {j pos}:PE X (.Constant .none j pos) (tC .non):=λ _ _ _ H _ I h=>Constant_none ⟨.non,H,I,rfl,h⟩
theorem dA {x j pos}:PE X (.Constant (.str x) j pos) (tC (.str x)):=λ _ _ _ H _ I h=>Calls.Constant_str ⟨.str x,H,I.tok _,⟨_,rfl⟩,h⟩
def Gl (X:Cx) (x:Str):Prop:=X.env.kindOf x=some .globalImplicit
theorem mW {E:Value->Shared->Prop}{pins:List (Addr×Obj)}{s:Shared}{σ:St}{H:Hp}{x:Str}{u:Value}{pos:Pos}{Q:Value->Shared->Prop} (I:Inv X pins σ H s) (hg:Gl X x) (hm:X.mg x=some u) (h:Q u s)
  (hd:(x == ("__debug__" : Str))=false:=by decide):wpAny (model X.prog X.w) X.A (eval (.Name x pos) X.env) Q E s:=
 Calls.Name_function_global I.ok.kind hg (Calls.loadGlobal_global (by rw[I.ok.glob];exact I.mod.glob.keeps I.bk) hm h) hd
theorem gY {E:Value->Shared->Prop}{pins:List (Addr×Obj)}{s:Shared}{σ:St}{H:Hp}{x:Str}{u:Value}{pos:Pos}{Q:Value->Shared->Prop} (I:Inv X pins σ H s) (hg:Gl X x) (hm:X.mg x=none) (hv:bootBuiltins x=some u) (h:Q u s)
  (hn:x ≠ "__name__" := by decide) (hd:(x == ("__debug__" : Str))=false:=by decide):wpAny (model X.prog X.w) X.A (eval (.Name x pos) X.env) Q E s:=by
 obtain⟨mb,h1,h2⟩:=I.mod.blt;exact Calls.Name_function_global I.ok.kind hg (Calls.loadGlobal_builtin (by rw[I.ok.glob];exact I.mod.glob.keeps I.bk) hm (by rw[I.ok.blt];exact h1.keeps I.bk) ((h2 x hn).trans hv) h) hd
theorem DK {x:Str}{v:V}{u:Value}{pos:Pos} (hg:Gl X x) (hm:X.mg x=some u) (r:bG v u) (hd:(x == ("__debug__" : Str))=false:=by decide):PE X (.Name x pos) (tC v):=
 λ _ _ _ H _ I h=>mW I hg hm ⟨v,H,I,r,h⟩ hd
theorem kS {x:Str}{v:V}{u:Value}{pos:Pos} (hg:Gl X x) (hm:X.mg x=none) (hv:bootBuiltins x=some u) (r:bG v u) (hn:x ≠ "__name__" := by decide) (hd:(x == ("__debug__" : Str))=false:=by decide):PE X (.Name x pos) (tC v):=
 λ _ _ _ H _ I h=>gY I hg hm hv ⟨v,H,I,r,h⟩ hn hd
variable {a b:Expr}{ta tb:TE}{pos:Pos}
def tB (t:TE):TT:=λ σ H Q=>t σ H λ x H1=>∃ c,x=.bl c/\Q c H1
theorem gT {e:Expr}{t:TE} (h:PE X e t) (he:∀ whole,isTrue e X.env whole=(do let v <- whole;standAt e.pos;holding [v] (truthy v)):=by intro _;rfl):PT X e (tB t):=by
 intro pins s σ H Q I hw;refine isTrue_plain (cY (h pins s σ H _ I hw) λ v s1 ⟨x,H1,I1,r1,q1⟩=>?_) (he _);obtain⟨d,rfl,q⟩:=q1;cases r1;exact wpAny_truthy_bool ⟨H1,I1,q⟩
variable {tA tB':TT}{rest:List Expr}
def tAnd (t u:TT):TT:=λ σ H Q=>t σ H λ c H1=>if c=true then u σ H1 Q else Q false H1
def tOr (t u:TT):TT:=λ σ H Q=>t σ H λ c H1=>if c=true then Q true H1 else u σ H1 Q
def tNot (t:TT):TT:=λ σ H Q=>t σ H λ c H1=>Q (!c) H1
theorem qZ (ha:PT X a tA):PW X (.BoolOp .And [a] pos) tA:=by
 intro wh pins s σ H Q I h;refine isTrue_and (cY (ha pins s σ H Q I h) λ c s1 e=>?_);cases c with
 | true=>exact isTrue_and_nil e
 | false=>exact e
theorem uZ (ha:PT X a tA):PW X (.BoolOp .Or [a] pos) tA:=by
 intro wh pins s σ H Q I h;refine isTrue_or (cY (ha pins s σ H Q I h) λ c s1 e=>?_);cases c with
 | false=>exact isTrue_or_nil e
 | true=>exact e
theorem vA (ha:PT X a tA) (hb:PW X (.BoolOp .And (b::rest) pos) tB'):PW X (.BoolOp .And (a::b::rest) pos) (tAnd tA tB'):=by
 intro wh pins s σ H Q I h;refine isTrue_and (cY (ha pins s σ H _ I h) λ c s1 ⟨H1,I1,q1⟩=>?_);cases c with
 | true=>exact hb wh pins s1 σ H1 Q I1 q1
 | false=>exact⟨H1,I1,q1⟩
theorem wJ (ha:PT X a tA) (hb:PW X (.BoolOp .Or (b::rest) pos) tB'):PW X (.BoolOp .Or (a::b::rest) pos) (tOr tA tB'):=by
 intro wh pins s σ H Q I h;refine isTrue_or (cY (ha pins s σ H _ I h) λ c s1 ⟨H1,I1,q1⟩=>?_);cases c with
 | true=>exact⟨H1,I1,q1⟩
 | false=>exact hb wh pins s1 σ H1 Q I1 q1
theorem r6 (ha:PT X a tA):PT X (.UnaryOp .Not a pos) (tNot tA):=by
 intro pins s σ H Q I h;exact isTrue_not (ha pins s σ H (λ c H1=>Q (!c) H1) I h)
def HW (ta tb:TE):TE:=λ σ H Q=>ta σ H λ x H1=>∃ c,x=.bl c/\if c=true then tb σ H1 Q else Q (.bl false) H1
def tOrV (ta tb:TE):TE:=λ σ H Q=>ta σ H λ x H1=>∃ c,x=.bl c/\if c=true then Q (.bl true) H1 else tb σ H1 Q
def EH (ta:TE):TE:=λ σ H Q=>ta σ H λ x H1=>∃ c,x=.bl c/\Q (.bl (!c)) H1
theorem vD {op}{t:TE} (h:PE X a t):PE X (.BoolOp op [a] pos) t:=λ pins s σ H Q I hw=>BoolOp_one (h pins s σ H Q I hw)
theorem vE (ha:PE X a ta) (hb:PE X (.BoolOp .And (b::rest) pos) tb):PE X (.BoolOp .And (a::b::rest) pos) (HW ta tb):=by
 intro pins s σ H Q I h;refine BoolOp_and (cY (ha pins s σ H _ I h) λ v s1 ⟨x,H1,I1,r1,q1⟩=>?_);obtain⟨c,rfl,q1⟩:=q1;cases r1;refine wpAny_truthy_bool ?_;cases c with
 | true=>exact hb pins s1 σ H1 Q I1 q1
 | false=>exact⟨.bl false,H1,I1,rfl,q1⟩
theorem IK (ha:PE X a ta) (hb:PE X (.BoolOp .Or (b::rest) pos) tb):PE X (.BoolOp .Or (a::b::rest) pos) (tOrV ta tb):=by
 intro pins s σ H Q I h;refine BoolOp_or (cY (ha pins s σ H _ I h) λ v s1 ⟨x,H1,I1,r1,q1⟩=>?_);obtain⟨c,rfl,q1⟩:=q1;cases r1;refine wpAny_truthy_bool ?_;cases c with
 | false=>exact hb pins s1 σ H1 Q I1 q1
 | true=>exact⟨.bl true,H1,I1,rfl,q1⟩
theorem r8 (ha:PE X a ta):PE X (.UnaryOp .Not a pos) (EH ta):=by
 intro pins s σ H Q I h;refine UnaryOp_ (cY (ha pins s σ H _ I h) λ v s1 ⟨x,H1,I1,r1,q1⟩=>?_);obtain⟨c,rfl,q1⟩:=q1;cases r1;exact not_of (wpAny_truthy_bool ⟨.bl (!c),H1,I1,rfl,q1⟩)
def tIf (t:TT) (ta tb:TE):TE:=λ σ H Q=>t σ H λ c H1=>if c=true then ta σ H1 Q else tb σ H1 Q
theorem AM {c:Expr} (hc:PT X c tA) (ha:PE X a ta) (hb:PE X b tb):PE X (.IfExp c a b pos) (tIf tA ta tb):=by
 intro pins s σ H Q I h;refine wpAny_IfExp (cY (hc pins s σ H _ I h) λ d s1 ⟨H1,I1,q1⟩=>?_);cases d with
 | true=>exact ha pins s1 σ H1 Q I1 q1
 | false=>exact hb pins s1 σ H1 Q I1 q1
end
def bN (K:aab) (H:Hp) (a:Addr) (xs:List V):Prop:=
 Rd H a (.lst xs)\/
  ∃ (o:Obj) (its:Array Value) (n:Nat),K.lookup a=some o/\o.cls=.type "list" /\ o.dict=none/\o.data=.seq its n/\its.size<=sizeLine/\bI xs its.toList
def bM (K:aab) (H:Hp) (a:Addr) (xs:List V):Prop:=
 Rd H a (.tup xs)\/
  ∃ (o:Obj) (its:Array Value) (n:Nat),K.lookup a=some o/\o.cls=.type "tuple" /\ o.data=.seq its n/\its.size<=sizeLine/\bI xs its.toList
def absV:Value->Option V
 | .none=>some .non
 | .bool b=>some (.bl b)
 | .int i _=>some (.int i)
 | .str x _=>some (.str x)
 | .bytes b _=>some (.byt b)
 | .float b _=>some (.flt b)
 | .ref a=>some (.ref a)
 | .type n=>some (.ty n)
 | _=>none
theorem bG.abs {x:V}{u:Value} (r:bG x u):absV u=some x:=by
 cases x with
 | non=>cases r;rfl
 | bl _=>cases r;rfl
 | int _=>obtain⟨t,rfl⟩:=r;rfl
 | str _=>obtain⟨t,rfl⟩:=r;rfl
 | byt _=>obtain⟨t,rfl⟩:=r;rfl
 | flt _=>obtain⟨t,rfl⟩:=r;rfl
 | ref _=>cases r;rfl
 | ty _=>cases r;rfl
theorem bG.inj {x y:V}{u:Value} (r:bG x u) (q:bG y u):x=y:=abu (r.abs.symm.trans q.abs)
theorem bI.inj:∀ {xs ys:List V}{us:List Value},bI xs us->bI ys us->xs=ys
 | _,_,_,.nil,.nil=>rfl
 | _,_,_,.cons r t,.cons r' t'=>by rw[r.inj r',bI.inj t t']
section
variable {X:Cx}{pins:List (Addr×Obj)}{σ:St}{H:Hp}{s:Shared}{a:Addr}{xs ys:List V}
theorem bN.of {K:aab} (h:H a=some (.lst xs)):bN K H a xs:=.inl (.inl h)
theorem bM.of {K:aab} (h:H a=some (.tup xs)):bM K H a xs:=.inl (.inl h)
theorem Inv.list (I:Inv X pins σ H s) (h:bN X.K H a xs):∃ its:List Value,bI xs its/\PlainL s.heap a its.toArray/\xs.length<=sizeLine:=by
 rcases h with h | ⟨o,its,n,hk,hc,hd,hs,hz,r⟩
 ·obtain⟨z,its,n,r,e⟩:=h.ok I.hok;exact⟨its,r,⟨_,n,e,rfl,rfl,rfl⟩,z⟩
 ·refine⟨its.toList,r,⟨o,n,I.kIn a o hk,hc,hd,by simpa using hs⟩,?_⟩;have e:=r.length;simp only [aap] at e;omega
theorem Inv.tuple (I:Inv X pins σ H s) (h:bM X.K H a xs):∃ its:List Value,bI xs its/\IsTup s.heap a its.toArray/\xs.length<=sizeLine:=by
 rcases h with h | ⟨o,its,n,hk,hc,hs,hz,r⟩
 ·obtain⟨z,its,r,p⟩:=h.ok I.hok;exact⟨its,r,p,z⟩
 ·refine⟨its.toList,r,⟨o,I.kIn a o hk,hc,n,by simpa using hs⟩,?_⟩;have e:=r.length;simp only [aap] at e;omega
theorem Inv.list_inj (I:Inv X pins σ H s) (h:bN X.K H a xs) (h':bN X.K H a ys):xs=ys:=by
 obtain⟨its,r,⟨o,n,e,_,_,d⟩,_⟩:=I.list h;obtain⟨its',r',⟨o',n',e',_,_,d'⟩,_⟩:=I.list h';rw[e] at e';cases e';rw[d] at d';injection d' with d1 _;have:its=its':=by simpa using congrArg Array.toList d1
 subst this;exact r.inj r'
theorem Inv.tuple_inj (I:Inv X pins σ H s) (h:bM X.K H a xs) (h':bM X.K H a ys):xs=ys:=by
 obtain⟨its,r,⟨o,e,_,n,d⟩,_⟩:=I.tuple h;obtain⟨its',r',⟨o',e',_,n',d'⟩,_⟩:=I.tuple h';rw[e] at e';cases e';rw[d] at d';injection d' with d1 _;have:its=its':=by simpa using congrArg Array.toList d1
 subst this;exact r.inj r'
end
abbrev Cx.wish (X:Cx) (E:Value->Shared->Prop):Cx:={ X with xe:=E }
abbrev Cx.nox (X:Cx):Cx:=X.wish λ _ _=>False
theorem Cx.Ok.wish {X:Cx} (ok:X.Ok) (E:Value->Shared->Prop):(X.wish E).Ok:=
 ⟨ok.mod,ok.kind,ok.glob,ok.blt,ok.above,ok.inj,ok.has,ok.cab,ok.hd,ok.frames,ok.stk,ok.exf,ok.bs,ok.bsz,ok.noex,ok.exfs,ok.funs,ok.frf⟩
theorem Cx.Ok.unwish {X:Cx}{E:Value->Shared->Prop} (ok:(X.wish E).Ok):X.Ok:=
 ⟨ok.mod,ok.kind,ok.glob,ok.blt,ok.above,ok.inj,ok.has,ok.cab,ok.hd,ok.frames,ok.stk,ok.exf,ok.bs,ok.bsz,ok.noex,ok.exfs,ok.funs,ok.frf⟩
section
variable {X:Cx}{pins:List (Addr×Obj)}{σ:St}{H:Hp}{s:Shared}{E:Value->Shared->Prop}
theorem Inv.wish (I:Inv X pins σ H s) (E:Value->Shared->Prop):Inv (X.wish E) pins σ H s:=⟨I.ok.wish E,I.os,I.bare,I.base,I.loc,I.cell,I.free,I.freeC,I.pin,I.hok,I.len⟩
theorem Inv.unwish (I:Inv (X.wish E) pins σ H s):Inv X pins σ H s:=⟨I.ok.unwish,I.os,I.bare,I.base,I.loc,I.cell,I.free,I.freeC,I.pin,I.hok,I.len⟩
theorem SP.unwish {D:Ends}{f:Flow}{s':Shared} (h:SP (X.wish E) pins D f s'):SP X pins D f s':=by
 cases f with
 | next=>obtain⟨ad,H',I,q⟩:=h;exact⟨ad,H',I.unwish,q⟩
 | brk=>obtain⟨ad,H',I,q⟩:=h;exact⟨ad,H',I.unwish,q⟩
 | cont=>obtain⟨ad,H',I,q⟩:=h;exact⟨ad,H',I.unwish,q⟩
 | ret u=>obtain⟨v,ad,H',I,r,q⟩:=h;exact⟨v,ad,H',I.unwish,r,q⟩
theorem w9.nox {st:List Stmt}{t:TS} (h:w9 X.nox st t):w9 X st t:=λ pins s σ H D I hw=>
 abp (h pins s σ H D (I.wish _) hw) (λ _ _ q=>q.unwish) λ _ _ z=>False.elim z
end
section
variable {X:Cx}{st:Stmt}{rest:List Stmt}{t u:TS}{e:Expr}{te:TE}{pos:Pos}
def EI:TS:=λ D σ H=>D.nx σ H
def iA (t u:TS):TS:=λ D σ H=>t { D with nx:=u D } σ H
theorem bV:w9 X [] EI:=λ _ _ σ H _ I h=>wpAny_execs_nil ⟨σ,H,I,h⟩
theorem aD (h1:PS X st t) (h2:w9 X rest u):w9 X (st::rest) (iA t u):=by
 intro pins s σ H D I h;refine wpAny_execs_cons (cY (h1 pins s σ H { D with nx:=u D } I h) λ f s1 q=>?_);cases f with
 | next=>
  obtain⟨ad,H',I',q⟩:=q;exact h2 pins s1 ad H' D I' q
 | ret v=>exact q
 | brk=>exact q
 | cont=>exact q
theorem aL (h1:PS X st t):w9 X [st] t:=by
 intro pins s σ H D I h;refine wpAny_execs_cons (cY (h1 pins s σ H D I h) λ f s1 q=>?_);cases f with
 | next=>exact wpAny_execs_nil q
 | ret v=>exact q
 | brk=>exact q
 | cont=>exact q
theorem Inv.quiet {pins:List (Addr×Obj)}{σ:St}{H:Hp}{s:Shared} (I:Inv X pins σ H s):interactive X.env=false:=by simp [interactive,I.ok.kind]
def HU (te:TE):TS:=λ D σ H=>te σ H λ _ H1=>D.nx σ H1
theorem d0 (he:PE X e te) (hs:swapsWith e none pos.line X.env=pure false:=by rfl):PS X (.Expr e pos) (HU te):=by
 intro pins s σ H D I h;exact wpAny_Expr_any (cY (he pins s σ H _ I h) λ v s1 ⟨x,H1,I1,r1,q1⟩=>⟨σ,H1,I1,q1⟩) I.quiet hs
def FN (te:TE):TS:=λ D σ H=>te σ H D.rt
theorem bF (he:PE X e te):PS X (.Return (some e) pos) (FN te):=by
 intro pins s σ H D I h;exact wpAny_Return_some (cY (he pins s σ H _ I h) λ v s1 ⟨x,H1,I1,r1,q1⟩=>⟨x,σ,H1,I1,r1,q1⟩)
def A1 (c:TT) (t u:TS):TS:=λ D σ H=>c σ H λ b H1=>if b=true then t D σ H1 else u D σ H1
theorem dL {c:Expr}{a b:List Stmt}{tc:TT} (hc:PT X c tc) (ha:w9 X a t) (hb:w9 X b u):PS X (.If c a b pos) (A1 tc t u):=by
 intro pins s σ H D I h;refine wpAny_If (cY (hc pins s σ H _ I h) λ d s1 ⟨H1,I1,q1⟩=>?_);cases d with
 | true=>exact ha pins s1 σ H1 D I1 q1
 | false=>exact hb pins s1 σ H1 D I1 q1
end
abbrev TG:=V->St->Hp->(St->Hp->Prop)->Prop
abbrev CQ:=List V->St->Hp->(St->Hp->Prop)->Prop
def PG (X:Cx) (target:Expr) (t:TG):Prop:=
 ∀ (pins:List (Addr×Obj)) (s:Shared) (σ:St) (H:Hp) (v:V) (u:Value) (Q:St->Hp->Prop),Inv X pins σ H s->bG v u->t v σ H Q->
  wpAny (model X.prog X.w) X.A (assign target X.env u) (λ _ s'=>∃ ad H',Inv X pins ad H' s'/\Q ad H') X.xe s
def GZ (X:Cx) (ts:List Expr) (t:CQ):Prop:=
 ∀ (pins:List (Addr×Obj)) (s:Shared) (σ:St) (H:Hp) (vs:List V) (us:List Value) (Q:St->Hp->Prop),Inv X pins σ H s->bI vs us->t vs σ H Q->
  wpAny (model X.prog X.w) X.A (assignInOrder ((assignEach ts X.env).map (·.2)) us) (λ _ s'=>∃ ad H',Inv X pins ad H' s'/\Q ad H') X.xe s
abbrev CP:=V->V->V->Hp->(Hp->Prop)->Prop
def GY (X:Cx) (t:CP):Prop:=
 ∀ (pins:List (Addr×Obj)) (s:Shared) (σ:St) (H:Hp) (o i v:V) (ov iv u:Value) (Q:Hp->Prop),Inv X pins σ H s->bG o ov->bG i iv->bG v u->t o i v H Q->
  wpAny (model X.prog X.w) X.A (setItem ov iv u) (λ _ s'=>∃ H',Inv X pins σ H' s'/\Q H') X.xe s
abbrev HJ:=V->V->Hp->VK->Prop
def PIp (X:Cx) (op:Operator) (t:HJ):Prop:=
 ∀ (pins:List (Addr×Obj)) (s:Shared) (σ:St) (H:Hp) (x y:V) (v u:Value) (Q:VK),Inv X pins σ H s->bG x v->bG y u->t x y H Q->
  wpAny (model X.prog X.w) X.A (inplaceOp op v u) (EP X pins σ Q) X.xe s
section
variable {X:Cx}{pos:Pos}
def dU (i:Nat):TG:=λ v σ H Q=>Q (σ.set i (some v)) H
theorem aF {i:Nat}{x:Str} (hN:X.N.Nodup) (hi:X.N[i]? = some x) (hx:JH X.env.scope x) (hf:X.fn x=true\/X.env.scope.names.lookup x=some .local:=by first | exact .inl rfl | exact .inr rfl | assumption):PG X (.Name x pos) (dU i):=by
 intro pins s σ H v u Q I r h;exact wpAny_assign_Name (kD I hN hi hx r (λ s' I'=>⟨_,H,I',h⟩) hf)
def J1:CQ:=λ vs σ H Q=>vs=[]/\Q σ H
def BT (t:TG) (u:CQ):CQ:=λ vs σ H Q=>∃ v r,vs=v::r/\t v σ H λ ad H'=>u r ad H' Q
theorem bB:GZ X [] J1:=by
 intro pins s σ H vs us Q I r h;obtain⟨e,h⟩:=h;subst e;cases r;exact assignInOrder_nil ⟨σ,H,I,h⟩
theorem aH {e:Expr}{es:List Expr}{t:TG}{u:CQ} (h1:PG X e t) (h2:GZ X es u)
  (hs:(assignEach (e::es) X.env).map (·.2)=assign e X.env::(assignEach es X.env).map (·.2):=by rfl):GZ X (e::es) (BT t u):=by
 intro pins s σ H vs us Q I r h;obtain⟨v,vr,e1,h⟩:=h;subst e1;cases r with
 | cons r rr=>
  rw[hs];refine assignInOrder_cons (cY (h1 pins s σ H _ _ _ I r h) λ _ s1 ⟨σ1,H1,I1,q1⟩=>?_);exact h2 pins s1 σ1 H1 _ _ Q I1 rr q1
def GQ (K:aab) (n:Nat) (t:CQ):TG:=λ v σ H Q=>∃ a xs,v=.ref a/\bM K H a xs/\xs.length=n/\t xs σ H Q
theorem G5 {es:List Expr}{k:Nat}{t:CQ}{n:Nat} (hc:X.calm=true) (h:GZ X es t)
  (hn:(assignEach es X.env).length=n:=by rfl) (hst:(assignEach es X.env).findIdx? (·.1)=none:=by rfl):PG X (.Tuple es k pos) (GQ X.K n t):=by
 intro pins s σ H v u Q I r hw;obtain⟨a,xs,e1,hq,hl,hw⟩:=hw;subst e1;cases r;obtain⟨its,rv,ht,hz⟩:=I.tuple hq;refine assign_Tuple_tuple (I.ok.hd hc) ht (by simp [hn,<- hl,rv.length]) hst λ h' hx=>?_;have I1:Inv X pins σ H { s with heap:=h' }:=I.kept (t':=s.toks) λ b o e=>hx b o (aar (aak e)) e;exact h pins _ σ H xs _ Q I1 (by simpa using rv) hw
def BS (to ti:TE) (t:CP):TG:=λ v σ H Q=>to σ H λ o H1=>ti σ H1 λ i H2=>t o i v H2 λ H3=>Q σ H3
theorem lQ {o i:Expr}{to ti:TE}{t:CP} (ho:PE X o to) (hi:PE X i ti) (hs:GY X t)
  (ha:∀ v,assign (.Subscript o i pos) X.env v=(do
   let ov <- holding [v] (eval o X.env);let iv <- holding [v,ov] (eval i X.env)
   standAt pos
   holding [v,ov,iv] (setItem ov iv v)
   release [v,ov,iv] []):=by intro _;rfl):PG X (.Subscript o i pos) (BS to ti t):=by
 intro pins s σ H v u Q I r h;rw[ha];refine aaa (abf (cY (ho pins s σ H _ I h) λ ov s1 ⟨x,H1,I1,r1,q1⟩=>?_));refine aaa (abf (cY (hi pins s1 σ H1 _ I1 q1) λ iv s2 ⟨y,H2,I2,r2,q2⟩=>?_));refine aaa (wpAny_standAt (aaa (abf (cY (hs pins s2 σ H2 x y v ov iv u _ I2 r1 r2 r q2) λ _ s3 ⟨H3,I3,q3⟩=>?_))));exact wpAny_release ⟨σ,H3,I3,q3⟩
def iB (te:TE) (g:TG):TS:=λ D σ H=>te σ H λ x H1=>g x σ H1 D.nx
theorem cF {tg e:Expr}{te:TE}{g:TG} (he:PE X e te) (hg:PG X tg g) (hs:swapsWithSole [tg] e pos.line X.env=pure false:=by rfl) (hw:swappedStores [tg] e X.env=pure none:=by rfl)
  (h1:(assignEach [tg] X.env).map (·.2)=[assign tg X.env]:=by rfl):PS X (.Assign [tg] e pos) (iB te g):=by
 intro pins s σ H D I h;refine wpAny_Assign_stores (cY (he pins s σ H _ I h) λ v s1 ⟨x,H1,I1,r1,q1⟩=>?_) hs hw;rw[h1];exact cY (hg pins s1 σ H1 x v _ I1 r1 q1) λ _ s2 q=>q
theorem aR {i:Nat}{x:Str}{e:Expr}{te:TE}{pos':Pos} (hN:X.N.Nodup) (hi:X.N[i]? = some x) (hx:JH X.env.scope x) (he:PE X e te) (hs:swapsWith e (some (.Name x pos')) pos.line X.env=pure false:=by rfl) (hf:X.fn x=true\/X.env.scope.names.lookup x=some .local:=by first | exact .inl rfl | exact .inr rfl | assumption) :
  PS X (.Assign [.Name x pos'] e pos) (iB te (dU i)):=by
 intro pins s σ H D I h;refine wpAny_Assign_Name (cY (he pins s σ H _ I h) λ v s1 ⟨y,H1,I1,r1,q1⟩=>?_) hs;exact kD I1 hN hi hx r1 (λ s2 I2=>⟨_,H1,I2,q1⟩) hf
def tAug (i:Nat) (te:TE) (ti:HJ):TS:=λ D σ H=>∃ x,σ[i]? = some (some x)/\te σ H λ y H1=>ti x y H1 λ z H2=>D.nx (σ.set i (some z)) H2
theorem AI {i:Nat}{x:Str}{e:Expr}{te:TE}{op:Operator}{ti:HJ}{pos':Pos} (hN:X.N.Nodup) (hi:X.N[i]? = some x) (hx:JH X.env.scope x) (he:PE X e te) (ho:PIp X op ti) (hf:X.fn x=true\/X.env.scope.names.lookup x=some .local:=by first | exact .inl rfl | exact .inr rfl | assumption) :
  PS X (.AugAssign (.Name x pos') op e pos) (tAug i te ti):=by
 intro pins s σ H D I h;obtain⟨v,e1,h⟩:=h;obtain⟨m,hn,hl⟩:=I.loc;have vis:Vis X.env.scope x:=by rcases hx with k | k;exact .inl k;exact .inr (.inl k)
 obtain⟨u,r,l⟩:=hl i x v hi e1 vis;refine wpAny_AugAssign_Name ?_;have go:wpAny (model X.prog X.w) X.A (eval e X.env) (λ w cn=>wpAny (model X.prog X.w) X.A (inplaceOp op u w) (λ r cb=>wpAny (model X.prog X.w) X.A (storeName X.env x r) (λ _=>SP X pins D .next) X.xe cb) X.xe cn) X.xe s:=by
  refine cY (he pins s σ H _ I h) λ w s1 ⟨y,H1,I1,r1,q1⟩=>?_;refine cY (ho pins s1 σ H1 v y u w _ I1 r r1 q1) λ z s2 ⟨zv,H2,I2,r2,q2⟩=>?_;exact kD I2 hN hi hx r2 (λ s3 I3=>⟨_,H2,I3,q2⟩) hf
 rcases l with ⟨hk,hm⟩ | ⟨hk,c,hc,hcell⟩
 ·exact wpAny_loadName_local I.ok.kind hk hn hm go
 ·rcases hk with hk | hk
  ·exact wpAny_loadName_cell I.ok.kind hk hc hcell go
  ·rcases hx with k | k
   ·have:X.env.scope.names.lookup x=some .free:=hk;rw[k] at this;cases this
   ·have:X.env.scope.names.lookup x=some .free:=hk;rw[k] at this;cases this
def HV (to ti te:TE) (tget:V->V->Hp->VK->Prop) (tip:HJ) (tset:CP):TS:=λ D σ H=>to σ H λ o H1=>ti σ H1 λ i H2=>tget o i H2 λ x H3=>te σ H3 λ y H4=>tip x y H4 λ z H5=>tset o i z H5 λ H6=>D.nx σ H6
def HA (X:Cx) (t:V->V->Hp->VK->Prop):Prop:=
 ∀ (pins:List (Addr×Obj)) (s:Shared) (σ:St) (H:Hp) (o i:V) (ov iv:Value) (Q:VK),Inv X pins σ H s->bG o ov->bG i iv->t o i H Q->
  wpAny (model X.prog X.w) X.A (getItem ov iv) (EP X pins σ Q) X.xe s
theorem DF {o i e:Expr}{to ti te:TE}{tget:V->V->Hp->VK->Prop}{tip:HJ}{tset:CP}{op:Operator}{tpos:Pos} (ho:PE X o to) (hi:PE X i ti) (hg:HA X tget) (he:PE X e te) (hp:PIp X op tip) (hs:GY X tset)
  (ha:∀ ov iv new,augStore i ov iv new=(do holding [new,ov,iv] (setItem ov iv new);release [new,ov,iv] [];pure .next):=by intros;rfl):PS X (.AugAssign (.Subscript o i tpos) op e pos) (HV to ti te tget tip tset):=by
 intro pins s σ H D I h;refine wpAny_AugAssign_SubscriptAny (cY (ho pins s σ H _ I h) λ ov s1 ⟨x1,H1,I1,r1,q1⟩=>?_) ha;refine cY (hi pins s1 σ H1 _ I1 q1) λ iv s2 ⟨x2,H2,I2,r2,q2⟩=>?_;refine cY (hg pins s2 σ H2 x1 x2 ov iv _ I2 r1 r2 q2) λ old s3 ⟨x3,H3,I3,r3,q3⟩=>?_;refine cY (he pins s3 σ H3 _ I3 q3) λ v s4 ⟨x4,H4,I4,r4,q4⟩=>?_;refine cY (hp pins s4 σ H4 x3 x4 old v _ I4 r3 r4 q4) λ new s5 ⟨x5,H5,I5,r5,q5⟩=>?_;exact cY (hs pins s5 σ H5 x1 x2 x5 ov iv new _ I5 r1 r2 r5 q5) λ _ s6 ⟨H6,I6,q6⟩=>⟨σ,H6,I6,q6⟩
def ipI (f:Int->Int->Int):HJ:=λ x y H Q=>∃ i j,x=.int i/\y=.int j/\Q (.int (f i j)) H
theorem BH:PIp X .Add (ipI λ i j=>i+j):=by
 intro pins s σ H x y v u Q I r1 r2 h;obtain⟨i,j,e1,e2,q⟩:=h;subst e1;subst e2;obtain⟨t,rfl⟩:=r1;obtain⟨t',rfl⟩:=r2;exact iadd_int ⟨.int _,H,I.tok _,⟨_,rfl⟩,q⟩
theorem GN:PIp X .Sub (ipI λ i j=>i - j):=by
 intro pins s σ H x y v u Q I r1 r2 h;obtain⟨i,j,e1,e2,q⟩:=h;subst e1;subst e2;obtain⟨t,rfl⟩:=r1;obtain⟨t',rfl⟩:=r2;exact isub_int ⟨.int _,H,I.tok _,⟨_,rfl⟩,q⟩
end
structure It where
 go:Nat->Hp->Prop
 yld:Nat->Hp->V->Hp->Prop
 stop:Nat->Hp->Prop
def g9 (X:Cx) (pins:List (Addr×Obj)) (H:Hp) (b:Addr):Prop:=
 H b=none/\b≠X.env.locals/\b∉X.fs/\(b∈X.ex\/X.s₀.heap.objs.size<=b)/\(∀ x c,X.env.cells.lookup x=some c->c≠b)/\∀ p∈X.pn++pins,p.1≠b
theorem Inv.fpOk {X:Cx}{pins:List (Addr×Obj)}{σ:St}{H H':Hp}{s:Shared}{b:Addr} (I:Inv X pins σ H s) (hb:s.heap.objs.size<=b) (hn:H' b=none):g9 X pins H' b:=by
 refine⟨hn,Nat.ne_of_gt (aan I.lt hb),I.nofs hb,.inr (acb I.sz hb),λ x c e z=>?_,λ p hp z=>?_⟩
 ·obtain⟨v,q⟩:=I.cell x c e;exact absurd (aan q.lt (by rw[z];exact hb)) (aca _)
 ·exact absurd (aan (aak (I.pin p hp).1) (by rw[z];exact hb)) (aca _)
structure Turn (P:Program) (w:World) (K:aab) (tg:Expr) (J:It) (fp:List Addr) (it:Addr) (tn:Nat->Heap->Prop):Prop where
 mem:it∈fp
 obj:∀ i h,tn i h->∀ b∈fp,∃ o,h.get? b=some o/\∀ v,o.data≠.cell v
 keep:∀ i h h',tn i h->(∀ b∈fp,∀ o,h.get? b=some o->h'.get? b=some o)->tn i h'
 item:∀ (X:Cx),X.prog=P->X.w=w->X.K=K->X.calm=true->∀ (i:Nat) (pins:List (Addr×Obj)) (s:Shared) (σ:St) (H:Hp) (E:Value->Shared->Prop),Inv X pins σ H s->(∀ b∈fp,g9 X pins H b)->tn i s.heap->J.go i H->
  wpAny (model P w) X.A (pyNext (.ref it)) (λ r s1=>∃ u,r=some u/\
   wpAny (model P w) X.A (letOwnedTupleGo tg (.ref it) u) (λ _ s2=>∃ x H',Inv X pins σ H' s2/\bG x u/\J.yld i H x H'/\tn (i+1) s2.heap/\∀ b∈fp,H' b=none) E s1) E s
 done:∀ (X:Cx),X.prog=P->X.w=w->X.K=K->X.calm=true->∀ (i:Nat) (pins:List (Addr×Obj)) (s:Shared) (σ:St) (H:Hp) (E:Value->Shared->Prop),Inv X pins σ H s->(∀ b∈fp,g9 X pins H b)->tn i s.heap->J.stop i H->
  wpAny (model P w) X.A (pyNext (.ref it)) (λ r s1=>r=none/\Inv X pins σ H s1) E s
 self:∀ (A:Around) (i:Nat) (s:Shared) (Q:Value->Shared->Prop) (E:Value->Shared->Prop),tn i s.heap->Q (.ref it) s->wpAny (model P w) A (pyIter (.ref it)) Q E s
abbrev TI:=St->Hp->(It->Hp->Prop)->Prop
def PIE (X:Cx) (pins:List (Addr×Obj)) (σ:St) (tg:Expr) (R:It->Hp->Prop) (itv:Value) (s2:Shared):Prop:=
 ∃ (it:Addr) (fp:List Addr) (tn:Nat->Heap->Prop) (J:It) (H':Hp),itv=.ref it/\Inv X pins σ H' s2/\Turn X.prog X.w X.K tg J fp it tn/\tn 0 s2.heap/\(∀ b∈fp,g9 X pins H' b)/\R J H'
def PI (X:Cx) (tg iter:Expr) (wi:TI):Prop:=
 ∀ (pins:List (Addr×Obj)) (s:Shared) (σ:St) (H:Hp) (R:It->Hp->Prop),Inv X pins σ H s->wi σ H R->
  wpAny (model X.prog X.w) X.A (eval iter X.env) (λ v s1=>wpAny (model X.prog X.w) X.A (pyIter v) (PIE X pins σ tg R) X.xe s1) X.xe s
theorem BN {M:Model}{A:Around}{E:Value->Shared->Prop}{s:Shared}{tg:Expr}{it:Addr}{u:Value}{o:Obj}{n:String}{vs:Array Value}{Q:Unit->Shared->Prop} (ho:s.heap.get? it=some o) (hc:o.cls=.type n) (hd:o.data=.fields vs)
  (hn:["enumerate","zip","dict_itemiterator","dict_reverseitemiterator","odict_iterator","itertools.zip_longest","itertools.pairwise"].contains n=false) (hQ:Q () s):wpAny M A (letOwnedTupleGo tg (.ref it) u) Q E s:=by
 unfold letOwnedTupleGo;cases tg <;> first
  | exact aae hQ
  | (cases u <;> first
    | exact aae hQ
    | (refine aaa (wpAny_load ho ?_)
       rw[hc,hd];show wpAny M A (if (["enumerate","zip","dict_itemiterator","dict_reverseitemiterator","odict_iterator","itertools.zip_longest","itertools.pairwise"].contains n && vs[0]? == some (rawInt _))=true then _ else _) Q E s;rw[if_neg (by intro h;rw[hn,Bool.false_and] at h;cases h)];exact aae hQ))
def HM (K:aab) (a:Addr):It:=
 ⟨λ i H=>∃ xs x,bN K H a xs/\xs[i]? = some x,λ i H x H'=>H'=H/\∀ xs,bN K H a xs->xs[i]? = some x,λ i H=>∃ xs,bN K H a xs/\xs.length<=i⟩
def HL (K:aab) (a:Addr):It:=
 ⟨λ i H=>∃ xs x,bM K H a xs/\xs[i]? = some x,λ i H x H'=>H'=H/\∀ xs,bM K H a xs->xs[i]? = some x,λ i H=>∃ xs,bM K H a xs/\xs.length<=i⟩
def HD (lo:Int) (n:Nat):It:=⟨λ i _=>i < n,λ i H x H'=>H'=H/\x=.int (lo+i),λ i _=>n<=i⟩
theorem y4 {P:Program}{w:World}{K:aab}{tg:Expr} (a it:Addr):Turn P w K tg (HM K a) [it] it (λ i h=>h.IsListIter it a i) where
 mem:=by simp
 obj:=λ i h st b hb=>by
  have e:b=it:=by simpa using hb
  subst e;obtain⟨o,e,c,d⟩:=st;exact⟨o,e,λ v z=>by rw[d] at z;cases z⟩
 keep:=λ i h h' st k=>st.at λ o e=>k it (by simp) o e
 item:=by
  intro X hP hw hK hc i pins s σ H E I hf st hg;subst hP hw hK;obtain⟨xs,x,hq,hx⟩:=hg;obtain⟨its,rv,p,hz⟩:=I.list hq;obtain⟨u,hu,ru⟩:=rv.get hx;obtain⟨f0,f1,f2,f3,f4,f5⟩:=hf it (by simp);refine wpAny_pyNext_list_item st p.isList (x:=u) (by simpa using hu) λ h' st' sb=>?_;have I1:Inv X pins σ H { s with heap:=h' }:=I.turned (t':=s.toks) (λ b o hb e=>(sb.2 b hb).trans e) f0 f1 f3 f4 f5;obtain⟨o,e,c,d⟩:=id st';exact⟨u,rfl,BN (s:={ s with heap:=h' }) e c d (by decide) ⟨x,H,I1,ru,⟨rfl,λ ys hy=>by rw[I.list_inj hy hq];exact hx⟩,st',λ b hb=>(hf b hb).1⟩⟩
 done:=by
  intro X hP hw hK hc i pins s σ H E I hf st hg;subst hP hw hK;obtain⟨xs,hq,hx⟩:=hg;obtain⟨its,rv,p,hz⟩:=I.list hq;obtain⟨f0,f1,f2,f3,f4,f5⟩:=hf it (by simp);have hl:=rv.length;exact wpAny_pyNext_list_end (I.ok.hd hc) st p.isList (by simp;omega) λ h' eb=>⟨rfl,I.turned (t':=s.toks) (λ b o hb e=>eb b o hb e) f0 f1 f3 f4 f5⟩
 self:=λ _ _ _ _ _ st h=>wpAny_pyIter_listiter st h
theorem uI {P:Program}{w:World}{K:aab}{tg:Expr} (a it:Addr):Turn P w K tg (HL K a) [it] it (λ i h=>h.IsTupleIter it a i) where
 mem:=by simp
 obj:=λ i h st b hb=>by
  have e:b=it:=by simpa using hb
  subst e;obtain⟨o,e,c,d⟩:=st;exact⟨o,e,λ v z=>by rw[d] at z;cases z⟩
 keep:=λ i h h' st k=>st.at λ o e=>k it (by simp) o e
 item:=by
  intro X hP hw hK hc i pins s σ H E I hf st hg;subst hP hw hK;obtain⟨xs,x,hq,hx⟩:=hg;obtain⟨its,rv,p,hz⟩:=I.tuple hq;obtain⟨u,hu,ru⟩:=rv.get hx;obtain⟨f0,f1,f2,f3,f4,f5⟩:=hf it (by simp);refine wpAny_pyNext_tuple_item st (show s.heap.IsTuple a its.toArray from p) (x:=u) (by simpa using hu) λ h' st' sb=>?_;have I1:Inv X pins σ H { s with heap:=h' }:=I.turned (t':=s.toks) (λ b o hb e=>(sb.2 b hb).trans e) f0 f1 f3 f4 f5;obtain⟨o,e,c,d⟩:=id st';exact⟨u,rfl,BN (s:={ s with heap:=h' }) e c d (by decide) ⟨x,H,I1,ru,⟨rfl,λ ys hy=>by rw[I.tuple_inj hy hq];exact hx⟩,st',λ b hb=>(hf b hb).1⟩⟩
 done:=by
  intro X hP hw hK hc i pins s σ H E I hf st hg;subst hP hw hK;obtain⟨xs,hq,hx⟩:=hg;obtain⟨its,rv,p,hz⟩:=I.tuple hq;obtain⟨f0,f1,f2,f3,f4,f5⟩:=hf it (by simp);have hl:=rv.length;exact wpAny_pyNext_tuple_end (I.ok.hd hc) st (show s.heap.IsTuple a its.toArray from p) (by simp;omega) λ h' eb=>⟨rfl,I.turned (t':=s.toks) (λ b o hb e=>eb b o hb e) f0 f1 f3 f4 f5⟩
 self:=λ _ _ _ _ _ st h=>wpAny_pyIter_tupleiter st h
theorem uJ {P:Program}{w:World}{K:aab}{tg:Expr} (it:Addr) (lo:Int) (n:Nat):Turn P w K tg (HD lo n) [it] it (λ i h=>IsRangeIter h it (lo+(i:Nat) * 1) ((n:Int) - (i:Nat)) 1) where
 mem:=by simp
 obj:=λ i h st b hb=>by
  have e:b=it:=by simpa using hb
  subst e;exact⟨_,st,λ v z=>by
   have z':Data.fields _=Data.cell v:=z;cases z'⟩
 keep:=λ i h h' st k=>k it (by simp) _ st
 item:=by
  intro X hP hw hK hc i pins s σ H E I hf st hg;subst hP hw hK;obtain⟨f0,f1,f2,f3,f4,f5⟩:=hf it (by simp);have W:=Walks.range (prog:=X.prog) (w:=X.w) (I.ok.hd hc) it lo 1 n;refine W.item i s _ _ hg st λ v h' tk hv st' kk=>?_;obtain⟨t,rfl⟩:=hv;have I1:Inv X pins σ H { s with heap:=h',toks:=tk }:=I.turned (λ b o hb e=>kk b o (by simpa using hb) e) f0 f1 f3 f4 f5;refine⟨_,rfl,BN (s:={ s with heap:=h',toks:=tk }) (n := "range_iterator") st' rfl rfl (by decide) ⟨.int (lo+i),H,I1,⟨t,?_⟩,⟨rfl,rfl⟩,st',λ b hb=>(hf b hb).1⟩⟩;rw[Int.mul_one]
 done:=by
  intro X hP hw hK hc i pins s σ H E I hf st hg;subst hP hw hK;obtain⟨f0,f1,f2,f3,f4,f5⟩:=hf it (by simp);exact wpAny_pyNext_range_end (I.ok.hd hc) st (by have:n<=i:=hg;omega) λ h' eb=>⟨rfl,I.turned (t':=s.toks) (λ b o hb e=>eb b o hb e) f0 f1 f3 f4 f5⟩
 self:=λ _ _ _ _ _ st h=>wpAny_pyIter_rangeiter st h
section
variable {X:Cx}{tg:Expr}
def EZ (K:aab) (tl:TE):TI:=λ σ H R=>tl σ H λ x H1=>∃ a,x=.ref a/\(∃ xs,bN K H1 a xs)/\R (HM K a) H1
def IV (K:aab) (tl:TE):TI:=λ σ H R=>tl σ H λ x H1=>∃ a,x=.ref a/\(∃ xs,bM K H1 a xs)/\R (HL K a) H1
theorem DI {l:Expr}{tl:TE} (hl:PE X l tl):PI X tg l (EZ X.K tl):=by
 intro pins s σ H R I h;refine cY (hl pins s σ H _ I h) λ v s1 ⟨x,H1,I1,r1,q1⟩=>?_;obtain⟨a,e,⟨xs,hq⟩,q⟩:=q1;subst e;cases r1;obtain⟨its,rv,p,hz⟩:=I1.list hq;refine wpAny_pyIter_list p.isList ?_;refine⟨s1.heap.objs.size,[s1.heap.objs.size],_,_,H1,rfl,I1.kept (t':=s1.toks) λ b o e=>aac _ e,y4 a _,⟨_,aag _ rfl,rfl,rfl⟩,λ b hb=>?_,q⟩;have e:b=s1.heap.objs.size:=by simpa using hb
 subst e;exact I1.fpOk (aaj _) (I1.hok.fresh (aaj _))
theorem G4 {l:Expr}{tl:TE} (hl:PE X l tl):PI X tg l (IV X.K tl):=by
 intro pins s σ H R I h;refine cY (hl pins s σ H _ I h) λ v s1 ⟨x,H1,I1,r1,q1⟩=>?_;obtain⟨a,e,⟨xs,hq⟩,q⟩:=q1;subst e;cases r1;obtain⟨its,rv,p,hz⟩:=I1.tuple hq;refine wpAny_pyIter_tuple (show s1.heap.IsTuple a its.toArray from p) ?_;refine⟨s1.heap.objs.size,[s1.heap.objs.size],_,_,H1,rfl,I1.kept (t':=s1.toks) λ b o e=>aac _ e,uI a _,⟨_,aag _ rfl,rfl,rfl⟩,λ b hb=>?_,q⟩;have e:b=s1.heap.objs.size:=by simpa using hb
 subst e;exact I1.fpOk (aaj _) (I1.hok.fresh (aaj _))
theorem AD {pins:List (Addr×Obj)}{σ:St}{H:Hp}{s:Shared}{R:It->Hp->Prop}{E:Value->Shared->Prop}{lo hi:Int}{t u v:Tok}{tk:Nat} (I:Inv X pins σ H s) (h1 : -(2 ^ 62)<=lo) (h2:lo < 2 ^ 62) (h3 : -(2 ^ 62)<=hi) (h4:hi < 2 ^ 62)
  (q:R (HD lo (hi - lo).toNat) H):wpAny (model X.prog X.w) X.A (pyIter (.ref s.heap.objs.size)) (PIE X pins σ tg R) E { s with heap:=s.heap.push { cls:=.type "range",data:=.fields #[.int lo t,.int hi u,.int 1 v] },toks:=tk }:=by
 refine wpAny_pyIter_range (IsRange.new ..) (small_one h1 h2 h3 h4) ?_;have I1:Inv X pins σ H { s with heap:=s.heap.push { cls:=.type "range",data:=.fields #[.int lo t,.int hi u,.int 1 v] },toks:=tk }:=I.kept λ b o e=>aac _ e;refine⟨(s.heap.push { cls:=.type "range",data:=.fields #[.int lo t,.int hi u,.int 1 v] }).objs.size,[(s.heap.push { cls:=.type "range",data:=.fields #[.int lo t,.int hi u,.int 1 v] }).objs.size],_,_,H,rfl,
  I1.kept (t':=tk) λ b o e=>aac _ e,uJ _ lo (hi - lo).toNat,?_,λ b hb=>?_,q⟩
 ·have e1:lo+((0:Nat):Int) * 1=lo:=by simp
  have e2:(((hi - lo).toNat:Nat):Int) - ((0:Nat):Int)=Builtin.Range.rangeSize lo hi 1:=by rw[rangeSize_one];split <;> omega
  show IsRangeIter _ _ (lo+((0:Nat):Int) * 1) ((((hi - lo).toNat:Nat):Int) - ((0:Nat):Int)) 1;rw[e1,e2];exact aag _ rfl
 ·have e:b=(s.heap.push { cls:=.type "range",data:=.fields #[.int lo t,.int hi u,.int 1 v] }).objs.size:=by simpa using hb
  subst e;exact I1.fpOk (aaj _) (I1.hok.fresh (aaj _))
def IW (ta:TA):TI:=λ σ H R=>ta σ H λ vs H1=>∃ j:Int,vs=[.int j]/\-(2 ^ 62)<=j/\j < 2 ^ 62/\R (HD 0 j.toNat) H1
theorem cC {a:Expr}{ta:TA}{p pos:Pos} (hg:Gl X "range") (hm:X.mg "range" = none) (ha:PA X [a] ta) (hs:starEach [a] X.env=[(false,eval a X.env)]:=by rfl):PI X tg (.Call (.Name "range" p) [a] [] pos) (IW ta):=by
 intro pins s σ H R I h;refine Call_ (gY I hg hm boot_range (PyProof.Rows.callWith_type1 (cY (ha pos pins s σ H _ I h) λ us s1 ⟨vs,H1,I1,r1,q1⟩=>?_) hs rfl));obtain⟨j,e,q1,q2,q⟩:=q1;subst e;cases r1 with
 | cons r rr=>
  cases rr;obtain⟨t,rfl⟩:=r;exact call_range_1 (AD I1 (by omega) (by omega) q1 q2 (by simpa using q))
def FP (wi:TI) (g:TG) (tb:TS):TS:=λ D σ H=>wi σ H λ J H1=>∃ W:Nat->Nat->St->Hp->Prop,(∃ m,W 0 m σ H1)/\∀ i m σ H,W i m σ H->
 (J.stop i H/\D.nx σ H)\/(J.go i H/\∃ N:St->Hp->Prop,(∀ ad H',N ad H'->∃ m',m' < m/\W (i+1) m' ad H')/\∀ x H',J.yld i H x H'->g x σ H' λ bf H2=>tb { D with nx:=N,ct:=N,bk:=D.nx } bf H2)
def lO (fp:List Addr) (h:Heap):List (Addr×Obj):=fp.filterMap λ b=>(h.get? b).map λ o=>(b,o)
theorem eG {fp:List Addr}{h:Heap}{b:Addr}{o:Obj} (hb:b∈fp) (e:h.get? b=some o):(b,o)∈lO fp h:=List.mem_filterMap.mpr ⟨b,hb,by rw[e];rfl⟩
theorem yK {fp:List Addr}{h:Heap}{p:Addr×Obj} (hp:p∈lO fp h):p.1∈fp/\h.get? p.1=some p.2:=by
 obtain⟨b,hb,e⟩:=List.mem_filterMap.mp hp;cases q:h.get? b with
 | none=>rw[q] at e;cases e
 | some o=>
  rw[q] at e;have e':(b,o)=p:=abu e;subst e';exact⟨hb,q⟩
theorem Inv.pinned {pins:List (Addr×Obj)}{σ:St}{H:Hp}{s:Shared}{fp:List Addr} (I:Inv X pins σ H s) (hf:∀ b∈fp,g9 X pins H b) (ho:∀ b∈fp,∃ o,s.heap.get? b=some o/\∀ v,o.data≠.cell v):Inv X (pins++lO fp s.heap) σ H s:=
 I.pins_of λ p hp=>(act.mp hp).elim (λ z=>I.pin p (abc _ z)) λ z=>by
  obtain⟨hb,e⟩:=yK z;obtain⟨f0,f1,f2,_⟩:=hf p.1 hb;obtain⟨o,e',d⟩:=ho p.1 hb;rw[e] at e';cases e';exact⟨e,f0,f1,f2,d⟩
theorem Inv.unpinned {pins pl:List (Addr×Obj)}{σ:St}{H:Hp}{s:Shared} (I:Inv X (pins++pl) σ H s):Inv X pins σ H s:=I.pins_of λ p hp=>I.pin p (abc _ (adb _ hp))
theorem dP {iter:Expr}{body:List Stmt}{wi:TI}{g:TG}{tb:TS}{pos:Pos} (hp:PassesOwn (model X.prog X.w) X.A X.env X.xe) (hc:X.calm=true) (hi:PI X tg iter wi) (hg:PG X tg g) (hb:w9 X body tb)
  (hs:∀ x,foldedSetIterable iter X.env x=pure x:=by intro _;rfl):PS X (.For tg iter body [] pos) (FP wi g tb):=by
 intro pins s σ H D I h;refine wpAny_For (cY (hi pins s σ H _ I h) λ v s1 h1=>cY h1 λ itv s2 h2=>?_) hs;obtain⟨it,fp,tn,J,H2,e,I2,T,st2,f2,W,⟨m0,w0⟩,turn⟩:=h2;subst e;have stat:∀ {H':Hp},(∀ b∈fp,H' b=none)->∀ b∈fp,g9 X pins H' b:=λ hn b hb=>⟨hn b hb,(f2 b hb).2⟩;refine codeAny_forLoop_any (λ n s'=>∃ i ad H',Inv X pins ad H' s'/\tn i s'.heap/\(∀ b∈fp,H' b=none)/\W i n ad H') ?_ m0 ⟨0,σ,H2,I2,st2,λ b hb=>(f2 b hb).1,w0⟩;rintro n s3 ⟨i,aq,H3,I3,st3,fr3,w3⟩;rcases turn i n aq H3 w3 with ⟨stop,qn⟩ | ⟨go,N,hN,step⟩
 ·refine wpAny_passesOwn hp (cY (T.done X rfl rfl rfl hc i pins s3 aq H3 X.xe I3 (stat fr3) st3 stop) λ r s4 ⟨hr,I4⟩=>?_);subst hr;exact wpAny_execs_nil ⟨aq,H3,I4,qn⟩
 ·refine wpAny_passesOwn hp (cY (T.item X rfl rfl rfl hc i pins s3 aq H3 X.xe I3 (stat fr3) st3 go) λ r s4 ⟨u,hr,h4⟩=>?_);subst hr;refine wpAny_passesOwn hp (cY h4 λ _ s5 ⟨x,H5,I5,r5,y5,st5,fr5⟩=>?_);have I5':=I5.pinned (stat fr5) (T.obj _ _ st5);refine wpAny_passesOwn hp (cY (hg _ s5 aq H5 x u _ I5' r5 (step x H5 y5)) λ _ s6 ⟨σ6,H6,I6,q6⟩=>?_);refine wpAny_passesOwn hp (cY (hb _ s6 σ6 H6 _ I6 q6) λ f s7 q7=>?_);have again:∀ {cf:St}{H7:Hp},Inv X (pins++lO fp s5.heap) cf H7 s7->N cf H7->∃ m,m < n/\∃ i ad H',Inv X pins ad H' s7/\tn i s7.heap/\(∀ b∈fp,H' b=none)/\W i m ad H':=λ {cf H7} I7 n7=>by
   obtain⟨m',hm,w7⟩:=hN cf H7 n7;refine⟨m',hm,i+1,cf,H7,I7.unpinned,T.keep _ _ _ st5 λ b hb o e=>(I7.pin (b,o) (abc _ (abc _ (eG hb e)))).1,λ b hb=>?_,w7⟩;obtain⟨o,e,d⟩:=T.obj _ _ st5 b hb;exact (I7.pin (b,o) (abc _ (abc _ (eG hb e)))).2.1
  cases f with
  | next=>obtain⟨cf,H7,I7,n7⟩:=q7;exact again I7 n7
  | cont=>obtain⟨cf,H7,I7,n7⟩:=q7;exact again I7 n7
  | brk=>obtain⟨cf,H7,I7,q7⟩:=q7;exact⟨cf,H7,I7.unpinned,q7⟩
  | ret v=>obtain⟨x7,cf,H7,I7,r7,q7⟩:=q7;exact⟨x7,cf,H7,I7.unpinned,r7,q7⟩
end
theorem oS {K:aab}{a:Addr}{xs:List V}{g:TG}{tb:TS}{D:Ends}{σ:St}{H:Hp} (Pv:Nat->St->Hp->Prop) (h0:Pv 0 σ H) (hl:∀ i σ H,i<=xs.length->Pv i σ H->bN K H a xs)
  (hs:∀ i x σ H,xs[i]? = some x->Pv i σ H->g x σ H λ bf H2=>tb { D with nx:=Pv (i+1),ct:=Pv (i+1),bk:=D.nx } bf H2) (hd:∀ σ H,Pv xs.length σ H->D.nx σ H) :
  ∃ W:Nat->Nat->St->Hp->Prop,(∃ m,W 0 m σ H)/\∀ i m σ H,W i m σ H->
   ((HM K a).stop i H/\D.nx σ H)\/((HM K a).go i H/\∃ N:St->Hp->Prop,(∀ ad H',N ad H'->∃ m',m' < m/\W (i+1) m' ad H')/\∀ x H',(HM K a).yld i H x H'->g x σ H' λ bf H2=>tb { D with nx:=N,ct:=N,bk:=D.nx } bf H2):=by
 refine⟨λ i m σ H=>m=xs.length - i/\i<=xs.length/\Pv i σ H,⟨xs.length,by simp,abg _,h0⟩,?_⟩;rintro i m σ H ⟨rfl,hi,p⟩;have q:=hl i σ H hi p
 by_cases hlt:i < xs.length
 ·refine .inr ⟨⟨xs,xs[i],q,by simp [hlt]⟩,Pv (i+1),λ ad H' p'=>⟨xs.length - (i+1),by omega,rfl,hlt,p'⟩,λ x H' y=>?_⟩;obtain⟨e,y⟩:=y;subst e;exact hs i x σ _ (y xs q) p
 ·have e:i=xs.length:=by omega
  subst e;exact .inl ⟨⟨xs,q,aaj _⟩,hd σ H p⟩
theorem rQ {K:aab}{a:Addr}{xs:List V}{g:TG}{tb:TS}{D:Ends}{σ:St}{H:Hp} (Pv:Nat->St->Hp->Prop) (h0:Pv 0 σ H) (hl:∀ i σ H,i<=xs.length->Pv i σ H->bM K H a xs)
  (hs:∀ i x σ H,xs[i]? = some x->Pv i σ H->g x σ H λ bf H2=>tb { D with nx:=Pv (i+1),ct:=Pv (i+1),bk:=D.nx } bf H2) (hd:∀ σ H,Pv xs.length σ H->D.nx σ H) :
  ∃ W:Nat->Nat->St->Hp->Prop,(∃ m,W 0 m σ H)/\∀ i m σ H,W i m σ H->
   ((HL K a).stop i H/\D.nx σ H)\/((HL K a).go i H/\∃ N:St->Hp->Prop,(∀ ad H',N ad H'->∃ m',m' < m/\W (i+1) m' ad H')/\∀ x H',(HL K a).yld i H x H'->g x σ H' λ bf H2=>tb { D with nx:=N,ct:=N,bk:=D.nx } bf H2):=by
 refine⟨λ i m σ H=>m=xs.length - i/\i<=xs.length/\Pv i σ H,⟨xs.length,by simp,abg _,h0⟩,?_⟩;rintro i m σ H ⟨rfl,hi,p⟩;have q:=hl i σ H hi p
 by_cases hlt:i < xs.length
 ·refine .inr ⟨⟨xs,xs[i],q,by simp [hlt]⟩,Pv (i+1),λ ad H' p'=>⟨xs.length - (i+1),by omega,rfl,hlt,p'⟩,λ x H' y=>?_⟩;obtain⟨e,y⟩:=y;subst e;exact hs i x σ _ (y xs q) p
 ·have e:i=xs.length:=by omega
  subst e;exact .inl ⟨⟨xs,q,aaj _⟩,hd σ H p⟩
theorem dW {lo:Int}{n:Nat}{g:TG}{tb:TS}{D:Ends}{σ:St}{H:Hp} (Pv:Nat->St->Hp->Prop) (h0:Pv 0 σ H)
  (hs:∀ i σ H,i < n->Pv i σ H->g (.int (lo+i)) σ H λ bf H2=>tb { D with nx:=Pv (i+1),ct:=Pv (i+1),bk:=D.nx } bf H2) (hd:∀ σ H,Pv n σ H->D.nx σ H) :
  ∃ W:Nat->Nat->St->Hp->Prop,(∃ m,W 0 m σ H)/\∀ i m σ H,W i m σ H->
   ((HD lo n).stop i H/\D.nx σ H)\/((HD lo n).go i H/\∃ N:St->Hp->Prop,(∀ ad H',N ad H'->∃ m',m' < m/\W (i+1) m' ad H')/\∀ x H',(HD lo n).yld i H x H'->g x σ H' λ bf H2=>tb { D with nx:=N,ct:=N,bk:=D.nx } bf H2):=by
 refine⟨λ i m σ H=>m=n - i/\i<=n/\Pv i σ H,⟨n,by simp,abg _,h0⟩,?_⟩;rintro i m σ H ⟨rfl,hi,p⟩
 by_cases hlt:i < n
 ·refine .inr ⟨hlt,Pv (i+1),λ ad H' p'=>⟨n - (i+1),by omega,rfl,hlt,p'⟩,λ x H' y=>?_⟩;obtain⟨e,y⟩:=y;subst e y;exact hs i σ _ hlt p
 ·have e:i=n:=by omega
  subst e;exact .inl ⟨aaj _,hd σ H p⟩
abbrev R2:=V->V->Hp->VK->Prop
def hJ (X:Cx) (f:Value->Value->Sem Value) (r:R2):Prop:=
 ∀ (pins:List (Addr×Obj)) (s:Shared) (σ:St) (H:Hp) (x y:V) (v u:Value) (Q:VK),Inv X pins σ H s->bG x v->bG y u->r x y H Q->
  wpAny (model X.prog X.w) X.A (f v u) (EP X pins σ Q) X.xe s
def UnR (X:Cx) (f:Value->Sem Value) (r:V->Hp->VK->Prop):Prop:=
 ∀ (pins:List (Addr×Obj)) (s:Shared) (σ:St) (H:Hp) (x:V) (v:Value) (Q:VK),Inv X pins σ H s->bG x v->r x H Q->
  wpAny (model X.prog X.w) X.A (f v) (EP X pins σ Q) X.xe s
def dY (X:Cx) (f:Value) (r:List V->Hp->VK->Prop):Prop:=
 ∀ (pins:List (Addr×Obj)) (s:Shared) (σ:St) (H:Hp) (xs:List V) (us:List Value) (Q:VK),Inv X pins σ H s->bI xs us->r xs H Q->
  wpAny (model X.prog X.w) X.A (call f us) (EP X pins σ Q) X.xe s
def gN (r:R2) (ta tb:TE):TE:=λ σ H Q=>ta σ H λ x H1=>tb σ H1 λ y H2=>r x y H2 Q
def tUn (r:V->Hp->VK->Prop) (ta:TE):TE:=λ σ H Q=>ta σ H λ x H1=>r x H1 Q
def rI (C:Int->Int->Prop) (g:Int->Int->V):R2:=λ x y H Q=>∃ i j,x=.int i/\y=.int j/\C i j/\Q (g i j) H
def qY (g:Int->Int->V):R2:=λ x y H Q=>∃ i j,x=.int i/\y=.int j/\Q (g i j) H
def rU (g:Int->V):V->Hp->VK->Prop:=λ x H Q=>∃ i,x=.int i/\Q (g i) H
section
variable {X:Cx}{a b c:Expr}{ta tb tc:TE}{pos:Pos}
theorem GX (ha:PE X a ta) (hb:PE X b tb) {pins:List (Addr×Obj)}{s:Shared}{σ:St}{H:Hp}{R:V->V->Hp->Prop} (I:Inv X pins σ H s)
  (h:ta σ H λ x H1=>tb σ H1 λ y H2=>R x y H2) {Q:Value->Shared->Prop}{f:Value->Value->Sem Value}
  (hf:∀ v u s2 x y H2,Inv X pins σ H2 s2->bG x v->bG y u->R x y H2->wpAny (model X.prog X.w) X.A (f v u) Q X.xe s2) :
  wpAny (model X.prog X.w) X.A (eval a X.env) (λ v aj=>wpAny (model X.prog X.w) X.A (eval b X.env) (λ u cn=>wpAny (model X.prog X.w) X.A (f v u) Q X.xe cn) X.xe aj) X.xe s:=by
 refine cY (ha pins s σ H _ I h) λ v s1 ⟨x,H1,I1,r1,q1⟩=>?_;refine cY (hb pins s1 σ H1 _ I1 q1) λ u s2 ⟨y,H2,I2,r2,q2⟩=>?_;exact hf v u s2 x y H2 I2 r1 r2 q2
theorem aT {op:Operator}{r:R2} (ho:hJ X (binaryOp op) r) (ha:PE X a ta) (hb:PE X b tb):PE X (.BinOp a op b pos) (gN r ta tb):=by
 intro pins s σ H Q I h;exact wpAny_BinOp (GX ha hb I h λ v u s2 x y H2 I2 rx ry q=>ho pins s2 σ H2 x y v u Q I2 rx ry q)
theorem ER {op:UnaryOp}{r:V->Hp->VK->Prop} (ho:UnR X (unaryOp op) r) (ha:PE X a ta):PE X (.UnaryOp op a pos) (tUn r ta):=by
 intro pins s σ H Q I h;exact UnaryOp_ (cY (ha pins s σ H _ I h) λ v s1 ⟨x,H1,I1,r1,q1⟩=>ho pins s1 σ H1 x v Q I1 r1 q1)
theorem IO {f:Value->Value->Sem Value}{C:Int->Int->Prop}{g:Int->Int->Int}
  (rule:∀ (i j:Int) (t u:Tok) (s:Shared) (Q:Value->Shared->Prop) (E:Value->Shared->Prop),C i j->Q (.int (g i j) s.toks) { s with toks:=s.toks+1 }->wpAny (model X.prog X.w) X.A (f (.int i t) (.int j u)) Q E s) :
  hJ X f (rI C λ i j=>.int (g i j)):=by
 intro pins s σ H x y v u Q I rx ry h;obtain⟨i,j,rfl,rfl,hc,q⟩:=h;obtain⟨t,rfl⟩:=rx;obtain⟨t',rfl⟩:=ry;exact rule i j t t' s _ _ hc ⟨.int (g i j),H,I.tok _,⟨_,rfl⟩,q⟩
theorem IN {f:Value->Value->Sem Value}{g:Int->Int->Int}
  (rule:∀ (i j:Int) (t u:Tok) (s:Shared) (Q:Value->Shared->Prop) (E:Value->Shared->Prop),Q (.int (g i j) s.toks) { s with toks:=s.toks+1 }->wpAny (model X.prog X.w) X.A (f (.int i t) (.int j u)) Q E s) :
  hJ X f (qY λ i j=>.int (g i j)):=by
 intro pins s σ H x y v u Q I rx ry h;obtain⟨i,j,rfl,rfl,q⟩:=h;obtain⟨t,rfl⟩:=rx;obtain⟨t',rfl⟩:=ry;exact rule i j t t' s _ _ ⟨.int (g i j),H,I.tok _,⟨_,rfl⟩,q⟩
theorem DO {f:Value->Value->Sem Value}{g:Int->Int->Bool}
  (rule:∀ (i j:Int) (t u:Tok) (s:Shared) (Q:Value->Shared->Prop) (E:Value->Shared->Prop),Q (.bool (g i j)) s->wpAny (model X.prog X.w) X.A (f (.int i t) (.int j u)) Q E s) :
  hJ X f (qY λ i j=>.bl (g i j)):=by
 intro pins s σ H x y v u Q I rx ry h;obtain⟨i,j,rfl,rfl,q⟩:=h;obtain⟨t,rfl⟩:=rx;obtain⟨t',rfl⟩:=ry;exact rule i j t t' s _ _ ⟨.bl (g i j),H,I,rfl,q⟩
def EF (i j:Int):Prop:=0 < j/\j < 1073741824
def JI (i j:Int):Prop:=0<=j/\j<=1000000/\i.natAbs < 2 ^ 64
def uA (i j:Int):Prop:=(-(2 ^ 64) < i/\i < 2 ^ 64)\/(-(2 ^ 64) < j/\j < 2 ^ 64)
theorem uA.ok {i j:Int} (h:uA i j):IntMulOk i j:=by
 rcases h with ⟨h1,h2⟩ | ⟨h1,h2⟩
 ·exact .of_left (intBits_le_64 h1 h2)
 ·exact .of_right (intBits_le_64 h1 h2)
theorem bX:hJ X (binaryOp .Add) (qY λ i j=>.int (i+j)):=IN λ _ _ _ _ _ _ _ q=>add_int q
theorem gX:hJ X (binaryOp .Sub) (qY λ i j=>.int (i - j)):=IN λ _ _ _ _ _ _ _ q=>sub_int q
theorem iL:hJ X (binaryOp .Mult) (rI uA λ i j=>.int (i * j)):=IO λ _ _ _ _ _ _ _ hc q=>mul_int q hc.ok
theorem fW:hJ X (binaryOp .FloorDiv) (rI EF λ i j=>.int (i / j)):=IO λ i j _ _ _ _ _ hc q=>by
 have h1:(0:Int) < j:=hc.1;have h2:j < 1073741824:=hc.2;exact floordiv_int (by omega) (by rw[Int.fdiv_eq_ediv_of_nonneg i (by omega)];exact q) (.inl (PyProof.noPylong_small (by omega)))
theorem lR:hJ X (binaryOp .Mod) (rI (λ _ j=>0 < j) λ i j=>.int (i % j)):=IO λ i j _ _ _ _ _ hc q=>by
 have h1:(0:Int) < j:=hc;exact mod_int' (by omega) (by rw[Int.fmod_eq_emod_of_nonneg i (by omega)];exact q)
theorem AR:hJ X (binaryOp .Pow) (rI JI λ i j=>.int (i ^ j.toNat)):=IO λ _ _ _ _ _ _ _ hc q=>pow_int_small hc.1 hc.2.1 hc.2.2 q
theorem unI {f:Value->Sem Value}{g:Int->Int}
  (rule:∀ (i:Int) (t:Tok) (s:Shared) (Q:Value->Shared->Prop) (E:Value->Shared->Prop),Q (.int (g i) s.toks) { s with toks:=s.toks+1 }->wpAny (model X.prog X.w) X.A (f (.int i t)) Q E s) :
  UnR X f (rU λ i=>.int (g i)):=by
 intro pins s σ H x v Q I rx h;obtain⟨i,rfl,q⟩:=h;obtain⟨t,rfl⟩:=rx;exact rule i t s _ _ ⟨.int (g i),H,I.tok _,⟨_,rfl⟩,q⟩
theorem zW:UnR X (unaryOp .USub) (rU λ i=>.int (-i)):=unI λ _ _ _ _ _ q=>neg_int q
end
def D9:V->V->Bool
 | .non,.non=>true | .non,.int _=>true | .int _,.non=>true | .non,.bl _=>true | .bl _,.non=>true | .non,.str _=>true | .str _,.non=>true
 | .int _,.int _=>true | .bl _,.bl _=>true | .str _,.str _=>true | .byt _,.byt _=>true
 | .int _,.str _=>true | .str _,.int _=>true | .bl _,.str _=>true | .str _,.bl _=>true
 | _,_=>false
def rEq:R2:=λ x y H Q=>D9 x y=true/\Q (.bl (decide (x=y))) H
def rNe:R2:=λ x y H Q=>D9 x y=true/\Q (.bl (!decide (x=y))) H
theorem xJ {i j:Int}:decide (V.int i=V.int j)=(i == j):=by
 rw[Bool.eq_iff_iff];simp
theorem CD {i j:Bool}:decide (V.bl i=V.bl j)=(i == j):=by
 rw[Bool.eq_iff_iff];simp
theorem xI {i j:Str}:decide (V.str i=V.str j)=(i == j):=by
 rw[Bool.eq_iff_iff];simp
theorem xK {i j:Array UInt8}:decide (V.byt i=V.byt j)=(i.toList == j.toList):=by
 rw[Bool.eq_iff_iff];cases i;cases j;simp
section
variable {X:Cx}{a b c:Expr}{ta tb tc:TE}{pos:Pos}
theorem bU {pins:List (Addr×Obj)}{σ:St}{H:Hp}{s:Shared}{Q:VK}{k k':Bool} (I:Inv X pins σ H s) (q:Q (.bl k) H) (e:k=k'):EP X pins σ Q (.bool k') s:=by
 subst e;exact⟨.bl k,H,I,rfl,q⟩
theorem iM:hJ X (compareOp .Eq) rEq:=by
 intro pins s σ H x y v u Q I rx ry h;obtain⟨hs,q⟩:=h;cases x with
 | non=>
  cases rx;cases y with
  | non=>cases ry;exact PySem.EqNone.eq_none_none (bU I q (by simp))
  | bl j=>cases ry;exact PySem.EqNone.eq_none_bool (bU I q (by simp))
  | int j=>obtain⟨t',rfl⟩:=ry;exact PySem.EqNone.eq_none_int (bU I q (by simp))
  | str j=>obtain⟨t',rfl⟩:=ry;exact PySem.EqNone.eq_none_str (bU I q (by simp))
  | _=>exact absurd (show false=true from hs) aal
 | bl i=>
  cases rx;cases y with
  | non=>cases ry;exact PySem.EqNone.eq_bool_none (bU I q (by simp))
  | bl j=>cases ry;exact eq_bool (bU I q CD)
  | str j=>obtain⟨t',rfl⟩:=ry;exact PySem.EqMixed.eq_bool_str (bU I q (by simp))
  | _=>exact absurd (show false=true from hs) aal
 | int i=>
  obtain⟨t,rfl⟩:=rx;cases y with
  | non=>cases ry;exact PySem.EqNone.eq_int_none (bU I q (by simp))
  | int j=>obtain⟨t',rfl⟩:=ry;exact eq_int (bU I q xJ)
  | str j=>obtain⟨t',rfl⟩:=ry;exact PySem.EqMixed.eq_int_str (bU I q (by simp))
  | _=>exact absurd (show false=true from hs) aal
 | str i=>
  obtain⟨t,rfl⟩:=rx;cases y with
  | non=>cases ry;exact PySem.EqNone.eq_str_none (bU I q (by simp))
  | bl j=>cases ry;exact PySem.EqMixed.eq_str_bool (bU I q (by simp))
  | int j=>obtain⟨t',rfl⟩:=ry;exact PySem.EqMixed.eq_str_int (bU I q (by simp))
  | str j=>obtain⟨t',rfl⟩:=ry;exact eq_str (bU I q xI)
  | _=>exact absurd (show false=true from hs) aal
 | byt i=>
  obtain⟨t,rfl⟩:=rx;cases y with
  | byt j=>obtain⟨t',rfl⟩:=ry;exact PySem.W.eq_bytes (bU I q xK)
  | _=>exact absurd (show false=true from hs) aal
 | _=>cases y <;> exact absurd (show false=true from hs) aal
theorem ES:hJ X (compareOp .NotEq) rNe:=by
 intro pins s σ H x y v u Q I rx ry h;obtain⟨hs,q⟩:=h;cases x with
 | non=>
  cases rx;cases y with
  | non=>cases ry;exact PySem.EqNone.ne_none_none (bU I q (by simp))
  | bl j=>cases ry;exact PySem.EqNone.ne_none_bool (bU I q (by simp))
  | int j=>obtain⟨t',rfl⟩:=ry;exact PySem.EqNone.ne_none_int (bU I q (by simp))
  | str j=>obtain⟨t',rfl⟩:=ry;exact PySem.EqNone.ne_none_str (bU I q (by simp))
  | _=>exact absurd (show false=true from hs) aal
 | bl i=>
  cases rx;cases y with
  | non=>cases ry;exact PySem.EqNone.ne_bool_none (bU I q (by simp))
  | bl j=>cases ry;exact ne_bool (bU I q (congrArg not CD))
  | str j=>obtain⟨t',rfl⟩:=ry;exact PySem.EqMixed.ne_bool_str (bU I q (by simp))
  | _=>exact absurd (show false=true from hs) aal
 | int i=>
  obtain⟨t,rfl⟩:=rx;cases y with
  | non=>cases ry;exact PySem.EqNone.ne_int_none (bU I q (by simp))
  | int j=>obtain⟨t',rfl⟩:=ry;exact ne_int (bU I q (congrArg not xJ))
  | str j=>obtain⟨t',rfl⟩:=ry;exact PySem.EqMixed.ne_int_str (bU I q (by simp))
  | _=>exact absurd (show false=true from hs) aal
 | str i=>
  obtain⟨t,rfl⟩:=rx;cases y with
  | non=>cases ry;exact PySem.EqNone.ne_str_none (bU I q (by simp))
  | bl j=>cases ry;exact PySem.EqMixed.ne_str_bool (bU I q (by simp))
  | int j=>obtain⟨t',rfl⟩:=ry;exact PySem.EqMixed.ne_str_int (bU I q (by simp))
  | str j=>obtain⟨t',rfl⟩:=ry;exact ne_str (bU I q (congrArg not xI))
  | _=>exact absurd (show false=true from hs) aal
 | byt i=>
  obtain⟨t,rfl⟩:=rx;cases y with
  | byt j=>obtain⟨t',rfl⟩:=ry;exact PySem.W.ne_bytes (bU I q (congrArg not xK))
  | _=>exact absurd (show false=true from hs) aal
 | _=>cases y <;> exact absurd (show false=true from hs) aal
theorem tG:hJ X (compareOp .Lt) (qY λ i j=>.bl (decide (i < j))):=DO λ _ _ _ _ _ _ _ q=>lt_int q
theorem ET:hJ X (compareOp .LtE) (qY λ i j=>.bl (decide (i<=j))):=DO λ _ _ _ _ _ _ _ q=>le_int q
theorem wO:hJ X (compareOp .Gt) (qY λ i j=>.bl (decide (j < i))):=DO λ _ _ _ _ _ _ _ q=>gt_int q
theorem EU:hJ X (compareOp .GtE) (qY λ i j=>.bl (decide (j<=i))):=DO λ _ _ _ _ _ _ _ q=>ge_int q
theorem vG:hJ X (compareOp .Is) (λ x y H Q=>y=.non/\Q (.bl (decide (x=.non))) H):=by
 intro pins s σ H x y v u Q I rx ry h;obtain⟨rfl,q⟩:=h;cases ry;refine is_none_gen (bU I q ?_);cases x <;> first
  | (cases rx;rfl)
  | (obtain⟨t,rfl⟩:=rx;rfl)
theorem bR (b:Expr) {op:CmpOp} (h:op≠.In:=by decide) (h2:op≠.NotIn:=by decide):behindInMarks op b=false:=by
 have e1:(op == CmpOp.In)=false:=by cases op <;> first | rfl | exact absurd rfl h
 have e2:(op == CmpOp.NotIn)=false:=by cases op <;> first | rfl | exact absurd rfl h2
 cases b <;> simp [behindInMarks,e1,e2]
theorem kR {op:CmpOp}{r:R2} (ho:hJ X (compareOp op) r) (ha:PE X a ta) (hb:PE X b tb) (hm:behindInMarks op b=false):PE X (.Compare a [op] [b] pos) (gN r ta tb):=by
 intro pins s σ H Q I h;exact wpAny_Compare1 (GX ha hb I h λ v u s2 x y H2 I2 rx ry q=>ho pins s2 σ H2 x y v u Q I2 rx ry q) hm
def wD (t:TE):TT:=λ σ H Q=>t σ H λ x H'=>∃ k,x=.bl k/\Q k H'
theorem bL {op:CmpOp}{r:R2} (ho:hJ X (compareOp op) r) (ha:PE X a ta) (hb:PE X b tb) (hm:behindInMarks op b=false):PT X (.Compare a [op] [b] pos) (wD (gN r ta tb)):=by
 intro pins s σ H Q I h;refine wpAny_isTrue_Compare1 (cY (ha pins s σ H _ I h) λ v s1 ⟨x,H1,I1,r1,q1⟩=>cY (hb pins s1 σ H1 _ I1 q1) λ u s2 ⟨y,H2,I2,r2,q2⟩=>
  cY (ho pins s2 σ H2 x y v u _ I2 r1 r2 q2) λ c s3 ⟨z,H3,I3,r3,k,e,q3⟩=>?_) hm
 subst e;cases r3;exact wpAny_truthy_bool ⟨H3,I3,q3⟩
def FS (r r':R2) (ta tb tc:TE):TE:=λ σ H Q=>ta σ H λ x H1=>tb σ H1 λ y H2=>r x y H2 λ z H3=>∃ k,z=.bl k/\
 (if k=true then tc σ H3 λ w' H4=>r' y w' H4 Q else Q (.bl false) H3)
theorem AO {op op':CmpOp}{r r':R2} (ho:hJ X (compareOp op) r) (ho':hJ X (compareOp op') r') (ha:PE X a ta) (hb:PE X b tb) (hc:PE X c tc)
  (hm:lastMarks [op,op'] [b,c]=false:=by with_unfolding_all rfl):PE X (.Compare a [op,op'] [b,c] pos) (FS r r' ta tb tc):=by
 intro pins s σ H Q I h;refine Compare_chain (cY (ha pins s σ H _ I h) λ v s1 ⟨x,H1,I1,r1,q1⟩=>chain_link (cY (hb pins s1 σ H1 _ I1 q1) λ u s2 ⟨y,H2,I2,r2,q2⟩=>
  cY (ho pins s2 σ H2 x y v u _ I2 r1 r2 q2) λ d s3 ⟨z,H3,I3,r3,k,e,q3⟩=>?_)) hm
 subst e;cases r3;refine wpAny_truthy_bool ?_;cases k with
 | false=>exact ite_ff ⟨.bl false,H3,I3,rfl,q3⟩
 | true=>exact ite_tt (chain_last (cY (hc pins s3 σ H3 _ I3 q3) λ w' s4 ⟨z',H4,I4,r4,q4⟩=>ho' pins s4 σ H4 y z' u w' Q I4 r2 r4 q4))
theorem oK:(sizeLine:Nat) < 2 ^ 63:=by rw[sizeLine_eq];decide
theorem nG {x:V}{us:List Value} (r:bI [x] us):∃ u,us=[u]/\bG x u:=by
 cases r with
 | cons r1 r2=>cases r2;exact⟨_,rfl,r1⟩
theorem zS {x y:V}{us:List Value} (r:bI [x,y] us):∃ u w',us=[u,w']/\bG x u/\bG y w':=by
 cases r with
 | cons r1 r2=>
  cases r2 with
  | cons r3 r4=>cases r4;exact⟨_,_,rfl,r1,r3⟩
theorem qG (hc:X.calm=true):dY X (.builtin "max") (λ xs H Q=>∃ i j,xs=[.int i,.int j]/\Q (.int (if j > i then j else i)) H):=by
 intro pins s σ H xs us Q I r h;obtain⟨i,j,rfl,q⟩:=h;obtain⟨u,w',rfl,⟨t,rfl⟩,⟨t',rfl⟩⟩:=zS r;refine max_two_ints (I.ok.hd hc) λ h' tk k=>⟨_,H,I.kept k,?_,q⟩
 by_cases hj:j > i
 ·rw[if_pos hj,if_pos hj];exact⟨_,rfl⟩
 ·rw[if_neg hj,if_neg hj];exact⟨_,rfl⟩
theorem qF (hc:X.calm=true):dY X (.builtin "min") (λ xs H Q=>∃ i j,xs=[.int i,.int j]/\Q (.int (if j < i then j else i)) H):=by
 intro pins s σ H xs us Q I r h;obtain⟨i,j,rfl,q⟩:=h;obtain⟨u,w',rfl,⟨t,rfl⟩,⟨t',rfl⟩⟩:=zS r;refine min_two_ints (I.ok.hd hc) λ h' tk k=>⟨_,H,I.kept k,?_,q⟩
 by_cases hj:j < i
 ·rw[if_pos hj,if_pos hj];exact⟨_,rfl⟩
 ·rw[if_neg hj,if_neg hj];exact⟨_,rfl⟩
theorem gM:dY X (.type "int") (λ xs H Q=>(∃ i,xs=[.int i]/\Q (.int i) H)\/∃ k,xs=[.bl k]/\Q (.int (if k then 1 else 0)) H):=by
 intro pins s σ H xs us Q I r h;rcases h with ⟨i,rfl,q⟩ | ⟨k,rfl,q⟩
 ·obtain⟨u,rfl,t,rfl⟩:=nG r;exact call_int_int ⟨.int i,H,I,⟨_,rfl⟩,q⟩
 ·obtain⟨u,rfl,r1⟩:=nG r;cases r1;exact call_int_bool ⟨.int (if k then 1 else 0),H,I.tok _,⟨_,rfl⟩,q⟩
end
structure ObjM (h:Heap) (x dx C:Addr) (mA:Str->Option Value):Prop where
 obj:h.get? x=some (PySem.W.instObj C dx)
 ns:h.Ns1 dx mA
 ne:dx≠x
theorem yN {h:Heap}{dx:Addr}{mA:Str->Option Value} (n:h.Ns1 dx mA):∃ od,h.get? dx=some od/\∀ name,PySem.W.lookIn name od=some (mA name):=by
 obtain⟨o,es,ep,ho,hd,hk,_,hm⟩:=n;refine⟨o,ho,λ name=>?_⟩;have e:=hm name;unfold nsFind findBy at e;rw[<- Array.find?_toList] at e;unfold PySem.W.lookIn;rw[hd];dsimp only
 split
 ·rename_i y q
  rw[q] at e;exact congrArg some e
 ·rename_i q
  rw[q] at e;have a:es.toList.any (·.refKey)=false:=by
   rw[List.any_eq_false];intro y hy;obtain⟨z,t,hkey⟩:=hk y (Array.mem_toList_iff.mp hy);simp [DictEntry.refKey,hkey]
  have a':¬ es.toList.any (·.refKey)=true:=by rw[a];exact aal
  rw[if_neg a'];exact congrArg some e
theorem ObjM.look {h:Heap}{x dx C:Addr}{mA:Str->Option Value} (I:ObjM h x dx C mA):∃ od,PySem.W.InstAt h x (PySem.W.instObj C dx) C (some od)/\∀ name,PySem.W.lookIn name od=some (mA name):=
 let ⟨od,ho,hl⟩:=yN I.ns
 ⟨od,⟨I.obj,rfl,rfl,ho⟩,hl⟩
section
variable {prog:Program}{A:Around}{E:Value->Shared->Prop}{s:Shared}{x dx f:Addr}{mA:Str->Option Value}{name:Str}{v:Value}
end
section
variable {H H':Hp}{h h':Heap}{a dx:Addr}{fs fs':List (Str×V)}
theorem E3 (hok:kA P w H h) (e:H a=some (.ins C dx fs)):∃ mA,ObjM h a dx C mA/\(∀ f,sL (fs.lookup f) (mA f))/\PySem.Within mA (fs.map (·.1))/\fs.length<=1000/\H dx=some (.own a):=by
 obtain⟨d,z,ne,ob,mA,n,r,q⟩:=(show cJ P w H h a (.ins C dx fs) from hok a _ e);exact⟨mA,⟨ob,n,ne⟩,r,q,z,d⟩
end
structure Cls (K:aab) (C:Addr):Prop where
 pg:PySem.W.plainGet K C Str.empty=true
 hd:PySem.W.hasDictIn K C=true
 po:PySem.W.plainOver K C=true
 sa:PySem.W.findIn K (.ref C) "__setattr__" = some (some (.builtin "object.__setattr__"))
theorem Cls.get {K:aab}{C:Addr} (c:Cls K C) (f:Str):PySem.W.plainGet K C f=true:=c.pg
section
variable {X:Cx}{pins:List (Addr×Obj)}{σ:St}{H:Hp}{s:Shared}{a dx:Addr}{fs:List (Str×V)}{f:Str}{v:V}{A:Around}{E:Value->Shared->Prop}
end
section
variable {X:Cx}{o e value:Expr}{f:Str}{pos pos' tpos:Pos}{ta tv:TE}
end
section
variable {X:Cx}{pins:List (Addr×Obj)}{σ:St}{H:Hp}{s:Shared}{A:Around}{E:Value->Shared->Prop}{Q:Value->Shared->Prop}{c:Value}{b:Bool}
inductive TyOf (K:aab) (H:Hp):V->Value->Prop where
 | non:TyOf K H .non (.type "NoneType")
 | bl (x:Bool):TyOf K H (.bl x) (.type "bool")
 | int (i:Int):TyOf K H (.int i) (.type "int")
 | str (x:Str):TyOf K H (.str x) (.type "str")
 | flt (x:UInt64):TyOf K H (.flt x) (.type "float")
 | lst {a:Addr}{xs:List V} (e:H a=some (.lst xs)):TyOf K H (.ref a) (.type "list")
 | frz {a:Addr}{o:Obj}{xs:List V} (e:H a=some (.frz o (.lst xs))):TyOf K H (.ref a) (.type "list")
 | tup {a:Addr}{xs:List V} (e:H a=some (.tup xs)):TyOf K H (.ref a) (.type "tuple")
 | dK {a:Addr}{kvs:List (eS×V)} (e:H a=some (.dK kvs)):TyOf K H (.ref a) (.type "dict")
 | dT {a:Addr}{kvs:List (List eS×V)} (e:H a=some (.dT kvs)):TyOf K H (.ref a) (.type "dict")
 | ins {a C dx:Addr}{fs:List (Str×V)} (e:H a=some (.ins C dx fs)) (cl:Cls K C) (ha:PySem.W.findIn K (.ref C) "__class__" = some (some (.builtin "object.__class__")))
   (hn:PySem.W.specialIn K (.builtin "object.__class__") "__get__" = some (some (.builtin "getset_descriptor.__get__"))) (htk:PySem.W.takesIn K (.builtin "object.__class__")=some true)
   (hm:PySem.W.mroIn K C (.type "object")=some true):TyOf K H (.ref a) (.ref C)
theorem yQ {x:V}{u t:Value} (I:Inv X pins σ H s) (rx:bG x u) (ty:TyOf X.K H x t) (e:PySem.W.kitOne X.K t c=some b) (h:∀ tk,Q (.bool b) { s with toks:=tk }) :
  wpAny (model X.prog X.w) A (call (.builtin "isinstance") [u,c]) Q E s:=by
 cases ty with
 | non=>cases (show u=Value.none from rx);exact PySem.W.kia_one PySem.W.kitx_none I.kIn True.intro e (λ z=>nomatch z) h
 | bl y=>cases (show u=Value.bool y from rx);exact PySem.W.kia_one PySem.W.kitx_bool I.kIn True.intro e (λ z=>nomatch z) h
 | int i=>obtain⟨t,q⟩:=(show ∃ t,u=Value.int i t from rx);cases q;exact PySem.W.kia_one PySem.W.kitx_int I.kIn True.intro e (λ z=>nomatch z) h
 | str y=>obtain⟨t,q⟩:=(show ∃ t,u=Value.str y t from rx);cases q;exact PySem.W.kia_one PySem.W.kitx_str I.kIn True.intro e (λ z=>nomatch z) h
 | flt y=>obtain⟨t,q⟩:=(show ∃ t,u=Value.float y t from rx);cases q;exact PySem.W.kia_one PySem.W.kitx_float I.kIn True.intro e (λ z=>nomatch z) h
 | @lst a xs ea=>
  cases (show u=Value.ref a from rx);obtain⟨_,_,n,_,h1⟩:=(show cJ X.prog X.w H s.heap a (.lst xs) from I.hok a _ ea);exact PySem.W.kia_one PySem.W.kitx_list I.kIn ⟨_,h1,rfl⟩ e (λ z=>nomatch z) h
 | @frz a ob xs ea=>
  cases (show u=Value.ref a from rx);obtain⟨_,_,_,n,_,h1⟩:=(show cJ X.prog X.w H s.heap a (.frz ob (.lst xs)) from I.hok a _ ea);exact PySem.W.kia_one PySem.W.kitx_list I.kIn ⟨_,h1,rfl⟩ e (λ z=>nomatch z) h
 | @tup a xs ea=>
  cases (show u=Value.ref a from rx);obtain⟨_,_,_,p⟩:=(show cJ X.prog X.w H s.heap a (.tup xs) from I.hok a _ ea);obtain⟨o,h1,h2,_⟩:=p;exact PySem.W.kia_one PySem.W.kitx_tuple I.kIn ⟨o,h1,h2⟩ e (λ z=>nomatch z) h
 | @dK a kvs ea=>
  cases (show u=Value.ref a from rx);obtain⟨_,_,vs,_,p⟩:=(show cJ X.prog X.w H s.heap a (.dK kvs) from I.hok a _ ea);obtain⟨o,es,ep,h1,h2,_⟩:=p;exact PySem.W.kia_one PySem.W.kitx_dict I.kIn ⟨o,h1,h2.1⟩ e (λ z=>nomatch z) h
 | @dT a kvs ea=>
  cases (show u=Value.ref a from rx);obtain⟨_,_,xs,_,o,es,ep,h1,h2,_⟩:=(show cJ X.prog X.w H s.heap a (.dT kvs) from I.hok a _ ea);exact PySem.W.kia_one PySem.W.kitx_dict I.kIn ⟨o,h1,h2.1⟩ e (λ z=>nomatch z) h
 | @ins a C dx fs ea cl ha hn htk hm=>
  cases (show u=Value.ref a from rx);obtain⟨mA,O,_⟩:=E3 I.hok ea;obtain⟨od,J,_⟩:=O.look;exact PySem.W.kia_one (PySem.W.kitx_own (cl.get _) cl.hd ha hn htk hm) I.kIn J e (λ z=>nomatch z) h
end
structure Room (k:Nat) (A:Around):Prop where
 hd:A.handled=none
 dp:A.depth+3 * k+5 < recursionLimit
 un:A.units+16 * k+200 < cLine
theorem Room.mono {j k:Nat}{A:Around} (r:Room k A) (h:j<=k):Room j A:=⟨r.hd,by have:=r.dp;omega,by have:=r.un;omega⟩
theorem Room.deeper {k:Nat}{A:Around} (r:Room (k+1) A) (env:Env):Room k (A.deeper env):=
 ⟨r.hd,by have:=r.dp;show A.depth+1+3 * k+5 < _;omega,by have:=r.un;show A.units+3+16 * k+200 < _;omega⟩
theorem Room.depth {k:Nat}{A:Around} (r:Room k A):A.depth < recursionLimit:=by have:=r.dp;omega
theorem Room.units {k:Nat}{A:Around} (r:Room k A):A.units+64 < cLine:=by have:=r.un;omega
def jF:TA:=λ _ H Q=>Q [] H
def cI (ta:TE) (tr:TA):TA:=λ σ H Q=>ta σ H λ x H1=>tr σ H1 λ xs H2=>Q (x::xs) H2
section
variable {X:Cx}{e:Expr}{es:List Expr}{te:TE}{t:TA}{pos:Pos}
theorem aC:PA X [] jF:=λ _ _ _ _ H Q I h=>Calls.spliced_nil ⟨[],H,I,.nil,h⟩
theorem aA (ha:PE X e te) (hr:PA X es t) (hs:starEach (e::es) X.env=(false,eval e X.env)::starEach es X.env:=by rfl):PA X (e::es) (cI te t):=by
 intro pos pins s σ H Q I h;rw[hs];show wpAny _ _ (spliced ((false,eval e X.env)::backTo pos (starEach es X.env))) _ _ s;refine Calls.spliced_cons (cY (ha pins s σ H _ I h) λ u s1 ⟨x,H1,I1,r1,q1⟩=>?_);exact cY (hr pos pins s1 σ H1 _ I1 q1) λ us s2 ⟨xs,H2,I2,r2,q2⟩=>⟨x::xs,H2,I2,.cons r1 r2,q2⟩
def tTup (t:TA):TE:=λ σ H Q=>t σ H λ xs H1=>xs.length<=sizeLine/\∀ p,H1 p=none->Q (.ref p) (upd H1 p (.tup xs))
def D6 (t:TA):TE:=λ σ H Q=>t σ H λ xs H1=>xs.length<=sizeLine/\∀ p,H1 p=none->Q (.ref p) (upd H1 p (.lst xs))
theorem bO {x1} (h:PA X es t):PE X (.Tuple es x1 pos) (tTup t):=by
 intro pins s σ H Q I hq;refine wpAny_Tuple_spliced (cY (h pos pins s σ H _ I hq) λ us s1 ⟨xs,H1,I1,r,z,q⟩=>⟨by rw[<- r.length];exact z,?_⟩);have hf:H1 s1.heap.objs.size=none:=I1.hok.fresh (aaj _);refine⟨.ref s1.heap.objs.size,upd H1 s1.heap.objs.size (.tup xs),I1.laid (t':=s1.toks) (λ b u e=>aac _ e) (aaj _) ?_,rfl,q _ hf⟩;exact⟨z,us,r,⟨_,aag _ rfl,rfl,_,rfl⟩⟩
theorem bC (h:PA X es t):PE X (.List es pos) (D6 t):=by
 intro pins s σ H Q I hq;refine wpAny_List_spliced (cY (h pos pins s σ H _ I hq) λ us s1 ⟨xs,H1,I1,r,z,q⟩=>⟨by rw[<- r.length];exact z,?_⟩);have hf:H1 s1.heap.objs.size=none:=I1.hok.fresh (aaj _);refine⟨.ref s1.heap.objs.size,upd H1 s1.heap.objs.size (.lst xs),I1.laid (t':=s1.toks) (λ b u e=>aac _ e) (aaj _) ?_,rfl,q _ hf⟩;exact⟨z,us,0,r,aag _ rfl⟩
end
abbrev Sp:=List V->Hp->VK->XK->Prop
abbrev zO:=List Env->Hp->Shared->XK->Value->Shared->Prop
structure Env0 (P:Program) (w:World) (K:aab) (mg:Str->Option Value) (base:Heap) (A:Around) (outer:List Env) (s:Shared) (H:Hp):Prop where
 frames:A.frames=some outer
 mod:Mod K mg base
 bs:∀ b o,base.get? b=some o->s.heap.get? b=some o/\H b=none
 bsz:base.objs.size<=s.heap.objs.size
 funs:s.heap.FunFrames base outer
 frf:∀ b∈kB outer,H b=none
 hok:kA P w H s.heap
 bare:AllBare s.gens
def CE (outer:List Env) (P:Program) (w:World) (H:Hp) (s:Shared) (Q:VK) (u:Value) (s':Shared):Prop:=
 ∃ v H',s'.os=s.os/\AllBare s'.gens/\Un (kB outer) [] H H' s.heap s'.heap/\kA P w H' s'.heap/\bG v u/\Q v H'
def CR (CX:zO) (outer:List Env) (P:Program) (w:World) (H:Hp) (s:Shared) (Q:VK) (E:XK) (r:Result) (s':Shared):Prop:=
 match r with
 | .ok (.ret u)=>CE outer P w H s Q u s'
 | .ok _=>False
 | .error e=>CX outer H s E e s'
structure FnOk (P:Program) (w:World) (K:aab) (mg:Str->Option Value) (base:Heap) (CX:zO) (k:Nat) (f:Addr) (fd:FuncData) (ps:List Str) (sp:Sp):Prop where
 len:∀ vs H Q E,sp vs H Q E->vs.length=ps.length
 run:∀ (A:Around) (outer:List Env) (s:Shared) (H:Hp) (args:Args) (us:List Value) (vs:List V) (Q:VK) (E:XK),Room k A->Env0 P w K mg base A outer s H->BindsTo s fd args (ps.zip us)->bI vs us->sp vs H Q E->
  codeAny (model P w) A (.call (.ref f) args) (CR CX outer P w H s Q E) s
theorem FnOk.imp {P:Program}{w:World}{K:aab}{mg:Str->Option Value}{base:Heap}{CX:zO}{k:Nat}{f:Addr}{fd:FuncData}{ps:List Str}{sp sp':Sp} (F:FnOk P w K mg base CX k f fd ps sp)
  (h:∀ vs H Q E,sp' vs H Q E->sp vs H Q E):FnOk P w K mg base CX k f fd ps sp':=
 ⟨λ vs H Q E q=>F.len vs H Q E (h _ _ _ _ q),λ A outer s H args us vs Q E hr he hb hv hs=>F.run A outer s H args us vs Q E hr he hb hv (h _ _ _ _ hs)⟩
section
variable {X:Cx}{pins:List (Addr×Obj)}{σ:St}{H:Hp}{s s':Shared}
theorem Inv.env0 (I:Inv X pins σ H s):Env0 X.prog X.w X.K X.mg X.base X.A X.stack s H:=
 ⟨I.ok.frames,I.ok.mod,I.bs,acb I.ok.bsz I.sz,I.stack,I.stkFree,I.hok,I.bare⟩
theorem Inv.after {Q:VK}{u:Value} (I:Inv X pins σ H s) (h:CE X.stack X.prog X.w H s Q u s'):EP X pins σ Q u s':=by
 obtain⟨v,H',os,bare,un,hok,r,q⟩:=h;obtain⟨hh,g,d,t,os'⟩:=s';obtain rfl:os'=s.os:=os;exact⟨v,H',I.call (h':=hh) (g':=g) (d':=d) (t':=t) (ch:=[]) un hok bare (λ b z=>absurd z (by simp)),r,q⟩
end
def m8 (sp:Sp) (dvs:List V) (E:XK) (t:TA):TE:=λ σ H Q=>t σ H λ vs H1=>sp (vs++dvs) H1 Q E
def pB (K:aab) (fd:FuncData) (ps:List Str) (ds:List Value):Prop:=
 ∀ (s:Shared) (us:List Value),K.In s.heap->(us++ds).length=ps.length->BindsTo s fd ⟨us,[]⟩ (ps.zip (us++ds))
theorem pB.all {K:aab}{fd:FuncData}{ps:List Str} (h:∀ us:List Value,us.length=ps.length->bindArgs fd ⟨us,[]⟩=pure (ps.zip us)):pB K fd ps []:=λ s us _ hl=>by
 rw[acf] at hl ⊢;exact .of_eq (h us hl)
def lY (CX:zO) (X:Cx) (E:XK):Prop:=∀ (pins:List (Addr×Obj)) (σ:St) (H:Hp) (s:Shared) (e:Value) (s':Shared),Inv X pins σ H s->CX X.stack H s E e s'->X.xe e s'
section
variable {X:Cx}{CX:zO}{k:Nat}{f:Addr}{fd:FuncData}{ps:List Str}{sp:Sp}{dvs:List V}{ds:List Value}{E:XK}{x m:Str}{p pos apos:Pos}{e o:Expr}{es:List Expr}{ta:TE}{t:TA}
theorem FY {pins:List (Addr×Obj)}{σ:St}{H:Hp}{s:Shared}{Q:VK}{us:List Value}{vs:List V} (F:FnOk X.prog X.w X.K X.mg X.base CX k f fd ps sp) (hr:Room k X.A) (hb:pB X.K fd ps ds) (hd:bI dvs ds) (hx:lY CX X E)
  (I:Inv X pins σ H s) (r:bI vs us) (h:sp (vs++dvs) H Q E):wpAny (model X.prog X.w) X.A (call (.ref f) us) (EP X pins σ Q) X.xe s:=by
 have r2:bI (vs++dvs) (us++ds):=r.append hd;have hl:(us++ds).length=ps.length:=by rw[<- r2.length];exact F.len _ _ _ _ h
 refine wpAny_call (codeAny_mono (F.run X.A X.stack s H ⟨us,[]⟩ (us++ds) (vs++dvs) Q E hr I.env0 (hb s us I.kIn hl) r2 h) λ r s' hq=>?_);cases r with
 | error e=>exact hx pins σ H s e s' I hq
 | ok fl=>
  cases fl with
  | ret u=>exact I.after hq
  | next=>exact False.elim hq
  | brk=>exact False.elim hq
  | cont=>exact False.elim hq
theorem rA (F:FnOk X.prog X.w X.K X.mg X.base CX k f fd ps sp) (hr:Room k X.A) (hg:Gl X x) (hm:X.mg x=some (.ref f)) (hk:PySem.W.keepIn X.K (.ref f)=true) (hb:pB X.K fd ps ds) (hd:bI dvs ds) (hx:lY CX X E)
  (ha:PA X (e::es) t) (hdb:(x == ("__debug__" : Str))=false:=by decide) (he:starEach (e::es) X.env=(false,eval e X.env)::starEach es X.env:=by rfl) (hpl:(backTo pos (starEach es X.env)).any (·.1)=false:=by rfl) :
  PE X (.Call (.Name x p) (e::es) [] pos) (m8 sp dvs E t):=by
 intro pins s σ H Q I h;refine wpAny_Call_Name_kw (mW I hg hm ?_ hdb);refine PySem.W.callWith_K (h₀:=X.base) I.ok.mod.kin hk (cY (ha pos pins s σ H _ I h) λ us s1 ⟨vs,H1,I1,r,q⟩=>⟨I1.kIn,?_⟩) he hpl;exact FY F hr hb hd hx I1 r q
end
section
variable {X:Cx}{CX:zO}{k:Nat}{f:Addr}{fd:FuncData}{ps ks:List Str}{sp:Sp}{E:XK}{x m:Str}{p pos apos kpos:Pos}{e o:Expr}{es:List Expr}{kws:List Keyword}{te ta:TE}{t tk:TA}{nm:Option Str}
variable {g:List Value->List Value->List Value}{gV:List V->List V->List V}
end
structure FnScope (N P:List Str) (sc:Scope):Prop where
 kind:sc.kind=.function:=by rfl
 co:sc.isCoroutine=false:=by rfl
 gen:sc.isGenerator=false:=by rfl
 nd:N.Nodup:=by decide +kernel
 pre:N.take P.length=P:=by rfl
 par:∀ x∈P,sc.names.lookup x=some .local\/sc.names.lookup x=some .cell:=by decide +kernel
 nofree:∀ y∈sc.names,y.2≠.free:=by decide +kernel
theorem qI {kindOf:Str->Option NameKind}{x:Str}:∀ {binds:List (Str×Value)}{m:Str->Option Value},(∀ v,(x,v)∉binds)->bindL kindOf binds m x=m x
 | [],_,_=>rfl
 | (n,v)::r,m,h=>by
  unfold bindL;rw[qI λ w hw=>h w (aay _ hw)]
  split
  ·have:x≠n:=by rintro rfl;exact h v abt
   simp [this]
  ·rfl
theorem qK {kindOf:Str->Option NameKind}{x:Str}:∀ {binds:List (Str×Value)}{m:Str->Option Value},(∀ v,(x,v)∉binds)->bindC kindOf binds m x=m x
 | [],_,_=>rfl
 | (n,v)::r,m,h=>by
  unfold bindC;rw[qK λ w hw=>h w (aay _ hw)]
  split
  ·rfl
  ·have:x≠n:=by rintro rfl;exact h v abt
   simp [this]
theorem qJ {kindOf:Str->Option NameKind}{x:Str}{v:Value}:∀ {P:List Str}{vs:List Value}{i:Nat}{m:Str->Option Value},P.Nodup->P[i]? = some x->vs[i]? = some v->kindOf x=some .local->
  bindL kindOf (P.zip vs) m x=some v
 | [],_,_,_,_,h,_,_=>by simp at h
 | _::_,[],_,_,_,_,h,_=>by simp at h
 | p::P,w::vs,0,m,nd,h1,h2,hk=>by
  simp at h1 h2;subst h1;subst h2;show bindL kindOf ((p,w)::P.zip vs) m p=_;unfold bindL;rw[qI λ v hv=>(acs.mp nd).1 (List.of_mem_zip hv).1,if_pos hk];simp
 | p::P,w::vs,i+1,m,nd,h1,h2,hk=>by
  show bindL kindOf ((p,w)::P.zip vs) m x=_;unfold bindL;exact qJ (i:=i) (acs.mp nd).2 (by simpa using h1) (by simpa using h2) hk
theorem qL {kindOf:Str->Option NameKind}{x:Str}{v:Value}:∀ {P:List Str}{vs:List Value}{i:Nat}{m:Str->Option Value},P.Nodup->P[i]? = some x->vs[i]? = some v->kindOf x≠some .local->
  bindC kindOf (P.zip vs) m x=some v
 | [],_,_,_,_,h,_,_=>by simp at h
 | _::_,[],_,_,_,_,h,_=>by simp at h
 | p::P,w::vs,0,m,nd,h1,h2,hk=>by
  simp at h1 h2;subst h1;subst h2;show bindC kindOf ((p,w)::P.zip vs) m p=_;unfold bindC;rw[qK λ v hv=>(acs.mp nd).1 (List.of_mem_zip hv).1,if_neg hk];simp
 | p::P,w::vs,i+1,m,nd,h1,h2,hk=>by
  show bindC kindOf ((p,w)::P.zip vs) m x=_;unfold bindC;exact qL (i:=i) (acs.mp nd).2 (by simpa using h1) (by simpa using h2) hk
def kE (N:List Str) (vs:List V):St:=vs.map some++List.replicate (N.length - vs.length) none
def tW (CX:zO) (P:Program) (w:World) (K:aab) (mg:Str->Option Value) (base:Heap) (N:List Str) (qual:Str) (scope:Scope) (f:Addr) (cd:Value) (A:Around) (outer:List Env) (s:Shared) (H:Hp) (E:XK):Cx where
 prog:=P
 w:=w
 K:=K
 mg:=mg
 base:=base
 A:=A.deeper (envOfC qual scope s.heap.objs.size f cd)
 N:=N
 s₀:=s
 H₀:=H
 env:=envOfC qual scope s.heap.objs.size f cd
 outer:=outer
 stack:=envOfC qual scope s.heap.objs.size f cd::outer
 ex:=[]
 calm:=true
 fn:=λ _=>true
 pn:=[]
 xe:=λ e s'=>wpAny (model P w) (A.deeper (envOfC qual scope s.heap.objs.size f cd)) (leaving (envOfC qual scope s.heap.objs.size f cd) e) (λ _ s''=>CX outer H s E e s'') (λ e' s''=>CX outer H s E e' s'') s'
theorem tZ {sc:Scope}{n:Nat}{x:Str} (h:sc.names.lookup x=some .cell):∃ c,(cellsFrom n sc.names []).lookup x=some c:=by
 have q:=PySem.W.cellsFrom_some sc.names n [] (.inl h);exact Option.isSome_iff_exists.mp q
theorem yR {CX:zO}{P:Program}{w:World}{K:aab}{mg:Str->Option Value}{base:Heap}{N ps:List Str}{qual:Str}{scope:Scope}{f:Addr}{cd:Value}{A:Around}{outer:List Env}{s s1:Shared}{H:Hp}{E:XK}{us:List Value}{vs:List V}
  (S:FnScope N ps scope) (hd:A.handled=none) (e0:Env0 P w K mg base A outer s H) (hl:vs.length=ps.length) (r:bI vs us)
  (x:InCallC s s.heap.objs.size (bindL (envOfC qual scope s.heap.objs.size f cd).kindOf (ps.zip us) λ _=>none) (cellsFrom (s.heap.objs.size+1) scope.names []) (bindC (envOfC qual scope s.heap.objs.size f cd).kindOf (ps.zip us) λ _=>none) s1) :
  Inv (tW CX P w K mg base N qual scope f cd A outer s H E) [] (kE N vs) H s1:=by
 have hpl:ps.length<=N.length:=by have:=congrArg List.length S.pre;rw[aat] at this;omega
 obtain⟨h1,tk,rfl,hk⟩:=x.done;have noA:∀ b:Addr,b∉(tW CX P w K mg base N qual scope f cd A outer s H E).ex:=λ b z=>absurd (show b∈([]:List Addr) from z) (by simp);refine⟨⟨e0.mod,S.kind,rfl,rfl,aaj _,λ y z c h1 h2=>?_,λ y hy=>?_,λ y c _ h=>?_,λ _=>hd,Around.frames_deeper e0.frames,.inr ⟨rfl,rfl⟩,λ b z=>absurd z (noA b),e0.bs,e0.bsz,λ b _ _=>noA b,λ b z=>absurd z (noA b),e0.funs,e0.frf⟩,
  rfl,e0.bare,Un.kept hk,⟨_,x.toInCall.ns,λ i y v h1 h2 h3=>?_⟩,λ y c h=>⟨_,x.cell y c h⟩,e0.hok.fresh (aaj _),λ y c h=>?_,λ p hp=>absurd (show p∈([]:List (Addr×Obj)) from hp) (by simp),e0.hok.kept hk,?_⟩
 ·exact name_of_addr x.apart (abz h1) (abz h2)
 ·have hy:scope.names.lookup y=some .cell\/scope.names.lookup y=some .free:=hy;rcases hy with hy | hy
  ·exact tZ hy
  ·exact absurd rfl (S.nofree _ (abz hy))
 ·exact aby (x.above y c (abz h))
 ·have hi:i < vs.length:=by
   unfold kE at h2
   by_cases hi:i < vs.length
   ·exact hi
   ·rw[aci (by simpa using hi)] at h2;rw[List.getElem?_replicate] at h2
    split at h2 <;> cases h2
  have ha:vs[i]? = some v:=by
   unfold kE at h2;rw[acj (by simpa using hi),aaf] at h2;cases e:vs[i]? with
   | none=>rw[e] at h2;cases h2
   | some a=>rw[e] at h2;cases h2;rfl
  obtain⟨u,hu,rv⟩:=r.get ha;have hp:ps[i]? = some y:=by
   rw[<- S.pre,List.getElem?_take_of_lt (by omega)];exact h1
  have ndP:ps.Nodup:=by rw[<- S.pre];exact S.nd.sublist (List.take_sublist _ _)
  refine⟨u,rv,?_⟩;rcases S.par y (abl hp) with k | k
  ·exact .inl ⟨k,qJ ndP hp hu k⟩
  ·obtain⟨c,e⟩:=tZ (n:=s.heap.objs.size+1) k;refine .inr ⟨.inl k,c,e,?_⟩;have q:=x.cell y c e;rw[qL ndP hp hu (by show scope.names.lookup y≠_;rw[k];decide)] at q;exact q
 ·exact e0.hok.fresh (aby (x.above y c (abz h)))
 ·unfold kE;show _=N.length;rw[aaw,aad,acz];omega
theorem FD {CX:zO}{P:Program}{w:World}{K:aab}{mg:Str->Option Value}{base:Heap}{k:Nat}{f:Addr}{name qual:Str}{params:Arguments}{body:List Stmt}{scope:Scope}{dV kV doc pm cdv ct oc:Value}{an od:Option Addr}
  {osl:Array (Option Value)}{N ps:List Str}{sp:Sp} (lk:K.lookup f=some ⟨oc,od,.func (PySem.W.fnOf name qual params body scope dV kV doc pm an cdv ct),osl⟩) (hcd:PySem.W.codeIn K cdv qual=true) (S:FnScope N ps scope)
  (len:∀ vs H Q E,sp vs H Q E->vs.length=ps.length)
  (hbody:∀ (A:Around) (outer:List Env) (s:Shared) (H:Hp) (vs:List V) (Q:VK) (E:XK),Room k (A.deeper (envOfC qual scope s.heap.objs.size f cdv))->sp vs H Q E->
   ∃ t,w9 (tW CX P w K mg base N qual scope f cdv A outer s H E) body t/\t { nx:=λ _ H'=>Q .non H',rt:=Q } (kE N vs) H) :
  FnOk P w K mg base CX (k+1) f (PySem.W.fnOf name qual params body scope dV kV doc pm an cdv ct) ps sp:=by
 refine⟨len,λ A outer s H args us vs Q E hr e0 hb r hsp=>?_⟩;have hl:=len _ _ _ _ hsp;have KX:K.In s.heap:=e0.mod.kin.keeps λ b o e=>(e0.bs b o e).1;have lim:s.heap.NoLimit:=e0.mod.nolimit.keeps λ b o e=>(e0.bs b o e).1;have hkind:∀ y∈ps.zip us,scope.names.lookup y.1=some .local\/(scope.names.lookup y.1=some .cell/\((cellsFrom (s.heap.objs.size+1) scope.names []).lookup y.1).isSome=true):=λ ⟨n,v⟩ hy=>by
  rcases S.par n (List.of_mem_zip hy).1 with q | q
  ·exact .inl q
  ·exact .inr ⟨q,PySem.W.cellsFrom_some _ _ _ (.inl q)⟩
 refine codeAny_call_function hr.depth (KX _ _ lk) rfl S.co S.gen rfl (PySem.W.codeRec_of KX hcd) (hb _ _ _ _ ?_);refine wpAny_newFunctionEnv_cells S.kind hkind λ env he s1 x=>?_;subst he;refine⟨lim.keeps x.toInCall.keep,codeAny_func ?_⟩;obtain⟨t,ht,hq⟩:=hbody A outer s H vs Q E (hr.deeper _) hsp;have I:Inv (tW CX P w K mg base N qual scope f cdv A outer s H E) [] (kE N vs) H s1:=yR S hr.hd e0 hl r x;refine abp (ht [] s1 (kE N vs) H _ I hq) (λ fl s' hs=>?_) λ e s' hs=>hs;have fin:∀ {ad:St}{H':Hp}{v:V}{u:Value},Inv (tW CX P w K mg base N qual scope f cdv A outer s H E) [] ad H' s'->bG v u->Q v H'->CE outer P w H s Q u s':=
  λ {ad H' v u} J rv q=>⟨v,H',J.os,J.bare,J.base,J.hok,rv,q⟩
 cases fl with
 | ret u=>
  obtain⟨v,ad,H',J,rv,q⟩:=hs;exact fin J rv q
 | next=>
  obtain⟨ad,H',J,q⟩:=hs;exact fin (v:=V.non) (u:=Value.none) J rfl q
 | brk=>
  obtain⟨_,_,_,q⟩:=hs;exact False.elim q
 | cont=>
  obtain⟨_,_,_,q⟩:=hs;exact False.elim q
section
variable {X:Cx}{x:Str}{p pos:Pos}{e:Expr}{es:List Expr}{t:TA}{id T:String}{r:List V->Hp->VK->Prop}
def HF (r:List V->Hp->VK->Prop) (t:TA):TE:=λ σ H Q=>t σ H λ vs H1=>r vs H1 Q
theorem aN (hc:dY X (.builtin id) r) (hg:Gl X x) (hm:X.mg x=none) (hv:bootBuiltins x=some (.builtin id)) (ha:PA X (e::es) t) (hn:x ≠ "__name__" := by decide) (hdb:(x == ("__debug__" : Str))=false:=by decide)
  (he:starEach (e::es) X.env=(false,eval e X.env)::starEach es X.env:=by rfl) (hpl:(backTo pos (starEach es X.env)).any (·.1)=false:=by rfl):PE X (.Call (.Name x p) (e::es) [] pos) (HF r t):=by
 intro pins s σ H Q I h;refine wpAny_Call_Name_kw (gY I hg hm hv ?_ hn hdb);exact PyProof.Rows.callWith_builtin1 (cY (ha pos pins s σ H _ I h) λ us s1 ⟨vs,H1,I1,r1,q1⟩=>hc pins s1 σ H1 vs us Q I1 r1 q1) he hpl
theorem aZ (hc:dY X (.type T) r) (hg:Gl X x) (hm:X.mg x=none) (hv:bootBuiltins x=some (.type T)) (ha:PA X (e::es) t) (hn:x ≠ "__name__" := by decide) (hdb:(x == ("__debug__" : Str))=false:=by decide)
  (he:starEach (e::es) X.env=(false,eval e X.env)::starEach es X.env:=by rfl) (hpl:(backTo pos (starEach es X.env)).any (·.1)=false:=by rfl):PE X (.Call (.Name x p) (e::es) [] pos) (HF r t):=by
 intro pins s σ H Q I h;refine wpAny_Call_Name_kw (gY I hg hm hv ?_ hn hdb);exact PyProof.Rows.callWith_type1 (cY (ha pos pins s σ H _ I h) λ us s1 ⟨vs,H1,I1,r1,q1⟩=>hc pins s1 σ H1 vs us Q I1 r1 q1) he hpl
end
end L2
namespace HT
open PySem PyProof.Rows
section
open PySem.SeqAt
open PySem.AutoSeq1 (wpAny_loadPart')
open PySem.MeetsSeq PySem.MeetsSeq2 PySem.MeetsSeq3
end
section
variable {prog:Program}{A:Around}{E:Value->Shared->Prop}{s:Shared}
theorem cat_tup {t b:Addr}{vs ws:List Value}{Q:Value->Shared->Prop} (ht:IsTup s.heap t vs.toArray) (hb:IsTup s.heap b ws.toArray) (hv:vs≠[])
  (h1:ws=[]->Q (.ref t) s) (h2:ws≠[]->Q (.ref s.heap.objs.size) { s with heap:=s.heap.push { cls:=.type "tuple",data:=.seq (vs++ws).toArray } })
  (hsz:vs.length+ws.length<=sizeLine):wpAny (model prog w) A (binaryOp .Add (.ref t) (.ref b)) Q E s:=by
 obtain⟨⟨cls,dd,data,sl⟩,ho,hc,n,hd⟩:=id ht;obtain⟨⟨cls2,dd2,data2,sl2⟩,ho2,hc2,n2,hd2⟩:=id hb;simp only at hc hd hc2 hd2;subst hc hd hc2 hd2;have e:vs.toArray++ws.toArray=(vs++ws).toArray:=by simp
 by_cases hw:ws=[]
 ·exact concat_meets ⟨_,ho,rfl⟩ ⟨_,ho2,rfl⟩ noFill_tuple_add seq_tuple_add PySem.F.slot_tuple_add PySem.F.entry_tuple_add (PySem.F.args_tuple_add_2 _ _)
   (tuple_addW1 t b vs.toArray ws.toArray n n2 dd dd2 sl sl2 (by simpa using hv) (by simp [hw])) ⟨ho,ho2,h1 hw⟩
 ·refine concat_meets ⟨_,ho,rfl⟩ ⟨_,ho2,rfl⟩ noFill_tuple_add seq_tuple_add PySem.F.slot_tuple_add PySem.F.entry_tuple_add (PySem.F.args_tuple_add_2 _ _)
   (tuple_addW2 t b vs.toArray ws.toArray n n2 dd dd2 sl sl2 (by simpa using hv) (by simpa using hw) (by rw[aah,aah];exact hsz)) ⟨ho,ho2,?_⟩
  rw[e];exact h2 hw
def sIx (n d:Nat):Option Int->Nat
 | none=>d
 | some v=>if v < 0 then (v+(n:Int)).toNat else min v.toNat n
theorem sIx_none (n d:Nat):sIx n d none=d:=rfl
theorem sIx_nat (n d k:Nat):sIx n d (some (k:Int))=min k n:=by
 show (if (k:Int) < 0 then ((k:Int)+(n:Int)).toNat else min (k:Int).toNat n)=min k n;rw[if_neg (by omega),abr]
theorem FX (n d:Nat) (hd:d<=n) (o:Option Int):sIx n d o<=n:=by
 cases o with
 | none=>exact hd
 | some v=>
  show (if v < 0 then (v+(n:Int)).toNat else min v.toNat n)<=n
  by_cases hv:v < 0
  ·rw[if_pos hv];omega
  ·rw[if_neg hv];exact Nat.min_le_right _ _
theorem xO (v:Int) (n d:Nat):(if v < 0 then max (v+(n:Int)) 0 else min v (n:Int))=((sIx n d (some v):Nat):Int):=by
 show (if v < 0 then max (v+(n:Int)) 0 else min v (n:Int))=(((if v < 0 then (v+(n:Int)).toNat else min v.toNat n):Nat):Int)
 by_cases hv:v < 0
 ·simp only [if_pos hv];omega
 ·simp only [if_neg hv];omega
theorem w4 (lo hi:Option Int) (n:Nat):Builtin.Slice.sliceAdjust lo hi 1 (n:Int)=(((sIx n 0 lo:Nat):Int),((sIx n n hi:Nat):Int)):=by
 have h1:¬ ((1:Int) < 0):=by omega
 unfold Builtin.Slice.sliceAdjust;simp only [h1,if_false];refine Prod.ext ?_ ?_
 ·cases lo with
  | none=>rfl
  | some v=>exact xO v n 0
 ·cases hi with
  | none=>rfl
  | some v=>exact xO v n n
theorem vC (i j:Nat):Builtin.Slice.slicePlaces (i:Int) (j:Int) 1=j - i:=by
 unfold Builtin.Slice.slicePlaces;have h1:(1:Int) > 0:=by omega
 simp only [h1,if_true,Int.ediv_one]
 split <;> omega
theorem o5 {v:Value}{o:Option Int}{Q:Option Int->Shared->Prop} (p:IsPart v o) (h:Q o s):wpAny (model prog w) A (Builtin.Slice.slicePartIndex v) Q E s:=by
 cases p with
 | none=>exact slicePart_none h
 | int i t=>exact slicePart_int h
theorem lL {sl:Addr}{vl vu:Value}{lo hi:Option Int}{n:Nat}{Q:Int×Int×Nat->Shared->Prop} (hs:s.heap.IsSliceOf sl vl vu .none) (pl:IsPart vl lo) (pu:IsPart vu hi)
  (h:Q (((sIx n 0 lo:Nat):Int),1,sIx n n hi - sIx n 0 lo) s):wpAny (model prog w) A (Builtin.Slice.sliceApplied (.ref sl) (pure (n:Int))) Q E s:=by
 obtain⟨os,hos,hcs,hds⟩:=id hs;unfold Builtin.Slice.sliceApplied Builtin.Slice.sliceFields;refine aaa (aaa (abj hos hds (x:=vl) rfl (aaa (abj hos hds (x:=vu) rfl (aaa (abj hos hds (x:=.none) rfl (aae ?_)))))));refine aaa (slicePart_none ?_);show wpAny _ _ (if ((1:Int) == 0)=true then _ else _) _ _ s;rw[if_neg (by decide)];refine aaa (o5 pl (aaa (o5 pu (aaa (aae ?_)))));show wpAny _ _ (match Builtin.Slice.sliceAdjust lo hi 1 (n:Int) with | (lo,hi)=>pure (lo,(1:Int),Builtin.Slice.slicePlaces lo hi 1)) _ _ s;rw[w4 lo hi n];show wpAny _ _ (pure (((sIx n 0 lo:Nat):Int),(1:Int),Builtin.Slice.slicePlaces ((sIx n 0 lo:Nat):Int) ((sIx n n hi:Nat):Int) 1)) _ _ s;rw[vC];exact aae h
theorem AJ (xs:Array Value) (i k:Nat):((List.range k).filterMap λ (m:Nat)=>xs[((i:Int)+(m:Int) * 1).toNat]?).toArray=((xs.toList.drop i).take k).toArray:=by
 have e:(λ (m:Nat)=>xs[((i:Int)+(m:Int) * 1).toNat]?)=λ m=>xs[i+m]?:=by
  funext m;have:((i:Int)+(m:Int) * 1).toNat=i+m:=by omega
  rw[this]
 rw[e];have:=pick_run xs i k;rw[List.filterMap_map] at this;have e2:((λ x=>xs[x]?) ∘ λ x=>i+x)=λ m=>xs[i+m]?:=rfl;rw[e2] at this;rw[this]
theorem getItem_tuple_cut {t sl:Addr}{items:Array Value}{vl vu:Value}{lo hi:Option Int}{Q:Value->Shared->Prop} (ht:IsTup s.heap t items) (hs:s.heap.IsSliceOf sl vl vu .none) (pl:IsPart vl lo) (pu:IsPart vu hi)
  (hw:¬ (sIx items.size 0 lo=0/\sIx items.size items.size hi=items.size))
  (h:Q (.ref s.heap.objs.size) { s with heap:=s.heap.push { cls:=.type "tuple",data:=.seq ((items.toList.drop (sIx items.size 0 lo)).take (sIx items.size items.size hi - sIx items.size 0 lo)).toArray } })
  (hsz:items.size<=sizeLine):wpAny (model prog w) A (getItem (.ref t) (.ref sl)) Q E s:=by
 have htake:sizeOk (.seq ((items.toList.drop (sIx items.size 0 lo)).take (sIx items.size items.size hi - sIx items.size 0 lo)).toArray):=by
  show ((items.toList.drop (sIx items.size 0 lo)).take (sIx items.size items.size hi - sIx items.size 0 lo)).toArray.size<=sizeLine;rw[aah,aat,List.length_drop,aap];omega
 have hj:sIx items.size items.size hi<=items.size:=FX _ _ (aaj _) hi;obtain⟨os,hos,hcs,hds⟩:=id hs;have hTs:s.TypeIs (.ref sl) "slice" := ⟨os,hos,hcs⟩;unfold getItem
 try with_reducible refine abf ?_
 first | refine aaa (aae ?_) | skip
 refine aaa (wpAny_sequenceKey ht.typeIs (by decide) ?_);refine aaa (wpAny_callSpecial?_slot (name:=Str.ofString "__getitem__") ht.typeIs PyProof.Rows.slot_tuple_getitem
  (wpAny_call_entry PyProof.Rows.slot_tuple_getitem ht.typeIs entry_tuple_getitem ?_ (args_tuple_getitem _ _)))
 show wpAny _ _ (Builtin.Tuple.tupleItemsOf (.ref t) >>= _) _ _ s;refine aaa (tupleItemsOf_ ht ?_);refine aaa (wpAny_typeOf hTs ?_);rw[if_pos (by decide)];refine aaa (lL hs pl pu ?_);have hno:¬ ((((sIx items.size 0 lo:Nat):Int) == 0 && (1:Int) == 1 && (sIx items.size items.size hi - sIx items.size 0 lo) == items.size)=true):=by
  intro q;rw[Bool.and_eq_true,Bool.and_eq_true] at q;have q1:((sIx items.size 0 lo:Nat):Int)=0:=eq_of_beq q.1.1;have q2:sIx items.size items.size hi - sIx items.size 0 lo=items.size:=eq_of_beq q.2;exact hw ⟨by omega,by omega⟩
 show wpAny _ _ (if (((sIx items.size 0 lo:Nat):Int) == 0 && (1:Int) == 1 && (sIx items.size items.size hi - sIx items.size 0 lo) == items.size)=true then _ else _) _ _ s;rw[if_neg hno,AJ]
 first
  | exact aaa (m:=Builtin.Tuple.tupleExact _) (wpAny_newObj_type (aae ⟨_,rfl,aae h⟩) htake)
  | exact aaa (m:=Builtin.Tuple.tupleExact _) (wpAny_newObj_type (aaa (aae (aae ⟨_,rfl,aae h⟩))) htake)
  | exact aaa (aaa (m:=Builtin.Tuple.tupleExact _) (wpAny_newObj_type (aae (aae ⟨_,rfl,aae h⟩)) htake))
  | exact aaa (aaa (m:=Builtin.Tuple.tupleExact _) (wpAny_newObj_type (aae ⟨_,rfl,aae h⟩) htake))
end
end HT
namespace L2
open PySem PySem.Spec PyProof.Rows
abbrev TO:=St->Hp->(Option Int->Hp->Prop)->Prop
def PO (X:Cx) (e:Option Expr) (t:TO):Prop:=
 ∀ (pins:List (Addr×Obj)) (s:Shared) (σ:St) (H:Hp) (Q:Option Int->Hp->Prop),Inv X pins σ H s->t σ H Q->
  wpAny (model X.prog X.w) X.A (evalPart e X.env) (λ u s'=>∃ o H',Inv X pins σ H' s'/\IsPart u o/\Q o H') X.xe s
def D5:TO:=λ _ H Q=>Q none H
def HR (t:TE):TO:=λ σ H Q=>t σ H λ x H1=>∃ i,x=.int i/\Q (some i) H1
theorem oQ {ns:List Int}:∀ {us:List Value},bI (ns.map V.int) us->IntsAre us ns:=by
 induction ns with
 | nil=>intro us r;rw[acl] at r;cases r;exact .nil
 | cons n ns ih=>
  intro us r;rw[abe] at r;cases r with
  | cons r1 r2=>
   obtain⟨t,e⟩:=r1;subst e;exact .cons n t (ih r2)
section
variable {X:Cx}{e:Expr}{te:TE}{lo hi:Option Expr}{tl th:TO}{pos p2:Pos}
theorem iZ:PO X none D5:=by
 intro pins s σ H Q I h;rw[evalPart_none];exact aae ⟨none,H,I,.none,h⟩
theorem iY (h:PE X e te):PO X (some e) (HR te):=by
 intro pins s σ H Q I hw;rw[evalPart_some];refine cY (h pins s σ H _ I hw) λ u s1 ⟨x,H1,I1,r1,q1⟩=>?_;obtain⟨i,rfl,q⟩:=q1;obtain⟨t,rfl⟩:=r1;exact⟨some i,H1,I1,.int i t,q⟩
def JG (X:Cx) (r:V->Option Int->Option Int->Hp->VK->Prop):Prop:=
 ∀ (pins:List (Addr×Obj)) (s:Shared) (σ:St) (H:Hp) (x:V) (v vl vu:Value) (lo hi:Option Int) (sl:Addr) (Q:VK),Inv X pins σ H s->bG x v->s.heap.IsSliceOf sl vl vu .none->IsPart vl lo->IsPart vu hi->r x lo hi H Q->
  ∃ T id,typeLookup (.type T) "__getitem__" = pure (some (.builtin id))/\s.TypeIs v T/\wpAny (model X.prog X.w) X.A (getItem v (.ref sl)) (EP X pins σ Q) X.xe s
def tSl (r:V->Option Int->Option Int->Hp->VK->Prop) (te:TE) (tl th:TO):TE:=λ σ H Q=>te σ H λ x H1=>tl σ H1 λ l H2=>th σ H2 λ u H3=>r x l u H3 Q
theorem gE {r:V->Option Int->Option Int->Hp->VK->Prop} (hr:JG X r) (he:PE X e te) (hl:PO X lo tl) (hu:PO X hi th):PE X (.Subscript e (.Slice lo hi none p2) pos) (tSl r te tl th):=by
 intro pins s σ H Q I h;refine Subscript_ (cY (he pins s σ H _ I h) λ v s1 ⟨x,H1,I1,r1,q1⟩=>?_);refine wpAny_Slice (cY (hl pins s1 σ H1 _ I1 q1) λ vl s2 ⟨l,H2,I2,pl,q2⟩=>cY (hu pins s2 σ H2 _ I2 q2) λ vu s3 ⟨u,H3,I3,pu,q3⟩=>?_);rw[evalPart_none];refine aae ?_;have I4:Inv X pins σ H3 { s3 with heap:=s3.heap.push { cls:=.type "slice",data:=.fields #[vl,vu,.none] } }:=I3.kept (t':=s3.toks) λ b ob q=>aac _ q;obtain⟨T,id,hT,ht,hg⟩:=hr pins { s3 with heap:=s3.heap.push { cls:=.type "slice",data:=.fields #[vl,vu,.none] } } σ H3 x v vl vu l u s3.heap.objs.size Q I4 r1 (Heap.IsSliceOf.new ..) pl pu q3;show wpAny (model X.prog X.w) X.A (subscriptTail e (.Slice lo hi none p2) v (.ref s3.heap.objs.size)) (EP X pins σ Q) X.xe { s3 with heap:=s3.heap.push { cls:=.type "slice",data:=.fields #[vl,vu,.none] } };exact tail_any (ops:=[.ref s3.heap.objs.size,v]) ht hT hg (by with_unfolding_all rfl)
def jH (xs:List V) (lo hi:Option Int):List V:=(xs.drop (HT.sIx xs.length 0 lo)).take (HT.sIx xs.length xs.length hi - HT.sIx xs.length 0 lo)
theorem mG (xs:List V) (lo hi:Option Int):(jH xs lo hi).length<=xs.length:=by
 unfold jH;rw[aat,List.length_drop];omega
def IA (K:aab):V->Option Int->Option Int->Hp->VK->Prop:=λ x lo hi H Q=>∃ a xs,x=.ref a/\bM K H a xs/\
 ¬ (HT.sIx xs.length 0 lo=0/\HT.sIx xs.length xs.length hi=xs.length)/\∀ p,H p=none->Q (.ref p) (upd H p (.tup (jH xs lo hi)))
theorem FU:JG X (IA X.K):=by
 intro pins s σ H x v vl vu lo hi sl Q I rx hs pl pu h;obtain⟨a,xs,rfl,hx,hw,q⟩:=h;cases rx;obtain⟨its,r,ht,hz⟩:=I.tuple hx;have hlen:its.toArray.size=xs.length:=by rw[aah];exact r.length.symm
 refine⟨"tuple",_,PyProof.Rows.slot_tuple_getitem.lookup,ht.typeIs,?_⟩;refine HT.getItem_tuple_cut ht hs pl pu (by rw[hlen];exact hw) ?_ (by rw[hlen];exact hz);rw[hlen];refine⟨.ref s.heap.objs.size,_,I.laid (t':=s.toks) (o:=.tup (jH xs lo hi)) (λ b ob q=>aac _ q) (aaj _) ?_,rfl,q _ (I.hok.fresh (aaj _))⟩;exact⟨acb (mG xs lo hi) hz,_,(r.drop (HT.sIx xs.length 0 lo)).take (HT.sIx xs.length xs.length hi - HT.sIx xs.length 0 lo),IsTup.new _ _⟩
def EQ (K:aab):R2:=λ x y H Q=>∃ a b xs ys,x=.ref a/\y=.ref b/\bM K H a xs/\bM K H b ys/\xs≠[]/\xs.length+ys.length<=sizeLine/\
 (ys=[]->Q (.ref a) H)/\(ys≠[]->∀ p,H p=none->Q (.ref p) (upd H p (.tup (xs++ys))))
theorem bI.nil_iff {xs:List V}{us:List Value} (r:bI xs us):us=[]↔xs=[]:=by
 cases r with
 | nil=>simp
 | cons _ _=>simp
theorem wQ:hJ X (binaryOp .Add) (EQ X.K):=by
 intro pins s σ H x y v u Q I rx ry h;obtain⟨a,b,xs,ys,rfl,rfl,ha,hb,hx,hz,q1,q2⟩:=h;cases rx;cases ry;obtain⟨its,r1,p1,_⟩:=I.tuple ha;obtain⟨its2,r2,p2,_⟩:=I.tuple hb;refine HT.cat_tup p1 p2 (λ z=>hx (r1.nil_iff.mp z)) (λ z=>⟨.ref a,H,I,rfl,q1 (r2.nil_iff.mp z)⟩) (λ z=>?_) (by rw[<- r1.length,<- r2.length];exact hz);refine⟨.ref s.heap.objs.size,_,I.laid (t':=s.toks) (o:=.tup (xs++ys)) (λ b ob q=>aac _ q) (aaj _) ?_,rfl,q2 (λ w=>z (r2.nil_iff.mpr w)) _ (I.hok.fresh (aaj _))⟩;exact⟨by rw[aaw];exact hz,_,r1.append r2,IsTup.new _ _⟩
end
def BC (n:Nat) (i:Int):Option Nat:=if 0<=i then (if i < n then some i.toNat else none) else if -(n:Int)<=i then some (i+n).toNat else none
def CM {az:Type} (xs:List az) (i:Int):Option az:=(BC xs.length i).bind λ j=>xs[j]?
theorem wY {n:Nat}{i:Int}{j:Nat} (h:BC n i=some j):seqIndex? i n=some j/\j < n/\-(n:Int)<=i/\i < n:=by
 unfold BC at h
 by_cases h0:0<=i
 ·rw[if_pos h0] at h
  by_cases h1:i < n
  ·rw[if_pos h1] at h;have e:i.toNat=j:=abu h;exact⟨by rw[seqIndex_of h0 h1,e],by omega,by omega,h1⟩
  ·rw[if_neg h1] at h;cases h
 ·rw[if_neg h0] at h
  by_cases h1 : -(n:Int)<=i
  ·rw[if_pos h1] at h;have e:(i+n).toNat=j:=abu h;exact⟨by rw[seqIndex_neg (by omega) h1,e],by omega,h1,by omega⟩
  ·rw[if_neg h1] at h;cases h
theorem sG {az:Type}{xs:List az}{i:Int}{v:az} (h:CM xs i=some v):∃ j,seqIndex? i xs.length=some j/\xs[j]? = some v/\j < xs.length/\-(xs.length:Int)<=i/\i < xs.length:=by
 unfold CM at h;cases e:BC xs.length i with
 | none=>rw[e] at h;cases h
 | some j=>
  rw[e] at h;obtain⟨h1,h2,h3,h4⟩:=wY e;exact⟨j,h1,h,h2,h3,h4⟩
theorem bW {az:Type}{xs:List az}{j:Nat}{v:az} (h:xs[j]? = some v):CM xs (j:Int)=some v:=by
 have hj:j < xs.length:=(aai.mp h).1;have e:BC xs.length (j:Int)=some j:=by
  unfold BC;rw[if_pos (by omega),if_pos (by omega)];simp
 unfold CM;rw[e];exact h
theorem CL {az:Type} (xs:List az) (v:az):CM (xs++[v]) (-1)=some v:=by
 have hl:(xs++[v]).length=xs.length+1:=by simp
 have e:BC (xs++[v]).length (-1)=some xs.length:=by
  unfold BC;rw[hl,if_neg (by decide),if_pos (by omega)];congr 1;omega
 unfold CM;rw[e];show (xs++[v])[xs.length]? = some v;simp
def EA (b:Expr):Prop:=∀ o i,subscripted b false o i=operate [o,i] (getItem o i)
def CY (X:Cx) (r:R2):Prop:=
 ∀ (value slice:Expr) (pins:List (Addr×Obj)) (s:Shared) (σ:St) (H:Hp) (x y:V) (v u:Value) (Q:VK),Inv X pins σ H s->bG x v->bG y u->r x y H Q->
  subscripted slice false v u=operate [v,u] (getItem v u)->wpAny (model X.prog X.w) X.A (subscriptTail value slice v u) (EP X pins σ Q) X.xe s
def MtR (X:Cx) (id:String) (r:V->List V->Hp->VK->Prop):Prop:=
 ∀ (pins:List (Addr×Obj)) (s:Shared) (σ:St) (H:Hp) (x:V) (xs:List V) (v:Value) (us:List Value) (Q:VK),Inv X pins σ H s->bG x v->bI xs us->r x xs H Q->
  wpAny (model X.prog X.w) X.A (call (.builtin id) (v::us)) (EP X pins σ Q) X.xe s
section
variable {X:Cx}{a b:Expr}{ta tb:TE}{pos:Pos}
theorem CY.or {r r':R2} (h:CY X r) (h':CY X r'):CY X (λ x y H Q=>r x y H Q\/r' x y H Q):=by
 intro value slice pins s σ H x y v u Q I rx ry q hs;rcases q with q | q
 ·exact h value slice pins s σ H x y v u Q I rx ry q hs
 ·exact h' value slice pins s σ H x y v u Q I rx ry q hs
theorem aS {r:R2} (hr:CY X r) (ha:PE X a ta) (hb:PE X b tb) (hs:EA b):PE X (.Subscript a b pos) (gN r ta tb):=by
 intro pins s σ H Q I h;exact Subscript_ (GX ha hb I h λ v u s2 x y H2 I2 rx ry q=>hr a b pins s2 σ H2 x y v u Q I2 rx ry q (hs _ _))
def IH (K:aab):R2:=λ x y H Q=>∃ p xs i v,x=.ref p/\y=.int i/\bN K H p xs/\CM xs i=some v/\Q v H
def IF (K:aab):R2:=λ x y H Q=>∃ p xs i v,x=.ref p/\y=.int i/\bM K H p xs/\CM xs i=some v/\Q v H
def IG:R2:=λ x y H Q=>∃ z i c,x=.str z/\y=.int i/\z.length<=sizeLine/\CM z.cps.toList i=some c/\Q (.str ⟨#[c]⟩) H
theorem E2:CY X (IH X.K):=by
 intro value slice pins s σ H x y v u Q I rx ry h hs;obtain⟨p,xs,i,z,rfl,rfl,hq,he,q⟩:=h;cases rx;obtain⟨t,rfl⟩:=ry;obtain⟨its,r,pl,hz⟩:=I.list hq;obtain⟨j,h1,h2,h3,h4,h5⟩:=sG he;obtain⟨w,ew,rw'⟩:=r.get h2;have hl:=r.length;have hn:=oK;have fin:EP X pins σ Q w s:=⟨z,H,I,rw',q⟩
 by_cases h0:0<=i
 ·have hj:i.toNat=j:=by
   rw[seqIndex_of h0 h5] at h1;exact abu h1
  exact item_listR pl.isList h0 (by omega) (by rw[hj];simpa using ew) fin hs
 ·have hj:(i+(its.toArray.size:Int)).toNat=j:=by
   rw[seqIndex_neg (by omega) h4] at h1;rw[aah,<- hl];exact abu h1
  exact subscriptTail_builtinR (x:=w) pl.isList.typeIs slot_list_getitem.lookup
   (wpAny_getItem_list_neg (Q:=λ r s'=>r=w/\EP X pins σ Q r s') pl.isList (by omega) (by rw[aah] <;> omega) (by omega) (by rw[hj];simpa using ew) ⟨rfl,fin⟩) hs
theorem GJ:CY X (IF X.K):=by
 intro value slice pins s σ H x y v u Q I rx ry h hs;obtain⟨p,xs,i,z,rfl,rfl,hq,he,q⟩:=h;cases rx;obtain⟨t,rfl⟩:=ry;obtain⟨its,r,pl,hz⟩:=I.tuple hq;obtain⟨j,h1,h2,h3,h4,h5⟩:=sG he;obtain⟨w,ew,rw'⟩:=r.get h2;have hl:=r.length;have hn:=oK;have fin:EP X pins σ Q w s:=⟨z,H,I,rw',q⟩;exact subscriptTail_builtinR (x:=w) pl.typeIs slot_tuple_getitem.lookup
  (getItem_tuple (j:=j) (Q:=λ r s'=>r=w/\EP X pins σ Q r s') pl (by omega) (by omega) (by rw[aah,<- hl];exact h1) (by simpa using ew) ⟨rfl,fin⟩) hs
theorem GK:CY X IG:=by
 intro value slice pins s σ H x y v u Q I rx ry h hs;obtain⟨z,i,c,rfl,rfl,hz,he,q⟩:=h;obtain⟨t,rfl⟩:=rx;obtain⟨t',rfl⟩:=ry;obtain⟨j,h1,h2,h3,h4,h5⟩:=sG he;have hl:z.cps.toList.length=z.length:=by simp [Str.length]
 rw[hl] at h1 h4 h5;have hn:=oK;exact tail_any (typeIs_str s z t) slot_str_getitem.lookup (getItem_str (c:=c) (by
  have e1:decide (i < -(2 ^ 63:Int))=false:=abo (by omega);have e2:decide (i ≥ 2 ^ 63)=false:=abo (by omega);rw[e1,e2,Bool.or_false]) (by rw[h1];simpa using h2) ⟨.str ⟨#[c]⟩,H,I.tok _,⟨_,rfl⟩,q⟩) hs
def uY (K:aab):R2:=λ x y H Q=>IH K x y H Q\/IF K x y H Q\/IG x y H Q
theorem GL:CY X (uY X.K):=E2.or (GJ.or GK)
theorem vQ (its:List Value) (n j:Nat) (u:Value):Obj.mapSeq (·.setIfInBounds j u) { cls:=.type "list",data:=.seq its.toArray n }={ cls:=.type "list",data:=.seq (its.set j u).toArray n }:=by
 simp [Obj.mapSeq]
theorem Inv.lst {pins:List (Addr×Obj)}{σ:St}{H:Hp}{s:Shared}{p:Addr}{xs:List V} (I:Inv X pins σ H s) (h:H p=some (.lst xs)) :
  ∃ (its:List Value) (n:Nat),bI xs its/\s.heap.get? p=some { cls:=.type "list",data:=.seq its.toArray n }/\xs.length<=sizeLine:=by
 obtain⟨z,its,n,r,e⟩:=I.hok p _ h;exact⟨its,n,r,e,z⟩
theorem Inv.lstUpd {pins:List (Addr×Obj)}{σ:St}{H:Hp}{s:Shared}{p:Addr}{xs ys:List V}{its its':List Value}{n n':Nat}{f:Obj->Obj} (I:Inv X pins σ H s) (h:H p=some (.lst xs))
  (ho:s.heap.get? p=some { cls:=.type "list",data:=.seq its.toArray n }) (hf:f { cls:=.type "list",data:=.seq its.toArray n }={ cls:=.type "list",data:=.seq its'.toArray n' }) (r:bI ys its') (hz:ys.length<=sizeLine) (t:Nat) :
  Inv X pins σ (upd H p (.lst ys)) { s with heap:=s.heap.update p f,toks:=t }:=by
 have e:(s.heap.update p f).get? p=some { cls:=.type "list",data:=.seq its'.toArray n' }:=by
  rw[ack f ho (by rw[hf] <;> rfl),hf]
 refine I.write (x:=p) (e:=p) (by rw[h];trivial) (.inl rfl) (λ b u hb q=>(acm _ _ (Ne.symm hb)).trans q) ⟨_,e⟩ ?_;exact⟨hz,its',n',r,e⟩
def tD:V->V->V->Hp->(Hp->Prop)->Prop:=λ o i v H Q=>∃ p xs k j,o=.ref p/\i=.int k/\H p=some (.lst xs)/\BC xs.length k=some j/\Q (upd H p (.lst (xs.set j v)))
theorem fG:GY X tD:=by
 intro pins s σ H o i v ov iv u Q I ro ri rv h;obtain⟨p,xs,k,j,rfl,rfl,hp,hj,q⟩:=h;cases ro;obtain⟨t,rfl⟩:=ri;obtain⟨its,n,r,ho,hz⟩:=I.lst hp;obtain⟨h1,h2,h3,h4⟩:=wY hj;have hl:=r.length;have hn:=oK;have I':Inv X pins σ (upd H p (.lst (xs.set j v))) { s with heap:=s.heap.update p (Obj.mapSeq (·.setIfInBounds j u)) }:=
  I.lstUpd hp ho (vQ its n j u) (r.set rv j) (by rw[List.length_set];exact hz) s.toks
 by_cases h0:0<=k
 ·have hk:k.toNat=j:=by
   rw[seqIndex_of h0 h4] at h1;exact abu h1
  exact PySem.W.ki_setAt ho h0 (by omega) (by rw[aah,<- hl];exact h4) (by rw[hk];exact⟨_,I',q⟩)
 ·have hk:(k+(its.toArray.size:Int)).toNat=j:=by
   rw[seqIndex_neg (by omega) h3] at h1;rw[aah,<- hl];exact abu h1
  exact PySem.W.ki_setBack ho (by omega) (by rw[aah,<- hl];exact h3) (by omega) (by rw[hk];exact⟨_,I',q⟩)
theorem qW (lo hi:Option Int) (n:Nat):(sliceBounds lo hi none n).1=((HT.sIx n 0 lo:Nat):Int)/\(sliceBounds lo hi none n).2.1=((HT.sIx n n hi:Nat):Int)/\(sliceBounds lo hi none n).2.2=1:=by
 refine⟨?_,?_,rfl⟩
 ·cases lo with
  | none=>simp [sliceBounds,HT.sIx]
  | some i=>
   simp only [sliceBounds,HT.sIx,Option.getD_none,show (1:Int) > 0 by decide,if_true]
   by_cases h:i < 0
   ·simp only [h,if_true] <;> omega
   ·simp only [h,if_false] <;> omega
 ·cases hi with
  | none=>simp [sliceBounds,HT.sIx]
  | some i=>
   simp only [sliceBounds,HT.sIx,Option.getD_none,show (1:Int) > 0 by decide,if_true]
   by_cases h:i < 0
   ·simp only [h,if_true] <;> omega
   ·simp only [h,if_false] <;> omega
theorem pE (its:List Value) (lo hi:Option Int):slicePick its.toArray lo hi none=((its.drop (HT.sIx its.length 0 lo)).take (HT.sIx its.length its.length hi - HT.sIx its.length 0 lo)).toArray:=by
 obtain⟨h1,h2,h3⟩:=qW lo hi its.toArray.size;unfold slicePick;rw[h1,h2,h3];simp only [sliceRange_one,pick_run,aah] <;> rfl
def IB (K:aab):V->Option Int->Option Int->Hp->VK->Prop:=λ x lo hi H Q=>∃ a xs,x=.ref a/\bN K H a xs/\∀ p,H p=none->Q (.ref p) (upd H p (.lst (jH xs lo hi)))
theorem D8:JG X (IB X.K):=by
 intro pins s σ H x v vl vu lo hi sl Q I rx hs pl pu h;obtain⟨a,xs,rfl,hx,q⟩:=h;cases rx;obtain⟨its,r,ht,hz⟩:=I.list hx;have hlen:=r.length;refine⟨"list",_,slot_list_getitem.lookup,ht.isList.typeIs,?_⟩;refine wpAny_getItem_list_slice ht.isList hs pl pu .none (by simp) ?_ (by rw[aah] <;> omega);rw[pE,<- hlen];refine⟨.ref s.heap.objs.size,_,I.laid (t':=s.toks) (o:=.lst (jH xs lo hi)) (λ b ob q=>aac _ q) (aaj _) ?_,rfl,q _ (I.hok.fresh (aaj _))⟩;exact⟨acb (mG xs lo hi) hz,_,0,(r.drop (HT.sIx xs.length 0 lo)).take (HT.sIx xs.length xs.length hi - HT.sIx xs.length 0 lo),aag _ rfl⟩
def gK:V->Bool
 | .non=>true
 | .bl _=>true
 | .int _=>true
 | .str _=>true
 | _=>false
def yZ:V->V->Bool
 | .non,.non=>true
 | .bl a,.bl b=>a == b
 | .bl a,.int b=>(if a then 1 else 0) == b
 | .int a,.bl b=>a == (if b then 1 else 0)
 | .int a,.int b=>a == b
 | .str a,.str b=>a == b
 | _,_=>false
theorem GS {A:Around}{s:Shared}{y x:V}{u v:Value} (ry:bG y u) (rx:bG x v) (fy:gK y=true) (fx:gK x=true):SeqAt.EqAt A s u v (yZ y x):=by
 cases y with
 | non=>
  cases ry;cases x with
  | non=>cases rx;exact SeqAt.EqAt.same _
  | bl b=>cases rx;exact SeqAt.EqAt.none_bool b
  | int b=>obtain⟨t,rfl⟩:=rx;exact SeqAt.EqAt.none_int b t
  | str b=>obtain⟨t,rfl⟩:=rx;exact SeqAt.EqAt.none_str b t
  | _=>exact absurd (show false=true from fx) aal
 | bl a=>
  cases ry;cases x with
  | non=>cases rx;exact SeqAt.EqAt.bool_none a
  | bl b=>cases rx;exact SeqAt.EqAt.bool_bool a b
  | int b=>obtain⟨t,rfl⟩:=rx;exact SeqAt.EqAt.bool_int a b t
  | str b=>obtain⟨t,rfl⟩:=rx;exact SeqAt.EqAt.bool_str a b t
  | _=>exact absurd (show false=true from fx) aal
 | int a=>
  obtain⟨t',rfl⟩:=ry;cases x with
  | non=>cases rx;exact SeqAt.EqAt.int_none a t'
  | bl b=>cases rx;exact SeqAt.EqAt.int_bool a t' b
  | int b=>obtain⟨t,rfl⟩:=rx;exact SeqAt.EqAt.int_int a t' b t
  | str b=>obtain⟨t,rfl⟩:=rx;exact SeqAt.EqAt.int_str a t' b t
  | _=>exact absurd (show false=true from fx) aal
 | str a=>
  obtain⟨t',rfl⟩:=ry;cases x with
  | non=>cases rx;exact SeqAt.EqAt.str_none a t'
  | bl b=>cases rx;exact SeqAt.EqAt.str_bool a t' b
  | int b=>obtain⟨t,rfl⟩:=rx;exact SeqAt.EqAt.str_int a t' b t
  | str b=>obtain⟨t,rfl⟩:=rx;exact SeqAt.EqAt.str_str a t' b t
  | _=>exact absurd (show false=true from fx) aal
 | _=>exact absurd (show false=true from fy) aal
def zP (x:V) (u:Value):Bool:=match u with
 | .none=>yZ .non x
 | .bool b=>yZ (.bl b) x
 | .int i _=>yZ (.int i) x
 | .str z _=>yZ (.str z) x
 | _=>false
theorem rW {x y:V}{u:Value} (r:bG y u) (f:gK y=true):zP x u=yZ y x:=by
 cases y with
 | non=>cases r;rfl
 | bl b=>cases r;rfl
 | int i=>obtain⟨t,rfl⟩:=r;rfl
 | str z=>obtain⟨t,rfl⟩:=r;rfl
 | _=>exact absurd (show false=true from f) aal
theorem sK {x:V}:∀ {xs:List V}{us:List Value},bI xs us->xs.all gK=true->us.any (zP x)=xs.any λ y=>yZ y x
 | _,_,.nil,_=>rfl
 | y::xs,u::us,.cons r t,f=>by
  rw[List.all_cons,Bool.and_eq_true] at f;rw[List.any_cons,List.any_cons,rW r f.1,sK t f.2]
theorem kY {A:Around}{s:Shared}{x:V}{v:Value} (rx:bG x v) (fx:gK x=true):∀ {xs:List V}{us:List Value},bI xs us->xs.all gK=true->∀ u∈us,SeqAt.EqAt A s u v (zP x u)
 | _,_,.nil,_=>λ u hu=>by cases hu
 | y::xs,u::us,.cons r t,f=>λ u' hu=>by
  rw[List.all_cons,Bool.and_eq_true] at f;rcases aax.mp hu with rfl | hu
  ·rw[rW r f.1];exact GS r rx f.1 fx
  ·exact kY rx fx t f.2 u' hu
def HG (x:V) (xs:List V):Bool:=xs.any λ y=>yZ y x
def rIn (K:aab) (neg:Bool):R2:=λ x y H Q=>∃ p xs,y=.ref p/\(bN K H p xs\/bM K H p xs)/\gK x=true/\xs.all gK=true/\Q (.bl (if neg then !HG x xs else HG x xs)) H
theorem yG:hJ X (compareOp .In) (rIn X.K false):=by
 intro pins s σ H x y v u Q I rx ry h;obtain⟨p,xs,rfl,hq,fx,fs,q⟩:=h;cases ry;rcases hq with hq | hq
 ·obtain⟨its,r,pl,hz⟩:=I.list hq;refine SeqAt.in_listAt (zP x) pl.isList (λ w hw=>kY rx fx r fs w (by simpa using hw)) ⟨.bl _,H,I,rfl,?_⟩;rw[show its.toArray.any (zP x)=its.any (zP x) by simp,sK r fs];exact q
 ·obtain⟨its,r,pl,hz⟩:=I.tuple hq;refine SeqAt.in_tupleAt (zP x) pl (λ w hw=>kY rx fx r fs w (by simpa using hw)) ⟨.bl _,H,I,rfl,?_⟩;rw[show its.toArray.any (zP x)=its.any (zP x) by simp,sK r fs];exact q
theorem sE:dY X (.builtin "len") (λ xs H Q=>∃ p ys,xs=[.ref p]/\(bN X.K H p ys\/bM X.K H p ys)/\Q (.int ys.length) H):=by
 intro pins s σ H xs us Q I r h;obtain⟨p,ys,rfl,hq,q⟩:=h;obtain⟨u,rfl,rx⟩:=nG r;cases rx;have hn:=oK;rcases hq with hq | hq
 ·obtain⟨its,r',pl,hz⟩:=I.list hq;have hlen:=r'.length;exact Calls.call_len_list pl.isList (by simp only [aah] <;> omega) ⟨.int ys.length,H,I.tok _,⟨s.toks+1,by rw[aah,hlen]⟩,q⟩
 ·obtain⟨its,r',pl,hz⟩:=I.tuple hq;have hlen:=r'.length;exact len_tuple pl (by simp only [aah] <;> omega) ⟨.int ys.length,H,I.tok _,⟨s.toks+1,by rw[aah,hlen]⟩,q⟩
theorem sD:dY X (.type "list") (λ xs H Q=>∃ p ys,xs=[.ref p]/\(bN X.K H p ys\/bM X.K H p ys)/\∀ l,H l=none->Q (.ref l) (upd H l (.lst ys))):=by
 intro pins s σ H xs us Q I r h;obtain⟨p,ys,rfl,hq,q⟩:=h;obtain⟨u,rfl,rx⟩:=nG r;cases rx;have fin:∀ (its:List Value),bI ys its->ys.length<=sizeLine->∀ (h':Heap) (c':Nat),(∀ b o',s.heap.get? b=some o'->h'.get? b=some o')->
   h'.get? s.heap.objs.size=some { cls:=.type "list",dict:=none,data:=.seq its.toArray c',slots:=#[] }->EP X pins σ Q (.ref s.heap.objs.size) { s with heap:=h' }:=λ its r' hz h' c' kp e=>
  ⟨.ref s.heap.objs.size,_,I.laid (t':=s.toks) kp (aaj _) (show cJ X.prog X.w _ h' _ (.lst ys) from ⟨hz,its,c',r',e⟩),rfl,q _ (I.hok.fresh (aaj _))⟩
 rcases hq with hq | hq
 ·obtain⟨its,r',pl,hz⟩:=I.list hq;have hlen:=r'.length;obtain⟨o,ho,hc,n,hd⟩:=pl.isList;exact call_list_seq p (.inl rfl) ho hc hd (λ h' c' kp e=>fin its r' hz h' c' kp e) (by simp only [aah] <;> omega)
 ·obtain⟨its,r',pl,hz⟩:=I.tuple hq;have hlen:=r'.length;obtain⟨o,ho,hc,n,hd⟩:=pl;exact call_list_seq p (.inr rfl) ho hc hd (λ h' c' kp e=>fin its r' hz h' c' kp e) (by simp only [aah] <;> omega)
theorem pM:dY X (.type "tuple") (λ xs H Q=>∃ p ys,xs=[.ref p]/\((bN X.K H p ys/\∀ l,H l=none->Q (.ref l) (upd H l (.tup ys)))\/(bM X.K H p ys/\Q (.ref p) H))):=by
 intro pins s σ H xs us Q I r h;obtain⟨p,ys,rfl,h⟩:=h;obtain⟨u,rfl,rx⟩:=nG r;cases rx;rcases h with ⟨hq,q⟩ | ⟨hq,q⟩
 ·obtain⟨its,r',pl,hz⟩:=I.list hq;have hlen:=r'.length;refine call_tuple_list pl.isList (λ h' kp=>?_) (by simp only [aah] <;> omega);have I1:Inv X pins σ H { s with heap:=h' }:=I.kept (t':=s.toks) kp;have I2:Inv X pins σ (upd H h'.objs.size (.tup ys)) { s with heap:=h'.push { cls:=.type "tuple",data:=.seq its.toArray } }:=
   I1.laid (t':=s.toks) (λ b o e=>aac _ e) (aaj _) (show cJ X.prog X.w _ _ _ (.tup ys) from ⟨hz,its,r',IsTup.new _ _⟩)
  exact⟨.ref h'.objs.size,_,I2,rfl,q _ (I1.hok.fresh (aaj _))⟩
 ·obtain⟨its,r',pl,hz⟩:=I.tuple hq;exact call_tuple_same pl ⟨.ref p,H,I,rfl,q⟩
def tyV (K:aab) (T:String) (x:V) (H:Hp):Prop:=match x with
 | .str _=>T = "str"
 | .int _=>T = "int"
 | .ref p=>(T = "list" /\ ∃ xs,bN K H p xs)\/(T = "tuple" /\ ∃ o,K.lookup p=some o/\o.cls=.type "tuple" /\ o.dict=none)\/
   (T = "dict" /\ ((∃ kvs,H p=some (.dK kvs))\/∃ kvs,H p=some (.dT kvs)))\/(T = "set" /\ ∃ S n,H p=some (.set S n))
 | _=>False
theorem FK {pins:List (Addr×Obj)}{σ:St}{H:Hp}{s:Shared}{T:String}{x:V}{v:Value} (I:Inv X pins σ H s) (r:bG x v) (ty:tyV X.K T x H) :
  s.TypeIs v T/\∀ a,v=.ref a->∃ ob,s.heap.get? a=some ob/\ob.dict=none:=by
 cases x with
 | str z=>
  obtain⟨t,rfl⟩:=r;cases (show T = "str" from ty);exact⟨typeIs_str s z t,λ _ e=>nomatch e⟩
 | int i=>
  obtain⟨t,rfl⟩:=r;cases (show T = "int" from ty);exact⟨typeIs_int s i t,λ _ e=>nomatch e⟩
 | ref p=>
  cases r;rcases ty with ⟨rfl,xs,hq⟩ | ⟨rfl,o,hk,hc,hd⟩ | ⟨rfl,hk⟩ | ⟨rfl,S,n,hk⟩
  ·obtain⟨its,_,pl,_⟩:=I.list hq;refine⟨pl.isList.typeIs,λ a e=>?_⟩;cases e;obtain⟨o,n,e,c,hd,_⟩:=pl;exact⟨o,e,hd⟩
  ·refine⟨⟨o,I.kIn p o hk,hc⟩,λ a e=>?_⟩;cases e;exact⟨o,I.kIn _ o hk,hd⟩
  ·have z:∃ o,s.heap.get? p=some o/\o.ExactDict:=by
    rcases hk with ⟨kvs,hk⟩ | ⟨kvs,hk⟩
    ·obtain⟨_,_,_,_,o,_,_,e,ex,_⟩:=I.hok p _ hk;exact⟨o,e,ex⟩
    ·obtain⟨_,_,_,_,o,_,_,e,ex,_⟩:=I.hok p _ hk;exact⟨o,e,ex⟩
   obtain⟨o,e,ex⟩:=z;refine⟨⟨o,e,ex.1⟩,λ a e2=>?_⟩;cases e2;exact⟨o,e,ex.2.1⟩
  ·obtain⟨o,_,_,_,e,ex,_⟩:=I.hok p _ hk;refine⟨⟨o,e,ex.1⟩,λ a e2=>?_⟩;cases e2;exact⟨o,e,ex.2.1⟩
 | _=>exact False.elim ty
def tBM (K:aab) (T:String) (r:V->List V->Hp->VK->Prop) (to:TE) (t:TA):TE:=λ σ H Q=>to σ H λ x H1=>tyV K T x H1/\t σ H1 λ xs H2=>r x xs H2 Q
variable {o e:Expr}{es:List Expr}{to:TE}{t:TA}{name:Str}{apos cpos:Pos}{T id:String}{r:V->List V->Hp->VK->Prop}
theorem IL (pa:PlainAttrs T) (slot:Slot T name id) (hty:typeOf (.builtin id)=pure (.type "method_descriptor")) (hm:MtR X id r) (ho:PE X o to) (ha:PA X (e::es) t)
  (hbase:attributeBase o name X.env (eval o X.env)=eval o X.env:=by rfl)
  (hfew:((backTo cpos (starEach (e::es) X.env)).all (λ x=>!x.1) && (backToKw cpos (keywordEach [] X.env)).all (λ x=>x.1.isSome)
   && decide ((e::es).length+([]:List Keyword).length+(if ([]:List Keyword).isEmpty then 0 else 1) < 30))=true:=by rfl)
  (hline:(apos.endLine == cpos.line)=true:=by rfl) (hs:starEach (e::es) X.env=(false,eval e X.env)::starEach es X.env:=by rfl) (hplain:(backTo cpos (starEach es X.env)).any (·.1)=false:=by rfl) :
  PE X (.Call (.Attribute o name apos) (e::es) [] cpos) (tBM X.K T r to t):=by
 intro pins s σ H Q I h;refine wpAny_Call_method_late hbase hfew hline rfl (cY (ho pins s σ H _ I h) λ v s1 ⟨x,H1,I1,r1,ty,q1⟩=>?_);obtain⟨h1,h2⟩:=FK I1 r1 ty;refine⟨T,id,pa,slot,hty,h1,h2,?_⟩;have hA:=ha cpos pins s1 σ H1 _ I1 q1;rw[hs] at hA ⊢;refine Calls.callWith_builtin (by show (false || (backTo cpos (starEach es X.env)).any (·.1))=false;rw[hplain] <;> rfl) (Calls.evalArgs_plain ?_);exact cY hA λ us s2 ⟨vs,H2,I2,r2,q2⟩=>hm pins s2 σ H2 x vs v us Q I2 r1 r2 q2
end
def MtM (X:Cx) (id:String) (r:V->List V->Hp->VK->Prop):Prop:=
 ∀ (pins:List (Addr×Obj)) (s:Shared) (σ:St) (H:Hp) (x:V) (xs:List V) (v:Value) (us:List Value) (Q:VK),Inv X pins σ H s->bG x v->bI xs us->r x xs H Q->
  wpAny (model X.prog X.w) X.A (call (.builtin id) (v::us)) (EP X pins σ Q) X.xe s
theorem bI.one {x:V}{us:List Value} (h:bI [x] us):∃ u,us=[u]/\bG x u:=nG h
theorem bI.two {x y:V}{us:List Value} (h:bI [x,y] us):∃ u v,us=[u,v]/\bG x u/\bG y v:=zS h
theorem bI.rep {xs:List V}{us:List Value} (h:bI xs us):∀ k:Nat,bI (List.replicate k xs).flatten (List.replicate k us).flatten
 | 0=>.nil
 | k+1=>by
  rw[List.replicate_succ,List.replicate_succ,List.flatten_cons,List.flatten_cons];exact bI.append h (bI.rep h k)
theorem qB (its:List Value):∀ (k:Nat) (acc:List Value),
  List.foldl (λ x1 x2=>x1++x2) acc.toArray (List.replicate k its.toArray)=(acc++(List.replicate k its).flatten).toArray
 | 0,acc=>by simp
 | k+1,acc=>by
  have e:acc.toArray++its.toArray=(acc++its).toArray:=by simp
  have e2:(acc++its)++(List.replicate k its).flatten=acc++(List.replicate (k+1) its).flatten:=by
   rw[List.replicate_succ,List.flatten_cons,abw]
  rw[<- e2,<- qB its k (acc++its),<- e,List.replicate_succ,List.foldl_cons]
section
variable {X:Cx}{pins:List (Addr×Obj)}{σ:St}{H:Hp}{s:Shared}{l b:Addr}{xs ys zs:List V}
theorem Inv.lset {its its':List Value}{n:Nat}{f:Array Value->Array Value}{t':Nat} (I:Inv X pins σ H s) (hH:H l=some (.lst xs))
  (e:s.heap.get? l=some { cls:=.type "list",data:=.seq its.toArray n }) (hf:f its.toArray=its'.toArray) (hv:bI ys its') (hz:ys.length<=sizeLine) :
  Inv X pins σ (upd H l (.lst ys)) { s with heap:=s.heap.update l (Obj.mapSeq f),toks:=t' }:=by
 have q:=PySem.IsL.update e f;rw[hf] at q;refine I.write (x:=l) (e:=l) (by rw[hH];exact trivial) (.inl rfl) (λ b' u hb hu=>(acm s.heap (Obj.mapSeq f) (Ne.symm hb)).trans hu) ⟨_,q⟩ ?_;exact⟨hz,its',_,hv,q⟩
theorem Inv.lnew {its:List Value}{t':Nat} (I:Inv X pins σ H s) (hv:bI ys its) (hz:ys.length<=sizeLine) :
  Inv X pins σ (upd H s.heap.objs.size (.lst ys)) { s with heap:=s.heap.push { cls:=.type "list",data:=.seq its.toArray },toks:=t' }:=
 I.laid (λ _ _ q=>aac _ q) (aaj _) ⟨hz,its,0,hv,aag _ rfl⟩
theorem Inv.fresh (I:Inv X pins σ H s):H s.heap.objs.size=none:=I.hok.fresh (aaj _)
theorem Inv.lstM (I:Inv X pins σ H s) (hH:H l=some (.lst xs)):xs.length<=sizeLine/\∃ (its:List Value) (n:Nat),bI xs its/\xs.length=its.length/\s.heap.get? l=some { cls:=.type "list",data:=.seq its.toArray n }:=by
 obtain⟨z,its,n,r,e⟩:=I.hok l _ hH;exact⟨z,its,n,r,r.length,e⟩
theorem AW {n:Nat} (h:n<=sizeLine):Builtin.List.listTooLong n=false:=by
 unfold Builtin.List.listTooLong;exact abo (by omega)
end
section
variable {X:Cx}
def DC:V->List V->Hp->VK->Prop:=λ x vs H Q=>∃ l xs y,x=.ref l/\vs=[y]/\H l=some (.lst xs)/\xs.length < sizeLine/\Q .non (upd H l (.lst (xs++[y])))
theorem cK:MtM X "list.append" DC:=by
 intro pins s σ H x vs v us Q I rx rv h;obtain⟨l,xs,y,rfl,rfl,hH,hz,q⟩:=h;cases rx;obtain⟨u,rfl,ru⟩:=rv.one;obtain⟨z,its,n,r,hl,e⟩:=I.lstM hH;refine call_meets F.slot_list_append ⟨_,e,rfl⟩ F.entry_list_append (F.args_list_append_2 _ _) (PySem.list_append l its.toArray n u (by rw[aah];omega)) ⟨e,?_⟩;refine⟨.non,_,I.lset (its':=its++[u]) hH e (by simp) (r.append (.cons ru .nil)) ?_,rfl,q⟩;rw[aaw,acp];omega
def DA:V->List V->Hp->VK->Prop:=λ x vs H Q=>∃ l b xs zs,x=.ref l/\vs=[.ref b]/\H l=some (.lst xs)/\H b=some (.lst zs)/\xs.length+zs.length<=sizeLine/\Q .non (upd H l (.lst (xs++zs)))
theorem yL:MtM X "list.extend" DA:=by
 intro pins s σ H x vs v us Q I rx rv h;obtain⟨l,b,xs,zs,rfl,rfl,hH,hB,hz,q⟩:=h;cases rx;obtain⟨u,rfl,ru⟩:=rv.one;cases ru;obtain⟨z,its,n,r,hl,e⟩:=I.lstM hH;obtain⟨z2,its2,n2,r2,hl2,e2⟩:=I.lstM hB;have hsz:its.toArray.size+its2.toArray.size<=sizeLine:=by rw[aah,aah];omega
 have hlong:¬ (!its.toArray.isEmpty && Builtin.List.listTooLong (its.toArray.size+its2.toArray.size))=true:=by
  rw[AW hsz,Bool.and_false];exact aal
 refine call_meets F.slot_list_extend ⟨_,e,rfl⟩ F.entry_list_extend (F.args_list_extend_2 _ _)
  (AutoSeq1.list_extend_list_list_0 l its.toArray n b its2.toArray n2 hlong (by rw[aah];omega) (by omega)) ⟨e,e2,?_⟩
 refine⟨.non,_,I.lset (its':=its++its2) hH e (by simp) (r.append r2) ?_,rfl,q⟩;rw[aaw];omega
def rCat:R2:=λ x y H Q=>∃ l b xs zs,x=.ref l/\y=.ref b/\H l=some (.lst xs)/\H b=some (.lst zs)/\xs.length+zs.length<=sizeLine/\∀ p,H p=none->Q (.ref p) (upd H p (.lst (xs++zs)))
theorem fZ:hJ X (binaryOp .Add) rCat:=by
 intro pins s σ H x y v u Q I rx ry h;obtain⟨l,b,xs,zs,rfl,rfl,hH,hB,hz,q⟩:=h;cases rx;cases ry;obtain⟨z,its,n,r,hl,e⟩:=I.lstM hH;obtain⟨z2,its2,n2,r2,hl2,e2⟩:=I.lstM hB;refine PySem.P.add_list e e2 ?_ (by rw[aah,aah];omega);have ea:its.toArray++its2.toArray=(its++its2).toArray:=by simp
 rw[ea];exact⟨.ref _,_,I.lnew (t':=s.toks) (r.append r2) (by rw[aaw];omega),rfl,q _ I.fresh⟩
theorem wW {az:Type} (xs:List az) (k:Nat):(List.replicate k xs).flatten.length=k * xs.length:=by
 induction k with
 | zero=>simp
 | succ k ih=>rw[List.replicate_succ,List.flatten_cons,aaw,ih,Nat.succ_mul,Nat.add_comm]
end
section
variable {prog:Program}{A:Around}{E:Value->Shared->Prop}{s:Shared}
end
section
variable {X:Cx}
end
section
variable {bb:Type}[DecidableEq bb]
def eU (kvs:List (bb×V)) (k:bb):Option V:=(kvs.find? λ kv=>decide (kv.1=k)).map (·.2)
def lN (kvs:List (bb×V)) (k:bb) (v:V):List (bb×V):=
 if (kvs.any λ kv=>decide (kv.1=k))=true then kvs.map (λ kv=>if kv.1=k then (kv.1,v) else kv) else kvs++[(k,v)]
theorem dH {p:bb×V}{r:List (bb×V)}{k:bb} (e:p.1=k):eU (p::r) k=some p.2:=by simp [eU,List.find?_cons,e]
theorem dI {p:bb×V}{r:List (bb×V)}{k:bb} (e:¬ p.1=k):eU (p::r) k=eU r k:=by simp [eU,List.find?_cons,e]
theorem kC (k:bb):∀ kvs:List (bb×V),(kvs.any λ kv=>decide (kv.1=k))=(eU kvs k).isSome
 | []=>rfl
 | p::r=>by
  rw[List.any_cons]
  by_cases e:p.1=k
  ·simp only [dH e,abq e,Bool.true_or,Option.isSome_some]
  ·rw[dI e,abo e,Bool.false_or];exact kC k r
theorem sS (k j:bb) (y:V):∀ kvs:List (bb×V),eU (kvs.map λ kv=>if kv.1=k then (kv.1,y) else kv) j=(eU kvs j).map λ x=>if j=k then y else x
 | []=>rfl
 | p::r=>by
  have ih:=sS k j y r;rw[abe]
  by_cases h:p.1=k
  ·rw[if_pos h]
   by_cases e:p.1=j
   ·rw[dH (p:=(p.1,y)) e,dH e,Option.map_some,if_pos (e.symm.trans h)]
   ·rw[dI (p:=(p.1,y)) e,dI e,ih]
  ·rw[if_neg h]
   by_cases e:p.1=j
   ·rw[dH (p:=p) e,dH e,Option.map_some,if_neg (λ z=>h (e.trans z))]
   ·rw[dI (p:=p) e,dI e,ih]
theorem pR (k j:bb) (y:V):∀ kvs:List (bb×V),eU kvs k=none->eU (kvs++[(k,y)]) j=if j=k then some y else eU kvs j
 | [],_=>by
  by_cases e:k=j
  ·rw[if_pos e.symm];exact dH (p:=(k,y)) e
  ·rw[if_neg (λ z=>e z.symm)];exact dI (p:=(k,y)) e
 | p::r,hn=>by
  rw[List.cons_append];have hk:¬ p.1=k:=λ z=>by rw[dH z] at hn;cases hn
  rw[dI hk] at hn;have ih:=pR k j y r hn
  by_cases e:p.1=j
  ·rw[dH e,dH e,if_neg (λ z=>hk (e.trans z))]
  ·rw[dI e,dI e,ih]
theorem zT (kvs:List (bb×V)) (k j:bb) (y:V):eU (lN kvs k y) j=if j=k then some y else eU kvs j:=by
 unfold lN
 by_cases a:(kvs.any λ kv=>decide (kv.1=k))=true
 ·rw[if_pos a,sS];rw[kC] at a
  by_cases e:j=k
  ·obtain⟨x,hx⟩:=Option.isSome_iff_exists.mp a;rw[if_pos e,e,hx,Option.map_some,if_pos rfl]
  ·rw[if_neg e];cases eU kvs j with
   | none=>rfl
   | some x=>rw[Option.map_some,if_neg e]
 ·rw[if_neg a];refine pR k j y kvs ?_;rw[kC] at a;cases q:eU kvs k with
  | none=>rfl
  | some x=>rw[q] at a;exact (a rfl).elim
theorem iN (kvs:List (bb×V)) (k:bb) (v:V):(lN kvs k v).length<=kvs.length+1:=by
 unfold lN
 split
 ·rw[aad];omega
 ·rw[aaw,abk,List.length_nil];omega
theorem sL.isSome_eq {o:Option V}{u:Option Value} (r:sL o u):o.isSome=u.isSome:=by
 cases o with
 | none=>cases u with
  | none=>rfl
  | some _=>exact (show False from r).elim
 | some _=>cases u with
  | none=>exact (show False from r).elim
  | some _=>rfl
theorem sL.getD {o:Option V}{u:Option Value}{d:V}{d':Value} (r:sL o u) (rd:bG d d'):bG (o.getD d) (u.getD d'):=by
 cases o with
 | none=>cases u with
  | none=>exact rd
  | some _=>exact (show False from r).elim
 | some _=>cases u with
  | none=>exact (show False from r).elim
  | some _=>exact r
theorem KV.val {kvs:List (bb×V)}{vs:List (bb×Value)} (r:KV kvs vs) (k:bb):sL (eU kvs k) (valueAt vs k):=by
 unfold KV at r
 induction r with
 | nil=>exact True.intro
 | @cons p q ps qs h t ih=>
  obtain⟨h1,h2⟩:=h
  by_cases e:p.1=k
  ·have e':q.1=k:=h1.symm.trans e;have b:valueAt (q::qs) k=some q.2:=by simp [valueAt,List.find?_cons,e']
   rw[dH e,b];exact h2
  ·have e':¬ q.1=k:=λ z=>e (h1.trans z);have b:valueAt (q::qs) k=valueAt qs k:=by simp [valueAt,List.find?_cons,e']
   rw[dI e,b];exact ih
theorem KV.any {kvs:List (bb×V)}{vs:List (bb×Value)} (r:KV kvs vs) (k:bb):(kvs.any λ kv=>decide (kv.1=k))=vs.any λ kv=>decide (kv.1=k):=by
 unfold KV at r
 induction r with
 | nil=>rfl
 | cons h t ih=>rw[List.any_cons,List.any_cons,ih,h.1]
theorem KV.repl {kvs:List (bb×V)}{vs:List (bb×Value)} (r:KV kvs vs) (k:bb) {y:V}{u:Value} (ry:bG y u) :
  KV (kvs.map λ kv=>if kv.1=k then (kv.1,y) else kv) (vs.map λ kv=>if kv.1=k then (kv.1,u) else kv):=by
 unfold KV at r ⊢
 induction r with
 | nil=>exact .nil
 | @cons p q ps qs h t ih=>
  rw[abe,abe];refine .cons ?_ ih;obtain⟨h1,h2⟩:=h
  by_cases e:p.1=k
  ·rw[if_pos e,if_pos (h1.symm.trans e)];exact⟨h1,ry⟩
  ·rw[if_neg e,if_neg (λ z=>e (h1.trans z))];exact⟨h1,h2⟩
theorem KV.put {kvs:List (bb×V)}{vs:List (bb×Value)} (r:KV kvs vs) (k:bb) {y:V}{u:Value} (ry:bG y u):KV (lN kvs k y) (stored vs k u):=by
 unfold lN stored;rw[r.any k]
 by_cases e:(vs.any λ kv=>decide (kv.1=k))=true
 ·rw[if_pos e,if_pos e];exact r.repl k ry
 ·rw[if_neg e,if_neg e];exact Paired.snoc r ⟨rfl,ry⟩
theorem KV.length {kvs:List (bb×V)}{vs:List (bb×Value)} (r:KV kvs vs):kvs.length=vs.length:=Paired.length r
end
theorem BB {P:Program}{w:World}{k:eS}{u:Value} (r:bG (kV k) u):(dB P w).is k u=true:=by
 cases k with
 | inl i=>obtain⟨t,e⟩:=(show ∃ t,u=Value.int i t from r);subst e;exact tL P w i t
 | inr z=>cases z with
  | some x=>obtain⟨t,e⟩:=(show ∃ t,u=Value.str x t from r);subst e;exact tK P w x t
  | none=>obtain rfl:=(show u=Value.none from r);rfl
theorem eZ {P:Program}{w:World}:∀ {ks:List eS}{us:List Value},bI (ks.map kV) us->ItemsAre (dB P w) ks us
 | [],_,r=>by rw[acl] at r;cases r;exact .nil
 | k::ks,_,r=>by
  rw[abe] at r;cases r with
  | cons h t=>exact .cons (BB h) (eZ t)
abbrev KT (H:Hp):List (List eS×V)->List (List eS×Addr×Value)->Prop:=Paired λ p q=>p.1=q.1/\H q.2.1=some (.tup (p.1.map kV))/\bG p.2 q.2.2
theorem KT.val {H:Hp}{kvs:List (List eS×V)}{xs:List (List eS×Addr×Value)} (r:KT H kvs xs) (k:List eS):sL (eU kvs k) ((atKey xs k).map (·.2)):=by
 induction r with
 | nil=>exact True.intro
 | @cons p q ps qs h t ih=>
  obtain⟨h1,_,h2⟩:=h
  by_cases e:p.1=k
  ·have e':q.1=k:=h1.symm.trans e;have b:atKey (q::qs) k=some q.2:=by simp [atKey,List.find?_cons,e']
   rw[dH e,b];exact h2
  ·have e':¬ q.1=k:=λ z=>e (h1.trans z);have b:atKey (q::qs) k=atKey qs k:=by simp [atKey,List.find?_cons,e']
   rw[dI e,b];exact ih
theorem KT.repl {H:Hp}{kvs:List (List eS×V)}{xs:List (List eS×Addr×Value)} (r:KT H kvs xs) (k:List eS) {y:V}{u:Value} (ry:bG y u) :
  KT H (kvs.map λ kv=>if kv.1=k then (kv.1,y) else kv) (xs.map (putAt k u)):=by
 induction r with
 | nil=>exact .nil
 | @cons p q ps qs h t ih=>
  rw[abe,abe];refine .cons ?_ ih;obtain⟨h1,h2,h3⟩:=h;unfold putAt
  by_cases e:p.1=k
  ·rw[if_pos e,if_pos (h1.symm.trans e)];exact⟨h1,h2,ry⟩
  ·rw[if_neg e,if_neg (λ z=>e (h1.trans z))];exact⟨h1,h2,h3⟩
theorem KT.put {H:Hp}{kvs:List (List eS×V)}{xs:List (List eS×Addr×Value)} (r:KT H kvs xs) (k:List eS) {b:Addr}{y:V}{u:Value} (hb:H b=some (.tup (k.map kV))) (ry:bG y u) :
  KT H (lN kvs k y) (storedH xs k b u):=by
 have e:(kvs.any λ kv=>decide (kv.1=k))=(atKey xs k).isSome:=by
  rw[kC,(r.val k).isSome_eq,Option.isSome_map]
 unfold lN storedH;rw[e]
 by_cases q:(atKey xs k).isSome=true
 ·rw[if_pos q,if_pos q];exact r.repl k ry
 ·rw[if_neg q,if_neg q];exact Paired.snoc r ⟨rfl,hb,ry⟩
theorem KT.keeps {H H':Hp}{kvs:List (List eS×V)}{xs:List (List eS×Addr×Value)} (r:KT H kvs xs) (ht:∀ b ys,H b=some (.tup ys)->H' b=some (.tup ys)):KT H' kvs xs:=
 Paired.mapP r λ _ _ z=>⟨z.1,ht _ _ z.2.1,z.2.2⟩
section
variable {H:Hp}{h:Heap}{a:Addr}
theorem EK {u:HO} (ok:kA P w H h) (e:Rd H a u):cJ P w H h a u:=e.ok ok
theorem CB {kvs:List (eS×V)} (ok:kA P w H h) (e:Rd H a (.dK kvs)):kvs.length<=sizeLine/\(a == sysModules)=false/\∃ vs,KV kvs vs/\h.DictOf (dB P w) a vs:=
 show cJ P w H h a (.dK kvs) from EK ok e
theorem JB {kvs:List (eS×V)} (ok:kA P w H h) (e:H a=some (.dK kvs)):kvs.length<=sizeLine/\(a == sysModules)=false/\∃ vs,KV kvs vs/\h.DictOf (dB P w) a vs:=CB ok (.inl e)
theorem vS {ks:List eS} (ok:kA P w H h) (e:H a=some (.tup (ks.map kV))):(tupleKind (dB P w)).is h ks a:=by
 obtain⟨_,its,r,o,h1,h2,n,h3⟩:=(show cJ P w H h a (.tup (ks.map kV)) from ok a _ e);exact⟨o,its.toArray,n,h1,h2,h3,by simpa using eZ r⟩
theorem CA {kvs:List (List eS×V)} (ok:kA P w H h) (e:Rd H a (.dT kvs)):kvs.length<=sizeLine/\(a == sysModules)=false/\
  ∃ xs,KT H kvs xs/\h.DictOfH (tupleKind (dB P w)) a xs:=by
 obtain⟨z,y,xs,r,o,es,ep,h1,h2,h3,h4,h5⟩:=(show cJ P w H h a (.dT kvs) from EK ok e);refine⟨z,y,xs,r,o,es,ep,h1,h2,h3,h4,λ x hx=>?_,h5⟩;have all:∀ {l:List (List eS×V)}{m:List (List eS×Addr×Value)},KT H l m->∀ x∈m,(tupleKind (dB P w)).is h x.1 x.2.1:=by
  intro l m q
  induction q with
  | nil=>intro x hx;exact nomatch hx
  | @cons p q ps qs hq t ih=>
   intro x hx;rcases aax.mp hx with e | hx
   ·subst e;exact vS ok (by rw[<- hq.1];exact hq.2.1)
   ·exact ih x hx
 exact all r x hx
theorem JA {kvs:List (List eS×V)} (ok:kA P w H h) (e:H a=some (.dT kvs)):kvs.length<=sizeLine/\(a == sysModules)=false/\
  ∃ xs,KT H kvs xs/\h.DictOfH (tupleKind (dB P w)) a xs:=CA ok (.inl e)
end
def wB (H:Hp) (a:Addr) (y:V) (r:Option V):Prop:=
 (∃ kvs k,Rd H a (.dK kvs)/\y=kV k/\r=eU kvs k)\/∃ kvs k b,Rd H a (.dT kvs)/\y=.ref b/\H b=some (.tup (k.map kV))/\r=eU kvs k
def CS (H:Hp) (a:Addr) (y v:V) (H':Hp):Prop:=
 (∃ kvs k,H a=some (.dK kvs)/\y=kV k/\kvs.length < sizeLine/\H'=upd H a (.dK (lN kvs k v)))\/
 ∃ kvs k b,H a=some (.dT kvs)/\y=.ref b/\H b=some (.tup (k.map kV))/\kvs.length < sizeLine/\H'=upd H a (.dT (lN kvs k v))
theorem wB.k {H:Hp}{a:Addr}{kvs:List (eS×V)}{k:eS} (e:H a=some (.dK kvs)):wB H a (kV k) (eU kvs k):=.inl ⟨kvs,k,.inl e,rfl,rfl⟩
theorem CS.k {H:Hp}{a:Addr}{kvs:List (eS×V)}{k:eS}{v:V} (e:H a=some (.dK kvs)) (hl:kvs.length < sizeLine):CS H a (kV k) v (upd H a (.dK (lN kvs k v))):=.inl ⟨kvs,k,e,rfl,hl,rfl⟩
section
variable {X:Cx}{pins:List (Addr×Obj)}{σ:St}{H:Hp}{s:Shared}{a:Addr}{y v:V}{u r:Value}{o:Option V}{A:Around}{E:Value->Shared->Prop}
theorem Inv.big (I:Inv X pins σ H s):sysModules < s.heap.objs.size:=by
 have h:mainGlobals < s.heap.objs.size:=(I.mod.glob.keeps I.bk).lt;exact Nat.lt_trans (by decide) h
theorem xM {h':Heap}{t':Nat}{ob:HO} (I:Inv X pins σ H s) (mu:qM (H a)) (hs:Heap.SameBut a s.heap h') (he:∃ q,h'.get? a=some q) (new:cJ X.prog X.w (upd H a ob) h' a ob) :
  Inv X pins σ (upd H a ob) { s with heap:=h',toks:=t' }:=
 I.write (x:=a) (e:=a) mu (.inl rfl) (λ b q hb z=>(hs.2 b hb).trans z) he new
theorem GV {P:Program}{w:World}{H':Hp}{h':Heap}{kvs:List (eS×V)}{vs:List (eS×Value)} (z:kvs.length<=sizeLine) (hd:(a == sysModules)=false) (rel:KV kvs vs) (dd:h'.DictOf (dB P w) a vs) :
  cJ P w H' h' a (.dK kvs):=⟨z,hd,vs,rel,dd⟩
theorem zE {H':Hp}{Q:Unit->Shared->Prop} (hu:A.units+1 < cLine) (I:Inv X pins σ H s) (g:CS H a y v H') (ry:bG y u) (rv:bG v r) (h:∀ s',Inv X pins σ H' s'->Q () s') :
  wpAny (model X.prog X.w) A (setItem (.ref a) u r) Q E s:=by
 rcases g with ⟨kvs,k,e,ey,l,eH⟩ | ⟨kvs,k,b,e,ey,eb,l,eH⟩
 ·subst ey eH;obtain⟨z,hd,vs,rel,dd⟩:=JB I.hok e;have hz:vs.length<=sizeLine:=by rw[<- rel.length];exact z
  have hl:(lN kvs k v).length<=sizeLine:=by have:=iN kvs k v;omega
  refine wpAny_setItem_pairs (hsz:=hz) (BB ry) dd λ h' dd' hs=>h _ ?_;have he:∃ q,h'.get? a=some q:=let ⟨q,_,_,hq,_⟩:=dd';⟨q,hq⟩;exact xM I (by rw[e];exact True.intro) hs he (GV hl hd (rel.put k rv) dd')
 ·subst ey eH;cases (show u=Value.ref b from ry);obtain⟨z,hd,xs,rel,dd⟩:=JA I.hok e;have hz:xs.length<=sizeLine:=by rw[<- Paired.length rel];exact z
  have hl:(lN kvs k v).length<=sizeLine:=by have:=iN kvs k v;omega
  refine wpAny_setItem_heap (hsz:=hz) (tupleKind_room_in1 hu) (vS I.hok eb) dd λ h' dd' hs=>h _ ?_;obtain⟨q,es,ep,hq,h2,h3,h4,_,h5⟩:=dd';refine xM I (by rw[e];exact True.intro) hs ⟨q,hq⟩ ⟨hl,hd,_,(rel.put k eb rv).keeps λ c ys ec=>?_,q,es,ep,hq,h2,h3,h4,h5⟩;rw[aK (EV ec e (λ z=>nomatch z))];exact ec
end
section
variable {X:Cx}{pins:List (Addr×Obj)}{σ:St}{H:Hp}{s:Shared}{a:Addr}{kvs:List (eS×V)}{k:eS}{u:Value}{A:Around}{E:Value->Shared->Prop}
end
def HX (td ty tv:TE):TS:=λ D σ H=>tv σ H λ v H1=>td σ H1 λ x H2=>ty σ H2 λ y H3=>∃ a H4,x=.ref a/\CS H3 a y v H4/\D.nx σ H4
section
variable {X:Cx}{o i e value:Expr}{pos pos' tpos:Pos}{td ty tv:TE}
theorem DD (hu:X.A.units+1 < cLine) (ho:PE X o td) (hi:PE X i ty) (hv:PE X value tv) (hs:swapsWith value (some (.Subscript o i pos')) pos.line X.env=pure false) :
  PS X (.Assign [.Subscript o i pos'] value pos) (HX td ty tv):=by
 intro pins s σ H D I h;refine wpAny_Assign_Subscript (cY (hv pins s σ H _ I h) λ r s1 ⟨v,H1,I1,rv,q1⟩=>cY (ho pins s1 σ H1 _ I1 q1) λ u s2 ⟨x,H2,I2,rx,q2⟩=>cY (hi pins s2 σ H2 _ I2 q2) λ iv s3 ⟨y,H3,I3,ry,a,H4,ex,g,q3⟩=>?_) hs;subst ex;obtain rfl:u=Value.ref a:=rx;exact zE hu I3 g ry rv λ s4 I4=>⟨σ,H4,I4,q3⟩
end
theorem CC {P:Program}{w:World}{H:Hp} (h:Heap) (hb:sysModules < h.objs.size):cJ P w H (h.push { cls:=.type "dict",data:=.dict #[] }) h.objs.size (.dK []):=
 ⟨abg _,beq_eq_false_iff_ne.mpr (Ne.symm (aar hb)),[],.nil,Heap.DictOf.new h⟩
def FQ:TE:=λ _ H Q=>∀ p,H p=none->Q (.ref p) (upd H p (.dK []))
section
variable {X:Cx}{pos:Pos}
theorem AN:PE X (.Dict [] [] pos) FQ:=λ pins s σ H Q I h=>
 wpAny_Dict_empty ⟨.ref s.heap.objs.size,_,I.laid (a:=s.heap.objs.size) (o:=.dK []) (t':=s.toks) (λ _ _ q=>aac _ q) (aaj _) (CC s.heap I.big),rfl,h _ (I.hok.fresh (aaj _))⟩
end
structure M2 (X:Cx) (o:Expr) (m:Str) (apos:Pos) (e f:Expr) (cpos:Pos):Prop where
 base:attributeBase o m X.env (eval o X.env)=eval o X.env
 few:((backTo cpos (starEach [e,f] X.env)).all (λ x=>!x.1) && (backToKw cpos (keywordEach [] X.env)).all (λ x=>x.1.isSome)
  && decide (([e,f]:List Expr).length+([]:List Keyword).length+(if ([]:List Keyword).isEmpty then 0 else 1) < 30))=true
 line:(apos.endLine == cpos.line)=true
 trees:backTo cpos (starEach [e,f] X.env)=[(false,eval e X.env),(false,eval f X.env)]
def IsD (H:Hp) (a:Addr):Prop:=(∃ kvs,Rd H a (.dK kvs))\/∃ kvs,Rd H a (.dT kvs)
theorem GM {X:Cx}{pins:List (Addr×Obj)}{σ:St}{H:Hp}{s:Shared}{a:Addr} (I:Inv X pins σ H s) (d:IsD H a) :
  s.TypeIs (.ref a) "dict" /\ (∀ b,Value.ref a=.ref b->∃ ob,s.heap.get? b=some ob/\ob.dict=none)/\(a == sysModules)=false:=by
 rcases d with ⟨kvs,e⟩ | ⟨kvs,e⟩
 ·obtain⟨_,hd,vs,_,dd⟩:=CB I.hok e;refine⟨dd.typeIs,λ b q=>?_,hd⟩;cases q;obtain⟨ob,_,_,h1,h2,_⟩:=dd;exact⟨ob,h1,h2.2.1⟩
 ·obtain⟨_,hd,xs,_,dd⟩:=CA I.hok e;refine⟨dd.typeIs,λ b q=>?_,hd⟩;cases q;obtain⟨ob,_,_,h1,h2,_⟩:=dd;exact⟨ob,h1,h2.2.1⟩
section
variable {X:Cx}{pins:List (Addr×Obj)}{σ:St}{H:Hp}{s:Shared}{a:Addr}{y d:V}{u r:Value}{o:Option V}{A:Around}{E:Value->Shared->Prop}
theorem GW {Q:Value->Shared->Prop} (hu:A.units+1 < cLine) (I:Inv X pins σ H s) (g:wB H a y o) (ry:bG y u) (rd:bG d r) (h:∀ w' s',Inv X pins σ H s'->bG (o.getD d) w'->Q w' s') :
  wpAny (model X.prog X.w) A (call (.builtin "dict.get") [.ref a,u,r]) Q E s:=by
 rcases g with ⟨kvs,k,e,ey,l⟩ | ⟨kvs,k,b,e,ey,eb,l⟩
 ·subst ey;obtain⟨z,hd,vs,rel,dd⟩:=CB I.hok e;refine call_meetsIn PySem.F.slot_dict_get dd.typeIs PySem.F.entry_dict_get (PySem.F.args_dict_get_3 _ _ _) (meets_dict_get_default (dB X.prog X.w) a (BB ry) hd r) ⟨_,dd.mapOf,h _ _ (I.tok _) ?_⟩;rw[l];exact (rel.val k).getD rd
 ·subst ey;cases (show u=Value.ref b from ry);obtain⟨z,hd,xs,rel,dd⟩:=CA I.hok e;refine call_meetsIn PySem.F.slot_dict_get dd.typeIs PySem.F.entry_dict_get (PySem.F.args_dict_get_3 _ _ _) (meetsH_dict_get_default (tupleKind (dB X.prog X.w)) a b hd r) ⟨tupleKind_room_in1 hu,k,xs,vS I.hok eb,dd,h _ _ (I.tok _) ?_⟩;rw[l];exact (rel.val k).getD rd
end
def FR (td ty tx:TE):TE:=λ σ H Q=>td σ H λ x H1=>∃ a,x=.ref a/\IsD H1 a/\ty σ H1 λ y H2=>tx σ H2 λ z H3=>∃ o,wB H3 a y o/\Q (o.getD z) H3
section
variable {X:Cx}{o e f:Expr}{apos cpos:Pos}{td ty tx:TE}
theorem oA (hu:X.A.units+1 < cLine) (ho:PE X o td) (he:PE X e ty) (hf:PE X f tx) (m:M2 X o "get" apos e f cpos):PE X (.Call (.Attribute o "get" apos) [e,f] [] cpos) (FR td ty tx):=by
 intro pins s σ H Q I h;refine wpAny_Call_method m.base m.few m.line PySem.F.plainAttrs_dict PySem.F.slot_dict_get PySem.F.type_dict_get (cY (ho pins s σ H _ I h) λ u s1 ⟨x,H1,I1,rx,a,ex,d,q1⟩=>?_);subst ex;obtain rfl:u=Value.ref a:=rx;obtain⟨t1,t2,_⟩:=GM I1 d;refine⟨t1,t2,?_⟩;rw[m.trees];refine Calls.callWith_builtin rfl (Calls.evalArgs_plain (Calls.spliced_cons (cY (he pins s1 σ H1 _ I1 q1) λ iv s2 ⟨y,H2,I2,ry,q2⟩=>
  Calls.spliced_cons (cY (hf pins s2 σ H2 _ I2 q2) λ fv s3 ⟨z,H3,I3,rz,ov,g,q3⟩=>Calls.spliced_nil ?_))))
 exact GW hu I3 g ry rz λ w' s4 I4 rw'=>⟨_,H3,I4,rw',q3⟩
end
section
variable {X:Cx}{pins:List (Addr×Obj)}{σ:St}{H:Hp}{s:Shared}{a:Addr}{kvs:List (eS×V)}{A:Around}{E:Value->Shared->Prop}
end
section
variable {X:Cx}{pins:List (Addr×Obj)}{σ:St}{H:Hp}{s:Shared}{a:Addr}{y:V}{u:Value}{A:Around}{E:Value->Shared->Prop}
end
end L2
namespace Att
open PySem PySem.W PySem.Calls PyProof.Rows
theorem mO {P:Params}{h:Heap}:∀ (ns:List Int) (vs:List Value),WellAll P h vs (ns.map WData.int)->IntsAre vs ns:=by
 intro ns
 induction ns with
 | nil=>
  intro vs w;rw[acl] at w;cases w;exact .nil
 | cons n ns ih=>
  intro vs w;rw[abe] at w;cases w with
  | cons a b=>
   cases a;exact .cons _ _ (ih _ b)
theorem yC {l:OpenLaw}{n:Nat} (hn:l.most=some n) {P:Params}{h:Heap}{args:List WData}{vals:List Value}
  (hpre:l.row.toRowW.claim.pre args=true) (hwl:WellAll P h vals args) :
  ∃ a vs ns,vals=[Value.ref a]/\args=[WData.list (ns.map WData.int)]/\h.get? a=some { cls:=.type "list",data:=.seq vs.toArray }/\IntsAre vs ns/\ns.length<=n:=by
 have hsh:WShape.hasAll [] args [.list .int]=true:=(pre_splitW hpre).1;have hc:l.pre.holds [] { args:=args }=true:=(pre_splitW hpre).2;obtain⟨d,r,rfl,h1,h2⟩:=hasAllW_cons hsh;obtain rfl:=hasAllW_nil h2;obtain⟨xs,rfl,h3⟩:=hasW_list h1;obtain⟨ns,rfl⟩:=items_int h3;have hlen:ns.length<=n:=by
  unfold OpenLaw.pre at hc;have h4:(WTm.not (.lt (.lit (.int (n:Int))) (.len (.arg 0)))).holds [] { args:=[.list (ns.map .int)] }=true:=by
   have h4:=(holds_andW hc).1;rw[hn] at h4;exact h4
  have h5:=condW_of h4 (w_not (w_lt w_lit (w_len_list (w_arg rfl))));rw[aad] at h5;refine Nat.le_of_not_lt λ q=>?_;have q':(n:Int) < ((ns.length:Nat):Int):=by omega
  first
   | (rw[abq q'] at h5;exact absurd h5 (by decide))
   | (simp at h5;omega)
 cases hwl with
 | cons w1 w2=>
  cases w2;cases w1 with
  | list ho hall=>exact⟨_,_,ns,rfl,rfl,ho,mO ns _ hall,hlen⟩
theorem yE (l:OpenLaw) (args:List WData):l.row.toRowW.claim.post args (.bool true) args=true:=
 postW_of (r:=l.row.toRowW) (X:=(true == true))
  (show WShape.has [] (.bool true) .bool=true by first | rfl | decide | simp [WShape.has,WShape.arms,WShape.armsAll])
  (show (WTm.eq .res (.lit (.bool true))).value [] { args:=args,res:=some (.bool true),after:=args }=some (.bool (true == true)) from w_eq_bool (w_res rfl) w_lit) rfl
theorem attach_call {l:OpenLaw}{n:Nat}{q:Program}{loose:List Str}{XP:(Str->Option Value)->Heap->Prop}{YP:World->Heap->Prop}{d:DefRec}
  (hn:l.most=some n) (hdf:d.params.defaults=[])
  (call:∀ (w:World) (s₀ aj:Shared) (mg mb:Str->Option Value) (fa:Addr) (o:Obj) (pm cd doc:Value) (a:Addr) (vs:List Value) (ns:List Int),
   Ground q loose [] XP w s₀ mg mb aj.heap->YP w aj.heap->
   aj.heap.get? fa=some o->o.data=.func (docDef d.name d.params d.body d.scope pm cd doc)->aj.heap.CodeRec cd d.name->mg d.name=some (.ref fa)->
   aj.heap.get? a=some { cls:=.type "list",data:=.seq vs.toArray }->IntsAre vs ns->ns.length<=n->aj.gens = #[]->
   codeAny (model l.prog w) callerA (.call (.ref fa) ⟨[.ref a],[]⟩) (λ r s'=>r=.ok (.ret (.bool true))/\OldK aj.heap s'.heap/\s'.os=aj.os/\AllBare s'.gens) aj) :
  WalkO q loose XP YP l.row.toRowW d [] (λ f vs=>PySem.call f vs):=by
 intro w s₀ aj mg mb G Y fa o pm cd doc dV kV ho hd hcd hD hmg hg args vals as hpre hlay hrd hwl hlo;obtain rfl:dV=.none:=Dflts.none hD hdf;obtain rfl:kV=.none:=Dflts.noKw hD;obtain⟨a,vs,ns,rfl,rfl,hobj,hints,hlen⟩:=yC hn hpre hwl;refine enter_call (codeAny_mono (call w s₀ aj mg mb fa o pm cd doc a vs ns G Y ho (fd_plain hd) hcd hmg hobj hints hlen hg) λ r s' hq=>?_);obtain⟨rfl,h2,h3,h4⟩:=hq;exact⟨.inl ⟨.bool true,.bool true,[],rfl,λ _=>rfl,.bool true,yE l _,λ _=>⟨List.Pairwise.nil,λ _ hm=>(nomatch hm)⟩⟩,h2,h3,h4⟩
section
variable {prog:Program}{A:Around}{E:Value->Shared->Prop}{s:Shared}{K:Frag}
end
end Att
namespace L2
open PySem PySem.Spec PyProof.Rows
theorem pQ:∀ {vs:List Value}{ns:List Int},IntsAre vs ns->bI (ns.map V.int) vs
 | _,_,.nil=>.nil
 | _,_,.cons n t h=>.cons ⟨t,rfl⟩ (pQ h)
def HB (H:Hp):Prop:=∀ b,H b=none\/∃ o xs,H b=some (.frz o (.lst xs))
theorem B3 {P:Program}{w:World}{K:aab}{mg mb:Str->Option Value}{CX:zO}{k:Nat}{fa a:Addr}{fd:FuncData}{x:Str}{sp:Sp}{aj:Shared}{vs:List Value}{ns:List Int}
  (KX:K.In aj.heap) (hns:aj.heap.Ns mainGlobals mg) (hb:aj.heap.Ns builtinsNs mb) (hbb:∀ x:Str,x ≠ "__name__" -> mb x=bootBuiltins x) (hlim:aj.heap.NoLimit) (hg:aj.gens = #[])
  (ha:aj.heap.get? a=some { cls:=.type "list",data:=.seq vs.toArray }) (hi:IntsAre vs ns) (hl:ns.length<=sizeLine) (hr:Room k callerA)
  (F:∀ base:Heap,K.In base->base.Ns mainGlobals mg->FnOk P w K mg base CX k fa fd [x] sp) (hbind:∀ (s:Shared) (u:Value),BindsTo s fd ⟨[u],[]⟩ [(x,u)])
  (hsp:∀ H:Hp,HB H->bN K H a (ns.map V.int)->sp [.ref a] H (λ v _=>v=.bl true) λ _ _ _=>False)
  (hCX:∀ H e s',CX [] H aj (λ _ _ _=>False) e s'->False) :
  codeAny (model P w) callerA (.call (.ref fa) ⟨[.ref a],[]⟩) (λ r s'=>r=.ok (.ret (.bool true))/\OldK aj.heap s'.heap/\s'.os=aj.os/\AllBare s'.gens) aj:=by
 have rv:=pQ hi;have lenV:=hi.length;have core:∀ H:Hp,HB H->bN K H a (ns.map V.int)->kA P w H aj.heap->(∀ b,H b≠none->b=a)->(H a≠none->K.lookup a=none)->
   codeAny (model P w) callerA (.call (.ref fa) ⟨[.ref a],[]⟩) (λ r s'=>r=.ok (.ret (.bool true))/\OldK aj.heap s'.heap/\s'.os=aj.os/\AllBare s'.gens) aj:=by
  intro H hO hS hok hA hK;have base_of:∀ {b:Addr}{o:Obj},aj.heap.get? b=some o->H b=none->(rO aj.heap H).get? b=some o:=λ e n=>BK e n;have noA:∀ {b:Addr}{o:Obj}{es:Array DictEntry}{ep:Nat},aj.heap.get? b=some o->o.data=.dict es ep->H b=none:=λ {b o es ep} e d=>by
   cases q:H b with
   | none=>rfl
   | some u=>
    have e':b=a:=hA b (by rw[q];simp);subst e';rw[ha] at e;cases e;have d':Data.seq vs.toArray _=Data.dict es ep:=d;cases d'
  have nsK:∀ {b:Addr}{m:Str->Option Value},aj.heap.Ns b m->(rO aj.heap H).Ns b m:=λ {b m} ⟨o,es,ep,e,d,r⟩=>⟨o,es,ep,base_of e (noA e d),d,r⟩;have hKb:K.In (rO aj.heap H):=λ b o e=>base_of (KX b o e) (by
   cases q:H b with
   | none=>rfl
   | some u=>
    have e':b=a:=hA b (by rw[q];simp);subst e';rw[hK (by rw[q];simp)] at e;cases e)
  have hM:Mod K mg (rO aj.heap H):=⟨hKb,nsK hns,⟨mb,nsK hb,hbb⟩,let ⟨mc,h1,h2⟩:=hlim;⟨mc,nsK h1,h2⟩⟩;have e0:Env0 P w K mg (rO aj.heap H) callerA [] aj H:=⟨rfl,hM,λ b o e=>DQ e,Nat.le_of_eq (yS _ _),trivial,λ b hb=>absurd (show b∈([]:List Addr) from hb) (by simp),hok,.of_eq hg⟩;refine codeAny_mono ((F _ hKb (nsK hns)).run callerA [] aj H ⟨[.ref a],[]⟩ [.ref a] [.ref a] _ _ hr e0 (hbind aj (.ref a)) (.cons rfl .nil) (hsp H hO hS)) λ r s' h=>?_;cases r with
  | error e=>exact (hCX H e s' h).elim
  | ok fl=>
   cases fl with
   | next=>exact False.elim h
   | brk=>exact False.elim h
   | cont=>exact False.elim h
   | ret u=>
    obtain⟨v,H',os,bare,un,hok',r',q⟩:=h;have q':v=.bl true:=q;subst q';obtain rfl:u=Value.bool true:=r';refine⟨rfl,OldK.of_keep λ b o e=>?_,os,bare⟩;cases q:H b with
    | none=>exact un.keep b o e q (by intro z;exact absurd (show b∈([]:List Addr) from z) (by simp)) (by simp)
    | some u=>
     rcases hO b with z | ⟨ob,xs,z⟩
     ·rw[q] at z;cases z
     ·have z2:=un.frzs b ob _ z;obtain⟨e1,_⟩:=hok b _ z;obtain⟨e2,_⟩:=hok' b _ z2;rw[e] at e1;cases e1;exact e2
 cases hk:K.lookup a with
 | some o=>
  have e:=KX a o hk;rw[ha] at e;cases e;refine core (λ _=>none) (λ _=>.inl rfl) (.inr ⟨_,vs.toArray,_,hk,rfl,rfl,rfl,by rw[aah,lenV];exact hl,by simpa using rv⟩) (λ b u z=>by have z':(none:Option HO)=some u:=z;cases z') (λ b z=>absurd rfl z) λ z=>absurd rfl z
 | none=>
  refine core (λ b=>if b=a then some (.frz { cls:=.type "list",data:=.seq vs.toArray } (.lst (ns.map V.int))) else none) (λ b=>?_) (.inl (.inr ⟨{ cls:=.type "list",data:=.seq vs.toArray },if_pos rfl⟩)) (λ b u z=>?_) (λ b z=>?_) λ _=>hk
  ·by_cases hb:b=a
   ·exact .inr ⟨_,_,if_pos hb⟩
   ·exact .inl (if_neg hb)
  ·by_cases hb:b=a
   ·have z':=(if_pos hb).symm.trans z;cases z';subst hb;exact⟨ha,by rw[aad];exact hl,vs,_,rv,ha⟩
   ·have z':=(if_neg hb).symm.trans z;cases z'
  ·by_cases hb:b=a
   ·exact hb
   ·exact absurd (if_neg hb) z
theorem walk_of {l:PySem.W.OpenLaw}{n k:Nat}{q:Program}{loose:List Str}{XP:(Str->Option Value)->Heap->Prop}{YP:World->Heap->Prop}{d:DefRec}{K:Params->aab}{CX:World->zO}{sp:World->Sp}{x:Str}
  (hn:l.most=some n) (hn2:n<=sizeLine) (hdf:d.params.defaults=[]) (hr:Room k callerA)
  (hY:∀ (w:World) (h:Heap),YP w h->(K w.params).In h)
  (F:∀ (w:World) (mg:Str->Option Value) (fa:Addr) (h:Heap),(K w.params).In h->h.Ns mainGlobals mg->mg d.name=some (.ref fa)->
   ∃ fd:FuncData,(∀ (s:Shared) (u:Value),BindsTo s fd ⟨[u],[]⟩ [(x,u)])/\
    ∀ base:Heap,(K w.params).In base->base.Ns mainGlobals mg->FnOk l.prog w (K w.params) mg base (CX w) k fa fd [x] (sp w))
  (hsp:∀ (w:World) (H:Hp) (a:Addr) (ns:List Int),ns.length<=n->HB H->bN (K w.params) H a (ns.map V.int)->sp w [.ref a] H (λ v _=>v=.bl true) λ _ _ _=>False)
  (hCX:∀ (w:World) (H:Hp) (s:Shared) (e:Value) (s':Shared),CX w [] H s (λ _ _ _=>False) e s'->False) :
  PySem.W.WalkO q loose XP YP l.row.toRowW d [] (λ f vs=>PySem.call f vs):=by
 refine Att.attach_call hn hdf λ w s₀ aj mg mb fa o pm cd doc a vs ns G Y ho hd hcd hmg hobj hints hlen hg=>?_;have KX:=hY w _ Y;obtain⟨fd,hb,hF⟩:=F w mg fa _ KX G.T.g hmg;exact B3 KX G.T.g G.T.b G.T.builtins G.T.nolimit hg hobj hints (acb hlen hn2) hr hF hb (λ H hO hS=>hsp w H a ns hlen hO hS) λ H e s'=>hCX w H aj e s'
def j9 (s:Stmt):Arguments:=match s with
 | .FunctionDef _ a _ _ _ _ _ _ _ _=>a
 | _=>{ posonlyargs:=[],args:=[],vararg:=none,kwonlyargs:=[],kw_defaults:=[],kwarg:=none,defaults:=[] }
def fX (s:Stmt):List Stmt:=match s with
 | .FunctionDef _ _ b _ _ _ _ _ _ _=>b
 | _=>[]
def aP (s:Stmt):Scope:=match s with
 | .FunctionDef _ _ _ _ _ _ sc _ _ _=>sc
 | _=>{ kind:=.function,names:=[],isGenerator:=false,isCoroutine:=false }
abbrev i7:zO:=λ _ _ _ _ _ _=>False
abbrev E0:XK:=λ _ _ _=>False
theorem IM {X:Cx}:lY i7 X E0:=λ _ _ _ _ _ _ _ h=>h.elim
structure Fun (K:aab) (x qual:Str) (st:Stmt) (f:Addr) (fd:FuncData):Prop where
 ex:∃ (oc:Value) (od:Option Addr) (kV doc pm:Value) (an:Option Addr) (cdv ct:Value) (osl:Array (Option Value)),
  fd=PySem.W.fnOf x qual (j9 st) (fX st) (aP st) .none kV doc pm an cdv ct/\K.lookup f=some ⟨oc,od,.func fd,osl⟩/\PySem.W.codeIn K cdv qual=true
 kp:PySem.W.keepIn K (.ref f)=true
theorem Fun.ok {x qual:Str}{st:Stmt}{f:Addr}{fd:FuncData}{N ps:List Str}{k:Nat}{sp:Sp} (F:Fun K x qual st f fd) (S:FnScope N ps (aP st)) (len:∀ vs H Q E,sp vs H Q E->vs.length=ps.length)
  (hbody:∀ (cdv:Value) (A:Around) (outer:List Env) (s:Shared) (H:Hp) (vs:List V) (Q:VK) (E:XK),Room k (A.deeper (envOfC qual (aP st) s.heap.objs.size f cdv))->sp vs H Q E->
   ∃ t,w9 (tW i7 P w K mg base N qual (aP st) f cdv A outer s H E).nox (fX st) t/\t { nx:=λ _ H'=>Q .non H',rt:=Q } (kE N vs) H):FnOk P w K mg base i7 (k+1) f fd ps sp:=by
 obtain⟨oc,od,kV,doc,pm,an,cdv,ct,osl,rfl,lk,hcd⟩:=F.ex;refine FD lk hcd S len λ A outer s H vs Q E hr hsp=>?_;obtain⟨t,h,q⟩:=hbody cdv A outer s H vs Q E hr hsp;exact⟨t,h.nox,q⟩
theorem Fun.binds {x qual:Str}{st:Stmt}{f:Addr}{fd:FuncData}{ps:List Str} (F:Fun K x qual st f fd)
  (h:∀ (kV doc pm:Value) (an:Option Addr) (cdv ct:Value) (us:List Value),us.length=ps.length->bindArgs (PySem.W.fnOf x qual (j9 st) (fX st) (aP st) .none kV doc pm an cdv ct) ⟨us,[]⟩=pure (ps.zip us)):pB K fd ps []:=by
 obtain⟨oc,od,kV,doc,pm,an,cdv,ct,osl,rfl,lk,hcd⟩:=F.ex;exact .all (h kV doc pm an cdv ct)
theorem bS {x qual:Str}{st:Stmt}{f:Addr}{oc:Value}{od an:Option Addr}{osl:Array (Option Value)}{kV doc pm cdv ct:Value} (l:K.lookup f=some ⟨oc,od,.func (PySem.W.fnOf x qual (j9 st) (fX st) (aP st) .none kV doc pm an cdv ct),osl⟩)
  (c:PySem.W.codeIn K cdv qual=true) (k:PySem.W.keepIn K (.ref f)=true):Fun K x qual st f (PySem.W.fnOf x qual (j9 st) (fX st) (aP st) .none kV doc pm an cdv ct):=⟨⟨oc,od,kV,doc,pm,an,cdv,ct,osl,rfl,l,c⟩,k⟩
theorem FC {A:Around}{k:Nat} (hr:Room k A):A.units+1 < cLine:=Nat.lt_of_le_of_lt (Nat.add_le_add_left (by decide:1<=64) _) hr.units
theorem aO {n:Nat} (h:n<=1000):n < sizeLine:=Nat.lt_of_le_of_lt h (by decide)
section
variable {X:Cx}
theorem pv (i:Nat) {x:Str}{pos:Pos} (hN:X.N[i]? = some x:=by rfl) (hv:Vis X.env.scope x:=by first | exact Or.inl rfl | exact Or.inr (Or.inl rfl) | exact Or.inr (Or.inr rfl)) (hd:(x == ("__debug__" : Str))=false:=by decide)
  (hcd:(x == ("__classdict__" : Str))=false:=by decide):PE X (.Name x pos) (cZ i):=G7 hN hv hd hcd
end
theorem g6 {A B:Prop} (h:B):if false=true then A else B:=by
 rw[if_neg aal];exact h
theorem lB {A B:Prop} (h:A):if true=true then A else B:=by
 rw[if_pos rfl];exact h
theorem fJ {c A B:Prop} [Decidable c] (h1:c->A) (h2:¬ c->B):if c then A else B:=by
 by_cases h:c
 ·rw[if_pos h];exact h1 h
 ·rw[if_neg h];exact h2 h
theorem IU {c A B:Prop} [Decidable c] (hc:c) (h:B):if (!decide c)=true then A else B:=by
 rw[abq hc];exact g6 h
def aG (H H':Hp):Prop:=∀ b o,H b=some o->H' b=some o
theorem aG.refl (H:Hp):aG H H:=λ _ _ h=>h
theorem aG.trans {H H1 H2:Hp} (a:aG H H1) (b:aG H1 H2):aG H H2:=λ c o h=>b c o (a c o h)
theorem aG.free {H H':Hp} (e:aG H H') {l:Addr} (h:H' l=Option.none):H l=Option.none:=by
 cases q:H l with
 | none=>rfl
 | some o=>
  rw[e l o q] at h;cases h
theorem aG.seq {K:aab}{H H':Hp}{a:Addr}{xs:List V} (e:aG H H') (h:bN K H a xs):bN K H' a xs:=by
 rcases h with (h | ⟨o,h⟩) | h
 ·exact .inl (.inl (e _ _ h))
 ·exact .inl (.inr ⟨o,e _ _ h⟩)
 ·exact .inr h
end L2
set_option maxHeartbeats 4000000
namespace L2
open PySem PySem.Spec PyProof.Rows
theorem dQ {env:Env} (hk:env.scope.kind=.function):∀ {names:List (Str×NameKind)}{x:Str},names.lookup x=some .free->env.kindOf x=some .cell->
  (names.map λ (n,k)=>if (k == NameKind.free && env.scope.kind == .function && env.kindOf n == some .cell) then (n,NameKind.cell) else (n,k)).lookup x=some .cell
 | [],_,h,_=>by simp at h
 | (n,k)::r,x,h,hc=>by
  have ih:=@dQ env hk r x;show List.lookup x ((if (k == NameKind.free && env.scope.kind == .function && env.kindOf n == some .cell)=true then (n,NameKind.cell) else (n,k))::_)=_;cases hx:x == n with
  | true=>
   simp only [List.lookup_cons,hx] at h;cases h;have e:x=n:=by simpa using hx
   subst e;rw[if_pos (by rw[hk,hc];decide)];simp [List.lookup_cons]
  | false=>
   simp only [List.lookup_cons,hx] at h
   by_cases hq:(k == NameKind.free && env.scope.kind == .function && env.kindOf n == some .cell)=true
   ·rw[if_pos hq];simp only [List.lookup_cons,hx];exact ih h hc
   ·rw[if_neg hq];simp only [List.lookup_cons,hx];exact ih h hc
def zN (env:Env):List (Str×Addr)->Prop
 | []=>True
 | p::r=>env.cells.lookup p.1=some p.2/\zN env r
theorem zN.get {env:Env}:∀ {cl:List (Str×Addr)},zN env cl->∀ x c,cl.lookup x=some c->env.cells.lookup x=some c
 | [],_,_,_,e=>by simp at e
 | (n,a)::r,h,x,c,e=>by
  cases hx:x == n with
  | true=>
   simp only [List.lookup_cons,hx] at e;cases e;have e':x=n:=by simpa using hx
   subst e';exact h.1
  | false=>
   simp only [List.lookup_cons,hx] at e;exact zN.get h.2 x c e
def sM (X:Cx) (scope:Scope) (N':List Str):List (Option Nat)->Nat->Prop
 | [],_=>True
 | none::r,i=>sM X scope N' r (i+1)
 | some j::r,i=>(∃ x,N'[i]? = some x/\X.N[j]? = some x/\scope.names.lookup x=some .free/\X.env.kindOf x=some .cell)/\sM X scope N' r (i+1)
theorem sM.get {X:Cx}{scope:Scope}{N':List Str}:∀ {fr:List (Option Nat)}{k:Nat},sM X scope N' fr k->∀ i j,fr[i]? = some (some j)->
  ∃ x,N'[k+i]? = some x/\X.N[j]? = some x/\scope.names.lookup x=some .free/\X.env.kindOf x=some .cell
 | [],_,_,i,j,e=>by simp at e
 | none::r,k,h,0,j,e=>by simp at e
 | some _::r,k,h,0,j,e=>by simp at e;subst e;exact h.1
 | none::r,k,h,i+1,j,e=>by
  have:=sM.get (k:=k+1) (show sM X scope N' r (k+1) from h) i j (by simpa using e)
  rwa [Nat.add_right_comm] at this
 | some _::r,k,h,i+1,j,e=>by
  have:=sM.get (k:=k+1) h.2 i j (by simpa using e)
  rwa [Nat.add_right_comm] at this
structure LcOk (X:Cx) (scope:Scope) (cl:List (Str×Addr)) (N':List Str) (fr:List (Option Nat)):Prop where
 clos:closureFor scope X.env=pure cl
 cls:zN X.env cl
 kind:scope.kind=.function
 nocell:(scope.names.all λ p=>p.2 != NameKind.cell)=true
 locs:(scope.names.all λ p=>p.2 != NameKind.local || scope.names.lookup p.1 == some NameKind.local)=true
 frees:(scope.names.all λ p=>p.2 != NameKind.free || (cl.lookup p.1).isSome)=true
 len:fr.length=N'.length
 fr:sM X scope N' fr 0
def tU (fr:List (Option Nat)) (σ:St):St:=fr.map λ o=>o.bind λ j=>(σ[j]?).join
def sO (X:Cx) (N':List Str) (scope:Scope) (cl:List (Str×Addr)) (fp:List Addr) (s:Shared) (H:Hp):Cx:=
 { X with N:=N',s₀:=s,H₀:=H,env:=compEnvC scope cl s.heap.objs.size X.env,outer:=X.stack,ex:=fp,fn:=λ _=>false,pn:=[] }
def FE (X:Cx) (ifs:List Expr) (t:TT):Prop:=
 ∀ (pins:List (Addr×Obj)) (s:Shared) (σ:St) (H:Hp) (Q:Bool->Hp->Prop),Inv X pins σ H s->t σ H Q->
  wpAny (model X.prog X.w) X.A (forIn ifs true λ c r=>if r=true then do let ok <- isTrue c X.env (eval c X.env);pure (ForInStep.yield ok) else pure (ForInStep.yield r)) (TP X pins σ Q) X.xe s
def FM:TT:=λ _ H Q=>Q true H
theorem dG {X:Cx}:FE X [] FM:=λ _ _ _ H _ I h=>wpAny_tests_nil ⟨H,I,h⟩
theorem gU {X:Cx}{c:Expr}{t:TT} (h:PT X c t):FE X [c] t:=λ pins s σ H Q I hw=>wpAny_tests_one (h pins s σ H Q I hw)
def gZ (J:It) (g:TG) (tc:TT) (te:TE) (fr:List (Option Nat)) (σ:St) (H1:Hp) (Q:Addr->Hp->Prop):Prop:=
 ∀ D,H1 D=none->∃ W:Nat->Nat->List V->St->Hp->Prop,(∃ m,W 0 m [] (tU fr σ) (upd H1 D (.lst [])))/\
  ∀ i m ys ad H',W i m ys ad H'->(J.stop i H'/\Q D H')\/
   (J.go i H'/\∃ N:List V->St->Hp->Prop,(∀ ys' cp H'',N ys' cp H''->∃ m',m' < m/\W (i+1) m' ys' cp H'')/\
    ∀ x H2,J.yld i H' x H2->g x ad H2 λ aq H3=>tc aq H3 λ b H4=>
    if b=true then te aq H4 λ y H5=>H5 D=some (.lst ys)/\ys.length < sizeLine/\N (ys++[y]) aq (upd H5 D (.lst (ys++[y])))
    else N ys aq H4)
theorem oM {J:It}{n:Nat}{g:TG}{tc:TT}{te:TE}{fr:List (Option Nat)}{σ:St}{H1:Hp}{Q:Addr->Hp->Prop} (Pv:Addr->Nat->List V->St->Hp->Prop)
  (h0:∀ D,H1 D=none->Pv D 0 [] (tU fr σ) (upd H1 D (.lst [])))
  (hstop:∀ D ys ad H',Pv D n ys ad H'->J.stop n H'/\Q D H')
  (hgo:∀ D i ys ad H',i < n->Pv D i ys ad H'->J.go i H'/\∀ x H2,J.yld i H' x H2->g x ad H2 λ aq H3=>tc aq H3 λ b H4=>
    if b=true then te aq H4 λ y H5=>H5 D=some (.lst ys)/\ys.length < sizeLine/\Pv D (i+1) (ys++[y]) aq (upd H5 D (.lst (ys++[y])))
    else Pv D (i+1) ys aq H4):gZ J g tc te fr σ H1 Q:=by
 intro D hD;refine⟨λ i m ys σ H=>m=n - i/\i<=n/\Pv D i ys σ H,⟨n,by simp,abg _,h0 D hD⟩,?_⟩;rintro i m ys ad H' ⟨rfl,hi,p⟩
 by_cases hlt:i < n
 ·obtain⟨go,step⟩:=hgo D i ys ad H' hlt p;exact .inr ⟨go,Pv D (i+1),λ ys' cp H'' p'=>⟨n - (i+1),by omega,rfl,hlt,p'⟩,step⟩
 ·have e:i=n:=by omega
  subst e;exact .inl (hstop D ys ad H' p)
theorem xG {J:It}{n:Nat}{g:TG}{tb:TS}{D:Ends}{σ:St}{H:Hp} (Pv:Nat->St->Hp->Prop) (h0:Pv 0 σ H) (hstop:∀ σ H,Pv n σ H->J.stop n H/\D.nx σ H)
  (hgo:∀ i σ H,i < n->Pv i σ H->J.go i H/\∀ x H',J.yld i H x H'->g x σ H' λ bf H2=>tb { D with nx:=Pv (i+1),ct:=Pv (i+1),bk:=D.nx } bf H2) :
  ∃ W:Nat->Nat->St->Hp->Prop,(∃ m,W 0 m σ H)/\∀ i m σ H,W i m σ H->
   (J.stop i H/\D.nx σ H)\/(J.go i H/\∃ N:St->Hp->Prop,(∀ ad H',N ad H'->∃ m',m' < m/\W (i+1) m' ad H')/\∀ x H',J.yld i H x H'->g x σ H' λ bf H2=>tb { D with nx:=N,ct:=N,bk:=D.nx } bf H2):=by
 refine⟨λ i m σ H=>m=n - i/\i<=n/\Pv i σ H,⟨n,by simp,abg _,h0⟩,?_⟩;rintro i m σ H ⟨rfl,hi,p⟩
 by_cases hlt:i < n
 ·obtain⟨go,step⟩:=hgo i σ H hlt p;exact .inr ⟨go,Pv (i+1),λ ad H' p'=>⟨n - (i+1),by omega,rfl,hlt,p'⟩,step⟩
 ·have e:i=n:=by omega
  subst e;exact .inl (hstop σ H p)
def tLC (wi:TI) (fr:List (Option Nat)) (g:TG) (tc:TT) (te:TE):TE:=λ σ H Q=>wi σ H λ J H1=>gZ J g tc te fr σ H1 λ D H'=>Q (.ref D) H'
section
variable {prog:Program}{A:Around}{R:Result->Shared->Prop}{s:Shared}
theorem lF {elt target iter:Expr}{ifs:List Expr}{scope:Scope}{pos:Pos}{it acc:Value}{env:Env} (I:Nat->Shared->Prop)
  (turn:∀ n s,I n s->wpAny (model prog w) A (pyNext it) (λ r aj=>match r with
   | none=>R (.ok .next) aj
   | some v=>wpAny (model prog w) A (letOwnedTupleGo target it v) (λ _ er=>wpAny (model prog w) A (assign target env v) (λ _ cn=>
     wpAny (model prog w) A (forIn ifs true λ c r=>if r=true then do let ok <- isTrue c env (eval c env);pure (ForInStep.yield ok) else pure (ForInStep.yield r)) (λ ok cb=>
      if ok=true then wpAny (model prog w) A (eval elt env) (λ x cw=>
       wpAny (model prog w) A (call (.builtin "list.append") [acc,x]) (λ _ fu=>∃ m,m < n/\I m fu) (notedBy (model prog w) A env λ e s'=>R (.error e) s') cw) (notedBy (model prog w) A env λ e s'=>R (.error e) s') cb
      else ∃ m,m < n/\I m cb) (notedBy (model prog w) A env λ e s'=>R (.error e) s') cn) (notedBy (model prog w) A env λ e s'=>R (.error e) s') er) (notedBy (model prog w) A env λ e s'=>R (.error e) s') aj)
    (notedBy (model prog w) A env λ e s'=>R (.error e) s') s)
  (n:Nat) (h:I n s) :
  codeAny (model prog w) A (.compLoop (.ListComp elt [⟨target,iter,ifs,0⟩] scope pos) 0 it acc env) R s:=by
 refine codeAny_loop rfl I (λ n s hI=>?_) n h;show wpAny _ A ((compTurn (.ListComp elt [⟨target,iter,ifs,0⟩] scope pos) 0 it acc env).onRaise (λ x=>do noteFrame x env;theTreesLotGoes x)) _ _ s;refine wpAny_noted ?_;rw[compTurn_list];refine aaa (wpAny_standAt (aaa (abp (turn n s hI) (λ r aj ap=>?_) λ _ _ h'=>h')));cases r with
 | none=>exact aae ap
 | some v=>
  refine aaa (abp ap (λ _ er h₁'=>?_) λ _ _ h'=>h');refine aaa (abp h₁' (λ _ cn ao=>aaa (abp ao (λ ok cb ak=>?_) λ _ _ h'=>h')) λ _ _ h'=>h');cases ok with
  | false=>exact aae ⟨rfl,ak⟩
  | true=>
   exact aaa (aaa (abp ak (λ x cw ar=>aaa (abp ar (λ _ fu bj=>aae (aae ⟨rfl,bj⟩)) λ _ _ h'=>h')) λ _ _ h'=>h'))
end
section
variable {X:Cx}
theorem LcOk.invC {scope:Scope}{cl:List (Str×Addr)}{N':List Str}{fr:List (Option Nat)}{pins:List (Addr×Obj)}{σ:St}{H:Hp}{s:Shared}{h1:Heap}{fp:List Addr}{m1:Str->Option Value}{tk:Nat}
  (S:LcOk X scope cl N' fr) (I:Inv X pins σ H s) (hf:∀ b∈fp,g9 X pins H b) (hfo:∀ b∈fp,b < s.heap.objs.size)
  (k:∀ b o,s.heap.get? b=some o->h1.get? b=some o) (hn:h1.Ns s.heap.objs.size m1):Inv (sO X N' scope cl fp s H) [] (tU fr σ) H { s with heap:=h1,toks:=tk }:=by
 have hfree:=S.frees;have hcell:=S.nocell;rw[ace] at hfree hcell;have fresh:H s.heap.objs.size=none:=I.hok.fresh (aaj _);have clg:=S.cls.get;refine⟨⟨I.ok.mod,S.kind,I.ok.glob,I.ok.blt,aaj _,λ x y c e1 e2=>I.ok.inj x y c (clg x c e1) (clg y c e2),λ x hx=>?_,(λ x c e=>nomatch e),I.ok.hd,I.ok.frames,.inl rfl,λ b hb=>⟨aar (hfo b hb),λ x c e=>(hf b hb).2.2.2.2.1 x c (clg x c e)⟩,
  I.bs,acb I.ok.bsz I.sz,λ b o e hb=>?_,λ b hb hz=>?_,I.stack,I.stkFree⟩,rfl,I.bare,Un.kept k,⟨m1,hn,λ i x v e1 e2 e3=>?_⟩,λ x c e=>?_,fresh,λ x c e=>I.freeC x c (clg x c e),λ p hp=>absurd (show p∈([]:List (Addr×Obj)) from hp) (by simp),I.hok.kept k,?_⟩
 ·
  have hm:∃ k',(x,k')∈scope.names/\k'=NameKind.free:=by
   have hx':(relabel scope X.env).names.lookup x=some .cell\/(relabel scope X.env).names.lookup x=some .free:=hx;obtain⟨k',e,hk'⟩:∃ k',(relabel scope X.env).names.lookup x=some k'/\(k'=.cell\/k'=.free):=by
    rcases hx' with e | e
    ·exact⟨_,e,.inl rfl⟩
    ·exact⟨_,e,.inr rfl⟩
   have hmem:=abz e;obtain⟨⟨n,kn⟩,hp,he⟩:=acq.mp hmem;dsimp only at he
   split at he
   ·rename_i hc
    cases he;have:kn=.free:=by
     simp only [Bool.and_eq_true,beq_iff_eq] at hc;exact hc.1.1
    exact⟨kn,hp,this⟩
   ·cases he;rcases hk' with e' | e'
    ·subst e';have:=hcell _ hp;simp at this
    ·exact⟨_,hp,e'⟩
  obtain⟨k',hp,rfl⟩:=hm;have:=hfree _ hp;simp only [bne_self_eq_false,Bool.false_or] at this;exact Option.isSome_iff_exists.mp this
 ·rcases (hf b hb).2.2.2.1 with z | z
  ·exact I.ok.noex b o e z
  ·have:=aak e;exact absurd (aan this (acb I.ok.bsz z)) (aca _)
 ·obtain⟨_,f1,f2,_⟩:=hf b hb;rcases aax.mp (I.stkSub b hz) with e | e
  ·exact f1 e
  ·exact f2 e
 ·
  unfold tU at e2;rw[aaf] at e2;cases ef:fr[i]? with
  | none=>rw[ef] at e2;cases e2
  | some o=>
   rw[ef] at e2;cases o with
   | none=>simp at e2
   | some j=>
    have e2':(σ[j]?).join=some v:=by simpa using e2
    obtain⟨x',h1',h2',h3',h4'⟩:=S.fr.get i j ef;rw[Nat.zero_add] at h1';have ex:x'=x:=by
     have:N'[i]? = some x:=e1;rw[h1'] at this;exact abu this
    subst ex;have e2'':σ[j]? = some (some v):=by
     cases q:σ[j]? with
     | none=>rw[q] at e2';cases e2'
     | some z=>rw[q] at e2';simp at e2';rw[e2']
    obtain⟨m,hm,hl⟩:=I.loc;obtain⟨u,r,lk⟩:=hl j x' v h2' e2'' (.inr (.inl h4'));refine⟨u,r,?_⟩;rcases lk with ⟨q,_⟩ | ⟨_,c,hc,z⟩
    ·rw[h4'] at q;cases q
    ·have hcl:∃ c',cl.lookup x'=some c':=by
      have:=hfree _ (abz h3');simp only [bne_self_eq_false,Bool.false_or] at this;exact Option.isSome_iff_exists.mp this
     obtain⟨c',hc'⟩:=hcl;have e':=clg x' c' hc';rw[hc] at e';cases e';obtain⟨oc,hoc,hd⟩:=z;refine .inr ⟨.inl ?_,c,hc',oc,k c oc hoc,hd⟩;exact dQ I.ok.kind h3' h4'
 ·obtain⟨v,oc,hoc,hd⟩:=I.cell x c (clg x c e);exact⟨v,oc,k c oc hoc,hd⟩
 ·show (tU fr σ).length=N'.length;unfold tU;rw[aad,S.len]
theorem Inv.outC {scope:Scope}{cl:List (Str×Addr)}{N':List Str}{pins pins':List (Addr×Obj)}{σ ad:St}{H H':Hp}{s s':Shared}{fp:List Addr} (I:Inv X pins σ H s) (J:Inv (sO X N' scope cl fp s H) pins' ad H' s')
  (hf:∀ b∈fp,g9 X pins H b):Inv X pins σ H' s':=
 I.call' (ch:=fp) J.os J.base J.hok J.bare λ b hb=>by
  obtain⟨_,f1,_,f3,f4,f5⟩:=hf b hb;exact⟨f3,f1,f4,f5⟩
theorem Inv.letgo {pins:List (Addr×Obj)}{σ:St}{H:Hp}{s:Shared}{C:Addr}{h':Heap} (I:Inv X pins σ H s) (f:g9 X pins H C) (hsb:Heap.SameBut C s.heap h'):Inv X pins σ H { s with heap:=h' }:=by
 obtain⟨f0,f1,f2,f3,f4,f5⟩:=f;exact I.turned (t':=s.toks) (it:=C) (h':=h') (λ b o hb e=>(hsb.2 b hb).trans e) f0 f1 f3 f4 f5
theorem tO {elt tg iter:Expr}{ifs:List Expr}{scope:Scope}{pos:Pos}{N':List Str}{fr:List (Option Nat)}{cl:List (Str×Addr)}{g:TG}{tc:TT}{te:TE}
  {pins:List (Addr×Obj)}{σ:St}{H:Hp}{s:Shared}{J:It}{fp:List Addr}{it:Addr}{tn:Nat->Heap->Prop}{Q:Addr->Hp->Prop}{RR:Value->Addr->Result->Shared->Prop}{E:Value->Shared->Prop}
  (hx:∀ e s,¬ X.xe e s) (hc:X.calm=true) (S:LcOk X scope cl N' fr)
  (hg:∀ fp s H,PG (sO X N' scope cl fp s H) tg g) (ht:∀ fp s H,FE (sO X N' scope cl fp s H) ifs tc) (he:∀ fp s H,PE (sO X N' scope cl fp s H) elt te)
  (I:Inv X pins σ H s) (T:Turn X.prog X.w X.K tg J fp it tn) (st:tn 0 s.heap) (hf:∀ b∈fp,g9 X pins H b) (h:gZ J g tc te fr σ H Q)
  (hRR:∀ D C H' s' m',Inv X pins σ H' s'->Q D H'->s'.heap.Ns C m'->g9 X pins H' C->RR (.ref D) C (.ok .next) s') :
  wpAny (model X.prog X.w) X.A (newList []) (λ acc cb=>wpAny (model X.prog X.w) X.A (newFunctionEnv scope X.env.globals cl [] X.env.qual none .none (some X.env)) (λ cenv cw=>
   codeAny (model X.prog X.w) X.A (.compStart (.ListComp elt [⟨tg,iter,ifs,0⟩] scope pos) 0 (.ref it) acc { cenv with scope:=relabel scope X.env }) (RR acc cenv.locals) cw) E cb) E s:=by
 have hcell:=S.nocell;rw[ace] at hcell;refine wpAny_newObj_type (wpAny_newFunctionEnv (λ x hx'=>by simpa using hcell x hx') (by intro y hy;simp at hy) (λ ap ci cy=>?_) S.kind);dsimp only at ci cy ⊢;have fresh:H s.heap.objs.size=none:=I.hok.fresh (aaj _);have I3:Inv X pins σ (upd H s.heap.objs.size (.lst [])) { s with heap:=s.heap.push { cls:=.type "list",data:=.seq ([]:List Value).toArray },toks:=s.toks }:=I.lnew (ys:=[]) (its:=[]) .nil (abg _);have hf3:∀ b∈fp,g9 X pins (upd H s.heap.objs.size (.lst [])) b:=λ b hb=>by
  obtain⟨o,ho,_⟩:=T.obj _ _ st b hb;exact⟨by rw[aK (aar (aak ho))];exact (hf b hb).1,(hf b hb).2⟩
 generalize hs3:({ s with heap:=s.heap.push { cls:=.type "list",data:=.seq ([]:List Value).toArray },toks:=s.toks }:Shared)=s3 at I3;have e3:s3.heap=s.heap.push { cls:=.type "list",dict:=none,data:=.seq ([]:List Value).toArray }:=by rw[<- hs3]
 have e3s:({ s with heap:=s.heap.push { cls:=.type "list",dict:=none,data:=.seq ([]:List Value).toArray } }:Shared)=s3:=hs3;have hsz3:s3.heap.objs.size=s.heap.objs.size+1:=by rw[e3,abd]
 have hfo:∀ b∈fp,b < s3.heap.objs.size:=λ b hb=>by
  obtain⟨o,ho,_⟩:=T.obj _ _ st b hb;rw[hsz3];exact Nat.lt_succ_of_lt (aak ho)
 rw[<- e3] at ci cy ⊢;have old3:∀ b o,s3.heap.get? b=some o->ap.get? b=some o:=λ b o e=>cy.extBut b o (aar (aak e)) (aac _ e);have old:∀ b o,s.heap.get? b=some o->s3.heap.get? b=some o:=λ b o e=>by rw[e3];exact aac _ e
 have I4:=S.invC (tk:=s3.toks) I3 hf3 hfo old3 ci;obtain⟨W,⟨m0,w0⟩,turn⟩:=h s.heap.objs.size fresh;have stat:∀ {H':Hp},(∀ b∈fp,H' b=none)->∀ b∈fp,g9 (sO X N' scope cl fp s3 (upd H s.heap.objs.size (.lst []))) [] H' b:=λ hn b hb=>by
  refine⟨hn b hb,aar (hfo b hb),?_,.inl hb,λ x c e=>(hf b hb).2.2.2.2.1 x c (S.cls.get x c e),λ p hp=>absurd (show p∈([]:List (Addr×Obj)) from hp) (by simp)⟩;intro hz;obtain⟨_,f1,f2,_⟩:=hf b hb;rcases aax.mp (I.stkSub b hz) with e | e
  ·exact f1 e
  ·exact f2 e
 have loop:∀ s4:Shared,s4={ s3 with heap:=ap,toks:=s3.toks }->
   codeAny (model X.prog X.w) X.A (.compLoop (.ListComp elt [⟨tg,iter,ifs,0⟩] scope pos) 0 (.ref it) (.ref s.heap.objs.size) (compEnvC scope cl s3.heap.objs.size X.env)) (RR (.ref s.heap.objs.size) s3.heap.objs.size) s4:=by
  intro s4 hs4;refine lF (λ n s'=>∃ i ys ad H',Inv (sO X N' scope cl fp s3 (upd H s.heap.objs.size (.lst []))) [] ad H' s'/\tn i s'.heap/\(∀ b∈fp,H' b=none)/\W i n ys ad H') ?_ m0
   ⟨0,[],tU fr σ,_,by rw[hs4];exact I4,by rw[hs4];exact T.keep _ _ _ st λ b _ o e=>old3 b o (old b o e),λ b hb=>(hf3 b hb).1,w0⟩
  rintro n s5 ⟨i,ys,cm,H5,I5,st5,fr5,w5⟩;rcases turn i n ys cm H5 w5 with ⟨stop,qn⟩ | ⟨go,N,hN,step⟩
  ·refine cY (T.done (sO X N' scope cl fp s3 (upd H s.heap.objs.size (.lst []))) rfl rfl rfl hc i [] s5 cm H5 _ I5 (stat fr5) st5 stop) λ r s6 ⟨hr,I6⟩=>?_;subst hr;obtain⟨m',hm',_⟩:=I6.loc;exact hRR _ _ H5 s6 m' (I3.outC I6 hf3) qn hm' (I3.fpOk (aaj _) I6.free)
  ·refine cY (T.item (sO X N' scope cl fp s3 (upd H s.heap.objs.size (.lst []))) rfl rfl rfl hc i [] s5 cm H5 _ I5 (stat fr5) st5 go) λ r s6 ⟨u,hr,h6⟩=>?_;subst hr;refine cY h6 λ _ s7 ⟨x,H7,I7,r7,y7,st7,fr7⟩=>?_;have I7':=I7.pinned (stat fr7) (T.obj _ _ st7);refine abp (hg fp s3 _ _ s7 cm H7 x u _ I7' r7 (step x H7 y7)) (λ _ s8 ⟨bx,H8,I8,q8⟩=>?_) λ e s' z=>(hx e s' z).elim;refine abp (ht fp s3 _ _ s8 bx H8 _ I8 q8) (λ ok s9 ⟨H9,I9,q9⟩=>?_) λ e s' z=>(hx e s' z).elim;have again:∀ {s10:Shared}{H10:Hp}{ys':List V},Inv (sO X N' scope cl fp s3 (upd H s.heap.objs.size (.lst []))) ([]++lO fp s7.heap) bx H10 s10->N ys' bx H10->
     ∃ m,m < n/\∃ i ys ad H',Inv (sO X N' scope cl fp s3 (upd H s.heap.objs.size (.lst []))) [] ad H' s10/\tn i s10.heap/\(∀ b∈fp,H' b=none)/\W i m ys ad H':=λ {s10 H10 ys'} I10 n10=>by
    obtain⟨m',hm,w10⟩:=hN ys' bx H10 n10;refine⟨m',hm,i+1,ys',bx,H10,I10.unpinned,T.keep _ _ _ st7 λ b hb o e=>(I10.pin (b,o) (abc _ (abc _ (eG hb e)))).1,λ b hb=>?_,w10⟩;obtain⟨o,e,d⟩:=T.obj _ _ st7 b hb;exact (I10.pin (b,o) (abc _ (abc _ (eG hb e)))).2.1
   cases ok with
   | false=>
    rw[if_neg aal] at q9 ⊢;exact again I9 q9
   | true=>
    rw[if_pos rfl] at q9 ⊢;refine abp (he fp s3 _ _ s9 bx H9 _ I9 q9) (λ y s10 ⟨yv,H10,I10,r10,hD,hlen,q10⟩=>?_) λ e s' z=>(hx e s' z).elim;refine abp (cK (X:=sO X N' scope cl fp s3 (upd H s.heap.objs.size (.lst []))) _ s10 bx H10 (.ref s.heap.objs.size) [yv] (.ref s.heap.objs.size) [y] (λ _ H11=>H11=upd H10 s.heap.objs.size (.lst (ys++[yv]))) I10 rfl (.cons r10 .nil)
     ⟨_,ys,yv,rfl,rfl,hD,hlen,rfl⟩) (λ _ s11 ⟨_,H11,I11,_,e11⟩=>?_) λ e s' z=>(hx e s' z).elim
    subst e11;exact again I11 q10
 exact codeAny_compStart_list (loop _ (by rw[<- e3s];rfl)) (T.self X.A 0 _ _ _ (T.keep _ _ _ st λ b _ o e=>old3 b o (old b o e)) (loop _ (by rw[<- e3s];rfl)))
theorem fU {elt tg iter:Expr}{ifs:List Expr}{scope:Scope}{pos:Pos}{N':List Str}{fr:List (Option Nat)}{cl:List (Str×Addr)}{wi:TI}{g:TG}{tc:TT}{te:TE}
  (hx:∀ e s,¬ X.xe e s) (hc:X.calm=true) (S:LcOk X scope cl N' fr) (hi:PI X tg iter wi)
  (hg:∀ fp s H,PG (sO X N' scope cl fp s H) tg g) (ht:∀ fp s H,FE (sO X N' scope cl fp s H) ifs tc) (he:∀ fp s H,PE (sO X N' scope cl fp s H) elt te)
  (hs:∀ x,foldedSetIterable iter X.env x=pure x:=by intro _;rfl):PE X (.ListComp elt [⟨tg,iter,ifs,0⟩] scope pos) (tLC wi fr g tc te):=by
 intro pins s σ H Q I h;have hloc:=S.locs;rw[ace] at hloc;rw[eval_ListComp];refine wpAny_comprehension_free (use:=none) rfl hs S.clos S.kind (λ x hx' hl=>by have:=hloc x hx';rw[hl] at this;simpa using this) (cY (hi pins s σ H _ I h) λ v s1 h1=>cY h1 λ itv s2 h2=>?_);obtain⟨it,fp,tn,J,H2,e,I2,T,st2,f2,rest⟩:=h2;subst e;refine tO (RR:=λ acc C=>compPost (model X.prog X.w) X.A X.xe none (EP X pins σ Q) acc C) hx hc S hg ht he I2 T st2 f2 rest ?_;intro D C H' s' m' I' q hn f;exact⟨m',hn,λ h' hsb=>⟨.ref D,H',I'.letgo f hsb,rfl,q⟩⟩
theorem gD {i:Nat}{y:Str}{py:Pos}{spos:Pos}{elt tg iter:Expr}{ifs:List Expr}{scope:Scope}{pos:Pos}{N':List Str}{fr:List (Option Nat)}{cl:List (Str×Addr)}{wi:TI}{g:TG}{tc:TT}{te:TE}
  (hN:X.N.Nodup) (hy:X.N[i]? = some y) (hk:X.env.scope.names.lookup y=some .local)
  (hx:∀ e s,¬ X.xe e s) (hc:X.calm=true) (S:LcOk X scope cl N' fr) (hi:PI X tg iter wi)
  (hg:∀ fp s H,PG (sO X N' scope cl fp s H) tg g) (ht:∀ fp s H,FE (sO X N' scope cl fp s H) ifs tc) (he:∀ fp s H,PE (sO X N' scope cl fp s H) elt te)
  (hsw:swapsWith (.ListComp elt [⟨tg,iter,ifs,0⟩] scope pos) (some (.Name y py)) spos.line X.env=pure true:=by rfl)
  (hs:∀ x,foldedSetIterable iter X.env x=pure x:=by intro _;rfl):PS X (.Assign [.Name y py] (.ListComp elt [⟨tg,iter,ifs,0⟩] scope pos) spos) (iB (tLC wi fr g tc te) (dU i)):=by
 intro pins s σ H D I h;have hloc:=S.locs;rw[ace] at hloc;rw[exec_Assign_Name_used _ _ _ _ hsw];refine aaa (wpAny_standAt (aaa ?_));show wpAny _ X.A (do let _ <- comprehension (.ListComp elt [⟨tg,iter,ifs,0⟩] scope pos) scope X.env _ (newList []) false (eval iter X.env) (some (assign (.Name y py) X.env))) _ _ s;refine aaa (abp (wpAny_comprehension_free (use:=some (assign (.Name y py) X.env)) (Q:=λ _ s'=>SP X pins D .next s') rfl hs S.clos S.kind (λ x hx' hl=>by have:=hloc x hx';rw[hl] at this;simpa using this)
  (cY (hi pins s σ H _ I h) λ v s1 h1=>cY h1 λ itv s2 h2=>?_)) (λ _ s' hq=>aae (aae hq)) λ _ _ e=>e)
 obtain⟨it,fp,tn,J,H2,e,I2,T,st2,f2,rest⟩:=h2;subst e;refine tO (RR:=λ acc C=>compPost (model X.prog X.w) X.A X.xe (some (assign (.Name y py) X.env)) (λ _ s'=>SP X pins D .next s') acc C) hx hc S hg ht he I2 T st2 f2 rest ?_;intro Da C H' s' m' I' q hn f;show wpAny _ X.A (assign (.Name y py) X.env (.ref Da)) _ _ _;refine wpAny_assign_Name (lI I' hN hy (.inl hk) (v:=.ref Da) rfl (λ s'' I'' hch=>?_) (.inr hk));obtain⟨a,hsb,ha⟩:=hch;have haC:a≠C:=by
  rcases ha with e | e
  ·rw[e];exact Ne.symm f.2.1
  ·exact f.2.2.2.2.1 _ _ e
 exact⟨m',hn.sameBut hsb (Ne.symm haC),λ h' hs'=>⟨_,H',I''.letgo f hs',q⟩⟩
end
end L2
namespace TwZ
open PySem
open Sem (wp)
def cW (h:Heap) (t:Bool) (it a:Addr) (i:Nat):Prop:=if t=true then h.IsTupleIter it a i else h.IsListIter it a i
def bT (h:Heap) (t:Bool) (a:Addr) (items:Array Value):Prop:=if t=true then h.IsTuple a items else h.IsList a items
theorem cW.at {h h':Heap}{t:Bool}{it a:Addr}{i:Nat} (x:cW h t it a i) (k:∀ o,h.get? it=some o->h'.get? it=some o):cW h' t it a i:=by
 cases t <;> (obtain⟨o,ho,r⟩:=x;exact⟨o,k o ho,r⟩)
theorem ex {h h':Heap}{b c:Addr}{o:Obj} (hs:Heap.SameBut b h h') (hc:@Ne Nat c b) (e:h.get? c=some o):h'.get? c=some o:=hs.extBut _ _ hc e
theorem cW.ext {h h':Heap}{t:Bool}{it a b:Addr}{i:Nat} (x:cW h t it a i) (hs:Heap.SameBut b h h') (hab:@Ne Nat it b):cW h' t it a i:=x.at λ o e=>hs.extBut _ _ hab e
theorem bT.at {h h':Heap}{t:Bool}{a:Addr}{xs:Array Value} (x:bT h t a xs) (k:∀ o,h.get? a=some o->h'.get? a=some o):bT h' t a xs:=by
 cases t <;> (obtain⟨o,ho,r⟩:=x;exact⟨o,k o ho,r⟩)
theorem bT.ext {h h':Heap}{t:Bool}{a b:Addr}{xs:Array Value} (x:bT h t a xs) (hs:Heap.SameBut b h h') (hab:@Ne Nat a b):bT h' t a xs:=x.at λ o e=>hs.extBut _ _ hab e
theorem bT.lt {h:Heap}{t:Bool}{a:Addr}{xs:Array Value} (x:bT h t a xs):a < h.objs.size:=by
 cases t <;> (obtain⟨o,ho,r⟩:=x;exact aak ho)
theorem cW.obj {h:Heap}{t:Bool}{it a:Addr}{i:Nat} (x:cW h t it a i):∃ o,h.get? it=some o/\∀ v,o.data≠.cell v:=by
 cases t <;> (obtain⟨o,ho,_,d⟩:=x;exact⟨o,ho,λ v z=>by rw[d] at z;cases z⟩)
section
variable {prog:Program}{M:Model}{A:Around}{E:Value->Shared->Prop}{s:Shared}
theorem lZ {a:Addr}{Q:Option Obj->Shared->Prop} (h:Q (s.heap.get? a) s):wpAny M A (loadIfAlive a) Q E s:=λ Γ p _=>by
 unfold loadIfAlive;rw[Sem.wp_loadIfAlive];exact h
theorem kW {it l:Addr}{i:Nat}{items}{x:Value}{Q:Value->Shared->Prop} (hit:s.heap.IsTupleIter it l i)
  (hl:s.heap.IsTuple l items) (hx:items[i]? = some x)
  (hQ:∀ h',h'.IsTupleIter it l (i+1)->Heap.SameBut it s.heap h'->Q x { s with heap:=h' }) :
  wpAny (model prog w) A (Builtin.SmallTypes.nextOf (.ref it)) Q E s:=by
 obtain⟨o,ho,hc,hd⟩:=id hit;obtain⟨ol,hol,_,nl,hdl⟩:=hl;unfold Builtin.SmallTypes.nextOf;refine aaa (wpAny_callSpecial?_slot (name:=Str.ofString "__next__") hit.typeIs F.slot_tuple_iterator_next
  (wpAny_call_entry F.slot_tuple_iterator_next hit.typeIs F.entry_tuple_iterator_next ?_ (F.args_tuple_iterator_next_1 _)))
 show wpAny _ _ (field (.ref it) 0 >>= _) _ _ s;refine aaa (abj ho hd (x:=.ref l) rfl ?_);show wpAny _ _ (if (Value.ref l == Value.none)=true then _ else _) _ _ s;rw[if_neg (show ¬ ((Value.ref l == Value.none)=true) from aal)];show wpAny _ _ (field (.ref it) 1 >>= _) _ _ s;refine aaa (abj ho hd (x:=.int i 0) rfl ?_);show wpAny _ _ (seqItems? (.ref l) >>= _) _ _ s;refine aaa (wpAny_seqItems hol hdl ?_);simp only [abr,hx];refine aaa (wpAny_setField ho hd (by simp) (aae ⟨x,rfl,aae (hQ _ ?_ (Heap.SameBut.update ..))⟩));exact⟨_,ack _ ho (Obj.isFreed_of_fields (Obj.data_mapFields hd _)),(Obj.cls_mapFields ..).trans hc,by
  rw[Obj.data_mapFields hd];simp [rawInt]⟩
theorem lT {it l:Addr}{i:Nat}{items}{Q:Value->Shared->Prop} (hh:A.handled=none)
  (hit:s.heap.IsTupleIter it l i) (hl:s.heap.IsTuple l items) (hx:items[i]? = none)
  (hE:∀ h' e,Heap.ExtBut it s.heap h'->(∃ o,h'.get? e=some o/\o.cls=.type "StopIteration")->E (.ref e) { s with heap:=h' }) :
  wpAny (model prog w) A (Builtin.SmallTypes.nextOf (.ref it)) Q E s:=by
 obtain⟨o,ho,hc,hd⟩:=id hit;obtain⟨ol,hol,_,nl,hdl⟩:=hl;unfold Builtin.SmallTypes.nextOf;refine aaa (wpAny_callSpecial?_slot (name:=Str.ofString "__next__") hit.typeIs F.slot_tuple_iterator_next
  (wpAny_call_entry F.slot_tuple_iterator_next hit.typeIs F.entry_tuple_iterator_next ?_ (F.args_tuple_iterator_next_1 _)))
 show wpAny _ _ (field (.ref it) 0 >>= _) _ _ s;refine aaa (abj ho hd (x:=.ref l) rfl ?_);show wpAny _ _ (if (Value.ref l == Value.none)=true then _ else _) _ _ s;rw[if_neg (show ¬ ((Value.ref l == Value.none)=true) from aal)];show wpAny _ _ (field (.ref it) 1 >>= _) _ _ s;refine aaa (abj ho hd (x:=.int i 0) rfl ?_);show wpAny _ _ (seqItems? (.ref l) >>= _) _ _ s;refine aaa (wpAny_seqItems hol hdl ?_);simp only [abr,hx];refine aaa (acg (aaa (wpAny_setField ho hd (by simp) ?_)));show wpAny _ _ (newExc (.type "StopIteration") [] >>= _) _ _ _;refine aaa ?_;simp only [newExc,newTuple];refine aaa (wpAny_newObj_type ?_ (by size_fits));refine aaa (m:=firstArgMember _ _) (wpAny_of_eq (a:=Value.none) (by first | rfl | (simp only [firstArgMember];rfl)) ?_);refine wpAny_newObj_type ?_ (by size_fits);simp only [raiseNew];refine aaa (wpAny_handled ?_)
 first | rw[show A.in1.handled=none from hh] | rw[hh]
 refine aaa (aae (wpAny_throw ?_));exact hE _ _ (((Heap.SameBut.update ..).extBut.push _).push _) ⟨_,aag _ rfl,rfl⟩
theorem bH {t:Bool}{it l:Addr}{i:Nat}{items}{x:Value}{Q:Value->Shared->Prop} (hit:cW s.heap t it l i)
  (hl:bT s.heap t l items) (hx:items[i]? = some x)
  (hQ:∀ h',cW h' t it l (i+1)->Heap.SameBut it s.heap h'->Q x { s with heap:=h' }) :
  wpAny (model prog w) A (Builtin.SmallTypes.nextOf (.ref it)) Q E s:=by
 cases t with
 | true=>exact kW hit hl hx hQ
 | false=>exact wpAny_nextOf_list_item hit hl hx hQ
theorem cM {t:Bool}{it l:Addr}{i:Nat}{items}{Q:Value->Shared->Prop} (hh:A.handled=none)
  (hit:cW s.heap t it l i) (hl:bT s.heap t l items) (hx:items[i]? = none)
  (hE:∀ h' e,Heap.ExtBut it s.heap h'->(∃ o,h'.get? e=some o/\o.cls=.type "StopIteration")->E (.ref e) { s with heap:=h' }) :
  wpAny (model prog w) A (Builtin.SmallTypes.nextOf (.ref it)) Q E s:=by
 cases t with
 | true=>exact lT hh hit hl hx hE
 | false=>exact wpAny_nextOf_list_end hh hit hl hx hE
abbrev jZ (h:Heap) (z TI TO:Addr) (f0:Value) (f1:Bool):Prop:=
 h.get? z=some { cls:=.type "zip",dict:=none,data:=.fields #[f0,.bool f1,.bool false,.ref TI,.ref TO],slots:=#[] }
abbrev cR (h:Heap) (T:Addr) (vs:Array Value):Prop:=h.get? T=some { cls:=.type "tuple",data:=.seq vs }
def eT (f0:Value):Prop:=f0=.none\/∃ a:Int,f0=.int a 0
theorem gW {z TI TO:Addr}{f0:Value}{f1:Bool}{Q:Bool->Shared->Prop} (hz:jZ s.heap z TI TO f0 f1) (hf:eT f0) (yes:Q true s)
  (no:∀ h',jZ h' z TI TO f0 true->Heap.SameBut z s.heap h'->Q false { s with heap:=h' }):wpAny (model prog w) A (Builtin.SmallTypes.ownedTupleIsFree (.ref z)) Q E s:=by
 unfold Builtin.SmallTypes.ownedTupleIsFree;refine aaa (abj hz rfl (x:=f0) rfl ?_);rcases hf with rfl | ⟨a,rfl⟩
 ·exact aae yes
 ·refine aaa (lZ ?_);cases h:s.heap.get? a.toNat with
  | none=>exact aae yes
  | some o=>
   show wpAny _ _ (field (.ref z) 1 >>= _) _ _ _;refine aaa (abj hz rfl (x:=.bool f1) rfl ?_);cases f1 with
   | true=>exact aae (no s.heap hz (Heap.SameBut.refl ..))
   | false=>
    show wpAny _ _ (setField (.ref z) 1 (.bool true) >>= _) _ _ _;refine aaa (wpAny_setField_rec hz (by simp) λ ap am ae=>aae (no ap am ae))
theorem xD {z TI TO:Addr}{f0:Value}{f1:Bool}{T:Addr}{Q:Unit->Shared->Prop} (hz:jZ s.heap z TI TO f0 f1)
  (h:∀ h',jZ h' z TI TO (rawInt T) false->Heap.SameBut z s.heap h'->Q () { s with heap:=h' }):wpAny (model prog w) A (Builtin.SmallTypes.ownedTupleHandOut (.ref z) (.ref T)) Q E s:=by
 unfold Builtin.SmallTypes.ownedTupleHandOut;refine aaa (wpAny_setField_rec hz (by simp) λ ap am ae=>?_);replace am:jZ ap z TI TO (rawInt T) f1:=am;refine wpAny_setField_rec am (by simp) λ ao ce af=>?_;exact h ao ce (Heap.SameBut.trans ae af)
theorem fR {T:Addr}{vs:Array Value}{x:Value}{k:Nat}{Q:Unit->Shared->Prop} (hT:cR s.heap T vs) (h3:vs.size<=3)
  (h:∀ h',cR h' T (vs.setIfInBounds k x)->Heap.SameBut T s.heap h'->Q () { s with heap:=h' }):wpAny (model prog w) A (updateSeq T (·.setIfInBounds k x)) Q E s:=by
 have hl:vs.size<=sizeLine:=acb h3 (by decide);refine wpAny_updateSeq (hz:=hl) (_hz':=by rw[Array.size_setIfInBounds];omega) hT rfl (h _ ?_ (Heap.SameBut.update ..));show Heap.get? _ _=_;rw[ack _ hT rfl];simp [Obj.mapSeq]
theorem nn {n i j:Nat} (h:i≠j):n+i≠n+j:=λ e=>h (Nat.add_left_cancel e)
theorem n0 {n j:Nat} (h:0 < j):n≠n+j:=λ e=>absurd e (aar (Nat.lt_add_of_pos_right h))
theorem n0' {n j:Nat} (h:0 < j):n+j≠n:=Ne.symm (n0 h)
theorem al {a n:Nat} (h:a < n) (j:Nat):a≠n+j:=aar (aan h (Nat.le_add_right n j))
theorem al0 {a n:Nat} (h:a < n):a≠n:=aar h
theorem co {c n m k:Nat} (h:c < n\/n+m < c) (hk:k<=m):c≠n+k:=λ e=>h.elim (λ h=>absurd e (al h k)) λ h=>absurd (Nat.lt_of_le_of_lt (Nat.add_le_add_left hk n) h) (by rw[e];exact aca _)
theorem co0 {c n m:Nat} (h:c < n\/n+m < c):c≠n:=co (k:=0) h (abg m)
theorem aU {a b:Nat} (h:@Ne Nat a b:=by first | exact nn (by decide) | exact n0 (by decide) | exact n0' (by decide) | exact al l1 _ | exact al l2 _ | exact al l3 _ | exact al0 l1 | exact al0 l2 | exact al0 l3 | exact co hc (by decide) | exact co0 hc | omega):@Ne Nat a b:=h
theorem xU {n a1 a2 a3:Nat}{t1 t2 t3:Bool}{k:Nat}{xs ys zs:Array Value}{x y z c1 c2 c3 f0:Value}{f1:Bool}{Q:Value->Shared->Prop} (hf:eT f0)
  (hz:jZ s.heap (n+5) (n+3) (n+4) f0 f1) (hTI:cR s.heap (n+3) #[.ref n,.ref (n+1),.ref (n+2)]) (hTO:cR s.heap (n+4) #[c1,c2,c3])
  (i1:cW s.heap t1 n a1 k) (i2:cW s.heap t2 (n+1) a2 k) (i3:cW s.heap t3 (n+2) a3 k) (s1:bT s.heap t1 a1 xs) (s2:bT s.heap t2 a2 ys) (s3:bT s.heap t3 a3 zs)
  (l1:a1 < n) (l2:a2 < n) (l3:a3 < n) (hx:xs[k]? = some x) (hy:ys[k]? = some y) (hw:zs[k]? = some z)
  (hQ:∀ (T:Nat) h' f0' f1' d1 d2 d3,s.heap.objs.size<=T->eT f0'->jZ h' (n+5) (n+3) (n+4) f0' f1'->cR h' (n+3) #[.ref n,.ref (n+1),.ref (n+2)]->cR h' (n+4) #[d1,d2,d3]->
   cW h' t1 n a1 (k+1)->cW h' t2 (n+1) a2 (k+1)->cW h' t3 (n+2) a3 (k+1)->cR h' T #[x,y,z]->
   (∀ (c:Nat) o,(c < n\/n+5 < c)->s.heap.get? c=some o->h'.get? c=some o)->Q (.ref T) { s with heap:=h' }) :
  wpAny (model prog w) A (Builtin.«zip.__next__» ⟨[.ref (n+5)],[]⟩) (λ fin s'=>∃ v,fin=.done (.ret v)/\Q v s') E s:=by
 have hzlt:n+5 < s.heap.objs.size:=aak hz;show wpAny _ _ (field (.ref (n+5)) 2 >>= _) _ _ _;refine aaa (abj hz rfl (x:=.bool false) rfl ?_);show wpAny _ _ (field (.ref (n+5)) 3 >>= _) _ _ _;refine aaa (abj hz rfl (x:=.ref (n+3)) rfl ?_);refine aaa (wpAny_seqItems hTI rfl ?_);show wpAny _ _ (Builtin.SmallTypes.ownedTupleIsFree (.ref (n+5)) >>= _) _ _ _;refine aaa (gW hz hf ?_ ?_)
 ·simp only [if_true];refine aaa (acg ?_);refine aaa (abj hz rfl (x:=.ref (n+4)) rfl ?_);refine aaa (wpAny_setField_rec hz (by simp) λ ap am ae=>?_);replace am:jZ ap (n+5) (n+3) (n+4) .ellipsis f1:=am;refine aaa ?_;simp only [List.zipIdx_cons,List.zipIdx_nil,List.forIn_cons,List.forIn_nil];refine aaa (aaa (wpAny_onRaise ?_));show wpAny _ _ (Builtin.SmallTypes.nextOf (.ref n) >>= _) _ _ _;refine aaa (bH (i1.ext ae aU) (s1.ext ae aU) hx λ ao bo af=>aae ?_);have bn:cR ao (n+4) #[c1,c2,c3]:=ex af aU (ex ae aU hTO);refine aaa (wpAny_seqItems bn rfl ?_);refine aaa (fR bn (by simp) λ ak bg ag=>?_);replace bg:cR ak (n+4) #[x,c2,c3]:=bg;refine aaa (wpAny_letGo (aae ?_));refine aaa (aaa (wpAny_onRaise ?_));show wpAny _ _ (Builtin.SmallTypes.nextOf (.ref (n+1)) >>= _) _ _ _;refine aaa (bH (((i2.ext ae aU).ext af aU).ext ag aU) (((s2.ext ae aU).ext af aU).ext ag aU) hy λ ar ck ah=>aae ?_);have bv:cR ar (n+4) #[x,c2,c3]:=ex ah aU bg;refine aaa (wpAny_seqItems bv rfl ?_);refine aaa (fR bv (by simp) λ bj cq au=>?_);replace cq:cR bj (n+4) #[x,y,c3]:=cq;refine aaa (wpAny_letGo (aae ?_));refine aaa (aaa (wpAny_onRaise ?_));show wpAny _ _ (Builtin.SmallTypes.nextOf (.ref (n+2)) >>= _) _ _ _;refine aaa (bH (((((i3.ext ae aU).ext af aU).ext ag aU).ext ah aU).ext au aU)
   (((((s3.ext ae aU).ext af aU).ext ag aU).ext ah aU).ext au aU) hw λ cj i3₆ be=>aae ?_)
  have ee:cR cj (n+4) #[x,y,c3]:=ex be aU cq;refine aaa (wpAny_seqItems ee rfl ?_);refine aaa (fR ee (by simp) λ ba bp bi=>?_);replace bp:cR ba (n+4) #[x,y,z]:=bp;refine aaa (wpAny_letGo (aae (aae ?_)));refine aaa (wpAny_seqItems bp rfl ?_);refine aaa (wpAny_newTuple ?_);have hsz:ba.objs.size=s.heap.objs.size:=by rw[bi.1,be.1,au.1,ah.1,ag.1,af.1,ae.1]
  have keep:∀ (c:Nat) o,(c < n\/n+5 < c)->s.heap.get? c=some o->ba.get? c=some o:=λ c o hc e=>
   ex bi aU (ex be aU (ex au aU (ex ah aU (ex ag aU (ex af aU (ex ae aU e))))))
  have dh:jZ ba (n+5) (n+3) (n+4) .ellipsis f1:=ex bi aU (ex be aU (ex au aU (ex ah aU (ex ag aU (ex af aU am)))));have cz:cR ba (n+3) #[.ref n,.ref (n+1),.ref (n+2)]:=ex bi aU (ex be aU (ex au aU (ex ah aU (ex ag aU (ex af aU (ex ae aU hTI))))));have di:=((((bo.ext ag aU).ext ah aU).ext au aU).ext be aU).ext bi aU;have dj:=((ck.ext au aU).ext be aU).ext bi aU;have i3₇:=i3₆.ext bi aU;have fi:n+5 < ba.objs.size:=by rw[hsz];exact hzlt
  have up:∀ {c o},ba.get? c=some o->(ba.push { cls:=.type "tuple",data:=.seq #[x,y,z] }).get? c=some o:=λ e=>aac _ e;refine aaa (xD (z:=n+5) (TI:=n+3) (TO:=n+4) (f0:=.ellipsis) (f1:=f1) (up dh) λ db dk cr=>?_);have up8:∀ {c:Nat}{o},c≠n+5->ba.get? c=some o->db.get? c=some o:=λ hc e=>ex cr hc (up e);refine aae ⟨_,rfl,hQ ba.objs.size db (rawInt ba.objs.size) false x y z (by rw[hsz];exact aaj _) (.inr ⟨_,rfl⟩) dk (up8 aU cz) (up8 aU bp) (di.at λ o e=>up8 aU e) (dj.at λ o e=>up8 aU e) (i3₇.at λ o e=>up8 aU e)
   (ex cr aU (aag _ rfl)) λ c o hc e=>up8 aU (keep c o hc e)⟩
 ·intro ap am ae;simp only [Bool.false_eq_true,if_false];refine aaa ?_;rw[<- Array.forIn_toList];simp only [List.forIn_cons,List.forIn_nil];refine aaa (aaa (abf ?_));show wpAny _ _ (Builtin.SmallTypes.nextOf (.ref n) >>= _) _ _ _;refine aaa (bH (i1.ext ae aU) (s1.ext ae aU) hx λ ao bo af=>aae (aae ?_));refine aaa (aaa (abf ?_));show wpAny _ _ (Builtin.SmallTypes.nextOf (.ref (n+1)) >>= _) _ _ _;refine aaa (bH ((i2.ext ae aU).ext af aU) ((s2.ext ae aU).ext af aU) hy λ ak fb ag=>aae (aae ?_));refine aaa (aaa (abf ?_));show wpAny _ _ (Builtin.SmallTypes.nextOf (.ref (n+2)) >>= _) _ _ _;refine aaa (bH (((i3.ext ae aU).ext af aU).ext ag aU) (((s3.ext ae aU).ext af aU).ext ag aU) hw λ ar i3₄ ah=>aae (aae (aae ?_)));refine aaa (wpAny_newTuple (hsz:=by show 3<=sizeLine;decide) (aae ⟨_,rfl,?_⟩));have hsz:ar.objs.size=s.heap.objs.size:=by rw[ah.1,ag.1,af.1,ae.1]
  have up:∀ {c o},ar.get? c=some o->(ar.push { cls:=.type "tuple",data:=.seq #[x,y,z] }).get? c=some o:=λ e=>aac _ e;have keep:∀ (c:Nat) o,(c < n\/n+5 < c)->s.heap.get? c=some o->ar.get? c=some o:=λ c o hc e=>ex ah aU (ex ag aU (ex af aU (ex ae aU e)));refine hQ ar.objs.size (ar.push { cls:=.type "tuple",data:=.seq #[x,y,z] }) f0 true c1 c2 c3 (by rw[hsz];exact aaj _) hf (up (ex ah aU (ex ag aU (ex af aU am))))
   (up (ex ah aU (ex ag aU (ex af aU (ex ae aU hTI))))) (up (ex ah aU (ex ag aU (ex af aU (ex ae aU hTO)))))
   (((bo.ext ag aU).ext ah aU).at λ o e=>up e) ((fb.ext ah aU).at λ o e=>up e) (i3₄.at λ o e=>up e) (aag _ rfl) λ c o hc e=>up (keep c o hc e)
theorem zQ {n a1 a2 a3:Nat}{t1 t2 t3:Bool}{k:Nat}{xs ys zs:Array Value}{c1 c2 c3 f0:Value}{f1:Bool}{Q:Fin->Shared->Prop} (hh:A.handled=none) (hf:eT f0)
  (hz:jZ s.heap (n+5) (n+3) (n+4) f0 f1) (hTI:cR s.heap (n+3) #[.ref n,.ref (n+1),.ref (n+2)]) (hTO:cR s.heap (n+4) #[c1,c2,c3])
  (i1:cW s.heap t1 n a1 k) (i2:cW s.heap t2 (n+1) a2 k) (i3:cW s.heap t3 (n+2) a3 k) (s1:bT s.heap t1 a1 xs) (s2:bT s.heap t2 a2 ys) (s3:bT s.heap t3 a3 zs)
  (l1:a1 < n) (l2:a2 < n) (l3:a3 < n) (hend:xs[k]? = none\/ys[k]? = none\/zs[k]? = none)
  (hE:∀ h' e,(∀ (c:Nat) o,(c < n\/n+5 < c)->s.heap.get? c=some o->h'.get? c=some o)->(∃ o,h'.get? e=some o/\o.cls=.type "StopIteration")->E (.ref e) { s with heap:=h' }) :
  wpAny (model prog w) A (Builtin.«zip.__next__» ⟨[.ref (n+5)],[]⟩) Q E s:=by
 show wpAny _ _ (field (.ref (n+5)) 2 >>= _) _ _ _;refine aaa (abj hz rfl (x:=.bool false) rfl ?_);show wpAny _ _ (field (.ref (n+5)) 3 >>= _) _ _ _;refine aaa (abj hz rfl (x:=.ref (n+3)) rfl ?_);refine aaa (wpAny_seqItems hTI rfl ?_);show wpAny _ _ (Builtin.SmallTypes.ownedTupleIsFree (.ref (n+5)) >>= _) _ _ _;refine aaa (gW hz hf ?_ ?_)
 ·simp only [if_true];refine aaa (acg ?_);refine aaa (abj hz rfl (x:=.ref (n+4)) rfl ?_);refine aaa (wpAny_setField_rec hz (by simp) λ ap am ae=>?_);replace am:jZ ap (n+5) (n+3) (n+4) .ellipsis f1:=am;refine aaa ?_;simp only [List.zipIdx_cons,List.zipIdx_nil,List.forIn_cons,List.forIn_nil];have fin:∀ {ao ak:Heap}{e j:Nat}{oe:Obj},jZ ao (n+5) (n+3) (n+4) .ellipsis f1->Heap.ExtBut j ao ak->@Ne Nat (n+5) j->(n<=j/\j<=n+5)->(∀ (c:Nat) o,(c < n\/n+5 < c)->s.heap.get? c=some o->ao.get? c=some o)->ak.get? e=some oe->oe.cls=.type "StopIteration" ->
    wpAny (model prog w) A (setField (.ref (n+5)) 0 .none) (λ _ s'=>E (.ref e) s') E { s with heap:=ak }:=λ {ao ak e j oe} ce hx hj hr hk hoe hce=>by
   have bu:jZ ak (n+5) (n+3) (n+4) .ellipsis f1:=hx _ _ hj ce;have hez:e≠n+5:=λ q=>by subst q;rw[bu] at hoe;cases hoe;simp at hce
   refine wpAny_setField_rec bu (by simp) λ ar _ ah=>hE ar e (λ c o hc q=>ex ah aU (hx c o (show @Ne Nat c j by omega) (hk c o hc q))) ⟨oe,ah.extBut _ _ hez hoe,hce⟩
  refine aaa (aaa (wpAny_onRaise ?_));show wpAny _ _ (Builtin.SmallTypes.nextOf (.ref n) >>= _) _ _ _;cases hx:xs[k]? with
  | none=>
   refine aaa (cM hh (i1.ext ae aU) (s1.ext ae aU) hx λ ao e af he=>?_);obtain⟨oe,hoe,hce⟩:=he;exact fin am af aU (by omega) (λ c o hc q=>ex ae aU q) hoe hce
  | some x=>
   refine aaa (bH (i1.ext ae aU) (s1.ext ae aU) hx λ ao bo af=>aae ?_);have bn:cR ao (n+4) #[c1,c2,c3]:=ex af aU (ex ae aU hTO);refine aaa (wpAny_seqItems bn rfl ?_);refine aaa (fR bn (by simp) λ ak bg ag=>?_);replace bg:cR ak (n+4) #[x,c2,c3]:=bg;refine aaa (wpAny_letGo (aae ?_));have bu:jZ ak (n+5) (n+3) (n+4) .ellipsis f1:=ex ag aU (ex af aU am);have dn:∀ (c:Nat) o,(c < n\/n+5 < c)->s.heap.get? c=some o->ak.get? c=some o:=λ c o hc e=>ex ag aU (ex af aU (ex ae aU e));refine aaa (aaa (wpAny_onRaise ?_));show wpAny _ _ (Builtin.SmallTypes.nextOf (.ref (n+1)) >>= _) _ _ _;cases hy:ys[k]? with
   | none=>
    refine aaa (cM hh (((i2.ext ae aU).ext af aU).ext ag aU) (((s2.ext ae aU).ext af aU).ext ag aU) hy λ ar e ah he=>?_);obtain⟨oe,hoe,hce⟩:=he;exact fin bu ah aU (by omega) dn hoe hce
   | some y=>
    have hw:zs[k]? = none:=by rcases hend with h | h | h;rw[hx] at h;cases h;rw[hy] at h;cases h;exact h
    refine aaa (bH (((i2.ext ae aU).ext af aU).ext ag aU) (((s2.ext ae aU).ext af aU).ext ag aU) hy λ ar ck ah=>aae ?_);have bv:cR ar (n+4) #[x,c2,c3]:=ex ah aU bg;refine aaa (wpAny_seqItems bv rfl ?_);refine aaa (fR bv (by simp) λ bj cq au=>?_);refine aaa (wpAny_letGo (aae ?_));refine aaa (aaa (wpAny_onRaise ?_));show wpAny _ _ (Builtin.SmallTypes.nextOf (.ref (n+2)) >>= _) _ _ _;refine aaa (cM hh (((((i3.ext ae aU).ext af aU).ext ag aU).ext ah aU).ext au aU)
     (((((s3.ext ae aU).ext af aU).ext ag aU).ext ah aU).ext au aU) hw λ cj e be he=>?_)
    obtain⟨oe,hoe,hce⟩:=he;exact fin (ex au aU (ex ah aU bu)) be aU (by omega) (λ c o hc q=>ex au aU (ex ah aU (dn c o hc q))) hoe hce
 ·intro ap am ae;simp only [Bool.false_eq_true,if_false];refine aaa ?_;rw[<- Array.forIn_toList];simp only [List.forIn_cons,List.forIn_nil];refine aaa (aaa (abf ?_));show wpAny _ _ (Builtin.SmallTypes.nextOf (.ref n) >>= _) _ _ _;cases hx:xs[k]? with
  | none=>
   refine aaa (cM hh (i1.ext ae aU) (s1.ext ae aU) hx λ ao e af he=>?_);exact hE ao e (λ c o hc q=>af c o (show @Ne Nat c n by omega) (ex ae aU q)) he
  | some x=>
   refine aaa (bH (i1.ext ae aU) (s1.ext ae aU) hx λ ao bo af=>aae (aae ?_));refine aaa (aaa (abf ?_));show wpAny _ _ (Builtin.SmallTypes.nextOf (.ref (n+1)) >>= _) _ _ _;cases hy:ys[k]? with
   | none=>
    refine aaa (cM hh ((i2.ext ae aU).ext af aU) ((s2.ext ae aU).ext af aU) hy λ ak e ag he=>?_);exact hE ak e (λ c o hc q=>ag c o (show @Ne Nat c (n+1) by omega) (ex af aU (ex ae aU q))) he
   | some y=>
    have hw:zs[k]? = none:=by rcases hend with h | h | h;rw[hx] at h;cases h;rw[hy] at h;cases h;exact h
    refine aaa (bH ((i2.ext ae aU).ext af aU) ((s2.ext ae aU).ext af aU) hy λ ak fb ag=>aae (aae ?_));refine aaa (aaa (abf ?_));show wpAny _ _ (Builtin.SmallTypes.nextOf (.ref (n+2)) >>= _) _ _ _;refine aaa (cM hh (((i3.ext ae aU).ext af aU).ext ag aU) (((s3.ext ae aU).ext af aU).ext ag aU) hw λ ar e ah he=>?_);exact hE ar e (λ c o hc q=>ah c o (show @Ne Nat c (n+2) by omega) (ex ag aU (ex af aU (ex ae aU q)))) he
theorem xV {n a1 a2:Nat}{t1 t2:Bool}{k:Nat}{xs ys:Array Value}{x y c1 c2 f0:Value}{f1:Bool}{Q:Value->Shared->Prop} (hf:eT f0)
  (hz:jZ s.heap (n+4) (n+2) (n+3) f0 f1) (hTI:cR s.heap (n+2) #[.ref n,.ref (n+1)]) (hTO:cR s.heap (n+3) #[c1,c2])
  (i1:cW s.heap t1 n a1 k) (i2:cW s.heap t2 (n+1) a2 k) (s1:bT s.heap t1 a1 xs) (s2:bT s.heap t2 a2 ys)
  (l1:a1 < n) (l2:a2 < n) (hx:xs[k]? = some x) (hy:ys[k]? = some y)
  (hQ:∀ (T:Nat) h' f0' f1' d1 d2,s.heap.objs.size<=T->eT f0'->jZ h' (n+4) (n+2) (n+3) f0' f1'->cR h' (n+2) #[.ref n,.ref (n+1)]->cR h' (n+3) #[d1,d2]->
   cW h' t1 n a1 (k+1)->cW h' t2 (n+1) a2 (k+1)->cR h' T #[x,y]->
   (∀ (c:Nat) o,(c < n\/n+4 < c)->s.heap.get? c=some o->h'.get? c=some o)->Q (.ref T) { s with heap:=h' }) :
  wpAny (model prog w) A (Builtin.«zip.__next__» ⟨[.ref (n+4)],[]⟩) (λ fin s'=>∃ v,fin=.done (.ret v)/\Q v s') E s:=by
 have hzlt:n+4 < s.heap.objs.size:=aak hz;show wpAny _ _ (field (.ref (n+4)) 2 >>= _) _ _ _;refine aaa (abj hz rfl (x:=.bool false) rfl ?_);show wpAny _ _ (field (.ref (n+4)) 3 >>= _) _ _ _;refine aaa (abj hz rfl (x:=.ref (n+2)) rfl ?_);refine aaa (wpAny_seqItems hTI rfl ?_);show wpAny _ _ (Builtin.SmallTypes.ownedTupleIsFree (.ref (n+4)) >>= _) _ _ _;refine aaa (gW hz hf ?_ ?_)
 ·simp only [if_true];refine aaa (acg ?_);refine aaa (abj hz rfl (x:=.ref (n+3)) rfl ?_);refine aaa (wpAny_setField_rec hz (by simp) λ ap am ae=>?_);replace am:jZ ap (n+4) (n+2) (n+3) .ellipsis f1:=am;refine aaa ?_;simp only [List.zipIdx_cons,List.zipIdx_nil,List.forIn_cons,List.forIn_nil];refine aaa (aaa (wpAny_onRaise ?_));show wpAny _ _ (Builtin.SmallTypes.nextOf (.ref n) >>= _) _ _ _;refine aaa (bH (i1.ext ae aU) (s1.ext ae aU) hx λ ao bo af=>aae ?_);have bn:cR ao (n+3) #[c1,c2]:=ex af aU (ex ae aU hTO);refine aaa (wpAny_seqItems bn rfl ?_);refine aaa (fR bn (by simp) λ ak bg ag=>?_);replace bg:cR ak (n+3) #[x,c2]:=bg;refine aaa (wpAny_letGo (aae ?_));refine aaa (aaa (wpAny_onRaise ?_));show wpAny _ _ (Builtin.SmallTypes.nextOf (.ref (n+1)) >>= _) _ _ _;refine aaa (bH (((i2.ext ae aU).ext af aU).ext ag aU) (((s2.ext ae aU).ext af aU).ext ag aU) hy λ ar ck ah=>aae ?_);have bv:cR ar (n+3) #[x,c2]:=ex ah aU bg;refine aaa (wpAny_seqItems bv rfl ?_);refine aaa (fR bv (by simp) λ ba bp bi=>?_);replace bp:cR ba (n+3) #[x,y]:=bp;refine aaa (wpAny_letGo (aae (aae ?_)));refine aaa (wpAny_seqItems bp rfl ?_);refine aaa (wpAny_newTuple ?_);have hsz:ba.objs.size=s.heap.objs.size:=by rw[bi.1,ah.1,ag.1,af.1,ae.1]
  have keep:∀ (c:Nat) o,(c < n\/n+4 < c)->s.heap.get? c=some o->ba.get? c=some o:=λ c o hc e=>
   ex bi aU (ex ah aU (ex ag aU (ex af aU (ex ae aU e))))
  have dh:jZ ba (n+4) (n+2) (n+3) .ellipsis f1:=ex bi aU (ex ah aU (ex ag aU (ex af aU am)));have cz:cR ba (n+2) #[.ref n,.ref (n+1)]:=ex bi aU (ex ah aU (ex ag aU (ex af aU (ex ae aU hTI))));have di:=((bo.ext ag aU).ext ah aU).ext bi aU;have dj:=ck.ext bi aU;have fi:n+4 < ba.objs.size:=by rw[hsz];exact hzlt
  have up:∀ {c o},ba.get? c=some o->(ba.push { cls:=.type "tuple",data:=.seq #[x,y] }).get? c=some o:=λ e=>aac _ e;refine aaa (xD (z:=n+4) (TI:=n+2) (TO:=n+3) (f0:=.ellipsis) (f1:=f1) (up dh) λ db dk cr=>?_);have up8:∀ {c:Nat}{o},c≠n+4->ba.get? c=some o->db.get? c=some o:=λ hc e=>ex cr hc (up e);refine aae ⟨_,rfl,hQ ba.objs.size db (rawInt ba.objs.size) false x y (by rw[hsz];exact aaj _) (.inr ⟨_,rfl⟩) dk (up8 aU cz) (up8 aU bp) (di.at λ o e=>up8 aU e) (dj.at λ o e=>up8 aU e)
   (ex cr aU (aag _ rfl)) λ c o hc e=>up8 aU (keep c o hc e)⟩
 ·intro ap am ae;simp only [Bool.false_eq_true,if_false];refine aaa ?_;rw[<- Array.forIn_toList];simp only [List.forIn_cons,List.forIn_nil];refine aaa (aaa (abf ?_));show wpAny _ _ (Builtin.SmallTypes.nextOf (.ref n) >>= _) _ _ _;refine aaa (bH (i1.ext ae aU) (s1.ext ae aU) hx λ ao bo af=>aae (aae ?_));refine aaa (aaa (abf ?_));show wpAny _ _ (Builtin.SmallTypes.nextOf (.ref (n+1)) >>= _) _ _ _;refine aaa (bH ((i2.ext ae aU).ext af aU) ((s2.ext ae aU).ext af aU) hy λ ar ck ah=>aae (aae (aae ?_)));refine aaa (wpAny_newTuple (hsz:=by show 2<=sizeLine;decide) (aae ⟨_,rfl,?_⟩));have hsz:ar.objs.size=s.heap.objs.size:=by rw[ah.1,af.1,ae.1]
  have up:∀ {c o},ar.get? c=some o->(ar.push { cls:=.type "tuple",data:=.seq #[x,y] }).get? c=some o:=λ e=>aac _ e;have keep:∀ (c:Nat) o,(c < n\/n+4 < c)->s.heap.get? c=some o->ar.get? c=some o:=λ c o hc e=>ex ah aU (ex af aU (ex ae aU e));refine hQ ar.objs.size (ar.push { cls:=.type "tuple",data:=.seq #[x,y] }) f0 true c1 c2 (by rw[hsz];exact aaj _) hf (up (ex ah aU (ex af aU am)))
   (up (ex ah aU (ex af aU (ex ae aU hTI)))) (up (ex ah aU (ex af aU (ex ae aU hTO))))
   ((bo.ext ah aU).at λ o e=>up e) (ck.at λ o e=>up e) (aag _ rfl) λ c o hc e=>up (keep c o hc e)
theorem zR {n a1 a2:Nat}{t1 t2:Bool}{k:Nat}{xs ys:Array Value}{c1 c2 f0:Value}{f1:Bool}{Q:Fin->Shared->Prop} (hh:A.handled=none) (hf:eT f0)
  (hz:jZ s.heap (n+4) (n+2) (n+3) f0 f1) (hTI:cR s.heap (n+2) #[.ref n,.ref (n+1)]) (hTO:cR s.heap (n+3) #[c1,c2])
  (i1:cW s.heap t1 n a1 k) (i2:cW s.heap t2 (n+1) a2 k) (s1:bT s.heap t1 a1 xs) (s2:bT s.heap t2 a2 ys)
  (l1:a1 < n) (l2:a2 < n) (hend:xs[k]? = none\/ys[k]? = none)
  (hE:∀ h' e,(∀ (c:Nat) o,(c < n\/n+4 < c)->s.heap.get? c=some o->h'.get? c=some o)->(∃ o,h'.get? e=some o/\o.cls=.type "StopIteration")->E (.ref e) { s with heap:=h' }) :
  wpAny (model prog w) A (Builtin.«zip.__next__» ⟨[.ref (n+4)],[]⟩) Q E s:=by
 show wpAny _ _ (field (.ref (n+4)) 2 >>= _) _ _ _;refine aaa (abj hz rfl (x:=.bool false) rfl ?_);show wpAny _ _ (field (.ref (n+4)) 3 >>= _) _ _ _;refine aaa (abj hz rfl (x:=.ref (n+2)) rfl ?_);refine aaa (wpAny_seqItems hTI rfl ?_);show wpAny _ _ (Builtin.SmallTypes.ownedTupleIsFree (.ref (n+4)) >>= _) _ _ _;refine aaa (gW hz hf ?_ ?_)
 ·simp only [if_true];refine aaa (acg ?_);refine aaa (abj hz rfl (x:=.ref (n+3)) rfl ?_);refine aaa (wpAny_setField_rec hz (by simp) λ ap am ae=>?_);replace am:jZ ap (n+4) (n+2) (n+3) .ellipsis f1:=am;refine aaa ?_;simp only [List.zipIdx_cons,List.zipIdx_nil,List.forIn_cons,List.forIn_nil];have fin:∀ {ao ak:Heap}{e j:Nat}{oe:Obj},jZ ao (n+4) (n+2) (n+3) .ellipsis f1->Heap.ExtBut j ao ak->@Ne Nat (n+4) j->(n<=j/\j<=n+4)->(∀ (c:Nat) o,(c < n\/n+4 < c)->s.heap.get? c=some o->ao.get? c=some o)->ak.get? e=some oe->oe.cls=.type "StopIteration" ->
    wpAny (model prog w) A (setField (.ref (n+4)) 0 .none) (λ _ s'=>E (.ref e) s') E { s with heap:=ak }:=λ {ao ak e j oe} ce hx hj hr hk hoe hce=>by
   have bu:jZ ak (n+4) (n+2) (n+3) .ellipsis f1:=hx _ _ hj ce;have hez:e≠n+4:=λ q=>by subst q;rw[bu] at hoe;cases hoe;simp at hce
   refine wpAny_setField_rec bu (by simp) λ ar _ ah=>hE ar e (λ c o hc q=>ex ah aU (hx c o (show @Ne Nat c j by omega) (hk c o hc q))) ⟨oe,ah.extBut _ _ hez hoe,hce⟩
  refine aaa (aaa (wpAny_onRaise ?_));show wpAny _ _ (Builtin.SmallTypes.nextOf (.ref n) >>= _) _ _ _;cases hx:xs[k]? with
  | none=>
   refine aaa (cM hh (i1.ext ae aU) (s1.ext ae aU) hx λ ao e af he=>?_);obtain⟨oe,hoe,hce⟩:=he;exact fin am af aU (by omega) (λ c o hc q=>ex ae aU q) hoe hce
  | some x=>
   have hy:ys[k]? = none:=by rcases hend with h | h;rw[hx] at h;cases h;exact h
   refine aaa (bH (i1.ext ae aU) (s1.ext ae aU) hx λ ao bo af=>aae ?_);have bn:cR ao (n+3) #[c1,c2]:=ex af aU (ex ae aU hTO);refine aaa (wpAny_seqItems bn rfl ?_);refine aaa (fR bn (by simp) λ ak bg ag=>?_);refine aaa (wpAny_letGo (aae ?_));have bu:jZ ak (n+4) (n+2) (n+3) .ellipsis f1:=ex ag aU (ex af aU am);have dn:∀ (c:Nat) o,(c < n\/n+4 < c)->s.heap.get? c=some o->ak.get? c=some o:=λ c o hc e=>ex ag aU (ex af aU (ex ae aU e));refine aaa (aaa (wpAny_onRaise ?_));show wpAny _ _ (Builtin.SmallTypes.nextOf (.ref (n+1)) >>= _) _ _ _;refine aaa (cM hh (((i2.ext ae aU).ext af aU).ext ag aU) (((s2.ext ae aU).ext af aU).ext ag aU) hy λ ar e ah he=>?_);obtain⟨oe,hoe,hce⟩:=he;exact fin bu ah aU (by omega) dn hoe hce
 ·intro ap am ae;simp only [Bool.false_eq_true,if_false];refine aaa ?_;rw[<- Array.forIn_toList];simp only [List.forIn_cons,List.forIn_nil];refine aaa (aaa (abf ?_));show wpAny _ _ (Builtin.SmallTypes.nextOf (.ref n) >>= _) _ _ _;cases hx:xs[k]? with
  | none=>
   refine aaa (cM hh (i1.ext ae aU) (s1.ext ae aU) hx λ ao e af he=>?_);exact hE ao e (λ c o hc q=>af c o (show @Ne Nat c n by omega) (ex ae aU q)) he
  | some x=>
   have hy:ys[k]? = none:=by rcases hend with h | h;rw[hx] at h;cases h;exact h
   refine aaa (bH (i1.ext ae aU) (s1.ext ae aU) hx λ ao bo af=>aae (aae ?_));refine aaa (aaa (abf ?_));show wpAny _ _ (Builtin.SmallTypes.nextOf (.ref (n+1)) >>= _) _ _ _;refine aaa (cM hh ((i2.ext ae aU).ext af aU) ((s2.ext ae aU).ext af aU) hy λ ak e ag he=>?_);exact hE ak e (λ c o hc q=>ag c o (show @Ne Nat c (n+1) by omega) (ex af aU (ex ae aU q))) he
theorem gQ {z TI TO:Addr}{f0:Value}{f1:Bool}{Q:Option Value->Shared->Prop} (hz:jZ s.heap z TI TO f0 f1)
  (h:wpAny (model prog w) A.in1 (Builtin.«zip.__next__» ⟨[.ref z],[]⟩) (λ fin s'=>∃ v,fin=.done (.ret v)/\Q (some v) s') (λ e s'=>(∃ a o,e=.ref a/\s'.heap.get? a=some o/\o.cls=.type "StopIteration")/\Q none s') s) :
  wpAny (model prog w) A (pyNext (.ref z)) Q E s:=by
 have hT:s.TypeIs (.ref z) "zip" := ⟨_,hz,rfl⟩;unfold pyNext;refine aaa (wpAny_attempt (wpAny_callSpecial?_slot (name:=Str.ofString "__next__") hT F.slot_zip_next
  (wpAny_call_entry F.slot_zip_next hT F.entry_zip_next (abp h (λ fin s' h'=>?_) λ e s' h'=>?_) (F.args_zip_next_1 _))))
 ·obtain⟨v,rfl,q⟩:=h';exact⟨v,rfl,aae q⟩
 ·obtain⟨⟨a,o,rfl,ho,hc⟩,q⟩:=h';exact aaa (wpAny_isInstance (T := "StopIteration") (b:=true) ⟨o,ho,hc⟩ isSubtype_stop (aae q))
theorem pY {tg:Expr}{z TI TO T:Addr}{f0:Value}{f1:Bool}{Q:Unit->Shared->Prop} (hf:eT f0) (hz:jZ s.heap z TI TO f0 f1)
  (hQ:∀ h' f0',eT f0'->jZ h' z TI TO f0' f1->Heap.SameBut z s.heap h'->Q () { s with heap:=h' }):wpAny (model prog w) A (letOwnedTupleGo tg (.ref z) (.ref T)) Q E s:=by
 have same:Q () s:=hQ s.heap f0 hf hz (Heap.SameBut.refl ..);have core:wpAny (model prog w) A (do
   let o <- load z
   match o.cls,o.data with
   | .type n,.fields vs=>
    if ["enumerate","zip","dict_itemiterator","dict_reverseitemiterator","odict_iterator","itertools.zip_longest","itertools.pairwise"].contains n && vs[0]? == some (rawInt T) then
     rule "for.unpacks-the-owned-tuple"
     updateField z 0 .none
   | _,_=>pure ()) Q E s:=by
  refine aaa (wpAny_load hz ?_);show wpAny _ _ (if (["enumerate","zip","dict_itemiterator","dict_reverseitemiterator","odict_iterator","itertools.zip_longest","itertools.pairwise"].contains "zip" &&
   (#[f0,.bool f1,.bool false,.ref TI,.ref TO]:Array Value)[0]? == some (rawInt T))=true then _ else _) Q E s
  split
  ·refine aaa (acg ?_);show wpAny _ _ (setField (.ref z) 0 .none) Q E s;exact wpAny_setField_rec hz (by simp) λ h' hz' hs'=>hQ h' .none (.inl rfl) hz' hs'
  ·exact aae same
 unfold letOwnedTupleGo;cases tg <;> first
  | exact aae same
  | exact core
theorem gR {z TI TO:Addr}{f0:Value}{f1:Bool}{Q:Value->Shared->Prop} (hz:jZ s.heap z TI TO f0 f1) (h:Q (.ref z) s):wpAny (model prog w) A (pyIter (.ref z)) Q E s:=by
 have hT:s.TypeIs (.ref z) "zip" := ⟨_,hz,rfl⟩;refine wpAny_pyIter_slot hT F.slot_zip_iter (wpAny_call_entry F.slot_zip_iter hT F.entry_zip_iter ?_ (F.args_zip_iter_1 _));show wpAny _ _ (ret (.ref z)) _ _ s;exact aae ⟨_,rfl,"zip",_,hT,F.slot_zip_next.lookup,h⟩
def oN (t:Bool) (a:Addr):Obj:={ cls:=.type (if t=true then "tuple_iterator" else "list_iterator"),data:=.fields #[.ref a,.int 0 0] }
theorem dJ {t:Bool}{a:Addr}{items:Array Value}{Q:Value->Shared->Prop} (hs:bT s.heap t a items) (hQ:Q (.ref s.heap.objs.size) { s with heap:=s.heap.push (oN t a) }) :
  wpAny (model prog w) A (pyIter (.ref a)) Q E s:=by
 cases t with
 | true=>exact wpAny_pyIter_tuple hs hQ
 | false=>exact wpAny_pyIter_list hs hQ
theorem gI {h:Heap}{t:Bool}{a it:Addr} (e:h.get? it=some (oN t a)):cW h t it a 0:=by
 cases t <;> exact⟨_,e,rfl,rfl⟩
abbrev zA (h:Heap) (t:Bool) (a:Addr):Heap:=h.push (oN t a)
abbrev CZ (h:Heap) (vs:List Value):Heap:=h.push { cls:=.type "tuple",data:=.seq vs.toArray }
abbrev z2B (h:Heap) (t1 t2:Bool) (l1 l2:Addr):Heap:=CZ (zA (zA h t1 l1) t2 l2) [.ref h.objs.size,.ref (zA h t1 l1).objs.size]
abbrev z2H (h:Heap) (t1 t2:Bool) (l1 l2:Addr):Heap:=CZ (z2B h t1 t2 l1 l2) [.none,.none]
abbrev HE (h:Heap) (t1 t2:Bool) (l1 l2:Addr):Heap:=(z2H h t1 t2 l1 l2).push { cls:=.type "zip",data:=.fields #[.none,.bool false,.bool false,.ref (zA (zA h t1 l1) t2 l2).objs.size,.ref (z2B h t1 t2 l1 l2).objs.size] }
abbrev z3B (h:Heap) (t1 t2 t3:Bool) (l1 l2 l3:Addr):Heap:=CZ (zA (zA (zA h t1 l1) t2 l2) t3 l3) [.ref h.objs.size,.ref (zA h t1 l1).objs.size,.ref (zA (zA h t1 l1) t2 l2).objs.size]
abbrev z3H (h:Heap) (t1 t2 t3:Bool) (l1 l2 l3:Addr):Heap:=CZ (z3B h t1 t2 t3 l1 l2 l3) [.none,.none,.none]
abbrev FH (h:Heap) (t1 t2 t3:Bool) (l1 l2 l3:Addr):Heap:=(z3H h t1 t2 t3 l1 l2 l3).push { cls:=.type "zip",data:=.fields #[.none,.bool false,.bool false,.ref (zA (zA (zA h t1 l1) t2 l2) t3 l3).objs.size,.ref (z3B h t1 t2 t3 l1 l2 l3).objs.size] }
theorem vO (t1 t2:Bool) (l1 l2:Addr) (xs ys:Array Value) :
  Meets (Builtin.«zip.__new__» ⟨[.type "zip",.ref l1,.ref l2],[]⟩) (λ _ R s=>bT s.heap t1 l1 xs/\bT s.heap t2 l2 ys/\
   R (.ok (.ret (.ref (z2H s.heap t1 t2 l1 l2).objs.size))) { s with heap:=HE s.heap t1 t2 l1 l2 }):=
 .of_wp λ prog w A R s h=>by
  obtain⟨hp,g,d,tk,os⟩:=s;obtain⟨hl1,hl2,h⟩:=h;have hsub:=sub_zip;have hL1:bT (Shared.heap ⟨hp,g,d,tk,os⟩) t1 l1 xs:=hl1;have hL2:bT (Shared.heap ⟨hp.push (oN t1 l1),g,d,tk,os⟩) t2 l2 ys:=hl2.at λ o e=>aac _ e
  wp_walk using dJ hL1,dJ hL2
  exact⟨_,rfl,h⟩
theorem vN (t1 t2 t3:Bool) (l1 l2 l3:Addr) (xs ys zs:Array Value) :
  Meets (Builtin.«zip.__new__» ⟨[.type "zip",.ref l1,.ref l2,.ref l3],[]⟩) (λ _ R s=>bT s.heap t1 l1 xs/\bT s.heap t2 l2 ys/\bT s.heap t3 l3 zs/\
   R (.ok (.ret (.ref (z3H s.heap t1 t2 t3 l1 l2 l3).objs.size))) { s with heap:=FH s.heap t1 t2 t3 l1 l2 l3 }):=
 .of_wp λ prog w A R s h=>by
  obtain⟨hp,g,d,tk,os⟩:=s;obtain⟨hl1,hl2,hl3,h⟩:=h;have hsub:=sub_zip;have hL1:bT (Shared.heap ⟨hp,g,d,tk,os⟩) t1 l1 xs:=hl1;have hL2:bT (Shared.heap ⟨hp.push (oN t1 l1),g,d,tk,os⟩) t2 l2 ys:=hl2.at λ o e=>aac _ e;have hL3:bT (Shared.heap ⟨(hp.push (oN t1 l1)).push (oN t2 l2),g,d,tk,os⟩) t3 l3 zs:=hl3.at λ o e=>aac _ (aac _ e)
  wp_walk using dJ hL1,dJ hL2,dJ hL3
  exact⟨_,rfl,h⟩
theorem nH (a b c:Value):checkTypeCall "zip" ⟨[a,b,c],[]⟩=pure ():=by kernel_rfl
theorem pI (a b c:Value):checkBuiltinCall "zip.__new__" ⟨[.type "zip",a,b,c],[]⟩=pure ():=by kernel_rfl
theorem jY (a b c d:Value):argsOk "object.__init__" ⟨[a,b,c,d],[]⟩:=by
 unfold argsOk;rw[signature?_of (id := "object.__init__") (n:=['_','_','t','i','n','i','_','_']) (o:=['t','c','e','j','b','o']) (by kernel_rfl) F.owner_object];kernel_rfl
theorem zG {t1 t2:Bool}{l1 l2:Addr}{xs ys:Array Value}{Q:Value->Shared->Prop} (hl1:bT s.heap t1 l1 xs) (hl2:bT s.heap t2 l2 ys)
  (h:∀ h',jZ h' (s.heap.objs.size+4) (s.heap.objs.size+2) (s.heap.objs.size+3) .none false->cR h' (s.heap.objs.size+2) #[.ref s.heap.objs.size,.ref (s.heap.objs.size+1)]->
   cR h' (s.heap.objs.size+3) #[.none,.none]->cW h' t1 s.heap.objs.size l1 0->cW h' t2 (s.heap.objs.size+1) l2 0->
   (∀ c o,s.heap.get? c=some o->h'.get? c=some o)->Q (.ref (s.heap.objs.size+4)) { s with heap:=h' }):wpAny (model prog w) A (call (.type "zip") [.ref l1,.ref l2]) Q E s:=by
 refine callType_new F.called_zip (by decide) (F.typeCall_zip_2 _ _) (F.newCall_zip_2 _ _) (λ obj=>F.args_object_init_3 obj _ _) F.entry_zip_new (vO t1 t2 l1 l2 xs ys) ⟨hl1,hl2,?_⟩;generalize s.heap=h0 at *;have z1:(zA h0 t1 l1).objs.size=h0.objs.size+1:=abd ..;have z2:(zA (zA h0 t1 l1) t2 l2).objs.size=h0.objs.size+2:=by rw[abd,z1]
 have z3:(z2B h0 t1 t2 l1 l2).objs.size=h0.objs.size+3:=by rw[abd,z2]
 have z4:(z2H h0 t1 t2 l1 l2).objs.size=h0.objs.size+4:=by rw[abd,z3]
 have g5:(HE h0 t1 t2 l1 l2).get? (z2H h0 t1 t2 l1 l2).objs.size=some _:=aag _ rfl;have g4:(HE h0 t1 t2 l1 l2).get? (z2B h0 t1 t2 l1 l2).objs.size=some _:=aac _ (aag _ rfl);have g3:(HE h0 t1 t2 l1 l2).get? (zA (zA h0 t1 l1) t2 l2).objs.size=some _:=aac _ (aac _ (aag _ rfl));have g2:(HE h0 t1 t2 l1 l2).get? (zA h0 t1 l1).objs.size=some _:=aac _ (aac _ (aac _ (aag _ rfl)));have g1:(HE h0 t1 t2 l1 l2).get? h0.objs.size=some _:=aac _ (aac _ (aac _ (aac _ (aag _ rfl))));show _/\_;rw[z2,z3,z4] at g5;rw[z1,z2] at g3;rw[z3] at g4;rw[z1] at g2;rw[z4];exact⟨⟨_,g5,rfl⟩,h _ g5 g3 g4 (gI g1) (gI g2) λ c o x=>aac _ (aac _ (aac _ (aac _ (aac _ x))))⟩
theorem zF {t1 t2 t3:Bool}{l1 l2 l3:Addr}{xs ys zs:Array Value}{Q:Value->Shared->Prop} (hl1:bT s.heap t1 l1 xs) (hl2:bT s.heap t2 l2 ys) (hl3:bT s.heap t3 l3 zs)
  (h:∀ h',jZ h' (s.heap.objs.size+5) (s.heap.objs.size+3) (s.heap.objs.size+4) .none false->cR h' (s.heap.objs.size+3) #[.ref s.heap.objs.size,.ref (s.heap.objs.size+1),.ref (s.heap.objs.size+2)]->
   cR h' (s.heap.objs.size+4) #[.none,.none,.none]->cW h' t1 s.heap.objs.size l1 0->cW h' t2 (s.heap.objs.size+1) l2 0->cW h' t3 (s.heap.objs.size+2) l3 0->
   (∀ c o,s.heap.get? c=some o->h'.get? c=some o)->Q (.ref (s.heap.objs.size+5)) { s with heap:=h' }):wpAny (model prog w) A (call (.type "zip") [.ref l1,.ref l2,.ref l3]) Q E s:=by
 refine callType_new F.called_zip (by decide) (nH _ _ _) (pI _ _ _) (λ obj=>jY obj _ _ _) F.entry_zip_new (vN t1 t2 t3 l1 l2 l3 xs ys zs) ⟨hl1,hl2,hl3,?_⟩;generalize s.heap=h0 at *;have z1:(zA h0 t1 l1).objs.size=h0.objs.size+1:=abd ..;have z2:(zA (zA h0 t1 l1) t2 l2).objs.size=h0.objs.size+2:=by rw[abd,z1]
 have z2':(zA (zA (zA h0 t1 l1) t2 l2) t3 l3).objs.size=h0.objs.size+3:=by rw[abd,z2]
 have z3:(z3B h0 t1 t2 t3 l1 l2 l3).objs.size=h0.objs.size+4:=by rw[abd,z2']
 have z4:(z3H h0 t1 t2 t3 l1 l2 l3).objs.size=h0.objs.size+5:=by rw[abd,z3]
 have g5:(FH h0 t1 t2 t3 l1 l2 l3).get? (z3H h0 t1 t2 t3 l1 l2 l3).objs.size=some _:=aag _ rfl;have g4:(FH h0 t1 t2 t3 l1 l2 l3).get? (z3B h0 t1 t2 t3 l1 l2 l3).objs.size=some _:=aac _ (aag _ rfl);have g3:(FH h0 t1 t2 t3 l1 l2 l3).get? (zA (zA (zA h0 t1 l1) t2 l2) t3 l3).objs.size=some _:=aac _ (aac _ (aag _ rfl));have g2':(FH h0 t1 t2 t3 l1 l2 l3).get? (zA (zA h0 t1 l1) t2 l2).objs.size=some _:=aac _ (aac _ (aac _ (aag _ rfl)));have g2:(FH h0 t1 t2 t3 l1 l2 l3).get? (zA h0 t1 l1).objs.size=some _:=aac _ (aac _ (aac _ (aac _ (aag _ rfl))));have g1:(FH h0 t1 t2 t3 l1 l2 l3).get? h0.objs.size=some _:=aac _ (aac _ (aac _ (aac _ (aac _ (aag _ rfl)))));show _/\_;rw[z2',z3,z4] at g5;rw[z1,z2,z2'] at g3;rw[z3] at g4;rw[z2] at g2';rw[z1] at g2;rw[z4];exact⟨⟨_,g5,rfl⟩,h _ g5 g3 g4 (gI g1) (gI g2) (gI g2') λ c o x=>aac _ (aac _ (aac _ (aac _ (aac _ (aac _ x)))))⟩
end
end TwZ
namespace TwZ
open PySem
open Sem (wp)
open AutoSeq1 (wpAny_loadPart')
section
variable {prog:Program}{M:Model}{A:Around}{E:Value->Shared->Prop}{s:Shared}
abbrev g8 (h:Heap) (e it:Addr) (f0:Value) (f1:Bool) (i:Int) (old:Value):Prop:=
 h.get? e=some { cls:=.type "enumerate",dict:=none,data:=.fields #[f0,.bool f1,.ref it,rawInt i,.none,old],slots:=#[] }
theorem tF {e it:Addr}{f0:Value}{f1:Bool}{i:Int}{old:Value}{Q:Bool->Shared->Prop} (hz:g8 s.heap e it f0 f1 i old) (hf:eT f0) (yes:Q true s)
  (no:∀ h',g8 h' e it f0 true i old->Heap.SameBut e s.heap h'->Q false { s with heap:=h' }):wpAny (model prog w) A (Builtin.SmallTypes.ownedTupleIsFree (.ref e)) Q E s:=by
 unfold Builtin.SmallTypes.ownedTupleIsFree;refine aaa (abj hz rfl (x:=f0) rfl ?_);rcases hf with rfl | ⟨a,rfl⟩
 ·exact aae yes
 ·refine aaa (lZ ?_);cases h:s.heap.get? a.toNat with
  | none=>exact aae yes
  | some o=>
   show wpAny _ _ (field (.ref e) 1 >>= _) _ _ _;refine aaa (abj hz rfl (x:=.bool f1) rfl ?_);cases f1 with
   | true=>exact aae (no s.heap hz (Heap.SameBut.refl ..))
   | false=>
    show wpAny _ _ (setField (.ref e) 1 (.bool true) >>= _) _ _ _;refine aaa (wpAny_setField_rec hz (by simp) λ ap am ae=>aae (no ap am ae))
theorem BM {e it:Addr}{f0:Value}{f1:Bool}{i:Int}{old:Value}{T:Addr}{Q:Unit->Shared->Prop} (hz:g8 s.heap e it f0 f1 i old)
  (h:∀ h',g8 h' e it (rawInt T) false i old->Heap.SameBut e s.heap h'->Q () { s with heap:=h' }):wpAny (model prog w) A (Builtin.SmallTypes.ownedTupleHandOut (.ref e) (.ref T)) Q E s:=by
 unfold Builtin.SmallTypes.ownedTupleHandOut;refine aaa (wpAny_setField_rec hz (by simp) λ ap am ae=>?_);replace am:g8 ap e it (rawInt T) f1 i old:=am;refine wpAny_setField_rec am (by simp) λ ao ce af=>?_;exact h ao ce (Heap.SameBut.trans ae af)
theorem zB {n a:Nat}{t:Bool}{k:Nat}{xs:Array Value}{x old f0:Value}{f1:Bool}{Q:Value->Shared->Prop} (hf:eT f0)
  (he:g8 s.heap (n+1) n f0 f1 k old) (i1:cW s.heap t n a k) (s1:bT s.heap t a xs) (l1:a < n) (hx:xs[k]? = some x)
  (hQ:∀ (T:Nat) h' f0' f1' old',s.heap.objs.size<=T->eT f0'->g8 h' (n+1) n f0' f1' ((k:Int)+1) old'->cW h' t n a (k+1)->cR h' T #[.int k s.toks,x]->
   (∀ (c:Nat) o,(c < n\/n+1 < c)->s.heap.get? c=some o->h'.get? c=some o)->Q (.ref T) { s with heap:=h',toks:=s.toks+1 }) :
  wpAny (model prog w) A (Builtin.«enumerate.__next__» ⟨[.ref (n+1)],[]⟩) (λ fin s'=>∃ v,fin=.done (.ret v)/\Q v s') E s:=by
 obtain⟨hp,g,d,tk,os⟩:=s;have helt:n+1 < hp.objs.size:=aak he;show wpAny _ _ (field (.ref (n+1)) 2 >>= _) _ _ _;refine aaa (abj he rfl (x:=.ref n) rfl ?_);refine aaa (bH i1 s1 hx λ ap i1₁ ae=>?_);replace ae:Heap.SameBut n hp ap:=ae;have dq:g8 ap (n+1) n f0 f1 k old:=ex ae (by omega) he;show wpAny _ _ (field (.ref (n+1)) 3 >>= _) _ _ ⟨ap,g,d,tk,os⟩;refine aaa (abj dq rfl (x:=rawInt k) rfl ?_);show wpAny _ _ (field (.ref (n+1)) 4 >>= _) _ _ ⟨ap,g,d,tk,os⟩;refine aaa (abj dq rfl (x:=.none) rfl ?_);show wpAny _ _ (mkInt k >>= _) _ _ ⟨ap,g,d,tk,os⟩;refine aaa (wpAny_mkInt ?_);show wpAny _ _ (setField (.ref (n+1)) 3 (rawInt ((k:Int)+1)) >>= _) _ _ ⟨ap,g,d,tk+1,os⟩;refine aaa (wpAny_setField_rec dq (by simp) λ ao dt af=>?_);replace af:Heap.SameBut (n+1) ap ao:=af;replace dt:g8 ao (n+1) n f0 f1 ((k:Int)+1) old:=dt;show wpAny _ _ (setField (.ref (n+1)) 4 .none >>= _) _ _ ⟨ao,g,d,tk+1,os⟩;refine aaa (wpAny_setField_rec dt (by simp) λ ak dv ag=>?_);replace ag:Heap.SameBut (n+1) ao ak:=ag;replace dv:g8 ak (n+1) n f0 f1 ((k:Int)+1) old:=dv;show wpAny _ _ (newTuple [.int k tk,x] >>= _) _ _ ⟨ak,g,d,tk+1,os⟩;refine aaa (wpAny_newTuple ?_);have cx:g8 (ak.push { cls:=.type "tuple",data:=.seq #[.int k tk,x] }) (n+1) n f0 f1 ((k:Int)+1) old:=aac _ dv;have hsz:ak.objs.size=hp.objs.size:=by rw[ag.1,af.1,ae.1]
 have dw:cR (ak.push { cls:=.type "tuple",data:=.seq #[.int k tk,x] }) ak.objs.size #[.int k tk,x]:=aag _ rfl;have em:∀ (c:Nat) o,(c < n\/n+1 < c)->hp.get? c=some o->(ak.push { cls:=.type "tuple",data:=.seq #[.int k tk,x] }).get? c=some o:=λ c o hc e=>
  aac _ (ex ag (by omega) (ex af (by omega) (ex ae (by omega) e)))
 have dy:cW (ak.push { cls:=.type "tuple",data:=.seq #[.int k tk,x] }) t n a (k+1):=((i1₁.ext af (by omega)).ext ag (by omega)).at λ o e=>aac _ e;have hlt₃:n+1 < ak.objs.size:=by rw[hsz];exact helt
 generalize hh₄:ak.push { cls:=.type "tuple",data:=.seq #[.int k tk,x] }=ar at cx dw em dy;have hTle:hp.objs.size<=ak.objs.size:=Nat.le_of_eq hsz.symm;show wpAny _ _ (Builtin.SmallTypes.ownedTupleIsFree (.ref (n+1)) >>= _) _ _ ⟨ar,g,d,tk+1,os⟩;refine aaa (tF cx hf ?_ ?_)
 ·simp only [if_true];refine aaa (acg ?_);refine aaa (abj cx rfl (x:=old) rfl ?_);refine aaa (wpAny_setField_rec cx (by simp) λ bj cu au=>?_);replace au:Heap.SameBut (n+1) ar bj:=au;replace cu:g8 bj (n+1) n f0 f1 ((k:Int)+1) x:=cu;refine aaa (BM (s:=⟨bj,g,d,tk+1,os⟩) cu λ cj he₆ be=>?_);replace be:Heap.SameBut (n+1) bj cj:=be;refine aaa (wpAny_letGo (aae ⟨_,rfl,?_⟩));exact hQ ak.objs.size cj _ _ _ hTle (.inr ⟨_,rfl⟩) he₆ ((dy.ext au (by omega)).ext be (by omega)) (ex be (by omega) (ex au (by omega) dw)) λ c o hc e=>ex be (by omega) (ex au (by omega) (em c o hc e))
 ·intro bj cu au;replace au:Heap.SameBut (n+1) ar bj:=au;simp only [Bool.false_eq_true,if_false];refine aae ⟨_,rfl,?_⟩;exact hQ ak.objs.size bj _ _ _ hTle hf cu (dy.ext au (by omega)) (ex au (by omega) dw) λ c o hc e=>ex au (by omega) (em c o hc e)
theorem BY {n a:Nat}{t:Bool}{k:Nat}{xs:Array Value}{old f0:Value}{f1:Bool}{Q:Fin->Shared->Prop} (hh:A.handled=none)
  (he:g8 s.heap (n+1) n f0 f1 k old) (i1:cW s.heap t n a k) (s1:bT s.heap t a xs) (hx:xs[k]? = none)
  (hE:∀ h' e,(∀ (c:Nat) o,(c < n\/n+1 < c)->s.heap.get? c=some o->h'.get? c=some o)->(∃ o,h'.get? e=some o/\o.cls=.type "StopIteration")->E (.ref e) { s with heap:=h' }) :
  wpAny (model prog w) A (Builtin.«enumerate.__next__» ⟨[.ref (n+1)],[]⟩) Q E s:=by
 show wpAny _ _ (field (.ref (n+1)) 2 >>= _) _ _ _;refine aaa (abj he rfl (x:=.ref n) rfl ?_);refine aaa (cM hh i1 s1 hx λ h' e hk he'=>hE h' e (λ c o hc q=>hk c o (show @Ne Nat c n by omega) q) he')
theorem mD {e it:Addr}{f0:Value}{f1:Bool}{i:Int}{old:Value}{Q:Option Value->Shared->Prop} (he:g8 s.heap e it f0 f1 i old)
  (h:wpAny (model prog w) A.in1 (Builtin.«enumerate.__next__» ⟨[.ref e],[]⟩) (λ fin s'=>∃ v,fin=.done (.ret v)/\Q (some v) s') (λ e s'=>(∃ a o,e=.ref a/\s'.heap.get? a=some o/\o.cls=.type "StopIteration")/\Q none s') s) :
  wpAny (model prog w) A (pyNext (.ref e)) Q E s:=by
 have hT:s.TypeIs (.ref e) "enumerate" := ⟨_,he,rfl⟩;unfold pyNext;refine aaa (wpAny_attempt (wpAny_callSpecial?_slot (name:=Str.ofString "__next__") hT F.slot_enumerate_next
  (wpAny_call_entry F.slot_enumerate_next hT F.entry_enumerate_next (abp h (λ fin s' h'=>?_) λ e s' h'=>?_) (F.args_enumerate_next_1 _))))
 ·obtain⟨v,rfl,q⟩:=h';exact⟨v,rfl,aae q⟩
 ·obtain⟨⟨a,o,rfl,ho,hc⟩,q⟩:=h';exact aaa (wpAny_isInstance (T := "StopIteration") (b:=true) ⟨o,ho,hc⟩ isSubtype_stop (aae q))
theorem vR {tg:Expr}{e it T:Addr}{f0:Value}{f1:Bool}{i:Int}{old:Value}{Q:Unit->Shared->Prop} (hf:eT f0) (hz:g8 s.heap e it f0 f1 i old)
  (hQ:∀ h' f0',eT f0'->g8 h' e it f0' f1 i old->Heap.SameBut e s.heap h'->Q () { s with heap:=h' }):wpAny (model prog w) A (letOwnedTupleGo tg (.ref e) (.ref T)) Q E s:=by
 have same:Q () s:=hQ s.heap f0 hf hz (Heap.SameBut.refl ..);have core:wpAny (model prog w) A (do
   let o <- load e
   match o.cls,o.data with
   | .type n,.fields vs=>
    if ["enumerate","zip","dict_itemiterator","dict_reverseitemiterator","odict_iterator","itertools.zip_longest","itertools.pairwise"].contains n && vs[0]? == some (rawInt T) then
     rule "for.unpacks-the-owned-tuple"
     updateField e 0 .none
   | _,_=>pure ()) Q E s:=by
  refine aaa (wpAny_load hz ?_);show wpAny _ _ (if (["enumerate","zip","dict_itemiterator","dict_reverseitemiterator","odict_iterator","itertools.zip_longest","itertools.pairwise"].contains "enumerate" &&
   (#[f0,.bool f1,.ref it,rawInt i,.none,old]:Array Value)[0]? == some (rawInt T))=true then _ else _) Q E s
  split
  ·refine aaa (acg ?_);show wpAny _ _ (setField (.ref e) 0 .none) Q E s;exact wpAny_setField_rec hz (by simp) λ h' hz' hs'=>hQ h' .none (.inl rfl) hz' hs'
  ·exact aae same
 unfold letOwnedTupleGo;cases tg <;> first
  | exact aae same
  | exact core
theorem mE {e it:Addr}{f0:Value}{f1:Bool}{i:Int}{old:Value}{Q:Value->Shared->Prop} (he:g8 s.heap e it f0 f1 i old) (h:Q (.ref e) s):wpAny (model prog w) A (pyIter (.ref e)) Q E s:=by
 have hT:s.TypeIs (.ref e) "enumerate" := ⟨_,he,rfl⟩;refine wpAny_pyIter_slot hT F.slot_enumerate_iter (wpAny_call_entry F.slot_enumerate_iter hT F.entry_enumerate_iter ?_ (F.args_enumerate_iter_1 _));show wpAny _ _ (ret (.ref e)) _ _ s;exact aae ⟨_,rfl,"enumerate",_,hT,F.slot_enumerate_next.lookup,h⟩
theorem vP (t:Bool) (l:Addr) (xs:Array Value) :
  Meets (Builtin.«enumerate.__new__» ⟨[.type "enumerate",.ref l],[]⟩) (λ _ R s=>bT s.heap t l xs/\
   R (.ok (.ret (.ref (zA s.heap t l).objs.size))) { s with heap:=(zA s.heap t l).push { cls:=.type "enumerate",data:=.fields #[.none,.bool false,.ref s.heap.objs.size,rawInt 0,.none,.none] } }):=
 .of_wp λ prog w A R s h=>by
  obtain⟨hp,g,d,tk,os⟩:=s;obtain⟨hl,h⟩:=h;have hsub:=sub_enumerate;have hL:bT (Shared.heap ⟨hp,g,d,tk,os⟩) t l xs:=hl
  wp_walk
  refine wpAny_stack_any λ st=>aae ?_
  split
  ·rename_i c _ _ _ _ _
   cases (c == Value.type "enumerate")
   ·wp_walk using dJ hL
    exact⟨_,rfl,h⟩
   ·wp_walk using dJ hL
    exact⟨_,rfl,h⟩
  ·wp_walk using dJ hL
   exact⟨_,rfl,h⟩
theorem zK {t:Bool}{l:Addr}{xs:Array Value}{Q:Value->Shared->Prop} (hL:bT s.heap t l xs)
  (h:∀ h',g8 h' (s.heap.objs.size+1) s.heap.objs.size .none false 0 .none->cW h' t s.heap.objs.size l 0->(∀ b o,s.heap.get? b=some o->h'.get? b=some o)->Q (.ref (s.heap.objs.size+1)) { s with heap:=h' }) :
  wpAny (model prog w) A (call (.type "enumerate") [.ref l]) Q E s:=by
 refine callType_new F.called_enumerate (by decide) (F.typeCall_enumerate_1 _) (F.newCall_enumerate_1 _) (λ obj=>F.args_object_init_2 obj _) F.entry_enumerate_new (vP t l xs) ⟨hL,?_⟩;have hz:(zA s.heap t l).objs.size=s.heap.objs.size+1:=abd ..;show _/\_;rw[hz];have he:g8 ((zA s.heap t l).push { cls:=.type "enumerate",data:=.fields #[.none,.bool false,.ref s.heap.objs.size,rawInt 0,.none,.none] }) (s.heap.objs.size+1) s.heap.objs.size .none false 0 .none:=by
  have:=aag (zA s.heap t l) (o:={ cls:=.type "enumerate",data:=.fields #[.none,.bool false,.ref s.heap.objs.size,rawInt 0,.none,.none] }) rfl;rw[hz] at this;exact this
 exact⟨⟨_,he,rfl⟩,h _ he (gI (aac _ (aag _ rfl))) λ b o x=>aac _ (aac _ x)⟩
end
end TwZ
namespace L2
open PySem PySem.Spec PyProof.Rows TwZ
def i8 (K:aab) (H:Hp) (t:Bool) (a:Addr) (xs:List V):Prop:=if t=true then bM K H a xs else bN K H a xs
section
variable {X:Cx}{pins:List (Addr×Obj)}{σ:St}{H:Hp}{s:Shared}
theorem Inv.src {t:Bool}{a:Addr}{xs:List V} (I:Inv X pins σ H s) (h:i8 X.K H t a xs):∃ its:List Value,bI xs its/\bT s.heap t a its.toArray/\xs.length<=sizeLine:=by
 cases t with
 | true=>
  obtain⟨its,r,p,z⟩:=I.tuple h;exact⟨its,r,(show s.heap.IsTuple a its.toArray from p),z⟩
 | false=>
  obtain⟨its,r,p,z⟩:=I.list h;exact⟨its,r,p.isList,z⟩
theorem Inv.src_inj {t:Bool}{a:Addr}{xs ys:List V} (I:Inv X pins σ H s) (h:i8 X.K H t a xs) (h':i8 X.K H t a ys):xs=ys:=by
 cases t with
 | true=>exact I.tuple_inj h h'
 | false=>exact I.list_inj h h'
theorem Inv.turnedT {fp:List Addr}{h':Heap}{t':Nat}{T:Addr}{xs:List V}{its:List Value} (I:Inv X pins σ H s) (hf:∀ b∈fp,g9 X pins H b) (k:∀ b o,b∉fp->s.heap.get? b=some o->h'.get? b=some o)
  (hT:s.heap.objs.size<=T) (hv:bI xs its) (hz:xs.length<=sizeLine) (ht:IsTup h' T its.toArray):Inv X pins σ (upd H T (.tup xs)) { s with heap:=h',toks:=t' }:=by
 have hn:H T=none:=I.hok.fresh hT;have nT:∀ b u,H b=some u->b≠T:=λ b u e=>aJ e hn;have nfp:∀ b u,H b=some u->b∉fp:=λ b u e hb=>by rw[(hf b hb).1] at e;cases e
 have nTh:∀ b o,s.heap.get? b=some o->b≠T:=λ b o e z=>by rw[z] at e;exact absurd (aan (aak e) hT) (aca _)
 refine I.step (g':=s.gens) (d':=s.drawn) (ch:=fp) (λ b hb=>?_) (λ b o _ _ hc e _=>k b o hc e) (λ b o _ _ hc e _=>⟨o.slots,k b o hc e⟩) (λ b o hc e n=>by rw[aK (nTh b o e)];exact n)
  (λ b o hc e=>⟨o,k b o hc e⟩) (λ b ys e=>by rw[aK (nT b _ e)];exact e) (λ b o u e=>by rw[aK (nT b _ e)];exact e) (λ b ps e=>⟨#[],by rw[aK (nT b _ e),e];simp⟩) (λ m hm=>?_) (λ b u e=>?_) I.bare
 ·obtain⟨_,f1,_,f3,f4,f5⟩:=hf b hb;exact⟨f3,f1,f4,f5⟩
 ·obtain⟨o,es,ep,ho,r⟩:=hm;exact⟨o,es,ep,k _ o (λ hb=>(hf _ hb).2.1 rfl) ho,r⟩
 ·by_cases hb:b=T
  ·subst hb;rw[aB] at e;cases e;exact⟨hz,its,hv,ht⟩
  ·rw[aK hb] at e;refine (I.hok b u e).stay (λ c v hc q=>k c v ?_ q) (λ c q=>by rw[aK (nT c _ q)];exact q) λ c ys q=>by rw[aK (nT c _ q)];exact q
   rcases hc with z | z
   ·rw[z];exact nfp b u e
   ·exact nfp c _ z
theorem Inv.turnedL {fp:List Addr}{h':Heap}{t':Nat} (I:Inv X pins σ H s) (hf:∀ b∈fp,g9 X pins H b) (k:∀ b o,b∉fp->s.heap.get? b=some o->h'.get? b=some o):Inv X pins σ H { s with heap:=h',toks:=t' }:=by
 have nfp:∀ b u,H b=some u->b∉fp:=λ b u e hb=>by rw[(hf b hb).1] at e;cases e
 refine I.step (g':=s.gens) (d':=s.drawn) (ch:=fp) (λ b hb=>?_) (λ b o _ _ hc e _=>k b o hc e) (λ b o _ _ hc e _=>⟨o.slots,k b o hc e⟩) (λ b o hc e n=>n)
  (λ b o hc e=>⟨o,k b o hc e⟩) (λ b ys e=>e) (λ b o u e=>e) (λ b ps e=>⟨#[],by rw[e];simp⟩) (λ m hm=>?_) (λ b u e=>?_) I.bare
 ·obtain⟨_,f1,_,f3,f4,f5⟩:=hf b hb;exact⟨f3,f1,f4,f5⟩
 ·obtain⟨o,es,ep,ho,r⟩:=hm;exact⟨o,es,ep,k _ o (λ hb=>(hf _ hb).2.1 rfl) ho,r⟩
 ·refine (I.hok b u e).stay (λ c v hc q=>k c v ?_ q) (λ c q=>q) λ c ys q=>q;rcases hc with z | z
  ·rw[z];exact nfp b u e
  ·exact nfp c _ z
end
def HC (K:aab) (t1 t2 t3:Bool) (a1 a2 a3:Addr):It:=
 ⟨λ i H=>∃ xs ys zs x y z,i8 K H t1 a1 xs/\i8 K H t2 a2 ys/\i8 K H t3 a3 zs/\xs[i]? = some x/\ys[i]? = some y/\zs[i]? = some z,
  λ i H v H'=>∃ T x y z,H T=none/\v=.ref T/\(∀ xs,i8 K H t1 a1 xs->xs[i]? = some x)/\(∀ xs,i8 K H t2 a2 xs->xs[i]? = some y)/\(∀ xs,i8 K H t3 a3 xs->xs[i]? = some z)/\H'=upd H T (.tup [x,y,z]),
  λ i H=>∃ xs ys zs,i8 K H t1 a1 xs/\i8 K H t2 a2 ys/\i8 K H t3 a3 zs/\(xs.length<=i\/ys.length<=i\/zs.length<=i)⟩
def HN (n a1 a2 a3:Nat) (t1 t2 t3:Bool) (i:Nat) (h:Heap):Prop:=
 ∃ f0 f1 c1 c2 c3,eT f0/\jZ h (n+5) (n+3) (n+4) f0 f1/\cR h (n+3) #[.ref n,.ref (n+1),.ref (n+2)]/\cR h (n+4) #[c1,c2,c3]/\
  cW h t1 n a1 i/\cW h t2 (n+1) a2 i/\cW h t3 (n+2) a3 i/\a1 < n/\a2 < n/\a3 < n
def vV (n:Nat) (m:Nat):List Addr:=(List.range m).map λ k=>(n+k:Nat)
theorem d6 {n m:Nat}{b:Addr}:b∈vV n m↔∃ k,k < m/\b=n+k:=by
 unfold vV;rw[acq];constructor
 ·rintro⟨k,hk,e⟩;exact⟨k,acx.mp hk,e.symm⟩
 ·rintro⟨k,hk,e⟩;exact⟨k,acx.mpr hk,e.symm⟩
theorem eW {n m:Nat}{b:Nat} (h:(b:Addr)∉vV n m) (hm:0 < m):b < n\/n+(m - 1) < b:=by
 by_cases h1:b < n
 ·exact .inl h1
 ·by_cases h2:n+(m - 1) < b
  ·exact .inr h2
  ·exact absurd (d6.mpr ⟨b - n,by omega,by show (b:Nat)=n+(b - n);omega⟩) h
theorem xY {P:Program}{w:World}{K:aab}{tg:Expr} (n a1 a2 a3:Nat) (t1 t2 t3:Bool):Turn P w K tg (HC K t1 t2 t3 a1 a2 a3) (vV n 6) (n+5) (HN n a1 a2 a3 t1 t2 t3) where
 mem:=d6.mpr ⟨5,by decide,rfl⟩
 obj:=λ i h st b hb=>by
  obtain⟨f0,f1,c1,c2,c3,hf,hz,hTI,hTO,i1,i2,i3,_⟩:=st;obtain⟨k,hk,rfl⟩:=d6.mp hb;have hk':k=0\/k=1\/k=2\/k=3\/k=4\/k=5:=by omega
  rcases hk' with rfl | rfl | rfl | rfl | rfl | rfl
  ·exact i1.obj
  ·exact i2.obj
  ·exact i3.obj
  ·exact⟨_,hTI,λ v z=>by cases z⟩
  ·exact⟨_,hTO,λ v z=>by cases z⟩
  ·exact⟨_,hz,λ v z=>by cases z⟩
 keep:=λ i h h' st k=>by
  obtain⟨f0,f1,c1,c2,c3,hf,hz,hTI,hTO,i1,i2,i3,l⟩:=st;have m:∀ j,j < 6->((n+j:Nat):Addr)∈vV n 6:=λ j hj=>d6.mpr ⟨j,hj,rfl⟩;exact⟨f0,f1,c1,c2,c3,hf,k _ (m 5 (by decide)) _ hz,k _ (m 3 (by decide)) _ hTI,k _ (m 4 (by decide)) _ hTO,i1.at λ o e=>k _ (m 0 (by decide)) _ e,i2.at λ o e=>k _ (m 1 (by decide)) _ e,i3.at λ o e=>k _ (m 2 (by decide)) _ e,l⟩
 item:=by
  intro X hP hw hK hc i pins s σ H E I hf st hg;subst hP hw hK;obtain⟨f0,f1,c1,c2,c3,f,hz,hTI,hTO,i1,i2,i3,l1,l2,l3⟩:=st;obtain⟨xs,ys,zs,x,y,z,q1,q2,q3,hx,hy,hw⟩:=hg;obtain⟨us,r1,p1,_⟩:=I.src q1;obtain⟨vs,r2,p2,_⟩:=I.src q2;obtain⟨ws,r3,p3,_⟩:=I.src q3;obtain⟨u,hu,ru⟩:=r1.get hx;obtain⟨v,hv,rv⟩:=r2.get hy;obtain⟨w',hw',rw'⟩:=r3.get hw;refine gQ hz (xU f hz hTI hTO i1 i2 i3 p1 p2 p3 l1 l2 l3 (by simpa using hu) (by simpa using hv) (by simpa using hw') λ T h' f0' f1' d1 d2 d3 hT f' hz' hTI' hTO' i1' i2' i3' hTp hk=>?_);refine⟨_,rfl,pY (s:={ s with heap:=h' }) f' hz' λ h'' f0'' f'' hz'' hs=>?_⟩;replace hs:Heap.SameBut (n+5) h' h'':=hs;have hTn:n+5 < T:=aan (aak hz) hT;have hTp':cR h'' T #[u,v,w']:=ex hs (by omega) hTp;have IT:Inv X pins σ (upd H T (.tup [x,y,z])) { s with heap:=h'',toks:=s.toks }:=I.turnedT (fp:=vV n 6) hf (λ b o hb e=>ex (c:=b) hs (by have:=eW (b:=b) hb (by decide);have:n+(6 - 1)=n+5:=rfl;omega) (hk b o (eW (b:=b) hb (by decide)) e)) hT (its:=[u,v,w']) (.cons ru (.cons rv (.cons rw' .nil))) (by show 3<=sizeLine;decide) ⟨_,hTp',rfl,_,rfl⟩;refine⟨.ref T,upd H T (.tup [x,y,z]),IT,rfl,
   ⟨T,x,y,z,I.hok.fresh hT,rfl,λ as q=>by rw[I.src_inj q q1];exact hx,λ as q=>by rw[I.src_inj q q2];exact hy,λ as q=>by rw[I.src_inj q q3];exact hw,rfl⟩,
   ⟨f0'',f1',d1,d2,d3,f'',hz'',ex hs (by omega) hTI',ex hs (by omega) hTO',i1'.ext hs (by omega),i2'.ext hs (by omega),i3'.ext hs (by omega),l1,l2,l3⟩,λ b hb=>?_⟩
  ·obtain⟨j,hj,rfl⟩:=d6.mp hb;rw[aK (show ((n+j:Nat):Addr)≠T from (show @Ne Nat (n+j) T by omega))];exact (hf _ hb).1
 done:=by
  intro X hP hw hK hc i pins s σ H E I hf st hg;subst hP hw hK;obtain⟨f0,f1,c1,c2,c3,f,hz,hTI,hTO,i1,i2,i3,l1,l2,l3⟩:=st;obtain⟨xs,ys,zs,q1,q2,q3,hend⟩:=hg;obtain⟨us,r1,p1,_⟩:=I.src q1;obtain⟨vs,r2,p2,_⟩:=I.src q2;obtain⟨ws,r3,p3,_⟩:=I.src q3;have e1:=r1.length;have e2:=r2.length;have e3:=r3.length;refine gQ hz (zQ (I.ok.hd hc) f hz hTI hTO i1 i2 i3 p1 p2 p3 l1 l2 l3 (by
   rcases hend with h | h | h
   ·exact .inl (by simp;omega)
   ·exact .inr (.inl (by simp;omega))
   ·exact .inr (.inr (by simp;omega))) λ h' e hk he=>?_)
  obtain⟨o,ho,hcl⟩:=he;exact⟨⟨e,o,rfl,ho,hcl⟩,rfl,I.turnedL (t':=s.toks) hf λ b o hb q=>hk b o (eW (b:=b) hb (by decide)) q⟩
 self:=λ _ _ _ _ _ st h=>by
  obtain⟨f0,f1,c1,c2,c3,f,hz,_⟩:=st;exact gR hz h
def EC (K:aab) (t1 t2:Bool) (a1 a2:Addr):It:=
 ⟨λ i H=>∃ xs ys x y,i8 K H t1 a1 xs/\i8 K H t2 a2 ys/\xs[i]? = some x/\ys[i]? = some y,
  λ i H v H'=>∃ T x y,H T=none/\v=.ref T/\(∀ xs,i8 K H t1 a1 xs->xs[i]? = some x)/\(∀ xs,i8 K H t2 a2 xs->xs[i]? = some y)/\H'=upd H T (.tup [x,y]),
  λ i H=>∃ xs ys,i8 K H t1 a1 xs/\i8 K H t2 a2 ys/\(xs.length<=i\/ys.length<=i)⟩
def HP (n a1 a2:Nat) (t1 t2:Bool) (i:Nat) (h:Heap):Prop:=
 ∃ f0 f1 c1 c2,eT f0/\jZ h (n+4) (n+2) (n+3) f0 f1/\cR h (n+2) #[.ref n,.ref (n+1)]/\cR h (n+3) #[c1,c2]/\cW h t1 n a1 i/\cW h t2 (n+1) a2 i/\a1 < n/\a2 < n
theorem xZ {P:Program}{w:World}{K:aab}{tg:Expr} (n a1 a2:Nat) (t1 t2:Bool):Turn P w K tg (EC K t1 t2 a1 a2) (vV n 5) (n+4) (HP n a1 a2 t1 t2) where
 mem:=d6.mpr ⟨4,by decide,rfl⟩
 obj:=λ i h st b hb=>by
  obtain⟨f0,f1,c1,c2,hf,hz,hTI,hTO,i1,i2,_⟩:=st;obtain⟨k,hk,rfl⟩:=d6.mp hb;have hk':k=0\/k=1\/k=2\/k=3\/k=4:=by omega
  rcases hk' with rfl | rfl | rfl | rfl | rfl
  ·exact i1.obj
  ·exact i2.obj
  ·exact⟨_,hTI,λ v z=>by cases z⟩
  ·exact⟨_,hTO,λ v z=>by cases z⟩
  ·exact⟨_,hz,λ v z=>by cases z⟩
 keep:=λ i h h' st k=>by
  obtain⟨f0,f1,c1,c2,hf,hz,hTI,hTO,i1,i2,l⟩:=st;have m:∀ j,j < 5->((n+j:Nat):Addr)∈vV n 5:=λ j hj=>d6.mpr ⟨j,hj,rfl⟩;exact⟨f0,f1,c1,c2,hf,k _ (m 4 (by decide)) _ hz,k _ (m 2 (by decide)) _ hTI,k _ (m 3 (by decide)) _ hTO,i1.at λ o e=>k _ (m 0 (by decide)) _ e,i2.at λ o e=>k _ (m 1 (by decide)) _ e,l⟩
 item:=by
  intro X hP hw hK hc i pins s σ H E I hf st hg;subst hP hw hK;obtain⟨f0,f1,c1,c2,f,hz,hTI,hTO,i1,i2,l1,l2⟩:=st;obtain⟨xs,ys,x,y,q1,q2,hx,hy⟩:=hg;obtain⟨us,r1,p1,_⟩:=I.src q1;obtain⟨vs,r2,p2,_⟩:=I.src q2;obtain⟨u,hu,ru⟩:=r1.get hx;obtain⟨v,hv,rv⟩:=r2.get hy;refine gQ hz (xV f hz hTI hTO i1 i2 p1 p2 l1 l2 (by simpa using hu) (by simpa using hv) λ T h' f0' f1' d1 d2 hT f' hz' hTI' hTO' i1' i2' hTp hk=>?_);refine⟨_,rfl,pY (s:={ s with heap:=h' }) f' hz' λ h'' f0'' f'' hz'' hs=>?_⟩;replace hs:Heap.SameBut (n+4) h' h'':=hs;have hTn:n+4 < T:=aan (aak hz) hT;have hTp':cR h'' T #[u,v]:=ex hs (by omega) hTp;have IT:Inv X pins σ (upd H T (.tup [x,y])) { s with heap:=h'',toks:=s.toks }:=I.turnedT (fp:=vV n 5) hf (λ b o hb e=>ex (c:=b) hs (by have:=eW (b:=b) hb (by decide);have:n+(5 - 1)=n+4:=rfl;omega) (hk b o (eW (b:=b) hb (by decide)) e)) hT (its:=[u,v]) (.cons ru (.cons rv .nil)) (by show 2<=sizeLine;decide) ⟨_,hTp',rfl,_,rfl⟩;refine⟨.ref T,upd H T (.tup [x,y]),IT,rfl,
   ⟨T,x,y,I.hok.fresh hT,rfl,λ as q=>by rw[I.src_inj q q1];exact hx,λ as q=>by rw[I.src_inj q q2];exact hy,rfl⟩,
   ⟨f0'',f1',d1,d2,f'',hz'',ex hs (by omega) hTI',ex hs (by omega) hTO',i1'.ext hs (by omega),i2'.ext hs (by omega),l1,l2⟩,λ b hb=>?_⟩
  ·obtain⟨j,hj,rfl⟩:=d6.mp hb;rw[aK (show ((n+j:Nat):Addr)≠T from (show @Ne Nat (n+j) T by omega))];exact (hf _ hb).1
 done:=by
  intro X hP hw hK hc i pins s σ H E I hf st hg;subst hP hw hK;obtain⟨f0,f1,c1,c2,f,hz,hTI,hTO,i1,i2,l1,l2⟩:=st;obtain⟨xs,ys,q1,q2,hend⟩:=hg;obtain⟨us,r1,p1,_⟩:=I.src q1;obtain⟨vs,r2,p2,_⟩:=I.src q2;have e1:=r1.length;have e2:=r2.length;refine gQ hz (zR (I.ok.hd hc) f hz hTI hTO i1 i2 p1 p2 l1 l2 (by
   rcases hend with h | h
   ·exact .inl (by simp;omega)
   ·exact .inr (by simp;omega)) λ h' e hk he=>?_)
  obtain⟨o,ho,hcl⟩:=he;exact⟨⟨e,o,rfl,ho,hcl⟩,rfl,I.turnedL (t':=s.toks) hf λ b o hb q=>hk b o (eW (b:=b) hb (by decide)) q⟩
 self:=λ _ _ _ _ _ st h=>by
  obtain⟨f0,f1,c1,c2,f,hz,_⟩:=st;exact gR hz h
def Ite (K:aab) (t:Bool) (a:Addr):It:=
 ⟨λ i H=>∃ xs x,i8 K H t a xs/\xs[i]? = some x,
  λ i H v H'=>∃ T x,H T=none/\v=.ref T/\(∀ xs,i8 K H t a xs->xs[i]? = some x)/\H'=upd H T (.tup [.int i,x]),
  λ i H=>∃ xs,i8 K H t a xs/\xs.length<=i⟩
def tne (n a:Nat) (t:Bool) (i:Nat) (h:Heap):Prop:=∃ f0 f1 old,eT f0/\g8 h (n+1) n f0 f1 i old/\cW h t n a i/\a < n
theorem y6 {P:Program}{w:World}{K:aab}{tg:Expr} (n a:Nat) (t:Bool):Turn P w K tg (Ite K t a) (vV n 2) (n+1) (tne n a t) where
 mem:=d6.mpr ⟨1,by decide,rfl⟩
 obj:=λ i h st b hb=>by
  obtain⟨f0,f1,old,hf,he,i1,_⟩:=st;obtain⟨k,hk,rfl⟩:=d6.mp hb;have hk':k=0\/k=1:=by omega
  rcases hk' with rfl | rfl
  ·exact i1.obj
  ·exact⟨_,he,λ v z=>by cases z⟩
 keep:=λ i h h' st k=>by
  obtain⟨f0,f1,old,hf,he,i1,l⟩:=st;have m:∀ j,j < 2->((n+j:Nat):Addr)∈vV n 2:=λ j hj=>d6.mpr ⟨j,hj,rfl⟩;exact⟨f0,f1,old,hf,k _ (m 1 (by decide)) _ he,i1.at λ o e=>k _ (m 0 (by decide)) _ e,l⟩
 item:=by
  intro X hP hw hK hc i pins s σ H E I hf st hg;subst hP hw hK;obtain⟨f0,f1,old,f,he,i1,l1⟩:=st;obtain⟨xs,x,q1,hx⟩:=hg;obtain⟨us,r1,p1,_⟩:=I.src q1;obtain⟨u,hu,ru⟩:=r1.get hx;refine mD he (zB f he i1 p1 l1 (by simpa using hu) λ T h' f0' f1' old' hT f' he' i1' hTp hk=>?_);refine⟨_,rfl,vR (s:={ s with heap:=h',toks:=s.toks+1 }) f' he' λ h'' f0'' f'' he'' hs=>?_⟩;replace hs:Heap.SameBut (n+1) h' h'':=hs;have hTn:n+1 < T:=aan (aak he) hT;have hTp':cR h'' T #[.int i s.toks,u]:=ex hs (by omega) hTp;have IT:Inv X pins σ (upd H T (.tup [.int i,x])) { s with heap:=h'',toks:=s.toks+1 }:=I.turnedT (fp:=vV n 2) hf (λ b o hb e=>ex (c:=b) hs (by have:=eW (b:=b) hb (by decide);have:n+(2 - 1)=n+1:=rfl;omega) (hk b o (eW (b:=b) hb (by decide)) e)) hT (its:=[.int i s.toks,u]) (.cons ⟨_,rfl⟩ (.cons ru .nil)) (by show 2<=sizeLine;decide) ⟨_,hTp',rfl,_,rfl⟩;have he2:g8 h'' (n+1) n f0'' f1' ((i+1:Nat):Int) old':=by
   have:((i+1:Nat):Int)=(i:Int)+1:=by push_cast;rfl
   rw[this];exact he''
  refine⟨.ref T,upd H T (.tup [.int i,x]),IT,rfl,⟨T,x,I.hok.fresh hT,rfl,λ as q=>by rw[I.src_inj q q1];exact hx,rfl⟩,⟨f0'',f1',old',f'',he2,i1'.ext hs (by omega),l1⟩,λ b hb=>?_⟩
  ·obtain⟨j,hj,rfl⟩:=d6.mp hb;rw[aK (show ((n+j:Nat):Addr)≠T from (show @Ne Nat (n+j) T by omega))];exact (hf _ hb).1
 done:=by
  intro X hP hw hK hc i pins s σ H E I hf st hg;subst hP hw hK;obtain⟨f0,f1,old,f,he,i1,l1⟩:=st;obtain⟨xs,q1,hend⟩:=hg;obtain⟨us,r1,p1,_⟩:=I.src q1;have e1:=r1.length;refine mD he (BY (I.ok.hd hc) he i1 p1 (by simp;omega) λ h' e hk he=>?_);obtain⟨o,ho,hcl⟩:=he;exact⟨⟨e,o,rfl,ho,hcl⟩,rfl,I.turnedL (t':=s.toks) hf λ b o hb q=>hk b o (eW (b:=b) hb (by decide)) q⟩
 self:=λ _ _ _ _ _ st h=>by
  obtain⟨f0,f1,old,f,he,_⟩:=st;exact mE he h
section
variable {X:Cx}{tg:Expr}
theorem u7:bootBuiltins "zip" = some (.type "zip"):=by decide +kernel
theorem zL:bootBuiltins "enumerate" = some (.type "enumerate"):=by decide +kernel
def EY (K:aab) (ta:TA):TI:=λ σ H R=>ta σ H λ vs H1=>∃ t1 t2 a1 a2,vs=[.ref a1,.ref a2]/\(∃ xs,i8 K H1 t1 a1 xs)/\(∃ xs,i8 K H1 t2 a2 xs)/\R (EC K t1 t2 a1 a2) H1
def EW (K:aab) (ta:TA):TI:=λ σ H R=>ta σ H λ vs H1=>∃ t1 t2 t3 a1 a2 a3,vs=[.ref a1,.ref a2,.ref a3]/\(∃ xs,i8 K H1 t1 a1 xs)/\(∃ xs,i8 K H1 t2 a2 xs)/\(∃ xs,i8 K H1 t3 a3 xs)/\R (HC K t1 t2 t3 a1 a2 a3) H1
def FA (K:aab) (ta:TA):TI:=λ σ H R=>ta σ H λ vs H1=>∃ t a,vs=[.ref a]/\(∃ xs,i8 K H1 t a xs)/\R (Ite K t a) H1
theorem DJ {a:Expr}{ta:TA}{p pos:Pos} (hg:Gl X "enumerate") (hm:X.mg "enumerate" = none) (ha:PA X [a] ta) (hs:starEach [a] X.env=[(false,eval a X.env)]:=by rfl):PI X tg (.Call (.Name "enumerate" p) [a] [] pos) (FA X.K ta):=by
 intro pins s σ H R I h;refine Call_ (gY I hg hm zL (PyProof.Rows.callWith_type1 (cY (ha pos pins s σ H _ I h) λ us s1 ⟨vs,H1,I1,r1,q1⟩=>?_) hs rfl));obtain⟨t,a1,e,⟨xs,hq⟩,q⟩:=q1;subst e;cases r1 with
 | cons r rr=>
  cases rr;cases r;obtain⟨its,rv,p,hz⟩:=I1.src hq;refine zK p λ h' he i1 hk=>?_;refine mE (s:={ s1 with heap:=h' }) he ?_;refine⟨_,vV s1.heap.objs.size 2,tne s1.heap.objs.size a1 t,_,H1,rfl,I1.kept (t':=s1.toks) hk,y6 _ _ _,⟨.none,false,.none,.inl rfl,he,i1,p.lt⟩,λ b hb=>?_,q⟩;obtain⟨k,_,rfl⟩:=d6.mp hb;exact I1.fpOk (Nat.le_add_right _ _) (I1.hok.fresh (Nat.le_add_right _ _))
theorem DH {a b:Expr}{ta:TA}{p pos:Pos} (hg:Gl X "zip") (hm:X.mg "zip" = none) (ha:PA X [a,b] ta) (hs:starEach [a,b] X.env=[(false,eval a X.env),(false,eval b X.env)]:=by rfl) (hs2:starEach [b] X.env=[(false,eval b X.env)]:=by rfl) :
  PI X tg (.Call (.Name "zip" p) [a,b] [] pos) (EY X.K ta):=by
 intro pins s σ H R I h;refine Call_ (gY I hg hm u7 (PyProof.Rows.callWith_type1 (cY (ha pos pins s σ H _ I h) λ us s1 ⟨vs,H1,I1,r1,q1⟩=>?_) (by rw[hs,hs2]) (by rw[hs2];rfl)));obtain⟨t1,t2,a1,a2,e,⟨xs,hq1⟩,⟨ys,hq2⟩,q⟩:=q1;subst e;cases r1 with
 | cons r rr=>
  cases rr with
  | cons r' rr=>
   cases rr;cases r;cases r';obtain⟨its,rv,p1,hz⟩:=I1.src hq1;obtain⟨its2,rv2,p2,hz2⟩:=I1.src hq2;refine zG p1 p2 λ h' hz' hTI hTO i1 i2 hk=>?_;refine gR (s:={ s1 with heap:=h' }) hz' ?_;refine⟨_,vV s1.heap.objs.size 5,HP s1.heap.objs.size a1 a2 t1 t2,_,H1,rfl,I1.kept (t':=s1.toks) hk,xZ _ _ _ _ _,⟨.none,false,_,_,.inl rfl,hz',hTI,hTO,i1,i2,p1.lt,p2.lt⟩,λ b hb=>?_,q⟩;obtain⟨k,_,rfl⟩:=d6.mp hb;exact I1.fpOk (Nat.le_add_right _ _) (I1.hok.fresh (Nat.le_add_right _ _))
theorem DG {a b c:Expr}{ta:TA}{p pos:Pos} (hg:Gl X "zip") (hm:X.mg "zip" = none) (ha:PA X [a,b,c] ta) (hs:starEach [a,b,c] X.env=[(false,eval a X.env),(false,eval b X.env),(false,eval c X.env)]:=by rfl)
  (hs2:starEach [b,c] X.env=[(false,eval b X.env),(false,eval c X.env)]:=by rfl) :
  PI X tg (.Call (.Name "zip" p) [a,b,c] [] pos) (EW X.K ta):=by
 intro pins s σ H R I h;refine Call_ (gY I hg hm u7 (PyProof.Rows.callWith_type1 (cY (ha pos pins s σ H _ I h) λ us s1 ⟨vs,H1,I1,r1,q1⟩=>?_) (by rw[hs,hs2]) (by rw[hs2];rfl)));obtain⟨t1,t2,t3,a1,a2,a3,e,⟨xs,hq1⟩,⟨ys,hq2⟩,⟨zs,hq3⟩,q⟩:=q1;subst e;cases r1 with
 | cons r rr=>
  cases rr with
  | cons r' rr=>
   cases rr with
   | cons r'' rr=>
    cases rr;cases r;cases r';cases r'';obtain⟨its,rv,p1,hz⟩:=I1.src hq1;obtain⟨its2,rv2,p2,hz2⟩:=I1.src hq2;obtain⟨its3,rv3,p3,hz3⟩:=I1.src hq3;refine zF p1 p2 p3 λ h' hz' hTI hTO i1 i2 i3 hk=>?_;refine gR (s:={ s1 with heap:=h' }) hz' ?_;refine⟨_,vV s1.heap.objs.size 6,HN s1.heap.objs.size a1 a2 a3 t1 t2 t3,_,H1,rfl,I1.kept (t':=s1.toks) hk,xY _ _ _ _ _ _ _,⟨.none,false,_,_,_,.inl rfl,hz',hTI,hTO,i1,i2,i3,p1.lt,p2.lt,p3.lt⟩,λ b hb=>?_,q⟩;obtain⟨k,_,rfl⟩:=d6.mp hb;exact I1.fpOk (Nat.le_add_right _ _) (I1.hok.fresh (Nat.le_add_right _ _))
end
section
variable {prog:Program}{A:Around}{E:Value->Shared->Prop}{s:Shared}{l:Addr}{xs:Array (Int×Tok)}
theorem uN {Q:Value->Shared->Prop} (hh:A.handled=none) (hl:s.heap.IsTuple l (intItems xs))
  (h:∀ h' tk t',(∀ b o,s.heap.get? b=some o->h'.get? b=some o)->Q (.int (preSum (numAt xs) xs.size) t') { s with heap:=h',toks:=tk }) :
  wpAny (model prog w) A (call (.builtin "sum") [.ref l]) Q E s:=by
 have hlt:l < s.heap.objs.size:=by obtain⟨_,e,_⟩:=hl;exact aak e
 refine call_sum_walkG (wpAny_pyIter_tuple hl ?_);refine⟨_,_,_,_,_,_,numAt xs,rfl,Walks.tuple (A:=A.in1) hh _ l (aar hlt) (intItems xs),⟨⟨_,aag _ rfl,rfl,rfl⟩,hl.push _⟩,λ b hb=>?_,(λ _ _=>intItems_at),λ h' tk t' hk=>?_⟩
 ·show b < (s.heap.push _).objs.size;rw[abd];rcases aax.mp hb with rfl | hb
  ·exact Nat.lt_succ_self _
  ·rcases aax.mp hb with rfl | hb
   ·exact Nat.lt_succ_of_lt hlt
   ·cases hb
 ·have:=h h' tk t' (λ b o e=>hk b o (λ hm=>by rw[abx.mp hm] at e;exact aca _ (aak e)) (aac _ e));simpa [intItems] using this
theorem uO {t:Bool}{vs:List Value}{ns:List Int}{Q:Value->Shared->Prop} (hh:A.handled=none) (hl:bT s.heap t l vs.toArray) (hi:IntsAre vs ns)
  (h:∀ h' tk t',(∀ b o,s.heap.get? b=some o->h'.get? b=some o)->Q (.int ns.sum t') { s with heap:=h',toks:=tk }) :
  wpAny (model prog w) A (call (.builtin "sum") [.ref l]) Q E s:=by
 obtain⟨xs,hx⟩:=hi.allInts.items;have hn:numsOf vs.toArray.toList=ns:=by rw[show vs.toArray.toList=vs from rfl,hi.numsOf]
 rw[hx] at hl hn;rw[nums_intItems] at hn;have e:preSum (numAt xs) xs.size=ns.sum:=by rw[preSum_eq,abv (by simp),hn]
 cases t with
 | true=>exact uN hh hl λ h' tk t' hk=>by rw[e];exact h h' tk t' hk
 | false=>exact sum_intListG hh hl λ h' tk t' hk=>by rw[e];exact h h' tk t' hk
end
section
variable {X:Cx}
def HY (K:aab):List V->Hp->VK->Prop:=λ xs H Q=>∃ (t:Bool) (p:Addr) (ns:List Int),xs=[.ref p]/\i8 K H t p (ns.map V.int)/\Q (.int ns.sum) H
theorem zH (hc:X.calm=true):dY X (.builtin "sum") (HY X.K):=by
 intro pins s σ H xs us Q I r h;obtain⟨t,p,ns,rfl,hq,q⟩:=h;obtain⟨u,rfl,ru⟩:=r.one;cases ru;obtain⟨its,rv,p1,hz⟩:=I.src hq;refine uO (I.ok.hd hc) p1 (oQ rv) λ h' tk t' hk=>⟨.int ns.sum,H,I.kept hk,⟨t',rfl⟩,q⟩
def TyS (K:aab) (H:Hp) (x:V) (t:Value):Prop:=TyOf K H x t\/∃ a ys,x=.ref a/\bM K H a ys/\t=.type "tuple"
def II (K:aab):List V->Hp->VK->Prop:=λ xs H Q=>∃ x T t b,xs=[x,.ty T]/\TyS K H x t/\PySem.W.kitOne K t (.type T)=some b/\Q (.bl b) H
theorem CK:dY X (.builtin "isinstance") (II X.K):=by
 intro pins s σ H xs us Q I r h;obtain⟨x,T,t,b,rfl,ty,e,q⟩:=h;obtain⟨u,v,rfl,ru,rv⟩:=r.two;cases rv;rcases ty with ty | ⟨a,ys,rfl,hq,rfl⟩
 ·exact yQ I ru ty e λ tk=>⟨.bl b,H,I.tok tk,rfl,q⟩
 ·cases (show u=Value.ref a from ru);obtain⟨its,rv',⟨o,h1,h2,_⟩,_⟩:=I.tuple hq;exact PySem.W.kia_one PySem.W.kitx_tuple I.kIn ⟨o,h1,h2⟩ e (λ z=>nomatch z) λ tk=>⟨.bl b,H,I.tok tk,rfl,q⟩
end
theorem gG:fillsNumberSlot (.type "tuple") "mul" = pure false:=
 PySem.fillsNumberSlot_seq (id := "tuple.__mul__") (r:=some (.builtin "tuple.__rmul__")) F.slot_tuple_mul.lookup (by decide +kernel) F.slot_tuple_rmul.lookup (by decide +kernel)
theorem kQ:seqRepeat? (.type "tuple")=pure (some (.builtin "tuple.__mul__")):=by
 unfold seqRepeat?;rw[PySem.seqSlot_of (T := "tuple") (name := "__mul__") (id := "tuple.__mul__") F.slot_tuple_mul.lookup (by decide +kernel),PySem.seqSlot_of (T := "tuple") (name := "__rmul__") (id := "tuple.__rmul__") F.slot_tuple_rmul.lookup (by decide +kernel)];rfl
theorem iO (a:Int) (t:Tok) (l:Addr) (items:Array Value) (n:Nat) (dd:Option Addr) (sl:Array (Option Value)) :
  Meets (Builtin.«int.__rmul__» ⟨[.int a t,.ref l],[]⟩) (λ _ R s=>s.heap.get? l=some { cls:=.type "tuple",dict:=dd,data:=.seq items n,slots:=sl }/\R (.ok (.ret Value.notImplemented)) s):=
 .of_wp λ prog w A R s h=>by obtain⟨hp,g,d,tk,os⟩:=s;obtain⟨hl,h⟩:=h;wp_walk;exact⟨_,rfl,h⟩
theorem pD (l:Addr) (items:Array Value) (n:Nat) (u:Tok) (dd:Option Addr) (sl:Array (Option Value)) :
  Meets (Builtin.«tuple.__mul__» ⟨[.ref l,.int 1 u],[]⟩) (λ _ R s=>s.heap.get? l=some { cls:=.type "tuple",dict:=dd,data:=.seq items n,slots:=sl }/\R (.ok (.ret (.ref l))) s):=
 .of_wp λ prog w A R s h=>by
  obtain⟨hp,g,d,tk,os⟩:=s;obtain⟨hl,h⟩:=h;have c1:(items.isEmpty || (1:Int) == 1)=true:=by simp
  wp_walk
  exact⟨_,rfl,h⟩
theorem nJ (l:Addr) (items:Array Value) (n:Nat) (x:Int) (u:Tok) (dd:Option Addr) (sl:Array (Option Value)) (c0:¬ (decide (x < -(2 ^ 63)) || decide (x ≥ 2 ^ 63))=true) (c1:¬ (items.isEmpty || x == 1)=true)
  (c2:¬ (decide (x<=0) || items.isEmpty)=true) (c3:¬ (items.size:Int) * x > (2 ^ 63 - 1) / 8) (c4:¬ Builtin.Tuple.tupleTooMany ((items.size:Int) * x)=true) (hsz:(List.foldl (λ x1 x2=>x1++x2) #[] (List.replicate x.toNat items)).size<=sizeLine) :
  Meets (Builtin.«tuple.__mul__» ⟨[.ref l,.int x u],[]⟩) (λ _ R s=>s.heap.get? l=some { cls:=.type "tuple",dict:=dd,data:=.seq items n,slots:=sl }/\
   R (.ok (.ret (.ref s.heap.objs.size))) { s with heap:=s.heap.push { cls:=.type "tuple",data:=.seq (List.foldl (λ x1 x2=>x1++x2) #[] (List.replicate x.toNat items)) } }):=
 .of_wp λ prog w A R s h=>by
  obtain⟨hp,g,d,tk,os⟩:=s;obtain⟨hl,h⟩:=h
  wp_walk
  rw[if_neg c0]
  wp_walk
  all_goals (try rw[if_neg c1])
  wp_walk
  all_goals (try rw[if_neg c2])
  wp_walk
  all_goals (try rw[if_neg c3])
  wp_walk
  all_goals (try rw[if_neg c4])
  wp_walk
  exact⟨_,rfl,h⟩
theorem aG.tup {K:aab}{H H':Hp}{a:Addr}{xs:List V} (e:aG H H') (h:bM K H a xs):bM K H' a xs:=by
 rcases h with (h | ⟨o,h⟩) | h
 ·exact .inl (.inl (e _ _ h))
 ·exact .inl (.inr ⟨o,e _ _ h⟩)
 ·exact .inr h
theorem aG.new {H:Hp}{p:Addr}{o:HO} (h:H p=none):aG H (upd H p o):=λ b u e=>by rw[aK (aJ e h)];exact e
section
variable {X:Cx}
def EM (K:aab):R2:=λ x y H Q=>∃ (l:Addr) (k:Int) (xs:List V),x=.ref l/\y=.int k/\bM K H l xs/\1<=k/\k < 1000000/\xs≠[]/\xs.length<=10/\
 ∀ p H',aG H H'->bM K H' p (List.replicate k.toNat xs).flatten->Q (.ref p) H'
theorem wM:hJ X (binaryOp .Mult) (EM X.K):=by
 intro pins s σ H x y v u Q I rx ry h;obtain⟨l,k,xs,rfl,rfl,hq,h1,h2,hne,hl10,q⟩:=h;cases rx;obtain⟨t,rfl⟩:=ry;obtain⟨its,r,ht,z⟩:=I.tuple hq;have hlen:=r.length;obtain⟨⟨cls,dd,data,sl⟩,e,hc,n,hd⟩:=id ht;simp only at hc hd;subst hc hd;refine wpAny_binaryOp_repeat_ref (T := "tuple") (U := "int") (by decide) ⟨_,e,rfl⟩ (λ s'=>typeIs_int s' k t) gG F.fills_int_mul F.slot_int_rmul kQ F.slot_int_index.lookup
  (call_meets F.slot_int_rmul (typeIs_int s k t) F.entry_int_rmul (F.args_int_rmul_2 _ _) (iO k t l its.toArray n dd sl) ⟨e,rfl,⟨_,e,rfl⟩,?_⟩)
 by_cases hk:k=1
 ·subst hk;refine call_meets F.slot_tuple_mul ⟨_,e,rfl⟩ F.entry_tuple_mul (F.args_tuple_mul_2 _ _) (pD l its.toArray n t dd sl) ⟨e,?_⟩;refine⟨.ref l,H,I,rfl,q l H (aG.refl H) ?_⟩;have e1:(List.replicate (1:Int).toNat xs).flatten=xs:=by simp
  rw[e1];exact hq
 ·have hne':its≠[]:=λ z=>by rw[z] at hlen;exact hne (List.eq_nil_of_length_eq_zero hlen)
  have f0:List.foldl (λ x1 x2=>x1++x2) #[] (List.replicate k.toNat its.toArray)=(List.replicate k.toNat its).flatten.toArray:=by
   have:=qB its k.toNat [];rw[List.nil_append] at this;exact this
  have hemp:its.toArray.isEmpty=false:=by cases its with
   | nil=>exact absurd rfl hne'
   | cons a r=>rfl
  have hszN:k.toNat * its.length<=sizeLine:=by
   have a1:its.length<=10:=by omega
   have a2:k.toNat<=1000000:=by omega
   have:=Nat.mul_le_mul a2 a1;rw[sizeLine_eq];omega
  have hprod:((its.toArray.size:Nat):Int) * k<=16777216:=by
   have a1:((its.toArray.size:Nat):Int)<=10:=by rw[aah];omega
   have:=Int.mul_le_mul a1 (show k<=1000000 by omega) (by omega) (by omega);omega
  refine call_meets F.slot_tuple_mul ⟨_,e,rfl⟩ F.entry_tuple_mul (F.args_tuple_mul_2 _ _) (nJ l its.toArray n k t dd sl (by simp;omega) (by rw[hemp];simp;exact hk) (by rw[hemp];simp;omega) (by omega) (by
    unfold Builtin.Tuple.tupleTooMany;rw[decide_eq_true_iff];rw[sizeLine_eq];omega) (by rw[f0,aah,wW];exact hszN)) ⟨e,?_⟩
  have I1:=I.laid (a:=s.heap.objs.size) (o:=.tup (List.replicate k.toNat xs).flatten) (h':=s.heap.push { cls:=.type "tuple",data:=.seq (List.foldl (λ x1 x2=>x1++x2) #[] (List.replicate k.toNat its.toArray)) }) (t':=s.toks)
   (λ _ _ q=>aac _ q) (aaj _) ⟨by rw[wW,hlen];exact hszN,(List.replicate k.toNat its).flatten,r.rep k.toNat,⟨_,aag _ rfl,rfl,0,by simp only [f0]⟩⟩
  exact⟨.ref _,_,I1,rfl,q _ _ (aG.new I.fresh) (bM.of aB)⟩
end
open MeetsSeq in
theorem uK (l b:Addr) (items items2:Array Value) (n n2:Nat) (dd dd2:Option Addr) (sl sl2:Array (Option Value)) (hsz:items.size=items2.size) :
  Meets (Builtin.«tuple.__ne__» ⟨[.ref l,.ref b],[]⟩)
   (λ A R s=>s.heap.get? l=some { cls:=.type "tuple",dict:=dd,data:=.seq items n,slots:=sl }/\s.heap.get? b=some { cls:=.type "tuple",dict:=dd2,data:=.seq items2 n2,slots:=sl2 }/\
    (∀ j (h1:j < items.size) (h2:j < items2.size),SeqAt.EqAt A.in1 s items[j] items2[j] true)/\
    R (.ok (.ret (.bool false))) s):=
 .of_wp λ prog w A R s h=>by
  obtain⟨hp,g,d,tk,os⟩:=s;obtain⟨hl,hb,he,h⟩:=h;have f2:=AutoSeq1.sub_tuple_tuple;have hZ:(items.toList.zip items2.toList).length=min items.size items2.size:=by simp
  wp_walk using AutoSeq1.wpAny_loadPart' hl,AutoSeq1.wpAny_loadPart' hb,wpAny_forIn_list _ (λ rest b s'=>b.1=none/\s'=⟨hp,g,d,tk,os⟩/\∃ i,rest=(items.toList.zip items2.toList).drop i) _
  case turn=>
   rintro⟨y,x⟩ rest b s' ⟨hb',rfl,i,hz⟩;have hlt:i < (items.toList.zip items2.toList).length:=by
    rcases Nat.lt_or_ge i (items.toList.zip items2.toList).length with h' | h'
    ·exact h'
    ·rw[List.drop_of_length_le h'] at hz;cases hz
   have hm:i < min items.size items2.size:=hZ ▸ hlt;have h1:i < items.size:=aan hm (Nat.min_le_left _ _);have h2:i < items2.size:=aan hm (Nat.min_le_right _ _);rw[List.drop_eq_getElem_cons hlt] at hz;injection hz with hyx hrest;have hy:y=items[i]:=by have:=congrArg Prod.fst hyx;simpa using this
   have hx:x=items2[i]:=by have:=congrArg Prod.snd hyx;simpa using this
   subst hy hx;refine aaa (he i h1 h2 prog w _ _ ?_)
   wp_walk
   exact⟨rfl,rfl,i+1,hrest⟩
  case fin=>
   rintro⟨b1,b2⟩ s' ⟨hb',rfl,i,hz⟩;simp only at hb';subst hb'
   wp_walk
   exact⟨_,rfl,by simpa [Builtin.Tuple.tupleCompareSizes,hsz] using h⟩
  case h=>
   exact⟨rfl,rfl,0,rfl⟩
inductive D where
 | non | bl (b:Bool) | int (i:Int) | str (x:Str) | tup (ds:List D)
mutual
def Is (K:aab) (H:Hp):D->V->Prop
 | .non,v=>v=.non
 | .bl b,v=>v=.bl b
 | .int i,v=>v=.int i
 | .str x,v=>v=.str x
 | .tup ds,v=>∃ a xs,v=.ref a/\bM K H a xs/\IsL K H ds xs
def IsL (K:aab) (H:Hp):List D->List V->Prop
 | [],xs=>xs=[]
 | d::ds,xs=>∃ x r,xs=x::r/\Is K H d x/\IsL K H ds r
end
def bP (K:aab) (H H':Hp):Prop:=∀ a xs,bM K H a xs->bM K H' a xs
theorem bP.refl {K:aab} (H:Hp):bP K H H:=λ _ _ h=>h
theorem bP.trans {K:aab}{H H1 H2:Hp} (a:bP K H H1) (b:bP K H1 H2):bP K H H2:=λ c xs h=>b c xs (a c xs h)
theorem aG.ts {K:aab}{H H':Hp} (e:aG H H'):bP K H H':=λ _ _ h=>e.tup h
mutual
theorem Is.mono {K:aab}{H H':Hp} (t:bP K H H'):∀ (d:D) (v:V),Is K H d v->Is K H' d v
 | .non,_,h=>h
 | .bl _,_,h=>h
 | .int _,_,h=>h
 | .str _,_,h=>h
 | .tup ds,v,h=>by
  rw[Is] at h ⊢;obtain⟨a,xs,e,q,l⟩:=h;exact⟨a,xs,e,t a xs q,IsL.mono t ds xs l⟩
theorem IsL.mono {K:aab}{H H':Hp} (t:bP K H H'):∀ (ds:List D) (xs:List V),IsL K H ds xs->IsL K H' ds xs
 | [],xs,h=>h
 | d::ds,xs,h=>by
  rw[IsL] at h ⊢;obtain⟨x,r,e,hx,hr⟩:=h;exact⟨x,r,e,Is.mono t d x hx,IsL.mono t ds r hr⟩
end
theorem IsL.length {K:aab}{H:Hp}:∀ {ds:List D}{xs:List V},IsL K H ds xs->xs.length=ds.length
 | [],xs,h=>by rw[IsL] at h;subst h;rfl
 | d::ds,xs,h=>by
  rw[IsL] at h;obtain⟨x,r,rfl,_,hr⟩:=h;rw[abk,abk,IsL.length hr]
theorem IsL.get {K:aab}{H:Hp}:∀ {ds:List D}{xs:List V}{i:Nat}{d:D},IsL K H ds xs->ds[i]? = some d->∃ x,xs[i]? = some x/\Is K H d x
 | [],_,_,_,_,e=>by simp at e
 | d::ds,xs,0,d',h,e=>by
  rw[IsL] at h;obtain⟨x,r,rfl,hx,hr⟩:=h;simp at e;subst e;exact⟨x,rfl,hx⟩
 | d::ds,xs,i+1,d',h,e=>by
  rw[IsL] at h;obtain⟨x,r,rfl,hx,hr⟩:=h;obtain⟨y,h1,h2⟩:=IsL.get hr (i:=i) (by simpa using e);exact⟨y,by simpa using h1,h2⟩
theorem IsL.get' {K:aab}{H:Hp}{ds:List D}{xs:List V}{i:Nat}{x:V} (h:IsL K H ds xs) (e:xs[i]? = some x):∃ d,ds[i]? = some d/\Is K H d x:=by
 have hl:=h.length;have hi:i < ds.length:=by rw[<- hl];exact (aai.mp e).1
 obtain⟨y,h1,h2⟩:=h.get (i:=i) (d:=ds[i]) (by simp [hi]);rw[e] at h1;cases h1;exact⟨ds[i],by simp [hi],h2⟩
theorem IsL.snoc {K:aab}{H:Hp}{d:D}{x:V} (hd:Is K H d x):∀ {ds:List D}{xs:List V},IsL K H ds xs->IsL K H (ds++[d]) (xs++[x])
 | [],xs,h=>by
  rw[IsL] at h;subst h;show IsL K H [d] [x];rw[IsL];exact⟨x,[],rfl,hd,by rw[IsL]⟩
 | d'::ds,xs,h=>by
  rw[IsL] at h;obtain⟨y,r,rfl,hy,hr⟩:=h;show IsL K H (d'::(ds++[d])) (y::(r++[x]));rw[IsL];exact⟨y,r++[x],rfl,hy,IsL.snoc hd hr⟩
theorem IsL.ints {K:aab}{H:Hp}:∀ {ns:List Int}{xs:List V},IsL K H (ns.map D.int) xs->xs=ns.map V.int
 | [],xs,h=>by rw[acl,IsL] at h;exact h
 | n::ns,xs,h=>by
  rw[abe,IsL] at h;obtain⟨x,r,rfl,hx,hr⟩:=h;rw[Is] at hx;rw[hx,IsL.ints hr,abe]
theorem IsL.of_ints {K:aab}{H:Hp}:∀ (ns:List Int),IsL K H (ns.map D.int) (ns.map V.int)
 | []=>by rw[acl,acl,IsL]
 | n::ns=>by
  rw[abe,abe,IsL];exact⟨_,_,rfl,by rw[Is],IsL.of_ints ns⟩
theorem IsL.bools {K:aab}{H:Hp}:∀ {ns:List Bool}{xs:List V},IsL K H (ns.map D.bl) xs->xs=ns.map V.bl
 | [],xs,h=>by rw[acl,IsL] at h;exact h
 | n::ns,xs,h=>by
  rw[abe,IsL] at h;obtain⟨x,r,rfl,hx,hr⟩:=h;rw[Is] at hx;rw[hx,IsL.bools hr,abe]
theorem IsL.of_bools {K:aab}{H:Hp}:∀ (ns:List Bool),IsL K H (ns.map D.bl) (ns.map V.bl)
 | []=>by rw[acl,acl,IsL]
 | n::ns=>by
  rw[abe,abe,IsL];exact⟨_,_,rfl,by rw[Is],IsL.of_bools ns⟩
mutual
def D.depth:D->Nat
 | .tup ds=>fL ds+1
 | _=>0
def fL:List D->Nat
 | []=>0
 | d::ds=>max d.depth (fL ds)
end
section
variable {X:Cx}{pins:List (Addr×Obj)}{σ:St}{H:Hp}{s:Shared}
mutual
theorem Is.eqAt (I:Inv X pins σ H s):∀ (d:D) (A:Around) (x y:V) (u v:Value),A.units+d.depth < cLine->Is X.K H d x->Is X.K H d y->bG x u->bG y v->SeqAt.EqAt A s u v true
 | .non,A,x,y,u,v,_,hx,hy,rx,ry=>by
  rw[Is] at hx hy;subst hx hy;cases rx;cases ry;exact SeqAt.EqAt.same _
 | .bl b,A,x,y,u,v,_,hx,hy,rx,ry=>by
  rw[Is] at hx hy;subst hx hy;cases rx;cases ry;exact SeqAt.EqAt.same _
 | .int i,A,x,y,u,v,_,hx,hy,rx,ry=>by
  rw[Is] at hx hy;subst hx hy;obtain⟨t,rfl⟩:=rx;obtain⟨t',rfl⟩:=ry;have:=SeqAt.EqAt.int_int (A:=A) (s:=s) i t i t';simpa using this
 | .str z,A,x,y,u,v,_,hx,hy,rx,ry=>by
  rw[Is] at hx hy;subst hx hy;obtain⟨t,rfl⟩:=rx;obtain⟨t',rfl⟩:=ry;have:=SeqAt.EqAt.str_str (A:=A) (s:=s) z t z t';simpa using this
 | .tup ds,A,x,y,u,v,hu,hx,hy,rx,ry=>by
  rw[Is] at hx hy;obtain⟨a,xs,rfl,q1,l1⟩:=hx;obtain⟨b,ys,rfl,q2,l2⟩:=hy;cases rx;cases ry
  by_cases hab:a=b
  ·subst hab;exact SeqAt.EqAt.same _
  ·obtain⟨us,r1,p1,_⟩:=I.tuple q1;obtain⟨vs,r2,p2,_⟩:=I.tuple q2;have hdep:D.depth (.tup ds)=fL ds+1:=by rw[D.depth]
   rw[hdep] at hu;have e1:=r1.length;have e2:=r2.length;have e3:=l1.length;have e4:=l2.length;have hu2:A.in1.units+fL ds < cLine:=by
    have:A.in1.units<=A.units+1:=by show A.units+1<=A.units+1;exact aaj _
    omega
   have all:=IsL.eqAt I ds A.in1 xs ys us vs hu2 l1 l2 r1 r2;have hsz:us.toArray.size=vs.toArray.size:=by simp;omega
   have:=SeqAt.RcAt.tuples (A:=A) (s:=s) (e:=λ _=>true) (show s.heap.IsTuple a us.toArray from p1) (show s.heap.IsTuple b vs.toArray from p2) (by omega) λ j h1 h2=>all j us.toArray[j] vs.toArray[j] (by simp) (by simp);have e5:((List.range (min us.toArray.size vs.toArray.size)).all (λ _=>true) && us.toArray.size == vs.toArray.size)=true:=by
    rw[hsz];simp
   rw[e5] at this;exact SeqAt.EqAt.of_refs hab this
theorem IsL.eqAt (I:Inv X pins σ H s):∀ (ds:List D) (A:Around) (xs ys:List V) (us vs:List Value),A.units+fL ds < cLine->IsL X.K H ds xs->IsL X.K H ds ys->bI xs us->bI ys vs->∀ (j:Nat) (u v:Value),us[j]? = some u->vs[j]? = some v->SeqAt.EqAt A s u v true
 | [],A,xs,ys,us,vs,_,hx,hy,rx,ry,j,u,v,eu,ev=>by
  rw[IsL] at hx;subst hx;cases rx;simp at eu
 | d::ds,A,xs,ys,us,vs,hu,hx,hy,rx,ry,j,u,v,eu,ev=>by
  rw[IsL] at hx hy;obtain⟨x,xr,rfl,hx,hxr⟩:=hx;obtain⟨y,yr,rfl,hy,hyr⟩:=hy;have hd:fL (d::ds)=max d.depth (fL ds):=by rw[fL]
  rw[hd] at hu;cases rx with
  | cons rx rxr=>
   cases ry with
   | cons ry ryr=>
    cases j with
    | zero=>
     simp at eu ev;subst eu ev;exact Is.eqAt I d A x y _ _ (by omega) hx hy rx ry
    | succ j=>exact IsL.eqAt I ds A xr yr _ _ (by omega) hxr hyr rxr ryr j u v (by simpa using eu) (by simpa using ev)
end
end
section
variable {X:Cx}
def wI (K:aab):R2:=λ x y H Q=>∃ ds,ds.length<=1000/\fL ds<=20/\Is K H (.tup ds) x/\Is K H (.tup ds) y/\Q (.bl false) H
theorem yF (hu:X.A.units+64 < cLine):hJ X (compareOp .NotEq) (wI X.K):=by
 intro pins s σ H x y v u Q I rx ry h;obtain⟨ds,hl,hdep,hx,hy,q⟩:=h;rw[Is] at hx hy;obtain⟨a,xs,rfl,q1,l1⟩:=hx;obtain⟨b,ys,rfl,q2,l2⟩:=hy;cases rx;cases ry;obtain⟨us,r1,p1,_⟩:=I.tuple q1;obtain⟨vs,r2,p2,_⟩:=I.tuple q2;have e1:=r1.length;have e2:=r2.length;have e3:=l1.length;have e4:=l2.length;obtain⟨⟨cls,dd,data,sl⟩,ho,hc,n,hd⟩:=id p1;obtain⟨⟨cls2,dd2,data2,sl2⟩,ho2,hc2,n2,hd2⟩:=id p2;simp only at hc hd hc2 hd2;subst hc hd hc2 hd2;have hin:∀ A:Around,A.in1.units=A.units+1:=λ A=>rfl;refine richCompare_meets_room (op:=.NotEq) ⟨_,ho,rfl⟩ ⟨_,ho2,rfl⟩ F.slot_tuple_ne F.entry_tuple_ne (F.args_tuple_ne_2 _ _) (uK a b us.toArray vs.toArray n n2 dd dd2 sl sl2 (by simp;omega))
  ⟨ho,ho2,λ j h1 h2=>IsL.eqAt I ds _ xs ys us vs (by rw[hin];omega) l1 l2 r1 r2 j _ _ (by simp) (by simp),show Value.bool false≠Value.notImplemented/\EP X pins σ Q (.bool false) s from ⟨(λ x=>nomatch x),.bl false,H,I,rfl,q⟩⟩ (by omega)
def G2:V->List V->Hp->VK->Prop:=λ x vs H Q=>∃ (l:Addr) (xs:List V) (y:V) (j:Nat),x=.ref l/\vs=[y]/\H l=some (.lst xs)/\gK y=true/\xs.all gK=true/\j < xs.length/\(∀ z,xs[j]? = some z->yZ z y=true)/\(∀ i z,i < j->xs[i]? = some z->yZ z y=false)/\Q (.int j) H
theorem tJ:MtM X "list.index" G2:=by
 intro pins s σ H x vs v us Q I rx rv h;obtain⟨l,xs,y,j,rfl,rfl,hH,fy,fx,hj,h1,h2,q⟩:=h;cases rx;obtain⟨u,rfl,ru⟩:=rv.one;obtain⟨z,its,n,r,hl,e⟩:=I.lstM hH;have key:∀ i (hi:i < its.length),∃ x,xs[i]? = some x/\bG x its[i]/\gK x=true:=λ i hi=>by
  have hx:xs[i]? = some xs[i]:=by simp [show i < xs.length by omega]
  obtain⟨w',h1,h2⟩:=r.get hx;have:its[i]? = some its[i]:=by simp [hi]
  rw[this] at h1;cases h1;exact⟨_,hx,h2,(ace.mp fx) _ (ach _)⟩
 refine call_meets F.slot_list_index ⟨_,e,rfl⟩ F.entry_list_index (F.args_list_index_2 _ _)
  (SeqAt.list_indexAt l its.toArray n none #[] u (zP y) j (by rw[aah];omega) (by rw[sizeLine_eq] at z;omega) ?_ ?_) ⟨e,λ w' hw=>?_,⟨.int j,H,I.tok _,⟨_,rfl⟩,q⟩⟩
 ·obtain⟨x,hx,rx,fx'⟩:=key j (by omega);have:=rW (x:=y) rx fx';show zP y its[j]=true;rw[this];exact h1 x hx
 ·intro i hi hlt;have hi':i < its.length:=by simpa using hi
  obtain⟨x,hx,rx,fx'⟩:=key i hi';have:=rW (x:=y) rx fx';show zP y its[i]=false;rw[this];exact h2 i x hlt hx
 ·exact kY ru fy r fx w' (by simpa using hw)
end
structure Callee (P:Program) (w:World) (K:aab) (mg:Str->Option Value) (base:Heap) (x:Str) (ps:List Str) (k:Nat) (sp:Sp) (f:Addr) (fd:FuncData):Prop where
 ok:FnOk P w K mg base i7 k f fd ps sp
 mg:mg x=some (.ref f)
 kp:PySem.W.keepIn K (.ref f)=true
 bd:pB K fd ps []
theorem dF {X:Cx}{x:Str}{ps:List Str}{k n:Nat}{sp:Sp}{f:Addr}{fd:FuncData}{e:Expr}{es:List Expr}{t:TA}{p pos:Pos} (G:Callee X.prog X.w X.K X.mg X.base x ps k sp f fd) (hr:Room n X.A) (ha:PA X (e::es) t) (hg:Gl X x:=by rfl) (hle:k<=n:=by decide)
  (hdb:(x == ("__debug__" : Str))=false:=by decide) (he:starEach (e::es) X.env=(false,eval e X.env)::starEach es X.env:=by rfl) (hpl:(backTo pos (starEach es X.env)).any (·.1)=false:=by rfl) :
  PE X (.Call (.Name x p) (e::es) [] pos) (m8 sp [] E0 t):=rA G.ok (hr.mono hle) hg G.mg G.kp G.bd .nil IM ha hdb he hpl
theorem d9:bootBuiltins "isinstance" = some (.builtin "isinstance"):=by decide +kernel
def dS (t:Addr) (H H':Hp):Prop:=∀ b o,b≠t->H b=some o->H' b=some o
theorem dS.refl {t:Addr} (H:Hp):dS t H H:=λ _ _ _ h=>h
theorem dS.trans {t:Addr}{H H1 H2:Hp} (a:dS t H H1) (b:dS t H1 H2):dS t H H2:=λ c o hc h=>b c o hc (a c o hc h)
theorem aG.but {t:Addr}{H H':Hp} (a:aG H H'):dS t H H':=λ b o _ h=>a b o h
theorem dS.upd {t:Addr}{H:Hp}{o:HO}:dS t H (upd H t o):=λ b u hb h=>by rw[aK hb];exact h
theorem dS.ts {K:aab}{t:Addr}{H H':Hp} (a:dS t H H') (hm:qM (H t)):bP K H H':=by
 intro b xs h;have ne:∀ {o:HO},H b=some o->¬ qM (some o)->b≠t:=λ e n z=>by rw[<- z,e] at hm;exact n hm
 rcases h with (h | ⟨o,h⟩) | h
 ·exact .inl (.inl (a _ _ (ne h (λ z=>z)) h))
 ·exact .inl (.inr ⟨o,a _ _ (ne h (λ z=>z)) h⟩)
 ·exact .inr h
theorem dS.free {t l:Addr}{H H':Hp} (a:dS t H H') (hl:l≠t) (h:H' l=none):H l=none:=by
 cases q:H l with
 | none=>rfl
 | some o=>rw[a l o hl q] at h;cases h
def EO (K:aab):V->V->Hp->VK->Prop:=λ o i H Q=>∃ (p:Addr) (xs:List V) (k:Int) (v:V),o=.ref p/\i=.int k/\bN K H p xs/\0<=k/\k < 2 ^ 63/\xs[k.toNat]? = some v/\Q v H
theorem BR {X:Cx}:HA X (EO X.K):=by
 intro pins s σ H o i ov iv Q I ro ri h;obtain⟨p,xs,k,v,rfl,rfl,hq,h0,h1,hx,q⟩:=h;cases ro;obtain⟨t,rfl⟩:=ri;obtain⟨its,r,pl,hz⟩:=I.list hq;obtain⟨w',ew,rw'⟩:=r.get hx;exact wpAny_getItem_list pl.isList h0 h1 (by simpa using ew) ⟨v,H,I,rw',q⟩
theorem mX {n:Nat}{k:Int} (h0:0<=k) (h1:k < n):BC n k=some k.toNat:=by
 unfold BC;rw[if_pos h0,if_pos h1]
theorem n6 {az:Type}{xs:List az}{k:Int}{v:az} (h0:0<=k) (h:xs[k.toNat]? = some v):CM xs k=some v:=by
 obtain⟨j,rfl⟩:=Int.eq_ofNat_of_zero_le h0;exact bW (by simpa using h)
theorem Is.tupOf {K:aab}{H:Hp}{ds:List D}{a:Addr}{xs:List V} (q:bM K H a xs) (l:IsL K H ds xs):Is K H (.tup ds) (.ref a):=by
 rw[Is];exact⟨a,xs,rfl,q,l⟩
theorem Is.un {K:aab}{H:Hp}{ds:List D}{v:V} (h:Is K H (.tup ds) v):∃ a xs,v=.ref a/\bM K H a xs/\IsL K H ds xs:=by
 rw[Is] at h;exact h
theorem IsL.un {K:aab}{H:Hp}{d:D}{ds:List D}{xs:List V} (h:IsL K H (d::ds) xs):∃ x r,xs=x::r/\Is K H d x/\IsL K H ds r:=by
 rw[IsL] at h;exact h
theorem IsL.un0 {K:aab}{H:Hp}{xs:List V} (h:IsL K H [] xs):xs=[]:=by
 rw[IsL] at h;exact h
theorem IsL.cons {K:aab}{H:Hp}{d:D}{ds:List D}{x:V}{xs:List V} (hd:Is K H d x) (h:IsL K H ds xs):IsL K H (d::ds) (x::xs):=by
 rw[IsL];exact⟨x,xs,rfl,hd,h⟩
theorem IsL.nil {K:aab}{H:Hp}:IsL K H [] []:=by rw[IsL]
theorem Is.i {K:aab}{H:Hp} (i:Int):Is K H (.int i) (.int i):=by rw[Is]
theorem Is.b {K:aab}{H:Hp} (i:Bool):Is K H (.bl i) (.bl i):=by rw[Is]
theorem Is.s {K:aab}{H:Hp} (i:Str):Is K H (.str i) (.str i):=by rw[Is]
theorem Is.n {K:aab}{H:Hp}:Is K H .non .non:=by rw[Is]
theorem Is.ui {K:aab}{H:Hp}{i:Int}{v:V} (h:Is K H (.int i) v):v=.int i:=by rw[Is] at h;exact h
theorem Is.ub {K:aab}{H:Hp}{i:Bool}{v:V} (h:Is K H (.bl i) v):v=.bl i:=by rw[Is] at h;exact h
theorem Is.us {K:aab}{H:Hp}{i:Str}{v:V} (h:Is K H (.str i) v):v=.str i:=by rw[Is] at h;exact h
theorem Is.u0 {K:aab}{H:Hp}{v:V} (h:Is K H .non v):v=.non:=by rw[Is] at h;exact h
end L2
namespace Tw
open PySem L2
structure Vs where
 size:Int
 brim:Int
 outs:List (Option Int×Int)
 holds:Bool
 spill:Option Int
 acts:List (Str×Int)
abbrev xR:=Int×Int×Bool
structure Net where
 vs:List Vs
 sps:List xR
def CW:Option Int->D
 | none=>.non
 | some i=>.int i
def jI:Option Int->V
 | none=>.non
 | some i=>.int i
def outD (o:Option Int×Int):D:=.tup [CW o.1,.int o.2]
def w6 (a:Str×Int):D:=.tup [.str a.1,.int a.2]
def sR (v:Vs):D:=.tup [.int v.size,.int v.brim,.tup (v.outs.map outD),.bl v.holds,CW v.spill,.tup (v.acts.map w6)]
def EJ (s:xR):D:=.tup [.int s.1,.int s.2.1,.bl s.2.2]
def eX (n:Net):D:=.tup [.tup (n.vs.map sR),.tup (n.sps.map EJ)]
def uB (held coming:List Int) (doors:List Bool):D:=.tup [.tup (held.map D.int),.tup (coming.map D.int),.tup (doors.map D.bl)]
theorem Is.tg {K:aab}{H:Hp}{t:Option Int}{v:V} (h:Is K H (CW t) v):v=jI t:=by
 cases t with
 | none=>exact h.u0
 | some i=>exact h.ui
theorem Is.tgOf {K:aab}{H:Hp} (t:Option Int):Is K H (CW t) (jI t):=by
 cases t with
 | none=>exact Is.n
 | some i=>exact Is.i i
structure OutOk (n:Nat) (o:Option Int×Int):Prop where
 tg:∀ t,o.1=some t->0<=t/\t < n
 lo:1<=o.2
 hi:o.2<=60
structure ActOk (m:Nat) (a:Str×Int):Prop where
 word:a.1 = "open" \/ a.1 = "shut" \/ a.1 = "turn"
 lo:0<=a.2
 hi:a.2 < m
structure VOk (n m:Nat) (v:Vs):Prop where
 size:1<=v.size
 ne:v.outs≠[]
 o3:v.outs.length<=3
 outs:∀ o∈v.outs,OutOk n o
 spill:∀ t,v.spill=some t->0<=t/\t < n
 a3:v.acts.length<=3
 acts:∀ a∈v.acts,ActOk m a
structure NetOk (net:Net):Prop where
 lo:1<=net.vs.length
 hi:net.vs.length<=12
 sp:net.sps.length<=12
 vs:∀ v∈net.vs,VOk net.vs.length net.sps.length v
 sps:∀ s∈net.sps,0<=s.1/\s.1 < net.vs.length
def whole (outs:List (Option Int×Int)):Int:=(outs.map (·.2)).sum
theorem pP {n:Nat}:∀ {outs:List (Option Int×Int)},outs≠[]->(∀ o∈outs,OutOk n o)->1<=whole outs
 | [],h,_=>absurd rfl h
 | o::r,_,h=>by
  have h1:=(h o abt).lo;have h2:0<=whole r:=by
   clear h1;have:∀ (r:List (Option Int×Int)),(∀ o∈r,OutOk n o)->0<=whole r:=by
    intro r
    induction r with
    | nil=>intro _;exact Int.le_refl _
    | cons o r ih=>
     intro h;have h1:=(h o abt).lo;have h2:=ih λ o ho=>h o (aay _ ho);show 0<=o.2+whole r;omega
   exact this r λ o ho=>h o (aay _ ho)
  show 1<=o.2+whole r;omega
theorem nC {n:Nat}:∀ {outs:List (Option Int×Int)},(∀ o∈outs,OutOk n o)->whole outs<=60 * outs.length
 | [],_=>Int.le_refl _
 | o::r,h=>by
  have h1:=(h o abt).hi;have h2:=nC λ o ho=>h o (aay _ ho);show o.2+whole r<=_;rw[abk];omega
def cQ (k:Option Int):List (Option Int×Int)->Int
 | []=>0
 | g::r=>(if g.1=k then g.2 else 0)+cQ k r
theorem jJ (k:Option Int):∀ (a b:List (Option Int×Int)),cQ k (a++b)=cQ k a+cQ k b
 | [],b=>by simp [cQ]
 | g::r,b=>by
  show (if g.1=k then g.2 else 0)+cQ k (r++b)=(if g.1=k then g.2 else 0)+cQ k r+cQ k b;rw[jJ k r b];omega
def bJ (v:Vs) (has:Int):Int:=min has v.brim
def fB (v:Vs) (has:Int):Bool:=decide (v.size<=bJ v has)
def eE (v:Vs) (here:Int):List (Option Int×Int):=v.outs.map λ o=>(o.1,here / whole v.outs * o.2)
def eO (v:Vs) (has:Int):List (Option Int×Int):=
 (v.spill,has - bJ v has)::(if fB v has=true then eE v (bJ v has)++(if v.holds=true then [] else [(none,bJ v has % whole v.outs)]) else [])
def eN (v:Vs) (has:Int):Int:=if fB v has=true then (if v.holds=true then bJ v has % whole v.outs else 0) else bJ v has
theorem xX {n m:Nat}{v:Vs} (ok:VOk n m v) (has:Int):(eO v has).length<=5:=by
 unfold eO eE;have:=ok.o3
 split
 ·split <;> simp <;> omega
 ·simp
def oT (has:List Int) (s:xR) (d:Bool):List Int:=if d=true then has.set s.1.toNat (has.getD s.1.toNat 0+s.2.1) else has
def dX:List Int->List xR->List Bool->List Int
 | has,s::ss,d::ds=>dX (oT has s d) ss ds
 | has,_,_=>has
def fQ:List Int->List Int->List Int->List Int
 | a::as,b::bs,c::cs=>(a+b+c)::fQ as bs cs
 | _,_,_=>[]
def aM (net:Net) (held coming poured:List Int) (doors:List Bool):List Int:=dX (fQ held coming poured) net.sps doors
def bY:List Vs->List Int->List (Option Int×Int)
 | v::vs,h::hs=>eO v h++bY vs hs
 | _,_=>[]
def d8:List Vs->List Int->List Int
 | v::vs,h::hs=>eN v h::d8 vs hs
 | _,_=>[]
def bA:Nat->List Vs->List Int->List Nat
 | i,v::vs,h::hs=>if fB v h=true then i::bA (i+1) vs hs else bA (i+1) vs hs
 | _,_,_=>[]
def w8 (doors:List Bool) (a:Str×Int):List Bool:=doors.set a.2.toNat (if a.1 = "open" then true else if a.1 = "turn" then !(doors.getD a.2.toNat false) else false)
def dO (doors:List Bool) (as:List (Str×Int)):List Bool:=as.foldl w8 doors
def cA (vs:List Vs) (doors:List Bool) (tip:List Nat):List Bool:=tip.foldl (λ ds i=>match vs[i]? with | some v=>dO ds v.acts | none=>ds) doors
def cU (n:Nat) (goes:List (Option Int×Int)):List Int:=(List.range n).map λ (k:Nat)=>cQ (some (k:Int)) goes
structure Tick where
 held:List Int
 coming:List Int
 doors:List Bool
 tip:List Nat
 ground:Int
def eA (net:Net) (held coming poured:List Int) (doors:List Bool):Tick:=
 let hs:=aM net held coming poured doors
 ⟨d8 net.vs hs,cU net.vs.length (bY net.vs hs),cA net.vs doors (bA 0 net.vs hs),bA 0 net.vs hs,cQ none (bY net.vs hs)⟩
def HQ (t:Tick):D:=.tup [uB t.held t.coming t.doors,.tup (t.tip.map λ (i:Nat)=>D.int (i:Int)),.int t.ground]
def bQ (i:Nat):Stmt:=PySem.Challenge.pw_tipwell_k26_cases_by_what_was_seen.main.body.getD i (.Pass ⟨0,0,0,0⟩)
structure Txt (mg:Str->Option Value):Prop where
 b_len:mg "len" = none
 b_sum:mg "sum" = none
 b_all:mg "all" = none
 b_max:mg "max" = none
 b_min:mg "min" = none
 b_int:mg "int" = none
 b_tuple:mg "tuple" = none
 b_list:mg "list" = none
 b_bool:mg "bool" = none
 b_range:mg "range" = none
 b_zip:mg "zip" = none
 b_enumerate:mg "enumerate" = none
 b_isinstance:mg "isinstance" = none
 b_divmod:mg "divmod" = none
 b_set:mg "set" = none
 b_sorted:mg "sorted" = none
def lA:Option Int->eS
 | none=>.inr none
 | some i=>.inl i
theorem BA (k:Option Int):kV (lA k)=jI k:=by cases k <;> rfl
theorem B9 {a b:Option Int} (h:lA a=lA b):a=b:=by
 cases a <;> cases b <;> simp_all [lA]
def i6 (H:Hp) (d:Addr) (gs:List (Option Int×Int)):Prop:=
 ∃ kvs:List (eS×V),H d=some (.dK kvs)/\kvs.length<=gs.length/\∀ k:Option Int,(eU kvs (lA k)).getD (.int 0)=.int (cQ k gs)
theorem i6.mut {H:Hp}{d:Addr}{gs:List (Option Int×Int)} (h:i6 H d gs):qM (H d):=by
 obtain⟨kvs,e,_⟩:=h;rw[e];exact trivial
def qS:Sp:=λ vs H Q _=>∃ (d:Addr) (t:Option Int) (a:Int) (gs:List (Option Int×Int)),vs=[.ref d,jI t,.int a]/\i6 H d gs/\gs.length<=1000/\
 ∀ H',dS d H H'->i6 H' d (gs++[(t,a)])->Q .non H'
theorem wH:FnScope ["sent","target","amount"] ["sent","target","amount"] (aP (bQ 8)):={}
theorem DP {f:Addr}{fd:FuncData} (F:Fun K "send" "send" (bQ 8) f fd) (T:Txt mg):FnOk P w K mg base i7 1 f fd ["sent","target","amount"] qS:=by
 refine F.ok wH (λ vs H Q E h=>?_) (λ cdv A outer s H vs Q E hr h=>?_)
 ·obtain⟨d,t,a,gs,rfl,_⟩:=h;rfl
 ·obtain⟨d,t,a,gs,rfl,⟨kvs,hd,hl,hv⟩,hg,k⟩:=h;have sc:=wH;have hu:=FC hr;refine⟨_,(aL (DD hu (pv 0) (pv 1) (aT bX (oA hu (pv 0) (pv 1) aE ⟨rfl,rfl,rfl,rfl⟩) (pv 2)) rfl)),?_⟩;have hget:=wB.k (k:=lA t) hd;rw[BA] at hget;have hput:=CS.k (k:=lA t) (v:=V.int (cQ t gs+a)) hd (aO (by omega));rw[BA] at hput;refine⟨_,rfl,d,rfl,.inl ⟨kvs,.inl hd⟩,_,rfl,eU kvs (lA t),hget,_,rfl,_,_,hv t,rfl,_,rfl,_,rfl,d,_,rfl,hput,?_⟩;refine k _ dS.upd ⟨_,aB,?_,λ k'=>?_⟩
  ·have:=iN kvs (lA t) (V.int (cQ t gs+a));rw[aaw];simp;omega
  ·rw[zT,jJ]
   by_cases e:k'=t
   ·subst e;rw[if_pos rfl];show V.int _=V.int _;simp [cQ]
   ·rw[if_neg (λ z=>e (B9 z)),hv k'];have:¬ t=k':=λ z=>e z.symm;simp [cQ,this]
end Tw
namespace L2
open PySem PySem.Spec PyProof.Rows TwZ
section
variable {g:TG}{tc:TT}{te:TE}{fr:List (Option Nat)}{σ:St}{H1:Hp}{Q:Addr->Hp->Prop}
theorem jS {a:Addr}{xs:List V} (Pv:Addr->Nat->List V->St->Hp->Prop) (hq:∀ D i ys σ H,Pv D i ys σ H->bM K H a xs)
  (h0:∀ D,H1 D=none->Pv D 0 [] (tU fr σ) (upd H1 D (.lst []))) (hstop:∀ D ys ad H',Pv D xs.length ys ad H'->Q D H')
  (hgo:∀ D i x ys ad H',xs[i]? = some x->Pv D i ys ad H'->g x ad H' λ aq H3=>tc aq H3 λ b H4=>
    if b=true then te aq H4 λ y H5=>H5 D=some (.lst ys)/\ys.length < sizeLine/\Pv D (i+1) (ys++[y]) aq (upd H5 D (.lst (ys++[y])))
    else Pv D (i+1) ys aq H4):gZ (HL K a) g tc te fr σ H1 Q:=by
 refine oM (n:=xs.length) Pv h0 (λ D ys ad H' p=>⟨⟨xs,hq D _ ys ad H' p,aaj _⟩,hstop D ys ad H' p⟩) λ D i ys ad H' hi p=>⟨⟨xs,xs[i],hq D _ ys ad H' p,by simp [hi]⟩,λ x H2 y=>?_⟩;obtain⟨e,y⟩:=y;subst e;exact hgo D i x ys ad _ (y xs (hq D _ ys ad _ p)) p
theorem kZ {a:Addr}{xs:List V} (Pv:Addr->Nat->List V->St->Hp->Prop) (hq:∀ D i ys σ H,Pv D i ys σ H->bN K H a xs)
  (h0:∀ D,H1 D=none->Pv D 0 [] (tU fr σ) (upd H1 D (.lst []))) (hstop:∀ D ys ad H',Pv D xs.length ys ad H'->Q D H')
  (hgo:∀ D i x ys ad H',xs[i]? = some x->Pv D i ys ad H'->g x ad H' λ aq H3=>tc aq H3 λ b H4=>
    if b=true then te aq H4 λ y H5=>H5 D=some (.lst ys)/\ys.length < sizeLine/\Pv D (i+1) (ys++[y]) aq (upd H5 D (.lst (ys++[y])))
    else Pv D (i+1) ys aq H4):gZ (HM K a) g tc te fr σ H1 Q:=by
 refine oM (n:=xs.length) Pv h0 (λ D ys ad H' p=>⟨⟨xs,hq D _ ys ad H' p,aaj _⟩,hstop D ys ad H' p⟩) λ D i ys ad H' hi p=>⟨⟨xs,xs[i],hq D _ ys ad H' p,by simp [hi]⟩,λ x H2 y=>?_⟩;obtain⟨e,y⟩:=y;subst e;exact hgo D i x ys ad _ (y xs (hq D _ ys ad _ p)) p
theorem fI {n:Nat} (Pv:Addr->Nat->List V->St->Hp->Prop)
  (h0:∀ D,H1 D=none->Pv D 0 [] (tU fr σ) (upd H1 D (.lst []))) (hstop:∀ D ys ad H',Pv D n ys ad H'->Q D H')
  (hgo:∀ D i ys ad H',i < n->Pv D i ys ad H'->g (.int (i:Int)) ad H' λ aq H3=>tc aq H3 λ b H4=>
    if b=true then te aq H4 λ y H5=>H5 D=some (.lst ys)/\ys.length < sizeLine/\Pv D (i+1) (ys++[y]) aq (upd H5 D (.lst (ys++[y])))
    else Pv D (i+1) ys aq H4):gZ (HD 0 n) g tc te fr σ H1 Q:=by
 refine oM (n:=n) Pv h0 (λ D ys ad H' p=>⟨aaj _,hstop D ys ad H' p⟩) λ D i ys ad H' hi p=>⟨hi,λ x H2 y=>?_⟩;obtain⟨e,y⟩:=y;subst e y;rw[Int.zero_add];exact hgo D i ys ad _ hi p
theorem DZ {t1 t2 t3:Bool}{a1 a2 a3:Addr}{xs ys zs:List V}{n:Nat} (h1:xs.length=n) (h2:ys.length=n) (h3:zs.length=n) (Pv:Addr->Nat->List V->St->Hp->Prop)
  (hq:∀ D i r σ H,Pv D i r σ H->i8 K H t1 a1 xs/\i8 K H t2 a2 ys/\i8 K H t3 a3 zs)
  (h0:∀ D,H1 D=none->Pv D 0 [] (tU fr σ) (upd H1 D (.lst []))) (hstop:∀ D r ad H',Pv D n r ad H'->Q D H')
  (hgo:∀ D i x y z r ad H' T,xs[i]? = some x->ys[i]? = some y->zs[i]? = some z->Pv D i r ad H'->H' T=none->g (.ref T) ad (upd H' T (.tup [x,y,z])) λ aq H3=>tc aq H3 λ b H4=>
    if b=true then te aq H4 λ y H5=>H5 D=some (.lst r)/\r.length < sizeLine/\Pv D (i+1) (r++[y]) aq (upd H5 D (.lst (r++[y])))
    else Pv D (i+1) r aq H4):gZ (HC K t1 t2 t3 a1 a2 a3) g tc te fr σ H1 Q:=by
 refine oM (n:=n) Pv h0 (λ D r ad H' p=>?_) λ D i r ad H' hi p=>?_
 ·obtain⟨q1,q2,q3⟩:=hq D _ r ad H' p;exact⟨⟨xs,ys,zs,q1,q2,q3,.inl (by omega)⟩,hstop D r ad H' p⟩
 ·obtain⟨q1,q2,q3⟩:=hq D _ r ad H' p;refine⟨⟨xs,ys,zs,xs[i]'(by omega),ys[i]'(by omega),zs[i]'(by omega),q1,q2,q3,by simp,by simp,by simp⟩,?_⟩;rintro v H2 ⟨T,x,y,z,hT,rfl,e1,e2,e3,rfl⟩;exact hgo D i x y z r ad H' T (e1 xs q1) (e2 ys q2) (e3 zs q3) p hT
end
section
variable {g:TG}{tb:TS}{D:Ends}{σ:St}{H:Hp}
abbrev xS (J:It) (g:TG) (tb:TS) (D:Ends) (σ:St) (H:Hp):Prop:=
 ∃ W:Nat->Nat->St->Hp->Prop,(∃ m,W 0 m σ H)/\∀ i m σ H,W i m σ H->
   (J.stop i H/\D.nx σ H)\/(J.go i H/\∃ N:St->Hp->Prop,(∀ ad H',N ad H'->∃ m',m' < m/\W (i+1) m' ad H')/\∀ x H',J.yld i H x H'->g x σ H' λ bf H2=>tb { D with nx:=N,ct:=N,bk:=D.nx } bf H2)
theorem BU {t1 t2:Bool}{a1 a2:Addr}{xs ys:List V}{n:Nat} (h1:xs.length=n) (h2:ys.length=n) (Pv:Nat->St->Hp->Prop) (hq:∀ i σ H,Pv i σ H->i8 K H t1 a1 xs/\i8 K H t2 a2 ys)
  (h0:Pv 0 σ H) (hstop:∀ σ H,Pv n σ H->D.nx σ H)
  (hgo:∀ i x y σ H T,xs[i]? = some x->ys[i]? = some y->Pv i σ H->H T=none->g (.ref T) σ (upd H T (.tup [x,y])) λ bf H2=>tb { D with nx:=Pv (i+1),ct:=Pv (i+1),bk:=D.nx } bf H2):xS (EC K t1 t2 a1 a2) g tb D σ H:=by
 refine xG (n:=n) Pv h0 (λ σ H p=>?_) λ i σ H hi p=>?_
 ·obtain⟨q1,q2⟩:=hq _ σ H p;exact⟨⟨xs,ys,q1,q2,.inl (by omega)⟩,hstop σ H p⟩
 ·obtain⟨q1,q2⟩:=hq _ σ H p;refine⟨⟨xs,ys,xs[i]'(by omega),ys[i]'(by omega),q1,q2,by simp,by simp⟩,?_⟩;rintro v H2 ⟨T,x,y,hT,rfl,e1,e2,rfl⟩;exact hgo i x y σ H T (e1 xs q1) (e2 ys q2) p hT
theorem BV {t:Bool}{a:Addr}{xs:List V} (Pv:Nat->St->Hp->Prop) (hq:∀ i σ H,Pv i σ H->i8 K H t a xs)
  (h0:Pv 0 σ H) (hstop:∀ σ H,Pv xs.length σ H->D.nx σ H)
  (hgo:∀ i x σ H T,xs[i]? = some x->Pv i σ H->H T=none->g (.ref T) σ (upd H T (.tup [.int (i:Int),x])) λ bf H2=>tb { D with nx:=Pv (i+1),ct:=Pv (i+1),bk:=D.nx } bf H2):xS (Ite K t a) g tb D σ H:=by
 refine xG (n:=xs.length) Pv h0 (λ σ H p=>?_) λ i σ H hi p=>?_
 ·exact⟨⟨xs,hq _ σ H p,aaj _⟩,hstop σ H p⟩
 ·refine⟨⟨xs,xs[i],hq _ σ H p,by simp [hi]⟩,?_⟩;rintro v H2 ⟨T,x,hT,rfl,e1,rfl⟩;exact hgo i x σ H T (e1 xs (hq _ σ H p)) p hT
end
theorem nA {σ:St}{H:Hp}{A B:Hp->Prop} (h:A H):FM σ H λ b H4=>if b=true then A H4 else B H4:=by
 show if true=true then A H else B H
 rw[if_pos rfl];exact h
theorem eC {i:Nat}{v:V}{σ:St}{H:Hp}{A B:St->Hp->Prop} (h:A (σ.set i (some v)) H):dU i v σ H λ aq H3=>FM aq H3 λ b H4=>if b=true then A aq H4 else B aq H4:=nA (σ:=σ.set i (some v)) (A:=A (σ.set i (some v))) (B:=B (σ.set i (some v))) h
theorem aG.put {H H':Hp}{p:Addr}{o:HO} (a:aG H H') (h:H p=none):aG H (upd H' p o):=λ b u e=>by rw[aK (aJ e h)];exact a b u e
theorem bP.put {K:aab}{H H':Hp}{p:Addr}{o:HO} (a:bP K H H') (h:H' p=none\/qM (H' p)):bP K H (upd H' p o):=a.trans (by
 rcases h with h | h
 ·exact (aG.new h).ts
 ·exact dS.ts dS.upd h)
def FG (i j:Int):Prop:=0 < j/\j < 2 ^ 200
theorem AT {X:Cx}:hJ X (binaryOp .FloorDiv) (rI FG λ i j=>.int (i / j)):=IO λ i j _ _ _ _ _ hc q=>by
 have h1:(0:Int) < j:=hc.1;have h2:j < 2 ^ 200:=hc.2;refine floordiv_int (by omega) (by rw[Int.fdiv_eq_ediv_of_nonneg i (by omega)];exact q) (.inl (PyProof.noPylong_of_log2 ?_));have h0:j.natAbs≠0:=by omega
 have h3:j.natAbs < 2 ^ 200:=by omega
 have:=(Nat.log2_lt h0).mpr h3;omega
theorem lX:bootBuiltins "int" = some (.type "int"):=by decide +kernel
theorem cP:bootBuiltins "tuple" = some (.type "tuple"):=by decide +kernel
theorem jC:bootBuiltins "list" = some (.type "list"):=by decide +kernel
theorem xP:bootBuiltins "bool" = some (.type "bool"):=by decide +kernel
section
variable {X:Cx}{tg:Expr}{pos:Pos}
theorem bD {es:List Expr}{k:Nat}{t:CQ}{n:Nat} (hK:X.K=K) (hc:X.calm=true) (h:GZ X es t)
  (hn:(assignEach es X.env).length=n:=by rfl) (hst:(assignEach es X.env).findIdx? (·.1)=none:=by rfl):PG X (.Tuple es k pos) (GQ K n t):=by
 subst hK;exact G5 hc h hn hst
theorem aI (hK:X.K=K):CY X (uY K):=by subst hK;exact GL
def IE (K:aab):List V->Hp->VK->Prop:=λ xs H Q=>∃ p ys,xs=[.ref p]/\(bN K H p ys\/bM K H p ys)/\Q (.int ys.length) H
theorem bE (hK:X.K=K):dY X (.builtin "len") (IE K):=by subst hK;exact sE
theorem eK (hK:X.K=K) (hc:X.calm=true):dY X (.builtin "sum") (HY K):=by subst hK;exact zH hc
theorem jB (hK:X.K=K):dY X (.builtin "isinstance") (II K):=by subst hK;exact CK
def G0 (K:aab):List V->Hp->VK->Prop:=λ xs H Q=>∃ p ys,xs=[.ref p]/\((bN K H p ys/\∀ l,H l=none->Q (.ref l) (upd H l (.tup ys)))\/(bM K H p ys/\Q (.ref p) H))
theorem cD (hK:X.K=K):dY X (.type "tuple") (G0 K):=by subst hK;exact pM
def G1 (K:aab):List V->Hp->VK->Prop:=λ xs H Q=>∃ p ys,xs=[.ref p]/\(bN K H p ys\/bM K H p ys)/\∀ l,H l=none->Q (.ref l) (upd H l (.lst ys))
theorem jA (hK:X.K=K):dY X (.type "list") (G1 K):=by subst hK;exact sD
theorem eP {l:Expr}{tl:TE} (hK:X.K=K) (hl:PE X l tl):PI X tg l (EZ K tl):=by subst hK;exact DI hl
theorem eL {l:Expr}{tl:TE} (hK:X.K=K) (hl:PE X l tl):PI X tg l (IV K tl):=by subst hK;exact G4 hl
theorem AL {a:Expr}{ta:TA}{p:Pos} (hK:X.K=K) (hg:Gl X "enumerate") (hm:X.mg "enumerate" = none) (ha:PA X [a] ta) (hs:starEach [a] X.env=[(false,eval a X.env)]:=by rfl):PI X tg (.Call (.Name "enumerate" p) [a] [] pos) (FA K ta):=by
 subst hK;exact DJ hg hm ha hs
theorem tE {a b:Expr}{ta:TA}{p:Pos} (hK:X.K=K) (hg:Gl X "zip") (hm:X.mg "zip" = none) (ha:PA X [a,b] ta) (hs:starEach [a,b] X.env=[(false,eval a X.env),(false,eval b X.env)]:=by rfl) (hs2:starEach [b] X.env=[(false,eval b X.env)]:=by rfl) :
  PI X tg (.Call (.Name "zip" p) [a,b] [] pos) (EY K ta):=by subst hK;exact DH hg hm ha hs hs2
theorem AK {a b c:Expr}{ta:TA}{p:Pos} (hK:X.K=K) (hg:Gl X "zip") (hm:X.mg "zip" = none) (ha:PA X [a,b,c] ta) (hs:starEach [a,b,c] X.env=[(false,eval a X.env),(false,eval b X.env),(false,eval c X.env)]:=by rfl)
  (hs2:starEach [b,c] X.env=[(false,eval b X.env),(false,eval c X.env)]:=by rfl):PI X tg (.Call (.Name "zip" p) [a,b,c] [] pos) (EW K ta):=by subst hK;exact DG hg hm ha hs hs2
theorem oB (hK:X.K=K):hJ X (binaryOp .Mult) (EM K):=by subst hK;exact wM
theorem vF (hK:X.K=K) (hu:X.A.units+64 < cLine):hJ X (compareOp .NotEq) (wI K):=by subst hK;exact yF hu
theorem yU (hK:X.K=K):HA X (EO K):=by subst hK;exact BR
theorem dR {o e:Expr}{es:List Expr}{to:TE}{t:TA}{name:Str}{apos cpos:Pos}{T id:String}{r:V->List V->Hp->VK->Prop} (hK:X.K=K)
  (pa:PlainAttrs T) (slot:Slot T name id) (hty:typeOf (.builtin id)=pure (.type "method_descriptor")) (hm:MtR X id r) (ho:PE X o to) (ha:PA X (e::es) t)
  (hbase:attributeBase o name X.env (eval o X.env)=eval o X.env:=by rfl)
  (hfew:((backTo cpos (starEach (e::es) X.env)).all (λ x=>!x.1) && (backToKw cpos (keywordEach [] X.env)).all (λ x=>x.1.isSome)
   && decide ((e::es).length+([]:List Keyword).length+(if ([]:List Keyword).isEmpty then 0 else 1) < 30))=true:=by rfl)
  (hline:(apos.endLine == cpos.line)=true:=by rfl) (hs:starEach (e::es) X.env=(false,eval e X.env)::starEach es X.env:=by rfl) (hplain:(backTo cpos (starEach es X.env)).any (·.1)=false:=by rfl) :
  PE X (.Call (.Attribute o name apos) (e::es) [] cpos) (tBM K T r to t):=by subst hK;exact IL pa slot hty hm ho ha hbase hfew hline hs hplain
end
end L2
namespace Tw
open PySem L2
theorem aV {az:Type}{xs:List az}{i:Nat}{x:az} (h:xs[i]? = some x):xs.take (i+1)=xs.take i++[x]:=by
 rw[List.take_succ,h];rfl
theorem j4 {H:Hp}{outs:List (Option Int×Int)}{xs:List V}{i:Nat}{x:V} (l:IsL K H (outs.map outD) xs) (h:xs[i]? = some x) :
  ∃ o,outs[i]? = some o/\∃ a,x=.ref a/\bM K H a [jI o.1,.int o.2]:=by
 obtain⟨d,hd,hx⟩:=l.get' h;rw[aaf] at hd;cases e:outs[i]? with
 | none=>rw[e] at hd;cases hd
 | some o=>
  rw[e] at hd;cases hd;refine⟨o,rfl,?_⟩;obtain⟨a,ys,rfl,q,l⟩:=(show Is K H (.tup [CW o.1,.int o.2]) x from hx).un;obtain⟨y,r,rfl,hy,l⟩:=l.un;obtain⟨z,r,rfl,hz,l⟩:=l.un;have:=l.un0;subst this;rw[Is.tg hy,hz.ui] at q;exact⟨a,rfl,q⟩
def qR (K:aab):Sp:=λ vs H Q _=>∃ (o d:Addr) (has:Int) (outs gs:List (Option Int×Int)) (n:Nat),vs=[.ref o,.int has,.ref d]/\Is K H (.tup (outs.map outD)) (.ref o)/\i6 H d gs/\gs.length+3<=1000/\
 outs≠[]/\outs.length<=3/\(∀ x∈outs,OutOk n x)/\∀ H',dS d H H'->i6 H' d (gs++outs.map λ x=>(x.1,has / whole outs * x.2))->Q (.int (has % whole outs)) H'
theorem kJ:FnScope ["outs","has","sent","whole","times","target","parts"] ["outs","has","sent"] (aP (bQ 7)):={}
theorem rC {f fS:Addr}{fd fdS:FuncData} (F:Fun K "share_out" "share_out" (bQ 7) f fd) (T:Txt mg) (G_send:Callee P w K mg base "send" ["sent","target","amount"] 1 qS fS fdS):FnOk P w K mg base i7 2 f fd ["outs","has","sent"] (qR K):=by
 refine F.ok kJ (λ vs H Q E h=>?_) (λ cdv A outer s H vs Q E hr h=>?_)
 ·obtain⟨o,d,has,outs,gs,n,rfl,_⟩:=h;rfl
 ·obtain⟨o,d,has,outs,gs,n,rfl,ho,hd,hg,hne,h3,hok,k⟩:=h;have sc:=kJ;refine⟨_,(aD (aR (i:=3) sc.nd rfl (Or.inl rfl) (aN (eK (K:=K) rfl rfl) rfl T.b_sum PyProof.Rows.boot_sum (aA (fU (λ _ _ h=>h) rfl (LcOk.mk (N':=["target","parts"]) (fr:=[none,none]) rfl trivial rfl rfl rfl rfl rfl trivial) (eL (K:=K) rfl (pv 0)) (λ _ _ _=>(bD (K:=K) (n:=2) rfl rfl (aH (aF (i:=0) (show (["target","parts"]:List Str).Nodup by decide +kernel) rfl (Or.inl rfl) (Or.inr rfl)) (aH (aF (i:=1) (show (["target","parts"]:List Str).Nodup by decide +kernel) rfl (Or.inl rfl) (Or.inr rfl)) bB)))) (λ _ _ _=>dG) (λ _ _ _=>(pv 1))) aC)))
   (aD (aR (i:=4) sc.nd rfl (Or.inl rfl) (aT fW (pv 1) (aN (qG rfl) rfl T.b_max PyProof.Rows.boot_max (aA aE (aA (pv 3) aC)))))
   (aD (dP PassesOwn.never rfl (eL (K:=K) rfl (pv 0)) (bD (K:=K) (n:=2) rfl rfl (aH (aF (i:=5) sc.nd rfl (Or.inl rfl)) (aH (aF (i:=6) sc.nd rfl (Or.inl rfl)) bB))) (aL (d0 (dF G_send hr (aA (pv 2) (aA (pv 5) (aA (aT iL (pv 6) (pv 4)) aC)))))))
   (aL (bF (aT gX (pv 1) (aT iL (pv 3) (pv 4)))))))),?_⟩
  have hw1:=pP hne hok;have hw2:=nC hok;obtain⟨o',xs,e,hq,hl⟩:=ho.un;cases e;have hxl:xs.length=outs.length:=by rw[hl.length,aad]
  refine⟨_,rfl,o,rfl,⟨_,hq⟩,jS (K:=K) (a:=o) (xs:=xs) (λ D i ys ad H'=>H D=none/\aG H H'/\H' D=some (.lst ys)/\ys=(outs.take i).map (λ x=>V.int x.2)/\∃ x y,ad=[x,y])
   (λ D i ys ad H' p=>p.2.1.tup hq) (λ D hD=>⟨hD,aG.new hD,aB,by simp,none,none,rfl⟩) ?_ ?_⟩
  rotate_left
  ·rintro D i x ys ad H' hx ⟨hD,sm,hDl,rfl,v1,v2,rfl⟩;obtain⟨ot,hot,a,rfl,qa⟩:=j4 hl hx;have hil:=(aai.mp hot).1;refine⟨a,_,rfl,sm.tup qa,rfl,_,_,rfl,_,_,rfl,rfl,?_⟩;refine nA ⟨_,rfl,hDl,aO (by simp;omega),hD,sm.put hD,aB,?_,_,_,rfl⟩;rw[aV hot];simp
  ·rintro D ys ad H1 ⟨hD,sm,hDl,rfl,_⟩;rw[hxl,aas] at hDl;refine⟨false,D,outs.map (·.2),rfl,bN.of (by rw[acd];exact hDl),?_⟩;refine⟨_,rfl,_,rfl,_,_,rfl,_,_,rfl,rfl,?_,?_⟩
   ·show 0 < (if whole outs > 1 then whole outs else 1)/\(if whole outs > 1 then whole outs else 1) < 1073741824
    split <;> omega
   have hm:(if whole outs > 1 then whole outs else 1)=whole outs:=by split <;> omega
   show iA _ _ _ [some (V.ref o),some (V.int has),some (V.ref d),some (V.int (whole outs)),some (V.int (has / (if whole outs > 1 then whole outs else 1))),none,none] _;rw[hm];have hd1:i6 H1 d gs:=by obtain⟨kvs,e,r⟩:=hd;exact⟨kvs,sm _ _ e,r⟩
   have tsH:bP K H H1:=sm.ts;refine⟨_,rfl,o,rfl,⟨_,sm.tup hq⟩,rQ (K:=K) (a:=o) (xs:=xs) (λ i ad H'=>dS d H1 H'/\i6 H' d (gs++(outs.take i).map λ x=>(x.1,has / whole outs * x.2))/\
    ∃ x y,ad=[some (V.ref o),some (V.int has),some (V.ref d),some (V.int (whole outs)),some (V.int (has / whole outs)),x,y]) ⟨dS.refl _,by simpa using hd1,none,none,rfl⟩
    (λ i ad H' _ p=>(p.1.ts hd1.mut) _ _ (sm.tup hq)) ?_ ?_⟩
   ·rintro i x ad H2 hx ⟨bt,dg,v1,v2,rfl⟩;obtain⟨ot,hot,a,rfl,qa⟩:=j4 hl hx;have hil:=(aai.mp hot).1;have hom:=hok ot (abl hot);refine⟨a,_,rfl,(bt.ts hd1.mut) _ _ (sm.tup qa),rfl,_,_,rfl,_,_,rfl,rfl,?_⟩;refine⟨_,rfl,_,rfl,_,rfl,_,rfl,_,_,rfl,rfl,.inl ⟨by have:=hom.lo;omega,by have:=hom.hi;omega⟩,d,ot.1,ot.2 * (has / whole outs),_,rfl,dg,by simp;omega,λ H' bt' dg'=>?_⟩;refine⟨bt.trans bt',?_,_,_,rfl⟩;rw[aV hot,aam,<- abw];rw[Int.mul_comm] at dg';exact dg'
   ·rintro ad H2 ⟨bt,dg,v1,v2,rfl⟩;rw[hxl,aas] at dg;refine⟨_,rfl,_,rfl,_,rfl,_,_,rfl,rfl,.inl ⟨by omega,by omega⟩,_,_,rfl,rfl,?_⟩;have e:has - whole outs * (has / whole outs)=has % whole outs:=by
     have:=Int.emod_add_mul_ediv has (whole outs);omega
    show Q (V.int (has - whole outs * (has / whole outs))) H2;rw[e];exact k H2 (sm.but.trans bt) dg
theorem sQ {H:Hp}{v:Vs}{x:V} (h:Is K H (sR v) x):∃ (a:Addr) (o c:V),x=.ref a/\bM K H a [.int v.size,.int v.brim,o,.bl v.holds,jI v.spill,c]/\Is K H (.tup (v.outs.map outD)) o/\Is K H (.tup (v.acts.map w6)) c:=by
 obtain⟨a,xs,rfl,q,l⟩:=(show Is K H (.tup [.int v.size,.int v.brim,.tup (v.outs.map outD),.bl v.holds,CW v.spill,.tup (v.acts.map w6)]) x from h).un;obtain⟨x1,r,rfl,h1,l⟩:=l.un;obtain⟨x2,r,rfl,h2,l⟩:=l.un;obtain⟨x3,r,rfl,h3,l⟩:=l.un;obtain⟨x4,r,rfl,h4,l⟩:=l.un;obtain⟨x5,r,rfl,h5,l⟩:=l.un;obtain⟨x6,r,rfl,h6,l⟩:=l.un;have:=l.un0;subst this;rw[h1.ui,h2.ui,h4.ub,Is.tg h5] at q;exact⟨a,x3,x6,rfl,q,h3,h6⟩
def nW (K:aab):Sp:=λ vs H Q _=>∃ (x:V) (d:Addr) (has:Int) (v:Vs) (gs:List (Option Int×Int)) (n m:Nat),vs=[x,.int has,.ref d]/\Is K H (sR v) x/\i6 H d gs/\gs.length+5<=1000/\VOk n m v/\
 ∀ p H',dS d H H'->i6 H' d (gs++eO v has)->bM K H' p [.int (eN v has),.bl (fB v has)]->Q (.ref p) H'
theorem pU:FnScope ["vessel","has","sent","size","brim","outs","holds","spill","acts","over","left"] ["vessel","has","sent"] (aP (bQ 6)):={}
theorem yH {f fS fO:Addr}{fd fdS fdO:FuncData} (F:Fun K "settle" "settle" (bQ 6) f fd) (T:Txt mg) (G_send:Callee P w K mg base "send" ["sent","target","amount"] 1 qS fS fdS)
  (G_share_out:Callee P w K mg base "share_out" ["outs","has","sent"] 2 (qR K) fO fdO):FnOk P w K mg base i7 3 f fd ["vessel","has","sent"] (nW K):=by
 refine F.ok pU (λ vs H Q E h=>?_) (λ cdv A outer s H vs Q E hr h=>?_)
 ·obtain⟨x,d,has,v,gs,n,m,rfl,_⟩:=h;rfl
 ·obtain⟨x,d,has,v,gs,n,m,rfl,hx,hd,hg,ok,k⟩:=h;have sc:=pU;refine⟨_,(aD (cF (pv 0) (bD (K:=K) (n:=6) rfl rfl (aH (aF (i:=3) sc.nd rfl (Or.inl rfl)) (aH (aF (i:=4) sc.nd rfl (Or.inl rfl)) (aH (aF (i:=5) sc.nd rfl (Or.inl rfl)) (aH (aF (i:=6) sc.nd rfl (Or.inl rfl)) (aH (aF (i:=7) sc.nd rfl (Or.inl rfl)) (aH (aF (i:=8) sc.nd rfl (Or.inl rfl)) bB))))))))
   (aD (aR (i:=9) sc.nd rfl (Or.inl rfl) (aN (qG rfl) rfl T.b_max PyProof.Rows.boot_max (aA aE (aA (aT gX (pv 1) (pv 4)) aC))))
   (aD (d0 (dF G_send hr (aA (pv 2) (aA (pv 7) (aA (pv 9) aC)))))
   (aD (AI (i:=1) sc.nd rfl (Or.inl rfl) (pv 9) GN)
   (aD (dL (bL tG (pv 1) (pv 3) (bR _)) (aL (bF (bO (aA (pv 1) (aA i4 aC))))) bV)
   (aD (aR (i:=10) sc.nd rfl (Or.inl rfl) (dF G_share_out hr (aA (pv 5) (aA (pv 1) (aA (pv 2) aC)))))
   (aD (dL (gT (pv 6)) (aL (bF (bO (aA (pv 10) (aA i4 aC))))) bV)
   (aD (d0 (dF G_send hr (aA (pv 2) (aA eF (aA (pv 10) aC)))))
   (aL (bF (bO (aA aE (aA i4 aC))))))))))))),?_⟩
  obtain⟨a,o,c,rfl,q,ho,hc⟩:=sQ hx;refine⟨_,rfl,a,_,rfl,q,rfl,_,_,rfl,_,_,rfl,_,_,rfl,_,_,rfl,_,_,rfl,_,_,rfl,rfl,?_⟩;refine⟨_,rfl,_,rfl,_,_,rfl,rfl,_,_,rfl,?_⟩;have eo:(if has - v.brim > 0 then has - v.brim else 0)=has - bJ v has:=by unfold bJ;split <;> omega
  show iA _ _ _ [some (V.ref a),some (V.int has),some (V.ref d),some (V.int v.size),some (V.int v.brim),some o,some (V.bl v.holds),some (jI v.spill),some c,some (V.int (if has - v.brim > 0 then has - v.brim else 0)),none] _;rw[eo];refine⟨_,rfl,_,rfl,_,rfl,d,v.spill,has - bJ v has,gs,rfl,hd,by omega,λ H1 b1 d1=>?_⟩;have ts1:bP K H H1:=b1.ts hd.mut;refine⟨_,rfl,_,rfl,_,_,rfl,rfl,?_⟩;have eh:has - (has - bJ v has)=bJ v has:=by omega
  show iA _ _ _ [some (V.ref a),some (V.int (has - (has - bJ v has))),some (V.ref d),some (V.int v.size),some (V.int v.brim),some o,some (V.bl v.holds),some (jI v.spill),some c,some (V.int (has - bJ v has)),none] _;rw[eh];refine⟨_,rfl,_,rfl,_,_,rfl,rfl,_,rfl,?_⟩;refine fJ (λ hlt=>?_) (λ hge=>?_)
  ·have hlt':bJ v has < v.size:=abn hlt;have ht:fB v has=false:=abo (by omega);refine⟨_,rfl,(show 2<=sizeLine by decide),λ p hp=>?_⟩;refine k p _ (b1.trans (aG.new hp).but) ?_ ?_
   ·have:eO v has=[(v.spill,has - bJ v has)]:=by unfold eO;rw[ht];rfl
    rw[this];obtain⟨kvs,e,r⟩:=d1;exact⟨kvs,aG.new hp _ _ e,r⟩
   ·have:eN v has=bJ v has:=by unfold eN;rw[ht];rfl
    rw[this,ht];exact bM.of aB
  ·have hge':v.size<=bJ v has:=by simpa using hge
   have ht:fB v has=true:=abq hge';obtain⟨oa,os,rfl,_,_⟩:=ho.un;refine⟨_,rfl,_,rfl,_,rfl,oa,d,bJ v has,v.outs,_,n,rfl,Is.mono ts1 _ _ ho,d1,by simp;omega,ok.ne,ok.o3,ok.outs,λ H2 b2 d2=>?_⟩;refine⟨_,rfl,_,rfl,?_⟩;cases hh:v.holds with
   | true=>
    refine lB ?_;refine⟨_,rfl,(show 2<=sizeLine by decide),λ p hp=>?_⟩;refine k p _ (b1.trans (b2.trans (aG.new hp).but)) ?_ ?_
    ·have:gs++eO v has=(gs++[(v.spill,has - bJ v has)])++v.outs.map λ x=>(x.1,bJ v has / whole v.outs * x.2):=by
      unfold eO eE;rw[ht,hh];simp
     rw[this];obtain⟨kvs,e,r⟩:=d2;exact⟨kvs,aG.new hp _ _ e,r⟩
    ·have:eN v has=bJ v has % whole v.outs:=by unfold eN;rw[ht,hh];rfl
     rw[this,ht];exact bM.of aB
   | false=>
    refine g6 ?_;refine⟨_,rfl,_,rfl,d,none,bJ v has % whole v.outs,_,rfl,d2,by simp;have:=ok.o3;omega,λ H3 b3 d3=>?_⟩;refine⟨(show 2<=sizeLine by decide),λ p hp=>?_⟩;refine k p _ (b1.trans (b2.trans (b3.trans (aG.new hp).but))) ?_ ?_
    ·have:gs++eO v has=((gs++[(v.spill,has - bJ v has)])++v.outs.map λ x=>(x.1,bJ v has / whole v.outs * x.2))++[(none,bJ v has % whole v.outs)]:=by
      unfold eO eE;rw[ht,hh];simp
     rw[this];obtain⟨kvs,e,r⟩:=d3;exact⟨kvs,aG.new hp _ _ e,r⟩
    ·have:eN v has=0:=by unfold eN;rw[ht,hh];rfl
     rw[this,ht];exact bM.of aB
theorem xQ {H:Hp}{acts:List (Str×Int)}{xs:List V}{i:Nat}{x:V} (l:IsL K H (acts.map w6) xs) (h:xs[i]? = some x) :
  ∃ o,acts[i]? = some o/\∃ a,x=.ref a/\bM K H a [.str o.1,.int o.2]:=by
 obtain⟨d,hd,hx⟩:=l.get' h;rw[aaf] at hd;cases e:acts[i]? with
 | none=>rw[e] at hd;cases hd
 | some o=>
  rw[e] at hd;cases hd;refine⟨o,rfl,?_⟩;obtain⟨a,ys,rfl,q,l⟩:=(show Is K H (.tup [.str o.1,.int o.2]) x from hx).un;obtain⟨y,r,rfl,hy,l⟩:=l.un;obtain⟨z,r,rfl,hz,l⟩:=l.un;have:=l.un0;subst this;rw[hy.us,hz.ui] at q;exact⟨a,rfl,q⟩
theorem CO (ds:List Bool) (a:Str×Int):(w8 ds a).length=ds.length:=by unfold w8;simp
theorem jE:∀ (as:List (Str×Int)) (ds:List Bool),(dO ds as).length=ds.length
 | [],ds=>rfl
 | a::as,ds=>by
  show (dO (w8 ds a) as).length=_;rw[jE as,CO]
theorem fK (vs:List Vs):∀ (tip:List Nat) (ds:List Bool),(cA vs ds tip).length=ds.length
 | [],ds=>rfl
 | i::r,ds=>by
  show (cA vs (match vs[i]? with | some v=>dO ds v.acts | none=>ds) r).length=_;rw[fK vs r];cases vs[i]? with
  | none=>rfl
  | some v=>exact jE _ _
theorem pA (ds:List Bool) (as:List (Str×Int)) (a:Str×Int):dO ds (as++[a])=w8 (dO ds as) a:=by
 unfold dO;rw[List.foldl_append];rfl
theorem mF (vs:List Vs) (ds:List Bool) (tip:List Nat) (i:Nat) (v:Vs) (h:vs[i]? = some v):cA vs ds (tip++[i])=dO (cA vs ds tip) v.acts:=by
 unfold cA;rw[List.foldl_append];show (match vs[i]? with | some v=>_ | none=>_)=_;rw[h]
def qV (K:aab):Sp:=λ args H Q _=>∃ (x y:V) (t:Addr) (vs:List Vs) (doors:List Bool) (tip:List Nat) (n:Nat),args=[x,y,.ref t]/\Is K H (.tup (vs.map sR)) x/\Is K H (.tup (doors.map D.bl)) y/\
 bN K H t (tip.map λ (i:Nat)=>V.int (i:Int))/\(∀ i∈tip,i < vs.length)/\(∀ v∈vs,VOk n doors.length v)/\doors.length<=12/\
 ∀ p H',aG H H'->Is K H' (.tup ((cA vs doors tip).map D.bl)) p->Q p H'
theorem hW:FnScope ["vessels","doors","tipped","behind","number","size","brim","outs","holds","spill","acts","word","spout"] ["vessels","doors","tipped"] (aP (bQ 9)):={}
theorem mK {f:Addr}{fd:FuncData} (F:Fun K "doors_behind" "doors_behind" (bQ 9) f fd) (T:Txt mg):FnOk P w K mg base i7 1 f fd ["vessels","doors","tipped"] (qV K):=by
 refine F.ok hW (λ vs H Q E h=>?_) (λ cdv A outer s H vs Q E hr h=>?_)
 ·obtain⟨x,y,t,vs,doors,tip,n,rfl,_⟩:=h;rfl
 ·obtain⟨x,y,t,vs,doors,tip,n,rfl,hx,hy,ht,htip,hok,hm,k⟩:=h;have sc:=hW;refine⟨_,(aD (aR (i:=3) sc.nd rfl (Or.inl rfl) (aZ (jA (K:=K) rfl) rfl T.b_list jC (aA (pv 1) aC)))
   (aD (dP PassesOwn.never rfl (eP (K:=K) rfl (pv 2)) (aF (i:=4) sc.nd rfl (Or.inl rfl)) (aD (cF (aS (aI (K:=K) rfl) (pv 0) (pv 4) (λ _ _=>rfl)) (bD (K:=K) (n:=6) rfl rfl (aH (aF (i:=5) sc.nd rfl (Or.inl rfl)) (aH (aF (i:=6) sc.nd rfl (Or.inl rfl)) (aH (aF (i:=7) sc.nd rfl (Or.inl rfl)) (aH (aF (i:=8) sc.nd rfl (Or.inl rfl)) (aH (aF (i:=9) sc.nd rfl (Or.inl rfl)) (aH (aF (i:=10) sc.nd rfl (Or.inl rfl)) bB))))))))
   (aL (dP PassesOwn.never rfl (eL (K:=K) rfl (pv 10)) (bD (K:=K) (n:=2) rfl rfl (aH (aF (i:=11) sc.nd rfl (Or.inl rfl)) (aH (aF (i:=12) sc.nd rfl (Or.inl rfl)) bB))) (aL (cF (IK (kR iM (pv 11) dA (bR _)) (vD (vE (kR iM (pv 11) dA (bR _)) (vD (r8 (aS (aI (K:=K) rfl) (pv 3) (pv 12) (λ _ _=>rfl))))))) (lQ (pv 3) (pv 12) fG)))))))
   (aL (bF (aZ (cD (K:=K) rfl) rfl T.b_tuple cP (aA (pv 3) aC)))))),?_⟩
  obtain⟨ax,xs,rfl,qx,lx⟩:=hx.un;obtain⟨ay,ys,rfl,qy,ly⟩:=hy.un;have ey:=ly.bools;subst ey;have exl:xs.length=vs.length:=by rw[lx.length,aad]
  refine⟨_,rfl,ay,_,rfl,.inr qy,λ b hb=>?_⟩;have nb:∀ {c:Addr}{o:HO},H c=some o->c≠b:=λ e=>aJ e hb;refine⟨_,rfl,t,rfl,⟨_,(aG.new hb).seq ht⟩,oS (K:=K) (a:=t) (xs:=tip.map λ (i:Nat)=>V.int (i:Int))
   (λ i ad H'=>aG H H'/\H' b=some (.lst ((cA vs doors (tip.take i)).map V.bl))/\∃ v4 v5 v6 v7 v8 v9 v10 v11 v12,ad=[some (.ref ax),some (.ref ay),some (.ref t),some (.ref b),v4,v5,v6,v7,v8,v9,v10,v11,v12])
   ⟨aG.new hb,aB,none,none,none,none,none,none,none,none,none,rfl⟩ (λ i ad H' _ p=>p.1.seq ht) ?_ ?_⟩
  ·rintro i x ad H1 hi ⟨sm,hbl,v4,v5,v6,v7,v8,v9,v10,v11,v12,rfl⟩;rw[aaf] at hi;obtain⟨j,hj,rfl⟩:=aau.mp hi;have hjv:=htip j (abl hj);have hv:vs[j]? = some vs[j]:=by simp [hjv]
   have hvok:=hok vs[j] (ach hjv);obtain⟨xv,hxv,ixv⟩:=lx.get (i:=j) (d:=sR vs[j]) (by rw[aaf,hv];rfl);obtain⟨va,o,c,rfl,qv,ho,hc⟩:=sQ ixv;refine⟨_,rfl,_,rfl,.inr (.inl ⟨ax,xs,j,_,rfl,rfl,sm.tup qx,bW hxv,va,_,rfl,sm.tup qv,rfl,_,_,rfl,_,_,rfl,_,_,rfl,_,_,rfl,_,_,rfl,_,_,rfl,rfl,?_⟩)⟩;obtain⟨ca,cs,rfl,qc,lc⟩:=hc.un;have ecs:cs.length=vs[j].acts.length:=by rw[lc.length,aad]
   refine⟨_,rfl,ca,rfl,⟨_,sm.tup qc⟩,rQ (K:=K) (a:=ca) (xs:=cs)
    (λ l ad H'=>aG H H'/\H' b=some (.lst ((dO (cA vs doors (tip.take i)) (vs[j].acts.take l)).map V.bl))/\
     ∃ u11 u12,ad=[some (.ref ax),some (.ref ay),some (.ref t),some (.ref b),some (.int (j:Int)),some (.int vs[j].size),some (.int vs[j].brim),some o,some (.bl vs[j].holds),some (jI vs[j].spill),some (.ref ca),u11,u12])
    ⟨sm,hbl,v11,v12,rfl⟩ (λ l ad H' _ p=>p.1.tup qc) ?_ ?_⟩
   ·rintro l x ad H2 hl ⟨sm2,hb2,u11,u12,rfl⟩;obtain⟨at',hat,aa,rfl,qa⟩:=xQ lc hl;have aok:=hvok.acts at' (abl hat);refine⟨aa,_,rfl,sm2.tup qa,rfl,_,_,rfl,_,_,rfl,rfl,?_⟩;have hdl:(dO (cA vs doors (tip.take i)) (vs[j].acts.take l)).length=doors.length:=by rw[jE,fK]
    have hsp:at'.2.toNat < (dO (cA vs doors (tip.take i)) (vs[j].acts.take l)).length:=by rw[hdl];have:=aok.lo;have:=aok.hi;omega
    have fin:∀ c:Bool,c=(if at'.1 = "open" then true else if at'.1 = "turn" then !((dO (cA vs doors (tip.take i)) (vs[j].acts.take l)).getD at'.2.toNat false) else false)->
      aG H (upd H2 b (.lst (((dO (cA vs doors (tip.take i)) (vs[j].acts.take l)).map V.bl).set at'.2.toNat (.bl c))))/\
      upd H2 b (.lst (((dO (cA vs doors (tip.take i)) (vs[j].acts.take l)).map V.bl).set at'.2.toNat (.bl c))) b=some (.lst ((dO (cA vs doors (tip.take i)) (vs[j].acts.take (l+1))).map V.bl)):=λ c hc=>by
     refine⟨sm2.put hb,?_⟩;rw[aB,aV hat,pA,w8,<- hc,List.map_set]
    have set:∀ c:Bool,c=(if at'.1 = "open" then true else if at'.1 = "turn" then !((dO (cA vs doors (tip.take i)) (vs[j].acts.take l)).getD at'.2.toNat false) else false)->
      BS (cZ 3) (cZ 12) tD (.bl c) [some (.ref ax),some (.ref ay),some (.ref t),some (.ref b),some (.int (j:Int)),some (.int vs[j].size),some (.int vs[j].brim),some o,some (.bl vs[j].holds),some (jI vs[j].spill),some (.ref ca),some (.str at'.1),some (.int at'.2)] H2
       λ ad H'=>aG H H'/\H' b=some (.lst ((dO (cA vs doors (tip.take i)) (vs[j].acts.take (l+1))).map V.bl))/\
        ∃ u11 u12,ad=[some (.ref ax),some (.ref ay),some (.ref t),some (.ref b),some (.int (j:Int)),some (.int vs[j].size),some (.int vs[j].brim),some o,some (.bl vs[j].holds),some (jI vs[j].spill),some (.ref ca),u11,u12]:=λ c hc=>by
     obtain⟨f1,f2⟩:=fin c hc;refine⟨_,rfl,_,rfl,b,_,at'.2,at'.2.toNat,rfl,rfl,hb2,mX aok.lo (by rw[aad];omega),f1,f2,_,_,rfl⟩
    refine⟨_,rfl,rfl,_,rfl,?_⟩;refine fJ (λ h1=>?_) (λ h1=>?_)
    ·have e1:at'.1 = "open" := by have:=abn h1;injection this
     exact set true (by rw[if_pos e1])
    ·have e1:¬ at'.1 = "open" := λ z=>h1 (abq (by rw[z]));refine⟨_,rfl,rfl,_,rfl,?_⟩;refine fJ (λ h2=>?_) (λ h2=>?_)
     ·have e2:at'.1 = "turn" := by have:=abn h2;injection this
      have hg:((dO (cA vs doors (tip.take i)) (vs[j].acts.take l)).map V.bl)[at'.2.toNat]? = some (.bl ((dO (cA vs doors (tip.take i)) (vs[j].acts.take l)).getD at'.2.toNat false)):=by
       rw[aaf,acn];simp [hsp]
      refine⟨_,rfl,_,rfl,.inl ⟨b,_,at'.2,_,rfl,rfl,bN.of hb2,n6 aok.lo hg,_,rfl,?_⟩⟩;exact set _ (by rw[if_neg e1,if_pos e2])
     ·have e2:¬ at'.1 = "turn" := λ z=>h2 (abq (by rw[z]));exact set false (by rw[if_neg e1,if_neg e2])
   ·rintro ad H2 ⟨sm2,hb2,u11,u12,rfl⟩;rw[ecs,aas] at hb2;refine⟨sm2,?_,_,_,_,_,_,_,_,_,_,rfl⟩;rw[aV hj,mF vs doors _ j vs[j] hv];exact hb2
  ·rintro ad H1 ⟨sm,hbl,v4,v5,v6,v7,v8,v9,v10,v11,v12,rfl⟩;rw[aad,aas] at hbl;refine⟨_,rfl,b,_,rfl,.inl ⟨bN.of hbl,λ l hl=>?_⟩⟩;exact k _ _ (sm.trans (aG.new hl)) (Is.tupOf (bM.of aB) (IsL.of_bools _))
theorem fN:∀ {a b c:List Int}{n:Nat},a.length=n->b.length=n->c.length=n->(fQ a b c).length=n
 | [],b,c,n,h,_,_=>by simp at h;subst h;rfl
 | x::a,[],c,n,h1,h2,_=>by simp at h1 h2;omega
 | x::a,y::b,[],n,h1,_,h3=>by simp at h1 h3;omega
 | x::a,y::b,z::c,n,h1,h2,h3=>by
  simp at h1 h2 h3;show (fQ a b c).length+1=n;rw[fN (n:=n - 1) (by omega) (by omega) (by omega)];omega
theorem p9:∀ {a b c:List Int}{i:Nat}{x y z:Int},a[i]? = some x->b[i]? = some y->c[i]? = some z->(fQ a b c)[i]? = some (x+y+z)
 | [],_,_,i,_,_,_,h,_,_=>by simp at h
 | _::_,[],_,i,_,_,_,_,h,_=>by simp at h
 | _::_,_::_,[],i,_,_,_,_,_,h=>by simp at h
 | a::as,b::bs,c::cs,0,x,y,z,h1,h2,h3=>by simp at h1 h2 h3;subst h1 h2 h3;rfl
 | a::as,b::bs,c::cs,i+1,x,y,z,h1,h2,h3=>by
  show (fQ as bs cs)[i]? = _;exact p9 (by simpa using h1) (by simpa using h2) (by simpa using h3)
theorem yW (has:List Int) (s:xR) (d:Bool):(oT has s d).length=has.length:=by unfold oT;split <;> simp
theorem eI:∀ (ss:List xR) (ds:List Bool) (has:List Int),(dX has ss ds).length=has.length
 | [],ds,has=>by cases ds <;> rfl
 | s::ss,[],has=>rfl
 | s::ss,d::ds,has=>by show (dX (oT has s d) ss ds).length=_;rw[eI ss ds,yW]
theorem jU:∀ (ss:List xR) (ds:List Bool) (i:Nat) (has:List Int) (s:xR) (d:Bool),ss[i]? = some s->ds[i]? = some d->dX has (ss.take (i+1)) (ds.take (i+1))=oT (dX has (ss.take i) (ds.take i)) s d
 | [],_,i,_,_,_,h,_=>by simp at h
 | _::_,[],i,_,_,_,_,h=>by simp at h
 | a::ss,b::ds,0,has,s,d,h1,h2=>by simp at h1 h2;subst h1 h2;simp [dX]
 | a::ss,b::ds,i+1,has,s,d,h1,h2=>by
  simp only [List.take_succ_cons,dX];exact jU ss ds i _ s d (by simpa using h1) (by simpa using h2)
theorem jT:∀ (vs:List Vs) (hs:List Int) (i:Nat) (v:Vs) (h:Int),vs[i]? = some v->hs[i]? = some h->bY (vs.take (i+1)) (hs.take (i+1))=bY (vs.take i) (hs.take i)++eO v h
 | [],_,i,_,_,h,_=>by simp at h
 | _::_,[],i,_,_,_,h=>by simp at h
 | a::vs,b::hs,0,v,h,h1,h2=>by simp at h1 h2;subst h1 h2;simp [bY]
 | a::vs,b::hs,i+1,v,h,h1,h2=>by
  simp only [List.take_succ_cons,bY,abw];rw[jT vs hs i v h (by simpa using h1) (by simpa using h2)]
theorem iC:∀ (vs:List Vs) (hs:List Int) (i:Nat) (v:Vs) (h:Int),vs[i]? = some v->hs[i]? = some h->d8 (vs.take (i+1)) (hs.take (i+1))=d8 (vs.take i) (hs.take i)++[eN v h]
 | [],_,i,_,_,h,_=>by simp at h
 | _::_,[],i,_,_,_,h=>by simp at h
 | a::vs,b::hs,0,v,h,h1,h2=>by simp at h1 h2;subst h1 h2;simp [d8]
 | a::vs,b::hs,i+1,v,h,h1,h2=>by
  simp only [List.take_succ_cons,d8,List.cons_append];rw[iC vs hs i v h (by simpa using h1) (by simpa using h2)]
theorem jP:∀ (vs:List Vs) (hs:List Int) (i j:Nat) (v:Vs) (h:Int),vs[i]? = some v->hs[i]? = some h->bA j (vs.take (i+1)) (hs.take (i+1))=bA j (vs.take i) (hs.take i)++(if fB v h=true then [j+i] else [])
 | [],_,i,_,_,_,h,_=>by simp at h
 | _::_,[],i,_,_,_,_,h=>by simp at h
 | a::vs,b::hs,0,j,v,h,h1,h2=>by
  simp at h1 h2;subst h1 h2;simp only [List.take_succ_cons,List.take_zero,bA,Nat.add_zero,List.nil_append]
 | a::vs,b::hs,i+1,j,v,h,h1,h2=>by
  simp only [List.take_succ_cons,bA];rw[jP vs hs i (j+1) v h (by simpa using h1) (by simpa using h2)];have e:j+1+i=j+(i+1):=by omega
  rw[e]
  split <;> simp
theorem nL:∀ (vs:List Vs) (hs:List Int) (j k:Nat),k∈bA j vs hs->j<=k/\k < j+vs.length
 | [],_,_,k,h=>by simp [bA] at h
 | _::_,[],_,k,h=>by simp [bA] at h
 | a::vs,b::hs,j,k,h=>by
  simp only [bA] at h;have ih:=nL vs hs (j+1) k;simp only [abk]
  split at h
  ·rcases aax.mp h with rfl | h
   ·omega
   ·have:=ih h;omega
  ·have:=ih h;omega
theorem gA:∀ (vs:List Vs) (hs:List Int) (j:Nat),(bA j vs hs).length<=vs.length
 | [],_,_=>by simp [bA]
 | _::_,[],_=>by simp [bA]
 | a::vs,b::hs,j=>by
  simp only [bA,abk];have:=gA vs hs (j+1)
  split
  ·rw[abk];omega
  ·omega
theorem j7 {n m:Nat}:∀ (vs:List Vs) (hs:List Int),(∀ v∈vs,VOk n m v)->(bY vs hs).length<=5 * vs.length
 | [],_,_=>by simp [bY]
 | _::_,[],_=>by simp [bY]
 | a::vs,b::hs,h=>by
  simp only [bY,aaw,abk];have h1:=xX (h a abt) b;have h2:=j7 vs hs λ v hv=>h v (aay _ hv);omega
theorem nR {H:Hp}{sps:List xR}{xs:List V}{i:Nat}{x:V} (l:IsL K H (sps.map EJ) xs) (h:xs[i]? = some x) :
  ∃ s,sps[i]? = some s/\∃ a,x=.ref a/\bM K H a [.int s.1,.int s.2.1,.bl s.2.2]:=by
 obtain⟨d,hd,hx⟩:=l.get' h;rw[aaf] at hd;cases e:sps[i]? with
 | none=>rw[e] at hd;cases hd
 | some o=>
  rw[e] at hd;cases hd;refine⟨o,rfl,?_⟩;obtain⟨a,ys,rfl,q,l⟩:=(show Is K H (.tup [.int o.1,.int o.2.1,.bl o.2.2]) x from hx).un;obtain⟨y,r,rfl,hy,l⟩:=l.un;obtain⟨z,r,rfl,hz,l⟩:=l.un;obtain⟨z2,r,rfl,hz2,l⟩:=l.un;have:=l.un0;subst this;rw[hy.ui,hz.ui,hz2.ub] at q;exact⟨a,rfl,q⟩
theorem sZ {H:Hp}{held coming:List Int}{doors:List Bool}{y:V} (h:Is K H (uB held coming doors) y):∃ (a b c d:Addr),y=.ref a/\bM K H a [.ref b,.ref c,.ref d]/\bM K H b (held.map V.int)/\bM K H c (coming.map V.int)/\bM K H d (doors.map V.bl):=by
 obtain⟨a,xs,rfl,q,l⟩:=(show Is K H (.tup [.tup (held.map D.int),.tup (coming.map D.int),.tup (doors.map D.bl)]) y from h).un;obtain⟨x1,r,rfl,h1,l⟩:=l.un;obtain⟨x2,r,rfl,h2,l⟩:=l.un;obtain⟨x3,r,rfl,h3,l⟩:=l.un;have:=l.un0;subst this;obtain⟨b,ys,rfl,q1,l1⟩:=h1.un;obtain⟨c,zs,rfl,q2,l2⟩:=h2.un;obtain⟨d,us,rfl,q3,l3⟩:=h3.un;rw[l1.ints] at q1;rw[l2.ints] at q2;rw[l3.bools] at q3;exact⟨a,b,c,d,rfl,q,q1,q2,q3⟩
theorem wE {H:Hp}{held coming:List Int}{doors:List Bool}{a b c d:Addr} (q:bM K H a [.ref b,.ref c,.ref d]) (q1:bM K H b (held.map V.int)) (q2:bM K H c (coming.map V.int)) (q3:bM K H d (doors.map V.bl)):Is K H (uB held coming doors) (.ref a):=
 Is.tupOf q (.cons (Is.tupOf q1 (IsL.of_ints _)) (.cons (Is.tupOf q2 (IsL.of_ints _)) (.cons (Is.tupOf q3 (IsL.of_bools _)) .nil)))
def nY (K:aab):Sp:=λ args H Q _=>∃ (x y:V) (z:Addr) (sps:List xR) (held coming poured:List Int) (doors:List Bool) (n:Nat),args=[x,y,.ref z]/\Is K H (.tup (sps.map EJ)) x/\Is K H (uB held coming doors) y/\bM K H z (poured.map V.int)/\
 held.length=n/\coming.length=n/\poured.length=n/\doors.length=sps.length/\n<=12/\(∀ s∈sps,0<=s.1/\s.1 < n)/\
 ∀ p H',aG H H'->H p=none->H' p=some (.lst ((dX (fQ held coming poured) sps doors).map V.int))->Q (.ref p) H'
theorem pV:FnScope ["spouts","state","poured","held","coming","doors","has","target","flow","first_door","door"] ["spouts","state","poured"] (aP (bQ 5)):={}
theorem yI {f:Addr}{fd:FuncData} (F:Fun K "filled" "filled" (bQ 5) f fd) (T:Txt mg):FnOk P w K mg base i7 1 f fd ["spouts","state","poured"] (nY K):=by
 refine F.ok pV (λ vs H Q E h=>?_) (λ cdv A outer s H vs Q E hr h=>?_)
 ·obtain⟨x,y,z,sps,held,coming,poured,doors,n,rfl,_⟩:=h;rfl
 ·obtain⟨x,y,z,sps,held,coming,poured,doors,n,rfl,hx,hy,qz,l1,l2,l3,l4,hn,hsp,k⟩:=h;have sc:=pV;refine⟨_,(aD (cF (pv 1) (bD (K:=K) (n:=3) rfl rfl (aH (aF (i:=3) sc.nd rfl (Or.inl rfl)) (aH (aF (i:=4) sc.nd rfl (Or.inl rfl)) (aH (aF (i:=5) sc.nd rfl (Or.inl rfl)) bB)))))
   (aD (gD (i:=6) sc.nd rfl rfl (λ _ _ h=>h) rfl (LcOk.mk (N':=["amounts"]) (fr:=[none]) rfl trivial rfl rfl rfl rfl rfl trivial) (AK (K:=K) rfl rfl T.b_zip (aA (pv 3) (aA (pv 4) (aA (pv 2) aC)))) (λ _ _ _=>(aF (i:=0) (show (["amounts"]:List Str).Nodup by decide +kernel) rfl (Or.inl rfl) (Or.inr rfl))) (λ _ _ _=>dG) (λ _ _ _=>(aN (eK (K:=K) rfl rfl) rfl T.b_sum PyProof.Rows.boot_sum (aA (pv 0) aC))))
   (aD (dP PassesOwn.never rfl (tE (K:=K) rfl rfl T.b_zip (aA (pv 0) (aA (pv 5) aC))) (bD (K:=K) (n:=2) rfl rfl (aH (bD (K:=K) (n:=3) rfl rfl (aH (aF (i:=7) sc.nd rfl (Or.inl rfl)) (aH (aF (i:=8) sc.nd rfl (Or.inl rfl)) (aH (aF (i:=9) sc.nd rfl (Or.inl rfl)) bB)))) (aH (aF (i:=10) sc.nd rfl (Or.inl rfl)) bB))) (aL (dL (gT (pv 10)) (aL (DF (pv 6) (pv 7) (yU (K:=K) rfl) (pv 8) BH fG)) bV)))
   (aL (bF (pv 6)))))),?_⟩
  obtain⟨ax,xs,rfl,qx,lx⟩:=hx.un;obtain⟨ay,a1,a2,a3,rfl,qy,q1,q2,q3⟩:=sZ hy;have exl:xs.length=sps.length:=by rw[lx.length,aad]
  refine⟨_,rfl,ay,_,rfl,qy,rfl,_,_,rfl,_,_,rfl,_,_,rfl,rfl,?_⟩;have la:=fN l1 l2 l3;refine⟨_,rfl,_,rfl,_,rfl,true,true,true,a1,a2,z,rfl,⟨_,q1⟩,⟨_,q2⟩,⟨_,qz⟩,DZ (K:=K) (xs:=held.map V.int) (ys:=coming.map V.int) (zs:=poured.map V.int) (n:=n) (by simpa using l1) (by simpa using l2) (by simpa using l3)
   (λ D i r ad H'=>H D=none/\aG H H'/\H' D=some (.lst r)/\r=((fQ held coming poured).take i).map V.int/\∃ v,ad=[v])
   (λ D i r ad H' p=>⟨p.2.1.tup q1,p.2.1.tup q2,p.2.1.tup qz⟩) (λ D hD=>⟨hD,aG.new hD,aB,by simp,none,rfl⟩) ?_ ?_⟩
  rotate_left
  ·rintro D i x0 y0 z0 r ad H' Tt hx0 hy0 hz0 ⟨hD,sm,hDl,rfl,v,rfl⟩ hT;rw[aaf] at hx0 hy0 hz0;obtain⟨x,hx,rfl⟩:=aau.mp hx0;obtain⟨y,hy,rfl⟩:=aau.mp hy0;obtain⟨z',hz,rfl⟩:=aau.mp hz0;have hi:=p9 hx hy hz;have hil:=(aai.mp hi).1;have nT:D≠Tt:=aJ hDl hT;refine eC ?_;refine⟨_,rfl,true,Tt,[x,y,z'],rfl,bM.of aB,by rw[aK nT];exact hDl,aO (by simp;omega),hD,?_,aB,?_,_,rfl⟩
   ·intro b o e;rw[aK (aJ e hD)];exact aG.new hT b o (sm b o e)
   ·rw[aV hi,aam];have:[x,y,z'].sum=x+y+z':=by simp;omega
    rw[this];rfl
  ·rintro D r ad H1 ⟨hD,sm,hDl,rfl,_⟩;rw[<- la,aas] at hDl;refine⟨_,rfl,_,rfl,true,true,ax,a3,rfl,⟨_,sm.tup qx⟩,⟨_,sm.tup q3⟩,BU (K:=K) (xs:=xs) (ys:=doors.map V.bl) (n:=sps.length) exl (by rw[aad,l4])
    (λ i ad H'=>aG H H'/\H' D=some (.lst ((dX (fQ held coming poured) (sps.take i) (doors.take i)).map V.int))/\
     ∃ v7 v8 v9 v10,ad=[some (.ref ax),some (.ref ay),some (.ref z),some (.ref a1),some (.ref a2),some (.ref a3),some (.ref D),v7,v8,v9,v10])
    (λ i ad H' p=>⟨p.1.tup qx,p.1.tup q3⟩) ⟨sm,by cases sps <;> exact hDl,none,none,none,none,rfl⟩ ?_ ?_⟩
   ·rintro ad H2 ⟨sm2,h2,v7,v8,v9,v10,rfl⟩;rw[<- l4,aas] at h2;rw[l4,aas] at h2;refine⟨_,rfl,?_⟩;exact k D H2 sm2 hD h2
   ·rintro i x y ad H2 Tt hx hy ⟨sm2,h2,v7,v8,v9,v10,rfl⟩ hT;obtain⟨sp,hsi,sa,rfl,qs⟩:=nR lx hx;rw[aaf] at hy;obtain⟨dr,hdi,rfl⟩:=aau.mp hy;have nT:D≠Tt:=aJ h2 hT;have sm3:aG H (upd H2 Tt (.tup [.ref sa,.bl dr])):=λ b o e=>aG.new hT b o (sm2 b o e);have h3:upd H2 Tt (.tup [.ref sa,.bl dr]) D=some (.lst ((dX (fQ held coming poured) (sps.take i) (doors.take i)).map V.int)):=by rw[aK nT];exact h2
    refine⟨Tt,_,rfl,bM.of aB,rfl,_,_,rfl,⟨sa,_,rfl,sm3.tup qs,rfl,_,_,rfl,_,_,rfl,_,_,rfl,rfl,_,_,rfl,rfl,?_⟩⟩;refine⟨_,rfl,_,rfl,?_⟩;have snoc:=jU sps doors i (fQ held coming poured) sp dr hsi hdi;cases dr with
    | false=>
     refine g6 ?_;refine⟨sm3,?_,_,_,_,_,rfl⟩;rw[snoc];exact h3
    | true=>
     refine lB ?_;have hs:=hsp sp (abl hsi);have hlen:(dX (fQ held coming poured) (sps.take i) (doors.take i)).length=n:=by rw[eI,la]
     have hlt:sp.1.toNat < (dX (fQ held coming poured) (sps.take i) (doors.take i)).length:=by rw[hlen];omega
     have hg:((dX (fQ held coming poured) (sps.take i) (doors.take i)).map V.int)[sp.1.toNat]? = some (.int ((dX (fQ held coming poured) (sps.take i) (doors.take i)).getD sp.1.toNat 0)):=by
      rw[aaf,acn];simp [hlt]
     refine⟨_,rfl,_,rfl,D,_,sp.1,_,rfl,rfl,bN.of h3,hs.1,by omega,hg,_,rfl,_,_,rfl,rfl,D,_,sp.1,sp.1.toNat,rfl,rfl,h3,mX hs.1 (by rw[aad,hlen];omega),?_⟩;refine⟨sm3.put hD,?_,_,_,_,_,rfl⟩;rw[aB,snoc,oT,if_pos rfl,List.map_set]
theorem fC:∀ (vs:List Vs) (hs:List Int),vs.length=hs.length->(d8 vs hs).length=vs.length
 | [],_,_=>by simp [d8]
 | _::_,[],h=>by simp at h
 | a::vs,b::hs,h=>by simp only [d8,abk];rw[fC vs hs (by simpa using h)]
theorem dM {H:Hp}{net:Net}{x:V} (h:Is K H (eX net) x):∃ (a b c:Addr) (xs ys:List V),x=.ref a/\bM K H a [.ref b,.ref c]/\bM K H b xs/\IsL K H (net.vs.map sR) xs/\bM K H c ys/\IsL K H (net.sps.map EJ) ys:=by
 obtain⟨a,zs,rfl,q,l⟩:=(show Is K H (.tup [.tup (net.vs.map sR),.tup (net.sps.map EJ)]) x from h).un;obtain⟨x1,r,rfl,h1,l⟩:=l.un;obtain⟨x2,r,rfl,h2,l⟩:=l.un;have:=l.un0;subst this;obtain⟨b,xs,rfl,q1,l1⟩:=h1.un;obtain⟨c,ys,rfl,q2,l2⟩:=h2.un;exact⟨a,b,c,xs,ys,rfl,q,q1,l1,q2,l2⟩
structure StOk (net:Net) (held coming:List Int) (doors:List Bool):Prop where
 h:held.length=net.vs.length
 c:coming.length=net.vs.length
 d:doors.length=net.sps.length
def uU (K:aab):Sp:=λ args H Q _=>∃ (x y:V) (z:Addr) (net:Net) (held coming poured:List Int) (doors:List Bool),args=[x,y,.ref z]/\Is K H (eX net) x/\Is K H (uB held coming doors) y/\bM K H z (poured.map V.int)/\
 NetOk net/\StOk net held coming doors/\poured.length=net.vs.length/\∀ (p:Addr) (ys:List V) H',aG H H'->H' p=some (.tup ys)->Is K H' (HQ (eA net held coming poured doors)) (.ref p)->Q (.ref p) H'
theorem iE:FnScope ["net","state","poured","vessels","spouts","held","tipped","sent","number","has","left","tips","coming","doors"] ["net","state","poured"] (aP (bQ 3)):={}
theorem oD {f fF fS fD:Addr}{fd fdF fdS fdD:FuncData} (F:Fun K "tick_behind" "tick_behind" (bQ 3) f fd) (T:Txt mg) (G_filled:Callee P w K mg base "filled" ["spouts","state","poured"] 1 (nY K) fF fdF)
  (G_settle:Callee P w K mg base "settle" ["vessel","has","sent"] 3 (nW K) fS fdS) (G_doors_behind:Callee P w K mg base "doors_behind" ["vessels","doors","tipped"] 1 (qV K) fD fdD):FnOk P w K mg base i7 4 f fd ["net","state","poured"] (uU K):=by
 refine F.ok iE (λ vs H Q E h=>?_) (λ cdv A outer s H vs Q E hr h=>?_)
 ·obtain⟨x,y,z,net,held,coming,poured,doors,rfl,_⟩:=h;rfl
 ·obtain⟨x,y,z,net,held,coming,poured,doors,rfl,hx,hy,qz,nok,sok,lp,k⟩:=h;have sc:=iE;have hu:=FC hr;refine⟨_,(aD (cF (pv 0) (bD (K:=K) (n:=2) rfl rfl (aH (aF (i:=3) sc.nd rfl (Or.inl rfl)) (aH (aF (i:=4) sc.nd rfl (Or.inl rfl)) bB))))
   (aD (cF (bO (aA (bC aC) (aA (bC aC) (aA AN aC)))) (bD (K:=K) (n:=3) rfl rfl (aH (aF (i:=5) sc.nd rfl (Or.inl rfl)) (aH (aF (i:=6) sc.nd rfl (Or.inl rfl)) (aH (aF (i:=7) sc.nd rfl (Or.inr rfl)) bB)))))
   (aD (dP PassesOwn.never rfl (AL (K:=K) rfl rfl T.b_enumerate (aA (dF G_filled hr (aA (pv 4) (aA (pv 1) (aA (pv 2) aC)))) aC)) (bD (K:=K) (n:=2) rfl rfl (aH (aF (i:=8) sc.nd rfl (Or.inl rfl)) (aH (aF (i:=9) sc.nd rfl (Or.inl rfl)) bB))) (aD (cF (dF G_settle hr (aA (aS (aI (K:=K) rfl) (pv 3) (pv 8) (λ _ _=>rfl)) (aA (pv 9) (aA (pv 7) aC)))) (bD (K:=K) (n:=2) rfl rfl (aH (aF (i:=10) sc.nd rfl (Or.inl rfl)) (aH (aF (i:=11) sc.nd rfl (Or.inl rfl)) bB))))
   (aD (d0 (dR (K:=K) rfl aav abh abi cK (pv 5) (aA (pv 10) aC)))
   (aL (dL (gT (pv 11)) (aL (d0 (dR (K:=K) rfl aav abh abi cK (pv 6) (aA (pv 8) aC)))) bV)))))
   (aD (gD (i:=12) sc.nd rfl rfl (λ _ _ h=>h) rfl (LcOk.mk (N':=["number","sent"]) (fr:=[none,some 7]) rfl ⟨rfl,trivial⟩ rfl rfl rfl rfl rfl ⟨⟨_,rfl,rfl,rfl,rfl⟩,trivial⟩) (cC rfl T.b_range (aA (aN (bE (K:=K) rfl) rfl T.b_len aba (aA (pv 3) aC)) aC)) (λ _ _ _=>(aF (i:=0) (show (["number","sent"]:List Str).Nodup by decide +kernel) rfl (Or.inl rfl) (Or.inr rfl))) (λ _ _ _=>dG) (λ _ _ _=>(oA hu (pv 1) (pv 0) aE ⟨rfl,rfl,rfl,rfl⟩)))
   (aD (aR (i:=13) sc.nd rfl (Or.inl rfl) (dF G_doors_behind hr (aA (pv 3) (aA (aS (aI (K:=K) rfl) (pv 1) aE (λ _ _=>rfl)) (aA (pv 6) aC)))))
   (aL (bF (bO (aA (bO (aA (aZ (cD (K:=K) rfl) rfl T.b_tuple cP (aA (pv 5) aC)) (aA (aZ (cD (K:=K) rfl) rfl T.b_tuple cP (aA (pv 12) aC)) (aA (pv 13) aC)))) (aA (aZ (cD (K:=K) rfl) rfl T.b_tuple cP (aA (pv 6) aC)) (aA (oA hu (pv 7) eF aE ⟨rfl,rfl,rfl,rfl⟩) aC))))))))))),?_⟩
  obtain⟨ax,av,as,xs,ys,rfl,qx,qv,lv,qs,ls⟩:=dM hx;obtain⟨ay,b1,b2,b3,rfl,qy,q1,q2,q3⟩:=sZ hy;have exl:xs.length=net.vs.length:=by rw[lv.length,aad]
  refine⟨_,rfl,ax,_,rfl,qx,rfl,_,_,rfl,_,_,rfl,rfl,?_⟩;refine⟨abg _,λ hl hhl=>⟨abg _,λ tl htl=>λ sd hsd=>⟨(show 3<=sizeLine by decide),λ tp htp=>⟨tp,_,rfl,bM.of aB,rfl,_,_,rfl,_,_,rfl,_,_,rfl,rfl,?_⟩⟩⟩⟩;have n1:hl≠tl:=aJ (show upd H hl (.lst []) hl=_ from aB) htl;have fh:H hl=none:=hhl;have ft:H tl=none:=aG.free (aG.new hhl) htl;have fs:H sd=none:=aG.free ((aG.new hhl).trans (aG.new htl)) hsd;have n2:hl≠sd:=aJ (by rw[aK n1];exact aB) hsd;have n3:tl≠sd:=aJ (show upd (upd H hl (.lst [])) tl (.lst []) tl=_ from aB) hsd;have sm0:aG H (upd (upd (upd (upd H hl (.lst [])) tl (.lst [])) sd (.dK [])) tp (.tup [.ref hl,.ref tl,.ref sd])):=(((aG.new hhl).trans (aG.new htl)).trans (aG.new hsd)).trans (aG.new htp);have g1:upd (upd (upd (upd H hl (.lst [])) tl (.lst [])) sd (.dK [])) tp (.tup [.ref hl,.ref tl,.ref sd]) hl=some (.lst []):=aG.new htp _ _ (by rw[aK n2,aK n1];exact aB);have g2:upd (upd (upd (upd H hl (.lst [])) tl (.lst [])) sd (.dK [])) tp (.tup [.ref hl,.ref tl,.ref sd]) tl=some (.lst []):=aG.new htp _ _ (by rw[aK n3];exact aB);have g3:upd (upd (upd (upd H hl (.lst [])) tl (.lst [])) sd (.dK [])) tp (.tup [.ref hl,.ref tl,.ref sd]) sd=some (.dK []):=aG.new htp _ _ aB;generalize upd (upd (upd (upd H hl (.lst [])) tl (.lst [])) sd (.dK [])) tp (.tup [.ref hl,.ref tl,.ref sd])=H0 at sm0 g1 g2 g3 ⊢;refine⟨_,rfl,_,rfl,_,rfl,.ref as,.ref ay,z,net.sps,held,coming,poured,doors,net.vs.length,rfl,Is.tupOf (sm0.tup qs) (IsL.mono sm0.ts _ _ ls),Is.mono sm0.ts _ _ hy,sm0.tup qz,sok.h,sok.c,lp,sok.d,nok.hi,nok.sps,λ ha H1 sm1 fha hha=>?_⟩;have hsl:(aM net held coming poured doors).length=net.vs.length:=by
   unfold aM;rw[eI,fN sok.h sok.c lp]
  have g1':=sm1 _ _ g1;have g2':=sm1 _ _ g2;have g3':=sm1 _ _ g3;have na1:hl≠ha:=aJ g1 fha;have na2:tl≠ha:=aJ g2 fha;have na3:sd≠ha:=aJ g3 fha;have fa:H ha=none:=sm0.free fha;refine⟨false,ha,rfl,⟨_,bN.of hha⟩,BV (K:=K) (t:=false) (a:=ha) (xs:=(aM net held coming poured doors).map V.int)
   (λ i ad H'=>aG H H'/\H' ha=some (.lst ((aM net held coming poured doors).map V.int))/\H' hl=some (.lst ((d8 (net.vs.take i) ((aM net held coming poured doors).take i)).map V.int))/\
    H' tl=some (.lst ((bA 0 (net.vs.take i) ((aM net held coming poured doors).take i)).map λ (j:Nat)=>V.int (j:Int)))/\i6 H' sd (bY (net.vs.take i) ((aM net held coming poured doors).take i))/\
    ∃ v8 v9 v10 v11,ad=[some (.ref ax),some (.ref ay),some (.ref z),some (.ref av),some (.ref as),some (.ref hl),some (.ref tl),some (.ref sd),v8,v9,v10,v11,none,none])
   (λ i ad H' p=>bN.of p.2.1) ⟨sm0.trans sm1,hha,by simpa [d8] using g1',by simpa [bA] using g2',⟨[],g3',by simp,λ k=>rfl⟩,none,none,none,none,rfl⟩ ?_ ?_⟩
  rotate_left
  ·rintro i x0 ad H2 Tt hx0 ⟨sm2,p1,p2,p3,p4,v8,v9,v10,v11,rfl⟩ hT;rw[aaf] at hx0;obtain⟨hi,hhi,rfl⟩:=aau.mp hx0;have hil:i < net.vs.length:=by rw[<- hsl];exact (aai.mp hhi).1
   have hv:net.vs[i]? = some net.vs[i]:=by simp [hil]
   have vok:=nok.vs _ (ach hil);obtain⟨xv,hxv,ixv⟩:=lv.get (i:=i) (d:=sR net.vs[i]) (by rw[aaf,hv];rfl);have smT:=aG.new (o:=HO.tup [.int (i:Int),.int hi]) hT;refine⟨Tt,_,rfl,bM.of aB,rfl,_,_,rfl,_,_,rfl,rfl,?_⟩;have sm3:aG H (upd H2 Tt (.tup [.int (i:Int),.int hi])):=sm2.trans smT;obtain⟨kvs,d1,d2,d3⟩:=p4;have hgl:=j7 (net.vs.take i) ((aM net held coming poured doors).take i) λ v hv'=>nok.vs v (List.mem_of_mem_take hv');have htk:(net.vs.take i).length<=12:=by rw[aat];have:=nok.hi;omega
   refine⟨_,rfl,_,rfl,.inr (.inl ⟨av,xs,i,_,rfl,rfl,sm3.tup qv,bW hxv,_,rfl,_,rfl,xv,sd,hi,net.vs[i],_,_,_,rfl,Is.mono sm3.ts _ _ ixv,⟨kvs,smT _ _ d1,d2,d3⟩,by omega,vok,λ p H3 bt dg qp=>?_⟩)⟩;refine⟨p,_,rfl,qp,rfl,_,_,rfl,_,_,rfl,rfl,?_⟩;have e1:=bt hl _ n2 (smT _ _ p2);have e2:=bt tl _ n3 (smT _ _ p3);have e3:=bt ha _ (Ne.symm na3) (smT _ _ p1);have sm4:aG H H3:=λ b o e=>bt b o (aJ e fs) (sm3 b o e);have stl:(d8 (net.vs.take i) ((aM net held coming poured doors).take i)).length<=12:=by
    rw[fC _ _ (by rw[aat,aat,hsl])];exact htk
   have tpl:=gA (net.vs.take i) ((aM net held coming poured doors).take i) 0;refine⟨_,rfl,.inl ⟨rfl,_,bN.of e1⟩,_,rfl,hl,_,_,rfl,rfl,e1,aO (by simp;omega),?_⟩;have f1:upd H3 hl (.lst ((d8 (net.vs.take i) ((aM net held coming poured doors).take i)).map V.int++[.int (eN net.vs[i] hi)])) tl=some (.lst ((bA 0 (net.vs.take i) ((aM net held coming poured doors).take i)).map λ (j:Nat)=>V.int (j:Int))):=by rw[aK (Ne.symm n1)];exact e2
   have s1:=iC net.vs (aM net held coming poured doors) i _ _ hv hhi;have s2:=jP net.vs (aM net held coming poured doors) i 0 _ _ hv hhi;have s3:=jT net.vs (aM net held coming poured doors) i _ _ hv hhi;have dgo:∀ {Hx:Hp},Hx sd=H3 sd->i6 Hx sd (bY (net.vs.take (i+1)) ((aM net held coming poured doors).take (i+1))):=λ {Hx} e=>by
    obtain⟨kv,a1,a2,a3⟩:=dg;rw[s3];exact⟨kv,e.trans a1,a2,a3⟩
   refine⟨_,rfl,_,rfl,?_⟩;cases ht:fB net.vs[i] hi with
   | false=>
    refine g6 ?_;rw[ht] at s2;refine⟨sm4.put fh,by rw[aK (Ne.symm na1)];exact e3,by rw[aB,s1,aam];rfl,by rw[s2];simpa using f1,dgo (by rw[aK (Ne.symm n2)]),_,_,_,_,rfl⟩
   | true=>
    refine lB ?_;rw[ht] at s2;refine⟨_,rfl,.inl ⟨rfl,_,bN.of f1⟩,_,rfl,tl,_,_,rfl,rfl,f1,aO (by simp;omega),?_⟩;refine⟨(sm4.put fh).put ft,by rw[aK (Ne.symm na2),aK (Ne.symm na1)];exact e3,by rw[aK n1,aB,s1,aam];rfl,?_,dgo (by rw[aK (Ne.symm n3),aK (Ne.symm n2)]),_,_,_,_,rfl⟩;rw[aB,s2];simp
  ·rintro ad H2 ⟨sm2,p1,p2,p3,p4,v8,v9,v10,v11,rfl⟩;rw[aad,hsl] at p2 p3 p4;have ek:net.vs.take net.vs.length=net.vs:=aas;have ek2:(aM net held coming poured doors).take net.vs.length=aM net held coming poured doors:=by rw[<- hsl,aas]
   rw[ek,ek2] at p2 p3 p4;obtain⟨kvs,d1,d2,d3⟩:=p4;refine⟨_,rfl,av,xs,rfl,.inr (sm2.tup qv),_,rfl,by omega,by have:=nok.hi;omega,?_⟩;have hn:((xs.length:Nat):Int).toNat=net.vs.length:=by rw[exl];simp
   rw[hn];refine fI (n:=net.vs.length) (λ D i r ad H'=>H2 D=none/\aG H2 H'/\H' D=some (.lst r)/\r=((cU net.vs.length (bY net.vs (aM net held coming poured doors))).take i).map V.int/\∃ v,ad=[v,some (.ref sd)])
    (λ D hD=>⟨hD,aG.new hD,aB,by simp,none,rfl⟩) ?_ ?_
   rotate_left
   ·rintro D i r ad H' hi ⟨hD,sm,hDl,rfl,v,rfl⟩;refine eC ?_;have hg:=wB.k (k:=lA (some (i:Int))) (sm _ _ d1);refine⟨_,rfl,sd,rfl,.inl ⟨kvs,.inl (sm _ _ d1)⟩,_,rfl,_,hg,hDl,aO (by simp [cU];have:=nok.hi;omega),hD,sm.put hD,aB,?_,_,rfl⟩;have e:(cU net.vs.length (bY net.vs (aM net held coming poured doors)))[i]? = some (cQ (some (i:Int)) (bY net.vs (aM net held coming poured doors))):=by
     unfold cU;simp [hi]
    rw[aV e,aam];show _++[(eU kvs (lA (some (i:Int)))).getD (.int 0)]=_;rw[d3];rfl
   ·rintro D r ad H3 ⟨hD,sm,hDl,rfl,_⟩;have ll:(cU net.vs.length (bY net.vs (aM net held coming poured doors))).length=net.vs.length:=by unfold cU;simp
    rw[abv (Nat.le_of_eq ll)] at hDl;have sm3:aG H H3:=sm2.trans sm;refine⟨_,rfl,_,rfl,.inr (.inl ⟨ay,_,2,_,rfl,rfl,sm3.tup qy,rfl,_,rfl,.ref av,.ref b3,tl,net.vs,doors,bA 0 net.vs (aM net held coming poured doors),net.vs.length,rfl,Is.tupOf (sm3.tup qv) (IsL.mono sm3.ts _ _ lv),Is.tupOf (sm3.tup q3) (IsL.of_bools _),bN.of (sm _ _ p3),λ j hj=>by have:=nL _ _ _ _ hj;omega,λ v hv=>by rw[sok.d];exact nok.vs v hv,by rw[sok.d];exact nok.sp,λ dp H4 sm4 hdp=>?_⟩)⟩;obtain⟨da,dxs,rfl,qd,ld⟩:=hdp.un;have c1:=sm4 _ _ (sm _ _ p2);have c2:=sm4 _ _ hDl;have c3:=sm4 _ _ (sm _ _ p3);have c4:=sm4 _ _ (sm _ _ d1);refine⟨_,rfl,hl,_,rfl,.inl ⟨bN.of c1,λ t1 ht1=>?_⟩⟩;have m1:=aG.new (o:=HO.tup ((d8 net.vs (aM net held coming poured doors)).map V.int)) ht1;refine⟨_,rfl,D,_,rfl,.inl ⟨bN.of (m1 _ _ c2),λ t2 ht2=>?_⟩⟩;have m2:=aG.new (o:=HO.tup ((cU net.vs.length (bY net.vs (aM net held coming poured doors))).map V.int)) ht2;refine⟨_,rfl,(show 3<=sizeLine by decide),λ t3 ht3=>?_⟩;have m3:=aG.new (o:=HO.tup [.ref t1,.ref t2,.ref da]) ht3;refine⟨_,rfl,tl,_,rfl,.inl ⟨bN.of (m3 _ _ (m2 _ _ (m1 _ _ c3))),λ t4 ht4=>?_⟩⟩;have m4:=aG.new (o:=HO.tup ((bA 0 net.vs (aM net held coming poured doors)).map λ (j:Nat)=>V.int (j:Int))) ht4;have c4':=m4 _ _ (m3 _ _ (m2 _ _ (m1 _ _ c4)));have hg:=wB.k (k:=lA none) c4';refine⟨_,rfl,sd,rfl,.inl ⟨kvs,.inl c4'⟩,_,hg,(show 3<=sizeLine by decide),λ t5 ht5=>?_⟩;have m5:aG _ _:=aG.new (o:=HO.tup [.ref t3,.ref t4,(eU kvs (lA none)).getD (.int 0)]) ht5;have eg:(eU kvs (lA none)).getD (.int 0)=.int (cQ none (bY net.vs (aM net held coming poured doors))):=d3 none;refine k _ _ _ ((((((sm3.trans sm4).trans m1).trans m2).trans m3).trans m4).trans m5) aB ?_;refine Is.tupOf (bM.of aB) (.cons ?_ (.cons ?_ (.cons ?_ .nil)))
    ·exact Is.mono m5.ts _ _ (Is.mono m4.ts _ _ (wE (bM.of aB) (m3.tup (m2.tup (bM.of aB))) (m3.tup (bM.of aB)) (by
      have:=ld.bools;rw[this] at qd;exact m3.tup (m2.tup (m1.tup qd)))))
    ·refine Is.mono m5.ts _ _ (Is.tupOf (bM.of aB) ?_);show L2.IsL K _ ((bA 0 net.vs (aM net held coming poured doors)).map λ (i:Nat)=>L2.D.int (i:Int)) _;have e1:((bA 0 net.vs (aM net held coming poured doors)).map λ (i:Nat)=>L2.D.int (i:Int))=((bA 0 net.vs (aM net held coming poured doors)).map λ (i:Nat)=>(i:Int)).map L2.D.int:=by rw[acd];rfl
     have e2:((bA 0 net.vs (aM net held coming poured doors)).map λ (i:Nat)=>V.int (i:Int))=((bA 0 net.vs (aM net held coming poured doors)).map λ (i:Nat)=>(i:Int)).map V.int:=by rw[acd];rfl
     rw[e1,e2];exact L2.IsL.of_ints _
    ·rw[eg];exact Is.i _
def dN (H:Hp) (t sl:Addr):Prop:=∃ (ns:List Int) (pos cell:Int),H t=some (.lst [.ref sl,.int pos,.int cell])/\H sl=some (.lst (ns.map V.int))/\ns.length<=1000
theorem dN.mut {H:Hp}{t sl:Addr} (h:dN H t sl):qM (H t):=by obtain⟨ns,pos,cell,e,_⟩:=h;rw[e];exact trivial
theorem dN.same {H H':Hp}{t sl:Addr} (h:dN H t sl) (s:aG H H'):dN H' t sl:=by
 obtain⟨ns,pos,cell,e,f,g⟩:=h;exact⟨ns,pos,cell,s _ _ e,s _ _ f,g⟩
def fE:Sp:=λ vs H Q _=>∃ (t sl:Addr) (many:Int),vs=[.ref t,.int many]/\dN H t sl/\0 < many/\many < 1000000/\
 ∀ (r:Int) H',dS t H H'->dN H' t sl->0<=r->r < many->Q (.int r) H'
def qU:Sp:=λ vs H Q _=>∃ (t sl:Addr) (many:Int),vs=[.ref t,.int many]/\dN H t sl/\0 < many/\many < 2 ^ 200/\
 ∀ (r:Int) H',dS t H H'->dN H' t sl->0<=r->r < many->Q (.int r) H'
abbrev qX (K:aab):TS:=iA (iB (gN (rI (λ _ j=>0 < j) λ i j=>.int (i % j)) (gN (uY K) (cZ 0) (tC (.int 2))) (cZ 1)) (dU 4)) (iA (iB (gN (rI FG λ i j=>.int (i / j)) (gN (uY K) (cZ 0) (tC (.int 2))) (cZ 1)) (BS (cZ 0) (tC (.int 2)) tD)) (FN (cZ 4)))
abbrev AB (K:aab):TS:=iA (iB (gN (qY λ i j=>.int (i+j)) (gN (uY K) (cZ 0) (tC (.int 1))) (tC (.int 1))) (BS (cZ 0) (tC (.int 1)) tD)) (iB (cZ 3) (BS (cZ 0) (tC (.int 2)) tD))
abbrev AC (K:aab):TS:=iA (iB (gN (rI (λ _ j=>0 < j) λ i j=>.int (i % j)) (gN (qY λ i j=>.int (i+j)) (cZ 3) (gN (rI uA λ i j=>.int (i * j)) (tC (.int 1000003)) (gN (uY K) (cZ 0) (tC (.int 1))))) (cZ 2)) (dU 3)) (iA (iB (gN (rI (λ _ j=>0 < j) λ i j=>.int (i % j)) (gN (qY λ i j=>.int (i+j)) (gN (qY λ i j=>.int (i+j)) (gN (rI uA λ i j=>.int (i * j)) (cZ 3) (cZ 3)) (gN (rI uA λ i j=>.int (i * j)) (tC (.int 1181783497276652981)) (cZ 3))) (tC (.int 2049848353892358983))) (cZ 2)) (dU 3)) (iB (gN (rI (λ _ j=>0 < j) λ i j=>.int (i % j)) (gN (qY λ i j=>.int (i+j)) (gN (rI uA λ i j=>.int (i * j)) (cZ 3) (cZ 3)) (tC (.int 1442695040888963407))) (cZ 2)) (dU 3)))
abbrev FZ (K:aab):TT:=tOr (wD (gN (qY λ i j=>.bl (decide (j<=i))) (gN (uY K) (cZ 0) (tC (.int 1))) (HF (IE K) (cI (gN (uY K) (cZ 0) (tC (.int 0))) jF)))) (wD (gN (qY λ i j=>.bl (decide (i < j))) (cZ 3) (gN (rI JI λ i j=>.int (i ^ j.toNat)) (tC (.int 10)) (tC (.int 18)))))
abbrev dE (Q:VK):Ends:={ nx:=λ _ H'=>Q .non H',rt:=Q }
theorem kP:FnScope ["tape","many","prime","cell","found"] ["tape","many"] (aP (bQ 35)):={}
theorem jO {f:Addr}{fd:FuncData} (F:Fun K "_law_draw" "_law_draw" (bQ 35) f fd) (T:Txt mg):FnOk P w K mg base i7 1 f fd ["tape","many"] qU:=by
 refine F.ok kP (λ vs H Q E h=>?_) (λ cdv A outer s H vs Q E hr h=>?_)
 ·obtain⟨t,sl,many,rfl,_⟩:=h;rfl
 ·obtain⟨t,sl,many,rfl,⟨ns,pos,cell,ht,hsl,hns⟩,hm0,hm1,k⟩:=h;have sc:=kP;refine⟨_,(aD (aR (i:=2) sc.nd rfl (Or.inl rfl) aE)
   (aD (dL (bL tG (aS (aI (K:=K) rfl) (pv 0) aE (λ _ _=>rfl)) (pv 1) (bR _)) (aD (aR (i:=3) sc.nd rfl (Or.inl rfl) aE)
   (aD (dL (bL wO (aN (bE (K:=K) rfl) rfl T.b_len aba (aA (aS (aI (K:=K) rfl) (pv 0) aE (λ _ _=>rfl)) aC)) aE (bR _)) (aL (aR (i:=3) sc.nd rfl (Or.inl rfl) (aS (aI (K:=K) rfl) (aS (aI (K:=K) rfl) (pv 0) aE (λ _ _=>rfl)) (aT lR (aS (aI (K:=K) rfl) (pv 0) aE (λ _ _=>rfl)) (aN (bE (K:=K) rfl) rfl T.b_len aba (aA (aS (aI (K:=K) rfl) (pv 0) aE (λ _ _=>rfl)) aC))) (λ _ _=>rfl)))) bV)
   (aD (dL (PW.pt (wJ (bL EU (aS (aI (K:=K) rfl) (pv 0) aE (λ _ _=>rfl)) (aN (bE (K:=K) rfl) rfl T.b_len aba (aA (aS (aI (K:=K) rfl) (pv 0) aE (λ _ _=>rfl)) aC)) (bR _)) (uZ (bL tG (pv 3) (aT AR aE aE) (bR _))))) (aD (aR (i:=3) sc.nd rfl (Or.inl rfl) (aT lR (aT bX (pv 3) (aT iL aE (aS (aI (K:=K) rfl) (pv 0) aE (λ _ _=>rfl)))) (pv 2)))
   (aD (aR (i:=3) sc.nd rfl (Or.inl rfl) (aT lR (aT bX (aT bX (aT iL (pv 3) (pv 3)) (aT iL aE (pv 3))) aE) (pv 2)))
   (aL (aR (i:=3) sc.nd rfl (Or.inl rfl) (aT lR (aT bX (aT iL (pv 3) (pv 3)) aE) (pv 2)))))) bV)
   (aD (cF (aT bX (aS (aI (K:=K) rfl) (pv 0) aE (λ _ _=>rfl)) aE) (lQ (pv 0) aE fG))
   (aL (cF (pv 3) (lQ (pv 0) aE fG))))))) bV)
   (aD (aR (i:=4) sc.nd rfl (Or.inl rfl) (aT lR (aS (aI (K:=K) rfl) (pv 0) aE (λ _ _=>rfl)) (pv 1)))
   (aD (cF (aT AT (aS (aI (K:=K) rfl) (pv 0) aE (λ _ _=>rfl)) (pv 1)) (lQ (pv 0) aE fG))
   (aL (bF (pv 4))))))),?_⟩
  have nst:sl≠t:=EV hsl ht (by intro z;injection z with z;cases ns <;> simp at z);have ix:∀ {H1:Hp}{p' c':Int}{Q:VK},H1 t=some (.lst [.ref sl,.int p',.int c'])->Q (.ref sl) H1->uY K (.ref t) (.int 0) H1 Q:=λ e q=>.inl ⟨t,_,0,_,rfl,rfl,bN.of e,rfl,q⟩;have ix1:∀ {H1:Hp}{p' c':Int}{Q:VK},H1 t=some (.lst [.ref sl,.int p',.int c'])->Q (.int p') H1->uY K (.ref t) (.int 1) H1 Q:=λ e q=>.inl ⟨t,_,1,_,rfl,rfl,bN.of e,rfl,q⟩;have IS:∀ {H1:Hp}{p' c':Int}{Q:VK},H1 t=some (.lst [.ref sl,.int p',.int c'])->Q (.int c') H1->uY K (.ref t) (.int 2) H1 Q:=λ e q=>.inl ⟨t,_,2,_,rfl,rfl,bN.of e,rfl,q⟩;have tail:∀ (v3:Option V) (H1:Hp) (p' c':Int),dS t H H1->H1 t=some (.lst [.ref sl,.int p',.int c'])->qX K (dE Q) [some (.ref t),some (.int many),some (.int 2305843009213693951),v3,none] H1:=by
   intro v3 H1 p' c' bt e;refine⟨_,rfl,IS e ⟨_,rfl,_,_,rfl,rfl,hm0,?_⟩⟩;refine⟨_,rfl,IS e ⟨_,rfl,_,_,rfl,rfl,⟨hm0,hm1⟩,_,rfl,t,_,2,2,rfl,rfl,e,rfl,_,rfl,?_⟩⟩;refine k _ _ (bt.trans dS.upd) ⟨ns,p',c' / many,aB,?_,hns⟩ (Int.emod_nonneg _ (by omega)) (Int.emod_lt_of_pos _ hm0);rw[aK nst];exact bt sl _ nst hsl
  refine⟨_,rfl,IS ht ⟨_,rfl,_,_,rfl,rfl,_,rfl,?_⟩⟩;refine fJ (λ _=>?_) (λ _=>tail none H pos cell (dS.refl H) ht);have mid:∀ (c':Int),AB K { nx:=qX K (dE Q),rt:=Q } [some (.ref t),some (.int many),some (.int 2305843009213693951),some (.int c'),none] H:=by
   intro c';refine⟨_,rfl,ix1 ht ⟨_,_,rfl,rfl,_,rfl,t,_,1,1,rfl,rfl,ht,rfl,?_⟩⟩;refine⟨_,rfl,_,rfl,t,_,2,2,rfl,rfl,aB,rfl,?_⟩;exact tail (some (.int c')) _ (pos+1) c' (dS.upd.trans dS.upd) aB
  have big:∀ (c':Int),iA (A1 (FZ K) (AC K) EI) (AB K) { nx:=qX K (dE Q),rt:=Q } [some (.ref t),some (.int many),some (.int 2305843009213693951),some (.int c'),none] H:=by
   intro c';have body:∀ σ,σ=[some (.ref t),some (.int many),some (.int 2305843009213693951),some (.int c'),none]->AC K { nx:=AB K { nx:=qX K (dE Q),rt:=Q },rt:=Q } σ H:=by
    rintro σ rfl;have prime:(0:Int) < 2305843009213693951:=by decide
    refine⟨_,rfl,_,rfl,ix1 ht ⟨_,_,rfl,rfl,.inl ⟨by decide,by decide⟩,_,_,rfl,rfl,_,rfl,_,_,rfl,rfl,prime,?_⟩⟩;have b1:=Int.emod_nonneg (c'+1000003 * pos) (show (2305843009213693951:Int)≠0 by decide);have b2:=Int.emod_lt_of_pos (c'+1000003 * pos) prime;generalize (c'+1000003 * pos) % 2305843009213693951=c1 at b1 b2;refine⟨_,rfl,_,rfl,_,_,rfl,rfl,.inl ⟨by omega,by omega⟩,_,rfl,_,_,rfl,rfl,.inl ⟨by decide,by decide⟩,_,_,rfl,rfl,_,_,rfl,rfl,_,rfl,_,_,rfl,rfl,prime,?_⟩;have b3:=Int.emod_nonneg (c1 * c1+1181783497276652981 * c1+2049848353892358983) (show (2305843009213693951:Int)≠0 by decide);have b4:=Int.emod_lt_of_pos (c1 * c1+1181783497276652981 * c1+2049848353892358983) prime;generalize (c1 * c1+1181783497276652981 * c1+2049848353892358983) % 2305843009213693951=c2 at b3 b4;refine⟨_,rfl,_,rfl,_,_,rfl,rfl,.inl ⟨by omega,by omega⟩,_,_,rfl,rfl,_,rfl,_,_,rfl,rfl,prime,?_⟩;exact mid _
   refine⟨_,rfl,ix1 ht ⟨_,rfl,ix ht ⟨sl,_,rfl,.inl (bN.of hsl),_,_,rfl,rfl,_,rfl,?_⟩⟩⟩;refine fJ (λ _=>?_) (λ _=>?_)
   ·refine lB ?_;exact body _ rfl
   ·refine⟨_,rfl,_,_,rfl,rfl,⟨by decide,by decide,by decide⟩,_,_,rfl,rfl,_,rfl,?_⟩;refine fJ (λ _=>body _ rfl) (λ _=>mid _)
  refine⟨_,rfl,ix ht ⟨sl,_,rfl,.inl (bN.of hsl),_,_,rfl,rfl,_,rfl,?_⟩⟩;refine fJ (λ hlen=>?_) (λ _=>big 0);have hpos:0 < ns.length:=by have:=abn hlen;simpa using this
  refine⟨_,rfl,ix ht ⟨_,rfl,ix1 ht ⟨_,rfl,ix ht ⟨sl,_,rfl,.inl (bN.of hsl),_,_,rfl,rfl,(show (0:Int) < (((ns.map V.int).length:Nat):Int) by rw[aad];omega),?_⟩⟩⟩⟩;have m1:=Int.emod_nonneg pos (show (((ns.map V.int).length:Nat):Int)≠0 by rw[aad];omega);have m2:=Int.emod_lt_of_pos pos (show (0:Int) < (((ns.map V.int).length:Nat):Int) by rw[aad];omega);rw[aad] at m1 m2;have hix:(ns.map V.int)[(pos % ((ns.map V.int).length:Int)).toNat]? = some (.int (ns[(pos % (ns.length:Int)).toNat]'(by omega))):=by
   rw[aad,aaf];simp [show (pos % (ns.length:Int)).toNat < ns.length by omega]
  refine .inl ⟨sl,_,_,_,rfl,rfl,bN.of hsl,n6 (by rw[aad];exact m1) hix,?_⟩;exact big _
theorem rK {f:Addr}{fd:FuncData} (F:Fun K "_law_draw" "_law_draw" (bQ 35) f fd) (T:Txt mg):FnOk P w K mg base i7 1 f fd ["tape","many"] fE:=
 (jO F T).imp λ vs H Q E ⟨t,sl,many,e,tp,h0,h1,k⟩=>⟨t,sl,many,e,tp,h0,Int.lt_of_lt_of_le h1 (by decide),k⟩
structure Ext (t sl:Addr) (H H':Hp):Prop where
 bt:dS t H H'
 tp:dN H' t sl
theorem dN.some {H:Hp}{t sl:Addr} (h:dN H t sl):∃ o,H t=some o:=by obtain⟨ns,pos,cell,e,_⟩:=h;exact⟨_,e⟩
theorem dN.put {H:Hp}{t sl p:Addr}{o:HO} (h:dN H t sl) (h1:p≠t) (h2:p≠sl):dN (upd H p o) t sl:=by
 obtain⟨ns,pos,cell,e,f,g⟩:=h;exact⟨ns,pos,cell,by rw[aK (Ne.symm h1)];exact e,by rw[aK (Ne.symm h2)];exact f,g⟩
theorem dN.ne_sl {H:Hp}{t sl p:Addr} (h:dN H t sl) (hp:H p=none):p≠sl:=by
 obtain⟨ns,pos,cell,e,f,g⟩:=h;exact λ z=>by rw[z,f] at hp;cases hp
theorem Ext.new {t sl p:Addr}{H H':Hp}{o:HO} (e:Ext t sl H H') (hp:H' p=none):Ext t sl H (upd H' p o):=⟨e.bt.trans (aG.new hp).but,e.tp.same (aG.new hp)⟩
theorem Ext.ne {t sl p:Addr}{H H':Hp} (e:Ext t sl H H') (hp:H' p=none):p≠t:=by
 obtain⟨o,h⟩:=e.tp.some;intro z;rw[z,h] at hp;cases hp
theorem Ext.ts {K:aab}{t sl:Addr}{H H':Hp} (e:Ext t sl H H') (tp:dN H t sl):bP K H H':=e.bt.ts tp.mut
def Gn (t sl:Addr) (σ:St) (H0:Hp) (P:V->Prop) (te:TE):Prop:=∀ H Q,Ext t sl H0 H->(∀ v H',Ext t sl H0 H'->dS t H H'->P v->Q v H')->te σ H Q
section
variable {t sl:Addr}{σ:St}{H0:Hp}{P:V->Prop}{a b c d:TE}
def cH (lo hi:Int):V->Prop:=λ v=>∃ i,v=.int i/\lo<=i/\i < hi
theorem Gn.imp {P':V->Prop} (h:Gn t sl σ H0 P a) (f:∀ v,P v->P' v):Gn t sl σ H0 P' a:=λ H Q e k=>h H Q e λ v H' e' b p=>k v H' e' b (f v p)
theorem jG {v:V} (h:P v):Gn t sl σ H0 P (tC v):=λ H Q e k=>k v H e (dS.refl H) h
theorem J0 {i:Nat}{v:V} (bz:σ[i]? = some (some v)) (h:P v):Gn t sl σ H0 P (cZ i):=λ H Q e k=>⟨v,bz,k v H e (dS.refl H) h⟩
theorem eR (ha:Gn t sl σ H0 P a) (hb:Gn t sl σ H0 P b) (hc:Gn t sl σ H0 (cH 0 2) c):Gn t sl σ H0 P (gN (uY K) (D6 (cI a (cI b jF))) c):=by
 intro H Q e k;refine ha H _ e λ v1 H1 e1 b1 p1=>hb H1 _ e1 λ v2 H2 e2 b2 p2=>⟨(show 2<=sizeLine by decide),λ p hp=>hc _ _ (e2.new hp) λ v H3 e3 b3 ⟨i,hi,h0,h1⟩=>?_⟩;subst hi;have hl:=b3 p _ (e2.ne hp) aB;have hb:dS t H H3:=b1.trans (b2.trans ((aG.new hp).but.trans b3));rcases (show i=0\/i=1 by omega) with rfl | rfl
 ·exact .inl ⟨p,_,0,v1,rfl,rfl,bN.of hl,rfl,k v1 H3 e3 hb p1⟩
 ·exact .inl ⟨p,_,1,v2,rfl,rfl,bN.of hl,rfl,k v2 H3 e3 hb p2⟩
theorem oR (ha:Gn t sl σ H0 P a) (hb:Gn t sl σ H0 P b) (hd:Gn t sl σ H0 P d) (hc:Gn t sl σ H0 (cH 0 3) c):Gn t sl σ H0 P (gN (uY K) (D6 (cI a (cI b (cI d jF)))) c):=by
 intro H Q e k;refine ha H _ e λ v1 H1 e1 b1 p1=>hb H1 _ e1 λ v2 H2 e2 b2 p2=>hd H2 _ e2 λ v4 H4 e4 b4 p4=>⟨(show 3<=sizeLine by decide),λ p hp=>hc _ _ (e4.new hp) λ v H3 e3 b3 ⟨i,hi,h0,h1⟩=>?_⟩;subst hi;have hl:=b3 p _ (e4.ne hp) aB;have hb:dS t H H3:=b1.trans (b2.trans (b4.trans ((aG.new hp).but.trans b3)));rcases (show i=0\/i=1\/i=2 by omega) with rfl | rfl | rfl
 ·exact .inl ⟨p,_,0,v1,rfl,rfl,bN.of hl,rfl,k v1 H3 e3 hb p1⟩
 ·exact .inl ⟨p,_,1,v2,rfl,rfl,bN.of hl,rfl,k v2 H3 e3 hb p2⟩
 ·exact .inl ⟨p,_,2,v4,rfl,rfl,bN.of hl,rfl,k v4 H3 e3 hb p4⟩
theorem rP {i:Nat}{lo hi:Int} (bz:σ[i]? = some (some (.ref t))) (hlo:0 < lo) (hhi:hi<=1000000) (ha:Gn t sl σ H0 (cH lo hi) a):Gn t sl σ H0 (λ v=>∃ r m,v=.int r/\0<=r/\r < m/\lo<=m/\m < hi) (m8 fE [] E0 (cI (cZ i) (cI a jF))):=by
 intro H Q e k;refine⟨_,bz,ha H _ e λ v H1 e1 b1 ⟨m,hm,h0,h1⟩=>?_⟩;subst hm;exact⟨t,sl,m,rfl,e1.tp,by omega,by omega,λ r H2 b2 t2 r0 r1=>k _ H2 ⟨e1.bt.trans b2,t2⟩ (b1.trans b2) ⟨r,m,rfl,r0,r1,h0,h1⟩⟩
theorem bK {i:Nat}{m:Int} (bz:σ[i]? = some (some (.ref t))) (h0:0 < m) (h1:m < 1000000):Gn t sl σ H0 (cH 0 m) (m8 fE [] E0 (cI (cZ i) (cI (tC (.int m)) jF))):=
 (rP (lo:=m) (hi:=m+1) bz h0 (by omega) (jG ⟨m,rfl,by omega,by omega⟩)).imp λ v ⟨r,m',e,a,b,c,d⟩=>⟨r,e,a,by omega⟩
theorem iP {i j:Nat}{m:Int} (bz:σ[i]? = some (some (.ref t))) (hj:σ[j]? = some (some (.int m))) (h0:0 < m) (h1:m < 1000000):Gn t sl σ H0 (cH 0 m) (m8 fE [] E0 (cI (cZ i) (cI (cZ j) jF))):=
 (rP (lo:=m) (hi:=m+1) bz h0 (by omega) (J0 hj ⟨m,rfl,by omega,by omega⟩)).imp λ v ⟨r,m',e,a,b,c,d⟩=>⟨r,e,a,by omega⟩
theorem lU {x y l h:Int} (ha:Gn t sl σ H0 (cH x y) a) (hb:Gn t sl σ H0 (cH l h) b):Gn t sl σ H0 (cH (x+l) (y+h - 1)) (gN (qY λ i j=>.int (i+j)) a b):=by
 intro H Q e k;refine ha H _ e λ v1 H1 e1 b1 ⟨i,hi,i0,i1⟩=>hb H1 _ e1 λ v2 H2 e2 b2 ⟨j,hj,j0,j1⟩=>?_;subst hi hj;exact⟨i,j,rfl,rfl,k _ H2 e2 (b1.trans b2) ⟨_,rfl,by omega,by omega⟩⟩
theorem vU {y m:Int} (hm:0 < m) (hm2:m < 1000000) (ha:Gn t sl σ H0 (cH 0 y) a):Gn t sl σ H0 (λ v=>∃ i,v=.int (i / m)/\0<=i/\i < y) (gN (rI EF λ i j=>.int (i / j)) a (tC (.int m))):=by
 intro H Q e k;refine ha H _ e λ v1 H1 e1 b1 ⟨i,hi,i0,i1⟩=>?_;subst hi;exact⟨i,m,rfl,rfl,⟨hm,by omega⟩,k _ H1 e1 b1 ⟨i,rfl,i0,i1⟩⟩
theorem vT {y c0:Int} (ha:Gn t sl σ H0 (cH 0 y) a):Gn t sl σ H0 (λ v=>∃ b:Bool,v=.bl b) (gN rEq a (tC (.int c0))):=by
 intro H Q e k;refine ha H _ e λ v1 H1 e1 b1 ⟨i,hi,i0,i1⟩=>?_;subst hi;exact⟨rfl,k _ H1 e1 b1 ⟨_,rfl⟩⟩
theorem BQ {y c0:Int} (ha:Gn t sl σ H0 (cH 0 y) a):Gn t sl σ H0 (λ v=>∃ b:Bool,v=.bl b) (gN (qY λ i j=>.bl (decide (j < i))) a (tC (.int c0))):=by
 intro H Q e k;refine ha H _ e λ v1 H1 e1 b1 ⟨i,hi,i0,i1⟩=>?_;subst hi;exact⟨i,c0,rfl,rfl,k _ H1 e1 b1 ⟨_,rfl⟩⟩
abbrev AF:List V->Hp->VK->Prop:=λ xs H Q=>(∃ i,xs=[.int i]/\Q (.int i) H)\/∃ k,xs=[.bl k]/\Q (.int (if k then 1 else 0)) H
theorem BP {i:Nat}{s:Bool} (bz:σ[i]? = some (some (.bl s))):Gn t sl σ H0 (cH 0 2) (HF AF (cI (cZ i) jF)):=by
 intro H Q e k;refine⟨_,bz,.inr ⟨s,rfl,k _ H e (dS.refl H) ?_⟩⟩;cases s
 ·exact⟨0,rfl,by omega,by omega⟩
 ·exact⟨1,rfl,by omega,by omega⟩
theorem mY {i:Nat}{s:Bool}{x y lo hi:Int} (bz:σ[i]? = some (some (.bl s))) (h1:lo<=x/\x < hi) (h2:lo<=y/\y < hi):Gn t sl σ H0 (cH lo hi) (gN (uY K) (D6 (cI (tC (.int x)) (cI (tC (.int y)) jF))) (HF AF (cI (cZ i) jF))):=
 eR (jG ⟨x,rfl,h1.1,h1.2⟩) (jG ⟨y,rfl,h2.1,h2.2⟩) (BP bz)
theorem mZ (ha:Gn t sl σ H0 (cH 0 4) a):Gn t sl σ H0 (cH 0 2) (gN (rI EF λ i j=>.int (i / j)) a (tC (.int 3))):=
 (vU (by decide) (by decide) ha).imp λ v ⟨i,e,a,b⟩=>⟨i / 3,e,by omega,by omega⟩
theorem i5 {lo hi lo' hi':Int} (h:Gn t sl σ H0 (cH lo hi) a) (h1:lo'<=lo) (h2:hi<=hi'):Gn t sl σ H0 (cH lo' hi') a:=h.imp λ v ⟨i,e,a,b⟩=>⟨i,e,by omega,by omega⟩
theorem iQ {i:Nat}{lo hi:Int} (bz:σ[i]? = some (some (.ref t))) (hlo:0 < lo) (hhi:hi<=1000000) (ha:Gn t sl σ H0 (cH lo hi) a):Gn t sl σ H0 (cH 0 (hi - 1)) (m8 fE [] E0 (cI (cZ i) (cI a jF))):=
 (rP bz hlo hhi ha).imp λ v ⟨r,m,e,a,b,c,d⟩=>⟨r,e,a,by omega⟩
end
def uV (K:aab):Sp:=λ args H Q _=>∃ (t sl:Addr) (n:Nat) (small:Bool),args=[.ref t,.int (n:Int),.bl small]/\dN H t sl/\1<=n/\n<=12/\
 ∀ (outs:List (Option Int×Int)) p H',Ext t sl H H'->outs≠[]->outs.length<=3->(∀ o∈outs,OutOk n o)->Is K H' (.tup (outs.map outD)) p->Q p H'
theorem kO:FnScope ["tape","many","small","outs","k","target","parts"] ["tape","many","small"] (aP (bQ 37)):={}
theorem rH {f fD:Addr}{fd fdD:FuncData} (F:Fun K "_law_outs" "_law_outs" (bQ 37) f fd) (T:Txt mg) (G__law_draw:Callee P w K mg base "_law_draw" ["tape","many"] 1 fE fD fdD):FnOk P w K mg base i7 2 f fd ["tape","many","small"] (uV K):=by
 refine F.ok kO (λ vs H Q E h=>?_) (λ cdv A outer s H vs Q E hr h=>?_)
 ·obtain⟨t,sl,n,small,rfl,_⟩:=h;rfl
 ·obtain⟨t,sl,n,small,rfl,tp,n1,n2,k⟩:=h;have sc:=kO;refine⟨_,(aD (aR (i:=3) sc.nd rfl (Or.inl rfl) (bC aC))
   (aD (dP PassesOwn.never rfl (cC rfl T.b_range (aA (aT bX aE (aS (aI (K:=K) rfl) (bC (aA (dF G__law_draw hr (aA (pv 0) (aA aE aC))) (aA (dF G__law_draw hr (aA (pv 0) (aA aE aC))) aC))) (dF G__law_draw hr (aA (pv 0) (aA aE aC))) (λ _ _=>rfl))) aC)) (aF (i:=4) sc.nd rfl (Or.inl rfl)) (aD (aR (i:=5) sc.nd rfl (Or.inl rfl) (aS (aI (K:=K) rfl) (bC (aA eF (aA (dF G__law_draw hr (aA (pv 0) (aA (pv 1) aC))) (aA (dF G__law_draw hr (aA (pv 0) (aA (pv 1) aC))) aC)))) (dF G__law_draw hr (aA (pv 0) (aA aE aC))) (λ _ _=>rfl)))
   (aD (aR (i:=6) sc.nd rfl (Or.inl rfl) (aS (aI (K:=K) rfl) (bC (aA (dF G__law_draw hr (aA (pv 0) (aA aE aC))) (aA (dF G__law_draw hr (aA (pv 0) (aA (aS (aI (K:=K) rfl) (bC (aA aE (aA aE aC))) (aZ gM rfl T.b_int lX (aA (pv 2) aC)) (λ _ _=>rfl)) aC))) aC))) (aT fW (dF G__law_draw hr (aA (pv 0) (aA aE aC))) aE) (λ _ _=>rfl)))
   (aL (d0 (dR (K:=K) rfl aav abh abi cK (pv 3) (aA (bO (aA (pv 5) (aA (aT bX aE (pv 6)) aC))) aC)))))))
   (aL (bF (aZ (cD (K:=K) rfl) rfl T.b_tuple cP (aA (pv 3) aC)))))),?_⟩
  refine⟨abg _,λ ol hol=>?_⟩;have e0:Ext t sl H (upd H ol (.lst [])):=Ext.new ⟨dS.refl H,tp⟩ hol;have no:ol≠t:=Ext.ne ⟨dS.refl H,tp⟩ hol;refine lU (x:=1) (y:=2) (l:=0) (h:=3) (H0:=upd H ol (.lst [])) (t:=t) (sl:=sl) (jG ⟨1,rfl,by omega,by omega⟩)
   (eR (i5 (bK rfl (by decide) (by decide)) (Int.le_refl _) (by decide)) (bK rfl (by decide) (by decide)) (bK rfl (by decide) (by decide))) _ _ ⟨dS.refl _,e0.tp⟩ ?_
  rintro v H1 e1 _ ⟨m,rfl,m0,m1⟩;refine⟨m,rfl,by omega,by omega,?_⟩;refine dW (lo:=0) (n:=m.toNat) (λ i ad H'=>Ext t sl H H'/\∃ (outs:List (Option Int×Int)) (xs:List V),H' ol=some (.lst xs)/\IsL K H' (outs.map outD) xs/\outs.length=i/\(∀ o∈outs,OutOk n o)/\
   ∃ v4 v5 v6,ad=[some (.ref t),some (.int (n:Int)),some (.bl small),some (.ref ol),v4,v5,v6]) ?_ ?_ ?_
  ·exact⟨⟨e0.bt.trans e1.bt,e1.tp⟩,[],[],e1.bt ol _ no aB,.nil,rfl,λ o ho=>(nomatch ho),none,none,none,rfl⟩
  ·rintro i ad H2 hi ⟨e2,outs,xs,ho,hl,hlen,hok,v4,v5,v6,rfl⟩;refine oR (H0:=H2) (t:=t) (sl:=sl) (P:=λ v=>∃ o:Option Int,v=jI o/\∀ z,o=some z->0<=z/\z < n) (jG ⟨none,rfl,λ z h=>nomatch h⟩)
    ((iP (m:=(n:Int)) rfl rfl (by omega) (by omega)).imp λ v ⟨r,e,a,b⟩=>⟨some r,e,λ z h=>by cases h;exact⟨a,by omega⟩⟩)
    ((iP (m:=(n:Int)) rfl rfl (by omega) (by omega)).imp λ v ⟨r,e,a,b⟩=>⟨some r,e,λ z h=>by cases h;exact⟨a,by omega⟩⟩) (bK rfl (by decide) (by decide)) _ _ ⟨dS.refl _,e2.tp⟩ ?_
   rintro v H3 e3 _ ⟨tg,rfl,htg⟩;refine eR (H0:=H3) (t:=t) (sl:=sl) (P:=cH 0 60) (i5 (bK rfl (by decide) (by decide)) (Int.le_refl _) (by decide))
    (i5 (iQ (lo:=3) (hi:=61) rfl (by decide) (by decide) (mY rfl ⟨by decide,by decide⟩ ⟨by decide,by decide⟩)) (Int.le_refl _) (by decide)) (mZ (bK rfl (by decide) (by decide))) _ _ ⟨dS.refl _,e3.tp⟩ ?_
   rintro v H4 e4 _ ⟨pt,rfl,p0,p1⟩;have ho4:H4 ol=some (.lst xs):=e4.bt ol _ no (e3.bt ol _ no ho);refine⟨_,rfl,.inl ⟨rfl,_,bN.of ho4⟩,_,rfl,_,rfl,_,_,rfl,rfl,(show 2<=sizeLine by decide),λ q hq=>?_⟩;have nq:ol≠q:=aJ ho4 hq;have hxl:xs.length=outs.length:=by rw[hl.length,aad]
   have hm3:m.toNat<=3:=by omega
   refine⟨ol,xs,_,rfl,rfl,by rw[aK nq];exact ho4,aO (by omega),?_⟩;have e5:Ext t sl H2 (upd H4 q (.tup [jI tg,.int (1+pt)])):=Ext.new ⟨e3.bt.trans e4.bt,e4.tp⟩ hq;have ts:bP K H2 (upd (upd H4 q (.tup [jI tg,.int (1+pt)])) ol (.lst (xs++[.ref q]))):=bP.put (e5.ts e2.tp) (.inr (by rw[aK nq,ho4];exact trivial));refine⟨⟨λ b o hb e=>?_,?_⟩,outs++[(tg,1+pt)],xs++[.ref q],aB,?_,by simp [hlen],?_,_,_,_,rfl⟩
   ·rw[aK (aJ e hol)];exact e5.bt b o hb (e2.bt b o hb e)
   ·exact e5.tp.put no (dN.ne_sl tp hol)
   ·rw[aam];exact IsL.snoc (Is.tupOf (ds:=[CW tg,.int (1+pt)]) (bP.put (bP.refl _) (.inr (by rw[aK nq,ho4];exact trivial)) _ _ (bM.of aB)) (.cons (Is.tgOf tg) (.cons (Is.i _) .nil))) (IsL.mono ts _ _ hl)
   ·intro o ho;rcases act.mp ho with ho | ho
    ·exact hok o ho
    ·rw[abx.mp ho];exact⟨λ z hz=>htg z hz,by show 1<=1+pt;omega,by show 1+pt<=60;omega⟩
  ·rintro ad H2 ⟨e2,outs,xs,ho,hl,hlen,hok,v4,v5,v6,rfl⟩;refine⟨_,rfl,ol,_,rfl,.inl ⟨bN.of ho,λ l hlf=>?_⟩⟩;refine k outs _ _ (e2.new hlf) (λ z=>by rw[z] at hlen;simp at hlen;omega) (by omega) hok (Is.tupOf (bM.of aB) (IsL.mono (aG.new hlf).ts _ _ hl))
end Tw
namespace L2
theorem x9 {c:TT}{a b:TS}{D:Ends}{σ:St}{H:Hp} (I:St->Hp->Prop) (h1:∀ D':Ends,(∀ ad H',I ad H'->D'.nx ad H')->A1 c a b D' σ H) (h2:∀ ad H',I ad H'->D.nx ad H'):A1 c a b D σ H:=h1 D h2
theorem GR {i:TI}{g:TG}{b:TS}{D:Ends}{σ:St}{H:Hp} (I:St->Hp->Prop) (h1:∀ D':Ends,(∀ ad H',I ad H'->D'.nx ad H')->FP i g b D' σ H) (h2:∀ ad H',I ad H'->D.nx ad H'):FP i g b D σ H:=h1 D h2
end L2
namespace Tw
open PySem L2
section
variable {t sl:Addr}{σ:St}{H0:Hp}{P:V->Prop}{a b c d:TE}
theorem BI {y c0:Int}{t' u':TS}{D':Ends}{H:Hp} (ha:Gn t sl σ H0 (cH 0 y) a) (e:Ext t sl H0 H) (k:∀ (b:Bool) H',Ext t sl H0 H'->dS t H H'->if b=true then t' D' σ H' else u' D' σ H'):A1 (wD (gN rEq a (tC (.int c0)))) t' u' D' σ H:=
 vT ha H _ e λ v H' e' b ⟨c,hc⟩=>⟨c,hc,k c H' e' b⟩
theorem yT {i:Nat}{s:Bool} (bz:σ[i]? = some (some (.bl s))) (ha:Gn t sl σ H0 (cH 0 2) a):Gn t sl σ H0 (cH 0 2) (gN (rI uA λ i j=>.int (i * j)) a (HF AF (cI (EH (cZ i)) jF))):=by
 intro H Q e k;refine ha H _ e λ v1 H1 e1 b1 ⟨j,hj,j0,j1⟩=>⟨_,bz,s,rfl,.inr ⟨!s,rfl,?_⟩⟩;subst hj;refine⟨j,_,rfl,rfl,.inl ⟨by omega,by omega⟩,k _ H1 e1 b1 ?_⟩;cases s
 ·exact⟨j,by simp,j0,j1⟩
 ·exact⟨0,by simp,by omega,by omega⟩
theorem BO {j:Nat}{x y:Int} (hj:σ[j]? = some (some (.int y))):Gn t sl σ H0 (cH (x - y) (x - y+1)) (gN (qY λ i j=>.int (i - j)) (tC (.int x)) (cZ j)):=λ H Q e k=>
 ⟨_,hj,x,y,rfl,rfl,k _ H e (dS.refl H) ⟨_,rfl,by omega,by omega⟩⟩
theorem xE {j:Nat}{y l h:Int} (hj:σ[j]? = some (some (.int y))) (hb:Gn t sl σ H0 (cH l h) b):Gn t sl σ H0 (cH (y+l) (y+h)) (gN (qY λ i j=>.int (i+j)) (cZ j) b):=
 i5 (lU (x:=y) (y:=y+1) (J0 hj ⟨y,rfl,by omega,by omega⟩) hb) (by omega) (by omega)
end
structure VFull (i:Nat) (v:Vs):Prop where
 sz:v.size<=60
 br:v.size<=v.brim
 bh:v.brim<=200
 sp:∀ t,v.spill=some t->(i:Int) < t
structure NetFull (net:Net):Prop where
 vs:∀ i v,net.vs[i]? = some v->VFull i v
 sps:∀ s∈net.sps,0<=s.2.1/\s.2.1<=60
def nU (K:aab):Sp:=λ args H Q _=>∃ (t sl:Addr) (i n m:Nat) (small:Bool),args=[.ref t,.int (i:Int),.int (n:Int),.int (m:Int),.bl small]/\dN H t sl/\i < n/\n<=12/\m<=12/\
 ∀ (v:Vs) p H',Ext t sl H H'->VOk n m v->VFull i v->Is K H' (sR v) p->Q p H'
theorem iI:FnScope ["tape","number","many","spouts","small","size","brim","spill","acts","k"] ["tape","number","many","spouts","small"] (aP (bQ 38)):={}
theorem oG {f fD fO:Addr}{fd fdD fdO:FuncData} (F:Fun K "_law_vessel" "_law_vessel" (bQ 38) f fd) (T:Txt mg) (G__law_draw:Callee P w K mg base "_law_draw" ["tape","many"] 1 fE fD fdD)
  (G__law_outs:Callee P w K mg base "_law_outs" ["tape","many","small"] 2 (uV K) fO fdO):FnOk P w K mg base i7 3 f fd ["tape","number","many","spouts","small"] (nU K):=by
 refine F.ok iI (λ vs H Q E h=>?_) (λ cdv A outer s H vs Q E hr h=>?_)
 ·obtain⟨t,sl,i,n,m,small,rfl,_⟩:=h;rfl
 ·obtain⟨t,sl,i,n,m,small,rfl,tp,hi,hn,hm,k⟩:=h;have sc:=iI;refine⟨_,(aD (aR (i:=5) sc.nd rfl (Or.inl rfl) (aT bX aE (aS (aI (K:=K) rfl) (bC (aA (dF G__law_draw hr (aA (pv 0) (aA (aS (aI (K:=K) rfl) (bC (aA aE (aA aE aC))) (aZ gM rfl T.b_int lX (aA (pv 4) aC)) (λ _ _=>rfl)) aC))) (aA (dF G__law_draw hr (aA (pv 0) (aA (aS (aI (K:=K) rfl) (bC (aA aE (aA aE aC))) (aZ gM rfl T.b_int lX (aA (pv 4) aC)) (λ _ _=>rfl)) aC))) aC))) (aT fW (dF G__law_draw hr (aA (pv 0) (aA aE aC))) aE) (λ _ _=>rfl))))
   (aD (aR (i:=6) sc.nd rfl (Or.inl rfl) (aT bX (pv 5) (aS (aI (K:=K) rfl) (bC (aA aE (aA (dF G__law_draw hr (aA (pv 0) (aA (aT gX aE (pv 5)) aC))) aC))) (aT iL (dF G__law_draw hr (aA (pv 0) (aA aE aC))) (aZ gM rfl T.b_int lX (aA (r8 (pv 4)) aC))) (λ _ _=>rfl))))
   (aD (dL (bL iM (dF G__law_draw hr (aA (pv 0) (aA aE aC))) aE (bR _)) (aL (aR (i:=6) sc.nd rfl (Or.inl rfl) (aT bX (pv 5) (dF G__law_draw hr (aA (pv 0) (aA aE aC)))))) bV)
   (aD (aR (i:=7) sc.nd rfl (Or.inl rfl) eF)
   (aD (dL (PW.pt (vA (bL tG (aT bX (pv 1) aE) (pv 2) (bR _)) (qZ (bL iM (dF G__law_draw hr (aA (pv 0) (aA aE aC))) aE (bR _))))) (aL (aR (i:=7) sc.nd rfl (Or.inl rfl) (aT bX (aT bX (pv 1) aE) (dF G__law_draw hr (aA (pv 0) (aA (aT gX (aT gX (pv 2) (pv 1)) aE) aC)))))) bV)
   (aD (aR (i:=8) sc.nd rfl (Or.inl rfl) (bC aC))
   (aD (dL (bL wO (pv 3) aE (bR _)) (aL (dP PassesOwn.never rfl (cC rfl T.b_range (aA (aT fW (dF G__law_draw hr (aA (pv 0) (aA aE aC))) aE) aC)) (aF (i:=9) sc.nd rfl (Or.inl rfl)) (aL (d0 (dR (K:=K) rfl aav abh abi cK (pv 8) (aA (bO (aA (aS (aI (K:=K) rfl) (bC (aA dA (aA dA (aA dA aC)))) (dF G__law_draw hr (aA (pv 0) (aA aE aC))) (λ _ _=>rfl)) (aA (dF G__law_draw hr (aA (pv 0) (aA (pv 3) aC))) aC))) aC)))))) bV)
   (aL (bF (bO (aA (pv 5) (aA (pv 6) (aA (dF G__law_outs hr (aA (pv 0) (aA (pv 2) (aA (pv 4) aC)))) (aA (kR iM (dF G__law_draw hr (aA (pv 0) (aA aE aC))) aE (bR _)) (aA (pv 7) (aA (aZ (cD (K:=K) rfl) rfl T.b_tuple cP (aA (pv 8) aC)) aC)))))))))))))))),?_⟩
  refine lU (t:=t) (sl:=sl) (H0:=H) (x:=1) (y:=2) (l:=0) (h:=60) (jG ⟨1,rfl,by omega,by omega⟩)
   (eR (i5 (iQ (lo:=4) (hi:=10) rfl (by decide) (by decide) (mY rfl ⟨by decide,by decide⟩ ⟨by decide,by decide⟩)) (Int.le_refl _) (by decide))
    (i5 (iQ (lo:=4) (hi:=61) rfl (by decide) (by decide) (mY rfl ⟨by decide,by decide⟩ ⟨by decide,by decide⟩)) (Int.le_refl _) (by decide)) (mZ (bK rfl (by decide) (by decide)))) _ _ ⟨dS.refl _,tp⟩ ?_
  rintro v H1 e1 _ ⟨size,rfl,s0,s1⟩;refine xE (t:=t) (sl:=sl) (H0:=H) (y:=size) (l:=0) (h:=201 - size) rfl (eR (jG ⟨0,rfl,by omega,by omega⟩)
   (i5 (iQ (lo:=201 - size) (hi:=201 - size+1) rfl (by omega) (by omega) (BO rfl)) (Int.le_refl _) (by omega)) (yT rfl (bK rfl (by decide) (by decide)))) _ _ e1 ?_
  rintro v H2 e2 _ ⟨brim,rfl,br0,br1⟩;dsimp only [iA,iB,tC,dU];refine x9 (λ ad H'=>Ext t sl H H'/\∃ brim,size<=brim/\brim<=200/\ad=[some (.ref t),some (.int (i:Int)),some (.int (n:Int)),some (.int (m:Int)),some (.bl small),some (.int size),some (.int brim),none,none,none]) (λ D' hD=>?_) ?_
  ·refine BI (t:=t) (sl:=sl) (H0:=H) (bK rfl (by decide) (by decide)) e2 λ b H3 e3 _=>?_;cases b with
   | false=>exact g6 (hD _ _ ⟨e3,brim,by omega,by omega,rfl⟩)
   | true=>
    refine lB ?_;refine xE (t:=t) (sl:=sl) (H0:=H) (y:=size) (l:=0) (h:=3) rfl (bK rfl (by decide) (by decide)) _ _ e3 ?_;rintro v H4 e4 _ ⟨b2,rfl,c0,c1⟩;exact hD _ _ ⟨e4,b2,by omega,by omega,rfl⟩
  rintro aq H3 ⟨e3,brim,hb1,hb2,rfl⟩;dsimp only [iA,iB,tC,dU];refine x9 (λ ad H'=>Ext t sl H H'/\∃ sp:Option Int,(∀ z,sp=some z->(0<=z/\z < n)/\(i:Int) < z)/\ad=[some (.ref t),some (.int (i:Int)),some (.int (n:Int)),some (.int (m:Int)),some (.bl small),some (.int size),some (.int brim),some (jI sp),none,none]) (λ D' hD=>?_) ?_
  ·refine⟨_,rfl,_,_,rfl,rfl,_,rfl,_,_,rfl,rfl,_,rfl,?_⟩;refine fJ (λ hlt=>?_) (λ _=>g6 (hD _ _ ⟨e3,none,(λ z h=>nomatch h),rfl⟩));have hlt':(i:Int)+1 < n:=abn hlt;refine vT (t:=t) (sl:=sl) (H0:=H) (bK rfl (by decide) (by decide)) _ _ e3 ?_;rintro v H4 e4 _ ⟨b,rfl⟩;refine⟨b,rfl,?_⟩;cases b with
   | false=>exact g6 (hD _ _ ⟨e4,none,(λ z h=>nomatch h),rfl⟩)
   | true=>
    refine lB ?_;refine⟨_,rfl,_,_,rfl,rfl,_,rfl,_,rfl,_,rfl,_,_,rfl,rfl,_,_,rfl,rfl,t,sl,(n:Int) - i - 1,rfl,e4.tp,by omega,by omega,λ r H5 b5 t5 r0 r1=>⟨_,_,rfl,rfl,?_⟩⟩;exact hD _ _ ⟨⟨e4.bt.trans b5,t5⟩,some ((i:Int)+1+r),λ z h=>by cases h;omega,rfl⟩
  rintro σ4 H4 ⟨e4,sp,hsp,rfl⟩;refine⟨abg _,λ al hal=>?_⟩;dsimp only [iA,iB,tC,dU];have fal:H al=none:=e4.bt.free (e4.ne hal) hal;have nal:al≠t:=e4.ne hal;refine x9 (λ ad H'=>Ext t sl H H'/\∃ (acts:List (Str×Int)) (xs:List V),H' al=some (.lst xs)/\L2.IsL K H' (acts.map w6) xs/\acts.length<=3/\(∀ a∈acts,ActOk m a)/\
   ∃ v9,ad=[some (.ref t),some (.int (i:Int)),some (.int (n:Int)),some (.int (m:Int)),some (.bl small),some (.int size),some (.int brim),some (jI sp),some (.ref al),v9]) (λ D' hD=>?_) ?_
  ·refine⟨_,rfl,_,_,rfl,rfl,_,rfl,?_⟩;refine fJ (λ hlt=>?_) (λ _=>hD _ _ ⟨e4.new hal,[],[],aB,.nil,by simp,λ a ha=>(nomatch ha),none,rfl⟩);have hm0:(0:Int) < m:=abn hlt;refine vU (t:=t) (sl:=sl) (H0:=H) (by decide) (by decide) (bK (m:=11) rfl (by decide) (by decide)) _ _ (e4.new hal) ?_;rintro v H5 e5 b5 ⟨c,rfl,c0,c1⟩;refine⟨_,rfl,by omega,by omega,?_⟩;refine dW (lo:=0) (n:=(c / 3).toNat) (λ j ad H'=>Ext t sl H H'/\∃ (acts:List (Str×Int)) (xs:List V),H' al=some (.lst xs)/\L2.IsL K H' (acts.map w6) xs/\acts.length=j/\(∀ a∈acts,ActOk m a)/\
    ∃ v9,ad=[some (.ref t),some (.int (i:Int)),some (.int (n:Int)),some (.int (m:Int)),some (.bl small),some (.int size),some (.int brim),some (jI sp),some (.ref al),v9]) ?_ ?_ ?_
   ·exact⟨e5,[],[],b5 al _ nal aB,.nil,rfl,λ a ha=>(nomatch ha),none,rfl⟩
   ·rintro j ad H6 hj ⟨e6,acts,xs,ha,hl,hlen,hok,v9,rfl⟩;refine⟨_,rfl,.inl ⟨rfl,_,bN.of ha⟩,?_⟩;refine oR (t:=t) (sl:=sl) (H0:=H) (P:=λ v=>∃ wd:Str,v=.str wd/\(wd = "open" \/ wd = "shut" \/ wd = "turn")) (jG ⟨_,rfl,.inl rfl⟩) (jG ⟨_,rfl,.inr (.inl rfl)⟩) (jG ⟨_,rfl,.inr (.inr rfl)⟩) (bK rfl (by decide) (by decide)) _ _ e6 ?_;rintro v H7 e7 b7 ⟨wd,rfl,hwd⟩;refine iP (t:=t) (sl:=sl) (H0:=H) (m:=(m:Int)) rfl rfl hm0 (by omega) _ _ e7 ?_;rintro v H8 e8 b8 ⟨r,rfl,r0,r1⟩;refine⟨(show 2<=sizeLine by decide),λ q hq=>?_⟩;have ha8:H8 al=some (.lst xs):=b8 al _ nal (b7 al _ nal ha);have nq:al≠q:=aJ ha8 hq;have hxl:xs.length=acts.length:=by rw[hl.length,aad]
    refine⟨al,xs,_,rfl,rfl,by rw[aK nq];exact ha8,aO (by omega),?_⟩;have e9:Ext t sl H (upd H8 q (.tup [.str wd,.int r])):=e8.new hq;have mt:qM (upd H8 q (.tup [.str wd,.int r]) al):=by rw[aK nq,ha8];exact trivial
    have ts:bP K H6 (upd (upd H8 q (.tup [.str wd,.int r])) al (.lst (xs++[.ref q]))):=bP.put (((b7.trans b8).trans (aG.new hq).but).ts e6.tp.mut) (.inr mt);refine⟨⟨λ b o hb e=>?_,e9.tp.put nal (dN.ne_sl tp fal)⟩,acts++[(wd,r)],xs++[.ref q],aB,?_,by simp [hlen],?_,_,rfl⟩
    ·rw[aK (aJ e fal)];exact e9.bt b o hb e
    ·rw[aam];exact L2.IsL.snoc (Is.tupOf (ds:=[.str wd,.int r]) (bP.put (bP.refl _) (.inr mt) _ _ (bM.of aB)) (.cons (Is.s _) (.cons (Is.i _) .nil))) (L2.IsL.mono ts _ _ hl)
    ·intro a ha';rcases act.mp ha' with ha' | ha'
     ·exact hok a ha'
     ·rw[abx.mp ha'];exact⟨hwd,r0,r1⟩
   ·rintro ad H6 ⟨e6,acts,xs,ha,hl,hlen,hok,v9,rfl⟩;exact hD _ _ ⟨e6,acts,xs,ha,hl,by omega,hok,v9,rfl⟩
  rintro cm H5 ⟨e5,acts,xs,ha,hl,hlen,hok,v9,rfl⟩;refine⟨_,rfl,_,rfl,_,rfl,_,rfl,_,rfl,t,sl,n,small,rfl,e5.tp,by omega,hn,λ outs p H6 e6 o1 o2 o3 hp=>?_⟩;refine vT (t:=t) (sl:=sl) (H0:=H) (bK rfl (by decide) (by decide)) _ _ ⟨e5.bt.trans e6.bt,e6.tp⟩ ?_;rintro v H7 e7 b7 ⟨b,rfl⟩;have ha7:H7 al=some (.lst xs):=b7 al _ nal (e6.bt al _ nal ha);have b57:dS t H5 H7:=e6.bt.trans b7;refine⟨_,rfl,_,rfl,al,_,rfl,.inl ⟨bN.of ha7,λ q hq=>⟨(show 6<=sizeLine by decide),λ r hr'=>?_⟩⟩⟩;have m1:=aG.new (o:=HO.tup xs) hq;have m2:aG (upd H7 q (.tup xs)) (upd (upd H7 q (.tup xs)) r (.tup [.int size,.int brim,p,.bl b,jI sp,.ref q])):=aG.new hr';refine k ⟨size,brim,outs,b,sp,acts⟩ _ _ ((e7.new hq).new hr') ⟨s0,o1,o2,o3,λ z h=>(hsp z h).1,hlen,hok⟩ ⟨by show size<=60;omega,hb1,hb2,λ z h=>(hsp z h).2⟩ ?_;refine Is.tupOf (bM.of aB) (.cons (Is.i _) (.cons (Is.i _) (.cons ?_ (.cons (Is.b _) (.cons (Is.tgOf _) (.cons ?_ .nil))))))
  ·exact Is.mono m2.ts _ _ (Is.mono m1.ts _ _ (Is.mono (b7.ts e6.tp.mut) _ _ hp))
  ·exact Is.mono m2.ts _ _ (Is.tupOf (bM.of aB) (L2.IsL.mono m1.ts _ _ (L2.IsL.mono (b57.ts e5.tp.mut) _ _ hl)))
theorem Ext.put {t sl p:Addr}{H H':Hp}{o:HO} (e:Ext t sl H H') (tp:dN H t sl) (hp:H p=none):Ext t sl H (upd H' p o):=
 ⟨λ b u hb e1=>by rw[aK (aJ e1 hp)];exact e.bt b u hb e1,e.tp.put (λ z=>by obtain⟨o,h⟩:=tp.some;rw[z,h] at hp;cases hp) (dN.ne_sl tp hp)⟩
theorem Ext.trans {t sl:Addr}{H H1 H2:Hp} (a:Ext t sl H H1) (b:Ext t sl H1 H2):Ext t sl H H2:=⟨a.bt.trans b.bt,b.tp⟩
def uW (K:aab):Sp:=λ args H Q _=>∃ (t sl:Addr) (most:Int) (small:Bool),args=[.ref t,.int most,.bl small]/\1<=most/\most<=12/\dN H t sl/\
 ∀ (net:Net) p H',Ext t sl H H'->NetOk net->NetFull net->(net.vs.length:Int)<=most->Is K H' (eX net) p->Q p H'
theorem mC:FnScope ["tape","most","small","many","spouts","vessels","found","k","flow"] ["tape","most","small"] (aP (bQ 39)):={}
theorem rJ {f fD fV:Addr}{fd fdD fdV:FuncData} (F:Fun K "_law_net" "_law_net" (bQ 39) f fd) (T:Txt mg) (G__law_draw:Callee P w K mg base "_law_draw" ["tape","many"] 1 fE fD fdD)
  (G__law_vessel:Callee P w K mg base "_law_vessel" ["tape","number","many","spouts","small"] 3 (nU K) fV fdV):FnOk P w K mg base i7 4 f fd ["tape","most","small"] (uW K):=by
 refine F.ok mC (λ vs H Q E h=>?_) (λ cdv A outer s H vs Q E hr h=>?_)
 ·obtain⟨t,sl,most,small,rfl,_⟩:=h;rfl
 ·obtain⟨t,sl,most,small,rfl,mo1,mo2,tp,k⟩:=h;have sc:=mC;refine⟨_,(aD (aR (i:=3) sc.nd rfl (Or.inr rfl) (aT bX aE (dF G__law_draw hr (aA (pv 0) (aA (pv 1) aC)))))
   (aD (aR (i:=4) sc.nd rfl (Or.inr rfl) (aS (aI (K:=K) rfl) (bC (aA (dF G__law_draw hr (aA (pv 0) (aA aE aC))) (aA (dF G__law_draw hr (aA (pv 0) (aA aE aC))) aC))) (aT fW (dF G__law_draw hr (aA (pv 0) (aA aE aC))) aE) (λ _ _=>rfl)))
   (aD (gD (i:=5) sc.nd rfl rfl (λ _ _ h=>h) rfl (LcOk.mk (N':=["k","tape","many","spouts","small"]) (fr:=[none,some 0,some 3,some 4,some 2]) rfl ⟨rfl,rfl,rfl,rfl,trivial⟩ rfl rfl rfl rfl rfl ⟨⟨_,rfl,rfl,rfl,rfl⟩,⟨_,rfl,rfl,rfl,rfl⟩,⟨_,rfl,rfl,rfl,rfl⟩,⟨_,rfl,rfl,rfl,rfl⟩,trivial⟩) (cC rfl T.b_range (aA (pv 3) aC)) (λ _ _ _=>(aF (i:=0) (show (["k","tape","many","spouts","small"]:List Str).Nodup by decide +kernel) rfl (Or.inl rfl) (Or.inr rfl))) (λ _ _ _=>dG) (λ _ _ _=>(dF G__law_vessel hr (aA (pv 1) (aA (pv 0) (aA (pv 2) (aA (pv 3) (aA (pv 4) aC))))))))
   (aD (aR (i:=6) sc.nd rfl (Or.inl rfl) (bC aC))
   (aD (dP PassesOwn.never rfl (cC rfl T.b_range (aA (pv 4) aC)) (aF (i:=7) sc.nd rfl (Or.inl rfl)) (aD (aR (i:=8) sc.nd rfl (Or.inl rfl) (aS (aI (K:=K) rfl) (bC (aA (dF G__law_draw hr (aA (pv 0) (aA aE aC))) (aA (dF G__law_draw hr (aA (pv 0) (aA (aS (aI (K:=K) rfl) (bC (aA aE (aA aE aC))) (aZ gM rfl T.b_int lX (aA (pv 2) aC)) (λ _ _=>rfl)) aC))) aC))) (aT fW (dF G__law_draw hr (aA (pv 0) (aA aE aC))) aE) (λ _ _=>rfl)))
   (aL (d0 (dR (K:=K) rfl aav abh abi cK (pv 6) (aA (bO (aA (dF G__law_draw hr (aA (pv 0) (aA (pv 3) aC))) (aA (pv 8) (aA (kR wO (dF G__law_draw hr (aA (pv 0) (aA aE aC))) aE (bR _)) aC)))) aC))))))
   (aL (bF (bO (aA (aZ (cD (K:=K) rfl) rfl T.b_tuple cP (aA (pv 5) aC)) (aA (aZ (cD (K:=K) rfl) rfl T.b_tuple cP (aA (pv 6) aC)) aC)))))))))),?_⟩
  refine lU (t:=t) (sl:=sl) (H0:=H) (x:=1) (y:=2) (l:=0) (h:=most) (jG ⟨1,rfl,by omega,by omega⟩) (iP (m:=most) rfl rfl (by omega) (by omega)) _ _ ⟨dS.refl _,tp⟩ ?_;rintro v H1 e1 _ ⟨n',rfl,n0,n1⟩;obtain⟨n,rfl⟩:=Int.eq_ofNat_of_zero_le (show 0<=n' by omega);refine eR (t:=t) (sl:=sl) (H0:=H) (P:=cH 0 13) (i5 (bK rfl (by decide) (by decide)) (Int.le_refl _) (by decide)) (bK rfl (by decide) (by decide)) (mZ (bK rfl (by decide) (by decide))) _ _ e1 ?_;rintro v H2 e2 _ ⟨m',rfl,m0,m1⟩;obtain⟨m,rfl⟩:=Int.eq_ofNat_of_zero_le m0;refine⟨_,rfl,_,rfl,by omega,by omega,?_⟩;refine fI (n:=n) (λ D i r ad H'=>H2 D=none/\Ext t sl H H'/\H' D=some (.lst r)/\∃ vs:List Vs,vs.length=i/\L2.IsL K H' (vs.map sR) r/\(∀ v∈vs,VOk n m v)/\(∀ i v,vs[i]? = some v->VFull i v)/\∃ v0,ad=[v0,some (.ref t),some (.int (n:Int)),some (.int (m:Int)),some (.bl small)])
   (λ D hD=>⟨hD,e2.new hD,aB,[],rfl,.nil,(λ v hv=>nomatch hv),(λ i v hv=>by simp at hv),none,rfl⟩) ?_ ?_
  rotate_left
  ·rintro D i r ad H3 hi ⟨hD,e3,hl,vs,hlen,hvl,hok,hfu,v0,rfl⟩;refine eC ?_;refine⟨_,rfl,_,rfl,_,rfl,_,rfl,_,rfl,t,sl,i,n,m,small,rfl,e3.tp,hi,by omega,by omega,λ v p H4 e4 vok vfu hp=>?_⟩;have nD:D≠t:=e2.ne hD;have fD:H D=none:=e2.bt.free nD hD;have hl4:H4 D=some (.lst r):=e4.bt D _ nD hl;have hrl:r.length=vs.length:=by rw[hvl.length,aad]
   have mt:qM (H4 D):=by rw[hl4];exact trivial
   refine⟨hl4,aO (by omega),hD,(e3.trans e4).put tp fD,aB,vs++[v],by simp [hlen],?_,?_,?_,_,rfl⟩
   ·rw[aam];exact L2.IsL.snoc (Is.mono (bP.put (bP.refl _) (.inr mt)) _ _ hp) (L2.IsL.mono (bP.put (e4.bt.ts e3.tp.mut) (.inr mt)) _ _ hvl)
   ·intro u hu;rcases act.mp hu with hu | hu
    ·exact hok u hu
    ·rw[abx.mp hu];exact vok
   ·intro j u hu;rcases Nat.lt_or_ge j vs.length with hj | hj
    ·rw[acj hj] at hu;exact hfu j u hu
    ·rw[aci hj] at hu;have e0:j - vs.length=0:=by
      rcases Nat.eq_zero_or_pos (j - vs.length) with h | h
      ·exact h
      ·rw[aco (show [v].length<=j - vs.length from h)] at hu;cases hu
     rw[e0] at hu;have e1:j=i:=by omega
     cases hu;rw[e1];exact vfu
  rintro D r ad H3 ⟨hD,e3,hl,vs,hlen,hvl,hok,hfu,_⟩;have nD:D≠t:=e2.ne hD;have fD:H D=none:=e2.bt.free nD hD;refine⟨abg _,λ fl hfl=>?_⟩;have nf:fl≠t:=e3.ne hfl;have ff:H fl=none:=e3.bt.free nf hfl;have nDf:D≠fl:=aJ hl hfl;refine⟨_,rfl,_,rfl,by omega,by omega,?_⟩;refine dW (lo:=0) (n:=m) (λ j ad H'=>Ext t sl H H'/\H' D=some (.lst r)/\L2.IsL K H' (vs.map sR) r/\∃ (sps:List xR) (xs:List V),H' fl=some (.lst xs)/\L2.IsL K H' (sps.map EJ) xs/\sps.length=j/\(∀ s∈sps,(0<=s.1/\s.1 < n)/\0<=s.2.1/\s.2.1<=60)/\
   ∃ v7 v8,ad=[some (.ref t),some (.int most),some (.bl small),some (.int (n:Int)),some (.int (m:Int)),some (.ref D),some (.ref fl),v7,v8]) ?_ ?_ ?_
  ·exact⟨e3.new hfl,by rw[aK nDf];exact hl,L2.IsL.mono (aG.new hfl).ts _ _ hvl,[],[],aB,.nil,rfl,(λ s hs=>nomatch hs),none,none,rfl⟩
  ·rintro j ad H4 hj ⟨e4,hl4,hv4,sps,xs,hf4,hs4,hslen,hsok,v7,v8,rfl⟩;refine eR (t:=t) (sl:=sl) (H0:=H) (P:=cH 0 61) (i5 (bK rfl (by decide) (by decide)) (Int.le_refl _) (by decide))
    (i5 (iQ (lo:=4) (hi:=62) rfl (by decide) (by decide) (mY rfl ⟨by decide,by decide⟩ ⟨by decide,by decide⟩)) (Int.le_refl _) (by decide)) (mZ (bK rfl (by decide) (by decide))) _ _ e4 ?_
   rintro v H5 e5 b5 ⟨flow,rfl,fl0,fl1⟩;have hf5:H5 fl=some (.lst xs):=b5 fl _ nf hf4;refine⟨_,rfl,.inl ⟨rfl,_,bN.of hf5⟩,?_⟩;refine iP (t:=t) (sl:=sl) (H0:=H) (m:=(n:Int)) rfl rfl (by omega) (by omega) _ _ e5 ?_;rintro v H6 e6 b6 ⟨tg,rfl,tg0,tg1⟩;refine⟨_,rfl,?_⟩;refine BQ (t:=t) (sl:=sl) (H0:=H) (bK rfl (by decide) (by decide)) _ _ e6 ?_;rintro v H7 e7 b7 ⟨dr,rfl⟩;refine⟨(show 3<=sizeLine by decide),λ q hq=>?_⟩;have b47:dS t H4 H7:=b5.trans (b6.trans b7);have hf7:H7 fl=some (.lst xs):=b47 fl _ nf hf4;have hl7:H7 D=some (.lst r):=b47 D _ nD hl4;have nq:fl≠q:=aJ hf7 hq;have nDq:D≠q:=aJ hl7 hq;have hxl:xs.length=sps.length:=by rw[hs4.length,aad]
   refine⟨fl,xs,_,rfl,rfl,by rw[aK nq];exact hf7,aO (by omega),?_⟩;have mt:qM (upd H7 q (.tup [.int tg,.int flow,.bl dr]) fl):=by rw[aK nq,hf7];exact trivial
   have ts:bP K H4 (upd (upd H7 q (.tup [.int tg,.int flow,.bl dr])) fl (.lst (xs++[.ref q]))):=bP.put ((b47.trans (aG.new hq).but).ts e4.tp.mut) (.inr mt);refine⟨(e7.new hq).put tp ff,by rw[aK nDf,aK nDq];exact hl7,L2.IsL.mono ts _ _ hv4,sps++[(tg,flow,dr)],xs++[.ref q],aB,?_,by simp [hslen],?_,_,_,rfl⟩
   ·rw[aam];exact L2.IsL.snoc (Is.tupOf (ds:=[.int tg,.int flow,.bl dr]) (bP.put (bP.refl _) (.inr mt) _ _ (bM.of aB)) (.cons (Is.i _) (.cons (Is.i _) (.cons (Is.b _) .nil)))) (L2.IsL.mono ts _ _ hs4)
   ·intro s hs;rcases act.mp hs with hs | hs
    ·exact hsok s hs
    ·rw[abx.mp hs];exact⟨⟨tg0,tg1⟩,fl0,show flow<=60 by omega⟩
  ·rintro ad H4 ⟨e4,hl4,hv4,sps,xs,hf4,hs4,hslen,hsok,v7,v8,rfl⟩;refine⟨_,rfl,D,_,rfl,.inl ⟨bN.of hl4,λ q1 hq1=>⟨_,rfl,fl,_,rfl,.inl ⟨bN.of (aG.new hq1 _ _ hf4),λ q2 hq2=>⟨(show 2<=sizeLine by decide),λ q3 hq3=>?_⟩⟩⟩⟩⟩;have m1:aG H4 (upd H4 q1 (.tup r)):=aG.new hq1;have m2:aG (upd H4 q1 (.tup r)) (upd (upd H4 q1 (.tup r)) q2 (.tup xs)):=aG.new hq2;have m3:aG (upd (upd H4 q1 (.tup r)) q2 (.tup xs)) (upd (upd (upd H4 q1 (.tup r)) q2 (.tup xs)) q3 (.tup [.ref q1,.ref q2])):=aG.new hq3;refine k ⟨vs,sps⟩ _ _ (((e4.new hq1).new hq2).new hq3) ⟨by show 1<=vs.length;omega,by show vs.length<=12;omega,by show sps.length<=12;omega,λ v hv=>by rw[hlen,hslen];exact hok v hv,λ s hs=>by rw[hlen];exact (hsok s hs).1⟩ ⟨hfu,λ s hs=>(hsok s hs).2⟩ (by show (vs.length:Int)<=most;omega) ?_;refine Is.tupOf (bM.of aB) (.cons (Is.tupOf (m3.tup (m2.tup (bM.of aB))) ?_) (.cons (Is.tupOf (m3.tup (bM.of aB)) ?_) .nil))
   ·exact L2.IsL.mono m3.ts _ _ (L2.IsL.mono m2.ts _ _ (L2.IsL.mono m1.ts _ _ hv4))
   ·exact L2.IsL.mono m3.ts _ _ (L2.IsL.mono m2.ts _ _ (L2.IsL.mono m1.ts _ _ hs4))
theorem AA:∀ n:Nat,(List.replicate n [V.int 0]).flatten=(List.replicate n (0:Int)).map V.int
 | 0=>rfl
 | n+1=>by rw[List.replicate_succ,List.replicate_succ,List.flatten_cons,AA n,abe];rfl
def d7 (n:Nat):List Int:=List.replicate n 0
def iX (K:aab):Sp:=λ args H Q _=>∃ (x:V) (net:Net),args=[x]/\Is K H (eX net) x/\NetOk net/\
 ∀ p H',aG H H'->Is K H' (uB (d7 net.vs.length) (d7 net.vs.length) (net.sps.map (·.2.2))) p->Q p H'
theorem iH:FnScope ["net","vessels","spouts","empty"] ["net"] (aP (bQ 1)):={}
theorem oF {f:Addr}{fd:FuncData} (F:Fun K "first_state" "first_state" (bQ 1) f fd) (T:Txt mg):FnOk P w K mg base i7 1 f fd ["net"] (iX K):=by
 refine F.ok iH (λ vs H Q E h=>?_) (λ cdv A outer s H vs Q E hr h=>?_)
 ·obtain⟨x,net,rfl,_⟩:=h;rfl
 ·obtain⟨x,net,rfl,hx,nok,k⟩:=h;have sc:=iH;refine⟨_,(aD (cF (pv 0) (bD (K:=K) (n:=2) rfl rfl (aH (aF (i:=1) sc.nd rfl (Or.inl rfl)) (aH (aF (i:=2) sc.nd rfl (Or.inl rfl)) bB))))
   (aD (aR (i:=3) sc.nd rfl (Or.inl rfl) (aT (oB (K:=K) rfl) (bO (aA aE aC)) (aN (bE (K:=K) rfl) rfl T.b_len aba (aA (pv 1) aC))))
   (aL (bF (bO (aA (pv 3) (aA (pv 3) (aA (aZ (cD (K:=K) rfl) rfl T.b_tuple cP (aA (fU (λ _ _ h=>h) rfl (LcOk.mk (N':=["target","flow","door"]) (fr:=[none,none,none]) rfl trivial rfl rfl rfl rfl rfl trivial) (eL (K:=K) rfl (pv 2)) (λ _ _ _=>(bD (K:=K) (n:=3) rfl rfl (aH (aF (i:=0) (show (["target","flow","door"]:List Str).Nodup by decide +kernel) rfl (Or.inl rfl) (Or.inr rfl)) (aH (aF (i:=1) (show (["target","flow","door"]:List Str).Nodup by decide +kernel) rfl (Or.inl rfl) (Or.inr rfl)) (aH (aF (i:=2) (show (["target","flow","door"]:List Str).Nodup by decide +kernel) rfl (Or.inl rfl) (Or.inr rfl)) bB))))) (λ _ _ _=>dG) (λ _ _ _=>(pv 2))) aC)) aC)))))))),?_⟩
  obtain⟨a,b,c,xs,ys,rfl,q,q1,l1,q2,l2⟩:=dM hx;have exl:xs.length=net.vs.length:=by rw[l1.length,aad]
  have eyl:ys.length=net.sps.length:=by rw[l2.length,aad]
  have n1:=nok.lo;have n2:=nok.hi;have n3:=nok.sp;refine⟨_,rfl,a,_,rfl,q,rfl,_,_,rfl,_,_,rfl,rfl,?_⟩;refine⟨(show 1<=sizeLine by decide),λ z hz=>⟨_,rfl,b,xs,rfl,.inr ((aG.new hz).tup q1),z,_,[.int 0],rfl,rfl,bM.of aB,by omega,by omega,by simp,by simp,λ e H1 sm1 qe=>?_⟩⟩;have s1:aG H H1:=(aG.new hz).trans sm1;have en:((xs.length:Nat):Int).toNat=net.vs.length:=by rw[exl];simp
  rw[en,AA] at qe;refine⟨_,rfl,_,rfl,_,rfl,c,rfl,⟨_,s1.tup q2⟩,jS (K:=K) (a:=c) (xs:=ys) (λ D i r ad H'=>H1 D=none/\aG H1 H'/\H' D=some (.lst r)/\r=((net.sps.take i).map (·.2.2)).map V.bl/\∃ u v w,ad=[u,v,w])
   (λ D i r ad H' p=>p.2.1.tup (s1.tup q2)) (λ D hD=>⟨hD,aG.new hD,aB,by simp,none,none,none,rfl⟩) ?_ ?_⟩
  rotate_left
  ·rintro D i x r ad H2 hx ⟨hD,sm,hDl,rfl,u,v,w',rfl⟩;obtain⟨sp,hsi,sa,rfl,qs⟩:=nR l2 hx;have hil:=(aai.mp hsi).1;refine⟨sa,_,rfl,sm.tup (s1.tup qs),rfl,_,_,rfl,_,_,rfl,_,_,rfl,rfl,?_⟩;refine nA ⟨_,rfl,hDl,aO (by simp;omega),hD,sm.put hD,aB,?_,_,_,_,rfl⟩;rw[aV hsi];simp
  ·rintro D r ad H2 ⟨hD,sm,hDl,rfl,_⟩;rw[eyl,aas] at hDl;refine⟨D,_,rfl,.inl ⟨bN.of hDl,λ d hd=>⟨(show 3<=sizeLine by decide),λ r hr'=>?_⟩⟩⟩;have m1:aG H2 (upd H2 d (.tup ((net.sps.map (·.2.2)).map V.bl))):=aG.new hd;have m2:aG (upd H2 d (.tup ((net.sps.map (·.2.2)).map V.bl))) (upd (upd H2 d (.tup ((net.sps.map (·.2.2)).map V.bl))) r (.tup [.ref e,.ref e,.ref d])):=aG.new hr';refine k _ _ (((s1.trans sm).trans m1).trans m2) (wE (bM.of aB) ?_ ?_ (m2.tup (bM.of aB)))
   ·exact m2.tup (m1.tup (sm.tup qe))
   ·exact m2.tup (m1.tup (sm.tup qe))
theorem jN:FnScope ["net","none"] ["net"] (aP (bQ 40)):={}
theorem pH {f:Addr}{fd:FuncData} (F:Fun K "_law_first" "_law_first" (bQ 40) f fd) (T:Txt mg):FnOk P w K mg base i7 1 f fd ["net"] (iX K):=by
 refine F.ok jN (λ vs H Q E h=>?_) (λ cdv A outer s H vs Q E hr h=>?_)
 ·obtain⟨x,net,rfl,_⟩:=h;rfl
 ·obtain⟨x,net,rfl,hx,nok,k⟩:=h;have sc:=jN;refine⟨_,(aD (aR (i:=1) sc.nd rfl (Or.inl rfl) (aT (oB (K:=K) rfl) (bO (aA aE aC)) (aN (bE (K:=K) rfl) rfl T.b_len aba (aA (aS (aI (K:=K) rfl) (pv 0) aE (λ _ _=>rfl)) aC))))
   (aL (bF (bO (aA (pv 1) (aA (pv 1) (aA (aZ (cD (K:=K) rfl) rfl T.b_tuple cP (aA (fU (λ _ _ h=>h) rfl (LcOk.mk (N':=["spout"]) (fr:=[none]) rfl trivial rfl rfl rfl rfl rfl trivial) (eL (K:=K) rfl (aS (aI (K:=K) rfl) (pv 0) aE (λ _ _=>rfl))) (λ _ _ _=>(aF (i:=0) (show (["spout"]:List Str).Nodup by decide +kernel) rfl (Or.inl rfl) (Or.inr rfl))) (λ _ _ _=>dG) (λ _ _ _=>(aS (aI (K:=K) rfl) (pv 0) aE (λ _ _=>rfl)))) aC)) aC))))))),?_⟩
  obtain⟨a,b,c,xs,ys,rfl,q,q1,l1,q2,l2⟩:=dM hx;have exl:xs.length=net.vs.length:=by rw[l1.length,aad]
  have eyl:ys.length=net.sps.length:=by rw[l2.length,aad]
  have n1:=nok.lo;have n2:=nok.hi;have n3:=nok.sp;refine⟨(show 1<=sizeLine by decide),λ z hz=>⟨_,rfl,.inr (.inl ⟨a,_,0,_,rfl,rfl,(aG.new hz).tup q,rfl,b,xs,rfl,.inr ((aG.new hz).tup q1),z,_,[.int 0],rfl,rfl,bM.of aB,by omega,by omega,by simp,by simp,λ e H1 sm1 qe=>?_⟩)⟩⟩;have s1:aG H H1:=(aG.new hz).trans sm1;have en:((xs.length:Nat):Int).toNat=net.vs.length:=by rw[exl];simp
  rw[en,AA] at qe;refine⟨_,rfl,_,rfl,_,rfl,.inr (.inl ⟨a,_,1,_,rfl,rfl,s1.tup q,rfl,c,rfl,⟨_,s1.tup q2⟩,jS (K:=K) (a:=c) (xs:=ys) (λ D i r ad H'=>H1 D=none/\aG H1 H'/\H' D=some (.lst r)/\r=((net.sps.take i).map (·.2.2)).map V.bl/\∃ u,ad=[u])
   (λ D i r ad H' p=>p.2.1.tup (s1.tup q2)) (λ D hD=>⟨hD,aG.new hD,aB,by simp,none,rfl⟩) ?_ ?_⟩)⟩
  rotate_left
  ·rintro D i x r ad H2 hx ⟨hD,sm,hDl,rfl,u,rfl⟩;obtain⟨sp,hsi,sa,rfl,qs⟩:=nR l2 hx;have hil:=(aai.mp hsi).1;refine eC ?_;refine⟨_,rfl,.inr (.inl ⟨sa,_,2,_,rfl,rfl,sm.tup (s1.tup qs),rfl,hDl,aO (by simp;omega),hD,sm.put hD,aB,?_,_,rfl⟩)⟩;rw[aV hsi];simp
  ·rintro D r ad H2 ⟨hD,sm,hDl,rfl,_⟩;rw[eyl,aas] at hDl;refine⟨D,_,rfl,.inl ⟨bN.of hDl,λ d hd=>⟨(show 3<=sizeLine by decide),λ r hr'=>?_⟩⟩⟩;have m1:aG H2 (upd H2 d (.tup ((net.sps.map (·.2.2)).map V.bl))):=aG.new hd;have m2:aG (upd H2 d (.tup ((net.sps.map (·.2.2)).map V.bl))) (upd (upd H2 d (.tup ((net.sps.map (·.2.2)).map V.bl))) r (.tup [.ref e,.ref e,.ref d])):=aG.new hr';refine k _ _ (((s1.trans sm).trans m1).trans m2) (wE (bM.of aB) ?_ ?_ (m2.tup (bM.of aB)))
   ·exact m2.tup (m1.tup (sm.tup qe))
   ·exact m2.tup (m1.tup (sm.tup qe))
def HK (K:aab) (H:Hp) (a:Addr) (xs:List V):Prop:=bM K H a xs\/bN K H a xs
theorem HK.same {H H':Hp}{a:Addr}{xs:List V} (h:HK K H a xs) (s:aG H H'):HK K H' a xs:=h.elim (λ h=>.inl (s.tup h)) λ h=>.inr (s.seq h)
theorem IS {H:Hp}{z:Addr}{xs:List V}{i:Int}{v:V}{Q:VK} (h:HK K H z xs) (e:CM xs i=some v) (k:Q v H):uY K (.ref z) (.int i) H Q:=h.elim (λ h=>.inr (.inl ⟨z,xs,i,v,rfl,rfl,h,e,k⟩)) λ h=>.inl ⟨z,xs,i,v,rfl,rfl,h,e,k⟩
def lK (K:aab):Sp:=λ args H Q _=>∃ (x y:V) (z:Addr) (net:Net) (held coming poured:List Int) (doors:List Bool),args=[x,y,.ref z]/\Is K H (eX net) x/\Is K H (uB held coming doors) y/\HK K H z (poured.map V.int)/\
 NetOk net/\StOk net held coming doors/\poured.length=net.vs.length/\∀ p H',aG H H'->H p=none->H' p=some (.lst ((aM net held coming poured doors).map V.int))->Q (.ref p) H'
theorem iJ:FnScope ["net","state","poured","has","k"] ["net","state","poured"] (aP (bQ 41)):={}
theorem oH {f:Addr}{fd:FuncData} (F:Fun K "_law_filled" "_law_filled" (bQ 41) f fd) (T:Txt mg):FnOk P w K mg base i7 1 f fd ["net","state","poured"] (lK K):=by
 refine F.ok iJ (λ vs H Q E h=>?_) (λ cdv A outer s H vs Q E hr h=>?_)
 ·obtain⟨x,y,z,net,held,coming,poured,doors,rfl,_⟩:=h;rfl
 ·obtain⟨x,y,z,net,held,coming,poured,doors,rfl,hx,hy,qz,nok,sok,hpl,k⟩:=h;have sc:=iJ;refine⟨_,(aD (gD (i:=3) sc.nd rfl rfl (λ _ _ h=>h) rfl (LcOk.mk (N':=["k","poured","state"]) (fr:=[none,some 2,some 1]) rfl ⟨rfl,rfl,trivial⟩ rfl rfl rfl rfl rfl ⟨⟨_,rfl,rfl,rfl,rfl⟩,⟨_,rfl,rfl,rfl,rfl⟩,trivial⟩) (cC rfl T.b_range (aA (aN (bE (K:=K) rfl) rfl T.b_len aba (aA (aS (aI (K:=K) rfl) (pv 0) aE (λ _ _=>rfl)) aC)) aC)) (λ _ _ _=>(aF (i:=0) (show (["k","poured","state"]:List Str).Nodup by decide +kernel) rfl (Or.inl rfl) (Or.inr rfl))) (λ _ _ _=>dG) (λ _ _ _=>(aT bX (aT bX (aS (aI (K:=K) rfl) (aS (aI (K:=K) rfl) (pv 2) aE (λ _ _=>rfl)) (pv 0) (λ _ _=>rfl)) (aS (aI (K:=K) rfl) (aS (aI (K:=K) rfl) (pv 2) aE (λ _ _=>rfl)) (pv 0) (λ _ _=>rfl))) (aS (aI (K:=K) rfl) (pv 1) (pv 0) (λ _ _=>rfl)))))
   (aD (dP PassesOwn.never rfl (cC rfl T.b_range (aA (aN (bE (K:=K) rfl) rfl T.b_len aba (aA (aS (aI (K:=K) rfl) (pv 0) aE (λ _ _=>rfl)) aC)) aC)) (aF (i:=4) sc.nd rfl (Or.inl rfl)) (aL (dL (gT (aS (aI (K:=K) rfl) (aS (aI (K:=K) rfl) (pv 1) aE (λ _ _=>rfl)) (pv 4) (λ _ _=>rfl))) (aL (cF (aT bX (aS (aI (K:=K) rfl) (pv 3) (aS (aI (K:=K) rfl) (aS (aI (K:=K) rfl) (aS (aI (K:=K) rfl) (pv 0) aE (λ _ _=>rfl)) (pv 4) (λ _ _=>rfl)) aE (λ _ _=>rfl)) (λ _ _=>rfl)) (aS (aI (K:=K) rfl) (aS (aI (K:=K) rfl) (aS (aI (K:=K) rfl) (pv 0) aE (λ _ _=>rfl)) (pv 4) (λ _ _=>rfl)) aE (λ _ _=>rfl))) (lQ (pv 3) (aS (aI (K:=K) rfl) (aS (aI (K:=K) rfl) (aS (aI (K:=K) rfl) (pv 0) aE (λ _ _=>rfl)) (pv 4) (λ _ _=>rfl)) aE (λ _ _=>rfl)) fG))) bV)))
   (aL (bF (pv 3))))),?_⟩
  obtain⟨a,b,c,xs,ys,rfl,q,q1,l1,q2,l2⟩:=dM hx;obtain⟨ay,a1,a2,a3,rfl,qy,p1,p2,p3⟩:=sZ hy;have exl:xs.length=net.vs.length:=by rw[l1.length,aad]
  have eyl:ys.length=net.sps.length:=by rw[l2.length,aad]
  have n1:=nok.lo;have n2:=nok.hi;have n3:=nok.sp;have la:=fN sok.h sok.c hpl;refine⟨_,rfl,.inr (.inl ⟨a,_,0,_,rfl,rfl,q,rfl,b,xs,rfl,.inr q1,_,rfl,by omega,by omega,?_⟩)⟩;have hn:((xs.length:Nat):Int).toNat=net.vs.length:=by rw[exl];simp
  rw[hn];refine fI (n:=net.vs.length) (λ D i r ad H'=>H D=none/\aG H H'/\H' D=some (.lst r)/\r=((fQ held coming poured).take i).map V.int/\∃ v,ad=[v,some (.ref z),some (.ref ay)])
   (λ D hD=>⟨hD,aG.new hD,aB,by simp,none,rfl⟩) ?_ ?_
  rotate_left
  ·rintro D i r ad H' hi ⟨hD,sm,hDl,rfl,v,rfl⟩;refine eC ?_;have g1:held[i]? = some (held[i]'(by rw[sok.h];exact hi)):=by simp
   have g2:coming[i]? = some (coming[i]'(by rw[sok.c];exact hi)):=by simp
   have g3:poured[i]? = some (poured[i]'(by rw[hpl];exact hi)):=by simp
   have g4:=p9 g1 g2 g3;have m1:∀ {l:List Int}{u:Int},l[i]? = some u->(l.map V.int)[i]? = some (.int u):=λ e=>by rw[aaf,e];rfl
   refine⟨_,rfl,.inr (.inl ⟨ay,_,0,_,rfl,rfl,sm.tup qy,rfl,_,rfl,.inr (.inl ⟨a1,_,(i:Int),_,rfl,rfl,sm.tup p1,bW (m1 g1),?_⟩)⟩)⟩;refine⟨_,rfl,.inr (.inl ⟨ay,_,1,_,rfl,rfl,sm.tup qy,rfl,_,rfl,.inr (.inl ⟨a2,_,(i:Int),_,rfl,rfl,sm.tup p2,bW (m1 g2),?_⟩)⟩)⟩;refine⟨_,_,rfl,rfl,_,rfl,_,rfl,IS (qz.same sm) (bW (m1 g3)) ⟨_,_,rfl,rfl,hDl,aO (by simp;omega),hD,sm.put hD,aB,?_,_,rfl⟩⟩;rw[aV g4,aam];rfl
  rintro D r ad H1 ⟨hD,sm,hDl,rfl,_⟩;rw[<- la,aas] at hDl;refine⟨_,rfl,.inr (.inl ⟨a,_,1,_,rfl,rfl,sm.tup q,rfl,c,ys,rfl,.inr (sm.tup q2),_,rfl,by omega,by omega,?_⟩)⟩;have hm:((ys.length:Nat):Int).toNat=net.sps.length:=by rw[eyl];simp
  rw[hm];refine dW (lo:=0) (n:=net.sps.length) (λ i ad H'=>aG H H'/\H' D=some (.lst ((dX (fQ held coming poured) (net.sps.take i) (doors.take i)).map V.int))/\
   ∃ v4,ad=[some (.ref a),some (.ref ay),some (.ref z),some (.ref D),v4]) ⟨sm,by cases net.sps <;> exact hDl,none,rfl⟩ ?_ ?_
  ·rintro i ad H2 hi ⟨sm2,h2,v4,rfl⟩;rw[Int.zero_add];have hsi:net.sps[i]? = some net.sps[i]:=by simp [hi]
   have hdi:doors[i]? = some (doors[i]'(by rw[sok.d];exact hi)):=by simp
   obtain⟨xv,hxv,ixv⟩:=l2.get (i:=i) (d:=EJ net.sps[i]) (by rw[aaf,hsi];rfl);obtain⟨sp,hsi',sa,rfl,qs⟩:=nR l2 hxv;rw[hsi] at hsi';cases hsi';have snoc:=jU net.sps doors i (fQ held coming poured) _ _ hsi hdi;have hs:=nok.sps net.sps[i] (ach hi);have hdm:(doors.map V.bl)[i]? = some (.bl (doors[i]'(by rw[sok.d];exact hi))):=by rw[aaf,hdi];rfl
   refine⟨_,rfl,.inr (.inl ⟨ay,_,2,_,rfl,rfl,sm2.tup qy,rfl,_,rfl,.inr (.inl ⟨a3,_,(i:Int),_,rfl,rfl,sm2.tup p3,bW hdm,_,rfl,?_⟩)⟩)⟩;cases hdr:(doors[i]'(by rw[sok.d];exact hi)) with
   | false=>
    rw[hdr] at snoc;refine g6 ?_;exact⟨sm2,by rw[snoc];exact h2,_,rfl⟩
   | true=>
    rw[hdr] at snoc;refine lB ?_;have hlen:(dX (fQ held coming poured) (net.sps.take i) (doors.take i)).length=net.vs.length:=by rw[eI,la]
    have hlt:net.sps[i].1.toNat < (dX (fQ held coming poured) (net.sps.take i) (doors.take i)).length:=by rw[hlen];omega
    have hg:((dX (fQ held coming poured) (net.sps.take i) (doors.take i)).map V.int)[net.sps[i].1.toNat]? = some (.int ((dX (fQ held coming poured) (net.sps.take i) (doors.take i)).getD net.sps[i].1.toNat 0)):=by
     rw[aaf,acn];simp [hlt]
    refine⟨_,rfl,_,rfl,.inr (.inl ⟨a,_,1,_,rfl,rfl,sm2.tup q,rfl,_,rfl,.inr (.inl ⟨c,ys,(i:Int),_,rfl,rfl,sm2.tup q2,bW hxv,.inr (.inl ⟨sa,_,0,_,rfl,rfl,sm2.tup qs,rfl,.inl ⟨D,_,_,_,rfl,rfl,bN.of h2,n6 hs.1 hg,?_⟩⟩)⟩)⟩)⟩;refine⟨_,rfl,.inr (.inl ⟨a,_,1,_,rfl,rfl,sm2.tup q,rfl,_,rfl,.inr (.inl ⟨c,ys,(i:Int),_,rfl,rfl,sm2.tup q2,bW hxv,.inr (.inl ⟨sa,_,1,_,rfl,rfl,sm2.tup qs,rfl,_,_,rfl,rfl,?_⟩)⟩)⟩)⟩;refine⟨_,rfl,_,rfl,.inr (.inl ⟨a,_,1,_,rfl,rfl,sm2.tup q,rfl,_,rfl,.inr (.inl ⟨c,ys,(i:Int),_,rfl,rfl,sm2.tup q2,bW hxv,.inr (.inl ⟨sa,_,0,_,rfl,rfl,sm2.tup qs,rfl,D,_,_,net.sps[i].1.toNat,rfl,rfl,h2,mX hs.1 (by rw[aad,hlen];omega),?_⟩)⟩)⟩)⟩;refine⟨sm2.put hD,?_,_,rfl⟩;rw[aB,snoc,oT,if_pos rfl,List.map_set]
  ·rintro ad H2 ⟨sm2,h2,v4,rfl⟩;rw[<- sok.d,aas,sok.d,aas] at h2;exact⟨_,rfl,k D H2 sm2 hD h2⟩
end Tw
namespace L2
open PySem PySem.Spec PyProof.Rows
theorem CI:∀ (names:List (Str×NameKind)) (h:Heap) (acc:List (Str×Addr)) (x:Str) (c:Addr),(cellsFrom h.objs.size names acc).lookup x=some c->
  (h.objs.size<=c/\(x,NameKind.cell)∈names/\(pushCells h names).IsCell c none)\/acc.lookup x=some c
 | [],h,acc,x,c,e=>.inr e
 | (name,kind)::r,h,acc,x,c,e=>by
  unfold cellsFrom at e;unfold pushCells;cases hk:kind == NameKind.cell with
  | true=>
   rw[hk,if_pos rfl] at e;rw[if_pos rfl];have hk':kind=.cell:=by simpa using hk
   have ih:=CI r (h.push { cls:=.type "cell",data:=.cell none }) ((name,h.objs.size)::acc) x c (by rw[abd];exact e);rw[abd] at ih;rcases ih with ⟨a,b,d⟩ | ih
   ·exact .inl ⟨Nat.le_of_succ_le a,aay _ b,d⟩
   ·cases hx:x == name with
    | true=>
     simp only [List.lookup_cons,hx] at ih;cases ih;have e':x=name:=by simpa using hx
     subst e' hk';exact .inl ⟨aaj _,abt,_,pushCells_keeps _ _ _ _ (aag _ rfl),rfl⟩
    | false=>
     simp only [List.lookup_cons,hx] at ih;exact .inr ih
  | false=>
   rw[hk,if_neg aal] at e;rw[if_neg aal];rcases CI r h acc x c e with ⟨a,b,d⟩ | ih
   ·exact .inl ⟨a,aay _ b,d⟩
   ·exact .inr ih
theorem sB:∀ (names:List (Str×NameKind)) (n m:Nat) (acc:List (Str×Addr)) (x:Str),m<=n->((x,NameKind.cell)∈names\/∃ c,m<=c/\acc.lookup x=some c)->∃ c,m<=c/\(cellsFrom n names acc).lookup x=some c
 | [],n,m,acc,x,_,h=>by
  rcases h with h | h
  ·simp at h
  ·exact h
 | (name,kind)::r,n,m,acc,x,hm,h=>by
  unfold cellsFrom;cases hk:kind == NameKind.cell with
  | true=>
   rw[if_pos rfl];have hk':kind=.cell:=by simpa using hk
   refine sB r (n+1) m _ x (by omega) ?_;cases hx:x == name with
   | true=>exact .inr ⟨n,hm,by simp only [List.lookup_cons,hx]⟩
   | false=>
    have ne:x≠name:=λ z=>by rw[z] at hx;simp at hx
    rcases h with h | ⟨c,h1,h2⟩
    ·rcases aax.mp h with h | h
     ·exact absurd (by injection h) ne
     ·exact .inl h
    ·exact .inr ⟨c,h1,by simp only [List.lookup_cons,hx];exact h2⟩
  | false=>
   rw[if_neg aal];refine sB r n m _ x hm ?_;rcases h with h | h
   ·rcases aax.mp h with h | h
    ·injection h with h1 h2;rw[<- h2] at hk;simp at hk
    ·exact .inl h
   ·exact .inr h
theorem sC:∀ (names:List (Str×NameKind)) (n:Nat) (acc:List (Str×Addr)) (x:Str),(x,NameKind.cell)∉names->(cellsFrom n names acc).lookup x=acc.lookup x
 | [],_,_,_,_=>rfl
 | (name,kind)::r,n,acc,x,h=>by
  unfold cellsFrom;have hr:(x,NameKind.cell)∉r:=λ z=>h (aay _ z);cases hk:kind == NameKind.cell with
  | true=>
   rw[if_pos rfl,sC r (n+1) _ x hr];have hk':kind=.cell:=by simpa using hk
   have hx:(x == name)=false:=by
    cases hx:x == name with
    | false=>rfl
    | true=>
     have e':x=name:=by simpa using hx
     subst e' hk';exact absurd abt h
   simp only [List.lookup_cons,hx]
  | false=>rw[if_neg aal,sC r n _ x hr]
theorem vY:∀ (names:List (Str×NameKind)) (n:Nat) (acc:List (Str×Addr)),(∀ x y c,acc.lookup x=some c->acc.lookup y=some c->x=y)->(∀ x c,acc.lookup x=some c->c < n)->
  ∀ x y c,(cellsFrom n names acc).lookup x=some c->(cellsFrom n names acc).lookup y=some c->x=y
 | [],_,_,h,_=>h
 | (name,kind)::r,n,acc,h,hb=>by
  unfold cellsFrom
  split
  ·refine vY r (n+1) _ (λ x y c e1 e2=>?_) λ x c e=>?_
   ·cases hx:x == name <;> cases hy:y == name <;> simp only [List.lookup_cons,hx,hy] at e1 e2
    ·exact h x y c e1 e2
    ·cases e2;exact absurd (hb x _ e1) (aca _)
    ·cases e1;exact absurd (hb y _ e2) (aca _)
    ·have a:x=name:=by simpa using hx
     have b:y=name:=by simpa using hy
     rw[a,b]
   ·cases hx:x == name <;> simp only [List.lookup_cons,hx] at e
    ·exact Nat.lt_succ_of_lt (hb x c e)
    ·cases e;exact Nat.lt_succ_self _
  ·exact vY r n acc h hb
section
variable {M:Model}{A:Around}{E:Value->Shared->Prop}{s:Shared}
theorem pC {scope:Scope}{globals:Addr}{cl:List (Str×Addr)}{qual:Str}{func:Option Addr}{code:Value}{env:Env}{builtins:Addr}{Q:Env->Shared->Prop}
  (h:Q { scope,locals:=s.heap.objs.size,globals,cells:=cellsFrom (s.heap.objs.size+1) scope.names cl,qual,func,code:=env.code,frame:=env.frame,builtins:=env.builtins }
   { s with heap:=pushCells (s.heap.push { cls:=.type "dict",data:=.dict #[] }) scope.names }):wpAny M A (newFunctionEnv scope globals cl [] qual func code (some env) builtins) Q E s:=by
 simp only [newFunctionEnv,Option.isSome_some,if_true];refine aaa (wpAny_alloc ?_);refine aaa (wpAny_layCells _ (λ name kind cells=>by cases hkc:kind == NameKind.cell <;> simp [hkc]) _ _ _ _ ?_);rw[show ({ s with heap:=s.heap.push { cls:=.type "dict",data:=.dict #[] } }:Shared).heap.objs.size=s.heap.objs.size+1 from abd ..];rw[List.forIn_nil];exact aaa (aae (aae h))
end
structure LcOk2 (X:Cx) (scope:Scope) (cl:List (Str×Addr)) (N':List Str) (fr:List (Option Nat)):Prop where
 clos:closureFor scope X.env=pure cl
 cls:zN X.env cl
 kind:scope.kind=.function
 owns:(scope.names.all λ p=>p.2 != NameKind.cell || scope.names.lookup p.1 == some NameKind.cell)=true
 locs:(scope.names.all λ p=>p.2 != NameKind.local || scope.names.lookup p.1 == some NameKind.local)=true
 frees:(scope.names.all λ p=>p.2 != NameKind.free || (cl.lookup p.1).isSome)=true
 len:fr.length=N'.length
 fr:sM X scope N' fr 0
def sN (X:Cx) (N':List Str) (scope:Scope) (cl:List (Str×Addr)) (fp:List Addr) (s:Shared) (H:Hp):Cx:=
 { X with N:=N',s₀:=s,H₀:=H,env:=compEnvC scope (cellsFrom (s.heap.objs.size+1) scope.names cl) s.heap.objs.size X.env,outer:=X.stack,ex:=fp,fn:=λ x=>scope.names.lookup x == some .cell,pn:=[] }
section
variable {X:Cx}
theorem LcOk2.cells {scope:Scope}{cl:List (Str×Addr)}{N':List Str}{fr:List (Option Nat)} (S:LcOk2 X scope cl N' fr) {s:Shared}{o:Obj}{x:Str}{c:Addr} (e:(cellsFrom (s.heap.objs.size+1) scope.names cl).lookup x=some c) :
  (s.heap.objs.size < c/\(x,NameKind.cell)∈scope.names/\(pushCells (s.heap.push o) scope.names).IsCell c none)\/X.env.cells.lookup x=some c:=by
 have:=CI scope.names (s.heap.push o) cl x c (by rw[abd];exact e);rw[abd] at this;rcases this with ⟨a,b,d⟩ | h
 ·exact .inl ⟨a,b,d⟩
 ·exact .inr (S.cls.get x c h)
theorem LcOk2.invC {scope:Scope}{cl:List (Str×Addr)}{N':List Str}{fr:List (Option Nat)}{pins:List (Addr×Obj)}{σ:St}{H:Hp}{s:Shared}{o:Obj}{fp:List Addr}{m1:Str->Option Value}{tk:Nat}
  (S:LcOk2 X scope cl N' fr) (I:Inv X pins σ H s) (hf:∀ b∈fp,g9 X pins H b) (hfo:∀ b∈fp,b < s.heap.objs.size)
  (hn:(pushCells (s.heap.push o) scope.names).Ns s.heap.objs.size m1):Inv (sN X N' scope cl fp s H) [] (tU fr σ) H { s with heap:=pushCells (s.heap.push o) scope.names,toks:=tk }:=by
 have hfree:=S.frees;have hown:=S.owns;rw[ace] at hfree hown;have k:∀ b o',s.heap.get? b=some o'->(pushCells (s.heap.push o) scope.names).get? b=some o':=λ b o' e=>pushCells_keeps _ _ b o' (aac _ e);have fresh:H s.heap.objs.size=none:=I.hok.fresh (aaj _);have clg:=S.cls.get;have cg:=λ x c e=>S.cells (s:=s) (o:=o) (x:=x) (c:=c) e;have clt:∀ x c,cl.lookup x=some c->c < s.heap.objs.size:=λ x c e=>by
  obtain⟨v,oc,hoc,hd⟩:=I.cell x c (clg x c e);exact aak hoc
 have notown:∀ x,scope.names.lookup x=some .free->(x,NameKind.cell)∉scope.names:=λ x e hm=>by
  have:=hown _ hm;simp only [bne_self_eq_false,Bool.false_or,beq_iff_eq] at this;rw[e] at this;cases this
 refine⟨⟨I.ok.mod,S.kind,I.ok.glob,I.ok.blt,aaj _,vY scope.names _ cl (λ x y c e1 e2=>I.ok.inj x y c (clg x c e1) (clg y c e2)) (λ x c e=>Nat.lt_succ_of_lt (clt x c e)),λ x hx=>?_,λ x c e1 e2=>?_,I.ok.hd,I.ok.frames,.inl rfl,λ b hb=>⟨aar (hfo b hb),λ x c e=>?_⟩,
  I.bs,acb I.ok.bsz I.sz,λ b o e hb=>?_,λ b hb hz=>?_,I.stack,I.stkFree⟩,rfl,I.bare,Un.kept k,⟨m1,hn,λ i x v e1 e2 e3=>?_⟩,λ x c e=>?_,fresh,λ x c e=>?_,λ p hp=>absurd (show p∈([]:List (Addr×Obj)) from hp) (by simp),I.hok.kept k,?_⟩
 ·
  have hm:∃ k',(x,k')∈scope.names/\(k'=NameKind.free\/k'=NameKind.cell):=by
   have hx':(relabel scope X.env).names.lookup x=some .cell\/(relabel scope X.env).names.lookup x=some .free:=hx;obtain⟨k',e,hk'⟩:∃ k',(relabel scope X.env).names.lookup x=some k'/\(k'=.cell\/k'=.free):=by
    rcases hx' with e | e
    ·exact⟨_,e,.inl rfl⟩
    ·exact⟨_,e,.inr rfl⟩
   have hmem:=abz e;obtain⟨⟨n,kn⟩,hp,he⟩:=acq.mp hmem;dsimp only at he
   split at he
   ·rename_i hc
    cases he;have:kn=.free:=by
     simp only [Bool.and_eq_true,beq_iff_eq] at hc;exact hc.1.1
    exact⟨kn,hp,.inl this⟩
   ·cases he;rcases hk' with e' | e'
    ·exact⟨_,hp,.inr e'⟩
    ·exact⟨_,hp,.inl e'⟩
  obtain⟨k',hp,hk'⟩:=hm
  by_cases hc:(x,NameKind.cell)∈scope.names
  ·obtain⟨c,_,e⟩:=sB scope.names (s.heap.objs.size+1) 0 cl x (abg _) (.inl hc);exact⟨c,e⟩
  ·rcases hk' with rfl | rfl
   ·have:=hfree _ hp;simp only [bne_self_eq_false,Bool.false_or] at this;obtain⟨c,e⟩:=Option.isSome_iff_exists.mp this;exact⟨c,by show (cellsFrom _ _ _).lookup x=_;rw[sC _ _ _ _ hc];exact e⟩
   ·exact absurd hp hc
 ·have e1':scope.names.lookup x=some .cell:=by simpa using (show (scope.names.lookup x == some NameKind.cell)=true from e1)
  obtain⟨c',hc',e'⟩:=sB scope.names (s.heap.objs.size+1) (s.heap.objs.size+1) cl x (aaj _) (.inl (abz e1'));have e2':(cellsFrom (s.heap.objs.size+1) scope.names cl).lookup x=some c:=e2;rw[e'] at e2';cases e2';exact Nat.le_of_succ_le hc'
 ·rcases cg x c e with ⟨a,_⟩ | e'
  ·exact Ne.symm (aar (Nat.lt_trans (hfo b hb) a))
  ·exact (hf b hb).2.2.2.2.1 x c e'
 ·rcases (hf b hb).2.2.2.1 with z | z
  ·exact I.ok.noex b o e z
  ·have:=aak e;exact absurd (aan this (acb I.ok.bsz z)) (aca _)
 ·obtain⟨_,f1,f2,_⟩:=hf b hb;rcases aax.mp (I.stkSub b hz) with e | e
  ·exact f1 e
  ·exact f2 e
 ·
  unfold tU at e2;rw[aaf] at e2;cases ef:fr[i]? with
  | none=>rw[ef] at e2;cases e2
  | some o=>
   rw[ef] at e2;cases o with
   | none=>simp at e2
   | some j=>
    have e2':(σ[j]?).join=some v:=by simpa using e2
    obtain⟨x',h1',h2',h3',h4'⟩:=S.fr.get i j ef;rw[Nat.zero_add] at h1';have ex:x'=x:=by
     have:N'[i]? = some x:=e1;rw[h1'] at this;exact abu this
    subst ex;have e2'':σ[j]? = some (some v):=by
     cases q:σ[j]? with
     | none=>rw[q] at e2';cases e2'
     | some z=>rw[q] at e2';simp at e2';rw[e2']
    obtain⟨m,hm,hl⟩:=I.loc;obtain⟨u,r,lk⟩:=hl j x' v h2' e2'' (.inr (.inl h4'));refine⟨u,r,?_⟩;rcases lk with ⟨q,_⟩ | ⟨_,c,hc,z⟩
    ·rw[h4'] at q;cases q
    ·have hcl:∃ c',cl.lookup x'=some c':=by
      have:=hfree _ (abz h3');simp only [bne_self_eq_false,Bool.false_or] at this;exact Option.isSome_iff_exists.mp this
     obtain⟨c',hc'⟩:=hcl;have e':=clg x' c' hc';rw[hc] at e';cases e';obtain⟨oc,hoc,hd⟩:=z;refine .inr ⟨.inl ?_,c,?_,oc,k c oc hoc,hd⟩
     ·exact dQ I.ok.kind h3' h4'
     ·show (cellsFrom _ _ _).lookup x'=_;rw[sC _ _ _ _ (notown x' h3')];exact hc'
 ·rcases cg x c e with ⟨_,_,z⟩ | e'
  ·exact⟨_,z⟩
  ·obtain⟨v,oc,hoc,hd⟩:=I.cell x c e';exact⟨v,oc,k c oc hoc,hd⟩
 ·rcases cg x c e with ⟨a,_⟩ | e'
  ·exact I.hok.fresh (aby a)
  ·exact I.freeC x c e'
 ·show (tU fr σ).length=N'.length;unfold tU;rw[aad,S.len]
theorem Inv.outD {scope:Scope}{cl:List (Str×Addr)}{N':List Str}{pins pins':List (Addr×Obj)}{σ ad:St}{H H':Hp}{s s':Shared}{fp:List Addr} (I:Inv X pins σ H s) (J:Inv (sN X N' scope cl fp s H) pins' ad H' s')
  (hf:∀ b∈fp,g9 X pins H b):Inv X pins σ H' s':=
 I.call' (ch:=fp) J.os J.base J.hok J.bare λ b hb=>by
  obtain⟨_,f1,_,f3,f4,f5⟩:=hf b hb;exact⟨f3,f1,f4,f5⟩
theorem pZ {elt tg iter:Expr}{ifs:List Expr}{scope:Scope}{pos:Pos}{N':List Str}{fr:List (Option Nat)}{cl:List (Str×Addr)}{g:TG}{tc:TT}{te:TE}
  {pins:List (Addr×Obj)}{σ:St}{H:Hp}{s:Shared}{J:It}{fp:List Addr}{it:Addr}{tn:Nat->Heap->Prop}{Q:Addr->Hp->Prop}{RR:Value->Addr->Result->Shared->Prop}{E:Value->Shared->Prop}
  (hx:∀ e s,¬ X.xe e s) (hc:X.calm=true) (S:LcOk2 X scope cl N' fr)
  (hg:∀ fp s H,PG (sN X N' scope cl fp s H) tg g) (ht:∀ fp s H,FE (sN X N' scope cl fp s H) ifs tc) (he:∀ fp s H,PE (sN X N' scope cl fp s H) elt te)
  (I:Inv X pins σ H s) (T:Turn X.prog X.w X.K tg J fp it tn) (st:tn 0 s.heap) (hf:∀ b∈fp,g9 X pins H b) (h:gZ J g tc te fr σ H Q)
  (hRR:∀ D C H' s' m',Inv X pins σ H' s'->Q D H'->s'.heap.Ns C m'->g9 X pins H' C->RR (.ref D) C (.ok .next) s') :
  wpAny (model X.prog X.w) X.A (newList []) (λ acc cb=>wpAny (model X.prog X.w) X.A (newFunctionEnv scope X.env.globals cl [] X.env.qual none .none (some X.env)) (λ cenv cw=>
   codeAny (model X.prog X.w) X.A (.compStart (.ListComp elt [⟨tg,iter,ifs,0⟩] scope pos) 0 (.ref it) acc { cenv with scope:=relabel scope X.env }) (RR acc cenv.locals) cw) E cb) E s:=by
 refine wpAny_newObj_type (pC ?_);dsimp only;have fresh:H s.heap.objs.size=none:=I.hok.fresh (aaj _);have I3:Inv X pins σ (upd H s.heap.objs.size (.lst [])) { s with heap:=s.heap.push { cls:=.type "list",data:=.seq ([]:List Value).toArray },toks:=s.toks }:=I.lnew (ys:=[]) (its:=[]) .nil (abg _);have hf3:∀ b∈fp,g9 X pins (upd H s.heap.objs.size (.lst [])) b:=λ b hb=>by
  obtain⟨o,ho,_⟩:=T.obj _ _ st b hb;exact⟨by rw[aK (aar (aak ho))];exact (hf b hb).1,(hf b hb).2⟩
 generalize hs3:({ s with heap:=s.heap.push { cls:=.type "list",data:=.seq ([]:List Value).toArray },toks:=s.toks }:Shared)=s3 at I3;have e3:s3.heap=s.heap.push { cls:=.type "list",dict:=none,data:=.seq ([]:List Value).toArray }:=by rw[<- hs3]
 have e3s:({ s with heap:=s.heap.push { cls:=.type "list",dict:=none,data:=.seq ([]:List Value).toArray } }:Shared)=s3:=hs3;have hsz3:s3.heap.objs.size=s.heap.objs.size+1:=by rw[e3,abd]
 have hfo:∀ b∈fp,b < s3.heap.objs.size:=λ b hb=>by
  obtain⟨o,ho,_⟩:=T.obj _ _ st b hb;rw[hsz3];exact Nat.lt_succ_of_lt (aak ho)
 rw[<- e3];generalize hh1:pushCells (s3.heap.push { cls:=.type "dict",data:=.dict #[] }) scope.names=ap;have ci:(pushCells (s3.heap.push { cls:=.type "dict",data:=.dict #[] }) scope.names).Ns s3.heap.objs.size (λ _=>none):=(Heap.Ns.new s3.heap (.type "dict")).keeps (pushCells_keeps _ _);have old3:∀ b o,s3.heap.get? b=some o->ap.get? b=some o:=λ b o e=>by rw[<- hh1];exact pushCells_keeps _ _ b o (aac _ e)
 have old:∀ b o,s.heap.get? b=some o->s3.heap.get? b=some o:=λ b o e=>by rw[e3];exact aac _ e
 have I4:=S.invC (tk:=s3.toks) I3 hf3 hfo ci;rw[hh1] at I4;obtain⟨W,⟨m0,w0⟩,turn⟩:=h s.heap.objs.size fresh;have stat:∀ {H':Hp},(∀ b∈fp,H' b=none)->∀ b∈fp,g9 (sN X N' scope cl fp s3 (upd H s.heap.objs.size (.lst []))) [] H' b:=λ hn b hb=>by
  refine⟨hn b hb,aar (hfo b hb),?_,.inl hb,λ x c e=>?_,λ p hp=>absurd (show p∈([]:List (Addr×Obj)) from hp) (by simp)⟩
  ·intro hz;obtain⟨_,f1,f2,_⟩:=hf b hb;rcases aax.mp (I.stkSub b hz) with e | e
   ·exact f1 e
   ·exact f2 e
  ·rcases S.cells (s:=s3) (o:={ cls:=.type "dict",data:=.dict #[] }) e with ⟨a,_⟩ | e'
   ·exact Ne.symm (aar (Nat.lt_trans (hfo b hb) a))
   ·exact (hf b hb).2.2.2.2.1 x c e'
 have loop:∀ s4:Shared,s4={ s3 with heap:=ap,toks:=s3.toks }->
   codeAny (model X.prog X.w) X.A (.compLoop (.ListComp elt [⟨tg,iter,ifs,0⟩] scope pos) 0 (.ref it) (.ref s.heap.objs.size) (compEnvC scope (cellsFrom (s3.heap.objs.size+1) scope.names cl) s3.heap.objs.size X.env)) (RR (.ref s.heap.objs.size) s3.heap.objs.size) s4:=by
  intro s4 hs4;refine lF (λ n s'=>∃ i ys ad H',Inv (sN X N' scope cl fp s3 (upd H s.heap.objs.size (.lst []))) [] ad H' s'/\tn i s'.heap/\(∀ b∈fp,H' b=none)/\W i n ys ad H') ?_ m0
   ⟨0,[],tU fr σ,_,by rw[hs4];exact I4,by rw[hs4];exact T.keep _ _ _ st λ b _ o e=>old3 b o (old b o e),λ b hb=>(hf3 b hb).1,w0⟩
  rintro n s5 ⟨i,ys,cm,H5,I5,st5,fr5,w5⟩;rcases turn i n ys cm H5 w5 with ⟨stop,qn⟩ | ⟨go,N,hN,step⟩
  ·refine cY (T.done (sN X N' scope cl fp s3 (upd H s.heap.objs.size (.lst []))) rfl rfl rfl hc i [] s5 cm H5 _ I5 (stat fr5) st5 stop) λ r s6 ⟨hr,I6⟩=>?_;subst hr;obtain⟨m',hm',_⟩:=I6.loc;exact hRR _ _ H5 s6 m' (I3.outD I6 hf3) qn hm' (I3.fpOk (aaj _) I6.free)
  ·refine cY (T.item (sN X N' scope cl fp s3 (upd H s.heap.objs.size (.lst []))) rfl rfl rfl hc i [] s5 cm H5 _ I5 (stat fr5) st5 go) λ r s6 ⟨u,hr,h6⟩=>?_;subst hr;refine cY h6 λ _ s7 ⟨x,H7,I7,r7,y7,st7,fr7⟩=>?_;have I7':=I7.pinned (stat fr7) (T.obj _ _ st7);refine abp (hg fp s3 _ _ s7 cm H7 x u _ I7' r7 (step x H7 y7)) (λ _ s8 ⟨bx,H8,I8,q8⟩=>?_) λ e s' z=>(hx e s' z).elim;refine abp (ht fp s3 _ _ s8 bx H8 _ I8 q8) (λ ok s9 ⟨H9,I9,q9⟩=>?_) λ e s' z=>(hx e s' z).elim;have again:∀ {s10:Shared}{H10:Hp}{ys':List V},Inv (sN X N' scope cl fp s3 (upd H s.heap.objs.size (.lst []))) ([]++lO fp s7.heap) bx H10 s10->N ys' bx H10->
     ∃ m,m < n/\∃ i ys ad H',Inv (sN X N' scope cl fp s3 (upd H s.heap.objs.size (.lst []))) [] ad H' s10/\tn i s10.heap/\(∀ b∈fp,H' b=none)/\W i m ys ad H':=λ {s10 H10 ys'} I10 n10=>by
    obtain⟨m',hm,w10⟩:=hN ys' bx H10 n10;refine⟨m',hm,i+1,ys',bx,H10,I10.unpinned,T.keep _ _ _ st7 λ b hb o e=>(I10.pin (b,o) (abc _ (abc _ (eG hb e)))).1,λ b hb=>?_,w10⟩;obtain⟨o,e,d⟩:=T.obj _ _ st7 b hb;exact (I10.pin (b,o) (abc _ (abc _ (eG hb e)))).2.1
   cases ok with
   | false=>
    rw[if_neg aal] at q9 ⊢;exact again I9 q9
   | true=>
    rw[if_pos rfl] at q9 ⊢;refine abp (he fp s3 _ _ s9 bx H9 _ I9 q9) (λ y s10 ⟨yv,H10,I10,r10,hD,hlen,q10⟩=>?_) λ e s' z=>(hx e s' z).elim;refine abp (cK (X:=sN X N' scope cl fp s3 (upd H s.heap.objs.size (.lst []))) _ s10 bx H10 (.ref s.heap.objs.size) [yv] (.ref s.heap.objs.size) [y] (λ _ H11=>H11=upd H10 s.heap.objs.size (.lst (ys++[yv]))) I10 rfl (.cons r10 .nil)
     ⟨_,ys,yv,rfl,rfl,hD,hlen,rfl⟩) (λ _ s11 ⟨_,H11,I11,_,e11⟩=>?_) λ e s' z=>(hx e s' z).elim
    subst e11;exact again I11 q10
 exact codeAny_compStart_list (loop _ (by rw[<- e3s])) (T.self X.A 0 _ _ _ (T.keep _ _ _ st λ b _ o e=>old3 b o (old b o e)) (loop _ (by rw[<- e3s])))
theorem G8 {elt tg iter:Expr}{ifs:List Expr}{scope:Scope}{pos:Pos}{N':List Str}{fr:List (Option Nat)}{cl:List (Str×Addr)}{wi:TI}{g:TG}{tc:TT}{te:TE}
  (hx:∀ e s,¬ X.xe e s) (hc:X.calm=true) (S:LcOk2 X scope cl N' fr) (hi:PI X tg iter wi)
  (hg:∀ fp s H,PG (sN X N' scope cl fp s H) tg g) (ht:∀ fp s H,FE (sN X N' scope cl fp s H) ifs tc) (he:∀ fp s H,PE (sN X N' scope cl fp s H) elt te)
  (hs:∀ x,foldedSetIterable iter X.env x=pure x:=by intro _;rfl):PE X (.ListComp elt [⟨tg,iter,ifs,0⟩] scope pos) (tLC wi fr g tc te):=by
 intro pins s σ H Q I h;have hloc:=S.locs;rw[ace] at hloc;rw[eval_ListComp];refine wpAny_comprehension_free (use:=none) rfl hs S.clos S.kind (λ x hx' hl=>by have:=hloc x hx';rw[hl] at this;simpa using this) (cY (hi pins s σ H _ I h) λ v s1 h1=>cY h1 λ itv s2 h2=>?_);obtain⟨it,fp,tn,J,H2,e,I2,T,st2,f2,rest⟩:=h2;subst e;refine pZ (RR:=λ acc C=>compPost (model X.prog X.w) X.A X.xe none (EP X pins σ Q) acc C) hx hc S hg ht he I2 T st2 f2 rest ?_;intro D C H' s' m' I' q hn f;exact⟨m',hn,λ h' hsb=>⟨.ref D,H',I'.letgo f hsb,rfl,q⟩⟩
theorem vB {i:Nat}{y:Str}{py:Pos}{spos:Pos}{elt tg iter:Expr}{ifs:List Expr}{scope:Scope}{pos:Pos}{N':List Str}{fr:List (Option Nat)}{cl:List (Str×Addr)}{wi:TI}{g:TG}{tc:TT}{te:TE}
  (hN:X.N.Nodup) (hy:X.N[i]? = some y) (hk:X.env.scope.names.lookup y=some .local)
  (hx:∀ e s,¬ X.xe e s) (hc:X.calm=true) (S:LcOk2 X scope cl N' fr) (hi:PI X tg iter wi)
  (hg:∀ fp s H,PG (sN X N' scope cl fp s H) tg g) (ht:∀ fp s H,FE (sN X N' scope cl fp s H) ifs tc) (he:∀ fp s H,PE (sN X N' scope cl fp s H) elt te)
  (hsw:swapsWith (.ListComp elt [⟨tg,iter,ifs,0⟩] scope pos) (some (.Name y py)) spos.line X.env=pure true:=by rfl)
  (hs:∀ x,foldedSetIterable iter X.env x=pure x:=by intro _;rfl):PS X (.Assign [.Name y py] (.ListComp elt [⟨tg,iter,ifs,0⟩] scope pos) spos) (iB (tLC wi fr g tc te) (dU i)):=by
 intro pins s σ H D I h;have hloc:=S.locs;rw[ace] at hloc;rw[exec_Assign_Name_used _ _ _ _ hsw];refine aaa (wpAny_standAt (aaa ?_));show wpAny _ X.A (do let _ <- comprehension (.ListComp elt [⟨tg,iter,ifs,0⟩] scope pos) scope X.env _ (newList []) false (eval iter X.env) (some (assign (.Name y py) X.env))) _ _ s;refine aaa (abp (wpAny_comprehension_free (use:=some (assign (.Name y py) X.env)) (Q:=λ _ s'=>SP X pins D .next s') rfl hs S.clos S.kind (λ x hx' hl=>by have:=hloc x hx';rw[hl] at this;simpa using this)
  (cY (hi pins s σ H _ I h) λ v s1 h1=>cY h1 λ itv s2 h2=>?_)) (λ _ s' hq=>aae (aae hq)) λ _ _ e=>e)
 obtain⟨it,fp,tn,J,H2,e,I2,T,st2,f2,rest⟩:=h2;subst e;refine pZ (RR:=λ acc C=>compPost (model X.prog X.w) X.A X.xe (some (assign (.Name y py) X.env)) (λ _ s'=>SP X pins D .next s') acc C) hx hc S hg ht he I2 T st2 f2 rest ?_;intro Da C H' s' m' I' q hn f;show wpAny _ X.A (assign (.Name y py) X.env (.ref Da)) _ _ _;refine wpAny_assign_Name (lI I' hN hy (.inl hk) (v:=.ref Da) rfl (λ s'' I'' hch=>?_) (.inr hk));obtain⟨a,hsb,ha⟩:=hch;have haC:a≠C:=by
  rcases ha with e | e
  ·rw[e];exact Ne.symm f.2.1
  ·exact f.2.2.2.2.1 _ _ e
 exact⟨m',hn.sameBut hsb (Ne.symm haC),λ h' hs'=>⟨_,H',I''.letgo f hs',q⟩⟩
end
def J2 (K:aab) (n:Nat) (t:CQ):TG:=λ v σ H Q=>∃ a xs,v=.ref a/\bN K H a xs/\xs.length=n/\t xs σ H Q
theorem G6 {X:Cx}{pos:Pos}{es:List Expr}{k:Nat}{t:CQ}{n:Nat} (hc:X.calm=true) (h:GZ X es t)
  (hn:(assignEach es X.env).length=n:=by rfl) (hst:(assignEach es X.env).findIdx? (·.1)=none:=by rfl):PG X (.Tuple es k pos) (J2 X.K n t):=by
 intro pins s σ H v u Q I r hw;obtain⟨a,xs,e1,hq,hl,hw⟩:=hw;subst e1;cases r;obtain⟨its,rv,ht,hz⟩:=I.list hq;rw[assign_Tuple];refine aaa (wpAny_standAt ?_);unfold unpack;have e:(assignEach es X.env).length=its.toArray.size:=by simp [hn,<- hl,rv.length]
 rw[e,hst];refine aaa (abf (PySem.W.kun_itemsOf (I.ok.hd hc) ht.isList λ h' hx=>?_));have I1:Inv X pins σ H { s with heap:=h' }:=I.kept (t':=s.toks) λ b o e=>hx b o (aar (aak e)) e;exact h pins _ σ H xs _ Q I1 (by simpa using rv) hw
theorem wL {X:Cx}{K:aab}{pos:Pos}{es:List Expr}{k:Nat}{t:CQ}{n:Nat} (hK:X.K=K) (hc:X.calm=true) (h:GZ X es t)
  (hn:(assignEach es X.env).length=n:=by rfl) (hst:(assignEach es X.env).findIdx? (·.1)=none:=by rfl):PG X (.Tuple es k pos) (J2 K n t):=by
 subst hK;exact G6 hc h hn hst
end L2
namespace Tw
open PySem L2
def oZ (k:Option Int) (gs:List (Option Int×Int)):List Int:=(gs.filter λ g=>decide (g.1=k)).map (·.2)
theorem oY (k:Option Int):∀ gs:List (Option Int×Int),(oZ k gs).sum=cQ k gs
 | []=>rfl
 | g::r=>by
  have ih:=oY k r;unfold oZ at ih ⊢;unfold cQ
  by_cases h:g.1=k
  ·simp [h,<- ih]
  ·simp [h,<- ih]
theorem jD (k:Option Int) (gs:List (Option Int×Int)) (g:Option Int×Int):oZ k (gs++[g])=oZ k gs++(if g.1=k then [g.2] else []):=by
 unfold oZ;rw[List.filter_append,aam]
 by_cases h:g.1=k <;> simp [h]
theorem u8 (k:Option Int) (gs:List (Option Int×Int)):(oZ k gs).length<=gs.length:=by
 unfold oZ;rw[aad];exact acu _ _
theorem D0 {wd:Str} (h:wd = "open" \/ wd = "shut" \/ wd = "turn"):∃ j:Nat,j < 3/\(∀ z,[V.str "turn",V.str "open",V.str "shut"][j]? = some z->yZ z (.str wd)=true)/\(∀ i z,i < j->[V.str "turn",V.str "open",V.str "shut"][i]? = some z->yZ z (.str wd)=false)/\
  ∀ old:Bool,[V.bl (!old),V.bl true,V.bl false][j]? = some (.bl (if wd = "open" then true else if wd = "turn" then !old else false)):=by
 rcases h with rfl | rfl | rfl
 ·refine⟨1,by decide,λ z hz=>by cases hz;rfl,λ i z hi hz=>?_,λ old=>rfl⟩;have:i=0:=by omega
  subst this;cases hz;rfl
 ·refine⟨2,by decide,λ z hz=>by cases hz;rfl,λ i z hi hz=>?_,λ old=>rfl⟩;rcases (show i=0\/i=1 by omega) with rfl | rfl <;> cases hz <;> rfl
 ·exact⟨0,by decide,λ z hz=>by cases hz;rfl,λ i z hi hz=>absurd hi (Nat.not_lt_zero _),λ old=>rfl⟩
theorem IsL.append {H:Hp}:∀ {ds es:List L2.D}{xs ys:List V},L2.IsL K H ds xs->L2.IsL K H es ys->L2.IsL K H (ds++es) (xs++ys)
 | [],es,xs,ys,h1,h2=>by rw[h1.un0];exact h2
 | d::ds,es,xs,ys,h1,h2=>by
  obtain⟨x,r,rfl,hx,hr⟩:=h1.un;exact .cons hx (IsL.append hr h2)
theorem tT {H1 H2:Hp}{gl gq:Addr}{gs:List (Option Int×Int)}{gxs:List V} (sm:aG H1 H2) (fg:H1 gl=none) (hg:H2 gl=some (.lst gxs)) (ig:L2.IsL K H2 (gs.map outD) gxs) (hq:H2 gq=none) (t:Option Int) (n:Int) :
  aG H1 (upd (upd H2 gq (.tup [jI t,.int n])) gl (.lst (gxs++[.ref gq])))/\upd (upd H2 gq (.tup [jI t,.int n])) gl (.lst (gxs++[.ref gq])) gl=some (.lst (gxs++[.ref gq]))/\
  L2.IsL K (upd (upd H2 gq (.tup [jI t,.int n])) gl (.lst (gxs++[.ref gq]))) ((gs++[(t,n)]).map outD) (gxs++[.ref gq])/\∀ p o,p≠gl->H2 p=some o->upd (upd H2 gq (.tup [jI t,.int n])) gl (.lst (gxs++[.ref gq])) p=some o:=by
 have nq:gl≠gq:=aJ hg hq;have mt:qM (upd H2 gq (.tup [jI t,.int n]) gl):=by rw[aK nq,hg];exact trivial
 refine⟨λ b o e=>by rw[aK (aJ e fg)];exact aG.new hq b o (sm b o e),aB,?_,λ p o hp e=>by rw[aK hp];exact aG.new hq p o e⟩;rw[aam];exact L2.IsL.snoc (Is.tupOf (ds:=[CW t,.int n]) (bP.put (bP.refl _) (.inr mt) _ _ (bM.of aB)) (.cons (Is.tgOf _) (.cons (Is.i _) .nil))) (L2.IsL.mono (bP.put (aG.new hq).ts (.inr mt)) _ _ ig)
theorem kN:FnScope ["net","state","poured","fast","has","goes","tipped","stays","number","size","brim","outs","holds","spill","acts","here","whole","doors","word","spout","later","ground"] ["net","state","poured","fast"] (aP (bQ 42)):={}
def cL (fo:Option Nat) (i:Nat) (v:Vs):Vs:=if fo=some i then { v with size:=v.brim+1 } else v
def cB (vs:List Vs) (fo:Option Nat):List Vs:=vs.mapIdx λ i v=>cL fo i v
def aW (net:Net) (fo:Option Nat):Net:=⟨cB net.vs fo,net.sps⟩
def cN:Option Nat->V
 | none=>.non
 | some j=>.int (j:Int)
theorem cT (vs:List Vs) (fo:Option Nat):(cB vs fo).length=vs.length:=by unfold cB;rw[List.length_mapIdx]
theorem nQ {vs:List Vs} (fo:Option Nat) {i:Nat}{v:Vs} (h:vs[i]? = some v):(cB vs fo)[i]? = some (cL fo i v):=by unfold cB;rw[List.getElem?_mapIdx,h];rfl
theorem sX (fo:Option Nat) (i:Nat) (v:Vs):(cL fo i v).acts=v.acts:=by unfold cL;split <;> rfl
theorem qN (fo:Option Nat) (i:Nat) (v:Vs):(cL fo i v).spill=v.spill:=by unfold cL;split <;> rfl
theorem m9 (fo:Option Nat) (i:Nat) (v:Vs) (h:Int):bJ (cL fo i v) h=bJ v h:=by unfold cL;split <;> rfl
theorem pT {fo:Option Nat}{i:Nat}{v:Vs}{h:Int} (z:fo=some i):fB (cL fo i v) h=false:=by
 have:fB { v with size:=v.brim+1 } h=false:=by
  unfold fB bJ;rw[abo];show ¬ v.brim+1<=min h v.brim;omega
 unfold cL;rw[if_pos z];exact this
theorem yA {fo:Option Nat}{i:Nat}{v:Vs}{h:Int} (z:¬ fo≠some i):fB (cL fo i v) h=false:=pT (Classical.not_not.1 z)
theorem E6 {fo:Option Nat}{i:Nat} (z:fo≠some i):(!decide (V.int (i:Int)=cN fo))=true:=by
 cases fo with
 | none=>rfl
 | some j=>
  rw[Bool.not_eq_true',abo];intro e;injection e with e;exact z (by congr 1;omega)
theorem yD (fo:Option Nat) (i:Nat):D9 (.int (i:Int)) (cN fo)=true:=by cases fo <;> rfl
theorem sY (net:Net):aW net none=net:=by
 have:cB net.vs none=net.vs:=by
  apply List.ext_getElem?;intro i;unfold cB;rw[List.getElem?_mapIdx];cases net.vs[i]? <;> rfl
 unfold aW;rw[this]
def qQ (K:aab):Sp:=λ args H Q _=>∃ (x y:V) (z:Addr) (net:Net) (held coming poured:List Int) (doors:List Bool) (fo:Option Nat),args=[x,y,.ref z,cN fo]/\Is K H (eX net) x/\Is K H (uB held coming doors) y/\HK K H z (poured.map V.int)/\
 NetOk net/\NetOk (aW net fo)/\StOk net held coming doors/\poured.length=net.vs.length/\∀ (l:Addr) (p1 p2:V) H',aG H H'->H' l=some (.lst [p1,p2,.int (eA (aW net fo) held coming poured doors).ground])->
  Is K H' (uB (eA (aW net fo) held coming poured doors).held (eA (aW net fo) held coming poured doors).coming (eA (aW net fo) held coming poured doors).doors) p1->
  Is K H' (.tup ((eA (aW net fo) held coming poured doors).tip.map λ (i:Nat)=>D.int (i:Int))) p2->Q (.ref l) H'
theorem pG {f fF:Addr}{fd fdF:FuncData} (F:Fun K "_law_tick" "_law_tick" (bQ 42) f fd) (T:Txt mg) (G__law_filled:Callee P w K mg base "_law_filled" ["net","state","poured"] 1 (lK K) fF fdF):FnOk P w K mg base i7 2 f fd ["net","state","poured","fast"] (qQ K):=by
 refine F.ok kN (λ vs H Q E h=>?_) (λ cdv A outer s H vs Q E hr h=>?_)
 ·obtain⟨x,y,z,net,held,coming,poured,doors,fo,rfl,_⟩:=h;rfl
 ·obtain⟨x,y,z,net,held,coming,poured,doors,fo,rfl,hx,hy,qz,nok,nokw,sok,hpl,k⟩:=h;have wl:(cB net.vs fo).length=net.vs.length:=cT _ _;have wat:∀ {i:Nat}{v:Vs},net.vs[i]? = some v->(cB net.vs fo)[i]? = some (cL fo i v):=λ h=>nQ fo h;have wok:∀ v∈cB net.vs fo,VOk net.vs.length net.sps.length v:=λ v hv=>by have:=nokw.vs v hv;rw[show (aW net fo).vs.length=net.vs.length from wl] at this;exact this
  generalize hws:cB net.vs fo=ws at wl wat wok;have sc:=kN;refine⟨_,(aD (aR (i:=4) sc.nd rfl (Or.inl rfl) (dF G__law_filled hr (aA (pv 0) (aA (pv 1) (aA (pv 2) aC)))))
   (aD (aR (i:=5) sc.nd rfl (Or.inr rfl) (bC aC))
   (aD (aR (i:=6) sc.nd rfl (Or.inl rfl) (bC aC))
   (aD (aR (i:=7) sc.nd rfl (Or.inl rfl) (bC aC))
   (aD (dP PassesOwn.never rfl (cC rfl T.b_range (aA (aN (bE (K:=K) rfl) rfl T.b_len aba (aA (aS (aI (K:=K) rfl) (pv 0) aE (λ _ _=>rfl)) aC)) aC)) (aF (i:=8) sc.nd rfl (Or.inl rfl)) (aD (cF (aS (aI (K:=K) rfl) (aS (aI (K:=K) rfl) (pv 0) aE (λ _ _=>rfl)) (pv 8) (λ _ _=>rfl)) (bD (K:=K) (n:=6) rfl rfl (aH (aF (i:=9) sc.nd rfl (Or.inl rfl)) (aH (aF (i:=10) sc.nd rfl (Or.inl rfl)) (aH (aF (i:=11) sc.nd rfl (Or.inl rfl)) (aH (aF (i:=12) sc.nd rfl (Or.inl rfl)) (aH (aF (i:=13) sc.nd rfl (Or.inl rfl)) (aH (aF (i:=14) sc.nd rfl (Or.inl rfl)) bB))))))))
   (aD (aR (i:=15) sc.nd rfl (Or.inr rfl) (aN (qF rfl) rfl T.b_min PyProof.Rows.boot_min (aA (aS (aI (K:=K) rfl) (pv 4) (pv 8) (λ _ _=>rfl)) (aA (pv 10) aC))))
   (aD (d0 (dR (K:=K) rfl aav abh abi cK (pv 5) (aA (bO (aA (pv 13) (aA (aT gX (aS (aI (K:=K) rfl) (pv 4) (pv 8) (λ _ _=>rfl)) (pv 15)) aC))) aC)))
   (aD (dL (PW.pt (vA (bL EU (pv 15) (pv 9) (bR _)) (qZ (bL ES (pv 8) (pv 3) (bR _))))) (aD (aR (i:=16) sc.nd rfl (Or.inr rfl) (aN (eK (K:=K) rfl rfl) rfl T.b_sum PyProof.Rows.boot_sum (aA (fU (λ _ _ h=>h) rfl (LcOk.mk (N':=["target","parts"]) (fr:=[none,none]) rfl trivial rfl rfl rfl rfl rfl trivial) (eL (K:=K) rfl (pv 11)) (λ _ _ _=>(bD (K:=K) (n:=2) rfl rfl (aH (aF (i:=0) (show (["target","parts"]:List Str).Nodup by decide +kernel) rfl (Or.inl rfl) (Or.inr rfl)) (aH (aF (i:=1) (show (["target","parts"]:List Str).Nodup by decide +kernel) rfl (Or.inl rfl) (Or.inr rfl)) bB)))) (λ _ _ _=>dG) (λ _ _ _=>(pv 1))) aC)))
   (aD (aR (i:=5) sc.nd rfl (Or.inr rfl) (aT fZ (pv 5) (fU (λ _ _ h=>h) rfl (LcOk.mk (N':=["target","parts","here","whole"]) (fr:=[none,none,some 15,some 16]) rfl ⟨rfl,rfl,trivial⟩ rfl rfl rfl rfl rfl ⟨⟨_,rfl,rfl,rfl,rfl⟩,⟨_,rfl,rfl,rfl,rfl⟩,trivial⟩) (eL (K:=K) rfl (pv 11)) (λ _ _ _=>(bD (K:=K) (n:=2) rfl rfl (aH (aF (i:=0) (show (["target","parts","here","whole"]:List Str).Nodup by decide +kernel) rfl (Or.inl rfl) (Or.inr rfl)) (aH (aF (i:=1) (show (["target","parts","here","whole"]:List Str).Nodup by decide +kernel) rfl (Or.inl rfl) (Or.inr rfl)) bB)))) (λ _ _ _=>dG) (λ _ _ _=>(bO (aA (pv 0) (aA (aT iL (aT fW (pv 2) (pv 3)) (pv 1)) aC)))))))
   (aD (aR (i:=15) sc.nd rfl (Or.inr rfl) (aT lR (pv 15) (pv 16)))
   (aD (d0 (dR (K:=K) rfl aav abh abi cK (pv 6) (aA (pv 8) aC)))
   (aL (dL (r6 (gT (pv 12))) (aD (d0 (dR (K:=K) rfl aav abh abi cK (pv 5) (aA (bO (aA eF (aA (pv 15) aC))) aC)))
   (aL (aR (i:=15) sc.nd rfl (Or.inr rfl) aE))) bV)))))) bV)
   (aL (d0 (dR (K:=K) rfl aav abh abi cK (pv 7) (aA (pv 15) aC)))))))))
   (aD (aR (i:=17) sc.nd rfl (Or.inl rfl) (aZ (jA (K:=K) rfl) rfl T.b_list jC (aA (aS (aI (K:=K) rfl) (pv 1) aE (λ _ _=>rfl)) aC)))
   (aD (dP PassesOwn.never rfl (eP (K:=K) rfl (pv 6)) (aF (i:=8) sc.nd rfl (Or.inl rfl)) (aL (dP PassesOwn.never rfl (eL (K:=K) rfl (aS (aI (K:=K) rfl) (aS (aI (K:=K) rfl) (aS (aI (K:=K) rfl) (pv 0) aE (λ _ _=>rfl)) (pv 8) (λ _ _=>rfl)) aE (λ _ _=>rfl))) (bD (K:=K) (n:=2) rfl rfl (aH (aF (i:=18) sc.nd rfl (Or.inl rfl)) (aH (aF (i:=19) sc.nd rfl (Or.inl rfl)) bB))) (aL (cF (aS (aI (K:=K) rfl) (bC (aA (r8 (aS (aI (K:=K) rfl) (pv 17) (pv 19) (λ _ _=>rfl))) (aA i4 (aA i4 aC)))) (dR (K:=K) rfl aav PySem.F.slot_list_index PySem.F.type_list_index tJ (bC (aA dA (aA dA (aA dA aC)))) (aA (pv 18) aC)) (λ _ _=>rfl)) (lQ (pv 17) (pv 19) fG))))))
   (aD (vB (i:=20) sc.nd rfl rfl (λ _ _ h=>h) rfl (LcOk2.mk (N':=["k","goes"]) (fr:=[none,some 5]) rfl ⟨rfl,trivial⟩ rfl rfl rfl rfl rfl ⟨⟨_,rfl,rfl,rfl,rfl⟩,trivial⟩) (cC rfl T.b_range (aA (aN (bE (K:=K) rfl) rfl T.b_len aba (aA (aS (aI (K:=K) rfl) (pv 0) aE (λ _ _=>rfl)) aC)) aC)) (λ _ _ _=>(aF (i:=0) (show (["k","goes"]:List Str).Nodup by decide +kernel) rfl (Or.inr rfl) (Or.inl rfl))) (λ _ _ _=>dG) (λ _ _ _=>(aN (eK (K:=K) rfl rfl) rfl T.b_sum PyProof.Rows.boot_sum (aA (fU (λ _ _ h=>h) rfl (LcOk.mk (N':=["target","amount","k"]) (fr:=[none,none,some 0]) rfl ⟨rfl,trivial⟩ rfl rfl rfl rfl rfl ⟨⟨_,rfl,rfl,rfl,rfl⟩,trivial⟩) (eP (K:=K) rfl (pv 1)) (λ _ _ _=>(bD (K:=K) (n:=2) rfl rfl (aH (aF (i:=0) (show (["target","amount","k"]:List Str).Nodup by decide +kernel) rfl (Or.inl rfl) (Or.inr rfl)) (aH (aF (i:=1) (show (["target","amount","k"]:List Str).Nodup by decide +kernel) rfl (Or.inl rfl) (Or.inr rfl)) bB)))) (λ _ _ _=>gU (bL iM (pv 0) (pv 2) (bR _))) (λ _ _ _=>(pv 1))) aC))))
   (aD (aR (i:=21) sc.nd rfl (Or.inl rfl) (aN (eK (K:=K) rfl rfl) rfl T.b_sum PyProof.Rows.boot_sum (aA (fU (λ _ _ h=>h) rfl (LcOk.mk (N':=["target","amount"]) (fr:=[none,none]) rfl trivial rfl rfl rfl rfl rfl trivial) (eP (K:=K) rfl (pv 5)) (λ _ _ _=>(bD (K:=K) (n:=2) rfl rfl (aH (aF (i:=0) (show (["target","amount"]:List Str).Nodup by decide +kernel) rfl (Or.inl rfl) (Or.inr rfl)) (aH (aF (i:=1) (show (["target","amount"]:List Str).Nodup by decide +kernel) rfl (Or.inl rfl) (Or.inr rfl)) bB)))) (λ _ _ _=>gU (bL vG (pv 0) eF (bR _))) (λ _ _ _=>(pv 1))) aC)))
   (aL (bF (bC (aA (bO (aA (aZ (cD (K:=K) rfl) rfl T.b_tuple cP (aA (pv 7) aC)) (aA (aZ (cD (K:=K) rfl) rfl T.b_tuple cP (aA (pv 20) aC)) (aA (aZ (cD (K:=K) rfl) rfl T.b_tuple cP (aA (pv 17) aC)) aC)))) (aA (aZ (cD (K:=K) rfl) rfl T.b_tuple cP (aA (pv 6) aC)) (aA (pv 21) aC))))))))))))))),?_⟩
  obtain⟨a,b,c,xs,ys,rfl,q,q1,l1,q2,l2⟩:=dM hx;obtain⟨ay,a1,a2,a3,rfl,qy,p1,p2,p3⟩:=sZ hy;have exl:xs.length=net.vs.length:=by rw[l1.length,aad]
  have n1:=nok.lo;have n2:=nok.hi;have n3:=nok.sp;have hn:((xs.length:Nat):Int).toNat=net.vs.length:=by rw[exl];simp
  have hsl:(aM net held coming poured doors).length=net.vs.length:=by
   unfold aM;rw[eI,fN sok.h sok.c hpl]
  have hgl60:(bY ws (aM net held coming poured doors)).length<=60:=by
   have:=j7 ws (aM net held coming poured doors) wok;omega
  have hgt:∀ i,(bY (ws.take i) ((aM net held coming poured doors).take i)).length<=60:=λ i=>by
   have h1:=j7 (ws.take i) ((aM net held coming poured doors).take i) λ v hv=>wok v (List.mem_of_mem_take hv);have h2:(ws.take i).length<=12:=by rw[aat];omega
   omega
  have htt:∀ i,(bA 0 (ws.take i) ((aM net held coming poured doors).take i)).length<=12:=λ i=>by
   have h1:=gA (ws.take i) ((aM net held coming poured doors).take i) 0;have h2:(ws.take i).length<=12:=by rw[aat];omega
   omega
  have hst:∀ i,(d8 (ws.take i) ((aM net held coming poured doors).take i)).length<=12:=λ i=>by
   rw[fC _ _ (by rw[aat,aat,hsl,wl]),aat];omega
  refine⟨_,rfl,_,rfl,_,rfl,.ref a,.ref ay,z,net,held,coming,poured,doors,rfl,hx,hy,qz,nok,sok,hpl,λ hl H1 sm1 fr1 hH1=>?_⟩;refine⟨abg _,λ gl hgl=>⟨abg _,λ tl htl=>⟨abg _,λ sl hsl'=>?_⟩⟩⟩;have ft:H1 tl=none:=aG.free (aG.new hgl) htl;have fs:H1 sl=none:=aG.free (aG.new hgl) (aG.free (aG.new htl) hsl');have nts:tl≠sl:=aJ (show upd _ tl (.lst []) tl=_ from aB) hsl';have ngt:gl≠tl:=aJ (show upd H1 gl (.lst []) gl=_ from aB) htl;have ngs:gl≠sl:=aJ (show upd (upd H1 gl (.lst [])) tl (.lst []) gl=some (.lst []) by rw[aK ngt];exact aB) hsl';refine⟨_,rfl,.inr (.inl ⟨a,_,0,_,rfl,rfl,((((sm1.trans (aG.new hgl)).trans (aG.new htl)).trans (aG.new hsl')).tup q),rfl,b,xs,rfl,.inr ((((sm1.trans (aG.new hgl)).trans (aG.new htl)).trans (aG.new hsl')).tup q1),_,rfl,by omega,by omega,?_⟩)⟩;rw[hn];refine dW (lo:=0) (n:=net.vs.length) (λ i ad H'=>aG H1 H'/\H' tl=some (.lst ((bA 0 (ws.take i) ((aM net held coming poured doors).take i)).map λ (j:Nat)=>V.int (j:Int)))/\
   H' sl=some (.lst ((d8 (ws.take i) ((aM net held coming poured doors).take i)).map V.int))/\∃ (gl:Addr) (gxs:List V),H1 gl=none/\gl≠tl/\gl≠sl/\H' gl=some (.lst gxs)/\L2.IsL K H' ((bY (ws.take i) ((aM net held coming poured doors).take i)).map outD) gxs/\
   ∃ v8 v9 v10 v11 v12 v13 v14 v15 v16,ad=[some (.ref a),some (.ref ay),some (.ref z),some (cN fo),some (.ref hl),some (.ref gl),some (.ref tl),some (.ref sl),v8,v9,v10,v11,v12,v13,v14,v15,v16,none,none,none,none,none]) ?_ ?_ ?_
  ·refine⟨((aG.new hgl).trans (aG.new htl)).trans (aG.new hsl'),by rw[aK nts,aB];simp [bA],by rw[aB];simp [d8],gl,[],hgl,ngt,ngs,by rw[aK ngs,aK ngt,aB],?_,none,none,none,none,none,none,none,none,none,rfl⟩;simp only [List.take_zero,bY,acl];exact .nil
  ·rintro i ad H2 hi ⟨sm,ht2,hs2,gl,gxs,fg,ngt,ngs,hg2,ig2,v8,v9,v10,v11,v12,v13,v14,v15,v16,rfl⟩;rw[Int.zero_add];have hv:net.vs[i]? = some net.vs[i]:=by simp [hi]
   have vok:=nok.vs net.vs[i] (ach hi);have hil:i < (aM net held coming poured doors).length:=by rw[hsl];exact hi
   have hhi:(aM net held coming poured doors)[i]? = some ((aM net held coming poured doors)[i]'hil):=by simp
   generalize hh:(aM net held coming poured doors)[i]'hil=h at hhi;have hhm:((aM net held coming poured doors).map V.int)[i]? = some (.int h):=by rw[aaf,hhi];rfl
   have sA:aG H H2:=sm1.trans sm;have s1:=iC ws (aM net held coming poured doors) i _ _ (wat hv) hhi;have s2:=jP ws (aM net held coming poured doors) i 0 _ _ (wat hv) hhi;have s3:=jT ws (aM net held coming poured doors) i _ _ (wat hv) hhi;generalize hvv:net.vs[i]=v at hv vok s1 s2 s3;obtain⟨xv,hxv,ixv⟩:=l1.get (i:=i) (d:=sR v) (by rw[aaf,hv];rfl);obtain⟨va,o,cc,rfl,qv,ho,hc⟩:=sQ ixv;obtain⟨oa,os,rfl,qo,lo⟩:=ho.un;have eol:os.length=v.outs.length:=by rw[lo.length,aad]
   have hw1:=pP vok.ne vok.outs;have hw2:=nC vok.outs;have ho3:=vok.o3;refine⟨_,rfl,.inr (.inl ⟨a,_,0,_,rfl,rfl,sA.tup q,rfl,_,rfl,.inr (.inl ⟨b,xs,(i:Int),_,rfl,rfl,sA.tup q1,bW hxv,va,_,rfl,sA.tup qv,rfl,_,_,rfl,_,_,rfl,_,_,rfl,_,_,rfl,_,_,rfl,_,_,rfl,rfl,?_⟩)⟩)⟩;refine⟨_,rfl,_,rfl,.inl ⟨hl,_,(i:Int),_,rfl,rfl,bN.of (sm _ _ hH1),bW hhm,_,rfl,_,_,rfl,?_⟩⟩;have eh:(if v.brim < h then v.brim else h)=bJ v h:=by unfold bJ;split <;> omega
   rw[eh];refine⟨_,rfl,.inl ⟨rfl,_,bN.of hg2⟩,_,rfl,_,rfl,_,rfl,.inl ⟨hl,_,(i:Int),_,rfl,rfl,bN.of (sm _ _ hH1),bW hhm,_,rfl,_,_,rfl,rfl,(show 2<=sizeLine by decide),λ gq hgq=>?_⟩⟩;have ngq:gl≠gq:=aJ hg2 hgq;have hgxl:gxs.length=(bY (ws.take i) ((aM net held coming poured doors).take i)).length:=by rw[ig2.length,aad]
   have hg60:=hgt i;refine⟨gl,gxs,_,rfl,rfl,by rw[aK ngq];exact hg2,aO (by omega),?_⟩;obtain⟨sm3,hg3,ig3,kp3⟩:=tT sm fg hg2 ig2 hgq v.spill (h - bJ v h);have ht3:=kp3 tl _ (Ne.symm ngt) ht2;have hs3:=kp3 sl _ (Ne.symm ngs) hs2;generalize upd (upd H2 gq (.tup [jI v.spill,.int (h - bJ v h)])) gl (.lst (gxs++[.ref gq]))=H3 at sm3 hg3 ig3 kp3 ht3 hs3 ⊢;have sA3:aG H H3:=sm1.trans sm3;dsimp only [iA,iB,tC,dU];refine x9 (λ ad H'=>aG H1 H'/\H' tl=some (.lst ((bA 0 (ws.take (i+1)) ((aM net held coming poured doors).take (i+1))).map λ (j:Nat)=>V.int (j:Int)))/\
    H' sl=some (.lst ((d8 (ws.take i) ((aM net held coming poured doors).take i)).map V.int))/\∃ (gl:Addr) (gxs:List V),H1 gl=none/\gl≠tl/\gl≠sl/\H' gl=some (.lst gxs)/\L2.IsL K H' ((bY (ws.take (i+1)) ((aM net held coming poured doors).take (i+1))).map outD) gxs/\
    ∃ v8 v9 v10 v11 v12 v13 v14 v16,ad=[some (.ref a),some (.ref ay),some (.ref z),some (cN fo),some (.ref hl),some (.ref gl),some (.ref tl),some (.ref sl),v8,v9,v10,v11,v12,v13,v14,some (.int (eN (cL fo i v) h)),v16,none,none,none,none,none]) (λ D' hD=>?_) ?_
   ·refine⟨_,rfl,_,rfl,_,_,rfl,rfl,_,rfl,?_⟩;have other:∀ cp,(∃ v8 v9 v10 v11 v12 v13 v14 v16,cp=[some (.ref a),some (.ref ay),some (.ref z),some (cN fo),some (.ref hl),some (.ref gl),some (.ref tl),some (.ref sl),v8,v9,v10,v11,v12,v13,v14,some (.int (bJ v h)),v16,none,none,none,none,none])->fB (cL fo i v) h=false->D'.nx cp H3:=by
     rintro cp ⟨v8,v9,v10,v11,v12,v13,v14,v16,rfl⟩ tips;have es:bJ v h=eN (cL fo i v) h:=by unfold eN;rw[tips,m9];rfl
     have eg:eO (cL fo i v) h=[(v.spill,h - bJ v h)]:=by unfold eO;rw[tips,m9,qN];rfl
     rw[tips,if_neg aal,acf] at s2;exact hD _ _ ⟨sm3,by rw[s2];exact ht3,hs3,gl,_,fg,ngt,ngs,hg3,by rw[s3,eg];exact ig3,_,_,_,_,_,_,_,_,by rw[<- es]⟩
    refine fJ (λ hge=>?_) (λ hlt=>g6 ?_)
    ·refine⟨_,rfl,_,rfl,yD fo i,_,rfl,?_⟩;refine fJ (λ hnf=>?_) (λ hst=>other _ ⟨_,_,_,_,_,_,_,_,rfl⟩ (yA λ z=>hst (E6 z)));have ev:cL fo i v=v:=if_neg λ z=>by rw[z] at hnf;simp [cN] at hnf
     rw[ev] at s1 s2 s3 hD;have tips:fB v h=true:=hge;refine⟨_,rfl,oa,rfl,⟨_,sA3.tup qo⟩,jS (K:=K) (a:=oa) (xs:=os) (λ D j ys ad H'=>H3 D=none/\aG H3 H'/\H' D=some (.lst ys)/\ys=(v.outs.take j).map (λ x=>V.int x.2)/\∃ x y,ad=[x,y])
      (λ D j ys ad H' p=>p.2.1.tup (sA3.tup qo)) (λ D hD=>⟨hD,aG.new hD,aB,by simp,none,none,rfl⟩) ?_ ?_⟩
     rotate_left
     ·rintro D j x ys ad H' hx ⟨hD,smx,hDl,rfl,v1,v2,rfl⟩;obtain⟨ot,hot,oq,rfl,qa⟩:=j4 lo hx;have hjl:=(aai.mp hot).1;refine⟨oq,_,rfl,smx.tup (sA3.tup qa),rfl,_,_,rfl,_,_,rfl,rfl,?_⟩;refine nA ⟨_,rfl,hDl,aO (by simp;omega),hD,smx.put hD,aB,?_,_,_,rfl⟩;rw[aV hot];simp
     rintro D ys ad H4 ⟨hD4,sm4,hDl,rfl,_⟩;rw[eol,aas] at hDl;refine⟨false,D,v.outs.map (·.2),rfl,bN.of (by rw[acd];exact hDl),?_⟩;have ew:(v.outs.map (·.2)).sum=whole v.outs:=rfl;rw[ew];have sA4:aG H H4:=sA3.trans sm4;refine⟨_,rfl,_,rfl,oa,rfl,⟨_,sA4.tup qo⟩,jS (K:=K) (a:=oa) (xs:=os) (λ D j ys ad H'=>H4 D=none/\aG H4 H'/\H' D=some (.lst ys)/\L2.IsL K H' (((eE v (bJ v h)).take j).map outD) ys/\∃ x y,ad=[x,y,some (.int (bJ v h)),some (.int (whole v.outs))])
      (λ D j ys ad H' p=>p.2.1.tup (sA4.tup qo)) (λ D hD=>⟨hD,aG.new hD,aB,by simp only [List.take_zero,acl];exact .nil,none,none,rfl⟩) ?_ ?_⟩
     rotate_left
     ·rintro D j x ys ad H' hx ⟨hD,smx,hDl,hys,v1,v2,rfl⟩;obtain⟨ot,hot,oq,rfl,qa⟩:=j4 lo hx;have hjl:=(aai.mp hot).1;have hom:=vok.outs ot (abl hot);refine⟨oq,_,rfl,smx.tup (sA4.tup qa),rfl,_,_,rfl,_,_,rfl,rfl,?_⟩;refine nA ⟨_,rfl,_,rfl,_,rfl,_,_,rfl,rfl,⟨by omega,by omega⟩,_,rfl,_,_,rfl,rfl,.inr ⟨by have:=hom.lo;omega,by have:=hom.hi;omega⟩,(show 2<=sizeLine by decide),λ tq htq=>?_⟩;have nD:D≠tq:=aJ hDl htq;have hysl:ys.length<=3:=by rw[hys.length,aad,aat];unfold eE;rw[aad];omega
      have mt:qM (upd H' tq (.tup [jI ot.1,.int (bJ v h / whole v.outs * ot.2)]) D):=by rw[aK nD,hDl];exact trivial
      have hsh:(eE v (bJ v h))[j]? = some (ot.1,bJ v h / whole v.outs * ot.2):=by unfold eE;rw[aaf,hot];rfl
      refine⟨by rw[aK nD];exact hDl,aO (by omega),hD,λ b o e=>by rw[aK (aJ e hD)];exact aG.new htq b o (smx b o e),aB,?_,_,_,rfl⟩;rw[aV hsh,aam];exact L2.IsL.snoc (Is.tupOf (ds:=[CW ot.1,.int (bJ v h / whole v.outs * ot.2)]) (bP.put (bP.refl _) (.inr mt) _ _ (bM.of aB)) (.cons (Is.tgOf _) (.cons (Is.i _) .nil))) (L2.IsL.mono (bP.put (aG.new htq).ts (.inr mt)) _ _ hys)
     rintro D2 ys ad H5 ⟨hD5,sm5,hD5l,hys,_⟩;have esh:(eE v (bJ v h)).length=os.length:=by unfold eE;rw[aad,eol]
     rw[abv (Nat.le_of_eq esh)] at hys;have hysl:ys.length<=3:=by rw[hys.length,aad,esh,eol];exact ho3
     have hg5:=sm5 _ _ (sm4 _ _ hg3);refine⟨gl,D2,gxs++[.ref gq],ys,rfl,rfl,hg5,hD5l,aby (aO (by simp;omega)),λ gl2 hgl2=>?_⟩;have fg2:H1 gl2=none:=aG.free (sm3.trans (sm4.trans sm5)) hgl2;have ht5:=sm5 _ _ (sm4 _ _ ht3);have hs5:=sm5 _ _ (sm4 _ _ hs3);have ngt2:gl2≠tl:=Ne.symm (aJ ht5 hgl2);have ngs2:gl2≠sl:=Ne.symm (aJ hs5 hgl2);have m6:aG H5 (upd H5 gl2 (.lst (gxs++[.ref gq]++ys))):=aG.new hgl2;have ig6:L2.IsL K (upd H5 gl2 (.lst (gxs++[.ref gq]++ys))) ((bY (ws.take i) ((aM net held coming poured doors).take i)++[(v.spill,h - bJ v h)]++eE v (bJ v h)).map outD) (gxs++[.ref gq]++ys):=by
      rw[aam];exact IsL.append (L2.IsL.mono m6.ts _ _ (L2.IsL.mono sm5.ts _ _ (L2.IsL.mono sm4.ts _ _ ig3))) (L2.IsL.mono m6.ts _ _ hys)
     have hg6:upd H5 gl2 (.lst (gxs++[.ref gq]++ys)) gl2=some (.lst (gxs++[.ref gq]++ys)):=aB;have sm6:aG H1 (upd H5 gl2 (.lst (gxs++[.ref gq]++ys))):=(sm3.trans (sm4.trans sm5)).trans m6;have ht6:=m6 _ _ ht5;have hs6:=m6 _ _ hs5;generalize upd H5 gl2 (.lst (gxs++[.ref gq]++ys))=H6 at sm6 hg6 ig6 ht6 hs6 ⊢;refine⟨_,rfl,_,rfl,_,_,rfl,rfl,(show 0 < whole v.outs by omega),?_⟩;have htl:=htt i;refine⟨_,rfl,.inl ⟨rfl,_,bN.of ht6⟩,_,rfl,tl,_,_,rfl,rfl,ht6,aO (by rw[aad];omega),?_⟩;have mtt:qM (H6 tl):=by rw[ht6];exact trivial
     rw[tips,if_pos rfl,Nat.zero_add] at s2;have hg7:upd H6 tl (.lst (((bA 0 (ws.take i) ((aM net held coming poured doors).take i)).map λ (j:Nat)=>V.int (j:Int))++[.int (i:Int)])) gl2=some (.lst (gxs++[.ref gq]++ys)):=by rw[aK ngt2];exact hg6
     have ig7:=L2.IsL.mono (bP.put (o:=HO.lst (((bA 0 (ws.take i) ((aM net held coming poured doors).take i)).map λ (j:Nat)=>V.int (j:Int))++[.int (i:Int)])) (bP.refl H6) (.inr mtt)) _ _ ig6;have sm7:aG H1 (upd H6 tl (.lst (((bA 0 (ws.take i) ((aM net held coming poured doors).take i)).map λ (j:Nat)=>V.int (j:Int))++[.int (i:Int)]))):=sm6.put ft;have ht7:upd H6 tl (.lst (((bA 0 (ws.take i) ((aM net held coming poured doors).take i)).map λ (j:Nat)=>V.int (j:Int))++[.int (i:Int)])) tl=some (.lst ((bA 0 (ws.take (i+1)) ((aM net held coming poured doors).take (i+1))).map λ (j:Nat)=>V.int (j:Int))):=by
      rw[aB,s2,aam];rfl
     have hs7:upd H6 tl (.lst (((bA 0 (ws.take i) ((aM net held coming poured doors).take i)).map λ (j:Nat)=>V.int (j:Int))++[.int (i:Int)])) sl=_:=(aK (Ne.symm nts)).trans hs6;generalize upd H6 tl (.lst (((bA 0 (ws.take i) ((aM net held coming poured doors).take i)).map λ (j:Nat)=>V.int (j:Int))++[.int (i:Int)]))=H7 at hg7 ig7 sm7 ht7 hs7 ⊢;refine⟨_,rfl,_,rfl,?_⟩;cases hhd:v.holds with
     | true=>
      refine g6 ?_;have es:bJ v h % whole v.outs=eN v h:=by unfold eN;rw[tips,hhd];rfl
      refine hD _ _ ⟨sm7,ht7,hs7,gl2,_,fg2,ngt2,ngs2,hg7,?_,_,_,_,_,_,_,_,_,by rw[<- es];rfl⟩;have eg:eO v h=[(v.spill,h - bJ v h)]++eE v (bJ v h):=by unfold eO;rw[tips,hhd];simp
      rw[s3,eg,<- abw];exact ig7
     | false=>
      refine lB ?_;refine⟨_,rfl,.inl ⟨rfl,_,bN.of hg7⟩,_,rfl,(show 2<=sizeLine by decide),λ gq2 hgq2=>?_⟩;have ngq2:gl2≠gq2:=aJ hg7 hgq2;refine⟨gl2,_,_,rfl,rfl,by rw[aK ngq2];exact hg7,aO (by simp;omega),?_⟩;obtain⟨sm8,hg8,ig8,kp8⟩:=tT sm7 fg2 hg7 ig7 hgq2 none (bJ v h % whole v.outs);have es:eN v h=0:=by unfold eN;rw[tips,hhd];rfl
      refine hD _ _ ⟨sm8,kp8 tl _ (Ne.symm ngt2) ht7,kp8 sl _ (Ne.symm ngs2) hs7,gl2,_,fg2,ngt2,ngs2,hg8,?_,_,_,_,_,_,_,_,_,by rw[es];rfl⟩;have eg:eO v h=[(v.spill,h - bJ v h)]++eE v (bJ v h)++[(none,bJ v h % whole v.outs)]:=by unfold eO;rw[tips,hhd];simp
      rw[s3,eg,<- abw,<- abw];exact ig8
    ·refine other _ ⟨_,_,_,_,_,_,_,_,rfl⟩ ?_
     by_cases z:fo=some i
     ·exact pT z
     ·rw[show cL fo i v=v from if_neg z];cases e:fB v h with
      | false=>rfl
      | true=>exact absurd e hlt
   rintro aq H4 ⟨sm4,ht4,hs4,gl,gxs,fg,ngt,ngs,hg4,ig4,v8,v9,v10,v11,v12,v13,v14,v16,rfl⟩;have hsl2:=hst i;refine⟨_,rfl,.inl ⟨rfl,_,bN.of hs4⟩,_,rfl,sl,_,_,rfl,rfl,hs4,aO (by rw[aad];omega),?_⟩;refine⟨sm4.put fs,by rw[aK nts];exact ht4,by rw[aB,s1,aam];rfl,gl,gxs,fg,ngt,ngs,by rw[aK ngs];exact hg4,L2.IsL.mono (bP.put (bP.refl _) (.inr (by rw[hs4];exact trivial))) _ _ ig4,_,_,_,_,_,_,_,_,_,rfl⟩
  ·rintro ad H2 ⟨sm,ht2,hs2,gl,gxs,fg,ngt,ngs,hg2,ig2,v8,v9,v10,v11,v12,v13,v14,v15,v16,rfl⟩;have ek:ws.take net.vs.length=ws:=by rw[<- wl,aas]
   have ek2:(aM net held coming poured doors).take net.vs.length=aM net held coming poured doors:=by rw[<- hsl,aas]
   rw[ek,ek2] at ht2 hs2 ig2;have sA:aG H H2:=sm1.trans sm;have etl:(bA 0 ws (aM net held coming poured doors)).length<=12:=by have:=gA ws (aM net held coming poured doors) 0;omega
   refine⟨_,rfl,.inr (.inl ⟨ay,_,2,_,rfl,rfl,sA.tup qy,rfl,a3,_,rfl,.inr (sA.tup p3),λ dl hdl=>?_⟩)⟩;have m3:aG H2 (upd H2 dl (.lst (doors.map V.bl))):=aG.new hdl;refine⟨_,rfl,tl,rfl,⟨_,bN.of (m3 _ _ ht2)⟩,oS (K:=K) (a:=tl) (xs:=(bA 0 ws (aM net held coming poured doors)).map λ (j:Nat)=>V.int (j:Int))
    (λ i ad H'=>aG H2 H'/\H' dl=some (.lst ((cA ws doors ((bA 0 ws (aM net held coming poured doors)).take i)).map V.bl))/\
     ∃ v8 v9 v10 v11 v12 v13 v14 v15 v16 v18 v19,ad=[some (.ref a),some (.ref ay),some (.ref z),some (cN fo),some (.ref hl),some (.ref gl),some (.ref tl),some (.ref sl),v8,v9,v10,v11,v12,v13,v14,v15,v16,some (.ref dl),v18,v19,none,none])
    ⟨m3,aB,_,_,_,_,_,_,_,_,_,_,_,rfl⟩ (λ i ad H' _ p=>bN.of (p.1 _ _ ht2)) ?_ ?_⟩
   ·rintro i x ad H3 hx' ⟨sm3,hd3,v8,v9,v10,v11,v12,v13,v14,v15,v16,v18,v19,rfl⟩;rw[aaf] at hx';obtain⟨j,hj,rfl⟩:=aau.mp hx';have hjv:j < net.vs.length:=by have:=nL _ _ _ _ (abl hj);omega
    have hv:net.vs[j]? = some net.vs[j]:=by simp [hjv]
    have vok:=nok.vs net.vs[j] (ach hjv);have dsn:=mF ws doors ((bA 0 ws (aM net held coming poured doors)).take i) j _ (wat hv);rw[sX] at dsn;generalize hvv:net.vs[j]=v at hv vok dsn;obtain⟨xv,hxv,ixv⟩:=l1.get (i:=j) (d:=sR v) (by rw[aaf,hv];rfl);obtain⟨va,o,cc,rfl,qv,ho,hc⟩:=sQ ixv;obtain⟨ca,cs,rfl,qc,lc⟩:=hc.un;have ecs:cs.length=v.acts.length:=by rw[lc.length,aad]
    have sA3:aG H H3:=sA.trans sm3;refine⟨_,rfl,.inr (.inl ⟨a,_,0,_,rfl,rfl,sA3.tup q,rfl,_,rfl,.inr (.inl ⟨b,xs,(j:Int),_,rfl,rfl,sA3.tup q1,bW hxv,.inr (.inl ⟨va,_,5,_,rfl,rfl,sA3.tup qv,rfl,ca,rfl,⟨_,sA3.tup qc⟩,rQ (K:=K) (a:=ca) (xs:=cs)
     (λ l ad H'=>aG H2 H'/\H' dl=some (.lst ((dO (cA ws doors ((bA 0 ws (aM net held coming poured doors)).take i)) (v.acts.take l)).map V.bl))/\
      ∃ v8 v9 v10 v11 v12 v13 v14 v15 v16 v18 v19,ad=[some (.ref a),some (.ref ay),some (.ref z),some (cN fo),some (.ref hl),some (.ref gl),some (.ref tl),some (.ref sl),v8,v9,v10,v11,v12,v13,v14,v15,v16,some (.ref dl),v18,v19,none,none])
     ⟨sm3,hd3,_,_,_,_,_,_,_,_,_,_,_,rfl⟩ (λ l ad H' _ p=>(sA.trans p.1).tup qc) ?_ ?_⟩)⟩)⟩)⟩
    ·rintro l x ad H4 hl' ⟨sm4,hd4,v8,v9,v10,v11,v12,v13,v14,v15,v16,v18,v19,rfl⟩;obtain⟨at',hat,aa,rfl,qa⟩:=xQ lc hl';have aok:=vok.acts at' (abl hat);refine⟨aa,_,rfl,(sA.trans sm4).tup qa,rfl,_,_,rfl,_,_,rfl,rfl,?_⟩;have asn:=pA (cA ws doors ((bA 0 ws (aM net held coming poured doors)).take i)) (v.acts.take l) at';have hdl':(dO (cA ws doors ((bA 0 ws (aM net held coming poured doors)).take i)) (v.acts.take l)).length=doors.length:=by rw[jE,fK]
     generalize dO (cA ws doors ((bA 0 ws (aM net held coming poured doors)).take i)) (v.acts.take l)=DS at hd4 asn hdl';have hsp:at'.2.toNat < DS.length:=by rw[hdl',sok.d];have:=aok.lo;have:=aok.hi;omega
     have hg:(DS.map V.bl)[at'.2.toNat]? = some (.bl (DS.getD at'.2.toNat false)):=by
      rw[aaf,acn];simp [hsp]
     obtain⟨jj,hj3,w1,w2,w3⟩:=D0 aok.word;refine⟨_,rfl,_,rfl,.inl ⟨dl,_,at'.2,_,rfl,rfl,bN.of hd4,n6 aok.lo hg,_,rfl,(show 3<=sizeLine by decide),λ b1 hb1=>⟨(show 3<=sizeLine by decide),λ b2 hb2=>⟨.inl ⟨rfl,_,bN.of aB⟩,_,rfl,?_⟩⟩⟩⟩;have m5:aG H4 (upd H4 b1 (.lst [.bl (!DS.getD at'.2.toNat false),.bl true,.bl false])):=aG.new hb1;have m6:aG (upd H4 b1 (.lst [.bl (!DS.getD at'.2.toNat false),.bl true,.bl false])) (upd (upd H4 b1 (.lst [.bl (!DS.getD at'.2.toNat false),.bl true,.bl false])) b2 (.lst [.str "turn",.str "open",.str "shut"])):=aG.new hb2;refine⟨b2,_,_,jj,rfl,rfl,aB,rfl,rfl,hj3,w1,w2,.inl ⟨b1,_,(jj:Int),_,rfl,rfl,bN.of (m6 _ _ aB),bW (w3 _),?_⟩⟩;refine⟨_,rfl,_,rfl,dl,_,at'.2,at'.2.toNat,rfl,rfl,m6 _ _ (m5 _ _ hd4),mX aok.lo (by rw[aad];have:=aok.lo;omega),?_⟩;refine⟨((sm4.trans m5).trans m6).put hdl,?_,_,_,_,_,_,_,_,_,_,_,_,rfl⟩;rw[aB,aV hat,asn,w8,List.map_set]
    ·rintro ad H4 ⟨sm4,hd4,v8,v9,v10,v11,v12,v13,v14,v15,v16,v18,v19,rfl⟩;rw[ecs,aas] at hd4;refine⟨sm4,?_,_,_,_,_,_,_,_,_,_,_,_,rfl⟩;rw[aV hj,dsn];exact hd4
   ·rintro ad H3 ⟨sm3,hd3,v8,v9,v10,v11,v12,v13,v14,v15,v16,v18,v19,rfl⟩;rw[aad,aas] at hd3;have sA3:aG H H3:=sA.trans sm3;have hg3:=sm3 _ _ hg2;have ig3:=L2.IsL.mono sm3.ts _ _ ig2;have hgxl:gxs.length=(bY ws (aM net held coming poured doors)).length:=by rw[ig2.length,aad]
    refine⟨_,rfl,.inr (.inl ⟨a,_,0,_,rfl,rfl,sA3.tup q,rfl,b,xs,rfl,.inr (sA3.tup q1),_,rfl,by omega,by omega,?_⟩)⟩;rw[hn];refine fI (n:=net.vs.length) (λ D i r ad H'=>H3 D=none/\aG H3 H'/\H' D=some (.lst r)/\r=((cU net.vs.length (bY ws (aM net held coming poured doors))).take i).map V.int/\∃ v,ad=[v,some (.ref gl)])
     (λ D hD=>⟨hD,aG.new hD,aB,by simp,none,rfl⟩) ?_ ?_
    rotate_left
    ·rintro D i r ad H4 hi ⟨hD,sm4,hDl,rfl,v,rfl⟩;refine eC ?_;refine⟨_,rfl,gl,rfl,⟨_,bN.of (sm4 _ _ hg3)⟩,kZ (K:=K) (a:=gl) (xs:=gxs) (λ D' j r' ad H'=>H4 D'=none/\aG H4 H'/\H' D'=some (.lst r')/\r'=(oZ (some (i:Int)) ((bY ws (aM net held coming poured doors)).take j)).map V.int/\∃ u1 u2,ad=[u1,u2,some (.int (i:Int))])
      (λ D' j r' ad H' p=>bN.of (p.2.1 _ _ (sm4 _ _ hg3))) (λ D' hD'=>⟨hD',aG.new hD',aB,by simp [oZ],none,none,rfl⟩) ?_ ?_⟩
     rotate_left
     ·rintro D' j x r' ad H5 hx' ⟨hD',sm5,hD'l,rfl,u1,u2,rfl⟩;obtain⟨g,hg,ga,rfl,qg⟩:=j4 (L2.IsL.mono sm4.ts _ _ ig3) hx';refine⟨ga,_,rfl,sm5.tup qg,rfl,_,_,rfl,_,_,rfl,rfl,?_⟩;have hsc:D9 (jI g.1) (.int (i:Int))=true:=by cases g.1 <;> rfl
      have hiff:jI g.1=.int (i:Int)↔g.1=some (i:Int):=by cases g.1 <;> simp [jI]
      have hal:=u8 (some (i:Int)) ((bY ws (aM net held coming poured doors)).take j);rw[aat] at hal;refine⟨_,rfl,_,rfl,hsc,_,rfl,?_⟩;refine fJ (λ ht=>?_) (λ hf=>?_)
      ·refine⟨_,rfl,hD'l,aO (by rw[aad];omega),hD',sm5.put hD',aB,?_,_,_,rfl⟩;rw[aV hg,jD,if_pos (hiff.mp (abn ht)),aam];rfl
      ·refine⟨hD',sm5,hD'l,?_,_,_,rfl⟩;rw[aV hg,jD,if_neg (λ e=>hf (abq (hiff.mpr e))),acf]
     rintro D' r' ad H5 ⟨hD',sm5,hD'l,rfl,_⟩;rw[hgxl,aas] at hD'l;refine⟨false,D',_,rfl,bN.of hD'l,sm5 _ _ hDl,aO (by simp [cU];omega),hD,(sm4.trans sm5).put hD,aB,?_,_,rfl⟩;have e:(cU net.vs.length (bY ws (aM net held coming poured doors)))[i]? = some (cQ (some (i:Int)) (bY ws (aM net held coming poured doors))):=by
      unfold cU;simp [hi]
     rw[aV e,aam,oY];rfl
    rintro D r ad H4 ⟨hD,sm4,hDl,rfl,_⟩;have ll:(cU net.vs.length (bY ws (aM net held coming poured doors))).length=net.vs.length:=by unfold cU;simp
    rw[abv (Nat.le_of_eq ll)] at hDl;refine⟨_,rfl,gl,rfl,⟨_,bN.of (sm4 _ _ hg3)⟩,kZ (K:=K) (a:=gl) (xs:=gxs) (λ D' j r' ad H'=>H4 D'=none/\aG H4 H'/\H' D'=some (.lst r')/\r'=(oZ none ((bY ws (aM net held coming poured doors)).take j)).map V.int/\∃ u1 u2,ad=[u1,u2])
     (λ D' j r' ad H' p=>bN.of (p.2.1 _ _ (sm4 _ _ hg3))) (λ D' hD'=>⟨hD',aG.new hD',aB,by simp [oZ],none,none,rfl⟩) ?_ ?_⟩
    rotate_left
    ·rintro D' j x r' ad H5 hx' ⟨hD',sm5,hD'l,rfl,u1,u2,rfl⟩;obtain⟨g,hg,ga,rfl,qg⟩:=j4 (L2.IsL.mono sm4.ts _ _ ig3) hx';refine⟨ga,_,rfl,sm5.tup qg,rfl,_,_,rfl,_,_,rfl,rfl,?_⟩;have hiff:jI g.1=.non↔g.1=none:=by cases g.1 <;> simp [jI]
     have hal:=u8 none ((bY ws (aM net held coming poured doors)).take j);rw[aat] at hal;refine⟨_,rfl,rfl,_,rfl,?_⟩;refine fJ (λ ht=>?_) (λ hf=>?_)
     ·refine⟨_,rfl,hD'l,aO (by rw[aad];omega),hD',sm5.put hD',aB,?_,_,_,rfl⟩;rw[aV hg,jD,if_pos (hiff.mp (abn ht)),aam];rfl
     ·refine⟨hD',sm5,hD'l,?_,_,_,rfl⟩;rw[aV hg,jD,if_neg (λ e=>hf (abq (hiff.mpr e))),acf]
    rintro D' r' ad H5 ⟨hD',sm5,hD'l,rfl,_⟩;rw[hgxl,aas] at hD'l;refine⟨false,D',_,rfl,bN.of hD'l,?_⟩;rw[oY];have c1:=sm5 _ _ (sm4 _ _ (sm3 _ _ hs2));have c2:=sm5 _ _ hDl;have c3:=sm5 _ _ (sm4 _ _ hd3);have c4:=sm5 _ _ (sm4 _ _ (sm3 _ _ ht2));refine⟨_,rfl,sl,_,rfl,.inl ⟨bN.of c1,λ t1 ht1=>?_⟩⟩;have m1:=aG.new (o:=HO.tup ((d8 ws (aM net held coming poured doors)).map V.int)) ht1;refine⟨_,rfl,D,_,rfl,.inl ⟨bN.of (m1 _ _ c2),λ t2 ht2=>?_⟩⟩;have m2:=aG.new (o:=HO.tup ((cU net.vs.length (bY ws (aM net held coming poured doors))).map V.int)) ht2;refine⟨_,rfl,dl,_,rfl,.inl ⟨bN.of (m2 _ _ (m1 _ _ c3)),λ t3 ht3=>?_⟩⟩;have m3:=aG.new (o:=HO.tup ((cA ws doors (bA 0 ws (aM net held coming poured doors))).map V.bl)) ht3;refine⟨(show 3<=sizeLine by decide),λ t4 ht4=>?_⟩;have m4:=aG.new (o:=HO.tup [.ref t1,.ref t2,.ref t3]) ht4;refine⟨_,rfl,tl,_,rfl,.inl ⟨bN.of (m4 _ _ (m3 _ _ (m2 _ _ (m1 _ _ c4)))),λ t5 ht5=>?_⟩⟩;have m5:=aG.new (o:=HO.tup ((bA 0 ws (aM net held coming poured doors)).map λ (j:Nat)=>V.int (j:Int))) ht5;refine⟨_,rfl,(show 3<=sizeLine by decide),λ t6 ht6=>?_⟩;have m6:aG _ _:=aG.new (o:=HO.lst [.ref t4,.ref t5,.int (cQ none (bY ws (aM net held coming poured doors)))]) ht6;refine k t6 (.ref t4) (.ref t5) _ (((((((((sA3.trans sm4).trans sm5).trans m1).trans m2).trans m3).trans m4).trans m5)).trans m6) (by rw[show (eA (aW net fo) held coming poured doors).ground=cQ none (bY ws (aM net held coming poured doors)) by rw[<- hws];rfl];exact aB) ?_ ?_
    ·have ecm:(eA (aW net fo) held coming poured doors).coming=cU net.vs.length (bY ws (aM net held coming poured doors)):=by
      show cU (cB net.vs fo).length (bY (cB net.vs fo) _)=_;rw[hws,wl];rfl
     have ehd:(eA (aW net fo) held coming poured doors).held=d8 ws (aM net held coming poured doors):=by rw[<- hws];rfl
     have edr:(eA (aW net fo) held coming poured doors).doors=cA ws doors (bA 0 ws (aM net held coming poured doors)):=by rw[<- hws];rfl
     rw[ecm,ehd,edr];exact Is.mono m6.ts _ _ (Is.mono m5.ts _ _ (wE (bM.of aB) (m4.tup (m3.tup (m2.tup (bM.of aB)))) (m4.tup (m3.tup (bM.of aB))) (m4.tup (bM.of aB))))
    ·refine Is.mono m6.ts _ _ (Is.tupOf (bM.of aB) ?_);rw[show (eA (aW net fo) held coming poured doors).tip=bA 0 ws (aM net held coming poured doors) by rw[<- hws];rfl];have e1:((bA 0 ws (aM net held coming poured doors)).map λ (i:Nat)=>L2.D.int (i:Int))=((bA 0 ws (aM net held coming poured doors)).map λ (i:Nat)=>(i:Int)).map L2.D.int:=by rw[acd];rfl
     have e2:((bA 0 ws (aM net held coming poured doors)).map λ (i:Nat)=>V.int (i:Int))=((bA 0 ws (aM net held coming poured doors)).map λ (i:Nat)=>(i:Int)).map V.int:=by rw[acd];rfl
     rw[e1,e2];exact L2.IsL.of_ints _
theorem B6 (K:aab):PySem.W.kitOne K (.type "int") (.type "bool")=some false:=by
 unfold PySem.W.kitOne;rw[if_neg (by decide +kernel)];show (if PySem.W.kitMeta "bool" = true then PySem.W.subIn K (.type "int") (.type "bool") else none)=some false;rw[if_pos (by decide +kernel)];show (PySem.fastBuiltinMro "int").map (·.contains (.type "bool"))=some false;decide +kernel
def wF (K:aab):Sp:=λ vs H Q _=>∃ (a:Addr) (ns:List Int),vs=[.ref a]/\bN K H a (ns.map V.int)/\ns.length<=63/\∀ H',Q (.bl true) H'
end Tw
namespace L2
open PySem PySem.Spec PyProof.Rows TwZ
section
variable {X:Cx}
theorem eQ {x:Str}{v:V}{pos:Pos} (hg:Gl X x) (h:∃ u,X.mg x=some u/\bG v u) (hd:(x == ("__debug__" : Str))=false:=by decide):PE X (.Name x pos) (tC v):=by
 obtain⟨u,e,r⟩:=h;exact DK hg e r hd
theorem AS (hK:X.K=K):hJ X (compareOp .In) (rIn K false):=by subst hK;exact yG
end
end L2
namespace Tw
open PySem L2
theorem GE (K:aab):PySem.W.kitOne K (.type "int") (.type "int")=some true:=by
 unfold PySem.W.kitOne;rw[if_pos (by decide +kernel)]
section
variable {aw:Addr}
theorem mB:FnScope ["thing","least","most"] ["thing","least","most"] (aP (bQ 27)):={}
end
end Tw
namespace L2
open PySem PySem.Spec PyProof.Rows TwZ
section
variable {X:Cx}
theorem AV (hK:X.K=K):hJ X (binaryOp .Add) (EQ K):=by subst hK;exact wQ
theorem nI (l:Addr) (items:Array Value) (n:Nat) (x:Int) (u:Tok) (dd:Option Addr) (sl:Array (Option Value)) (c0:¬ (decide (x < -(2 ^ 63)) || decide (x ≥ 2 ^ 63))=true) (c1:¬ (items.isEmpty || x == 1)=true)
  (c2:(decide (x<=0) || items.isEmpty)=true) :
  Meets (Builtin.«tuple.__mul__» ⟨[.ref l,.int x u],[]⟩) (λ _ R s=>s.heap.get? l=some { cls:=.type "tuple",dict:=dd,data:=.seq items n,slots:=sl }/\
   R (.ok (.ret (.ref s.heap.objs.size))) { s with heap:=s.heap.push { cls:=.type "tuple",data:=.seq #[] } }):=
 .of_wp λ prog w A R s h=>by
  obtain⟨hp,g,d,tk,os⟩:=s;obtain⟨hl,h⟩:=h
  wp_walk
  rw[if_neg c0]
  wp_walk
  all_goals (try rw[if_neg c1])
  wp_walk
  all_goals (try rw[if_pos c2])
  wp_walk
  exact⟨_,rfl,h⟩
def EL (K:aab):R2:=λ x y H Q=>∃ (l:Addr) (k:Int) (xs:List V),x=.ref l/\y=.int k/\bM K H l xs/\0<=k/\k < 1000000/\xs≠[]/\xs.length<=10/\
 ∀ p H',aG H H'->bM K H' p (List.replicate k.toNat xs).flatten->Q (.ref p) H'
theorem DN:hJ X (binaryOp .Mult) (EL X.K):=by
 intro pins s σ H x y v u Q I rx ry h;obtain⟨l,k,xs,rfl,rfl,hq,h1,h2,hne,hl10,q⟩:=h
 by_cases hk:1<=k
 ·exact wM pins s σ H _ _ v u Q I rx ry ⟨l,k,xs,rfl,rfl,hq,hk,h2,hne,hl10,q⟩
 ·have hk0:k=0:=by omega
  subst hk0;cases rx;obtain⟨t,rfl⟩:=ry;obtain⟨its,r,ht,z⟩:=I.tuple hq;have hlen:=r.length;obtain⟨⟨cls,dd,data,sl⟩,e,hc,n,hd⟩:=id ht;simp only at hc hd;subst hc hd;refine wpAny_binaryOp_repeat_ref (T := "tuple") (U := "int") (by decide) ⟨_,e,rfl⟩ (λ s'=>typeIs_int s' 0 t) gG F.fills_int_mul F.slot_int_rmul kQ F.slot_int_index.lookup
   (call_meets F.slot_int_rmul (typeIs_int s 0 t) F.entry_int_rmul (F.args_int_rmul_2 _ _) (iO 0 t l its.toArray n dd sl) ⟨e,rfl,⟨_,e,rfl⟩,?_⟩)
  have hne':its≠[]:=λ z=>by rw[z] at hlen;exact hne (List.eq_nil_of_length_eq_zero hlen)
  have hemp:its.toArray.isEmpty=false:=by cases its with
   | nil=>exact absurd rfl hne'
   | cons a r=>rfl
  refine call_meets F.slot_tuple_mul ⟨_,e,rfl⟩ F.entry_tuple_mul (F.args_tuple_mul_2 _ _) (nI l its.toArray n 0 t dd sl (by decide) (by rw[hemp];decide) (by simp)) ⟨e,?_⟩;have I1:=I.laid (a:=s.heap.objs.size) (o:=.tup []) (h':=s.heap.push { cls:=.type "tuple",data:=.seq #[] }) (t':=s.toks)
   (λ _ _ q=>aac _ q) (aaj _) ⟨abg _,[],.nil,⟨_,aag _ rfl,rfl,0,rfl⟩⟩
  exact⟨.ref _,_,I1,rfl,q _ _ (aG.new I.fresh) (bM.of aB)⟩
theorem AQ (hK:X.K=K):hJ X (binaryOp .Mult) (EL K):=by subst hK;exact DN
end
section
variable {g:TG}{tc:TT}{te:TE}{fr:List (Option Nat)}{σ:St}{H1:Hp}{Q:Addr->Hp->Prop}
theorem E1 {t1 t2:Bool}{a1 a2:Addr}{xs ys:List V}{n:Nat} (h1:xs.length=n) (h2:ys.length=n) (Pv:Addr->Nat->List V->St->Hp->Prop)
  (hq:∀ D i r σ H,Pv D i r σ H->i8 K H t1 a1 xs/\i8 K H t2 a2 ys)
  (h0:∀ D,H1 D=none->Pv D 0 [] (tU fr σ) (upd H1 D (.lst []))) (hstop:∀ D r ad H',Pv D n r ad H'->Q D H')
  (hgo:∀ D i x y r ad H' T,xs[i]? = some x->ys[i]? = some y->Pv D i r ad H'->H' T=none->g (.ref T) ad (upd H' T (.tup [x,y])) λ aq H3=>tc aq H3 λ b H4=>
    if b=true then te aq H4 λ y H5=>H5 D=some (.lst r)/\r.length < PySem.sizeLine/\Pv D (i+1) (r++[y]) aq (upd H5 D (.lst (r++[y])))
    else Pv D (i+1) r aq H4):gZ (EC K t1 t2 a1 a2) g tc te fr σ H1 Q:=by
 refine oM (n:=n) Pv h0 (λ D r ad H' p=>?_) λ D i r ad H' hi p=>?_
 ·obtain⟨q1,q2⟩:=hq D _ r ad H' p;exact⟨⟨xs,ys,q1,q2,.inl (by omega)⟩,hstop D r ad H' p⟩
 ·obtain⟨q1,q2⟩:=hq D _ r ad H' p;refine⟨⟨xs,ys,xs[i]'(by omega),ys[i]'(by omega),q1,q2,by simp,by simp⟩,?_⟩;rintro v H2 ⟨T,x,y,hT,rfl,e1,e2,rfl⟩;exact hgo D i x y r ad H' T (e1 xs q1) (e2 ys q2) p hT
end
end L2
namespace Tw
open PySem L2
structure Mom where
 tick:Int
 held:List Int
 coming:List Int
 doors:List Bool
 poured:List Int
 came:Int
 ground:Int
def rM (m:Mom):L2.D:=.tup [.int m.tick,uB m.held m.coming m.doors,.tup (m.poured.map L2.D.int),.int m.came,.int m.ground]
def eM:List xR->List Bool->Int
 | s::ss,d::ds=>(if d=true then s.2.1 else 0)+eM ss ds
 | _,_=>0
structure MomOk (net:Net) (m:Mom):Prop where
 st:StOk net m.held m.coming m.doors
 pl:m.poured.length=net.vs.length
def Mom.tk (net:Net) (m:Mom):Tick:=eA net m.held m.coming m.poured m.doors
def Mom.step (net:Net) (m:Mom):Mom:=
 { tick:=m.tick+1,held:=(m.tk net).held,coming:=(m.tk net).coming,doors:=(m.tk net).doors,poured:=d7 net.vs.length,came:=m.came+(m.poured.sum+eM net.sps m.doors),ground:=m.ground+(m.tk net).ground }
def dZ (net:Net) (m:Mom):Nat->Mom
 | 0=>m
 | i+1=>(dZ net m i).step net
def lH (net:Net) (m:Mom):List (Int×Nat):=(m.tk net).tip.map λ k=>(m.tick,k)
def nO (net:Net) (m:Mom):Nat->List (Int×Nat)
 | 0=>[]
 | i+1=>nO net m i++lH net (dZ net m i)
def sU (t:Int×Nat):L2.D:=.tup [.int t.1,.int (t.2:Int)]
def gH (net:Net):Mom:=⟨0,d7 net.vs.length,d7 net.vs.length,net.sps.map (·.2.2),d7 net.vs.length,0,0⟩
theorem iV (n:Nat):(d7 n).length=n:=by simp [d7]
theorem n9 {n:Nat} (h:1<=n):(0:Int)::d7 (n - 1)=d7 n:=by
 obtain⟨k,rfl⟩:∃ k,n=k+1:=⟨n - 1,by omega⟩;simp [d7,List.replicate_succ]
theorem DV (net:Net):MomOk net (gH net):=⟨⟨iV _,iV _,by simp [gH]⟩,iV _⟩
theorem Mom.hs_len {net:Net}{m:Mom} (h:MomOk net m):(aM net m.held m.coming m.poured m.doors).length=net.vs.length:=by
 unfold aM;rw[eI,fN h.st.h h.st.c h.pl]
theorem MomOk.step {net:Net}{m:Mom} (h:MomOk net m):MomOk net (m.step net):=
 ⟨⟨fC _ _ (Mom.hs_len h).symm,by show (cU _ _).length=_;unfold cU;simp,by show (cA _ _ _).length=_;rw[fK];exact h.st.d⟩,iV _⟩
theorem wR {net:Net}{m:Mom} (h:MomOk net m):∀ i,MomOk net (dZ net m i)
 | 0=>h
 | i+1=>(wR h i).step
theorem zX (net:Net) (m:Mom):(m.tk net).tip.length<=net.vs.length:=gA _ _ _
theorem nN {net:Net}{m:Mom} (nok:NetOk net):∀ (i:Nat),(nO net m i).length<=12 * i
 | 0=>by simp [nO]
 | i+1=>by
  have h1:=nN (m:=m) nok i;have h2:=zX net (dZ net m i);have h3:=nok.hi;show (nO net m i++lH net (dZ net m i)).length<=_;rw[aaw];unfold lH;rw[aad];omega
section
variable {r dx R M T:Addr}{H H':Hp}{S:RunS}{fp:List Addr}{np mv:V}{ts:List Addr}{rs ms:List V}
theorem AY {m:Mom}{v:V} (h:Is K H (rM m) v):∃ (a po:Addr) (st:V),v=.ref a/\bM K H a [.int m.tick,st,.ref po,.int m.came,.int m.ground]/\Is K H (uB m.held m.coming m.doors) st/\bM K H po (m.poured.map V.int):=by
 obtain⟨a,zs,rfl,q,l⟩:=(show Is K H (.tup [.int m.tick,uB m.held m.coming m.doors,.tup (m.poured.map L2.D.int),.int m.came,.int m.ground]) v from h).un;obtain⟨x1,r,rfl,h1,l⟩:=l.un;obtain⟨x2,r,rfl,h2,l⟩:=l.un;obtain⟨x3,r,rfl,h3,l⟩:=l.un;obtain⟨x4,r,rfl,h4,l⟩:=l.un;obtain⟨x5,r,rfl,h5,l⟩:=l.un;have:=l.un0;subst this;have:=h1.ui;subst this;have:=h4.ui;subst this;have:=h5.ui;subst this;obtain⟨po,xs,rfl,q1,l1⟩:=h3.un;have:=l1.ints;subst this;exact⟨a,po,x2,rfl,q,h2,q1⟩
theorem AZ {m:Mom}{a po:Addr}{st:V} (q:bM K H a [.int m.tick,st,.ref po,.int m.came,.int m.ground]) (hs:Is K H (uB m.held m.coming m.doors) st) (hp:bM K H po (m.poured.map V.int)):Is K H (rM m) (.ref a):=
 Is.tupOf q (.cons (Is.i _) (.cons hs (.cons (Is.tupOf hp (IsL.of_ints _)) (.cons (Is.i _) (.cons (Is.i _) .nil)))))
end
theorem iF:FnScope ["net","number","vessels","spouts"] ["net","number"] (aP (bQ 25)):={}
def iW (K:aab):Sp:=λ vs H Q _=>∃ (x:V) (net:Net) (v:Int),vs=[x,.int v]/\Is K H (eX net) x/\NetOk net/\∀ p H',aG H H'->bM K H' p ((v::d7 (net.vs.length - 1)).map V.int)->Q (.ref p) H'
theorem o7:FnScope ["net","amount","vessels","spouts"] ["net","amount"] (aP (bQ 2)):={}
theorem vI {f:Addr}{fd:FuncData} (F:Fun K "pouring" "pouring" (bQ 2) f fd) (T:Txt mg):FnOk P w K mg base i7 1 f fd ["net","amount"] (iW K):=by
 refine F.ok o7 (λ vs H Q E h=>?_) (λ cdv A outer s H vs Q E hr h=>?_)
 ·obtain⟨x,net,v,rfl,_⟩:=h;rfl
 ·obtain⟨x,net,v,rfl,hx,nok,k⟩:=h;have sc:=o7;refine⟨_,(aD (cF (pv 0) (bD (K:=K) (n:=2) rfl rfl (aH (aF (i:=2) sc.nd rfl (Or.inl rfl)) (aH (aF (i:=3) sc.nd rfl (Or.inl rfl)) bB))))
   (aL (bF (aT (AV (K:=K) rfl) (bO (aA (pv 1) aC)) (aT (AQ (K:=K) rfl) (bO (aA aE aC)) (aT gX (aN (bE (K:=K) rfl) rfl T.b_len aba (aA (pv 2) aC)) aE)))))),?_⟩
  obtain⟨a,b,c,xs,ys,rfl,q,q1,l1,q2,l2⟩:=dM hx;have exl:xs.length=net.vs.length:=by rw[l1.length,aad]
  have n1:=nok.lo;have n2:=nok.hi;refine⟨_,rfl,a,_,rfl,q,rfl,_,_,rfl,_,_,rfl,rfl,?_⟩;refine⟨_,rfl,(show 1<=sizeLine by decide),λ y hy=>⟨(show 1<=sizeLine by decide),λ z hz=>?_⟩⟩;have m1:=aG.new (o:=HO.tup [.int v]) hy;have m2:=aG.new (o:=HO.tup [.int 0]) hz;refine⟨_,rfl,b,xs,rfl,.inr (m2.tup (m1.tup q1)),_,_,rfl,rfl,z,_,[.int 0],rfl,rfl,bM.of aB,by omega,by omega,by simp,by simp,λ e H1 sm1 qe=>?_⟩;have en:(((xs.length:Nat):Int) - 1).toNat=net.vs.length - 1:=by rw[exl];omega
  rw[en,AA] at qe;refine⟨y,e,[.int v],_,rfl,rfl,sm1.tup (m2.tup (bM.of aB)),qe,by simp,aO (by simp;omega) |> aby,λ he=>?_,λ _ p hp=>?_⟩
  ·refine k _ _ ((m1.trans m2).trans sm1) ?_;have e0:d7 (net.vs.length - 1)=[]:=List.map_eq_nil_iff.mp he;rw[e0];exact sm1.tup (m2.tup (bM.of aB))
  ·exact k _ _ (((m1.trans m2).trans sm1).trans (aG.new hp)) (bM.of aB)
def o0 (K:aab):Sp:=λ vs H Q _=>∃ (x y:V) (z:Addr) (net:Net) (held coming poured:List Int) (doors:List Bool),vs=[x,y,.ref z]/\Is K H (eX net) x/\Is K H (uB held coming doors) y/\bM K H z (poured.map V.int)/\
 NetOk net/\StOk net held coming doors/\∀ H',aG H H'->Q (.int (poured.sum+eM net.sps doors)) H'
theorem kT:∀ (ss:List xR) (ds:List Bool) (i:Nat) (s:xR) (d:Bool),ss[i]? = some s->ds[i]? = some d->eM (ss.take (i+1)) (ds.take (i+1))=eM (ss.take i) (ds.take i)+(if d=true then s.2.1 else 0)
 | [],_,i,_,_,h,_=>by simp at h
 | _::_,[],i,_,_,_,h=>by simp at h
 | a::ss,b::ds,0,s,d,h1,h2=>by simp at h1 h2;subst h1 h2;simp [eM]
 | a::ss,b::ds,i+1,s,d,h1,h2=>by
  simp only [List.take_succ_cons,eM];rw[kT ss ds i s d (by simpa using h1) (by simpa using h2)];omega
theorem o8:FnScope ["net","state","poured","vessels","spouts","held","coming","doors"] ["net","state","poured"] (aP (bQ 4)):={}
theorem vJ {f:Addr}{fd:FuncData} (F:Fun K "came_in" "came_in" (bQ 4) f fd) (T:Txt mg):FnOk P w K mg base i7 1 f fd ["net","state","poured"] (o0 K):=by
 refine F.ok o8 (λ vs H Q E h=>?_) (λ cdv A outer s H vs Q E hr h=>?_)
 ·obtain⟨x,y,z,net,held,coming,poured,doors,rfl,_⟩:=h;rfl
 ·obtain⟨x,y,z,net,held,coming,poured,doors,rfl,hx,hy,qz,nok,sok,k⟩:=h;have sc:=o8;refine⟨_,(aD (cF (pv 0) (bD (K:=K) (n:=2) rfl rfl (aH (aF (i:=3) sc.nd rfl (Or.inl rfl)) (aH (aF (i:=4) sc.nd rfl (Or.inl rfl)) bB))))
   (aD (cF (pv 1) (bD (K:=K) (n:=3) rfl rfl (aH (aF (i:=5) sc.nd rfl (Or.inl rfl)) (aH (aF (i:=6) sc.nd rfl (Or.inl rfl)) (aH (aF (i:=7) sc.nd rfl (Or.inl rfl)) bB)))))
   (aL (bF (aT bX (aN (eK (K:=K) rfl rfl) rfl T.b_sum PyProof.Rows.boot_sum (aA (pv 2) aC)) (aN (eK (K:=K) rfl rfl) rfl T.b_sum PyProof.Rows.boot_sum (aA (fU (λ _ _ h=>h) rfl (LcOk.mk (N':=["target","flow","first_door","door"]) (fr:=[none,none,none,none]) rfl trivial rfl rfl rfl rfl rfl trivial) (tE (K:=K) rfl rfl T.b_zip (aA (pv 4) (aA (pv 7) aC))) (λ _ _ _=>(bD (K:=K) (n:=2) rfl rfl (aH (bD (K:=K) (n:=3) rfl rfl (aH (aF (i:=0) (show (["target","flow","first_door","door"]:List Str).Nodup by decide +kernel) rfl (Or.inl rfl) (Or.inr rfl)) (aH (aF (i:=1) (show (["target","flow","first_door","door"]:List Str).Nodup by decide +kernel) rfl (Or.inl rfl) (Or.inr rfl)) (aH (aF (i:=2) (show (["target","flow","first_door","door"]:List Str).Nodup by decide +kernel) rfl (Or.inl rfl) (Or.inr rfl)) bB)))) (aH (aF (i:=3) (show (["target","flow","first_door","door"]:List Str).Nodup by decide +kernel) rfl (Or.inl rfl) (Or.inr rfl)) bB)))) (λ _ _ _=>gU (gT (pv 3))) (λ _ _ _=>(pv 1))) aC))))))),?_⟩
  obtain⟨a,b,c,xs,ys,rfl,q,q1,l1,q2,l2⟩:=dM hx;obtain⟨ay,b1,b2,b3,rfl,qy,qb1,qb2,qb3⟩:=sZ hy;have eyl:ys.length=net.sps.length:=by rw[l2.length,aad]
  have n3:=nok.sp;refine⟨_,rfl,a,_,rfl,q,rfl,_,_,rfl,_,_,rfl,rfl,?_⟩;refine⟨_,rfl,ay,_,rfl,qy,rfl,_,_,rfl,_,_,rfl,_,_,rfl,rfl,?_⟩;refine⟨_,rfl,true,z,_,rfl,qz,?_⟩;refine⟨_,rfl,_,rfl,true,true,c,b3,rfl,⟨_,q2⟩,⟨_,qb3⟩,E1 (K:=K) (t1:=true) (t2:=true) (xs:=ys) (ys:=doors.map V.bl) (n:=net.sps.length) eyl (by rw[aad];exact sok.d)
   (λ D i r ad H'=>H D=none/\aG H H'/\H' D=some (.lst r)/\(∃ ns:List Int,r=ns.map V.int/\ns.sum=eM (net.sps.take i) (doors.take i)/\ns.length<=i)/\∃ u1 u2 u3 u4,ad=[u1,u2,u3,u4])
   (λ D i r ad H' p=>⟨p.2.1.tup q2,p.2.1.tup qb3⟩) (λ D hD=>⟨hD,aG.new hD,aB,⟨[],rfl,by simp [eM],by simp⟩,none,none,none,none,rfl⟩) ?_ ?_⟩
  rotate_left
  ·rintro D i x y r ad H2 Tt hx hy ⟨hD,sm,hDl,⟨ns,rfl,hns,hnl⟩,u1,u2,u3,u4,rfl⟩ hT;obtain⟨sp,hsi,sa,rfl,qs⟩:=nR l2 hx;have hil:=(aai.mp hsi).1;obtain⟨d,hdi,rfl⟩:∃ d,doors[i]? = some d/\y=V.bl d:=by
    rw[aaf] at hy;cases hd:doors[i]? with
    | none=>rw[hd] at hy;cases hy
    | some d=>rw[hd] at hy;cases hy;exact⟨d,rfl,rfl⟩
   have mT:=aG.new (o:=HO.tup [.ref sa,.bl d]) hT;have hs:=kT net.sps doors i sp d hsi hdi;refine⟨Tt,_,rfl,bM.of aB,rfl,_,_,rfl,sa,_,rfl,mT.tup (sm.tup qs),rfl,_,_,rfl,_,_,rfl,_,_,rfl,rfl,_,_,rfl,rfl,?_⟩;refine⟨_,rfl,_,rfl,?_⟩;have smT:=sm.trans mT;cases d with
   | false=>
    refine g6 ⟨hD,smT,mT _ _ hDl,⟨ns,rfl,by rw[hs,hns];simp,by omega⟩,_,_,_,_,rfl⟩
   | true=>
    refine lB ⟨_,rfl,mT _ _ hDl,aO (by simp;omega),hD,smT.put hD,aB,⟨ns++[sp.2.1],by rw[aam];rfl,by rw[hs,List.sum_append,hns];simp,by simp;omega⟩,_,_,_,_,rfl⟩
  ·rintro D r ad H2 ⟨hD,sm,hDl,⟨ns,rfl,hns,hnl⟩,_⟩;refine⟨false,D,_,rfl,bN.of hDl,_,_,rfl,rfl,?_⟩;rw[hns,abv (aaj _),abv (Nat.le_of_eq sok.d)];exact k _ sm
def nX (K:aab):Sp:=λ vs H Q _=>∃ (x y:V) (net:Net) (m:Mom),vs=[x,y]/\Is K H (eX net) x/\Is K H (rM m) y/\NetOk net/\MomOk net m/\
 ∀ p p1 p2 H',aG H H'->bM K H' p [p1,.ref p2]->Is K H' (rM (m.step net)) p1->bM K H' p2 ((m.tk net).tip.map λ (k:Nat)=>V.int (k:Int))->Q (.ref p) H'
theorem gC:FnScope ["net","moment","tick","state","poured","came","grounded","behind","tipped","lost"] ["net","moment"] (aP (bQ 13)):={}
theorem lS {f f1 f2 f3:Addr}{fd fd1 fd2 fd3:FuncData} (F:Fun K "moment_behind" "moment_behind" (bQ 13) f fd) (T:Txt mg) (G_tick_behind:Callee P w K mg base "tick_behind" ["net","state","poured"] 4 (uU K) f1 fd1)
  (G_came_in:Callee P w K mg base "came_in" ["net","state","poured"] 1 (o0 K) f2 fd2) (G_pouring:Callee P w K mg base "pouring" ["net","amount"] 1 (iW K) f3 fd3):FnOk P w K mg base i7 5 f fd ["net","moment"] (nX K):=by
 refine F.ok gC (λ vs H Q E h=>?_) (λ cdv A outer s H vs Q E hr h=>?_)
 ·obtain⟨x,y,net,m,rfl,_⟩:=h;rfl
 ·obtain⟨x,y,net,m,rfl,hx,hy,nok,mok,k⟩:=h;have sc:=gC;refine⟨_,(aD (cF (pv 1) (bD (K:=K) (n:=5) rfl rfl (aH (aF (i:=2) sc.nd rfl (Or.inl rfl)) (aH (aF (i:=3) sc.nd rfl (Or.inl rfl)) (aH (aF (i:=4) sc.nd rfl (Or.inl rfl)) (aH (aF (i:=5) sc.nd rfl (Or.inl rfl)) (aH (aF (i:=6) sc.nd rfl (Or.inl rfl)) bB)))))))
   (aD (cF (dF G_tick_behind hr (aA (pv 0) (aA (pv 3) (aA (pv 4) aC)))) (bD (K:=K) (n:=3) rfl rfl (aH (aF (i:=7) sc.nd rfl (Or.inl rfl)) (aH (aF (i:=8) sc.nd rfl (Or.inl rfl)) (aH (aF (i:=9) sc.nd rfl (Or.inl rfl)) bB)))))
   (aD (AI (i:=5) sc.nd rfl (Or.inl rfl) (dF G_came_in hr (aA (pv 0) (aA (pv 3) (aA (pv 4) aC)))) BH)
   (aL (bF (bO (aA (bO (aA (aT bX (pv 2) aE) (aA (pv 7) (aA (dF G_pouring hr (aA (pv 0) (aA aE aC))) (aA (pv 5) (aA (aT bX (pv 6) (pv 9)) aC)))))) (aA (pv 8) aC)))))))),?_⟩
  obtain⟨a,po,st,rfl,q,hs,hp⟩:=AY hy;refine⟨_,rfl,a,_,rfl,q,rfl,_,_,rfl,_,_,rfl,_,_,rfl,_,_,rfl,_,_,rfl,rfl,?_⟩;refine⟨_,rfl,_,rfl,_,rfl,x,st,po,net,m.held,m.coming,m.poured,m.doors,rfl,hx,hs,hp,nok,mok.st,mok.pl,λ f fxs H1 sm1 _ if1=>?_⟩;obtain⟨fa,gxs,ef,qf,lf⟩:=(show Is K H1 (.tup [uB (m.tk net).held (m.tk net).coming (m.tk net).doors,.tup ((m.tk net).tip.map λ (i:Nat)=>L2.D.int (i:Int)),.int (m.tk net).ground]) (.ref f) from if1).un;cases ef;obtain⟨y1,r,rfl,j1,lf⟩:=lf.un;obtain⟨y2,r,rfl,j2,lf⟩:=lf.un;obtain⟨y3,r,rfl,j3,lf⟩:=lf.un;have:=lf.un0;subst this;have:=j3.ui;subst this;obtain⟨p2,ts,rfl,qt,lt⟩:=j2.un;have et:ts=(m.tk net).tip.map λ (k:Nat)=>V.int (k:Int):=by
   have e1:((m.tk net).tip.map λ (i:Nat)=>L2.D.int (i:Int))=((m.tk net).tip.map λ (i:Nat)=>(i:Int)).map L2.D.int:=by rw[acd];rfl
   rw[e1] at lt;rw[lt.ints,acd];rfl
  subst et;refine⟨f,_,rfl,qf,rfl,_,_,rfl,_,_,rfl,_,_,rfl,rfl,?_⟩;refine⟨_,rfl,_,rfl,_,rfl,_,rfl,x,st,po,net,m.held,m.coming,m.poured,m.doors,rfl,Is.mono sm1.ts _ _ hx,Is.mono sm1.ts _ _ hs,sm1.tup hp,nok,mok.st,λ H2 sm2=>⟨_,_,rfl,rfl,?_⟩⟩;have s2:aG H H2:=sm1.trans sm2;refine⟨_,rfl,_,_,rfl,rfl,_,rfl,_,rfl,x,net,0,rfl,Is.mono s2.ts _ _ hx,nok,λ z H3 sm3 qz=>?_⟩;rw[n9 nok.lo] at qz;refine⟨_,rfl,_,rfl,_,rfl,_,_,rfl,rfl,(show 5<=sizeLine by decide),λ p1 hp1=>?_⟩;have m1:aG H3 _:=aG.new (o:=HO.tup [.int (m.tick+1),y1,.ref z,.int (m.came+(m.poured.sum+eM net.sps m.doors)),.int (m.ground+(m.tk net).ground)]) hp1;refine⟨_,rfl,(show 2<=sizeLine by decide),λ p hpp=>?_⟩;have m2:aG _ _:=aG.new (o:=HO.tup [.ref p1,.ref p2]) hpp;refine k p (.ref p1) p2 _ (((s2.trans sm3).trans m1).trans m2) (bM.of aB) (AZ (m:=m.step net) (m2.tup (bM.of aB)) ?_ ?_) ?_
  ·exact Is.mono m2.ts _ _ (Is.mono m1.ts _ _ (Is.mono sm3.ts _ _ (Is.mono sm2.ts _ _ j1)))
  ·exact m2.tup (m1.tup qz)
  ·exact m2.tup (m1.tup (sm3.tup (sm2.tup qt)))
end Tw
namespace L2
open PySem PySem.Spec PyProof.Rows TwZ
section
variable {X:Cx}{pins:List (Addr×Obj)}{σ:St}{H:Hp}{s:Shared}
end
section
variable {H:Hp}
end
theorem cJ.some {P:Program}{w:World}{H:Hp}{h:Heap}{a:Addr}{o:HO} (x:cJ P w H h a o):∃ ob,h.get? a=some ob:=by
 cases o with
 | lst xs=>obtain⟨_,_,_,_,e⟩:=x;exact⟨_,e⟩
 | tup xs=>obtain⟨_,_,_,ob,e,_⟩:=x;exact⟨_,e⟩
 | dK kvs=>obtain⟨_,_,_,_,o,_,_,e,_⟩:=x;exact⟨_,e⟩
 | dT kvs=>obtain⟨_,_,_,_,o,_,_,e,_⟩:=x;exact⟨_,e⟩
 | set S n=>obtain⟨o,_,_,_,e,_⟩:=x;exact⟨_,e⟩
 | ins C dx fs=>obtain⟨_,_,_,e,_⟩:=x;exact⟨_,e⟩
 | own y=>obtain⟨_,e⟩:=x;exact⟨_,e⟩
 | xd fs=>obtain⟨_,⟨_,_,_,e,_⟩,_⟩:=x;exact⟨_,e⟩
 | rng lo hi=>obtain⟨_,_,_,e⟩:=x;exact⟨_,e⟩
 | frz ob u=>obtain⟨e,_⟩:=x;exact⟨_,e⟩
 | tbl ps=>exact⟨_,(show h.get? a=Option.some _ from x)⟩
 | met f y=>exact⟨_,(show h.get? a=Option.some _ from x)⟩
 | ext ei=>obtain⟨_,⟨_,e⟩,_⟩:=x;exact⟨_,e⟩
structure Fly (P:Program) (w:World) (stack:List Env) (H:Hp) (h:Heap) (ea:Addr) (cls a0:Value) (H':Hp) (h' B:Heap):Prop where
 fl:Heap.FlyingW B stack ea cls a0 h'
 keep:∀ b o,h.get? b=some o->H b=none->b∉kB stack->B.get? b=some o
 slot:∀ b o,h.get? b=some o->H b=none->b∈kB stack->∃ sl,h'.get? b=some { o with slots:=sl }
 free:∀ b o,h.get? b=some o->H b=none->H' b=none
 there:∀ b o,h.get? b=some o->b∉kB stack->∃ o',B.get? b=some o'
 tups:∀ b xs,H b=some (.tup xs)->H' b=some (.tup xs)
 frzs:∀ b o u,H b=some (.frz o u)->H' b=some (.frz o u)
 tbls:∀ b ps,H b=some (.tbl ps)->∃ more,H' b=some (.tbl (ps++more))
 hok:kA P w H' B
def CV (P:Program) (w:World):zO:=λ outer H s E e s'=>∃ (ea:Addr) (cls a0:Value) (H':Hp) (B:Heap),e=.ref ea/\s'.os=s.os/\AllBare s'.gens/\Fly P w outer H s.heap ea cls a0 H' s'.heap B/\E cls none H'
structure Leaves (X:Cx) (E:XK):Prop where
 stk:X.stack=X.env::X.outer
 fr:X.env.frame=some X.env.locals
 ex:X.ex=[]
 xe:∀ e s',wpAny (model X.prog X.w) X.A (leaving X.env e) (λ _ s''=>CV X.prog X.w X.outer X.H₀ X.s₀ E e s'') (λ e' s''=>CV X.prog X.w X.outer X.H₀ X.s₀ E e' s'') s'->X.xe e s'
section
variable {X:Cx}{pins:List (Addr×Obj)}{σ:St}{H H':Hp}{s s':Shared}{E:XK}
theorem DW {l:List Env}{b:Addr}{env:Env} (he:env∈l) (hf:env.frame=some b):b∈kB l:=List.mem_filterMap.mpr ⟨env,he,hf⟩
theorem kX {l:List Env}{b L:Addr}{env:Env} (hf:env.frame=some L) (h:b∈kB (env::l)):b=L\/b∈kB l:=by
 unfold kB at h ⊢;rw[List.filterMap_cons,hf] at h;exact aax.1 h
theorem AE {h':Heap}{ea:Addr}{cls:Value}{vs:List Value} (L:Leaves X E) (I:Inv X pins σ H s) (hx:Heap.MadeExcOf s.heap h' ea cls vs) (hE:E cls none H):X.xe (.ref ea) { s with heap:=h' }:=by
 refine L.xe _ _ ?_;have fr:X.A.frames=some (X.env::X.outer):=by rw[<- L.stk];exact I.ok.frames
 have hs:s.heap.FunFrames X.base (X.env::X.outer):=by rw[<- L.stk];exact I.stack
 have hfree:∀ b∈kB (X.env::X.outer),H b=none:=by rw[<- L.stk];exact I.stkFree
 have nex:∀ b:Addr,b∉X.ex:=λ b z=>by rw[L.ex] at z;cases z
 have out:∀ b o,X.s₀.heap.get? b=some o->b∉kB X.outer->b∉kB (X.env::X.outer):=λ b o e hb z=>by
  rcases kX L.fr z with z | z
  ·exact absurd (aan (aak e) I.ok.above) (by rw[z];exact aca _)
  ·exact hb z
 refine wpAny_leaves_madeW (base:=PySem.W.hideAll s.heap (kB (X.env::X.outer))) fr L.fr (λ b o q=>PySem.W.of_hideAll _ q) (PySem.W.funFrames_hide hs λ env he a hf=>DW he hf) hx λ h2 t x1 x2 x3 x4=>?_;refine⟨ea,cls,.ref t,H,_,rfl,I.os,I.bare,⟨x1,λ b o e n hb=>?_,λ b o e n hb=>?_,λ b o e n=>I.base.free b o e n (nex b),λ b o e hb=>?_,I.base.tups,I.base.frzs,I.base.tbls,λ a o e=>?_⟩,hE⟩
 ·exact PySem.W.hideAll_get _ (I.base.keep b o e n hb (nex b)) (out b o e hb)
 ·obtain⟨sl,e1⟩:=I.base.slot b o e n hb (nex b);obtain⟨_,o',ho',hd⟩:=I.ok.funs.mem hb;rw[e] at ho';cases ho';obtain⟨sl',e2⟩:=x4 b _ (hx.keeps _ _ e1) hd;exact⟨sl',e2⟩
 ·obtain⟨o',e1⟩:=I.base.there b o e (nex b);exact⟨o',PySem.W.hideAll_get _ e1 (out b o e hb)⟩
 ·refine (I.hok a o e).stay (λ b u hb q=>PySem.W.hideAll_get _ q λ z=>?_) (λ _ q=>q) λ _ _ q=>q;have:=hfree b z;rcases hb with rfl | hb
  ·rw[e] at this;cases this
  ·rw[hb] at this;cases this
theorem DL (L:Leaves X E):lY (CV X.prog X.w) X E:=by
 intro pins σ H s e s' I h;obtain⟨ea,cls,a0,H',B,rfl,os,bare,F,hE⟩:=h;refine L.xe _ _ ?_;have fr:X.A.frames=some (X.env::X.outer):=by rw[<- L.stk];exact I.ok.frames
 have nex:∀ b:Addr,b∉X.ex:=λ b z=>by rw[L.ex] at z;cases z
 have out:∀ b o,X.s₀.heap.get? b=some o->b∉kB X.outer->b∉kB X.stack:=λ b o e hb z=>by
  rw[L.stk] at z;rcases kX L.fr z with z | z
  ·exact absurd (aan (aak e) I.ok.above) (by rw[z];exact aca _)
  ·exact hb z
 have inn:∀ b,b∈kB X.outer->b∈kB X.stack:=λ b hb=>by
  rw[L.stk];unfold kB at hb ⊢;rw[List.filterMap_cons,L.fr];exact aay _ hb
 refine wpAny_leaves_onW fr L.fr (by rw[<- L.stk];exact F.fl) λ h2 x1 x2=>?_;refine⟨ea,cls,a0,H',B,rfl,os.trans I.os,bare,⟨x1,λ b o e n hb=>?_,λ b o e n hb=>?_,λ b o e n=>?_,λ b o e hb=>?_,λ b xs e=>F.tups b xs (I.base.tups b xs e),λ b o u e=>F.frzs b o u (I.base.frzs b o u e),λ b ps e=>?_,F.hok⟩,hE⟩
 ·exact F.keep b o (I.base.keep b o e n hb (nex b)) (I.base.free b o e n (nex b)) (out b o e hb)
 ·obtain⟨sl,e1⟩:=I.base.slot b o e n hb (nex b);obtain⟨sl',e2⟩:=F.slot b _ e1 (I.base.free b o e n (nex b)) (inn b hb);obtain⟨_,o',ho',hd⟩:=I.ok.funs.mem hb;rw[e] at ho';cases ho';obtain⟨sl'',e3⟩:=x2 b _ e2 hd;exact⟨sl'',e3⟩
 ·obtain⟨o',e1⟩:=I.base.there b o e (nex b);exact F.free b o' e1 (I.base.free b o e n (nex b))
 ·obtain⟨o',e1⟩:=I.base.there b o e (nex b);exact F.there b o' e1 (out b o e hb)
 ·obtain⟨m1,e1⟩:=I.base.tbls b ps e;obtain⟨m2,e2⟩:=F.tbls b _ e1;exact⟨m1++m2,by rw[e2,Array.append_assoc]⟩
def yY (ea:Addr) (cls:Value):HO:=.ext λ h=>∃ o,h.get? ea=some o/\o.cls=cls
theorem Inv.caught {ea:Addr}{cls a0:Value}{B:Heap} (I:Inv X pins σ H s) (os:s'.os=s.os) (bare:AllBare s'.gens) (F:Fly X.prog X.w X.stack H s.heap ea cls a0 H' s'.heap B):H' ea=none/\Inv X pins σ (upd H' ea (yY ea cls)) s':=by
 obtain⟨ob,hob,hcls⟩:=F.fl.there;obtain⟨oe,vs,hoe,_,hfd,_⟩:=F.fl.first
 have hea:H' ea=none:=by
  cases q:H' ea with
  | none=>rfl
  | some o=>
   obtain⟨o',e⟩:=(F.hok ea o q).some;rw[F.fl.2.1] at e;cases e
 have frne:∀ b∈kB X.stack,b≠ea:=λ b hb z=>by
  obtain⟨_,o',ho',hd⟩:=F.fl.2.2.1.mem hb;rw[z,hoe] at ho';cases ho';exact hd _ hfd
 have ne:∀ b o,s.heap.get? b=some o->b≠ea:=λ b o e z=>by
  by_cases hb:b∈kB X.stack
  ·exact frne b hb z
  ·obtain⟨o',e'⟩:=F.there b o e hb;rw[z,F.fl.2.1] at e';cases e'
 have kb:∀ b u,B.get? b=some u->s'.heap.get? b=some u:=F.fl.1;refine⟨hea,I.call' (ch:=[]) os ⟨λ b o e n hb _=>kb _ _ (F.keep b o e n hb),λ b o e n hb _=>F.slot b o e n hb,λ b o e n _=>?_,λ b o e _=>?_,λ b xs e=>?_,λ b o u e=>?_,λ b ps e=>?_⟩ (λ b u e=>?_) bare (λ b z=>absurd z (by simp))⟩
 ·rw[aK (ne b o e)];exact F.free b o e n
 ·by_cases hb:b∈kB X.stack
  ·obtain⟨_,o',ho',_⟩:=F.fl.2.2.1.mem hb;exact⟨o',ho'⟩
  ·obtain⟨o',e'⟩:=F.there b o e hb;exact⟨o',kb _ _ e'⟩
 ·have:=F.tups b xs e;rw[aK (aJ this hea)];exact this
 ·have:=F.frzs b o u e;rw[aK (aJ this hea)];exact this
 ·obtain⟨m,e1⟩:=F.tbls b ps e;exact⟨m,by rw[aK (aJ e1 hea)];exact e1⟩
 ·by_cases hb:b=ea
  ·subst hb;rw[aB] at e;cases e;exact⟨⟨ob,hob,hcls⟩,⟨ob,hob⟩,λ h1 h2 ⟨o,e1,e2⟩ k=>⟨o,k _ e1,e2⟩⟩
  ·rw[aK hb] at e;exact (F.hok b u e).stay (λ c v _ q=>kb c v q) (λ c q=>by rw[aK (aJ q hea)];exact q) λ c xs q=>by rw[aK (aJ q hea)];exact q
def FO (E:XK) (C:Addr) (t:TA):TS:=λ _ σ H=>t σ H λ vs H1=>vs.length<=100/\E (.ref C) none H1
theorem AH {x:Str}{C:Addr}{bm:List Value}{newId initId B:String}{np cpos pos:Pos}{dz:Expr}{rest:List Expr}{t:TA} (L:Leaves X E) (hc:X.calm=true) (hg:Gl X x) (O:PySem.W.excIn X.K C bm newId=true) (hm:PySem.W.nsIn X.K mainGlobals x=some (some (.ref C))) (FB:ExcBaseFacts B newId initId bm) (ha:PA X (dz::rest) t)
  (he:starEach (dz::rest) X.env=(false,eval dz X.env)::starEach rest X.env:=by rfl) (hplain:(backTo cpos (starEach rest X.env)).any (·.1)=false:=by rfl) (hd:(x == ("__debug__" : Str))=false:=by decide) :
  PS X (.Raise (some (.Call (.Name x np) (dz::rest) [] cpos)) none pos) (FO E C t):=by
 intro pins s σ H D I h;have G:X.mg x=some (.ref C):=aao I.ok.mod.kin I.ok.mod.glob hm;have ocl:OwnCls x C bm newId X.mg X.base:=by
  refine⟨G,?_⟩;have q:=O;unfold PySem.W.excIn at q
  split at q
  ·rename_i dd cd sl ho
   split at q
   ·rename_i C' bm' k0 k1 k2 k3 n k5 hm' hs
    simp only [Bool.and_eq_true,Bool.not_eq_true',beq_iff_eq] at q;obtain⟨⟨⟨⟨⟨rfl,rfl⟩,hdel⟩,ht⟩,hok⟩,hni⟩:=q;obtain⟨nm,bs,mro,ns,qn,hd',sn,sub,ab,col,del⟩:=cd;dsimp only at hm' hdel hok hni;subst hm' hdel;have hsl:sl = #[k0,k1,k2,k3,some (.builtin n),k5]:=by obtain⟨l⟩:=sl;simp only at hs;rw[hs]
    subst hsl;exact⟨bm',ns,nm,qn,bs,hd',sn,sub,ab,col,dd,k0,k1,k2,k3,k5,_,I.ok.mod.kin _ _ ho,.of_isNs (PySem.W.isNs_of_in I.ok.mod.kin hok),PySem.W.nsMap_none_of_in I.ok.mod.kin hok hni,PySem.W.tail_of_in I.ok.mod.kin ht⟩
   ·cases q
  ·cases q
 obtain⟨tl,N,nm,q,bs,hdct,sn,sub,ab,col,dd,k0,k1,k2,k3,k5,mN,hC,hN,hni,T⟩:=ocl.obj;refine wpAny_Raise_call_subT (C:=C) (nm:=nm) (q:=q) (N:=N) (bs:=bs) (bm:=tl) (hdct:=hdct) (sn:=sn) (sub:=sub) (ab:=ab) (col:=col) (dd:=dd) (k0:=k0) (k1:=k1) (k2:=k2) (k3:=k3) (k5:=k5) FB (mN:=mN) (T.hasType FB.hasBase) (I.ok.hd hc) (by rw[he];show (false || (backTo cpos (starEach rest X.env)).any (·.1))=false;rw[hplain];rfl) hni (mW I hg G ⟨rfl,?_⟩ hd);have ha':=ha cpos pins s σ H _ I h;rw[he] at ha' ⊢;refine Calls.evalArgs_plain (abp ha' (λ us cn ⟨vs,H1,I1,r1,hlen,hE⟩=>⟨rfl,?_,I1.bk _ _ hC,hN.keeps I1.bk,T.keeps I1.bk,λ h' e hme=>AE L I1 hme hE⟩) λ _ _ y=>y);have:=r1.length;show us.length<=sizeLine;rw[sizeLine_eq];omega
end
abbrev Cx.within (X:Cx) (pn:List (Addr×Obj)) (E:Value->Shared->Prop):Cx:={ X with pn:=pn,xe:=E }
abbrev Cx.caughtIn (X:Cx) (ea:Addr):Cx:={ X with A:=X.A.mark (some (.ref ea)),calm:=false,xe:=λ _ _=>False }
section
variable {X:Cx}{pins:List (Addr×Obj)}{σ:St}{H:Hp}{s:Shared}{pn:List (Addr×Obj)}{E:Value->Shared->Prop}{ea:Addr}
theorem Cx.Ok.within (ok:X.Ok):(X.within pn E).Ok:=
 ⟨ok.mod,ok.kind,ok.glob,ok.blt,ok.above,ok.inj,ok.has,ok.cab,ok.hd,ok.frames,ok.stk,ok.exf,ok.bs,ok.bsz,ok.noex,ok.exfs,ok.funs,ok.frf⟩
theorem Cx.Ok.unwithin (ok:(X.within pn E).Ok):X.Ok:=
 ⟨ok.mod,ok.kind,ok.glob,ok.blt,ok.above,ok.inj,ok.has,ok.cab,ok.hd,ok.frames,ok.stk,ok.exf,ok.bs,ok.bsz,ok.noex,ok.exfs,ok.funs,ok.frf⟩
theorem Inv.within (I:Inv X pins σ H s):Inv (X.within (X.pn++pins) E) [] σ H s:=
 ⟨I.ok.within,I.os,I.bare,I.base,I.loc,I.cell,I.free,I.freeC,λ p hp=>I.pin p (by simpa using hp),I.hok,I.len⟩
theorem Inv.unwithin {p2:List (Addr×Obj)} (I:Inv (X.within (X.pn++pins) E) p2 σ H s):Inv X pins σ H s:=
 ⟨I.ok.unwithin,I.os,I.bare,I.base,I.loc,I.cell,I.free,I.freeC,λ p hp=>I.pin p (adb _ hp),I.hok,I.len⟩
theorem Inv.mark (I:Inv X pins σ H s):Inv (X.caughtIn ea) pins σ H s:=
 ⟨⟨I.ok.mod,I.ok.kind,I.ok.glob,I.ok.blt,I.ok.above,I.ok.inj,I.ok.has,I.ok.cab,λ z=>Bool.noConfusion z,I.ok.frames,I.ok.stk,I.ok.exf,I.ok.bs,I.ok.bsz,I.ok.noex,I.ok.exfs,I.ok.funs,I.ok.frf⟩,I.os,I.bare,I.base,I.loc,I.cell,I.free,I.freeC,I.pin,I.hok,I.len⟩
theorem Inv.unmark (ok:X.Ok) (I:Inv (X.caughtIn ea) pins σ H s):Inv X pins σ H s:=
 ⟨ok,I.os,I.bare,I.base,I.loc,I.cell,I.free,I.freeC,I.pin,I.hok,I.len⟩
theorem AX {M:Model}{A:Around}{E:Value->Shared->Prop}{i:Nat}{n:Str}{pos:Pos}{Q:Unit->Shared->Prop} (I:Inv X pins σ H s) (hN:X.N.Nodup) (hi:X.N[i]? = some n) (hk:X.env.scope.names.lookup n=some .local)
  (h:∀ s',Inv X pins (σ.set i none) H s'->Q () s'):wpAny M A (do bindName X.env n .none;unbindBehindTheSuite X.env n pos) Q E s:=by
 obtain⟨m,hn,hl⟩:=id I.loc;have hcls:(X.env.scope.kind == .class || (X.env.scope.kind == .module && X.env.locals != X.env.globals))=false:=by rw[I.ok.kind];rfl
 have hlo:X.env.kindOf n=some .local:=hk;have df:i < σ.length:=by rw[I.len];exact (aai.mp hi).1
 refine aaa (wpAny_bindName (wpAny_storeName_local hk hn (λ ap hn₁ ae=>?_) hcls));unfold unbindBehindTheSuite;refine wpAny_onRaise ?_;unfold unbindName;refine aaa (wpAny_point (aaa ?_));unfold deleteName;simp only [hlo,hcls];rw[if_neg (by decide)];refine aaa (wpAny_nsDel_keeps hn₁ λ ao v hn₂ af=>?_);simp only [if_true,Option.isSome_some,Bool.not_true,Bool.false_eq_true,if_false];have hs:=ae.trans af;obtain⟨oL,_,_,hoL,_⟩:=id hn;have cne:=I.cne;refine aae (wpAny_point (h _ ⟨I.ok,I.os,I.bare,⟨λ b o e n hb hx=>?_,λ b o e n hb hx=>?_,I.base.free,λ b o e hx=>?_,I.base.tups,I.base.frzs,I.base.tbls⟩,⟨_,hn₂,λ j y v' e1 e2 e3=>?_⟩,λ y c e=>?_,I.free,I.freeC,λ p hp=>?_,λ b ob e=>?_,by simpa using I.len⟩))
 ·exact (hs.2 b (aar (aan (aak e) I.ok.above))).trans (I.base.keep b o e n hb hx)
 ·obtain⟨sl,e1⟩:=I.base.slot b o e n hb hx;exact⟨sl,(hs.2 b (aar (aan (aak e) I.ok.above))).trans e1⟩
 ·obtain⟨o',e1⟩:=I.base.there b o e hx;exact⟨o',(hs.2 b (aar (aan (aak e) I.ok.above))).trans e1⟩
 ·by_cases hj:j=i
  ·subst hj;rw[acr df] at e2;cases e2
  ·rw[acw (Ne.symm hj)] at e2;obtain⟨u',r',q⟩:=hl j y v' e1 e2 e3;refine⟨u',r',?_⟩;rcases q with ⟨k,e⟩ | ⟨k,c,e,z⟩
   ·refine .inl ⟨k,?_⟩;have:y≠n:=λ e=>hj (oI hN e1 (e ▸ hi));simp [this,e]
   ·exact .inr ⟨k,c,e,z.sameBut hs (cne y c e)⟩
 ·obtain⟨w',z⟩:=I.cell y c e;exact⟨w',z.sameBut hs (cne y c e)⟩
 ·obtain⟨e,n,ne,nf,d⟩:=I.pin p hp;exact⟨(hs.2 p.1 ne).trans e,n,ne,nf,d⟩
 ·refine (I.hok b ob e).stay (λ c w' hc q=>(hs.2 c ?_).trans q) (λ _ q=>q) λ _ _ q=>q;rintro rfl;rcases hc with rfl | hc
  ·rw[I.free] at e;cases e
  ·rw[I.free] at hc;cases hc
def tTry (K:aab) (E:XK) (CT:Addr) (k i:Nat) (tb ts:TS):TS:=λ D σ H=>tb D σ H/\
 ∀ (cls:Value) (H':Hp) (ea:Addr) (ad:St),E cls none H'->ad.length=k->H' ea=none->PySem.W.exmOne K cls (.ref CT)=some true/\
  ts { nx:=λ bf H2=>D.nx (bf.set i none) H2,rt:=λ _ _=>False } (ad.set i (some (.ref ea))) (upd H' ea (yY ea cls))
theorem G3 {EX:XK}{CT:Addr}{x n:Str}{i:Nat}{body suite:List Stmt}{fw:Stmt}{np hpos pos:Pos}{tb ts:TS} (hstk:X.stack=X.env::X.outer) (hfr:X.env.frame=some X.env.locals)
  (hb:∀ (pn:List (Addr×Obj)) (xe:Value->Shared->Prop),lY (CV X.prog X.w) (X.within pn xe) EX->w9 (X.within pn xe) body tb)
  (hg:Gl X x) (hm:X.mg x=some (.ref CT)) (hN:X.N.Nodup) (hi:X.N[i]? = some n) (hk:X.env.scope.names.lookup n=some .local)
  (hs:∀ ea:Addr,w9 (X.caughtIn ea) (fw::suite) ts) (hd:(x == ("__debug__" : Str))=false:=by decide) :
  PS X (.Try body [.ExceptHandler (some (.Name x np)) (some n) (fw::suite) hpos] [] [] pos) (tTry X.K EX CT X.N.length i tb ts):=by
 intro pins s σ H D I h;obtain⟨h1,h2⟩:=h;refine wpAny_Try_except ?_;let XE:Value->Shared->Prop:=λ e s'=>∃ (σ:St) (H:Hp) (s:Shared) (ea:Addr) (cls a0:Value) (H':Hp) (B:Heap),e=.ref ea/\Inv X pins σ H s/\s'.os=s.os/\AllBare s'.gens/\Fly X.prog X.w X.stack H s.heap ea cls a0 H' s'.heap B/\EX cls none H';have hpass:lY (CV X.prog X.w) (X.within (X.pn++pins) XE) EX:=by
  intro p2 σ H s e s' J hx;obtain⟨ea,cls,a0,H',B,rfl,os,bare,F,hE⟩:=hx;exact⟨σ,H,s,ea,cls,a0,H',B,rfl,J.unwithin,os,bare,F,hE⟩
 refine abp (hb (X.pn++pins) XE hpass [] s σ H D I.within h1) (λ f aj hf=>?_) λ e aj hx=>?_
 ·cases f with
  | next=>
   obtain⟨ad,H',J,q⟩:=hf;exact bV pins aj ad H' D J.unwithin q
  | brk=>obtain⟨ad,H',J,q⟩:=hf;exact⟨ad,H',J.unwithin,q⟩
  | cont=>obtain⟨ad,H',J,q⟩:=hf;exact⟨ad,H',J.unwithin,q⟩
  | ret u=>obtain⟨v,ad,H',J,r,q⟩:=hf;exact⟨v,ad,H',J.unwithin,r,q⟩
 ·obtain⟨ad,H0,s0,ea,cls,a0,H',B,rfl,J,os,bare,F,hE⟩:=hx;have fr:X.A.frames=some (X.env::X.outer):=by rw[<- hstk];exact I.ok.frames
  have again:∀ h',Heap.FlyingW B X.stack ea cls a0 h'->aj.heap.UpToSlots h'->Fly X.prog X.w X.stack H0 s0.heap ea cls a0 H' h' B:=λ h' fl sm=>
   ⟨fl,F.keep,λ b o e n hb=>by
    obtain⟨sl,e1⟩:=F.slot b o e n hb;obtain⟨_,o',ho',hd⟩:=J.stack.mem hb;rw[e] at ho';cases ho';obtain⟨sl',e2⟩:=sm b _ e1 hd;exact⟨sl',e2⟩,F.free,F.there,F.tups,F.frzs,F.tbls,F.hok⟩
  refine wpAny_looks_onW fr hfr (by rw[<- hstk];exact F.fl) λ ar fj fc=>?_;refine wpAny_landsW fj λ bj ed fe=>?_;have F5:=again bj (by rw[hstk];exact ed) (fc.trans fe);obtain⟨hea,J5⟩:=J.caught (s':={ aj with heap:=bj }) os bare F5;have hlen:ad.length=X.N.length:=J.len;obtain⟨hmat,hts⟩:=h2 cls H' ea ad hE hlen hea;refine wpAny_handleBy_cons (codeAny_handlers_test (mW (X:=X.caughtIn ea) J5.mark hg hm ?_ hd)) (by intro q;cases q);obtain⟨ob,hob,hobc⟩:=ed.there;have LT0:PySem.W.Looks (model X.prog X.w) bj (typeOf (.ref ea)) ob.cls:=(PySem.W.Looks.ld hob).andThen .now;have LT:PySem.W.Looks (model X.prog X.w) bj (typeOf (.ref ea)) cls:=by rw[<- hobc];exact LT0
  refine (PySem.W.exm_one (M:=model X.prog X.w) J5.kIn LT hmat).here ?_;refine codeAny_handlers_suite_as (lands_againW ed λ cj fl₆ sm₆=>?_);have F6:=again cj (by rw[hstk];exact fl₆) ((fc.trans fe).trans sm₆);obtain⟨_,J6⟩:=J.caught (s':={ aj with heap:=cj }) os bare F6;refine kD (X:=X.caughtIn ea) J6.mark hN hi (.inl hk) (v:=.ref ea) rfl (λ s7 J7=>?_) (.inr hk);refine abp (hs ea pins s7 _ _ _ J7 hts) (λ f s8 hf=>?_) λ _ _ z=>False.elim z;cases f with
  | next=>
   obtain⟨bx,H8,J8,q⟩:=hf;exact AX (J8.unmark I.ok) hN hi hk λ s9 J9=>⟨_,_,J9,q⟩
  | brk=>obtain⟨_,_,_,q⟩:=hf;exact False.elim q
  | cont=>obtain⟨_,_,_,q⟩:=hf;exact False.elim q
  | ret u=>obtain⟨_,_,_,_,_,q⟩:=hf;exact False.elim q
end
end L2
namespace L2
open PySem PySem.Spec PyProof.Rows TwZ PySem.Builtin PySem.Builtin.ObjectAttr PySem.Builtin.Getset_descriptor
structure ExcKit (K:aab) (D:Addr):Prop where
 ga:PySem.W.findIn K (.ref D) "__getattribute__" = some (some (.builtin "BaseException.__getattribute__"))
 gt:PySem.W.findIn K (.ref D) "__getattr__" = some none
 ca:PySem.W.findIn K (.ref D) "__class__" = some (some (.builtin "object.__class__"))
 gg:PySem.W.specialIn K (.builtin "object.__class__") "__get__" = some (some (.builtin "getset_descriptor.__get__"))
 tk:PySem.W.takesIn K (.builtin "object.__class__")=some true
 mo:PySem.W.mroIn K D (.type "object")=some true
 mb:PySem.W.mroIn K D (.type "BaseException")=some true
def xT (x D:Addr) (h:Heap):Prop:=∃ o,h.get? x=some o/\o.cls=.ref D
theorem xT.ty {x D:Addr}{h:Heap} (p:xT x D h) (M:Model):PySem.W.Looks M h (typeOf (.ref x)) (.ref D):=by
 obtain⟨o,h1,h2⟩:=p;exact h2 ▸ (PySem.W.Looks.ld h1).andThen .now
section
variable {prog:Program}{x D:Addr}
theorem CH {M:Model}{A:Around}{E:Value->Shared->Prop}{s:Shared} (nameV:Value) {Q:Unit->Shared->Prop} (L0:PySem.W.Looks M s.heap (typeOf (.ref x)) (.ref D)) (LB:PySem.W.Looks M s.heap (isSubtype (.ref D) (.type "BaseException")) true) (hq:Q () s) :
  wpAny M A (checkBuiltinCall "BaseException.__getattribute__" ⟨[.ref x,nameV],[]⟩) Q E s:=by
 obtain⟨h,g,d,t,os⟩:=s;have hk:builtinKind "BaseException.__getattribute__" = some .slot:=by decide +kernel
 have hsplit:splitId "BaseException.__getattribute__" = some ("BaseException","__getattribute__"):=by decide +kernel
 have ha:=PySem.F.args_bexc_ga (.ref x) nameV;simp only [checkBuiltinCall,hk,hsplit];refine aaa ?_;unfold isInstance
 repeat (first | with_reducible refine L0.at ?_ | with_reducible refine LB.at ?_ | wp_step)
 exact hq
theorem yX {A:Around}{E:Value->Shared->Prop}{s:Shared}{Q:Option Value->Shared->Prop} (Z:ExcKit K D) (X:K.In s.heap) (p:xT x D s.heap) (hq:Q (some (.ref D)) { s with toks:=s.toks+1 }):wpAny (model prog w) A (getAttr? (.ref x) "__class__") Q E s:=by
 obtain⟨hh,g,d,t,os⟩:=s;have L0:=p.ty (model prog w);have L1:=PySem.W.looks_findIn (M:=model prog w) X Z.ga;have L2:=PySem.W.looks_findIn (M:=model prog w) X Z.gt;have L3:=PySem.W.looks_findIn (M:=model prog w) X Z.ca;have L4:PySem.W.Looks (model prog w) hh (getOf (some (.builtin "object.__class__"))) (some (.builtin "getset_descriptor.__get__")):=PySem.W.looks_specialIn X Z.gg;have L5:=PySem.W.looks_takesIn (M:=model prog w) X Z.tk;have L6:=PySem.W.looks_mroIn (M:=model prog w) X Z.mo;have LF:PySem.W.Looks (model prog w) hh (find (.ref x) (.ref D) "__class__") (.bind (.builtin "getset_descriptor.__get__") (.builtin "object.__class__")):=
  L3.andThen (L4.andThen ((show PySem.W.Looks (model prog w) hh (dataDescriptor? (some (.builtin "object.__class__")) (some (.builtin "getset_descriptor.__get__"))) (some (.builtin "getset_descriptor.__get__",.builtin "object.__class__")) from L5.andThen .now).andThen (PySem.W.Looks.tag .now)))
 have LB:=PySem.W.looks_mroIn (M:=model prog w) X Z.mb;have hk:builtinKind "BaseException.__getattribute__" = some .slot:=by decide +kernel
 have hsplit:splitId "BaseException.__getattribute__" = some ("BaseException","__getattribute__"):=by decide +kernel
 have hx2:(Value.builtin "BaseException.__getattribute__" == Value.builtin "object.__getattribute__")=false:=by decide +kernel
 unfold getAttr? getAttrBy? getAttrBy;refine aaa (wpAny_mkText (aaa (wpAny_attempt (abf (aaa (L0.at (aaa (L1.at ?_))))))));simp only [hx2,Bool.and_false,Bool.false_eq_true,if_false];unfold getAttrByItsOwn hookBefore;refine aaa ?_;rw[show onTheHeap (Value.ref D)=true from rfl,if_pos rfl];refine L2.at (aaa (wpAny_attempt (abf ?_)));unfold callGetattribute boundAndCalled;rw[if_neg (by decide)];refine aaa (wpAny_of_eq (PySem.F.excAttr_ValueError.ga.bind (.ref x)) ?_);show wpAny _ _ (call (.builtin "BaseException.__getattribute__") [.ref x,.str "__class__" t]) _ _ _;refine wpAny_call (codeAny_call_builtin PySem.F.excAttr_ValueError.ga.plain PySem.F.entry_bexc_ga ?_);refine CH (.str "__class__" t) L0 LB ?_;unfold Builtin.«object.__getattribute__»;refine aaa (aae ?_);refine aaa (aae ?_);refine aaa (L0.at (aaa (LF.at ?_)));show wpAny _ _ (holding [.builtin "object.__class__"] (call (.builtin "getset_descriptor.__get__") [.builtin "object.__class__",.ref x,.ref D]) >>= ret) _ _ _;refine aaa (abf (wpAny_call ?_));refine codeAny_call_builtin PySem.W.KF.slot_gs.plain PySem.W.KF.entry_gs (PySem.W.KF.slot_gs.check _ _ _ _ _ _ _ _ PySem.W.KF.type_class (PySem.W.KF.args_gs _ _ _) ?_);unfold Builtin.«getset_descriptor.__get__» descrGet;rw[PySem.W.dga_obj];refine aaa (aae ?_);unfold descrGetter descrCheckInstance descrNameAndClass isInstance;simp only [PySem.W.KF.owner_class];repeat lk
 refine⟨Code.quiet_builtin _ (by decide +kernel),codeAny_builtin PySem.W.KF.entry_class ?_⟩;unfold Builtin.«object.__class__» shownTypeOf;repeat lk
 exact hq
theorem B4 (Z:ExcKit K D) (hcl:∃ c d cd sl,K.lookup D=some ⟨c,d,.cls cd,sl⟩):PySem.W.KitX K (.ref x) (.ref D) (xT x D) where
 ty:=λ M _ _ p=>p.ty M
 it:=λ _ _ X _=>by
  obtain⟨c',d',cd',sl',ho⟩:=hcl;intro A' Q' E' s' k q;unfold isType loadHead;exact aaa (wpAny_loadPart (k _ _ (X _ _ ho)) (aae q))
 ne:=λ _ _ _ _ _ _ X htp=>by
  obtain⟨c',d',cd',sl',ho⟩:=hcl;refine Bool.eq_false_iff.mpr λ q=>?_;have e:=Value.ref.inj (beq_iff_eq.mp q);rw[<- e,X _ _ ho] at htp;cases htp
 ca:=λ X p k=>yX Z X p k
end
def EN (K:aab):List V->Hp->VK->Prop:=λ xs H Q=>∃ (ea D:Addr) (c:V) (cv:Value) (b:Bool),xs=[.ref ea,c]/\bG c cv/\H ea=some (yY ea (.ref D))/\ExcKit K D/\(∃ c d cd sl,K.lookup D=some ⟨c,d,.cls cd,sl⟩)/\PySem.W.kitOne K (.ref D) cv=some b/\(∀ u,bG c u->u=cv)/\Q (.bl b) H
section
variable {X:Cx}
theorem zJ:dY X (.builtin "isinstance") (EN X.K):=by
 intro pins s σ H xs us Q I r h;obtain⟨ea,D,c,cv,b,rfl,rc,he,Z,hcl,e,hu,q⟩:=h;obtain⟨u,v,rfl,ru,rv⟩:=r.two;cases (show u=Value.ref ea from ru);have:=hu v rv;subst this;obtain⟨p,_,_⟩:=(show cJ X.prog X.w H s.heap ea (yY ea (.ref D)) from I.hok ea _ he);exact PySem.W.kia_one (B4 Z hcl) I.kIn p e (λ z=>nomatch z) λ tk=>⟨.bl b,H,I.tok tk,rfl,q⟩
theorem dC {K:aab} (hK:X.K=K):dY X (.builtin "isinstance") (EN K):=by subst hK;exact zJ
def DB:V->List V->Hp->VK->Prop:=λ x vs H Q=>∃ (l:Addr) (bs:List Bool),x=.ref l/\vs=[.bl true]/\H l=some (.lst (bs.map V.bl))/\Q (.int (bs.countP id:Nat)) H
theorem yM:MtM X "list.count" DB:=by
 intro pins s σ H x vs v us Q I rx rv h;obtain⟨l,bs,rfl,rfl,hH,q⟩:=h;cases rx;obtain⟨u,rfl,ru⟩:=rv.one;cases ru;obtain⟨z,its,n,r,hl,e⟩:=I.lstM hH;have key:∀ (bs:List Bool) (its:List Value),bI (bs.map V.bl) its->its=bs.map Value.bool:=by
  intro bs
  induction bs with
  | nil=>intro its r;cases r;rfl
  | cons b bs ih=>intro its r;cases r with | cons r1 r2=>cases r1;rw[ih _ r2];rfl
 have ek:=key bs its r;subst ek;refine call_meets F.slot_list_count ⟨_,e,rfl⟩ F.entry_list_count (F.args_list_count_2 _ _) (SeqAt.list_countAt l (bs.map Value.bool).toArray n none #[] (.bool true) (λ v=>match v with | .bool b=>b | _=>false)) ⟨e,λ y hy=>?_,?_⟩
 ·obtain⟨b,_,rfl⟩:=acq.1 (show y∈bs.map Value.bool by simpa using hy);cases b
  ·exact SeqAt.EqAt.bool_bool false true
  ·exact SeqAt.EqAt.same _
 ·have ec:(List.countP (λ v=>match v with | Value.bool b=>b | _=>false) (bs.map Value.bool).toArray.toList)=bs.countP id:=by
   rw[List.toList_toArray,List.countP_map];rfl
  rw[ec];exact⟨.int _,H,I.tok _,⟨_,rfl⟩,q⟩
def AG (K:aab):R2:=λ x y H Q=>∃ a b xs ys,x=.ref a/\y=.ref b/\bM K H a xs/\bM K H b ys/\xs.length+ys.length<=sizeLine/\∀ p H',aG H H'->bM K H' p (xs++ys)->Q (.ref p) H'
theorem AU:hJ X (binaryOp .Add) (AG X.K):=by
 intro pins s σ H x y v u Q I rx ry h;obtain⟨a,b,xs,ys,rfl,rfl,ha,hb,hz,q⟩:=h
 by_cases hx:xs=[]
 ·subst hx;cases rx;cases ry;obtain⟨its,r1,p1,_⟩:=I.tuple ha;obtain⟨its2,r2,p2,_⟩:=I.tuple hb;cases r1;obtain⟨⟨cls,dd,data,sl⟩,ho,hc,n,hd⟩:=id p1;obtain⟨⟨cls2,dd2,data2,sl2⟩,ho2,hc2,n2,hd2⟩:=id p2;simp only at hc hd hc2 hd2;subst hc hd hc2 hd2;exact concat_meets ⟨_,ho,rfl⟩ ⟨_,ho2,rfl⟩ noFill_tuple_add seq_tuple_add PySem.F.slot_tuple_add PySem.F.entry_tuple_add (PySem.F.args_tuple_add_2 _ _) (tuple_addW0 a b _ its2.toArray n n2 dd dd2 sl sl2 (by simp)) ⟨ho,ho2,⟨.ref b,H,I,rfl,q b H (aG.refl H) hb⟩⟩
 ·refine wQ pins s σ H _ _ v u Q I rx ry ⟨a,b,xs,ys,rfl,rfl,ha,hb,hx,hz,λ e=>?_,λ _ p hp=>?_⟩
  ·subst e;exact q a H (aG.refl H) (by rw[acf];exact ha)
  ·exact q p _ (aG.new hp) (bM.of aB)
theorem pX (hK:X.K=K):hJ X (binaryOp .Add) (AG K):=by subst hK;exact AU
theorem wG (hK:X.K=K):JG X (IA K):=by subst hK;exact FU
theorem kG (hK:X.K=K):JG X (IB K):=by subst hK;exact D8
end
theorem Fun.okR {x qual:Str}{st:Stmt}{f:Addr}{fd:FuncData}{N ps:List Str}{k:Nat}{sp:Sp} (F:Fun K x qual st f fd) (S:FnScope N ps (aP st)) (len:∀ vs H Q E,sp vs H Q E->vs.length=ps.length)
  (hbody:∀ (cdv:Value) (A:Around) (outer:List Env) (s:Shared) (H:Hp) (vs:List V) (Q:VK) (E:XK),Room k (A.deeper (envOfC qual (aP st) s.heap.objs.size f cdv))->sp vs H Q E->
   Leaves (tW (CV P w) P w K mg base N qual (aP st) f cdv A outer s H E) E->
   ∃ t,w9 (tW (CV P w) P w K mg base N qual (aP st) f cdv A outer s H E) (fX st) t/\t { nx:=λ _ H'=>Q .non H',rt:=Q } (kE N vs) H):FnOk P w K mg base (CV P w) (k+1) f fd ps sp:=by
 obtain⟨oc,od,kV,doc,pm,an,cdv,ct,osl,rfl,lk,hcd⟩:=F.ex;exact FD lk hcd S len λ A outer s H vs Q E hr hsp=>hbody cdv A outer s H vs Q E hr hsp ⟨rfl,rfl,rfl,λ _ _ h=>h⟩
structure CalleeR (P:Program) (w:World) (K:aab) (mg:Str->Option Value) (base:Heap) (x:Str) (ps:List Str) (k:Nat) (sp:Sp) (f:Addr) (fd:FuncData):Prop where
 ok:FnOk P w K mg base (CV P w) k f fd ps sp
 mg:mg x=some (.ref f)
 kp:PySem.W.keepIn K (.ref f)=true
 bd:pB K fd ps []
structure ExC (K:aab) (x:Str) (C:Addr):Prop where
 ns:PySem.W.nsIn K mainGlobals x=some (some (.ref C))
 exc:PySem.W.excIn K C [.type "ValueError",.type "Exception",.type "BaseException",.type "object"] "ValueError.__new__" = true
theorem DM {X:Cx}{a1 a2 a3 a4 a5 a6 a7 a8:Str}{k1 k2 k3 k4 k5 k6 k7 k8:Nat}{p1 p2 p3 p4 p5 p6 p7 p8:Pos} :
  PA X [.Constant (.str a1) k1 p1,.Constant (.str a2) k2 p2,.Constant (.str a3) k3 p3,.Constant (.str a4) k4 p4,.Constant (.str a5) k5 p5,.Constant (.str a6) k6 p6,.Constant (.str a7) k7 p7,.Constant (.str a8) k8 p8]
   (cI (tC (.str a1)) (cI (tC (.str a2)) (cI (tC (.str a3)) (cI (tC (.str a4)) (cI (tC (.str a5)) (cI (tC (.str a6)) (cI (tC (.str a7)) (cI (tC (.str a8)) jF)))))))):=
 have h8:=aA (X:=X) (dA (x:=a8)) aC;have h7:=aA (dA (x:=a7)) h8;have h6:=aA (dA (x:=a6)) h7;have h5:=aA (dA (x:=a5)) h6;have h4:=aA (dA (x:=a4)) h5;have h3:=aA (dA (x:=a3)) h4;have h2:=aA (dA (x:=a2)) h3
 aA (dA (x:=a1)) h2
theorem pN:bootBuiltins "ValueError" = some (.type "ValueError"):=by decide +kernel
end L2
namespace Tw
open PySem L2
theorem zD (i:Str):(L2.D.str i).depth=0:=by rw[L2.D.depth] <;> intros <;> (first | rfl | (intro z;cases z) | (rename_i z;cases z))
structure TxtW (mg:Str->Option Value) (c_TipError c_NoNet c_NoVessel c_TooLong c_TooMany c_TooMuch c_Nothing c_NoText c_NoRow:Addr):Prop where
 m_TipError:mg "TipError" = some (.ref c_TipError)
 m_NoNet:mg "NoNet" = some (.ref c_NoNet)
 m_NoVessel:mg "NoVessel" = some (.ref c_NoVessel)
 m_TooLong:mg "TooLong" = some (.ref c_TooLong)
 m_TooMany:mg "TooMany" = some (.ref c_TooMany)
 m_TooMuch:mg "TooMuch" = some (.ref c_TooMuch)
 m_Nothing:mg "Nothing" = some (.ref c_Nothing)
 m_NoText:mg "NoText" = some (.ref c_NoText)
 m_NoRow:mg "NoRow" = some (.ref c_NoRow)
 b_ValueError:mg "ValueError" = none
structure KindOf (K:aab) (c_NoNet c_NoVessel c_TooLong c_TooMany c_TooMuch c_Nothing c_NoText c_NoRow:Addr) (D:Addr) (bs:List Bool):Prop where
 kit:ExcKit K D
 cl:∃ c d cd sl,K.lookup D=some ⟨c,d,.cls cd,sl⟩
 val:PySem.W.kitOne K (.ref D) (.type "ValueError")=some true
 ks:∃ b0 b1 b2 b3 b4 b5 b6 b7,bs=[b0,b1,b2,b3,b4,b5,b6,b7]/\PySem.W.kitOne K (.ref D) (.ref c_NoNet)=some b0/\PySem.W.kitOne K (.ref D) (.ref c_NoVessel)=some b1/\PySem.W.kitOne K (.ref D) (.ref c_TooLong)=some b2/\
  PySem.W.kitOne K (.ref D) (.ref c_TooMany)=some b3/\PySem.W.kitOne K (.ref D) (.ref c_TooMuch)=some b4/\PySem.W.kitOne K (.ref D) (.ref c_Nothing)=some b5/\PySem.W.kitOne K (.ref D) (.ref c_NoText)=some b6/\PySem.W.kitOne K (.ref D) (.ref c_NoRow)=some b7
def nS:Sp:=λ vs H Q _=>∃ (n lo hi:Int),vs=[.int n,.int lo,.int hi]/\Q (.bl (decide (lo<=n) && decide (n<=hi))) H
theorem rD {f:Addr}{fd:FuncData} (F:Fun K "is_whole" "is_whole" (bQ 27) f fd) (T:Txt mg):FnOk P w K mg base i7 1 f fd ["thing","least","most"] nS:=by
 refine F.ok mB (λ vs H Q E h=>?_) (λ cdv A outer s H vs Q E hr h=>?_)
 ·obtain⟨n,lo,hi,rfl,_⟩:=h;rfl
 ·obtain⟨n,lo,hi,rfl,k⟩:=h;have sc:=mB;refine⟨_,(aL (bF (vE (aN (jB (K:=K) rfl) rfl T.b_isinstance d9 (aA (pv 0) (aA (kS (v:=.ty "int") rfl T.b_int lX rfl) aC))) (vE (r8 (aN (jB (K:=K) rfl) rfl T.b_isinstance d9 (aA (pv 0) (aA (kS (v:=.ty "bool") rfl T.b_bool xP rfl) aC)))) (vD (AO ET ET (pv 1) (pv 0) (pv 2))))))),?_⟩;refine⟨_,rfl,_,"int",_,true,rfl,.inl (.int _),GE K,_,rfl,lB ?_⟩;refine⟨_,rfl,_,"bool",_,false,rfl,.inl (.int _),B6 K,_,rfl,_,rfl,lB ?_⟩;refine⟨_,rfl,_,rfl,_,_,rfl,rfl,_,rfl,fJ (λ h1=>?_) λ h1=>?_⟩
  ·rw[h1,Bool.true_and] at k;exact⟨_,rfl,_,_,rfl,rfl,k⟩
  ·rw[Bool.not_eq_true] at h1;rw[h1,Bool.false_and] at k;exact k
def qT (K:aab) (cV:Addr):Sp:=λ vs H Q E=>∃ (x:V) (net:Net) (v:Int),vs=[x,.int v]/\Is K H (eX net) x/\((0<=v/\v < net.vs.length/\Q .non H)\/(¬ (0<=v/\v < net.vs.length)/\E (.ref cV) none H))
theorem mI {f f1:Addr}{fd fd1:FuncData} (F:Fun K "need_vessel" "need_vessel" (bQ 25) f fd) (T:Txt mg) (XC_NoVessel:ExC K "NoVessel" c_NoVessel) (G_is_whole:Callee P w K mg base "is_whole" ["thing","least","most"] 1 nS f1 fd1) :
  FnOk P w K mg base (CV P w) 2 f fd ["net","number"] (qT K c_NoVessel):=by
 refine F.okR iF (λ vs H Q E h=>?_) (λ cdv A outer s H vs Q E hr h L=>?_)
 ·obtain⟨x,net,v,rfl,_⟩:=h;rfl
 ·obtain⟨x,net,v,rfl,hx,k⟩:=h;have sc:=iF;refine⟨_,(aD (cF (pv 0) (bD (K:=K) (n:=2) rfl rfl (aH (aF (i:=2) sc.nd rfl (Or.inl rfl)) (aH (aF (i:=3) sc.nd rfl (Or.inl rfl)) bB))))
   (aL (dL (r6 (gT (dF G_is_whole hr (aA (pv 1) (aA aE (aA (aT gX (aN (bE (K:=K) rfl) rfl T.b_len aba (aA (pv 2) aC)) aE) aC)))))) (aL (AH L rfl rfl XC_NoVessel.exc XC_NoVessel.ns PySem.F.excBase_ValueError (aA dA aC))) bV))),?_⟩
  obtain⟨a,b,c,xs,ys,rfl,q,q1,l1,q2,l2⟩:=dM hx;have exl:xs.length=net.vs.length:=by rw[l1.length,aad]
  refine⟨_,rfl,a,_,rfl,q,rfl,_,_,rfl,_,_,rfl,rfl,?_⟩;refine⟨_,rfl,_,rfl,b,xs,rfl,.inr q1,_,_,rfl,rfl,v,0,_,rfl,_,rfl,?_⟩;rcases k with ⟨h0,h1,k⟩ | ⟨hn,k⟩
  ·rw[abq h0,abq (show v<=((xs.length:Nat):Int) - 1 by omega)];exact g6 k
  ·have:(decide (0<=v) && decide (v<=((xs.length:Nat):Int) - 1))=false:=by
    rw[Bool.eq_false_iff];intro z;rw[Bool.and_eq_true,decide_eq_true_eq,decide_eq_true_eq] at z;exact hn ⟨z.1,by omega⟩
   rw[this];exact lB ⟨by show 1<=100;decide,k⟩
def EG:List Str:=["net","vessel","long","many","much","nothing","text","row"]
def uR (K:aab) (c_NoNet c_NoVessel c_TooLong c_TooMany c_TooMuch c_Nothing c_NoText c_NoRow:Addr):Sp:=λ vs H Q _=>∃ (ea D:Addr) (bs:List Bool) (j:Nat) (wd:Str),vs=[.ref ea]/\H ea=some (yY ea (.ref D))/\
 KindOf K c_NoNet c_NoVessel c_TooLong c_TooMany c_TooMuch c_Nothing c_NoText c_NoRow D bs/\bs.countP id=1/\bs[j]? = some true/\(∀ i b,i < j->bs[i]? = some b->b=false)/\EG[j]? = some wd/\∀ p H',aG H H'->bM K H' p [.str wd]->Q (.ref p) H'
theorem kK:FnScope ["error","kinds"] ["error"] (aP (bQ 36)):={}
theorem rE {f:Addr}{fd:FuncData} (F:Fun K "_law_word" "_law_word" (bQ 36) f fd) (T:Txt mg) (W:TxtW mg c_TipError c_NoNet c_NoVessel c_TooLong c_TooMany c_TooMuch c_Nothing c_NoText c_NoRow) :
  FnOk P w K mg base i7 1 f fd ["error"] (uR K c_NoNet c_NoVessel c_TooLong c_TooMany c_TooMuch c_Nothing c_NoText c_NoRow):=by
 refine F.ok kK (λ vs H Q E h=>?_) (λ cdv A outer s H vs Q E hr h=>?_)
 ·obtain⟨ea,D,bs,j,wd,rfl,_⟩:=h;rfl
 ·obtain⟨ea,D,bs,j,wd,rfl,he,kd,hc,hj,hlt,hw,k⟩:=h;have sc:=kK;refine⟨_,(aD (aR (i:=1) sc.nd rfl (Or.inl rfl) (bC (aA (aN (dC (K:=K) rfl) rfl T.b_isinstance d9 (aA (pv 0) (aA (eQ (v:=.ref c_NoNet) rfl ⟨_,W.m_NoNet,rfl⟩) aC))) (aA (aN (dC (K:=K) rfl) rfl T.b_isinstance d9 (aA (pv 0) (aA (eQ (v:=.ref c_NoVessel) rfl ⟨_,W.m_NoVessel,rfl⟩) aC))) (aA (aN (dC (K:=K) rfl) rfl T.b_isinstance d9 (aA (pv 0) (aA (eQ (v:=.ref c_TooLong) rfl ⟨_,W.m_TooLong,rfl⟩) aC))) aC)))))
   (aD (aR (i:=1) sc.nd rfl (Or.inl rfl) (aT fZ (pv 1) (bC (aA (aN (dC (K:=K) rfl) rfl T.b_isinstance d9 (aA (pv 0) (aA (eQ (v:=.ref c_TooMany) rfl ⟨_,W.m_TooMany,rfl⟩) aC))) (aA (aN (dC (K:=K) rfl) rfl T.b_isinstance d9 (aA (pv 0) (aA (eQ (v:=.ref c_TooMuch) rfl ⟨_,W.m_TooMuch,rfl⟩) aC))) (aA (aN (dC (K:=K) rfl) rfl T.b_isinstance d9 (aA (pv 0) (aA (eQ (v:=.ref c_Nothing) rfl ⟨_,W.m_Nothing,rfl⟩) aC))) aC))))))
   (aD (aR (i:=1) sc.nd rfl (Or.inl rfl) (aT fZ (pv 1) (bC (aA (aN (dC (K:=K) rfl) rfl T.b_isinstance d9 (aA (pv 0) (aA (eQ (v:=.ref c_NoText) rfl ⟨_,W.m_NoText,rfl⟩) aC))) (aA (aN (dC (K:=K) rfl) rfl T.b_isinstance d9 (aA (pv 0) (aA (eQ (v:=.ref c_NoRow) rfl ⟨_,W.m_NoRow,rfl⟩) aC))) aC)))))
   (aD (dL (PW.pt (wJ (r6 (gT (aN (dC (K:=K) rfl) rfl T.b_isinstance d9 (aA (pv 0) (aA (kS (v:=.ty "ValueError") rfl W.b_ValueError pN rfl) aC))))) (uZ (bL ES (dR (K:=K) rfl aav PySem.F.slot_list_count PySem.F.type_list_count yM (pv 1) (aA i4 aC)) aE (bR _))))) (aL (bF (bO (aA dA aC)))) bV)
   (aL (bF (bO (aA (aS (aI (K:=K) rfl) (bC DM) (dR (K:=K) rfl aav PySem.F.slot_list_index PySem.F.type_list_index tJ (pv 1) (aA i4 aC)) (λ _ _=>rfl)) aC)))))))),?_⟩
  obtain⟨b0,b1,b2,b3,b4,b5,b6,b7,rfl,k0,k1,k2,k3,k4,k5,k6,k7⟩:=kd.ks;refine⟨_,rfl,ea,D,_,_,b0,rfl,rfl,he,kd.kit,kd.cl,k0,λ u h=>h,?_⟩;refine⟨_,rfl,ea,D,_,_,b1,rfl,rfl,he,kd.kit,kd.cl,k1,λ u h=>h,?_⟩;refine⟨_,rfl,ea,D,_,_,b2,rfl,rfl,he,kd.kit,kd.cl,k2,λ u h=>h,(show 3<=sizeLine by decide),λ l1 h1=>?_⟩;have he1:=aG.new (o:=HO.lst [.bl b0,.bl b1,.bl b2]) h1 _ _ he;refine⟨_,rfl,_,rfl,ea,D,_,_,b3,rfl,rfl,he1,kd.kit,kd.cl,k3,λ u h=>h,?_⟩;refine⟨_,rfl,ea,D,_,_,b4,rfl,rfl,he1,kd.kit,kd.cl,k4,λ u h=>h,?_⟩;refine⟨_,rfl,ea,D,_,_,b5,rfl,rfl,he1,kd.kit,kd.cl,k5,λ u h=>h,(show 3<=sizeLine by decide),λ l2 h2=>?_⟩;have s2:=aG.new (o:=HO.lst [.bl b3,.bl b4,.bl b5]) h2;refine⟨l1,l2,_,_,rfl,rfl,s2 _ _ aB,aB,(show 6<=sizeLine by decide),λ l3 h3=>?_⟩;have s3:=aG.new (o:=HO.lst ([.bl b0,.bl b1,.bl b2]++[.bl b3,.bl b4,.bl b5])) h3;have he3:=s3 _ _ (s2 _ _ he1);refine⟨_,rfl,_,rfl,ea,D,_,_,b6,rfl,rfl,he3,kd.kit,kd.cl,k6,λ u h=>h,?_⟩;refine⟨_,rfl,ea,D,_,_,b7,rfl,rfl,he3,kd.kit,kd.cl,k7,λ u h=>h,(show 2<=sizeLine by decide),λ l4 h4=>?_⟩;have s4:=aG.new (o:=HO.lst [.bl b6,.bl b7]) h4;refine⟨l3,l4,_,_,rfl,rfl,s4 _ _ aB,aB,(show 8<=sizeLine by decide),λ l5 h5=>?_⟩;have s5:=aG.new (o:=HO.lst ([.bl b0,.bl b1,.bl b2]++[.bl b3,.bl b4,.bl b5]++[.bl b6,.bl b7])) h5;have sH:aG H _:=((((aG.new h1).trans s2).trans s3).trans s4).trans s5;have he5:=s5 _ _ (s4 _ _ he3);refine⟨_,rfl,ea,D,_,_,true,rfl,rfl,he5,kd.kit,kd.cl,kd.val,λ u h=>h,_,rfl,g6 ?_⟩;refine⟨_,rfl,.inl ⟨rfl,_,bN.of aB⟩,l5,[b0,b1,b2,b3,b4,b5,b6,b7],rfl,rfl,aB,rfl,_,rfl,IU (by rw[hc];rfl) ?_⟩;refine⟨(show 8<=sizeLine by decide),λ l6 h6=>?_⟩;have s6:=aG.new (o:=HO.lst [.str "net",.str "vessel",.str "long",.str "many",.str "much",.str "nothing",.str "text",.str "row"]) h6;have hj8:j < 8:=(aai.mp hj).1;refine⟨_,rfl,.inl ⟨rfl,_,bN.of (s6 _ _ aB)⟩,l5,_,_,j,rfl,rfl,s6 _ _ aB,rfl,rfl,hj8,λ z hz=>?_,λ i z hi hz=>?_,?_⟩
  ·have:([b0,b1,b2,b3,b4,b5,b6,b7].map V.bl)[j]? = some z:=hz;rw[aaf,hj] at this;cases this;rfl
  ·have:([b0,b1,b2,b3,b4,b5,b6,b7].map V.bl)[i]? = some z:=hz;rw[aaf] at this;obtain⟨b,hb,rfl⟩:=aau.mp this;rw[hlt i b hi hb];rfl
  ·refine .inl ⟨l6,_,(j:Int),_,rfl,rfl,bN.of aB,bW (show (EG.map V.str)[j]? = some (.str wd) by rw[aaf,hw];rfl),(show 1<=sizeLine by decide),λ p hp=>?_⟩;exact k p _ ((sH.trans s6).trans (aG.new hp)) (bM.of aB)
end Tw
namespace L2
open PySem PySem.Spec PyProof.Rows TwZ
section
variable {prog:Program}
end
noncomputable instance decD:DecidableEq D:=λ a b=>Classical.propDecidable (a=b)
section
variable {prog:Program}
end
section
variable {X:Cx}{pins:List (Addr×Obj)}{σ:St}{H:Hp}{s:Shared}
end
section
variable {H H':Hp}{a:Addr}{S:D}{kvs:List (D×V)}
end
section
variable {X:Cx}{pins:List (Addr×Obj)}{σ:St}{H:Hp}{s:Shared}{a:Addr}{S:D}{kvs:List (D×V)}
end
end L2
namespace Tw
open PySem L2
structure Sta where
 held:List Int
 coming:List Int
 doors:List Bool
def A3 (net:Net):Sta:=⟨d7 net.vs.length,d7 net.vs.length,net.sps.map (·.2.2)⟩
def Sta.tk (net:Net) (s:Sta):Tick:=eA net s.held s.coming (d7 net.vs.length) s.doors
def Sta.next (net:Net) (s:Sta):Sta:=⟨(s.tk net).held,(s.tk net).coming,(s.tk net).doors⟩
def gB (net:Net):Nat->Sta
 | 0=>A3 net
 | t+1=>(gB net t).next net
def FT (s:Sta):L2.D:=uB s.held s.coming s.doors
theorem mP (n:Nat):(d7 n).length=n:=by simp [d7]
theorem A2 {net:Net} (nok:NetOk net):∀ t,StOk net (gB net t).held (gB net t).coming (gB net t).doors
 | 0=>⟨mP _,mP _,by show (net.sps.map _).length=_;rw[aad]⟩
 | t+1=>by
  have ih:=A2 nok t;have hs:(aM net (gB net t).held (gB net t).coming (d7 net.vs.length) (gB net t).doors).length=net.vs.length:=by
   unfold aM;rw[eI,fN ih.h ih.c (mP _)]
  exact⟨fC _ _ hs.symm,by show (cU _ _).length=_;unfold cU;simp,by show (cA _ _ _).length=_;rw[fK];exact ih.d⟩
end Tw
namespace L2
open PySem PySem.Spec PyProof.Rows TwZ
section
variable {X:Cx}
theorem DE {st:Stmt}{t:TS} (h:∀ pn:List (Addr×Obj),PS (X.within pn λ _ _=>False) st t):PS X st t:=by
 intro pins s σ H D I h1;refine abp (h (X.pn++pins) [] s σ H D I.within h1) (λ f aj hf=>?_) λ _ _ z=>z.elim;cases f with
 | next=>obtain⟨ad,H',J,q⟩:=hf;exact⟨ad,H',J.unwithin,q⟩
 | brk=>obtain⟨ad,H',J,q⟩:=hf;exact⟨ad,H',J.unwithin,q⟩
 | cont=>obtain⟨ad,H',J,q⟩:=hf;exact⟨ad,H',J.unwithin,q⟩
 | ret u=>obtain⟨v,ad,H',J,r,q⟩:=hf;exact⟨v,ad,H',J.unwithin,r,q⟩
end
end L2
namespace Tw
open PySem L2
theorem y9 (vs:List Vs) (j:Nat) (v:Vs) (h:vs[j]? = some v):cB vs (some j)=vs.take j++[{ v with size:=v.brim+1 }]++vs.drop (j+1):=by
 have hj:=(aai.mp h).1;have e:cB vs (some j)=vs.set j { v with size:=v.brim+1 }:=by
  apply List.ext_getElem?;intro i
  by_cases e:i=j
  ·subst e;rw[nQ (some i) h,acr hj];unfold cL;rw[if_pos rfl]
  ·rw[acw (λ z=>e z.symm)];unfold cB;rw[List.getElem?_mapIdx];cases vs[i]? with
   | none=>rfl
   | some w=>
    show some (cL (some j) i w)=some w;unfold cL;rw[if_neg (λ z=>e (by injection z with z;exact z.symm))]
 rw[e,List.set_eq_take_append_cons_drop,if_pos hj,abw];rfl
theorem nP {net:Net} (nok:NetOk net) (nfu:NetFull net) (fo:Option Nat):NetOk (aW net fo) where
 lo:=by show 1<=(cB net.vs fo).length;rw[cT];exact nok.lo
 hi:=by show (cB net.vs fo).length<=12;rw[cT];exact nok.hi
 sp:=nok.sp
 vs:=λ v hv=>by
  show VOk (cB net.vs fo).length net.sps.length v;rw[cT];obtain⟨i,hi,rfl⟩:=List.mem_iff_getElem.1 (show v∈cB net.vs fo from hv);have hil:i < net.vs.length:=by rw[cT] at hi;exact hi
  have h1:net.vs[i]? = some net.vs[i]:=by simp [hil]
  have h2:=nQ fo h1;have h3:(cB net.vs fo)[i]=cL fo i net.vs[i]:=by
   have:(cB net.vs fo)[i]? = some (cB net.vs fo)[i]:=by simp [hi]
   rw[this] at h2;exact abu h2
  rw[h3];have vok:=nok.vs _ (ach hil);have vfu:=nfu.vs i _ h1;unfold cL
  split
  ·exact { size:=by show 1<=net.vs[i].brim+1;have:=vok.size;have:=vfu.br;omega,ne:=vok.ne,o3:=vok.o3,outs:=vok.outs,spill:=vok.spill,a3:=vok.a3,acts:=vok.acts }
  ·exact vok
 sps:=λ s hs=>by
  show 0<=s.1/\s.1 < ((cB net.vs fo).length:Nat);rw[cT];exact nok.sps s hs
theorem uQ (net:Net) (fo:Option Nat):A3 (aW net fo)=A3 net:=by
 unfold A3;show (⟨d7 (cB net.vs fo).length,d7 (cB net.vs fo).length,_⟩:Sta)=_;rw[cT];rfl
theorem sP (net:Net) (fo:Option Nat):d7 (aW net fo).vs.length=d7 net.vs.length:=by
 show d7 (cB net.vs fo).length=_;rw[cT]
theorem uP {net:Net}{fo:Option Nat}{h c:List Int}{d:List Bool} (s:StOk (aW net fo) h c d):StOk net h c d:=
 ⟨by have:=s.h;rw[show (aW net fo).vs.length=net.vs.length from cT _ _] at this;exact this,by have:=s.c;rw[show (aW net fo).vs.length=net.vs.length from cT _ _] at this;exact this,s.d⟩
theorem x8 (k:Nat):∀ l:List Nat,HG (.int (k:Int)) (l.map λ (i:Nat)=>V.int (i:Int))=decide (k∈l)
 | []=>rfl
 | x::l=>by
  show (yZ (.int (x:Int)) (.int (k:Int)) || HG (.int (k:Int)) (l.map λ (i:Nat)=>V.int (i:Int)))=_;rw[x8 k l];show (((x:Int) == (k:Int)) || decide (k∈l))=decide (k∈x::l)
  by_cases h:k=x
  ·subst h;simp
  ·have h1:((x:Int) == (k:Int))=false:=by simp;omega
   have h2:decide (k∈x::l)=decide (k∈l):=by simp [h]
   rw[h1,h2,Bool.false_or]
theorem BX (l:List Nat):(l.map λ (i:Nat)=>V.int (i:Int)).all gK=true:=by
 rw[ace];intro z hz;obtain⟨i,_,rfl⟩:=acq.1 hz;rfl
theorem FL {K:aab}{H:Hp}{l:List Nat}{v:V} (h:Is K H (.tup (l.map λ (i:Nat)=>L2.D.int (i:Int))) v):∃ a,v=.ref a/\bM K H a (l.map λ (i:Nat)=>V.int (i:Int)):=by
 obtain⟨a,xs,rfl,q,l'⟩:=h.un;have e1:(l.map λ (i:Nat)=>L2.D.int (i:Int))=(l.map λ (i:Nat)=>(i:Int)).map L2.D.int:=by rw[acd];rfl
 rw[e1] at l';have:=l'.ints;subst this;rw[acd] at q;exact⟨a,rfl,q⟩
end Tw
namespace L2
open PySem PySem.Spec PyProof.Rows TwZ
inductive G where
 | non
 | bl (b:Bool)
 | int (i:Int)
 | str (z:Str)
 | tup (gs:List G)
 | lst (gs:List G)
mutual
def aQ (K:aab) (H:Hp):G->V->Prop
 | .non,v=>v=.non
 | .bl b,v=>v=.bl b
 | .int i,v=>v=.int i
 | .str z,v=>v=.str z
 | .tup gs,v=>∃ a xs,v=.ref a/\bM K H a xs/\cX K H gs xs
 | .lst gs,v=>∃ a xs,v=.ref a/\bN K H a xs/\cX K H gs xs
def cX (K:aab) (H:Hp):List G->List V->Prop
 | [],vs=>vs=[]
 | g::gs,vs=>∃ v r,vs=v::r/\aQ K H g v/\cX K H gs r
end
mutual
def aY:G->G->Bool
 | .non,.non=>true
 | .bl a,.bl b=>a == b
 | .bl a,.int b=>(if a then 1 else 0) == b
 | .int a,.bl b=>a == (if b then 1 else 0)
 | .int a,.int b=>a == b
 | .str a,.str b=>a == b
 | .tup a,.tup b=>eD a b
 | .lst a,.lst b=>eD a b
 | _,_=>false
def eD:List G->List G->Bool
 | [],[]=>true
 | a::as,b::bs=>aY a b && eD as bs
 | _,_=>false
end
mutual
def gL:G->Nat
 | .tup gs=>iT gs+1
 | .lst gs=>iT gs+1
 | _=>0
def iT:List G->Nat
 | []=>0
 | g::gs=>max (gL g) (iT gs)
end
mutual
theorem iS:∀ g:G,aY g g=true
 | .non=>by rw[aY]
 | .bl b=>by rw[aY];simp
 | .int i=>by rw[aY];simp
 | .str z=>by rw[aY];simp
 | .tup gs=>by rw[aY];exact lV gs
 | .lst gs=>by rw[aY];exact lV gs
theorem lV:∀ gs:List G,eD gs gs=true
 | []=>by rw[eD]
 | g::gs=>by rw[eD,iS g,lV gs];rfl
end
theorem cX.length {K:aab}{H:Hp}:∀ {gs:List G}{xs:List V},cX K H gs xs->xs.length=gs.length
 | [],_,h=>by rw[cX] at h;subst h;rfl
 | g::gs,_,h=>by rw[cX] at h;obtain⟨v,r,rfl,_,h⟩:=h;rw[abk,abk,cX.length h]
theorem cX.get {K:aab}{H:Hp}:∀ {gs:List G}{xs:List V}{i:Nat}{g:G},cX K H gs xs->gs[i]? = some g->∃ x,xs[i]? = some x/\aQ K H g x
 | [],_,_,_,_,e=>by simp at e
 | g::gs,_,0,g',h,e=>by rw[cX] at h;obtain⟨v,r,rfl,h1,_⟩:=h;simp at e;subst e;exact⟨v,by simp,h1⟩
 | g::gs,_,i+1,g',h,e=>by
  rw[cX] at h;obtain⟨v,r,rfl,_,h⟩:=h;obtain⟨x,h1,h2⟩:=cX.get h (i:=i) (by simpa using e);exact⟨x,by simpa using h1,h2⟩
theorem eJ {g:G}:∀ {gs:List G},g∈gs->gL g<=iT gs
 | [],h=>by cases h
 | a::gs,h=>by
  rw[iT];rcases aax.1 h with rfl | h
  ·omega
  ·have:=eJ h;omega
def J4 (gs hs:List G) (j:Nat):Bool:=match gs[j]?,hs[j]? with
 | some g,some h=>aY g h
 | _,_=>true
theorem iK (n:Nat) (e:Nat->Bool):(List.range (n+1)).all e=(e 0 && (List.range n).all λ j=>e (j+1)):=by
 rw[List.range_succ_eq_map,List.all_cons,List.all_map];rfl
theorem n8:∀ (gs hs:List G),gs.length=hs.length->(List.range gs.length).all (J4 gs hs)=eD gs hs
 | [],[],_=>by rw[eD];rfl
 | [],_::_,h=>by simp at h
 | _::_,[],h=>by simp at h
 | g::gs,h::hs,hl=>by
  rw[abk,iK,eD,<- n8 gs hs (by simpa using hl)];congr 1
theorem lG:∀ (gs hs:List G),((List.range (min gs.length hs.length)).all (J4 gs hs) && gs.length == hs.length)=eD gs hs
 | [],[]=>by rw[eD];rfl
 | [],_::_=>by simp [eD]
 | _::_,[]=>by simp [eD]
 | g::gs,h::hs=>by
  have e1:min (g::gs).length (h::hs).length=min gs.length hs.length+1:=by rw[abk,abk];omega
  have e2:((g::gs).length == (h::hs).length)=(gs.length == hs.length):=by simp
  rw[e1,e2,iK,eD,<- lG gs hs,Bool.and_assoc];congr 1
theorem lE:∀ (gs hs:List G),gs.length≠hs.length->eD gs hs=false
 | [],[],h=>absurd rfl h
 | [],_::_,_=>by simp [eD]
 | _::_,[],_=>by simp [eD]
 | g::gs,h::hs,hl=>by rw[eD,lE gs hs (by simpa using hl),Bool.and_false]
theorem rN {h:Heap}{a:Addr}{xs ys:Array Value} (h1:h.IsTuple a xs) (h2:h.IsTuple a ys):xs=ys:=by
 obtain⟨o,e,_,n,d⟩:=h1;obtain⟨o',e',_,n',d'⟩:=h2;rw[e] at e';cases e';rw[d] at d';injection d'
theorem tQ {h:Heap}{a:Addr}{xs ys:Array Value} (h1:h.IsList a xs) (h2:h.IsList a ys):xs=ys:=by
 obtain⟨o,e,_,n,d⟩:=h1;obtain⟨o',e',_,n',d'⟩:=h2;rw[e] at e';cases e';rw[d] at d';injection d'
section
variable {X:Cx}{pins:List (Addr×Obj)}{σ:St}{H:Hp}{s:Shared}
mutual
theorem zV (I:Inv X pins σ H s):∀ (g h:G) (x y:V) (u:Value),aQ X.K H g x->aQ X.K H h y->bG x u->bG y u->g=h
 | .non,h,x,y,u,hx,hy,rx,ry=>by
  rw[aQ] at hx;subst hx;cases rx;cases h <;> rw[aQ] at hy
  ·subst hy;cases ry
  ·subst hy;obtain⟨_,e⟩:=ry;cases e
  ·subst hy;obtain⟨_,e⟩:=ry;cases e
  ·obtain⟨_,_,rfl,_⟩:=hy;cases ry
  ·obtain⟨_,_,rfl,_⟩:=hy;cases ry
 | .bl b,h,x,y,u,hx,hy,rx,ry=>by
  rw[aQ] at hx;subst hx;cases rx;cases h <;> rw[aQ] at hy
  ·subst hy;cases ry
  ·subst hy;injection ry with e;rw[e]
  ·subst hy;obtain⟨_,e⟩:=ry;cases e
  ·subst hy;obtain⟨_,e⟩:=ry;cases e
  ·obtain⟨_,_,rfl,_⟩:=hy;cases ry
  ·obtain⟨_,_,rfl,_⟩:=hy;cases ry
 | .int b,h,x,y,u,hx,hy,rx,ry=>by
  rw[aQ] at hx;subst hx;obtain⟨t,rfl⟩:=rx;cases h <;> rw[aQ] at hy
  ·subst hy;cases ry
  ·subst hy;cases ry
  ·subst hy;obtain⟨_,e⟩:=ry;injection e with e;rw[e]
  ·subst hy;obtain⟨_,e⟩:=ry;cases e
  ·obtain⟨_,_,rfl,_⟩:=hy;cases ry
  ·obtain⟨_,_,rfl,_⟩:=hy;cases ry
 | .str b,h,x,y,u,hx,hy,rx,ry=>by
  rw[aQ] at hx;subst hx;obtain⟨t,rfl⟩:=rx;cases h <;> rw[aQ] at hy
  ·subst hy;cases ry
  ·subst hy;cases ry
  ·subst hy;obtain⟨_,e⟩:=ry;cases e
  ·subst hy;obtain⟨_,e⟩:=ry;injection e with e;rw[e]
  ·obtain⟨_,_,rfl,_⟩:=hy;cases ry
  ·obtain⟨_,_,rfl,_⟩:=hy;cases ry
 | .tup gs,h,x,y,u,hx,hy,rx,ry=>by
  rw[aQ] at hx;obtain⟨a,xs,rfl,q1,l1⟩:=hx;cases rx;cases h <;> rw[aQ] at hy
  ·subst hy;cases ry
  ·subst hy;cases ry
  ·subst hy;obtain⟨_,e⟩:=ry;cases e
  ·subst hy;obtain⟨_,e⟩:=ry;cases e
  ·obtain⟨b,ys,rfl,q2,l2⟩:=hy;cases ry;obtain⟨us,r1,p1,_⟩:=I.tuple q1;obtain⟨vs,r2,p2,_⟩:=I.tuple q2;have e:=rN p1 p2;have e':us=vs:=by simpa using e
   subst e';rw[uH I gs _ xs ys us l1 l2 r1 r2]
  ·obtain⟨b,ys,rfl,q2,l2⟩:=hy;cases ry;obtain⟨us,r1,p1,_⟩:=I.tuple q1;obtain⟨vs,r2,p2,_⟩:=I.list q2;exact absurd rfl (SeqAt.ne_of_list_tuple p2.isList p1)
 | .lst gs,h,x,y,u,hx,hy,rx,ry=>by
  rw[aQ] at hx;obtain⟨a,xs,rfl,q1,l1⟩:=hx;cases rx;cases h <;> rw[aQ] at hy
  ·subst hy;cases ry
  ·subst hy;cases ry
  ·subst hy;obtain⟨_,e⟩:=ry;cases e
  ·subst hy;obtain⟨_,e⟩:=ry;cases e
  ·obtain⟨b,ys,rfl,q2,l2⟩:=hy;cases ry;obtain⟨us,r1,p1,_⟩:=I.list q1;obtain⟨vs,r2,p2,_⟩:=I.tuple q2;exact absurd rfl (SeqAt.ne_of_list_tuple p1.isList p2)
  ·obtain⟨b,ys,rfl,q2,l2⟩:=hy;cases ry;obtain⟨us,r1,p1,_⟩:=I.list q1;obtain⟨vs,r2,p2,_⟩:=I.list q2;have e:=tQ p1.isList p2.isList;have e':us=vs:=by simpa using e
   subst e';rw[uH I gs _ xs ys us l1 l2 r1 r2]
theorem uH (I:Inv X pins σ H s):∀ (gs hs:List G) (xs ys:List V) (us:List Value),cX X.K H gs xs->cX X.K H hs ys->bI xs us->bI ys us->gs=hs
 | [],hs,xs,ys,us,h1,h2,r1,r2=>by
  rw[cX] at h1;subst h1;cases r1;cases r2;cases hs with
  | nil=>rfl
  | cons h hs=>rw[cX] at h2;obtain⟨_,_,e,_⟩:=h2;cases e
 | g::gs,hs,xs,ys,us,h1,h2,r1,r2=>by
  rw[cX] at h1;obtain⟨x,r,rfl,i1,l1⟩:=h1;cases r1 with
  | cons ra rb=>
   cases hs with
   | nil=>rw[cX] at h2;subst h2;cases r2
   | cons h hs=>
    rw[cX] at h2;obtain⟨y,r',rfl,i2,l2⟩:=h2;cases r2 with
    | cons ra' rb'=>rw[zV I g h _ _ _ i1 i2 ra ra',uH I gs hs _ _ _ l1 l2 rb rb']
end
theorem xF {us:List Value}{j:Nat}{w:Value} (h1:j < us.toArray.size) (h:us[j]? = some w):us.toArray[j]=w:=by
 have:us[j]? = some us.toArray[j]:=by simp
 rw[this] at h;exact abu h
theorem j8 {n:Nat}{gs hs:List G}{xs ys:List V}{us vs:List Value}{A:Around}
  (ih:∀ (g h:G) (x y:V) (u v:Value),g∈gs->aQ X.K H g x->aQ X.K H h y->bG x u->bG y v->SeqAt.EqAt A s u v (aY g h))
  (l1:cX X.K H gs xs) (l2:cX X.K H hs ys) (r1:bI xs us) (r2:bI ys vs) (j:Nat) (h1:j < us.toArray.size) (h2:j < vs.toArray.size):SeqAt.EqAt A s us.toArray[j] vs.toArray[j] (J4 gs hs j):=by
 have e1:=r1.length;have e2:=r2.length;have e3:=l1.length;have e4:=l2.length;have j1:j < gs.length:=by rw[<- e3,e1];simpa using h1
 have j2:j < hs.length:=by rw[<- e4,e2];simpa using h2
 obtain⟨x,gx,ix⟩:=l1.get (i:=j) (g:=gs[j]) (by simp);obtain⟨y,gy,iy⟩:=l2.get (i:=j) (g:=hs[j]) (by simp);obtain⟨w1,g1,t1⟩:=r1.get gx;obtain⟨w2,g2,t2⟩:=r2.get gy;rw[xF h1 g1,xF h2 g2];have:J4 gs hs j=aY gs[j] hs[j]:=by unfold J4;simp [j1,j2]
 rw[this];exact ih _ _ x y w1 w2 (ach j1) ix iy t1 t2
theorem qC (I:Inv X pins σ H s):∀ (n:Nat) (g h:G) (A:Around) (x y:V) (u v:Value),gL g<=n->A.units+n < cLine->aQ X.K H g x->aQ X.K H h y->bG x u->bG y v->SeqAt.EqAt A s u v (aY g h)
 | n,.non,.non,A,x,y,u,v,hd,hu,hx,hy,rx,ry=>by
  rw[aQ] at hx;subst hx;cases rx;rw[aQ] at hy;subst hy;cases ry;rw[aY];exact SeqAt.EqAt.same _
 | n,.non,.bl gy,A,x,y,u,v,hd,hu,hx,hy,rx,ry=>by
  rw[aQ] at hx;subst hx;cases rx;rw[aQ] at hy;subst hy;cases ry;rw[show aY (.non) (.bl gy)=false from by simp [aY]];exact SeqAt.EqAt.none_bool gy
 | n,.non,.int gy,A,x,y,u,v,hd,hu,hx,hy,rx,ry=>by
  rw[aQ] at hx;subst hx;cases rx;rw[aQ] at hy;subst hy;obtain⟨ty,rfl⟩:=ry;rw[show aY (.non) (.int gy)=false from by simp [aY]];exact SeqAt.EqAt.none_int gy ty
 | n,.non,.str gy,A,x,y,u,v,hd,hu,hx,hy,rx,ry=>by
  rw[aQ] at hx;subst hx;cases rx;rw[aQ] at hy;subst hy;obtain⟨ty,rfl⟩:=ry;rw[show aY (.non) (.str gy)=false from by simp [aY]];exact SeqAt.EqAt.none_str gy ty
 | n,.non,.tup gy,A,x,y,u,v,hd,hu,hx,hy,rx,ry=>by
  rw[aQ] at hx;subst hx;cases rx;rw[aQ] at hy;obtain⟨ay,xsy,rfl,qy,ly⟩:=hy;cases ry;obtain⟨usy,vy,py,_⟩:=I.tuple qy;rw[show aY (.non) (.tup gy)=false from by simp [aY]];exact SeqAt.EqAt.none_tuple py (by omega)
 | n,.non,.lst gy,A,x,y,u,v,hd,hu,hx,hy,rx,ry=>by
  rw[aQ] at hx;subst hx;cases rx;rw[aQ] at hy;obtain⟨ay,xsy,rfl,qy,ly⟩:=hy;cases ry;obtain⟨usy,vy,py,_⟩:=I.list qy;rw[show aY (.non) (.lst gy)=false from by simp [aY]];exact SeqAt.EqAt.none_list py.isList (by omega)
 | n,.bl gx,.non,A,x,y,u,v,hd,hu,hx,hy,rx,ry=>by
  rw[aQ] at hx;subst hx;cases rx;rw[aQ] at hy;subst hy;cases ry;rw[show aY (.bl gx) (.non)=false from by simp [aY]];exact SeqAt.EqAt.bool_none gx
 | n,.bl gx,.bl gy,A,x,y,u,v,hd,hu,hx,hy,rx,ry=>by
  rw[aQ] at hx;subst hx;cases rx;rw[aQ] at hy;subst hy;cases ry;rw[aY];exact SeqAt.EqAt.bool_bool gx gy
 | n,.bl gx,.int gy,A,x,y,u,v,hd,hu,hx,hy,rx,ry=>by
  rw[aQ] at hx;subst hx;cases rx;rw[aQ] at hy;subst hy;obtain⟨ty,rfl⟩:=ry;rw[aY];exact SeqAt.EqAt.bool_int gx gy ty
 | n,.bl gx,.str gy,A,x,y,u,v,hd,hu,hx,hy,rx,ry=>by
  rw[aQ] at hx;subst hx;cases rx;rw[aQ] at hy;subst hy;obtain⟨ty,rfl⟩:=ry;rw[show aY (.bl gx) (.str gy)=false from by simp [aY]];exact SeqAt.EqAt.bool_str gx gy ty
 | n,.bl gx,.tup gy,A,x,y,u,v,hd,hu,hx,hy,rx,ry=>by
  rw[aQ] at hx;subst hx;cases rx;rw[aQ] at hy;obtain⟨ay,xsy,rfl,qy,ly⟩:=hy;cases ry;obtain⟨usy,vy,py,_⟩:=I.tuple qy;rw[show aY (.bl gx) (.tup gy)=false from by simp [aY]];exact SeqAt.EqAt.bool_tuple gx py (by omega)
 | n,.bl gx,.lst gy,A,x,y,u,v,hd,hu,hx,hy,rx,ry=>by
  rw[aQ] at hx;subst hx;cases rx;rw[aQ] at hy;obtain⟨ay,xsy,rfl,qy,ly⟩:=hy;cases ry;obtain⟨usy,vy,py,_⟩:=I.list qy;rw[show aY (.bl gx) (.lst gy)=false from by simp [aY]];exact SeqAt.EqAt.bool_list gx py.isList (by omega)
 | n,.int gx,.non,A,x,y,u,v,hd,hu,hx,hy,rx,ry=>by
  rw[aQ] at hx;subst hx;obtain⟨tx,rfl⟩:=rx;rw[aQ] at hy;subst hy;cases ry;rw[show aY (.int gx) (.non)=false from by simp [aY]];exact SeqAt.EqAt.int_none gx tx
 | n,.int gx,.bl gy,A,x,y,u,v,hd,hu,hx,hy,rx,ry=>by
  rw[aQ] at hx;subst hx;obtain⟨tx,rfl⟩:=rx;rw[aQ] at hy;subst hy;cases ry;rw[aY];exact SeqAt.EqAt.int_bool gx tx gy
 | n,.int gx,.int gy,A,x,y,u,v,hd,hu,hx,hy,rx,ry=>by
  rw[aQ] at hx;subst hx;obtain⟨tx,rfl⟩:=rx;rw[aQ] at hy;subst hy;obtain⟨ty,rfl⟩:=ry;rw[aY];exact SeqAt.EqAt.int_int gx tx gy ty
 | n,.int gx,.str gy,A,x,y,u,v,hd,hu,hx,hy,rx,ry=>by
  rw[aQ] at hx;subst hx;obtain⟨tx,rfl⟩:=rx;rw[aQ] at hy;subst hy;obtain⟨ty,rfl⟩:=ry;rw[show aY (.int gx) (.str gy)=false from by simp [aY]];exact SeqAt.EqAt.int_str gx tx gy ty
 | n,.int gx,.tup gy,A,x,y,u,v,hd,hu,hx,hy,rx,ry=>by
  rw[aQ] at hx;subst hx;obtain⟨tx,rfl⟩:=rx;rw[aQ] at hy;obtain⟨ay,xsy,rfl,qy,ly⟩:=hy;cases ry;obtain⟨usy,vy,py,_⟩:=I.tuple qy;rw[show aY (.int gx) (.tup gy)=false from by simp [aY]];exact SeqAt.EqAt.int_tuple gx tx py (by omega)
 | n,.int gx,.lst gy,A,x,y,u,v,hd,hu,hx,hy,rx,ry=>by
  rw[aQ] at hx;subst hx;obtain⟨tx,rfl⟩:=rx;rw[aQ] at hy;obtain⟨ay,xsy,rfl,qy,ly⟩:=hy;cases ry;obtain⟨usy,vy,py,_⟩:=I.list qy;rw[show aY (.int gx) (.lst gy)=false from by simp [aY]];exact SeqAt.EqAt.int_list gx tx py.isList (by omega)
 | n,.str gx,.non,A,x,y,u,v,hd,hu,hx,hy,rx,ry=>by
  rw[aQ] at hx;subst hx;obtain⟨tx,rfl⟩:=rx;rw[aQ] at hy;subst hy;cases ry;rw[show aY (.str gx) (.non)=false from by simp [aY]];exact SeqAt.EqAt.str_none gx tx
 | n,.str gx,.bl gy,A,x,y,u,v,hd,hu,hx,hy,rx,ry=>by
  rw[aQ] at hx;subst hx;obtain⟨tx,rfl⟩:=rx;rw[aQ] at hy;subst hy;cases ry;rw[show aY (.str gx) (.bl gy)=false from by simp [aY]];exact SeqAt.EqAt.str_bool gx tx gy
 | n,.str gx,.int gy,A,x,y,u,v,hd,hu,hx,hy,rx,ry=>by
  rw[aQ] at hx;subst hx;obtain⟨tx,rfl⟩:=rx;rw[aQ] at hy;subst hy;obtain⟨ty,rfl⟩:=ry;rw[show aY (.str gx) (.int gy)=false from by simp [aY]];exact SeqAt.EqAt.str_int gx tx gy ty
 | n,.str gx,.str gy,A,x,y,u,v,hd,hu,hx,hy,rx,ry=>by
  rw[aQ] at hx;subst hx;obtain⟨tx,rfl⟩:=rx;rw[aQ] at hy;subst hy;obtain⟨ty,rfl⟩:=ry;rw[aY];exact SeqAt.EqAt.str_str gx tx gy ty
 | n,.str gx,.tup gy,A,x,y,u,v,hd,hu,hx,hy,rx,ry=>by
  rw[aQ] at hx;subst hx;obtain⟨tx,rfl⟩:=rx;rw[aQ] at hy;obtain⟨ay,xsy,rfl,qy,ly⟩:=hy;cases ry;obtain⟨usy,vy,py,_⟩:=I.tuple qy;rw[show aY (.str gx) (.tup gy)=false from by simp [aY]];exact SeqAt.EqAt.str_tuple gx tx py (by omega)
 | n,.str gx,.lst gy,A,x,y,u,v,hd,hu,hx,hy,rx,ry=>by
  rw[aQ] at hx;subst hx;obtain⟨tx,rfl⟩:=rx;rw[aQ] at hy;obtain⟨ay,xsy,rfl,qy,ly⟩:=hy;cases ry;obtain⟨usy,vy,py,_⟩:=I.list qy;rw[show aY (.str gx) (.lst gy)=false from by simp [aY]];exact SeqAt.EqAt.str_list gx tx py.isList (by omega)
 | n,.tup gx,.non,A,x,y,u,v,hd,hu,hx,hy,rx,ry=>by
  rw[aQ] at hx;obtain⟨ax,xsx,rfl,qx,lx⟩:=hx;cases rx;obtain⟨usx,vx,px,_⟩:=I.tuple qx;rw[aQ] at hy;subst hy;cases ry;rw[show aY (.tup gx) (.non)=false from by simp [aY]];exact SeqAt.EqAt.tuple_none px (by omega)
 | n,.tup gx,.bl gy,A,x,y,u,v,hd,hu,hx,hy,rx,ry=>by
  rw[aQ] at hx;obtain⟨ax,xsx,rfl,qx,lx⟩:=hx;cases rx;obtain⟨usx,vx,px,_⟩:=I.tuple qx;rw[aQ] at hy;subst hy;cases ry;rw[show aY (.tup gx) (.bl gy)=false from by simp [aY]];exact SeqAt.EqAt.tuple_bool gy px (by omega)
 | n,.tup gx,.int gy,A,x,y,u,v,hd,hu,hx,hy,rx,ry=>by
  rw[aQ] at hx;obtain⟨ax,xsx,rfl,qx,lx⟩:=hx;cases rx;obtain⟨usx,vx,px,_⟩:=I.tuple qx;rw[aQ] at hy;subst hy;obtain⟨ty,rfl⟩:=ry;rw[show aY (.tup gx) (.int gy)=false from by simp [aY]];exact SeqAt.EqAt.tuple_int gy ty px (by omega)
 | n,.tup gx,.str gy,A,x,y,u,v,hd,hu,hx,hy,rx,ry=>by
  rw[aQ] at hx;obtain⟨ax,xsx,rfl,qx,lx⟩:=hx;cases rx;obtain⟨usx,vx,px,_⟩:=I.tuple qx;rw[aQ] at hy;subst hy;obtain⟨ty,rfl⟩:=ry;rw[show aY (.tup gx) (.str gy)=false from by simp [aY]];exact SeqAt.EqAt.tuple_str gy ty px (by omega)
 | 0,.tup gx,.tup gy,A,x,y,u,v,hd,_,_,_,_,_=>by rw[gL] at hd;omega
 | n+1,.tup gx,.tup gy,A,x,y,u,v,hd,hu,hx,hy,rx,ry=>by
  rw[aQ] at hx;obtain⟨ax,xsx,rfl,qx,lx⟩:=hx;cases rx;obtain⟨usx,vx,px,_⟩:=I.tuple qx;rw[aQ] at hy;obtain⟨ay,xsy,rfl,qy,ly⟩:=hy;cases ry;obtain⟨usy,vy,py,_⟩:=I.tuple qy
  by_cases hab:ax=ay
  ·subst hab;have e:=zV I (.tup gx) (.tup gy) (.ref ax) (.ref ax) _ (by rw[aQ];exact⟨_,_,rfl,qx,lx⟩) (by rw[aQ];exact⟨_,_,rfl,qy,ly⟩) rfl rfl;rw[e,iS];exact SeqAt.EqAt.same _
  have e1:=vx.length;have e2:=vy.length;have e3:=lx.length;have e4:=ly.length;rw[show aY (.tup gx) (.tup gy)=eD gx gy from by rw[aY],<- lG gx gy];have ex:gx.length=usx.toArray.size:=by rw[<- e3,e1,aah]
  have ey:gy.length=usy.toArray.size:=by rw[<- e4,e2,aah]
  rw[ex,ey];refine SeqAt.EqAt.of_refs hab ?_;exact SeqAt.RcAt.tuples px py (by omega) (λ j h1 h2=>j8 (n:=0) (λ g h x y u v hm ix iy tx ty=>qC I n g h A.in1 x y u v (by have:=eJ hm;rw[gL] at hd;omega) (by show A.units+1+n < cLine;omega) ix iy tx ty) lx ly vx vy j h1 h2)
 | n,.tup gx,.lst gy,A,x,y,u,v,hd,hu,hx,hy,rx,ry=>by
  rw[aQ] at hx;obtain⟨ax,xsx,rfl,qx,lx⟩:=hx;cases rx;obtain⟨usx,vx,px,_⟩:=I.tuple qx;rw[aQ] at hy;obtain⟨ay,xsy,rfl,qy,ly⟩:=hy;cases ry;obtain⟨usy,vy,py,_⟩:=I.list qy;rw[show aY (.tup gx) (.lst gy)=false from by simp [aY]];exact SeqAt.EqAt.tuple_list px py.isList (by omega)
 | n,.lst gx,.non,A,x,y,u,v,hd,hu,hx,hy,rx,ry=>by
  rw[aQ] at hx;obtain⟨ax,xsx,rfl,qx,lx⟩:=hx;cases rx;obtain⟨usx,vx,px,_⟩:=I.list qx;rw[aQ] at hy;subst hy;cases ry;rw[show aY (.lst gx) (.non)=false from by simp [aY]];exact SeqAt.EqAt.list_none px.isList (by omega)
 | n,.lst gx,.bl gy,A,x,y,u,v,hd,hu,hx,hy,rx,ry=>by
  rw[aQ] at hx;obtain⟨ax,xsx,rfl,qx,lx⟩:=hx;cases rx;obtain⟨usx,vx,px,_⟩:=I.list qx;rw[aQ] at hy;subst hy;cases ry;rw[show aY (.lst gx) (.bl gy)=false from by simp [aY]];exact SeqAt.EqAt.list_bool gy px.isList (by omega)
 | n,.lst gx,.int gy,A,x,y,u,v,hd,hu,hx,hy,rx,ry=>by
  rw[aQ] at hx;obtain⟨ax,xsx,rfl,qx,lx⟩:=hx;cases rx;obtain⟨usx,vx,px,_⟩:=I.list qx;rw[aQ] at hy;subst hy;obtain⟨ty,rfl⟩:=ry;rw[show aY (.lst gx) (.int gy)=false from by simp [aY]];exact SeqAt.EqAt.list_int gy ty px.isList (by omega)
 | n,.lst gx,.str gy,A,x,y,u,v,hd,hu,hx,hy,rx,ry=>by
  rw[aQ] at hx;obtain⟨ax,xsx,rfl,qx,lx⟩:=hx;cases rx;obtain⟨usx,vx,px,_⟩:=I.list qx;rw[aQ] at hy;subst hy;obtain⟨ty,rfl⟩:=ry;rw[show aY (.lst gx) (.str gy)=false from by simp [aY]];exact SeqAt.EqAt.list_str gy ty px.isList (by omega)
 | n,.lst gx,.tup gy,A,x,y,u,v,hd,hu,hx,hy,rx,ry=>by
  rw[aQ] at hx;obtain⟨ax,xsx,rfl,qx,lx⟩:=hx;cases rx;obtain⟨usx,vx,px,_⟩:=I.list qx;rw[aQ] at hy;obtain⟨ay,xsy,rfl,qy,ly⟩:=hy;cases ry;obtain⟨usy,vy,py,_⟩:=I.tuple qy;rw[show aY (.lst gx) (.tup gy)=false from by simp [aY]];exact SeqAt.EqAt.list_tuple px.isList py (by omega)
 | 0,.lst gx,.lst gy,A,x,y,u,v,hd,_,_,_,_,_=>by rw[gL] at hd;omega
 | n+1,.lst gx,.lst gy,A,x,y,u,v,hd,hu,hx,hy,rx,ry=>by
  rw[aQ] at hx;obtain⟨ax,xsx,rfl,qx,lx⟩:=hx;cases rx;obtain⟨usx,vx,px,_⟩:=I.list qx;rw[aQ] at hy;obtain⟨ay,xsy,rfl,qy,ly⟩:=hy;cases ry;obtain⟨usy,vy,py,_⟩:=I.list qy
  by_cases hab:ax=ay
  ·subst hab;have e:=zV I (.lst gx) (.lst gy) (.ref ax) (.ref ax) _ (by rw[aQ];exact⟨_,_,rfl,qx,lx⟩) (by rw[aQ];exact⟨_,_,rfl,qy,ly⟩) rfl rfl;rw[e,iS];exact SeqAt.EqAt.same _
  have e1:=vx.length;have e2:=vy.length;have e3:=lx.length;have e4:=ly.length;rw[show aY (.lst gx) (.lst gy)=eD gx gy from by rw[aY]];have ex:gx.length=usx.toArray.size:=by rw[<- e3,e1,aah]
  have ey:gy.length=usy.toArray.size:=by rw[<- e4,e2,aah]
  by_cases hl:gx.length=gy.length
  ·rw[<- n8 gx gy hl,ex];refine SeqAt.EqAt.of_refs hab ?_;exact SeqAt.RcAt.lists px.isList py.isList (by omega) (by omega) (λ j h1 h2=>j8 (n:=0) (λ g h x y u v hm ix iy tx ty=>qC I n g h A.in1 x y u v (by have:=eJ hm;rw[gL] at hd;omega) (by show A.units+1+n < cLine;omega) ix iy tx ty) lx ly vx vy j h1 h2)
  ·rw[lE gx gy hl];refine SeqAt.EqAt.of_refs hab ?_;exact SeqAt.RcAt.lists_lengths px.isList py.isList (by rw[<- ex,<- ey];simpa using hl) (by omega)
theorem rcG (I:Inv X pins σ H s) {A:Around} (hu:A.units+40 < cLine):∀ (g h:G) (x y:V) (u v:Value),gL g<=30->aQ X.K H g x->aQ X.K H h y->bG x u->bG y v->SeqAt.RcAt A s u v (aY g h)
 | .non,.non,x,y,u,v,hd,hx,hy,rx,ry=>by
  rw[aQ] at hx;subst hx;cases rx;rw[aQ] at hy;subst hy;cases ry;rw[aY];exact SeqAt.RcAt.none_none
 | .non,.bl gy,x,y,u,v,hd,hx,hy,rx,ry=>by
  rw[aQ] at hx;subst hx;cases rx;rw[aQ] at hy;subst hy;cases ry;rw[show aY (.non) (.bl gy)=false from by simp [aY]];exact SeqAt.RcAt.none_bool gy
 | .non,.int gy,x,y,u,v,hd,hx,hy,rx,ry=>by
  rw[aQ] at hx;subst hx;cases rx;rw[aQ] at hy;subst hy;obtain⟨ty,rfl⟩:=ry;rw[show aY (.non) (.int gy)=false from by simp [aY]];exact SeqAt.RcAt.none_int gy ty
 | .non,.str gy,x,y,u,v,hd,hx,hy,rx,ry=>by
  rw[aQ] at hx;subst hx;cases rx;rw[aQ] at hy;subst hy;obtain⟨ty,rfl⟩:=ry;rw[show aY (.non) (.str gy)=false from by simp [aY]];exact SeqAt.RcAt.none_str gy ty
 | .non,.tup gy,x,y,u,v,hd,hx,hy,rx,ry=>by
  rw[aQ] at hx;subst hx;cases rx;rw[aQ] at hy;obtain⟨ay,xsy,rfl,qy,ly⟩:=hy;cases ry;obtain⟨usy,vy,py,_⟩:=I.tuple qy;rw[show aY (.non) (.tup gy)=false from by simp [aY]];exact SeqAt.RcAt.none_tuple py (by omega)
 | .non,.lst gy,x,y,u,v,hd,hx,hy,rx,ry=>by
  rw[aQ] at hx;subst hx;cases rx;rw[aQ] at hy;obtain⟨ay,xsy,rfl,qy,ly⟩:=hy;cases ry;obtain⟨usy,vy,py,_⟩:=I.list qy;rw[show aY (.non) (.lst gy)=false from by simp [aY]];exact SeqAt.RcAt.none_list py.isList (by omega)
 | .bl gx,.non,x,y,u,v,hd,hx,hy,rx,ry=>by
  rw[aQ] at hx;subst hx;cases rx;rw[aQ] at hy;subst hy;cases ry;rw[show aY (.bl gx) (.non)=false from by simp [aY]];exact SeqAt.RcAt.bool_none gx
 | .bl gx,.bl gy,x,y,u,v,hd,hx,hy,rx,ry=>by
  rw[aQ] at hx;subst hx;cases rx;rw[aQ] at hy;subst hy;cases ry;rw[aY];exact SeqAt.RcAt.bool_bool gx gy
 | .bl gx,.int gy,x,y,u,v,hd,hx,hy,rx,ry=>by
  rw[aQ] at hx;subst hx;cases rx;rw[aQ] at hy;subst hy;obtain⟨ty,rfl⟩:=ry;rw[aY];exact SeqAt.RcAt.bool_int gx gy ty
 | .bl gx,.str gy,x,y,u,v,hd,hx,hy,rx,ry=>by
  rw[aQ] at hx;subst hx;cases rx;rw[aQ] at hy;subst hy;obtain⟨ty,rfl⟩:=ry;rw[show aY (.bl gx) (.str gy)=false from by simp [aY]];exact SeqAt.RcAt.bool_str gx gy ty
 | .bl gx,.tup gy,x,y,u,v,hd,hx,hy,rx,ry=>by
  rw[aQ] at hx;subst hx;cases rx;rw[aQ] at hy;obtain⟨ay,xsy,rfl,qy,ly⟩:=hy;cases ry;obtain⟨usy,vy,py,_⟩:=I.tuple qy;rw[show aY (.bl gx) (.tup gy)=false from by simp [aY]];exact SeqAt.RcAt.bool_tuple gx py (by omega)
 | .bl gx,.lst gy,x,y,u,v,hd,hx,hy,rx,ry=>by
  rw[aQ] at hx;subst hx;cases rx;rw[aQ] at hy;obtain⟨ay,xsy,rfl,qy,ly⟩:=hy;cases ry;obtain⟨usy,vy,py,_⟩:=I.list qy;rw[show aY (.bl gx) (.lst gy)=false from by simp [aY]];exact SeqAt.RcAt.bool_list gx py.isList (by omega)
 | .int gx,.non,x,y,u,v,hd,hx,hy,rx,ry=>by
  rw[aQ] at hx;subst hx;obtain⟨tx,rfl⟩:=rx;rw[aQ] at hy;subst hy;cases ry;rw[show aY (.int gx) (.non)=false from by simp [aY]];exact SeqAt.RcAt.int_none gx tx
 | .int gx,.bl gy,x,y,u,v,hd,hx,hy,rx,ry=>by
  rw[aQ] at hx;subst hx;obtain⟨tx,rfl⟩:=rx;rw[aQ] at hy;subst hy;cases ry;rw[aY];exact SeqAt.RcAt.int_bool gx tx gy
 | .int gx,.int gy,x,y,u,v,hd,hx,hy,rx,ry=>by
  rw[aQ] at hx;subst hx;obtain⟨tx,rfl⟩:=rx;rw[aQ] at hy;subst hy;obtain⟨ty,rfl⟩:=ry;rw[aY];exact SeqAt.RcAt.int_int gx tx gy ty
 | .int gx,.str gy,x,y,u,v,hd,hx,hy,rx,ry=>by
  rw[aQ] at hx;subst hx;obtain⟨tx,rfl⟩:=rx;rw[aQ] at hy;subst hy;obtain⟨ty,rfl⟩:=ry;rw[show aY (.int gx) (.str gy)=false from by simp [aY]];exact SeqAt.RcAt.int_str gx tx gy ty
 | .int gx,.tup gy,x,y,u,v,hd,hx,hy,rx,ry=>by
  rw[aQ] at hx;subst hx;obtain⟨tx,rfl⟩:=rx;rw[aQ] at hy;obtain⟨ay,xsy,rfl,qy,ly⟩:=hy;cases ry;obtain⟨usy,vy,py,_⟩:=I.tuple qy;rw[show aY (.int gx) (.tup gy)=false from by simp [aY]];exact SeqAt.RcAt.int_tuple gx tx py (by omega)
 | .int gx,.lst gy,x,y,u,v,hd,hx,hy,rx,ry=>by
  rw[aQ] at hx;subst hx;obtain⟨tx,rfl⟩:=rx;rw[aQ] at hy;obtain⟨ay,xsy,rfl,qy,ly⟩:=hy;cases ry;obtain⟨usy,vy,py,_⟩:=I.list qy;rw[show aY (.int gx) (.lst gy)=false from by simp [aY]];exact SeqAt.RcAt.int_list gx tx py.isList (by omega)
 | .str gx,.non,x,y,u,v,hd,hx,hy,rx,ry=>by
  rw[aQ] at hx;subst hx;obtain⟨tx,rfl⟩:=rx;rw[aQ] at hy;subst hy;cases ry;rw[show aY (.str gx) (.non)=false from by simp [aY]];exact SeqAt.RcAt.str_none gx tx
 | .str gx,.bl gy,x,y,u,v,hd,hx,hy,rx,ry=>by
  rw[aQ] at hx;subst hx;obtain⟨tx,rfl⟩:=rx;rw[aQ] at hy;subst hy;cases ry;rw[show aY (.str gx) (.bl gy)=false from by simp [aY]];exact SeqAt.RcAt.str_bool gx tx gy
 | .str gx,.int gy,x,y,u,v,hd,hx,hy,rx,ry=>by
  rw[aQ] at hx;subst hx;obtain⟨tx,rfl⟩:=rx;rw[aQ] at hy;subst hy;obtain⟨ty,rfl⟩:=ry;rw[show aY (.str gx) (.int gy)=false from by simp [aY]];exact SeqAt.RcAt.str_int gx tx gy ty
 | .str gx,.str gy,x,y,u,v,hd,hx,hy,rx,ry=>by
  rw[aQ] at hx;subst hx;obtain⟨tx,rfl⟩:=rx;rw[aQ] at hy;subst hy;obtain⟨ty,rfl⟩:=ry;rw[aY];exact SeqAt.RcAt.str_str gx tx gy ty
 | .str gx,.tup gy,x,y,u,v,hd,hx,hy,rx,ry=>by
  rw[aQ] at hx;subst hx;obtain⟨tx,rfl⟩:=rx;rw[aQ] at hy;obtain⟨ay,xsy,rfl,qy,ly⟩:=hy;cases ry;obtain⟨usy,vy,py,_⟩:=I.tuple qy;rw[show aY (.str gx) (.tup gy)=false from by simp [aY]];exact SeqAt.RcAt.str_tuple gx tx py (by omega)
 | .str gx,.lst gy,x,y,u,v,hd,hx,hy,rx,ry=>by
  rw[aQ] at hx;subst hx;obtain⟨tx,rfl⟩:=rx;rw[aQ] at hy;obtain⟨ay,xsy,rfl,qy,ly⟩:=hy;cases ry;obtain⟨usy,vy,py,_⟩:=I.list qy;rw[show aY (.str gx) (.lst gy)=false from by simp [aY]];exact SeqAt.RcAt.str_list gx tx py.isList (by omega)
 | .tup gx,.non,x,y,u,v,hd,hx,hy,rx,ry=>by
  rw[aQ] at hx;obtain⟨ax,xsx,rfl,qx,lx⟩:=hx;cases rx;obtain⟨usx,vx,px,_⟩:=I.tuple qx;rw[aQ] at hy;subst hy;cases ry;rw[show aY (.tup gx) (.non)=false from by simp [aY]];exact SeqAt.RcAt.tuple_none px (by omega)
 | .tup gx,.bl gy,x,y,u,v,hd,hx,hy,rx,ry=>by
  rw[aQ] at hx;obtain⟨ax,xsx,rfl,qx,lx⟩:=hx;cases rx;obtain⟨usx,vx,px,_⟩:=I.tuple qx;rw[aQ] at hy;subst hy;cases ry;rw[show aY (.tup gx) (.bl gy)=false from by simp [aY]];exact SeqAt.RcAt.tuple_bool gy px (by omega)
 | .tup gx,.int gy,x,y,u,v,hd,hx,hy,rx,ry=>by
  rw[aQ] at hx;obtain⟨ax,xsx,rfl,qx,lx⟩:=hx;cases rx;obtain⟨usx,vx,px,_⟩:=I.tuple qx;rw[aQ] at hy;subst hy;obtain⟨ty,rfl⟩:=ry;rw[show aY (.tup gx) (.int gy)=false from by simp [aY]];exact SeqAt.RcAt.tuple_int gy ty px (by omega)
 | .tup gx,.str gy,x,y,u,v,hd,hx,hy,rx,ry=>by
  rw[aQ] at hx;obtain⟨ax,xsx,rfl,qx,lx⟩:=hx;cases rx;obtain⟨usx,vx,px,_⟩:=I.tuple qx;rw[aQ] at hy;subst hy;obtain⟨ty,rfl⟩:=ry;rw[show aY (.tup gx) (.str gy)=false from by simp [aY]];exact SeqAt.RcAt.tuple_str gy ty px (by omega)
 | .tup gx,.tup gy,x,y,u,v,hd,hx,hy,rx,ry=>by
  rw[aQ] at hx;obtain⟨ax,xsx,rfl,qx,lx⟩:=hx;cases rx;obtain⟨usx,vx,px,_⟩:=I.tuple qx;rw[aQ] at hy;obtain⟨ay,xsy,rfl,qy,ly⟩:=hy;cases ry;obtain⟨usy,vy,py,_⟩:=I.tuple qy;have e1:=vx.length;have e2:=vy.length;have e3:=lx.length;have e4:=ly.length;rw[show aY (.tup gx) (.tup gy)=eD gx gy from by rw[aY],<- lG gx gy];have ex:gx.length=usx.toArray.size:=by rw[<- e3,e1,aah]
  have ey:gy.length=usy.toArray.size:=by rw[<- e4,e2,aah]
  rw[ex,ey];exact SeqAt.RcAt.tuples px py (by omega) (λ j h1 h2=>j8 (n:=0) (λ g h x y u v hm ix iy tx ty=>qC I 30 g h A.in1 x y u v (by have:=eJ hm;rw[gL] at hd;omega) (by show A.units+1+30 < cLine;omega) ix iy tx ty) lx ly vx vy j h1 h2)
 | .tup gx,.lst gy,x,y,u,v,hd,hx,hy,rx,ry=>by
  rw[aQ] at hx;obtain⟨ax,xsx,rfl,qx,lx⟩:=hx;cases rx;obtain⟨usx,vx,px,_⟩:=I.tuple qx;rw[aQ] at hy;obtain⟨ay,xsy,rfl,qy,ly⟩:=hy;cases ry;obtain⟨usy,vy,py,_⟩:=I.list qy;rw[show aY (.tup gx) (.lst gy)=false from by simp [aY]];exact SeqAt.RcAt.tuple_list px py.isList (by omega)
 | .lst gx,.non,x,y,u,v,hd,hx,hy,rx,ry=>by
  rw[aQ] at hx;obtain⟨ax,xsx,rfl,qx,lx⟩:=hx;cases rx;obtain⟨usx,vx,px,_⟩:=I.list qx;rw[aQ] at hy;subst hy;cases ry;rw[show aY (.lst gx) (.non)=false from by simp [aY]];exact SeqAt.RcAt.list_none px.isList (by omega)
 | .lst gx,.bl gy,x,y,u,v,hd,hx,hy,rx,ry=>by
  rw[aQ] at hx;obtain⟨ax,xsx,rfl,qx,lx⟩:=hx;cases rx;obtain⟨usx,vx,px,_⟩:=I.list qx;rw[aQ] at hy;subst hy;cases ry;rw[show aY (.lst gx) (.bl gy)=false from by simp [aY]];exact SeqAt.RcAt.list_bool gy px.isList (by omega)
 | .lst gx,.int gy,x,y,u,v,hd,hx,hy,rx,ry=>by
  rw[aQ] at hx;obtain⟨ax,xsx,rfl,qx,lx⟩:=hx;cases rx;obtain⟨usx,vx,px,_⟩:=I.list qx;rw[aQ] at hy;subst hy;obtain⟨ty,rfl⟩:=ry;rw[show aY (.lst gx) (.int gy)=false from by simp [aY]];exact SeqAt.RcAt.list_int gy ty px.isList (by omega)
 | .lst gx,.str gy,x,y,u,v,hd,hx,hy,rx,ry=>by
  rw[aQ] at hx;obtain⟨ax,xsx,rfl,qx,lx⟩:=hx;cases rx;obtain⟨usx,vx,px,_⟩:=I.list qx;rw[aQ] at hy;subst hy;obtain⟨ty,rfl⟩:=ry;rw[show aY (.lst gx) (.str gy)=false from by simp [aY]];exact SeqAt.RcAt.list_str gy ty px.isList (by omega)
 | .lst gx,.tup gy,x,y,u,v,hd,hx,hy,rx,ry=>by
  rw[aQ] at hx;obtain⟨ax,xsx,rfl,qx,lx⟩:=hx;cases rx;obtain⟨usx,vx,px,_⟩:=I.list qx;rw[aQ] at hy;obtain⟨ay,xsy,rfl,qy,ly⟩:=hy;cases ry;obtain⟨usy,vy,py,_⟩:=I.tuple qy;rw[show aY (.lst gx) (.tup gy)=false from by simp [aY]];exact SeqAt.RcAt.list_tuple px.isList py (by omega)
 | .lst gx,.lst gy,x,y,u,v,hd,hx,hy,rx,ry=>by
  rw[aQ] at hx;obtain⟨ax,xsx,rfl,qx,lx⟩:=hx;cases rx;obtain⟨usx,vx,px,_⟩:=I.list qx;rw[aQ] at hy;obtain⟨ay,xsy,rfl,qy,ly⟩:=hy;cases ry;obtain⟨usy,vy,py,_⟩:=I.list qy;have e1:=vx.length;have e2:=vy.length;have e3:=lx.length;have e4:=ly.length;rw[show aY (.lst gx) (.lst gy)=eD gx gy from by rw[aY]];have ex:gx.length=usx.toArray.size:=by rw[<- e3,e1,aah]
  have ey:gy.length=usy.toArray.size:=by rw[<- e4,e2,aah]
  by_cases hl:gx.length=gy.length
  ·rw[<- n8 gx gy hl,ex];exact SeqAt.RcAt.lists px.isList py.isList (by omega) (by omega) (λ j h1 h2=>j8 (n:=0) (λ g h x y u v hm ix iy tx ty=>qC I 30 g h A.in1 x y u v (by have:=eJ hm;rw[gL] at hd;omega) (by show A.units+1+30 < cLine;omega) ix iy tx ty) lx ly vx vy j h1 h2)
  ·rw[lE gx gy hl];exact SeqAt.RcAt.lists_lengths px.isList py.isList (by rw[<- ex,<- ey];simpa using hl) (by omega)
theorem rneG (I:Inv X pins σ H s) {A:Around} (hu:A.units+40 < cLine):∀ (g h:G) (x y:V) (u v:Value),gL g<=30->aQ X.K H g x->aQ X.K H h y->bG x u->bG y v->SeqAt.RcNeAt A s u v (!aY g h)
 | .non,.non,x,y,u,v,hd,hx,hy,rx,ry=>by
  rw[aQ] at hx;subst hx;cases rx;rw[aQ] at hy;subst hy;cases ry;rw[aY];exact SeqAt.RcNeAt.none_none
 | .non,.bl gy,x,y,u,v,hd,hx,hy,rx,ry=>by
  rw[aQ] at hx;subst hx;cases rx;rw[aQ] at hy;subst hy;cases ry;rw[show aY (.non) (.bl gy)=false from by simp [aY]];exact SeqAt.RcNeAt.none_bool gy
 | .non,.int gy,x,y,u,v,hd,hx,hy,rx,ry=>by
  rw[aQ] at hx;subst hx;cases rx;rw[aQ] at hy;subst hy;obtain⟨ty,rfl⟩:=ry;rw[show aY (.non) (.int gy)=false from by simp [aY]];exact SeqAt.RcNeAt.none_int gy ty
 | .non,.str gy,x,y,u,v,hd,hx,hy,rx,ry=>by
  rw[aQ] at hx;subst hx;cases rx;rw[aQ] at hy;subst hy;obtain⟨ty,rfl⟩:=ry;rw[show aY (.non) (.str gy)=false from by simp [aY]];exact SeqAt.RcNeAt.none_str gy ty
 | .non,.tup gy,x,y,u,v,hd,hx,hy,rx,ry=>by
  rw[aQ] at hx;subst hx;cases rx;rw[aQ] at hy;obtain⟨ay,xsy,rfl,qy,ly⟩:=hy;cases ry;obtain⟨usy,vy,py,_⟩:=I.tuple qy;rw[show aY (.non) (.tup gy)=false from by simp [aY]];exact SeqAt.RcNeAt.none_tuple py (by omega)
 | .non,.lst gy,x,y,u,v,hd,hx,hy,rx,ry=>by
  rw[aQ] at hx;subst hx;cases rx;rw[aQ] at hy;obtain⟨ay,xsy,rfl,qy,ly⟩:=hy;cases ry;obtain⟨usy,vy,py,_⟩:=I.list qy;rw[show aY (.non) (.lst gy)=false from by simp [aY]];exact SeqAt.RcNeAt.none_list py.isList (by omega)
 | .bl gx,.non,x,y,u,v,hd,hx,hy,rx,ry=>by
  rw[aQ] at hx;subst hx;cases rx;rw[aQ] at hy;subst hy;cases ry;rw[show aY (.bl gx) (.non)=false from by simp [aY]];exact SeqAt.RcNeAt.bool_none gx
 | .bl gx,.bl gy,x,y,u,v,hd,hx,hy,rx,ry=>by
  rw[aQ] at hx;subst hx;cases rx;rw[aQ] at hy;subst hy;cases ry;rw[aY];exact SeqAt.RcNeAt.bool_bool gx gy
 | .bl gx,.int gy,x,y,u,v,hd,hx,hy,rx,ry=>by
  rw[aQ] at hx;subst hx;cases rx;rw[aQ] at hy;subst hy;obtain⟨ty,rfl⟩:=ry;rw[aY];exact SeqAt.RcNeAt.bool_int gx gy ty
 | .bl gx,.str gy,x,y,u,v,hd,hx,hy,rx,ry=>by
  rw[aQ] at hx;subst hx;cases rx;rw[aQ] at hy;subst hy;obtain⟨ty,rfl⟩:=ry;rw[show aY (.bl gx) (.str gy)=false from by simp [aY]];exact SeqAt.RcNeAt.bool_str gx gy ty
 | .bl gx,.tup gy,x,y,u,v,hd,hx,hy,rx,ry=>by
  rw[aQ] at hx;subst hx;cases rx;rw[aQ] at hy;obtain⟨ay,xsy,rfl,qy,ly⟩:=hy;cases ry;obtain⟨usy,vy,py,_⟩:=I.tuple qy;rw[show aY (.bl gx) (.tup gy)=false from by simp [aY]];exact SeqAt.RcNeAt.bool_tuple gx py (by omega)
 | .bl gx,.lst gy,x,y,u,v,hd,hx,hy,rx,ry=>by
  rw[aQ] at hx;subst hx;cases rx;rw[aQ] at hy;obtain⟨ay,xsy,rfl,qy,ly⟩:=hy;cases ry;obtain⟨usy,vy,py,_⟩:=I.list qy;rw[show aY (.bl gx) (.lst gy)=false from by simp [aY]];exact SeqAt.RcNeAt.bool_list gx py.isList (by omega)
 | .int gx,.non,x,y,u,v,hd,hx,hy,rx,ry=>by
  rw[aQ] at hx;subst hx;obtain⟨tx,rfl⟩:=rx;rw[aQ] at hy;subst hy;cases ry;rw[show aY (.int gx) (.non)=false from by simp [aY]];exact SeqAt.RcNeAt.int_none gx tx
 | .int gx,.bl gy,x,y,u,v,hd,hx,hy,rx,ry=>by
  rw[aQ] at hx;subst hx;obtain⟨tx,rfl⟩:=rx;rw[aQ] at hy;subst hy;cases ry;rw[aY];exact SeqAt.RcNeAt.int_bool gx tx gy
 | .int gx,.int gy,x,y,u,v,hd,hx,hy,rx,ry=>by
  rw[aQ] at hx;subst hx;obtain⟨tx,rfl⟩:=rx;rw[aQ] at hy;subst hy;obtain⟨ty,rfl⟩:=ry;rw[aY];exact SeqAt.RcNeAt.int_int gx tx gy ty
 | .int gx,.str gy,x,y,u,v,hd,hx,hy,rx,ry=>by
  rw[aQ] at hx;subst hx;obtain⟨tx,rfl⟩:=rx;rw[aQ] at hy;subst hy;obtain⟨ty,rfl⟩:=ry;rw[show aY (.int gx) (.str gy)=false from by simp [aY]];exact SeqAt.RcNeAt.int_str gx tx gy ty
 | .int gx,.tup gy,x,y,u,v,hd,hx,hy,rx,ry=>by
  rw[aQ] at hx;subst hx;obtain⟨tx,rfl⟩:=rx;rw[aQ] at hy;obtain⟨ay,xsy,rfl,qy,ly⟩:=hy;cases ry;obtain⟨usy,vy,py,_⟩:=I.tuple qy;rw[show aY (.int gx) (.tup gy)=false from by simp [aY]];exact SeqAt.RcNeAt.int_tuple gx tx py (by omega)
 | .int gx,.lst gy,x,y,u,v,hd,hx,hy,rx,ry=>by
  rw[aQ] at hx;subst hx;obtain⟨tx,rfl⟩:=rx;rw[aQ] at hy;obtain⟨ay,xsy,rfl,qy,ly⟩:=hy;cases ry;obtain⟨usy,vy,py,_⟩:=I.list qy;rw[show aY (.int gx) (.lst gy)=false from by simp [aY]];exact SeqAt.RcNeAt.int_list gx tx py.isList (by omega)
 | .str gx,.non,x,y,u,v,hd,hx,hy,rx,ry=>by
  rw[aQ] at hx;subst hx;obtain⟨tx,rfl⟩:=rx;rw[aQ] at hy;subst hy;cases ry;rw[show aY (.str gx) (.non)=false from by simp [aY]];exact SeqAt.RcNeAt.str_none gx tx
 | .str gx,.bl gy,x,y,u,v,hd,hx,hy,rx,ry=>by
  rw[aQ] at hx;subst hx;obtain⟨tx,rfl⟩:=rx;rw[aQ] at hy;subst hy;cases ry;rw[show aY (.str gx) (.bl gy)=false from by simp [aY]];exact SeqAt.RcNeAt.str_bool gx tx gy
 | .str gx,.int gy,x,y,u,v,hd,hx,hy,rx,ry=>by
  rw[aQ] at hx;subst hx;obtain⟨tx,rfl⟩:=rx;rw[aQ] at hy;subst hy;obtain⟨ty,rfl⟩:=ry;rw[show aY (.str gx) (.int gy)=false from by simp [aY]];exact SeqAt.RcNeAt.str_int gx tx gy ty
 | .str gx,.str gy,x,y,u,v,hd,hx,hy,rx,ry=>by
  rw[aQ] at hx;subst hx;obtain⟨tx,rfl⟩:=rx;rw[aQ] at hy;subst hy;obtain⟨ty,rfl⟩:=ry;rw[aY];exact SeqAt.RcNeAt.str_str gx tx gy ty
 | .str gx,.tup gy,x,y,u,v,hd,hx,hy,rx,ry=>by
  rw[aQ] at hx;subst hx;obtain⟨tx,rfl⟩:=rx;rw[aQ] at hy;obtain⟨ay,xsy,rfl,qy,ly⟩:=hy;cases ry;obtain⟨usy,vy,py,_⟩:=I.tuple qy;rw[show aY (.str gx) (.tup gy)=false from by simp [aY]];exact SeqAt.RcNeAt.str_tuple gx tx py (by omega)
 | .str gx,.lst gy,x,y,u,v,hd,hx,hy,rx,ry=>by
  rw[aQ] at hx;subst hx;obtain⟨tx,rfl⟩:=rx;rw[aQ] at hy;obtain⟨ay,xsy,rfl,qy,ly⟩:=hy;cases ry;obtain⟨usy,vy,py,_⟩:=I.list qy;rw[show aY (.str gx) (.lst gy)=false from by simp [aY]];exact SeqAt.RcNeAt.str_list gx tx py.isList (by omega)
 | .tup gx,.non,x,y,u,v,hd,hx,hy,rx,ry=>by
  rw[aQ] at hx;obtain⟨ax,xsx,rfl,qx,lx⟩:=hx;cases rx;obtain⟨usx,vx,px,_⟩:=I.tuple qx;rw[aQ] at hy;subst hy;cases ry;rw[show aY (.tup gx) (.non)=false from by simp [aY]];exact SeqAt.RcNeAt.tuple_none px (by omega)
 | .tup gx,.bl gy,x,y,u,v,hd,hx,hy,rx,ry=>by
  rw[aQ] at hx;obtain⟨ax,xsx,rfl,qx,lx⟩:=hx;cases rx;obtain⟨usx,vx,px,_⟩:=I.tuple qx;rw[aQ] at hy;subst hy;cases ry;rw[show aY (.tup gx) (.bl gy)=false from by simp [aY]];exact SeqAt.RcNeAt.tuple_bool gy px (by omega)
 | .tup gx,.int gy,x,y,u,v,hd,hx,hy,rx,ry=>by
  rw[aQ] at hx;obtain⟨ax,xsx,rfl,qx,lx⟩:=hx;cases rx;obtain⟨usx,vx,px,_⟩:=I.tuple qx;rw[aQ] at hy;subst hy;obtain⟨ty,rfl⟩:=ry;rw[show aY (.tup gx) (.int gy)=false from by simp [aY]];exact SeqAt.RcNeAt.tuple_int gy ty px (by omega)
 | .tup gx,.str gy,x,y,u,v,hd,hx,hy,rx,ry=>by
  rw[aQ] at hx;obtain⟨ax,xsx,rfl,qx,lx⟩:=hx;cases rx;obtain⟨usx,vx,px,_⟩:=I.tuple qx;rw[aQ] at hy;subst hy;obtain⟨ty,rfl⟩:=ry;rw[show aY (.tup gx) (.str gy)=false from by simp [aY]];exact SeqAt.RcNeAt.tuple_str gy ty px (by omega)
 | .tup gx,.tup gy,x,y,u,v,hd,hx,hy,rx,ry=>by
  rw[aQ] at hx;obtain⟨ax,xsx,rfl,qx,lx⟩:=hx;cases rx;obtain⟨usx,vx,px,_⟩:=I.tuple qx;rw[aQ] at hy;obtain⟨ay,xsy,rfl,qy,ly⟩:=hy;cases ry;obtain⟨usy,vy,py,_⟩:=I.tuple qy;have e1:=vx.length;have e2:=vy.length;have e3:=lx.length;have e4:=ly.length;rw[show aY (.tup gx) (.tup gy)=eD gx gy from by rw[aY],<- lG gx gy];have ex:gx.length=usx.toArray.size:=by rw[<- e3,e1,aah]
  have ey:gy.length=usy.toArray.size:=by rw[<- e4,e2,aah]
  rw[ex,ey];exact SeqAt.RcNeAt.tuples px py (by omega) (λ j h1 h2=>j8 (n:=0) (λ g h x y u v hm ix iy tx ty=>qC I 30 g h A.in1 x y u v (by have:=eJ hm;rw[gL] at hd;omega) (by show A.units+1+30 < cLine;omega) ix iy tx ty) lx ly vx vy j h1 h2)
 | .tup gx,.lst gy,x,y,u,v,hd,hx,hy,rx,ry=>by
  rw[aQ] at hx;obtain⟨ax,xsx,rfl,qx,lx⟩:=hx;cases rx;obtain⟨usx,vx,px,_⟩:=I.tuple qx;rw[aQ] at hy;obtain⟨ay,xsy,rfl,qy,ly⟩:=hy;cases ry;obtain⟨usy,vy,py,_⟩:=I.list qy;rw[show aY (.tup gx) (.lst gy)=false from by simp [aY]];exact SeqAt.RcNeAt.tuple_list px py.isList (by omega)
 | .lst gx,.non,x,y,u,v,hd,hx,hy,rx,ry=>by
  rw[aQ] at hx;obtain⟨ax,xsx,rfl,qx,lx⟩:=hx;cases rx;obtain⟨usx,vx,px,_⟩:=I.list qx;rw[aQ] at hy;subst hy;cases ry;rw[show aY (.lst gx) (.non)=false from by simp [aY]];exact SeqAt.RcNeAt.list_none px.isList (by omega)
 | .lst gx,.bl gy,x,y,u,v,hd,hx,hy,rx,ry=>by
  rw[aQ] at hx;obtain⟨ax,xsx,rfl,qx,lx⟩:=hx;cases rx;obtain⟨usx,vx,px,_⟩:=I.list qx;rw[aQ] at hy;subst hy;cases ry;rw[show aY (.lst gx) (.bl gy)=false from by simp [aY]];exact SeqAt.RcNeAt.list_bool gy px.isList (by omega)
 | .lst gx,.int gy,x,y,u,v,hd,hx,hy,rx,ry=>by
  rw[aQ] at hx;obtain⟨ax,xsx,rfl,qx,lx⟩:=hx;cases rx;obtain⟨usx,vx,px,_⟩:=I.list qx;rw[aQ] at hy;subst hy;obtain⟨ty,rfl⟩:=ry;rw[show aY (.lst gx) (.int gy)=false from by simp [aY]];exact SeqAt.RcNeAt.list_int gy ty px.isList (by omega)
 | .lst gx,.str gy,x,y,u,v,hd,hx,hy,rx,ry=>by
  rw[aQ] at hx;obtain⟨ax,xsx,rfl,qx,lx⟩:=hx;cases rx;obtain⟨usx,vx,px,_⟩:=I.list qx;rw[aQ] at hy;subst hy;obtain⟨ty,rfl⟩:=ry;rw[show aY (.lst gx) (.str gy)=false from by simp [aY]];exact SeqAt.RcNeAt.list_str gy ty px.isList (by omega)
 | .lst gx,.tup gy,x,y,u,v,hd,hx,hy,rx,ry=>by
  rw[aQ] at hx;obtain⟨ax,xsx,rfl,qx,lx⟩:=hx;cases rx;obtain⟨usx,vx,px,_⟩:=I.list qx;rw[aQ] at hy;obtain⟨ay,xsy,rfl,qy,ly⟩:=hy;cases ry;obtain⟨usy,vy,py,_⟩:=I.tuple qy;rw[show aY (.lst gx) (.tup gy)=false from by simp [aY]];exact SeqAt.RcNeAt.list_tuple px.isList py (by omega)
 | .lst gx,.lst gy,x,y,u,v,hd,hx,hy,rx,ry=>by
  rw[aQ] at hx;obtain⟨ax,xsx,rfl,qx,lx⟩:=hx;cases rx;obtain⟨usx,vx,px,_⟩:=I.list qx;rw[aQ] at hy;obtain⟨ay,xsy,rfl,qy,ly⟩:=hy;cases ry;obtain⟨usy,vy,py,_⟩:=I.list qy;have e1:=vx.length;have e2:=vy.length;have e3:=lx.length;have e4:=ly.length;rw[show aY (.lst gx) (.lst gy)=eD gx gy from by rw[aY]];have ex:gx.length=usx.toArray.size:=by rw[<- e3,e1,aah]
  have ey:gy.length=usy.toArray.size:=by rw[<- e4,e2,aah]
  by_cases hl:gx.length=gy.length
  ·rw[<- n8 gx gy hl,ex];exact SeqAt.RcNeAt.lists px.isList py.isList (by omega) (by omega) (λ j h1 h2=>j8 (n:=0) (λ g h x y u v hm ix iy tx ty=>qC I 30 g h A.in1 x y u v (by have:=eJ hm;rw[gL] at hd;omega) (by show A.units+1+30 < cLine;omega) ix iy tx ty) lx ly vx vy j h1 h2)
  ·rw[lE gx gy hl];exact SeqAt.RcNeAt.lists_lengths px.isList py.isList (by rw[<- ex,<- ey];simpa using hl) (by omega)
def IJ (K:aab):R2:=λ x y H Q=>∃ g h,gL g<=30/\aQ K H g x/\aQ K H h y/\Q (.bl (aY g h)) H
def ID (K:aab):R2:=λ x y H Q=>∃ g h,gL g<=30/\aQ K H g x/\aQ K H h y/\Q (.bl (!aY g h)) H
theorem GA (hu:X.A.units+64 < cLine):hJ X (compareOp .Eq) (IJ X.K):=by
 intro pins s σ H x y v u Q I rx ry h;obtain⟨g,h,hd,ix,iy,q⟩:=h;exact rcG I (by omega) g h x y v u hd ix iy rx ry X.prog X.w X.xe _ ⟨.bl _,H,I,rfl,q⟩
theorem G9 (hu:X.A.units+64 < cLine):hJ X (compareOp .NotEq) (ID X.K):=by
 intro pins s σ H x y v u Q I rx ry h;obtain⟨g,h,hd,ix,iy,q⟩:=h;exact rneG I (by omega) g h x y v u hd ix iy rx ry X.prog X.w X.xe _ ⟨.bl _,H,I,rfl,q⟩
theorem wP {K:aab} (hK:X.K=K) (hu:X.A.units+64 < cLine):hJ X (compareOp .Eq) (IJ K):=by subst hK;exact GA hu
theorem wN {K:aab} (hK:X.K=K) (hu:X.A.units+64 < cLine):hJ X (compareOp .NotEq) (ID K):=by subst hK;exact G9 hu
end
section
variable {H:Hp}
theorem cX.nil:cX K H [] []:=by rw[cX]
theorem cX.cons {g:G}{gs:List G}{x:V}{xs:List V} (h1:aQ K H g x) (h2:cX K H gs xs):cX K H (g::gs) (x::xs):=by rw[cX];exact⟨x,xs,rfl,h1,h2⟩
theorem aQ.i (i:Int):aQ K H (.int i) (.int i):=by rw[aQ]
theorem aQ.n:aQ K H .non .non:=by rw[aQ]
theorem aQ.l {a:Addr}{gs:List G}{xs:List V} (q:bN K H a xs) (l:cX K H gs xs):aQ K H (.lst gs) (.ref a):=by rw[aQ];exact⟨a,xs,rfl,q,l⟩
theorem cX.ints:∀ ns:List Int,cX K H (ns.map G.int) (ns.map V.int)
 | []=>.nil
 | n::ns=>.cons (.i n) (cX.ints ns)
theorem h9:∀ ns:List Int,iT (ns.map G.int)=0
 | []=>by rw[acl,iT]
 | n::ns=>by rw[abe,iT,h9 ns];simp [gL]
theorem lW:∀ ns ms:List Int,eD (ns.map G.int) (ms.map G.int)=decide (ns=ms)
 | [],[]=>by simp [eD]
 | [],_::_=>by simp [eD]
 | _::_,[]=>by simp [eD]
 | n::ns,m::ms=>by
  rw[abe,abe,eD,aY,lW ns ms,Bool.eq_iff_iff];simp
end
section
variable {X:Cx}
theorem nE:∀ {xs:List V}{us:List Value},xs.length=us.length->(∀ (i:Nat) x u,xs[i]? = some x->us[i]? = some u->bG x u)->bI xs us
 | [],[],_,_=>.nil
 | [],_::_,h,_=>by simp at h
 | _::_,[],h,_=>by simp at h
 | x::xs,u::us,hl,h=>.cons (h 0 x u rfl rfl) (nE (by simpa using hl) λ i y v h1 h2=>h (i+1) y v (by simpa using h1) (by simpa using h2))
theorem uG {a c:Int}{n:Nat}{acc:Array Value} (h:ItemsOf (λ i v=>∃ t,v=.int (a+i * c) t) acc n):bI ((List.range n).map λ (i:Nat)=>V.int (a+i * c)) acc.toList:=by
 obtain⟨h1,h2⟩:=h;refine nE (by simp [h1]) λ i x u e1 e2=>?_;rw[aaf] at e1;obtain⟨k,hk,rfl⟩:=aau.mp e1;have hi:=(aai.mp hk).1;have:k=i:=by
  have:=(aai.mp hk).2;simpa using this.symm
 subst this;exact h2 k u (by simpa using e2)
def HS (ta:TE):TE:=λ σ H Q=>ta σ H λ x H1=>∃ n:Nat,x=.int (n:Int)/\n<=1000000/\∀ l,H1 l=none->Q (.ref l) (upd H1 l (.lst ((List.range n).map λ (i:Nat)=>V.int (i:Int))))
theorem r9 {a:Expr}{ta:TE}{p p2 pos pos2:Pos} (hc:X.calm=true) (hg:Gl X "list") (hm:X.mg "list" = none) (hg2:Gl X "range") (hm2:X.mg "range" = none) (ha:PE X a ta) (hs:starEach [a] X.env=[(false,eval a X.env)]:=by rfl)
  (hs2:starEach [Expr.Call (.Name "range" p2) [a] [] pos2] X.env=[(false,eval (Expr.Call (.Name "range" p2) [a] [] pos2) X.env)]:=by rfl):PE X (.Call (.Name "list" p) [.Call (.Name "range" p2) [a] [] pos2] [] pos) (HS ta):=by
 intro pins s σ H Q I h;refine wpAny_Call_Name_kw (gY I hg hm jC ?_ (by decide) (by decide));refine PyProof.Rows.callWith_type1 ?_ hs2 rfl;rw[hs2];show wpAny _ _ (spliced ((false,eval (Expr.Call (.Name "range" p2) [a] [] pos2) X.env)::backTo pos [])) _ _ s;have h':cI ta jF σ H (λ xs H1=>∃ n:Nat,xs=[.int (n:Int)]/\n<=1000000/\∀ l,H1 l=none->Q (.ref l) (upd H1 l (.lst ((List.range n).map λ (i:Nat)=>V.int (i:Int))))):=by
  show ta σ H λ x H1=>∃ n:Nat,[x]=[V.int (n:Int)]/\_;have e:(λ (x:V) (H1:Hp)=>∃ n:Nat,[x]=[V.int (n:Int)]/\n<=1000000/\∀ l,H1 l=none->Q (.ref l) (upd H1 l (.lst ((List.range n).map λ (i:Nat)=>V.int (i:Int))))) =
    (λ (x:V) (H1:Hp)=>∃ n:Nat,x=V.int (n:Int)/\n<=1000000/\∀ l,H1 l=none->Q (.ref l) (upd H1 l (.lst ((List.range n).map λ (i:Nat)=>V.int (i:Int))))):=by
   funext x H1;simp
  rw[e];exact h
 refine Calls.spliced_cons (wpAny_Call_Name_kw (gY I hg2 hm2 boot_range (PyProof.Rows.callWith_type1 (cY (aA ha aC hs pos2 pins s σ H _ I h') λ us s1 ⟨vs,H1,I1,r1,q1⟩=>?_) hs rfl)));obtain⟨n,rfl,hn,q⟩:=q1;obtain⟨u,rfl,t,rfl⟩:=nG r1;refine call_range_1 (Calls.spliced_nil ?_);have hsz:Builtin.Range.rangeSize 0 (n:Int) 1=n:=by rw[rangeSize_one];split <;> omega
 refine call_list_range (n:=n) (I1.ok.hd hc) (IsRange.new ..) (small_one (by omega) (by omega) (by omega) (by omega)) hsz (by omega) λ h2 tk acc c' hk hS hacc=>?_;have hv:=uG hacc;simp only [Int.zero_add,Int.mul_one] at hv;have e1:(s1.heap.push { cls:=.type "range",data:=.fields #[.int 0 s1.toks,.int (n:Int) t,.int 1 (s1.toks+1)] }).objs.size=s1.heap.objs.size+1:=abd ..;refine⟨.ref (s1.heap.objs.size+1),_,I1.laid (t':=tk) (a:=s1.heap.objs.size+1) (λ b o e=>hk b o (aac _ e)) (Nat.le_succ _) (show cJ X.prog X.w _ h2 _ (.lst ((List.range n).map λ (i:Nat)=>V.int (i:Int))) from ⟨?_,acc.toList,c',hv,?_⟩),?_,q _ (I1.hok.fresh (Nat.le_succ _))⟩
 ·rw[aad,acv,sizeLine_eq];omega
 ·rw[e1] at hS;simpa using hS
 ·show Value.ref _=_;rw[e1]
end
end L2
namespace Tw
open PySem L2
def hU (net:Net) (t:Nat):List Nat:=((gB net t).tk net).tip
def wC (l:List Nat):L2.D:=.tup (l.map λ (i:Nat)=>L2.D.int (i:Int))
def dD (net:Net) (n k:Nat):List Nat:=(List.range n).filter λ t=>decide (k∈hU net t)
theorem m7 (net:Net) (n k:Nat):dD net (n+1) k=dD net n k++(if k∈hU net n then [n] else []):=by
 unfold dD;rw[List.range_succ,List.filter_append]
 by_cases h:k∈hU net n
 ·simp [h]
 ·simp [h]
theorem nK (net:Net) (n k:Nat):(dD net n k).length<=n:=by
 unfold dD;exact acb (acu _ _) (by simp)
theorem fH {az:Type} (f:Nat->az) (n:Nat):(List.range (n+1)).map f=(List.range n).map f++[f n]:=by rw[List.range_succ,aam];rfl
def tI (l:List Nat):List V:=l.map λ (i:Nat)=>V.int (i:Int)
theorem mS {n:Nat} (h:n<=10000000):n < sizeLine:=by rw[sizeLine_eq];omega
def uT (K:aab):Sp:=λ vs H Q _=>∃ (x:V) (net:Net) (fo:Option Nat) (n:Nat),vs=[x,.int (n:Int),cN fo]/\Is K H (eX net) x/\NetOk net/\NetOk (aW net fo)/\n<=100000/\
 ∀ l p1 p2 sts tvs H',aG H H'->H' l=some (.lst [.ref p1,.ref p2])->H' p1=some (.lst sts)->IsL K H' ((List.range (n+1)).map λ t=>FT (gB (aW net fo) t)) sts->H' p2=some (.lst tvs)->
  IsL K H' ((List.range n).map λ t=>wC (hU (aW net fo) t)) tvs->H l=none->H p1=none->H p2=none->Q (.ref l) H'
theorem kL:FnScope ["net","ticks","fast","states","tips","k","state","tipped","ground"] ["net","ticks","fast"] (aP (bQ 43)):={}
theorem rF {f f1 f2:Addr}{fd fd1 fd2:FuncData} (F:Fun K "_law_walk" "_law_walk" (bQ 43) f fd) (T:Txt mg) (G__law_first:Callee P w K mg base "_law_first" ["net"] 1 (iX K) f1 fd1)
  (G__law_tick:Callee P w K mg base "_law_tick" ["net","state","poured","fast"] 2 (qQ K) f2 fd2):FnOk P w K mg base i7 3 f fd ["net","ticks","fast"] (uT K):=by
 refine F.ok kL (λ vs H Q E h=>?_) (λ cdv A outer s H vs Q E hr h=>?_)
 ·obtain⟨x,net,fo,n,rfl,_⟩:=h;rfl
 ·obtain⟨x,net,fo,n,rfl,hx,nok,nok',hn,k⟩:=h;have sc:=kL;refine⟨_,(aD (aR (i:=3) sc.nd rfl (Or.inl rfl) (bC (aA (dF G__law_first hr (aA (pv 0) aC)) aC)))
   (aD (aR (i:=4) sc.nd rfl (Or.inl rfl) (bC aC))
   (aD (dP PassesOwn.never rfl (cC rfl T.b_range (aA (pv 1) aC)) (aF (i:=5) sc.nd rfl (Or.inl rfl)) (aD (cF (dF G__law_tick hr (aA (pv 0) (aA (aS (aI (K:=K) rfl) (pv 3) (ER zW aE) (λ _ _=>rfl)) (aA (aT (oB (K:=K) rfl) (bO (aA aE aC)) (aN (bE (K:=K) rfl) rfl T.b_len aba (aA (aS (aI (K:=K) rfl) (pv 0) aE (λ _ _=>rfl)) aC))) (aA (pv 2) aC))))) (wL (K:=K) (n:=3) rfl rfl (aH (aF (i:=6) sc.nd rfl (Or.inl rfl)) (aH (aF (i:=7) sc.nd rfl (Or.inl rfl)) (aH (aF (i:=8) sc.nd rfl (Or.inl rfl)) bB)))))
   (aD (d0 (dR (K:=K) rfl aav abh abi cK (pv 3) (aA (pv 6) aC)))
   (aL (d0 (dR (K:=K) rfl aav abh abi cK (pv 4) (aA (pv 7) aC)))))))
   (aL (bF (bC (aA (pv 3) (aA (pv 4) aC)))))))),?_⟩
  have n1:=nok.lo;have n2:=nok.hi;refine⟨_,rfl,x,net,rfl,hx,nok,λ st H1 s1 hst=>⟨(show 1<=sizeLine by decide),λ sl hsl=>?_⟩⟩;have s2:=aG.new (o:=HO.lst [st]) hsl;have e2:upd H1 sl (.lst [st]) sl=some (.lst [st]):=aB;generalize upd H1 sl (.lst [st])=H2 at s2 e2;refine⟨abg _,λ tl htl=>?_⟩;have s3:=aG.new (o:=HO.lst []) htl;have e3:upd H2 tl (.lst []) tl=some (.lst []):=aB;have nst:sl≠tl:=aJ e2 htl;have e3s:=s3 _ _ e2;have s13:aG H1 _:=s2.trans s3;generalize upd H2 tl (.lst [])=H3 at s3 e3 e3s s13;have fs:H sl=none:=s1.free hsl;have ft:H tl=none:=(s1.trans s2).free htl;refine⟨_,rfl,_,rfl,by omega,by omega,?_⟩;refine dW (lo:=0) (n:=n) (λ i ad H'=>aG H H'/\(∃ sts mv,H' sl=some (.lst (sts++[mv]))/\IsL K H' ((List.range i).map λ t=>FT (gB (aW net fo) t)) sts/\Is K H' (FT (gB (aW net fo) i)) mv)/\
   (∃ tvs,H' tl=some (.lst tvs)/\IsL K H' ((List.range i).map λ t=>wC (hU (aW net fo) t)) tvs)/\
   ∃ v5 v6 v7 v8,ad=[some x,some (.int (n:Int)),some (cN fo),some (.ref sl),some (.ref tl),v5,v6,v7,v8]) ?_ ?_ ?_
  ·refine⟨s1.trans s13,⟨[],st,e3s,.nil,?_⟩,⟨[],e3,.nil⟩,_,_,_,_,rfl⟩;rw[show gB (aW net fo) 0=A3 (aW net fo) from rfl,uQ];exact Is.mono s13.ts _ _ hst
  ·rintro i ad H4 hi ⟨s4,⟨sts,mv,hsl4,ls,im⟩,⟨tvs,htl4,lt⟩,v5,v6,v7,v8,rfl⟩;have lsl:sts.length=i:=by rw[ls.length];simp
   have ltl:tvs.length=i:=by rw[lt.length];simp
   obtain⟨a,b,c,xs,ys,ex,q,q1,l1,q2,l2⟩:=dM (Is.mono s4.ts _ _ hx);have exl:xs.length=net.vs.length:=by rw[l1.length,aad]
   have sok:=uP (A2 nok' i);refine⟨_,rfl,_,rfl,1,rfl,.inl ⟨sl,_,-1,_,rfl,rfl,bN.of hsl4,CL _ _,(show 1<=sizeLine by decide),λ o ho=>?_⟩⟩;have so:=aG.new (o:=HO.tup [.int 0]) ho;refine⟨_,rfl,.inr (.inl ⟨a,_,0,_,ex,rfl,so.tup q,rfl,b,xs,rfl,.inr (so.tup q1),o,_,[.int 0],rfl,rfl,bM.of aB,by omega,by omega,by simp,by decide,λ z H6 sm6 qz=>?_⟩)⟩;have s56:=so.trans sm6;have en:((xs.length:Nat):Int).toNat=net.vs.length:=by rw[exl];simp
   rw[en,AA] at qz;refine⟨_,rfl,x,mv,z,net,_,_,d7 net.vs.length,_,fo,rfl,Is.mono (s4.trans s56).ts _ _ hx,Is.mono s56.ts _ _ im,.inl qz,nok,nok',sok,mP _,λ l p1 p2 H7 sm7 hl7 i1 i2=>?_⟩;refine⟨l,_,rfl,bN.of hl7,rfl,_,_,rfl,_,_,rfl,_,_,rfl,rfl,?_⟩;have s47:aG H4 H7:=s56.trans sm7;have hsl7:=s47 _ _ hsl4;have htl7:=s47 _ _ htl4;have ls7:=L2.IsL.mono s47.ts _ _ ls;have im7:=Is.mono s47.ts _ _ im;have lt7:=L2.IsL.mono s47.ts _ _ lt;have s07:aG H H7:=s4.trans s47;rw[show eA (aW net fo) (gB (aW net fo) i).held (gB (aW net fo) i).coming (d7 net.vs.length) (gB (aW net fo) i).doors=(gB (aW net fo) i).tk (aW net fo) from by unfold Sta.tk;rw[sP]] at i1 i2;refine⟨_,rfl,.inl ⟨rfl,_,bN.of hsl7⟩,_,rfl,sl,_,_,rfl,rfl,hsl7,mS (by simp;omega),?_⟩;have mu7:qM (H7 sl):=by rw[hsl7];exact trivial
   have ts8:bP K H7 (upd H7 sl (.lst (sts++[mv]++[p1]))):=dS.ts dS.upd mu7;have htl8:upd H7 sl (.lst (sts++[mv]++[p1])) tl=some (.lst tvs):=by rw[aK (Ne.symm nst)];exact htl7
   have hsl8:upd H7 sl (.lst (sts++[mv]++[p1])) sl=some (.lst (sts++[mv]++[p1])):=aB;have s08:aG H (upd H7 sl (.lst (sts++[mv]++[p1]))):=s07.put fs;generalize upd H7 sl (.lst (sts++[mv]++[p1]))=H8 at ts8 htl8 hsl8 s08;refine⟨_,rfl,.inl ⟨rfl,_,bN.of htl8⟩,_,rfl,tl,_,_,rfl,rfl,htl8,mS (by omega),?_⟩;have mu8:qM (H8 tl):=by rw[htl8];exact trivial
   have ts9:bP K H8 (upd H8 tl (.lst (tvs++[p2]))):=dS.ts dS.upd mu8;have ts79:=ts8.trans ts9;refine⟨s08.put ft,⟨sts++[mv],p1,by rw[aK nst];exact hsl8,?_,Is.mono ts79 _ _ i1⟩,⟨tvs++[p2],aB,?_⟩,_,_,_,_,rfl⟩
   ·rw[fH];exact L2.IsL.snoc (Is.mono ts79 _ _ im7) (L2.IsL.mono ts79 _ _ ls7)
   ·rw[fH];exact L2.IsL.snoc (Is.mono ts79 _ _ i2) (L2.IsL.mono ts79 _ _ lt7)
  ·rintro ad H4 ⟨s4,⟨sts,mv,hsl4,ls,im⟩,⟨tvs,htl4,lt⟩,v5,v6,v7,v8,rfl⟩;refine⟨_,rfl,_,rfl,(show 2<=sizeLine by decide),λ l hl=>?_⟩;have s5:=aG.new (o:=HO.lst [.ref sl,.ref tl]) hl;refine k l sl tl (sts++[mv]) tvs _ (s4.trans s5) aB (s5 _ _ hsl4) ?_ (s5 _ _ htl4) (L2.IsL.mono s5.ts _ _ lt) (s4.free hl) fs ft;rw[fH];exact L2.IsL.snoc (Is.mono s5.ts _ _ im) (L2.IsL.mono s5.ts _ _ ls)
def qP (K:aab):Sp:=λ vs H Q _=>∃ (x:V) (net:Net) (fo:Option Nat) (n:Nat),vs=[x,.int (n:Int),cN fo]/\Is K H (eX net) x/\NetOk net/\NetOk (aW net fo)/\n<=100000/\
 ∀ l (ts:List Addr) H',aG H H'->H l=none->H' l=some (.lst (ts.map V.ref))->ts.length=net.vs.length->(∀ (j:Nat) t,ts[j]? = some t->H t=none/\H' t=some (.lst (tI (dD (aW net fo) n j))))->Q (.ref l) H'
theorem zZ {H:Hp}{net:Net}{n t:Nat}{tvs:List V} (lt:IsL K H ((List.range n).map λ t=>wC (hU net t)) tvs) (ht:t < n):∃ a,tvs[t]? = some (.ref a)/\bM K H a (tI (hU net t)):=by
 obtain⟨v,hv,iv⟩:=lt.get (i:=t) (d:=wC (hU net t)) (by rw[aaf,List.getElem?_range ht];rfl);obtain⟨a,rfl,q⟩:=FL iv;exact⟨a,hv,q⟩
theorem kM:FnScope ["net","ticks","fast","states","tips"] ["net","ticks","fast"] (aP (bQ 44)):={}
theorem rG {f f1:Addr}{fd fd1:FuncData} (F:Fun K "_law_tips" "_law_tips" (bQ 44) f fd) (T:Txt mg) (G__law_walk:Callee P w K mg base "_law_walk" ["net","ticks","fast"] 3 (uT K) f1 fd1):FnOk P w K mg base i7 4 f fd ["net","ticks","fast"] (qP K):=by
 refine F.ok kM (λ vs H Q E h=>?_) (λ cdv A outer s H vs Q E hr h=>?_)
 ·obtain⟨x,net,fo,n,rfl,_⟩:=h;rfl
 ·obtain⟨x,net,fo,n,rfl,hx,nok,nok',hn,k⟩:=h;have sc:=kM;refine⟨_,(aD (cF (dF G__law_walk hr (aA (pv 0) (aA (pv 1) (aA (pv 2) aC)))) (wL (K:=K) (n:=2) rfl rfl (aH (aF (i:=3) sc.nd rfl (Or.inl rfl)) (aH (aF (i:=4) sc.nd rfl (Or.inr rfl)) bB))))
   (aL (bF (G8 (λ _ _ h=>h) rfl (LcOk2.mk (N':=["k","ticks","tips"]) (fr:=[none,some 1,some 4]) rfl ⟨rfl,rfl,trivial⟩ rfl rfl rfl rfl rfl ⟨⟨_,rfl,rfl,rfl,rfl⟩,⟨_,rfl,rfl,rfl,rfl⟩,trivial⟩) (cC rfl T.b_range (aA (aN (bE (K:=K) rfl) rfl T.b_len aba (aA (aS (aI (K:=K) rfl) (pv 0) aE (λ _ _=>rfl)) aC)) aC)) (λ _ _ _=>(aF (i:=0) (show (["k","ticks","tips"]:List Str).Nodup by decide +kernel) rfl (Or.inr rfl) (Or.inl rfl))) (λ _ _ _=>dG) (λ _ _ _=>(fU (λ _ _ h=>h) rfl (LcOk.mk (N':=["tick","k","tips"]) (fr:=[none,some 0,some 2]) rfl ⟨rfl,rfl,trivial⟩ rfl rfl rfl rfl rfl ⟨⟨_,rfl,rfl,rfl,rfl⟩,⟨_,rfl,rfl,rfl,rfl⟩,trivial⟩) (cC rfl T.b_range (aA (pv 1) aC)) (λ _ _ _=>(aF (i:=0) (show (["tick","k","tips"]:List Str).Nodup by decide +kernel) rfl (Or.inl rfl) (Or.inr rfl))) (λ _ _ _=>gU (bL (AS (K:=K) rfl) (pv 1) (aS (aI (K:=K) rfl) (pv 2) (pv 0) (λ _ _=>rfl)) (by rfl))) (λ _ _ _=>(pv 0)))))))),?_⟩
  have n2:=nok.hi;refine⟨_,rfl,_,rfl,_,rfl,x,net,fo,n,rfl,hx,nok,nok',hn,λ l p1 p2 sts tvs H1 s1 hl h1 ls h2 lt fl f1' f2'=>?_⟩;refine⟨l,_,rfl,bN.of hl,rfl,_,_,rfl,_,_,rfl,rfl,?_⟩;obtain⟨a,b,c,xs,ys,ex,q,q1,l1,q2,l2⟩:=dM (Is.mono s1.ts _ _ hx);have exl:xs.length=net.vs.length:=by rw[l1.length,aad]
  refine⟨_,rfl,.inr (.inl ⟨a,_,0,_,ex,rfl,q,rfl,b,xs,rfl,.inr q1,_,rfl,by omega,by omega,?_⟩)⟩;rw[show ((xs.length:Nat):Int).toNat=net.vs.length from by rw[exl];simp];refine fI (n:=net.vs.length) (λ D i r ad H'=>H1 D=none/\aG H1 H'/\H' D=some (.lst r)/\(∃ ts:List Addr,r=ts.map V.ref/\ts.length=i/\∀ (j:Nat) t,ts[j]? = some t->H1 t=none/\t≠D/\H' t=some (.lst (tI (dD (aW net fo) n j))))/\∃ v,ad=[v,some (.int (n:Int)),some (.ref p2)])
   (λ D hD=>⟨hD,aG.new hD,aB,⟨[],rfl,rfl,λ j t h=>by simp at h⟩,none,rfl⟩) ?_ ?_
  rotate_left
  ·rintro D i r ad H4 hi ⟨hD,sm4,hDl,⟨ts,rfl,htl,hts⟩,v,rfl⟩;refine eC ?_;refine⟨_,rfl,_,rfl,by omega,by omega,?_⟩;rw[show ((n:Int)).toNat=n from by simp];refine fI (n:=n) (λ D' j r' ad H'=>H4 D'=none/\aG H4 H'/\H' D'=some (.lst r')/\r'=tI (dD (aW net fo) j i)/\∃ u,ad=[u,some (.int (i:Int)),some (.ref p2)])
    (λ D' hD'=>⟨hD',aG.new hD',aB,rfl,none,rfl⟩) ?_ ?_
   rotate_left
   ·rintro D' j r' ad H5 hj ⟨hD',sm5,hD'l,rfl,u,rfl⟩;have s15:=sm4.trans sm5;obtain⟨ta,hta,qta⟩:=zZ (L2.IsL.mono s15.ts _ _ lt) hj;refine⟨_,rfl,_,rfl,_,rfl,.inl ⟨p2,_,_,_,rfl,rfl,bN.of (s15 _ _ h2),bW hta,ta,_,rfl,.inr qta,rfl,BX _,_,rfl,?_⟩⟩;rw[if_neg aal,show HG (.int (i:Int)) (tI (hU (aW net fo) j))=_ from x8 i _];have hs:=m7 (aW net fo) j i;have hlen:=nK (aW net fo) j i;refine fJ (λ ht=>?_) (λ hf=>?_)
    ·rw[if_pos (abn ht)] at hs;refine⟨_,rfl,hD'l,mS (by unfold tI;rw[aad];omega),hD',sm5.put hD',aB,?_,_,rfl⟩;rw[hs];unfold tI;rw[aam];rfl
    ·rw[if_neg (λ e=>hf (abq e)),acf] at hs;exact⟨hD',sm5,hD'l,by rw[hs],_,rfl⟩
   rintro D' r' ad H5 ⟨hD',sm5,hD'l,rfl,_⟩;have nDD:D'≠D:=λ z=>by rw[z,hDl] at hD';cases hD'
   refine⟨sm5 _ _ hDl,aO (by rw[aad];omega),hD,(sm4.trans sm5).put hD,aB,⟨ts++[D'],by rw[aam];rfl,by simp [htl],λ j t hj=>?_⟩,_,rfl⟩;rcases Nat.lt_or_ge j ts.length with hlt | hge
   ·rw[acj hlt] at hj;obtain⟨g1,g2,g3⟩:=hts j t hj;exact⟨g1,g2,by rw[aK g2];exact sm5 _ _ g3⟩
   ·have hjl:=(aai.mp hj).1;rw[aaw,acp] at hjl;have:j=ts.length:=by omega
    subst this;rw[aci (aaj _),Nat.sub_self] at hj;cases hj;rw[htl];exact⟨sm4.free hD',nDD,by rw[aK nDD];exact hD'l⟩
  rintro D r ad H4 ⟨hD,sm4,hDl,⟨ts,rfl,htl,hts⟩,_⟩;exact k D ts _ (s1.trans sm4) (s1.free hD) hDl htl λ j t hj=>⟨s1.free (hts j t hj).1,(hts j t hj).2.2⟩
theorem oO {H:Hp}:∀ {ds:List L2.D}{xs:List V} (i:Nat),L2.IsL K H ds xs->L2.IsL K H (ds.take i) (xs.take i)
 | _,_,0,_=>by rw[List.take_zero,List.take_zero];exact .nil
 | [],_,i+1,h=>by have:=h.un0;subst this;exact .nil
 | d::ds,_,i+1,h=>by
  obtain⟨x,r,rfl,h1,h⟩:=h.un;exact .cons h1 (oO i h)
theorem oP {H:Hp}:∀ {ds:List L2.D}{xs:List V} (i:Nat),L2.IsL K H ds xs->L2.IsL K H (ds.drop i) (xs.drop i)
 | _,_,0,h=>h
 | [],_,i+1,h=>by have:=h.un0;subst this;exact .nil
 | d::ds,_,i+1,h=>by
  obtain⟨x,r,rfl,h1,h⟩:=h.un;exact oP i h
def uS (K:aab):Sp:=λ vs H Q _=>∃ (x y:V) (net:Net) (v:Vs) (j:Nat),vs=[x,.int (j:Int),y]/\Is K H (eX net) x/\net.vs.length<=100/\j < net.vs.length/\Is K H (sR v) y/\
 ∀ p H',aG H H'->Is K H' (eX ⟨net.vs.take j++[v]++net.vs.drop (j+1),net.sps⟩) p->Q p H'
theorem iD:FnScope ["net","number","vessel","vessels","spouts"] ["net","number","vessel"] (aP (bQ 26)):={}
theorem oC {f:Addr}{fd:FuncData} (F:Fun K "with_vessel" "with_vessel" (bQ 26) f fd) (T:Txt mg):FnOk P w K mg base i7 1 f fd ["net","number","vessel"] (uS K):=by
 refine F.ok iD (λ vs H Q E h=>?_) (λ cdv A outer s H vs Q E hr h=>?_)
 ·obtain⟨x,y,net,v,j,rfl,_⟩:=h;rfl
 ·obtain⟨x,y,net,v,j,rfl,hx,n2,hj,iv,k⟩:=h;have sc:=iD;refine⟨_,(aD (cF (pv 0) (bD (K:=K) (n:=2) rfl rfl (aH (aF (i:=3) sc.nd rfl (Or.inl rfl)) (aH (aF (i:=4) sc.nd rfl (Or.inl rfl)) bB))))
   (aL (bF (bO (aA (aT (pX (K:=K) rfl) (aT (pX (K:=K) rfl) (gE (wG (K:=K) rfl) (pv 3) iZ (iY (pv 1))) (bO (aA (pv 2) aC))) (gE (wG (K:=K) rfl) (pv 3) (iY (aT bX (pv 1) aE)) iZ)) (aA (pv 4) aC)))))),?_⟩
  obtain⟨a,b,c,xs,ys,rfl,q,q1,l1,q2,l2⟩:=dM hx;have exl:xs.length=net.vs.length:=by rw[l1.length,aad]
  refine⟨_,rfl,a,_,rfl,q,rfl,_,_,rfl,_,_,rfl,rfl,?_⟩;have hjl:j < xs.length:=by omega
  have hc1:jH xs none (some (j:Int))=xs.take j:=by
   unfold jH;rw[HT.sIx_none,HT.sIx_nat,List.drop_zero,Nat.sub_zero,Nat.min_eq_left (by omega)]
  have hc2:jH xs (some ((j:Int)+1)) none=xs.drop (j+1):=by
   unfold jH;rw[HT.sIx_none,show ((j:Int)+1)=((j+1:Nat):Int) by omega,HT.sIx_nat,Nat.min_eq_left (by omega)];exact abv (by rw[List.length_drop];omega)
  refine⟨_,rfl,_,rfl,_,rfl,b,xs,rfl,q1,?_,λ p1 hp1=>?_⟩
  ·rintro⟨_,z⟩;rw[HT.sIx_nat,Nat.min_eq_left (by omega)] at z;omega
  rw[hc1];have s2:=aG.new (o:=HO.tup (xs.take j)) hp1;have t2:bM K (upd H p1 (.tup (xs.take j))) p1 (xs.take j):=bM.of aB;generalize upd H p1 (.tup (xs.take j))=H2 at s2 t2;refine⟨_,rfl,(show 1<=sizeLine by decide),λ p2 hp2=>?_⟩;have s3:=aG.new (o:=HO.tup [y]) hp2;have t3:bM K (upd H2 p2 (.tup [y])) p2 [y]:=bM.of aB;generalize upd H2 p2 (.tup [y])=H3 at s3 t3;refine⟨p1,p2,_,_,rfl,rfl,s3.tup t2,t3,aby (aO (by rw[aat,acp];omega)),λ p3 H4 s4 t4=>?_⟩;have s04:=(s2.trans s3).trans s4;refine⟨_,rfl,_,rfl,_,_,rfl,rfl,_,rfl,b,xs,rfl,s04.tup q1,?_,λ p4 hp4=>?_⟩
  ·rintro⟨z,_⟩;rw[show ((j:Int)+1)=((j+1:Nat):Int) by omega,HT.sIx_nat] at z;omega
  rw[hc2];have s5:=aG.new (o:=HO.tup (xs.drop (j+1))) hp4;have t5:bM K (upd H4 p4 (.tup (xs.drop (j+1)))) p4 (xs.drop (j+1)):=bM.of aB;generalize upd H4 p4 (.tup (xs.drop (j+1)))=H5 at s5 t5;refine⟨p3,p4,_,_,rfl,rfl,s5.tup t4,t5,aby (aO (by rw[aaw,aat,List.length_drop,acp];omega)),λ p5 H6 s6 t6=>?_⟩;refine⟨_,rfl,(show 2<=sizeLine by decide),λ p hp=>?_⟩;have s7:=aG.new (o:=HO.tup [.ref p5,.ref c]) hp;have s07:=((s04.trans s5).trans s6).trans s7;refine k _ _ s07 (Is.tupOf (ds:=[.tup ((net.vs.take j++[v]++net.vs.drop (j+1)).map sR),.tup (net.sps.map EJ)]) (bM.of aB) (.cons (Is.tupOf (s7.tup t6) ?_) (.cons (Is.tupOf (s07.tup q2) (L2.IsL.mono s07.ts _ _ l2)) .nil)));rw[aam,aam,List.map_take,List.map_drop];exact IsL.append (IsL.append (L2.IsL.mono s07.ts _ _ (oO j l1)) (.cons (Is.mono s07.ts _ _ iv) .nil)) (L2.IsL.mono s07.ts _ _ (oP (j+1) l1))
def jR (K:aab):Sp:=λ vs H Q _=>∃ (x:V) (net:Net) (j:Nat),vs=[x,.int (j:Int)]/\Is K H (eX net) x/\NetOk net/\j < net.vs.length/\∀ p H',aG H H'->Is K H' (eX (aW net (some j))) p->Q p H'
theorem kI:FnScope ["net","vessel","size","brim","outs","holds","spill","acts"] ["net","vessel"] (aP (bQ 29)):={}
theorem rB {f f1:Addr}{fd fd1:FuncData} (F:Fun K "stuck_net" "stuck_net" (bQ 29) f fd) (T:Txt mg) (G_with_vessel:Callee P w K mg base "with_vessel" ["net","number","vessel"] 1 (uS K) f1 fd1) :
  FnOk P w K mg base i7 2 f fd ["net","vessel"] (jR K):=by
 refine F.ok kI (λ vs H Q E h=>?_) (λ cdv A outer s H vs Q E hr h=>?_)
 ·obtain⟨x,net,j,rfl,_⟩:=h;rfl
 ·obtain⟨x,net,j,rfl,hx,nok,hj,k⟩:=h;have sc:=kI;refine⟨_,(aD (cF (aS (aI (K:=K) rfl) (aS (aI (K:=K) rfl) (pv 0) aE (λ _ _=>rfl)) (pv 1) (λ _ _=>rfl)) (bD (K:=K) (n:=6) rfl rfl (aH (aF (i:=2) sc.nd rfl (Or.inl rfl)) (aH (aF (i:=3) sc.nd rfl (Or.inl rfl)) (aH (aF (i:=4) sc.nd rfl (Or.inl rfl)) (aH (aF (i:=5) sc.nd rfl (Or.inl rfl)) (aH (aF (i:=6) sc.nd rfl (Or.inl rfl)) (aH (aF (i:=7) sc.nd rfl (Or.inl rfl)) bB))))))))
   (aL (bF (dF G_with_vessel hr (aA (pv 0) (aA (pv 1) (aA (bO (aA (aT bX (pv 3) aE) (aA (pv 3) (aA (pv 4) (aA (pv 5) (aA (pv 6) (aA (pv 7) aC))))))) aC))))))),?_⟩
  have n2:=nok.hi;obtain⟨a,b,c,xs,ys,rfl,q,q1,l1,q2,l2⟩:=dM hx;have hv:net.vs[j]? = some net.vs[j]:=by simp [hj]
  generalize net.vs[j]=v at hv;obtain⟨xv,hxv,ixv⟩:=l1.get (i:=j) (d:=sR v) (by rw[aaf,hv];rfl);obtain⟨va,o,cc,rfl,qv,ho,hc⟩:=sQ ixv;refine⟨_,rfl,.inr (.inl ⟨a,_,0,_,rfl,rfl,q,rfl,_,rfl,.inr (.inl ⟨b,xs,(j:Int),_,rfl,rfl,q1,bW hxv,va,_,rfl,qv,rfl,_,_,rfl,_,_,rfl,_,_,rfl,_,_,rfl,_,_,rfl,_,_,rfl,rfl,?_⟩)⟩)⟩;refine⟨_,rfl,_,rfl,_,rfl,_,_,rfl,rfl,_,rfl,_,rfl,_,rfl,_,rfl,_,rfl,(show 6<=sizeLine by decide),λ e he=>?_⟩;have s1:=aG.new (o:=HO.tup [.int (v.brim+1),.int v.brim,o,.bl v.holds,jI v.spill,cc]) he;have iv:Is K (upd H e (.tup [.int (v.brim+1),.int v.brim,o,.bl v.holds,jI v.spill,cc])) (sR { v with size:=v.brim+1 }) (.ref e):=
   Is.tupOf (ds:=[.int (v.brim+1),.int v.brim,.tup (v.outs.map outD),.bl v.holds,CW v.spill,.tup (v.acts.map w6)]) (bM.of aB)
    (.cons (Is.i _) (.cons (Is.i _) (.cons (Is.mono s1.ts _ _ ho) (.cons (Is.b _) (.cons (Is.tgOf _) (.cons (Is.mono s1.ts _ _ hc) .nil))))))
  refine⟨.ref a,.ref e,net,{ v with size:=v.brim+1 },j,rfl,Is.mono s1.ts _ _ hx,by omega,hj,iv,λ p H' sm ip=>k p H' (s1.trans sm) ?_⟩;rw[<- y9 net.vs j v hv] at ip;exact ip
theorem IsL.app {H:Hp}:∀ {ds es:List L2.D}{xs ys:List V},L2.IsL K H ds xs->L2.IsL K H es ys->L2.IsL K H (ds++es) (xs++ys)
 | [],_,_,_,h1,h2=>by have:=h1.un0;subst this;exact h2
 | d::ds,_,_,_,h1,h2=>by
  obtain⟨x,r,rfl,h,h1⟩:=h1.un;exact .cons h (IsL.app h1 h2)
theorem D7 {n:Nat} (h:n<=10000000):n < sizeLine:=by rw[sizeLine_eq];omega
def gP (K:aab):Sp:=λ vs H Q _=>∃ (x:V) (net:Net),vs=[x]/\Is K H (eX net) x/\NetOk net/\∀ p H',aG H H'->Is K H' (rM (gH net)) (.ref p)->Q (.ref p) H'
theorem hV:FnScope ["net"] ["net"] (aP (bQ 11)):={}
theorem mJ {f f1 f2:Addr}{fd fd1 fd2:FuncData} (F:Fun K "first_moment" "first_moment" (bQ 11) f fd) (T:Txt mg)
  (G_first_state:Callee P w K mg base "first_state" ["net"] 1 (iX K) f1 fd1) (G_pouring:Callee P w K mg base "pouring" ["net","amount"] 1 (iW K) f2 fd2):FnOk P w K mg base i7 2 f fd ["net"] (gP K):=by
 refine F.ok hV (λ vs H Q E h=>?_) (λ cdv A outer s H vs Q E hr h=>?_)
 ·obtain⟨x,net,rfl,_⟩:=h;rfl
 ·obtain⟨x,net,rfl,hx,nok,k⟩:=h;have sc:=hV;refine⟨_,(aL (bF (bO (aA aE (aA (dF G_first_state hr (aA (pv 0) aC)) (aA (dF G_pouring hr (aA (pv 0) (aA aE aC))) (aA aE (aA aE aC)))))))),?_⟩;refine⟨_,rfl,x,net,rfl,hx,nok,λ st H4 sm4 hst=>⟨_,rfl,x,net,0,rfl,Is.mono sm4.ts _ _ hx,nok,λ z H5 sm5 qz=>⟨(show 5<=sizeLine by decide),λ p hp=>?_⟩⟩⟩;rw[n9 nok.lo] at qz;have sp:aG H5 (upd H5 p (.tup [.int 0,st,.ref z,.int 0,.int 0])):=aG.new hp;exact k p _ ((sm4.trans sm5).trans sp) (AZ (m:=gH net) (bM.of aB) (Is.mono sp.ts _ _ (Is.mono sm5.ts _ _ hst)) (sp.tup qz))
def mR (K:aab):Sp:=λ vs H Q _=>∃ (x y:V) (net:Net) (m:Mom) (n:Nat),vs=[x,y,.int (n:Int)]/\Is K H (eX net) x/\Is K H (rM m) y/\NetOk net/\MomOk net m/\n<=100000/\
 ∀ p p1 p2 tvs H',aG H H'->bM K H' p [p1,.ref p2]->Is K H' (rM (dZ net m n)) p1->bM K H' p2 tvs->IsL K H' ((nO net m n).map sU) tvs->Q (.ref p) H'
theorem iG:FnScope ["net","moment","many","tipped","step","tick","numbers"] ["net","moment","many"] (aP (bQ 12)):={}
theorem oE {f f1:Addr}{fd fd1:FuncData} (F:Fun K "moment_gone" "moment_gone" (bQ 12) f fd) (T:Txt mg) (G_moment_behind:Callee P w K mg base "moment_behind" ["net","moment"] 5 (nX K) f1 fd1) :
  FnOk P w K mg base i7 6 f fd ["net","moment","many"] (mR K):=by
 refine F.ok iG (λ vs H Q E h=>?_) (λ cdv A outer s H vs Q E hr h=>?_)
 ·obtain⟨x,y,net,m,n,rfl,_⟩:=h;rfl
 ·obtain⟨x,y,net,m,n,rfl,hx,hy,nok,mok,hn,k⟩:=h;have sc:=iG;refine⟨_,(aD (aR (i:=3) sc.nd rfl (Or.inl rfl) (bC aC))
   (aD (dP PassesOwn.never rfl (cC rfl T.b_range (aA (pv 2) aC)) (aF (i:=4) sc.nd rfl (Or.inl rfl)) (aD (aR (i:=5) sc.nd rfl (Or.inr rfl) (aS (aI (K:=K) rfl) (pv 1) aE (λ _ _=>rfl)))
   (aD (cF (dF G_moment_behind hr (aA (pv 0) (aA (pv 1) aC))) (bD (K:=K) (n:=2) rfl rfl (aH (aF (i:=1) sc.nd rfl (Or.inl rfl)) (aH (aF (i:=6) sc.nd rfl (Or.inl rfl)) bB))))
   (aL (d0 (dR (K:=K) rfl aav PySem.F.slot_list_extend PySem.F.type_list_extend yL (pv 3) (aA (fU (λ _ _ h=>h) rfl (LcOk.mk (N':=["number","tick"]) (fr:=[none,some 5]) rfl ⟨rfl,trivial⟩ rfl rfl rfl rfl rfl ⟨⟨_,rfl,rfl,rfl,rfl⟩,trivial⟩) (eL (K:=K) rfl (pv 6)) (λ _ _ _=>(aF (i:=0) (show (["number","tick"]:List Str).Nodup by decide +kernel) rfl (Or.inl rfl) (Or.inr rfl))) (λ _ _ _=>dG) (λ _ _ _=>(bO (aA (pv 1) (aA (pv 0) aC))))) aC)))))))
   (aL (bF (bO (aA (pv 1) (aA (aZ (cD (K:=K) rfl) rfl T.b_tuple cP (aA (pv 3) aC)) aC))))))),?_⟩
  refine⟨abg _,λ tl htl=>?_⟩;have s0:aG H (upd H tl (.lst [])):=aG.new htl;have g0:upd H tl (.lst []) tl=some (.lst []):=aB;generalize upd H tl (.lst [])=H0 at s0 g0;dsimp only [iA];refine GR (λ ad H'=>aG H H'/\(∃ tvs,H' tl=some (.lst tvs)/\IsL K H' ((nO net m n).map sU) tvs)/\∃ mi,Is K H' (rM (dZ net m n)) mi/\
   ∃ v4 v5 v6,ad=[some x,some mi,some (.int (n:Int)),some (.ref tl),v4,v5,v6]) (λ D' hD=>?_) ?_
  rotate_left
  ·rintro ad H1 ⟨s1,⟨tvs,ht1,lt1⟩,mi,cm1,v4,v5,v6,rfl⟩;refine⟨_,rfl,_,rfl,tl,_,rfl,.inl ⟨bN.of ht1,λ p2 hp2=>⟨(show 2<=sizeLine by decide),λ p hp=>?_⟩⟩⟩;have m2:aG H1 (upd H1 p2 (.tup tvs)):=aG.new hp2;have m3:aG (upd H1 p2 (.tup tvs)) (upd (upd H1 p2 (.tup tvs)) p (.tup [mi,.ref p2])):=aG.new hp;exact k p mi p2 tvs _ ((s1.trans m2).trans m3) (bM.of aB) (Is.mono (m2.trans m3).ts _ _ cm1) (m3.tup (bM.of aB)) (L2.IsL.mono (m2.trans m3).ts _ _ lt1)
  refine⟨_,rfl,_,rfl,by omega,by omega,?_⟩;refine dW (lo:=0) (n:=n) (λ i ad H'=>aG H H'/\(∃ tvs,H' tl=some (.lst tvs)/\IsL K H' ((nO net m i).map sU) tvs)/\∃ mi,Is K H' (rM (dZ net m i)) mi/\
   ∃ v4 v5 v6,ad=[some x,some mi,some (.int (n:Int)),some (.ref tl),v4,v5,v6]) ?_ ?_ ?_
  ·exact⟨s0,⟨[],g0,.nil⟩,y,Is.mono s0.ts _ _ hy,_,_,_,rfl⟩
  ·rintro i ad H1 hi ⟨s1,⟨tvs,ht1,lt1⟩,mi,cm1,v4,v5,v6,rfl⟩;obtain⟨ma,po,st,rfl,q,hs,hp⟩:=AY cm1;refine⟨_,rfl,.inr (.inl ⟨ma,_,0,_,rfl,rfl,q,rfl,?_⟩)⟩;refine⟨_,rfl,_,rfl,x,.ref ma,net,dZ net m i,rfl,Is.mono s1.ts _ _ hx,cm1,nok,wR mok i,λ p p1 p2 H2 sm2 qp i1 q2=>?_⟩;refine⟨p,_,rfl,qp,rfl,_,_,rfl,_,_,rfl,rfl,?_⟩;have ht2:=sm2 _ _ ht1;have ltk:=zX net (dZ net m i);have hn12:=nok.hi;refine⟨_,rfl,.inl ⟨rfl,_,bN.of ht2⟩,?_⟩;refine⟨_,rfl,p2,rfl,⟨_,q2⟩,jS (K:=K) (a:=p2) (xs:=((dZ net m i).tk net).tip.map λ (k:Nat)=>V.int (k:Int))
    (λ D j rr ad H'=>H2 D=none/\aG H2 H'/\H' D=some (.lst rr)/\IsL K H' (((((dZ net m i).tk net).tip.take j).map λ k=>((dZ net m i).tick,k)).map sU) rr/\∃ u,ad=[u,some (.int (dZ net m i).tick)])
    (λ D j rr ad H' p=>p.2.1.tup q2) (λ D hD=>⟨hD,aG.new hD,aB,.nil,none,rfl⟩) ?_ ?_⟩
   rotate_left
   ·rintro D j x' rr ad H3 hx ⟨hD,sm3,hDl,lr,u,rfl⟩;rw[aaf] at hx;obtain⟨kk,hk,rfl⟩:=aau.mp hx;have hjl:=(aai.mp hk).1;have hrl:rr.length<=12:=by rw[lr.length];simp;omega
    refine eC ?_;refine⟨_,rfl,_,rfl,(show 2<=sizeLine by decide),λ e he=>?_⟩;have me:=aG.new (o:=HO.tup [.int (dZ net m i).tick,.int (kk:Int)]) he;have nDe:D≠e:=aJ hDl he;have muD:qM (upd H3 e (.tup [.int (dZ net m i).tick,.int (kk:Int)]) D):=by rw[me _ _ hDl];exact trivial
    refine⟨me _ _ hDl,aO (by omega),hD,(sm3.trans me).put hD,aB,?_,_,rfl⟩;rw[aV hk,aam,aam];exact L2.IsL.snoc (Is.tupOf (ds:=[.int (dZ net m i).tick,.int (kk:Int)]) (dS.ts (K:=K) dS.upd muD _ _ (bM.of aB)) (.cons (Is.i _) (.cons (Is.i _) .nil))) (L2.IsL.mono (me.ts.trans (dS.ts dS.upd muD)) _ _ lr)
   ·rintro D rr ad H3 ⟨hD,sm3,hDl,lr,_⟩;rw[aad,aas] at lr;have ht3:=sm3 _ _ ht2;have l1:tvs.length<=12 * i:=by rw[lt1.length,aad];exact nN nok i
    have l2:rr.length<=12:=by rw[lr.length];simp;omega
    refine⟨tl,D,_,_,rfl,rfl,ht3,hDl,aby (D7 (by omega)),?_⟩;have mu3:qM (H3 tl):=by rw[ht3];exact trivial
    have ts3:bP K H3 (upd H3 tl (.lst (tvs++rr))):=dS.ts dS.upd mu3;have s13:=sm2.trans sm3;refine⟨(s1.trans s13).put htl,⟨_,aB,?_⟩,p1,Is.mono ts3 _ _ (Is.mono sm3.ts _ _ i1),_,_,_,rfl⟩;show IsL K _ ((nO net m i++lH net (dZ net m i)).map sU) _;rw[aam];exact IsL.app (L2.IsL.mono (s13.ts.trans ts3) _ _ lt1) (L2.IsL.mono ts3 _ _ lr)
  ·exact λ ad H' p=>hD _ _ p
def jQ (l:List (Int×Nat)) (i:Nat):List Int:=(l.filter λ p=>decide (p.2=i)).map (·.1)
theorem y8 (l:List (Int×Nat)) (p:Int×Nat) (i:Nat):jQ (l++[p]) i=jQ l i++(if p.2=i then [p.1] else []):=by
 unfold jQ;rw[List.filter_append,aam]
 by_cases h:p.2=i
 ·simp [h]
 ·simp [h]
theorem zY (l:List (Int×Nat)) (i:Nat):(jQ l i).length<=l.length:=by
 unfold jQ;rw[aad];exact acu _ _
theorem nM:∀ (i:Nat) (vs:List Vs) (hs:List Int) (k:Nat),k∈bA i vs hs->i<=k
 | i,[],_,k,h=>by simp [bA] at h
 | i,_::_,[],k,h=>by simp [bA] at h
 | i,v::vs,b::hs,k,h=>by
  unfold bA at h
  split at h
  ·rcases aax.1 h with rfl | h
   ·exact aaj _
   ·have:=nM (i+1) vs hs k h;omega
  ·have:=nM (i+1) vs hs k h;omega
theorem i9:∀ (i:Nat) (vs:List Vs) (hs:List Int),(bA i vs hs).Nodup
 | i,[],_=>by simp [bA]
 | i,_::_,[]=>by simp [bA]
 | i,v::vs,b::hs=>by
  unfold bA
  split
  ·rw[acs];exact⟨λ h=>by have:=nM (i+1) vs hs i h;omega,i9 (i+1) vs hs⟩
  ·exact i9 (i+1) vs hs
theorem rR {l:List Nat} (k:Nat) (h:l.Nodup):l.filter (λ x=>decide (x=k))=if k∈l then [k] else []:=by
 induction l with
 | nil=>simp
 | cons a l ih=>
  rw[acs] at h;rw[List.filter_cons]
  by_cases e:a=k
  ·subst e;rw[if_pos (by simp),ih h.2,if_neg h.1,if_pos (by simp)]
  ·rw[if_neg (by simpa using e),ih h.2];have:(k∈a::l)↔k∈l:=by simp [Ne.symm e]
   by_cases q:k∈l
   ·rw[if_pos q,if_pos (this.2 q)]
   ·rw[if_neg q,if_neg (λ z=>q (this.1 z))]
theorem D1 (l:List Nat) (t:Int) (k:Nat) (h:l.Nodup):jQ (l.map λ i=>(t,i)) k=if k∈l then [t] else []:=by
 unfold jQ;rw[List.filter_map,acd];have e:((λ (p:Int×Nat)=>decide (p.2=k)) ∘ λ i=>(t,i))=λ x=>decide (x=k):=rfl;rw[e,rR k h]
 split <;> rfl
theorem sT (a b:List (Int×Nat)) (k:Nat):jQ (a++b) k=jQ a k++jQ b k:=by unfold jQ;rw[List.filter_append,aam]
theorem rL (net:Net):∀ t,(dZ net (gH net) t).tick=(t:Int)/\(dZ net (gH net) t).held=(gB net t).held/\(dZ net (gH net) t).coming=(gB net t).coming/\(dZ net (gH net) t).doors=(gB net t).doors/\(dZ net (gH net) t).poured=d7 net.vs.length
 | 0=>⟨rfl,rfl,rfl,rfl,rfl⟩
 | t+1=>by
  obtain⟨h1,h2,h3,h4,h5⟩:=rL net t;have e:(dZ net (gH net) t).tk net=(gB net t).tk net:=by unfold Mom.tk Sta.tk;rw[h2,h3,h4,h5]
  refine⟨?_,?_,?_,?_,rfl⟩
  ·show (dZ net (gH net) t).tick+1=_;rw[h1];omega
  ·show ((dZ net (gH net) t).tk net).held=_;rw[e];rfl
  ·show ((dZ net (gH net) t).tk net).coming=_;rw[e];rfl
  ·show ((dZ net (gH net) t).tk net).doors=_;rw[e];rfl
theorem DU (net:Net) (t:Nat):((dZ net (gH net) t).tk net).tip=hU net t:=by
 obtain⟨h1,h2,h3,h4,h5⟩:=rL net t;unfold Mom.tk hU Sta.tk;rw[h2,h3,h4,h5]
theorem sV (net:Net) (t:Nat):(hU net t).Nodup:=i9 _ _ _
def gJ (l:List Nat):List Int:=l.map λ (i:Nat)=>(i:Int)
theorem pS (net:Net) (k:Nat):∀ n,jQ (nO net (gH net) n) k=gJ (dD net n k)
 | 0=>rfl
 | n+1=>by
  show jQ (nO net (gH net) n++lH net (dZ net (gH net) n)) k=_;rw[sT,pS net k n,m7];unfold lH;rw[DU,(rL net n).1,D1 _ _ _ (sV net n)];unfold gJ;rw[aam]
  split <;> rfl
def fM (net:Net) (n j:Nat) (seen:List Int) (cs:List (Option Nat)):List (Option Nat):=cs.filter λ fo=>decide (gJ (dD (aW net fo) n j)=seen)
def aX (net:Net):List (Option Nat):=none::(List.range net.vs.length).map some
theorem mH (net:Net) (n j:Nat) (seen:List Int) (cs:List (Option Nat)) (c:Option Nat):fM net n j seen (cs++[c])=fM net n j seen cs++(if gJ (dD (aW net c) n j)=seen then [c] else []):=by
 unfold fM;rw[List.filter_append]
 by_cases h:gJ (dD (aW net c) n j)=seen
 ·simp [h]
 ·simp [h]
theorem jX (net:Net) (n j:Nat) (seen:List Int) (cs:List (Option Nat)):(fM net n j seen cs).length<=cs.length:=acu _ _
def nV (K:aab):Sp:=λ vs H Q _=>∃ (j:Nat) (ts:List (Int×Nat)) (z:Addr) (tvs:List V),vs=[.int (j:Int),.ref z]/\bM K H z tvs/\IsL K H (ts.map sU) tvs/\ts.length<=2000000/\
 ∀ l H',aG H H'->H l=none->H' l=some (.lst ((jQ ts j).map V.int))->Q (.ref l) H'
theorem D3 {H:Hp}{t:Int×Nat}{v:V} (h:Is K H (sU t) v):∃ a,v=.ref a/\bM K H a [.int t.1,.int (t.2:Int)]:=by
 obtain⟨e,zs,rfl,qe,le⟩:=(show Is K H (.tup [.int t.1,.int (t.2:Int)]) v from h).un;obtain⟨x1,r1,rfl,h1,le⟩:=le.un;obtain⟨x2,r2,rfl,h2,le⟩:=le.un;have:=le.un0;subst this;have:=h1.ui;subst this;have:=h2.ui;subst this;exact⟨e,rfl,qe⟩
theorem o6:FnScope ["vessel","tipped"] ["vessel","tipped"] (aP (bQ 33)):={}
theorem vH {f:Addr}{fd:FuncData} (F:Fun K "tips_of" "tips_of" (bQ 33) f fd) (T:Txt mg):FnOk P w K mg base i7 1 f fd ["vessel","tipped"] (nV K):=by
 refine F.ok o6 (λ vs H Q E h=>?_) (λ cdv A outer s H vs Q E hr h=>?_)
 ·obtain⟨j,ts,z,tvs,rfl,_⟩:=h;rfl
 ·obtain⟨j,ts,z,tvs,rfl,qz,lt,hts,k⟩:=h;have sc:=o6;refine⟨_,(aL (bF (fU (λ _ _ h=>h) rfl (LcOk.mk (N':=["tick","number","vessel"]) (fr:=[none,none,some 0]) rfl ⟨rfl,trivial⟩ rfl rfl rfl rfl rfl ⟨⟨_,rfl,rfl,rfl,rfl⟩,trivial⟩) (eL (K:=K) rfl (pv 1)) (λ _ _ _=>(bD (K:=K) (n:=2) rfl rfl (aH (aF (i:=0) (show (["tick","number","vessel"]:List Str).Nodup by decide +kernel) rfl (Or.inl rfl) (Or.inr rfl)) (aH (aF (i:=1) (show (["tick","number","vessel"]:List Str).Nodup by decide +kernel) rfl (Or.inl rfl) (Or.inr rfl)) bB)))) (λ _ _ _=>gU (bL iM (pv 1) (pv 2) (bR _))) (λ _ _ _=>(pv 0))))),?_⟩;have el:tvs.length=ts.length:=by rw[lt.length,aad]
  refine⟨_,rfl,z,rfl,⟨_,qz⟩,jS (K:=K) (a:=z) (xs:=tvs) (λ D i r ad H'=>H D=none/\aG H H'/\H' D=some (.lst r)/\r=(jQ (ts.take i) j).map V.int/\∃ u1 u2,ad=[u1,u2,some (.int (j:Int))])
   (λ D i r ad H' p=>p.2.1.tup qz) (λ D hD=>⟨hD,aG.new hD,aB,rfl,none,none,rfl⟩) ?_ ?_⟩
  rotate_left
  ·rintro D i x r ad H1 hx ⟨hD,sm,hDl,rfl,u1,u2,rfl⟩;obtain⟨d,hd,ix⟩:=L2.IsL.get' lt hx;rw[aaf] at hd;obtain⟨t,ht,rfl⟩:=aau.mp hd;obtain⟨a,rfl,qa⟩:=D3 ix;refine⟨a,_,rfl,sm.tup qa,rfl,_,_,rfl,_,_,rfl,rfl,?_⟩;have hsn:=y8 (ts.take i) t j;rw[<- aV ht] at hsn;have hil:=(aai.mp ht).1;have hln:=zY (ts.take i) j;rw[aat] at hln;refine⟨_,rfl,_,rfl,rfl,_,rfl,?_⟩;refine fJ (λ hT=>?_) (λ hF=>?_)
   ·have e:t.2=j:=by have:=abn hT;injection this with this;omega
    rw[if_pos e] at hsn;refine⟨_,rfl,hDl,mS (by rw[aad];omega),hD,sm.put hD,aB,?_,_,_,rfl⟩;rw[hsn,aam];rfl
   ·have e:¬ t.2=j:=λ e=>hF (abq (by rw[e]));rw[if_neg e,acf] at hsn;exact⟨hD,sm,hDl,by rw[hsn],_,_,rfl⟩
  ·rintro D r ad H1 ⟨hD,sm,hDl,rfl,_⟩;rw[el,aas] at hDl;exact k D _ sm hD hDl
def lJ (K:aab):Sp:=λ vs H Q _=>∃ (x:V) (net:Net) (fo:Option Nat) (n:Nat),vs=[x,cN fo,.int (n:Int)]/\Is K H (eX net) x/\NetOk net/\NetFull net/\(∀ j,fo=some j->j < net.vs.length)/\n<=100000/\
 ∀ p2 tvs H',aG H H'->bM K H' p2 tvs->IsL K H' ((nO (aW net fo) (gH (aW net fo)) n).map sU) tvs->Q (.ref p2) H'
theorem fT:FnScope ["net","case","ticks","going","moment","tipped"] ["net","case","ticks"] (aP (bQ 32)):={}
theorem kU {f f1 f2 f3:Addr}{fd fd1 fd2 fd3:FuncData} (F:Fun K "tipped_in_case" "tipped_in_case" (bQ 32) f fd) (T:Txt mg) (G_stuck_net:Callee P w K mg base "stuck_net" ["net","vessel"] 2 (jR K) f1 fd1)
  (G_moment_gone:Callee P w K mg base "moment_gone" ["net","moment","many"] 6 (mR K) f2 fd2) (G_first_moment:Callee P w K mg base "first_moment" ["net"] 2 (gP K) f3 fd3) :
  FnOk P w K mg base i7 7 f fd ["net","case","ticks"] (lJ K):=by
 refine F.ok fT (λ vs H Q E h=>?_) (λ cdv A outer s H vs Q E hr h=>?_)
 ·obtain⟨x,net,fo,n,rfl,_⟩:=h;rfl
 ·obtain⟨x,net,fo,n,rfl,hx,nok,nfu,hfo,hn,k⟩:=h;have sc:=fT;refine⟨_,(aD (aR (i:=3) sc.nd rfl (Or.inl rfl) (AM (bL vG (pv 1) eF (bR _)) (pv 0) (dF G_stuck_net hr (aA (pv 0) (aA (pv 1) aC)))))
   (aD (cF (dF G_moment_gone hr (aA (pv 3) (aA (dF G_first_moment hr (aA (pv 3) aC)) (aA (pv 2) aC)))) (bD (K:=K) (n:=2) rfl rfl (aH (aF (i:=4) sc.nd rfl (Or.inl rfl)) (aH (aF (i:=5) sc.nd rfl (Or.inl rfl)) bB))))
   (aL (bF (pv 5))))),?_⟩
  have nok':=nP nok nfu fo;have rest:∀ g H1,aG H H1->Is K H1 (eX (aW net fo)) g->iA (iB (m8 (mR K) [] E0 (cI (cZ 3) (cI (m8 (gP K) [] E0 (cI (cZ 3) jF)) (cI (cZ 2) jF)))) (GQ K 2 (BT (dU 4) (BT (dU 5) J1)))) (FN (cZ 5)) { nx:=λ _ H'=>Q .non H',rt:=Q } [some x,some (cN fo),some (.int (n:Int)),some g,none,none] H1:=by
   intro g H1 s1 hg;refine⟨_,rfl,_,rfl,g,_,rfl,hg,nok',λ m H2 s2 im=>⟨_,rfl,g,.ref m,_,_,n,rfl,Is.mono s2.ts _ _ hg,im,nok',DV _,hn,λ p p1 p2 tvs H3 s3 qp _ qt lt=>?_⟩⟩;refine⟨p,_,rfl,qp,rfl,_,_,rfl,_,_,rfl,rfl,?_⟩;exact⟨_,rfl,k p2 tvs _ ((s1.trans s2).trans s3) qt lt⟩
  refine⟨_,rfl,rfl,_,rfl,?_⟩;cases fo with
  | none=>
   refine lB ?_;exact⟨_,rfl,rest x H (aG.refl H) (by rw[sY];exact hx)⟩
  | some j=>
   refine g6 ?_;exact⟨_,rfl,_,rfl,x,net,j,rfl,hx,nok,hfo j rfl,λ p H1 s1 ip=>rest p H1 s1 ip⟩
def nZ (K:aab) (cV:Addr):Sp:=λ vs H Q E=>∃ (x:V) (net:Net) (v:Int) (n:Nat) (sl:Addr) (seen:List Int),vs=[x,.int v,.int (n:Int),.ref sl]/\Is K H (eX net) x/\NetOk net/\NetFull net/\n<=100000/\H sl=some (.lst (seen.map V.int))/\
 ((∃ j:Nat,v=(j:Int)/\j < net.vs.length/\∀ l H',aG H H'->H l=none->H' l=some (.lst ((fM net n j seen (aX net)).map cN))->Q (.ref l) H')\/(¬ (0<=v/\v < net.vs.length)/\E (.ref cV) none H))
theorem t9:FnScope ["net","watched","ticks","seen","told"] ["net","watched","ticks","seen"] (aP (bQ 31)):={}
theorem yJ {f f1 f2 f3:Addr}{fd fd1 fd2 fd3:FuncData} (F:Fun K "cases" "cases" (bQ 31) f fd) (T:Txt mg) (G_need_vessel:CalleeR P w K mg base "need_vessel" ["net","number"] 2 (qT K c_NoVessel) f1 fd1)
  (G_tips_of:Callee P w K mg base "tips_of" ["vessel","tipped"] 1 (nV K) f2 fd2) (G_tipped_in_case:Callee P w K mg base "tipped_in_case" ["net","case","ticks"] 7 (lJ K) f3 fd3) :
  FnOk P w K mg base (CV P w) 8 f fd ["net","watched","ticks","seen"] (nZ K c_NoVessel):=by
 refine F.okR t9 (λ vs H Q E h=>?_) (λ cdv A outer s H vs Q E hr h L=>?_)
 ·obtain⟨x,net,v,n,sl,seen,rfl,_⟩:=h;rfl
 ·obtain⟨x,net,v,n,sl,seen,rfl,hx,nok,nfu,hn,hsl,k⟩:=h;have sc:=t9;refine⟨_,(aD (d0 (rA G_need_vessel.ok (hr.mono (by decide)) rfl G_need_vessel.mg G_need_vessel.kp G_need_vessel.bd .nil (DL L) (aA (pv 0) (aA (pv 1) aC))))
   (aD (aR (i:=4) sc.nd rfl (Or.inl rfl) (aT fZ (bC (aA eF aC)) (r9 rfl rfl T.b_list rfl T.b_range (aN (bE (K:=K) rfl) rfl T.b_len aba (aA (aS (aI (K:=K) rfl) (pv 0) aE (λ _ _=>rfl)) aC)))))
   (aL (DE λ pn=>(bF (fU (λ _ _ h=>h) rfl (LcOk.mk (N':=["case","seen","watched","net","ticks"]) (fr:=[none,some 3,some 1,some 0,some 2]) rfl ⟨rfl,rfl,rfl,rfl,trivial⟩ rfl rfl rfl rfl rfl ⟨⟨_,rfl,rfl,rfl,rfl⟩,⟨_,rfl,rfl,rfl,rfl⟩,⟨_,rfl,rfl,rfl,rfl⟩,⟨_,rfl,rfl,rfl,rfl⟩,trivial⟩) (eP (K:=K) rfl (pv 4)) (λ _ _ _=>(aF (i:=0) (show (["case","seen","watched","net","ticks"]:List Str).Nodup by decide +kernel) rfl (Or.inl rfl) (Or.inr rfl))) (λ _ _ _=>gU (bL (wP (K:=K) rfl hr.units) (dF G_tips_of hr (aA (pv 2) (aA (dF G_tipped_in_case hr (aA (pv 3) (aA (pv 0) (aA (pv 4) aC)))) aC))) (pv 1) (bR _))) (λ _ _ _=>(pv 0)))))))),?_⟩
  have n2:=nok.hi;refine⟨_,rfl,_,rfl,x,net,v,rfl,hx,?_⟩;rcases k with ⟨j,rfl,hj,k⟩ | ⟨hv,k⟩;rotate_left
  ·exact .inr ⟨hv,k⟩
  refine .inl ⟨by omega,by omega,?_⟩;obtain⟨a,b,c,xs,ys,ex,q,q1,l1,q2,l2⟩:=dM hx;have exl:xs.length=net.vs.length:=by rw[l1.length,aad]
  refine⟨(show 1<=sizeLine by decide),λ e he=>?_⟩;have s1:=aG.new (o:=HO.lst [.non]) he;refine⟨_,rfl,.inr (.inl ⟨a,_,0,_,ex,rfl,s1.tup q,rfl,b,xs,rfl,.inr (s1.tup q1),net.vs.length,by rw[exl],by omega,λ l hl=>?_⟩)⟩;have s2:=aG.new (o:=HO.lst ((List.range net.vs.length).map λ (i:Nat)=>V.int (i:Int))) hl;have e1:upd (upd H e (.lst [.non])) l (.lst ((List.range net.vs.length).map λ (i:Nat)=>V.int (i:Int))) e=some (.lst [.non]):=s2 _ _ aB;refine⟨e,l,_,_,rfl,rfl,e1,aB,aby (aO (by simp;omega)),λ t ht=>?_⟩;have s3:=aG.new (o:=HO.lst ([V.non]++(List.range net.vs.length).map λ (i:Nat)=>V.int (i:Int))) ht;have et:([V.non]++(List.range net.vs.length).map λ (i:Nat)=>V.int (i:Int))=(aX net).map cN:=by
   unfold aX;rw[abe,acd];rfl
  rw[et] at s3 ⊢;have ht2:upd (upd (upd H e (.lst [.non])) l (.lst ((List.range net.vs.length).map λ (i:Nat)=>V.int (i:Int)))) t (.lst ((aX net).map cN)) t=some (.lst ((aX net).map cN)):=aB;have s03:=(s1.trans s2).trans s3;generalize upd (upd (upd H e (.lst [.non])) l (.lst ((List.range net.vs.length).map λ (i:Nat)=>V.int (i:Int)))) t (.lst ((aX net).map cN))=H3 at s03 ht2;have hlen:(aX net).length<=13:=by unfold aX;simp;omega
  refine⟨_,rfl,t,rfl,⟨_,bN.of ht2⟩,kZ (K:=K) (a:=t) (xs:=(aX net).map cN) (λ D i r ad H'=>H3 D=none/\aG H3 H'/\H' D=some (.lst r)/\r=(fM net n j seen ((aX net).take i)).map cN/\∃ u,ad=[u,some (.ref sl),some (.int (j:Int)),some x,some (.int (n:Int))])
   (λ D i r ad H' p=>bN.of (p.2.1 _ _ ht2)) (λ D hD=>⟨hD,aG.new hD,aB,rfl,none,rfl⟩) ?_ ?_⟩
  rotate_left
  ·rintro D i y r ad H4 hy ⟨hD,sm,hDl,rfl,u,rfl⟩;rw[aaf] at hy;obtain⟨fo,hfo,rfl⟩:=aau.mp hy;have hfo':∀ j,fo=some j->j < net.vs.length:=by
    intro j' e';subst e';have:=abl hfo;unfold aX at this;rcases aax.1 this with h | h
    ·cases h
    ·obtain⟨z,hz,ez⟩:=acq.1 h;injection ez with ez;subst ez;exact acx.1 hz
   have s4:aG H H4:=s03.trans sm;dsimp only [dU];refine⟨_,rfl,_,rfl,_,rfl,_,rfl,x,net,fo,n,rfl,Is.mono s4.ts _ _ hx,nok,nfu,hfo',hn,λ p2 tvs H5 s5 qt lt=>?_⟩;have htn:=nN (m:=gH (aW net fo)) (nP nok nfu fo) n;refine⟨j,_,p2,tvs,rfl,qt,lt,by omega,λ l2 H6 s6 fl hl6=>?_⟩;rw[pS] at hl6;have s46:=s5.trans s6;have hsl6:H6 sl=some (.lst (seen.map V.int)):=s46 _ _ (s4 _ _ hsl);refine⟨_,rfl,.lst ((gJ (dD (aW net fo) n j)).map G.int),.lst (seen.map G.int),by rw[gL,h9];decide,aQ.l (bN.of hl6) (cX.ints _),aQ.l (bN.of hsl6) (cX.ints _),_,rfl,?_⟩;rw[aY,lW];have hsn:=mH net n j seen ((aX net).take i) fo;rw[<- aV hfo] at hsn;have hcl:=jX net n j seen ((aX net).take i);rw[aat] at hcl;have hDl6:=s46 _ _ hDl;refine fJ (λ hT=>?_) (λ hF=>?_)
   ·rw[if_pos (abn hT)] at hsn;refine⟨_,rfl,hDl6,aO (by rw[aad];omega),hD,(sm.trans s46).put hD,aB,?_,_,rfl⟩;rw[hsn,aam];rfl
   ·rw[if_neg (λ e=>hF (abq e)),acf] at hsn;exact⟨hD,sm.trans s46,hDl6,by rw[hsn],_,rfl⟩
  ·rintro D r ad H4 ⟨hD,sm,hDl,rfl,_⟩;rw[aad,aas] at hDl;exact k D _ (s03.trans sm) (s03.free hD) hDl
end Tw
namespace TwS
open PySem PyProof.Rows
def lD:Bool->Keyed->Array Keyed->Nat->Nat->Nat->StateT SortSt Sem (Option Nat):=sortPriv% PySem.Builtin.gallop
section
variable {prog:Program}{A:Around}{E:Value->Shared->Prop}{s:Shared}{kd:SortKind}{a₀:Array Keyed}
def CU (prog:Program) (w:World) (A:Around) (s:Shared) (kd:SortKind) (a₀:Array Keyed):Prop:=∀ x∈a₀.toList,∀ y∈a₀.toList,∀ (E:Value->Shared->Prop) (Q:Bool->Shared->Prop),(∀ b,Q b s)->wpAny (model prog w) A (keyLt' kd x.1 y.1) Q E s
theorem iR {de:Type}{a b:Nat}{f:Nat->de->StateT SortSt Sem (ForInStep de)} (I:de->SortSt->Prop) {Q:de->SortSt->Prop}
  (hstep:∀ i c st,I c st->wpS (model prog w) A E s (f i c) (λ r st'=>match r with | .done c'=>I c' st' | .yield c'=>I c' st') st) {c:de}{st:SortSt} (h:I c st) (hq:∀ c st,I c st->Q c st):wpS (model prog w) A E s (forIn [a:b] c f) Q st:=by
 refine wpS_mono (wpS_forRange (I:=λ _ c st=>I c st) (Q:=I) (λ i c st _ _ hi=>hstep i c st hi) (λ c st h=>h) h) hq
theorem tM (hC:CU prog w A s kd a₀) {x y:Keyed} (hx:x∈a₀.toList) (hy:y∈a₀.toList) {st:SortSt} (hk:kindOf st=kd) {Q:Option Bool->SortSt->Prop} (h:∀ b,Q (some b) st):wpS (model prog w) A E s (lt' x y) Q st:=by
 rw[lt'_eq];refine wpS_bind (wpS_get ?_);rw[hk];refine wpS_bind (wpS_lift (wpAny_attempt (hC x hx y hy _ _ λ b=>⟨rfl,?_⟩)));exact wpS_pure (h b)
theorem bZ {arr:Array Keyed}{i:Nat}{p:Keyed} (hi:arr[i]? = some p) {st:SortSt}{Q:Keyed->SortSt->Prop} (h:Q p st):wpS (model prog w) A E s (elem' arr i) Q st:=by
 rw[elem'_eq,hi];exact wpS_pure h
theorem fA (hC:CU prog w A s kd a₀) {st:SortSt} (hk:kindOf st=kd) {left:Bool}{key:Keyed} (hkey:key∈a₀.toList) {arr:Array Keyed}{base n hint:Nat} (hsub:∀ i,i < n->∃ p,arr[base+i]? = some p/\p∈a₀.toList) (hh:hint < n)
  {Q:Option Nat->SortSt->Prop} (h:∀ r,r<=n->Q (some r) st):wpS (model prog w) A E s (lD left key arr base n hint) Q st:=by
 have hb:∀ {i:Nat}{Q:Option Bool->SortSt->Prop},i < n->(∀ b,Q (some b) st)->wpS (model prog w) A E s (do
   let x <- elem' arr (base+i)
   if left=true then lt' x key else return (<- lt' key x).map (!·)) Q st:=λ {i Q} hi hq=>by
  obtain⟨p,hp,hm⟩:=hsub i hi;refine wpS_bind (bZ hp ?_);cases left with
  | true=>rw[if_pos rfl];exact tM hC hm hkey hk hq
  | false=>
   rw[if_neg (by decide)];exact wpS_bind (tM hC hkey hm hk λ b=>wpS_pure (hq _))
 refine wpS_bind (hb hh λ right=>?_);dsimp only;cases right with
 | true=>
  rw[if_pos rfl];refine wpS_bind (iR (I:=λ c st'=>st=st'/\∃ l o,c=(none,l,o)) ?_ ⟨rfl,0,1,rfl⟩ ?_)
  ·rintro i c _ ⟨rfl,l,o,rfl⟩;dsimp only
   by_cases hge:o ≥ n - hint
   ·rw[if_pos hge];exact wpS_pure ⟨rfl,l,o,rfl⟩
   ·rw[if_neg hge];refine wpS_bind (hb (by omega) λ b=>?_);cases b <;> exact wpS_pure ⟨rfl,_,_,rfl⟩
  ·rintro c _ ⟨rfl,l,o,rfl⟩;refine wpS_bind (iR (I:=λ c st'=>st=st'/\∃ l o,c=(none,l,o)/\o<=n) ?_ ⟨rfl,_,_,rfl,by dsimp only;omega⟩ ?_)
   ·rintro i c _ ⟨rfl,l,o,rfl,ho⟩;dsimp only
    by_cases hge:l ≥ o
    ·rw[if_pos hge];exact wpS_pure ⟨rfl,l,o,rfl,ho⟩
    ·rw[if_neg hge];refine wpS_bind (hb (by omega) λ b=>?_);cases b
     ·exact wpS_pure ⟨rfl,_,_,rfl,by omega⟩
     ·exact wpS_pure ⟨rfl,_,_,rfl,ho⟩
   ·rintro c _ ⟨rfl,l,o,rfl,ho⟩;exact wpS_pure (h o ho)
 | false=>
  rw[if_neg (by decide)];refine wpS_bind (iR (I:=λ c st'=>st=st'/\∃ l o,c=(none,l,o)) ?_ ⟨rfl,0,1,rfl⟩ ?_)
  ·rintro i c _ ⟨rfl,l,o,rfl⟩;dsimp only
   by_cases hge:o ≥ hint+1
   ·rw[if_pos hge];exact wpS_pure ⟨rfl,l,o,rfl⟩
   ·rw[if_neg hge];refine wpS_bind (hb (by omega) λ b=>?_);cases b <;> exact wpS_pure ⟨rfl,_,_,rfl⟩
  ·rintro c _ ⟨rfl,l,o,rfl⟩;refine wpS_bind (iR (I:=λ c st'=>st=st'/\∃ l o,c=(none,l,o)/\o<=n) ?_ ⟨rfl,_,_,rfl,by dsimp only;omega⟩ ?_)
   ·rintro i c _ ⟨rfl,l,o,rfl,ho⟩;dsimp only
    by_cases hge:l ≥ o
    ·rw[if_pos hge];exact wpS_pure ⟨rfl,l,o,rfl,ho⟩
    ·rw[if_neg hge];refine wpS_bind (hb (by omega) λ b=>?_);cases b
     ·exact wpS_pure ⟨rfl,_,_,rfl,by omega⟩
     ·exact wpS_pure ⟨rfl,_,_,rfl,ho⟩
   ·rintro c _ ⟨rfl,l,o,rfl,ho⟩;exact wpS_pure (h o ho)
end
def fY:Nat->StateT SortSt Sem Unit:=sortPriv% PySem.Builtin.setMinGallop
abbrev FW (st:SortSt) (g:Nat):SortSt:=SortSt.mk' (kindOf st) (arrOf st) (pendingOf st) g (failedOf st)
theorem mU {prog:Program}{w:World}{A:Around}{E:Value->Shared->Prop}{s:Shared}{g:Nat}{st:SortSt}{Q:Unit->SortSt->Prop} (h:Q () (FW st g)):wpS (model prog w) A E s (fY g) Q st:=wpS_modify (f:=λ s=>FW s g) h
def B0:Array Keyed->Array Keyed->StateT SortSt Sem (Array Keyed):=sortPriv% PySem.Builtin.mergeLo
abbrev MM:=StateT SortSt Sem
abbrev EB:=Option (Array Keyed)×Array Keyed×Nat×Nat×Nat×Nat×Nat
abbrev u9:=Option (Array Keyed)×Array Keyed×Nat×Nat×Nat×Nat
def DX (a b out:Array Keyed) (ia ib g ac bc:Nat):MM (ForInStep EB):=do
 let x <- elem' a ia
 if (ia+1+1 == a.size)=true then pure (.done (some (out.push x++b.extract ib b.size++a.extract (ia+1) a.size),out.push x,ia+1,ib,g,ac,bc))
 else if (decide (ac < 7) && decide (bc < 7))=true then pure (.done (none,out.push x,ia+1,ib,g,ac,bc)) else pure (.yield (none,out.push x,ia+1,ib,g,ac,bc))
def DY (a b out:Array Keyed) (ia ib g ac bc:Nat):MM (ForInStep EB):=do
 let y <- elem' b ib
 if (ib+1 == b.size)=true then pure (.done (some (out.push y++a.extract ia a.size++b.extract (ib+1) b.size),out.push y,ia,ib+1,g,ac,bc))
 else do
  let x <- elem' a ia;let r <- lD true x b (ib+1) (b.size - (ib+1)) 0
  match r with
  | some k=>if k > 0 then (if (ib+1+k == b.size)=true then pure (.done (some (out.push y++b.extract (ib+1) (ib+1+k)++a.extract ia a.size++b.extract (ib+1+k) b.size),out.push y++b.extract (ib+1) (ib+1+k),ia,ib+1+k,g,ac,k)) else DX a b (out.push y++b.extract (ib+1) (ib+1+k)) ia (ib+1+k) g ac k) else DX a b (out.push y) ia (ib+1) g ac k
  | _=>pure (.done (some (out.push y++a.extract ia a.size++b.extract (ib+1) b.size),out.push y,ia,ib+1,g,ac,bc))
def IR (a b out:Array Keyed) (ia ib g ac bc:Nat):MM (ForInStep EB):=do
 fY g
 let y <- elem' b ib;let r <- lD false y a ia (a.size - ia) 0
 match r with
 | some k=>if k > 0 then (if (ia+k+1 == a.size)=true then pure (.done (some (out++a.extract ia (ia+k)++b.extract ib b.size++a.extract (ia+k) a.size),out++a.extract ia (ia+k),ia+k,ib,g,k,bc)) else if (ia+k == a.size)=true then pure (.done (some (out++a.extract ia (ia+k)++a.extract (ia+k) a.size++b.extract ib b.size),out++a.extract ia (ia+k),ia+k,ib,g,k,bc)) else DY a b (out++a.extract ia (ia+k)) (ia+k) ib g k bc) else DY a b out ia ib g k bc
 | _=>pure (.done (some (out++a.extract ia a.size++b.extract ib b.size),out,ia,ib,g,ac,bc))
def IP (a b:Array Keyed) (g:Nat) (c:u9):MM (ForInStep u9):=do
 let y <- elem' b c.2.2.2.1
 if (c.2.2.2.1+1 == b.size)=true then pure (.done (some (c.2.1.push y++a.extract c.2.2.1 a.size++b.extract (c.2.2.2.1+1) b.size),c.2.1.push y,c.2.2.1,c.2.2.2.1+1,0,c.2.2.2.2.2+1))
 else if c.2.2.2.2.2+1 ≥ g then pure (.done (none,c.2.1.push y,c.2.2.1,c.2.2.2.1+1,0,c.2.2.2.2.2+1)) else pure (.yield (none,c.2.1.push y,c.2.2.1,c.2.2.2.1+1,0,c.2.2.2.2.2+1))
def IQ (a b:Array Keyed) (g:Nat) (c:u9):MM (ForInStep u9):=do
 let x <- elem' a c.2.2.1
 if (c.2.2.1+1+1 == a.size)=true then pure (.done (some (c.2.1.push x++b.extract c.2.2.2.1 b.size++a.extract (c.2.2.1+1) a.size),c.2.1.push x,c.2.2.1+1,c.2.2.2.1,c.2.2.2.2.1+1,0))
 else if c.2.2.2.2.1+1 ≥ g then pure (.done (none,c.2.1.push x,c.2.2.1+1,c.2.2.2.1,c.2.2.2.2.1+1,0)) else pure (.yield (none,c.2.1.push x,c.2.2.1+1,c.2.2.2.1,c.2.2.2.2.1+1,0))
def loI (a b:Array Keyed) (g:Nat) (c:u9):MM (ForInStep u9):=do
 let y <- elem' b c.2.2.2.1;let x <- elem' a c.2.2.1;let r <- lt' y x
 match r with
 | some bw=>if bw=true then IP a b g c else IQ a b g c
 | _=>pure (.done (some (c.2.1++a.extract c.2.2.1 a.size++b.extract c.2.2.2.1 b.size),c.2.1,c.2.2.1,c.2.2.2.1,c.2.2.2.2.1,c.2.2.2.2.2))
section
variable {prog:Program}{A:Around}{E:Value->Shared->Prop}{s:Shared}{kd:SortKind}{a₀:Array Keyed}
structure SmM (st st':SortSt):Prop where
 a:arrOf st'=arrOf st
 k:kindOf st'=kindOf st
 p:pendingOf st'=pendingOf st
 f:failedOf st'=failedOf st
open Classical in
def ct (l:List Keyed) (p:Keyed):Nat:=(l.filter λ q=>decide (q=p)).length
theorem cO (l m:List Keyed) (p:Keyed):ct (l++m) p=ct l p+ct m p:=by unfold ct;rw[List.filter_append,aaw]
theorem rX (l:List Keyed) (p:Keyed):ct l.reverse p=ct l p:=by unfold ct;rw[List.filter_reverse,List.length_reverse]
open Classical in
theorem mV {l m:List Keyed} (h:∀ p,ct l p=ct m p):l.Perm m:=by
 refine List.perm_iff_count.mpr λ p=>?_;have e:∀ l:List Keyed,List.count p l=ct l p:=λ l=>by
  unfold ct;rw[List.count_eq_length_filter];congr 1;refine List.filter_congr λ x _=>?_
  by_cases h:x=p <;> simp [h]
 rw[e,e,h]
theorem rV (a:Array Keyed) (i:Nat):(a.extract i a.size).toList=a.toList.drop i:=by
 rw[Array.toList_extract,List.extract_eq_take_drop,abv (by rw[List.length_drop,aap];exact aaj _)]
theorem rT (a:Array Keyed) (i k:Nat):(a.extract i (i+k)).toList=(a.toList.drop i).take k:=by
 rw[Array.toList_extract,List.extract_eq_take_drop,Nat.add_sub_cancel_left]
theorem eV (l:List Keyed) (i:Nat) (p:Keyed):ct l p=ct (l.take i) p+ct (l.drop i) p:=by rw[<- cO,List.take_append_drop]
theorem rZ (l:List Keyed) (i k:Nat) (p:Keyed):ct (l.take (i+k)) p=ct (l.take i) p+ct ((l.drop i).take k) p:=by rw[<- cO,List.take_add]
theorem rY {a:Array Keyed}{i:Nat}{x:Keyed} (h:a[i]? = some x) (p:Keyed):ct (a.toList.take (i+1)) p=ct (a.toList.take i) p+ct [x] p:=by
 rw[<- cO,List.take_add_one,abm,h];rfl
theorem cE {a:Array Keyed}{i:Nat} (h:i < a.size):∃ x,a[i]? = some x/\x∈a.toList:=⟨a[i],aaq h,by simp⟩
structure LO (a b out:Array Keyed) (ia ib:Nat):Prop where
 ha:ia<=a.size
 hb:ib<=b.size
 ct:∀ p,ct out.toList p=TwS.ct (a.toList.take ia) p+TwS.ct (b.toList.take ib) p
section
variable {a b out:Array Keyed}{ia ib:Nat}
theorem tN {a:Array Keyed}{i:Nat}{x:Keyed} (h:a[i]? = some x):i < a.size:=(Array.getElem?_eq_some_iff.mp h).1
theorem LO.pushA (L:LO a b out ia ib) {x:Keyed} (h:a[ia]? = some x):LO a b (out.push x) (ia+1) ib:=⟨tN h,L.hb,λ p=>by
 rw[Array.toList_push,cO,L.ct,rY h];omega⟩
theorem LO.pushB (L:LO a b out ia ib) {x:Keyed} (h:b[ib]? = some x):LO a b (out.push x) ia (ib+1):=⟨L.ha,tN h,λ p=>by
 rw[Array.toList_push,cO,L.ct,rY h];omega⟩
theorem LO.appA (L:LO a b out ia ib) {k:Nat} (h:ia+k<=a.size):LO a b (out++a.extract ia (ia+k)) (ia+k) ib:=⟨h,L.hb,λ p=>by
 rw[Array.toList_append,cO,L.ct,rT,rZ];omega⟩
theorem LO.appB (L:LO a b out ia ib) {k:Nat} (h:ib+k<=b.size):LO a b (out++b.extract ib (ib+k)) ia (ib+k):=⟨L.ha,h,λ p=>by
 rw[Array.toList_append,cO,L.ct,rT,rZ];omega⟩
theorem LO.done (L:LO a b out ia ib):(out++a.extract ia a.size++b.extract ib b.size).toList.Perm (a.toList++b.toList):=mV λ p=>by
 rw[Array.toList_append,Array.toList_append,cO,cO,cO,L.ct,rV,rV,eV a.toList ia,eV b.toList ib];omega
theorem LO.last (L:LO a b out ia ib):(out++b.extract ib b.size++a.extract ia a.size).toList.Perm (a.toList++b.toList):=mV λ p=>by
 rw[Array.toList_append,Array.toList_append,cO,cO,cO,L.ct,rV,rV,eV a.toList ia,eV b.toList ib];omega
end
theorem SmM.refl (st:SortSt):SmM st st:=⟨rfl,rfl,rfl,rfl⟩
theorem SmM.g {st st':SortSt} (h:SmM st st') (g:Nat):SmM st (FW st' g):=⟨h.a,h.k,h.p,h.f⟩
section
variable {a b:Array Keyed}{st:SortSt}{n:Nat}
def FF (a b:Array Keyed) (st:SortSt) (n:Nat) (r:Option (Array Keyed)) (out:Array Keyed) (ia ib:Nat) (st':SortSt):Prop:=
 SmM st st'/\((∃ z,r=some z/\z.toList.Perm (a.toList++b.toList))\/(r=none/\LO a b out ia ib/\ia+1 < a.size/\ib < b.size/\n<=ia+ib))
abbrev GT (a b:Array Keyed) (st:SortSt) (n:Nat):ForInStep EB->SortSt->Prop
 | .done c,st'=>FF a b st n c.1 c.2.1 c.2.2.1 c.2.2.2.1 st'
 | .yield c,st'=>c.1=none/\FF a b st n c.1 c.2.1 c.2.2.1 c.2.2.2.1 st'
variable (hC:CU prog w A s kd a₀)(ha:∀ p∈a.toList,p∈a₀.toList)(hb:∀ p∈b.toList,p∈a₀.toList)
theorem wT {out:Array Keyed}{ia ib g ac bc:Nat}{st':SortSt} (sm:SmM st st') (L:LO a b out ia ib) (h1:ia+1 < a.size) (h2:ib < b.size) (hn:n<=ia+ib):wpS (model prog w) A E s (DX a b out ia ib g ac bc) (GT a b st n) st':=by
 unfold DX;obtain⟨x,hx,_⟩:=cE (show ia < a.size by omega);refine wpS_bind (bZ hx ?_);have L4:=L.pushA hx
 by_cases e:ia+1+1=a.size
 ·rw[if_pos (by simpa using e)];exact wpS_pure ⟨sm,.inl ⟨_,rfl,L4.last⟩⟩
 ·rw[if_neg (by simpa using e)]
  split
  ·exact wpS_pure ⟨sm,.inr ⟨rfl,L4,by dsimp only;omega,by dsimp only;omega,by dsimp only;omega⟩⟩
  ·exact wpS_pure ⟨rfl,sm,.inr ⟨rfl,L4,by dsimp only;omega,by dsimp only;omega,by dsimp only;omega⟩⟩
include hC ha hb in
theorem wU {out:Array Keyed}{ia ib g ac bc:Nat}{st':SortSt} (sm:SmM st st') (hk:kindOf st=kd) (L:LO a b out ia ib) (h1:ia+1 < a.size) (h2:ib < b.size) (hn:n<=ia+ib):wpS (model prog w) A E s (DY a b out ia ib g ac bc) (GT a b st n) st':=by
 unfold DY;obtain⟨y,hy,_⟩:=cE h2;obtain⟨x,hx,hxm⟩:=cE (show ia < a.size by omega);refine wpS_bind (bZ hy ?_);have L2:=L.pushB hy
 by_cases e:ib+1=b.size
 ·rw[if_pos (by simpa using e)];exact wpS_pure ⟨sm,.inl ⟨_,rfl,L2.done⟩⟩
 ·rw[if_neg (by simpa using e)];refine wpS_bind (bZ hx ?_);refine wpS_bind (fA hC (sm.k.trans hk) (ha _ hxm) (λ i hi=>?_) (by omega) λ k hk2=>?_)
  ·obtain⟨z,hz,hm⟩:=cE (a:=b) (show ib+1+i < b.size by omega);exact⟨z,hz,hb _ hm⟩
  dsimp only
  by_cases e2:k > 0
  ·rw[if_pos e2];have L3:=L2.appB (k:=k) (by omega)
   by_cases e3:ib+1+k=b.size
   ·rw[if_pos (by simpa using e3)];exact wpS_pure ⟨sm,.inl ⟨_,rfl,L3.done⟩⟩
   ·rw[if_neg (by simpa using e3)];exact wT sm L3 h1 (by omega) (by omega)
  ·rw[if_neg e2];exact wT sm L2 h1 (by omega) (by omega)
include hC ha hb in
theorem wV {out:Array Keyed}{ia ib g ac bc:Nat}{st':SortSt} (sm:SmM st st') (hk:kindOf st=kd) (L:LO a b out ia ib) (h1:ia+1 < a.size) (h2:ib < b.size) (hn:n<=ia+ib):wpS (model prog w) A E s (IR a b out ia ib g ac bc) (GT a b st n) st':=by
 unfold IR;refine wpS_bind (mU ?_);have sm:=sm.g g;obtain⟨y,hy,hym⟩:=cE h2;refine wpS_bind (bZ hy ?_);refine wpS_bind (fA hC (sm.k.trans hk) (hb _ hym) (λ i hi=>?_) (by omega) λ k hk2=>?_)
 ·obtain⟨z,hz,hm⟩:=cE (a:=a) (show ia+i < a.size by omega);exact⟨z,hz,ha _ hm⟩
 dsimp only
 by_cases e2:k > 0
 ·rw[if_pos e2];have L3:=L.appA (k:=k) (by omega)
  by_cases e3:ia+k+1=a.size
  ·rw[if_pos (by simpa using e3)];exact wpS_pure ⟨sm,.inl ⟨_,rfl,L3.last⟩⟩
  ·rw[if_neg (by simpa using e3)]
   by_cases e4:ia+k=a.size
   ·rw[if_pos (by simpa using e4)];exact wpS_pure ⟨sm,.inl ⟨_,rfl,L3.done⟩⟩
   ·rw[if_neg (by simpa using e4)];exact wU hC ha hb sm hk L3 (by omega) h2 (by omega)
 ·rw[if_neg e2];exact wU hC ha hb sm hk L h1 h2 hn
abbrev J3 (a b:Array Keyed) (st:SortSt) (n:Nat):u9->SortSt->Prop:=λ c st'=>FF a b st n c.1 c.2.1 c.2.2.1 c.2.2.2.1 st'
include hC ha hb in
theorem GC {c:u9}{g m:Nat}{st':SortSt} (sm:SmM st st') (hk:kindOf st=kd) (L:LO a b c.2.1 c.2.2.1 c.2.2.2.1) (h1:c.2.2.1+1 < a.size) (h2:c.2.2.2.1 < b.size) (hn:m<=c.2.2.1+c.2.2.2.1) :
  wpS (model prog w) A E s (loI a b g c) (λ r st'=>match r with | .done c=>J3 a b st (m+1) c st' | .yield c=>c.1=none/\J3 a b st (m+1) c st') st':=by
 unfold loI;obtain⟨y,hy,hym⟩:=cE h2;obtain⟨x,hx,hxm⟩:=cE (show c.2.2.1 < a.size by omega);refine wpS_bind (bZ hy (wpS_bind (bZ hx ?_)));refine wpS_bind (tM hC (hb _ hym) (ha _ hxm) (sm.k.trans hk) λ bw=>?_);dsimp only;cases bw with
 | true=>
  rw[if_pos rfl];unfold IP;refine wpS_bind (bZ hy ?_);have L2:=L.pushB hy
  by_cases e:c.2.2.2.1+1=b.size
  ·rw[if_pos (by simpa using e)];exact wpS_pure ⟨sm,.inl ⟨_,rfl,L2.done⟩⟩
  ·rw[if_neg (by simpa using e)]
   split
   ·exact wpS_pure ⟨sm,.inr ⟨rfl,L2,by dsimp only;omega,by dsimp only;omega,by dsimp only;omega⟩⟩
   ·exact wpS_pure ⟨rfl,sm,.inr ⟨rfl,L2,by dsimp only;omega,by dsimp only;omega,by dsimp only;omega⟩⟩
 | false=>
  rw[if_neg (by decide)];unfold IQ;refine wpS_bind (bZ hx ?_);have L2:=L.pushA hx
  by_cases e:c.2.2.1+1+1=a.size
  ·rw[if_pos (by simpa using e)];exact wpS_pure ⟨sm,.inl ⟨_,rfl,L2.last⟩⟩
  ·rw[if_neg (by simpa using e)]
   split
   ·exact wpS_pure ⟨sm,.inr ⟨rfl,L2,by dsimp only;omega,by dsimp only;omega,by dsimp only;omega⟩⟩
   ·exact wpS_pure ⟨rfl,sm,.inr ⟨rfl,L2,by dsimp only;omega,by dsimp only;omega,by dsimp only;omega⟩⟩
include hC ha hb in
theorem vL (hk:kindOf st=kd) (ha1:1<=a.size) (hb1:1<=b.size) {Q:Array Keyed->SortSt->Prop} (h:∀ out st',SmM st st'->out.toList.Perm (a.toList++b.toList)->Q out st'):wpS (model prog w) A E s (B0 a b) Q st:=by
 refine wpS_bind (wpS_lift (acg ⟨rfl,?_⟩));dsimp only;obtain⟨y,hy,hym⟩:=cE (show 0 < b.size by omega);refine wpS_bind (bZ hy ?_);have L0:LO a b #[y] 0 1:=⟨abg _,hb1,λ p=>by rw[rY hy];show ct [y] p=ct (List.take 0 a.toList) p+(ct (List.take 0 b.toList) p+ct [y] p);rw[List.take_zero,List.take_zero];show _=0+(0+_);omega⟩
 by_cases e1:1=b.size
 ·rw[if_pos (by simpa using e1)];exact wpS_pure (h _ _ (SmM.refl _) L0.done)
 rw[if_neg (by simpa using e1)]
 by_cases e2:0+1=a.size
 ·rw[if_pos (by simpa using e2)];exact wpS_pure (h _ _ (SmM.refl _) L0.last)
 rw[if_neg (by simpa using e2)];refine wpS_bind (wpS_get ?_);refine wpS_bind (wpS_mono (wpS_forRange (I:=λ i c st'=>c.1=none/\FF a b st (1+i) c.1 c.2.1 c.2.2.1 c.2.2.2.1 st') (Q:=λ c st'=>SmM st st'/\∃ z,c.1=some z/\z.toList.Perm (a.toList++b.toList)) ?step ?fin ⟨rfl,SmM.refl _,.inr ⟨rfl,L0,by dsimp only;omega,by dsimp only;omega,aaj _⟩⟩) ?post)
 case fin=>
  rintro c st' ⟨hn,sm,⟨z,e,_⟩ | ⟨_,L,h1,h2,h3⟩⟩
  ·rw[hn] at e;cases e
  ·omega
 case post=>
  rintro⟨r,rest⟩ st' ⟨sm,z,e,p⟩;cases e;exact wpS_pure (h z st' sm p)
 case step=>
  rintro i ⟨r,out,ia,ib,g⟩ st' _ hi ⟨hn,sm,hg⟩;dsimp only at hn hg ⊢;subst hn;rcases hg with ⟨z,e,_⟩ | ⟨_,L,h1,h2,h3⟩
  ·cases e
  refine wpS_bind (wpS_mono (wpS_forRange (I:=λ j c st'=>c.1=none/\FF a b st (1+i+min j 1) c.1 c.2.1 c.2.2.1 c.2.2.2.1 st') (Q:=λ c st'=>FF a b st (1+(i+1)) c.1 c.2.1 c.2.2.1 c.2.2.2.1 st') ?s1 ?f1 ⟨rfl,sm,.inr ⟨rfl,L,h1,h2,h3⟩⟩) ?p1)
  case f1=>
   rintro c st2 ⟨_,hg⟩;rw[show 1+i+min (max 0 (a.size+b.size)) 1=1+(i+1) by omega] at hg;exact hg
  case s1=>
   rintro j c st2 _ _ ⟨hn,sm2,⟨z,e,_⟩ | ⟨_,L2,k1,k2,k3⟩⟩
   ·rw[hn] at e;cases e
   refine wpS_mono (GC (m:=1+i) (g:=g) hC ha hb sm2 hk L2 k1 k2 (by omega)) λ r st3 hr=>?_;cases r with
   | done c=>exact hr
   | yield c=>exact⟨hr.1,by rw[show 1+i+min (j+1) 1=1+i+1 by omega];exact hr.2⟩
  case p1=>
   rintro⟨r,out2,ia2,ib2,ac,bc⟩ st2 ⟨sm2,hg⟩;dsimp only at hg ⊢;rcases hg with ⟨z,rfl,p⟩ | ⟨rfl,L2,k1,k2,k3⟩
   ·exact wpS_pure ⟨sm2,z,rfl,p⟩
   dsimp only;refine wpS_bind (wpS_lift (acg ⟨rfl,?_⟩));refine wpS_bind (wpS_mono (wpS_forRange (I:=λ j c st'=>c.1=none/\FF a b st (1+(i+1)) c.1 c.2.1 c.2.2.1 c.2.2.2.1 st') (Q:=λ c st'=>FF a b st (1+(i+1)) c.1 c.2.1 c.2.2.1 c.2.2.2.1 st') ?s2 (λ c st' hg=>hg.2) ⟨rfl,sm2,.inr ⟨rfl,L2,k1,k2,k3⟩⟩) ?p2)
   case s2=>
    rintro j c st3 _ _ ⟨hn,sm3,⟨z,e,_⟩ | ⟨_,L3,m1,m2,m3⟩⟩
    ·rw[hn] at e;cases e
    by_cases hgt:c.2.2.2.2.1 > 1
    ·rw[if_pos hgt];refine wpS_mono (wV (g:=c.2.2.2.2.1 - 1) (ac:=c.2.2.2.2.2.1) (bc:=c.2.2.2.2.2.2) hC ha hb sm3 hk L3 m1 m2 m3) λ r st4 hr=>?_;cases r <;> exact hr
    ·rw[if_neg hgt];refine wpS_mono (wV (g:=c.2.2.2.2.1) (ac:=c.2.2.2.2.2.1) (bc:=c.2.2.2.2.2.2) hC ha hb sm3 hk L3 m1 m2 m3) λ r st4 hr=>?_;cases r <;> exact hr
   case p2=>
    rintro⟨r,out3,ia3,ib3,g3,ac3,bc3⟩ st3 ⟨sm3,hg⟩;dsimp only at hg ⊢;rcases hg with ⟨z,rfl,p⟩ | ⟨rfl,L3,m1,m2,m3⟩
    ·exact wpS_pure ⟨sm3,z,rfl,p⟩
    dsimp only;refine wpS_bind (mU ?_);exact wpS_pure ⟨rfl,sm3.g _,.inr ⟨rfl,L3,m1,m2,m3⟩⟩
end
end
def B1:Array Keyed->Array Keyed->StateT SortSt Sem (Array Keyed):=sortPriv% PySem.Builtin.mergeHi
abbrev ED:=Option (Array Keyed)×Nat×Nat×Array Keyed×Nat×Nat×Nat
abbrev wA:=Option (Array Keyed)×Nat×Nat×Array Keyed×Nat×Nat
def E4 (a b out:Array Keyed) (na nb g ac bc:Nat):MM (ForInStep ED):=do
 let x <- elem' a (na - 1)
 if (na - 1 == 0)=true then pure (.done (some (a.extract 0 (na - 1)++b.extract 0 nb++(out.push x).reverse),na - 1,nb,out.push x,g,ac,bc))
 else if (decide (ac < 7) && decide (bc < 7))=true then pure (.done (none,na - 1,nb,out.push x,g,ac,bc)) else pure (.yield (none,na - 1,nb,out.push x,g,ac,bc))
def E5 (a b out:Array Keyed) (na nb g ac bc:Nat):MM (ForInStep ED):=do
 let y <- elem' b (nb - 1)
 if (nb - 1 == 1)=true then pure (.done (some (b.extract 0 (nb - 1)++a.extract 0 na++(out.push y).reverse),na,nb - 1,out.push y,g,ac,bc))
 else do
  let x <- elem' a (na - 1);let r <- lD true x b 0 (nb - 1) (nb - 1 - 1)
  match r with
  | some t=>if nb - 1 - t > 0 then (if (t == 1)=true then pure (.done (some (b.extract 0 t++a.extract 0 na++(out.push y++(b.extract t (nb - 1)).reverse).reverse),na,t,out.push y++(b.extract t (nb - 1)).reverse,g,ac,nb - 1 - t)) else if (t == 0)=true then pure (.done (some (a.extract 0 na++b.extract 0 t++(out.push y++(b.extract t (nb - 1)).reverse).reverse),na,t,out.push y++(b.extract t (nb - 1)).reverse,g,ac,nb - 1 - t)) else E4 a b (out.push y++(b.extract t (nb - 1)).reverse) na t g ac (nb - 1 - t)) else E4 a b (out.push y) na (nb - 1) g ac (nb - 1 - t)
  | _=>pure (.done (some (a.extract 0 na++b.extract 0 (nb - 1)++(out.push y).reverse),na,nb - 1,out.push y,g,ac,bc))
def IZ (a b out:Array Keyed) (na nb g ac bc:Nat):MM (ForInStep ED):=do
 fY g
 let y <- elem' b (nb - 1);let r <- lD false y a 0 na (na - 1)
 match r with
 | some t=>if na - t > 0 then (if (t == 0)=true then pure (.done (some (a.extract 0 t++b.extract 0 nb++(out++(a.extract t na).reverse).reverse),t,nb,out++(a.extract t na).reverse,g,na - t,bc)) else E5 a b (out++(a.extract t na).reverse) t nb g (na - t) bc) else E5 a b out na nb g (na - t) bc
 | _=>pure (.done (some (a.extract 0 na++b.extract 0 nb++out.reverse),na,nb,out,g,ac,bc))
def IY (a b:Array Keyed) (g:Nat) (c:wA):MM (ForInStep wA):=do
 let x <- elem' a (c.2.1 - 1)
 if (c.2.1 - 1 == 0)=true then pure (.done (some (a.extract 0 (c.2.1 - 1)++b.extract 0 c.2.2.1++(c.2.2.2.1.push x).reverse),c.2.1 - 1,c.2.2.1,c.2.2.2.1.push x,c.2.2.2.2.1+1,0))
 else if c.2.2.2.2.1+1 ≥ g then pure (.done (none,c.2.1 - 1,c.2.2.1,c.2.2.2.1.push x,c.2.2.2.2.1+1,0)) else pure (.yield (none,c.2.1 - 1,c.2.2.1,c.2.2.2.1.push x,c.2.2.2.2.1+1,0))
def IX (a b:Array Keyed) (g:Nat) (c:wA):MM (ForInStep wA):=do
 let y <- elem' b (c.2.2.1 - 1)
 if (c.2.2.1 - 1 == 1)=true then pure (.done (some (b.extract 0 (c.2.2.1 - 1)++a.extract 0 c.2.1++(c.2.2.2.1.push y).reverse),c.2.1,c.2.2.1 - 1,c.2.2.2.1.push y,0,c.2.2.2.2.2+1))
 else if c.2.2.2.2.2+1 ≥ g then pure (.done (none,c.2.1,c.2.2.1 - 1,c.2.2.2.1.push y,0,c.2.2.2.2.2+1)) else pure (.yield (none,c.2.1,c.2.2.1 - 1,c.2.2.2.1.push y,0,c.2.2.2.2.2+1))
def hiI (a b:Array Keyed) (g:Nat) (c:wA):MM (ForInStep wA):=do
 let y <- elem' b (c.2.2.1 - 1);let x <- elem' a (c.2.1 - 1);let r <- lt' y x
 match r with
 | some aw=>if aw=true then IY a b g c else IX a b g c
 | _=>pure (.done (some (a.extract 0 c.2.1++b.extract 0 c.2.2.1++c.2.2.2.1.reverse),c.2.1,c.2.2.1,c.2.2.2.1,c.2.2.2.2.1,c.2.2.2.2.2))
theorem xN {a:Array Keyed}{i:Nat}{x:Keyed} (h:a[i - 1]? = some x) (hi:1<=i) (p:Keyed):ct (a.toList.drop (i - 1)) p=ct (a.toList.drop i) p+ct [x] p:=by
 have e1:=eV a.toList (i - 1) p;have e2:=eV a.toList i p;have e3:=rY h p;rw[show i - 1+1=i by omega] at e3;omega
theorem rS (a:Array Keyed) (i:Nat):(a.extract 0 i).toList=a.toList.take i:=by rw[Array.toList_extract,List.extract_eq_take_drop,List.drop_zero,Nat.sub_zero]
theorem tX {a:Array Keyed}{t i:Nat} (h:t<=i) (p:Keyed):ct (a.toList.drop t) p=ct (a.extract t i).toList p+ct (a.toList.drop i) p:=by
 have e1:=eV a.toList t p;have e2:=eV a.toList i p;have e3:=rZ a.toList t (i - t) p;rw[show t+(i - t)=i by omega] at e3;have e4:(a.extract t i).toList=(a.toList.drop t).take (i - t):=by rw[Array.toList_extract,List.extract_eq_take_drop]
 rw[e4];omega
structure HI (a b out:Array Keyed) (na nb:Nat):Prop where
 ha:na<=a.size
 hb:nb<=b.size
 ct:∀ p,ct out.toList p=TwS.ct (a.toList.drop na) p+TwS.ct (b.toList.drop nb) p
section
variable {a b out:Array Keyed}{na nb:Nat}
theorem HI.pushA (L:HI a b out na nb) {x:Keyed} (h:a[na - 1]? = some x) (h1:1<=na):HI a b (out.push x) (na - 1) nb:=⟨by have:=L.ha;omega,L.hb,λ p=>by
 rw[Array.toList_push,cO,L.ct,xN h h1];omega⟩
theorem HI.pushB (L:HI a b out na nb) {x:Keyed} (h:b[nb - 1]? = some x) (h1:1<=nb):HI a b (out.push x) na (nb - 1):=⟨L.ha,by have:=L.hb;omega,λ p=>by
 rw[Array.toList_push,cO,L.ct,xN h h1];omega⟩
theorem HI.appA (L:HI a b out na nb) {t:Nat} (h:t<=na):HI a b (out++(a.extract t na).reverse) t nb:=⟨by have:=L.ha;omega,L.hb,λ p=>by
 rw[Array.toList_append,Array.toList_reverse,cO,rX,L.ct,tX h];omega⟩
theorem HI.appB (L:HI a b out na nb) {t:Nat} (h:t<=nb):HI a b (out++(b.extract t nb).reverse) na t:=⟨L.ha,by have:=L.hb;omega,λ p=>by
 rw[Array.toList_append,Array.toList_reverse,cO,rX,L.ct,tX h];omega⟩
theorem HI.done (L:HI a b out na nb):(a.extract 0 na++b.extract 0 nb++out.reverse).toList.Perm (a.toList++b.toList):=mV λ p=>by
 rw[Array.toList_append,Array.toList_append,Array.toList_reverse,cO,cO,cO,rX,L.ct,rS,rS,eV a.toList na,eV b.toList nb];omega
theorem HI.first (L:HI a b out na nb):(b.extract 0 nb++a.extract 0 na++out.reverse).toList.Perm (a.toList++b.toList):=mV λ p=>by
 rw[Array.toList_append,Array.toList_append,Array.toList_reverse,cO,cO,cO,rX,L.ct,rS,rS,eV a.toList na,eV b.toList nb];omega
end
section
variable {prog:Program}{A:Around}{E:Value->Shared->Prop}{s:Shared}{kd:SortKind}{a₀:Array Keyed}{a b:Array Keyed}{st:SortSt}{n:Nat}
def EE (a b:Array Keyed) (st:SortSt) (n:Nat) (r:Option (Array Keyed)) (na nb:Nat) (out:Array Keyed) (st':SortSt):Prop:=
 SmM st st'/\((∃ z,r=some z/\z.toList.Perm (a.toList++b.toList))\/(r=none/\HI a b out na nb/\1<=na/\2<=nb/\n+na+nb<=a.size+b.size))
abbrev GU (a b:Array Keyed) (st:SortSt) (n:Nat):ForInStep ED->SortSt->Prop
 | .done c,st'=>EE a b st n c.1 c.2.1 c.2.2.1 c.2.2.2.1 st'
 | .yield c,st'=>c.1=none/\EE a b st n c.1 c.2.1 c.2.2.1 c.2.2.2.1 st'
variable (hC:CU prog w A s kd a₀)(ha:∀ p∈a.toList,p∈a₀.toList)(hb:∀ p∈b.toList,p∈a₀.toList)
theorem xA {out:Array Keyed}{na nb g ac bc:Nat}{st':SortSt} (sm:SmM st st') (L:HI a b out na nb) (h1:1<=na) (h2:2<=nb) (hn:n+na+nb<=a.size+b.size):wpS (model prog w) A E s (E4 a b out na nb g ac bc) (GU a b st n) st':=by
 unfold E4;have:=L.ha;obtain⟨x,hx,_⟩:=cE (a:=a) (show na - 1 < a.size by omega);refine wpS_bind (bZ hx ?_);have L4:=L.pushA hx h1
 by_cases e:na - 1=0
 ·rw[if_pos (by simpa using e)];exact wpS_pure ⟨sm,.inl ⟨_,rfl,L4.done⟩⟩
 ·rw[if_neg (by simpa using e)]
  split
  ·exact wpS_pure ⟨sm,.inr ⟨rfl,L4,by dsimp only;omega,h2,by dsimp only;omega⟩⟩
  ·exact wpS_pure ⟨rfl,sm,.inr ⟨rfl,L4,by dsimp only;omega,h2,by dsimp only;omega⟩⟩
include hC ha hb in
theorem xB {out:Array Keyed}{na nb g ac bc:Nat}{st':SortSt} (sm:SmM st st') (hk:kindOf st=kd) (L:HI a b out na nb) (h1:1<=na) (h2:2<=nb) (hn:n+na+nb<=a.size+b.size):wpS (model prog w) A E s (E5 a b out na nb g ac bc) (GU a b st n) st':=by
 unfold E5;have l1:=L.ha;have l2:=L.hb;obtain⟨y,hy,_⟩:=cE (a:=b) (show nb - 1 < b.size by omega);obtain⟨x,hx,hxm⟩:=cE (a:=a) (show na - 1 < a.size by omega);refine wpS_bind (bZ hy ?_);have L2:=L.pushB hy (by omega)
 by_cases e:nb - 1=1
 ·rw[if_pos (by simpa using e)];exact wpS_pure ⟨sm,.inl ⟨_,rfl,L2.first⟩⟩
 ·rw[if_neg (by simpa using e)];refine wpS_bind (bZ hx ?_);refine wpS_bind (fA hC (sm.k.trans hk) (ha _ hxm) (λ i hi=>?_) (by omega) λ t ht=>?_)
  ·obtain⟨z,hz,hm⟩:=cE (a:=b) (show 0+i < b.size by omega);exact⟨z,hz,hb _ hm⟩
  dsimp only
  by_cases e2:nb - 1 - t > 0
  ·rw[if_pos e2];have L3:=L2.appB (t:=t) (by omega)
   by_cases e3:t=1
   ·rw[if_pos (by simpa using e3)];exact wpS_pure ⟨sm,.inl ⟨_,rfl,L3.first⟩⟩
   ·rw[if_neg (by simpa using e3)]
    by_cases e4:t=0
    ·rw[if_pos (by simpa using e4)];exact wpS_pure ⟨sm,.inl ⟨_,rfl,L3.done⟩⟩
    ·rw[if_neg (by simpa using e4)];exact xA sm L3 h1 (by omega) (by omega)
  ·rw[if_neg e2];exact xA sm L2 h1 (by omega) (by omega)
include hC ha hb in
theorem xC {out:Array Keyed}{na nb g ac bc:Nat}{st':SortSt} (sm:SmM st st') (hk:kindOf st=kd) (L:HI a b out na nb) (h1:1<=na) (h2:2<=nb) (hn:n+na+nb<=a.size+b.size):wpS (model prog w) A E s (IZ a b out na nb g ac bc) (GU a b st n) st':=by
 unfold IZ;refine wpS_bind (mU ?_);have sm:=sm.g g;have l1:=L.ha;have l2:=L.hb;obtain⟨y,hy,hym⟩:=cE (a:=b) (show nb - 1 < b.size by omega);refine wpS_bind (bZ hy ?_);refine wpS_bind (fA hC (sm.k.trans hk) (hb _ hym) (λ i hi=>?_) (by omega) λ t ht=>?_)
 ·obtain⟨z,hz,hm⟩:=cE (a:=a) (show 0+i < a.size by omega);exact⟨z,hz,ha _ hm⟩
 dsimp only
 by_cases e2:na - t > 0
 ·rw[if_pos e2];have L3:=L.appA (t:=t) (by omega)
  by_cases e3:t=0
  ·rw[if_pos (by simpa using e3)];exact wpS_pure ⟨sm,.inl ⟨_,rfl,L3.done⟩⟩
  ·rw[if_neg (by simpa using e3)];exact xB hC ha hb sm hk L3 (by omega) h2 (by omega)
 ·rw[if_neg e2];exact xB hC ha hb sm hk L h1 h2 hn
include hC ha hb in
theorem GO {c:wA}{g m:Nat}{st':SortSt} (sm:SmM st st') (hk:kindOf st=kd) (L:HI a b c.2.2.2.1 c.2.1 c.2.2.1) (h1:1<=c.2.1) (h2:2<=c.2.2.1) (hn:m+c.2.1+c.2.2.1<=a.size+b.size) :
  wpS (model prog w) A E s (hiI a b g c) (λ r st'=>match r with | .done c=>EE a b st (m+1) c.1 c.2.1 c.2.2.1 c.2.2.2.1 st' | .yield c=>c.1=none/\EE a b st (m+1) c.1 c.2.1 c.2.2.1 c.2.2.2.1 st') st':=by
 unfold hiI;have l1:=L.ha;have l2:=L.hb;obtain⟨y,hy,hym⟩:=cE (a:=b) (show c.2.2.1 - 1 < b.size by omega);obtain⟨x,hx,hxm⟩:=cE (a:=a) (show c.2.1 - 1 < a.size by omega);refine wpS_bind (bZ hy (wpS_bind (bZ hx ?_)));refine wpS_bind (tM hC (hb _ hym) (ha _ hxm) (sm.k.trans hk) λ aw=>?_);dsimp only;cases aw with
 | true=>
  rw[if_pos rfl];unfold IY;refine wpS_bind (bZ hx ?_);have L2:=L.pushA hx h1
  by_cases e:c.2.1 - 1=0
  ·rw[if_pos (by simpa using e)];exact wpS_pure ⟨sm,.inl ⟨_,rfl,L2.done⟩⟩
  ·rw[if_neg (by simpa using e)]
   split
   ·exact wpS_pure ⟨sm,.inr ⟨rfl,L2,by dsimp only;omega,h2,by dsimp only;omega⟩⟩
   ·exact wpS_pure ⟨rfl,sm,.inr ⟨rfl,L2,by dsimp only;omega,h2,by dsimp only;omega⟩⟩
 | false=>
  rw[if_neg (by decide)];unfold IX;refine wpS_bind (bZ hy ?_);have L2:=L.pushB hy (by omega)
  by_cases e:c.2.2.1 - 1=1
  ·rw[if_pos (by simpa using e)];exact wpS_pure ⟨sm,.inl ⟨_,rfl,L2.first⟩⟩
  ·rw[if_neg (by simpa using e)]
   split
   ·exact wpS_pure ⟨sm,.inr ⟨rfl,L2,h1,by dsimp only;omega,by dsimp only;omega⟩⟩
   ·exact wpS_pure ⟨rfl,sm,.inr ⟨rfl,L2,h1,by dsimp only;omega,by dsimp only;omega⟩⟩
include hC ha hb in
theorem vM (hk:kindOf st=kd) (ha1:1<=a.size) (hb1:1<=b.size) {Q:Array Keyed->SortSt->Prop} (h:∀ out st',SmM st st'->out.toList.Perm (a.toList++b.toList)->Q out st'):wpS (model prog w) A E s (B1 a b) Q st:=by
 refine wpS_bind (wpS_lift (acg ⟨rfl,?_⟩));dsimp only;obtain⟨x,hx,hxm⟩:=cE (a:=a) (show a.size - 1 < a.size by omega);refine wpS_bind (bZ hx ?_);have L00:HI a b #[] a.size b.size:=⟨aaj _,aaj _,λ p=>by
  rw[show a.toList.drop a.size=[] from List.drop_eq_nil_of_le (by rw[aap];exact aaj _),show b.toList.drop b.size=[] from List.drop_eq_nil_of_le (by rw[aap];exact aaj _)];rfl⟩
 have L0:HI a b #[x] (a.size - 1) b.size:=L00.pushA hx ha1
 by_cases e1:a.size - 1=0
 ·rw[if_pos (by simpa using e1)];exact wpS_pure (h _ _ (SmM.refl _) L0.done)
 rw[if_neg (by simpa using e1)]
 by_cases e2:b.size=1
 ·rw[if_pos (by simpa using e2)];exact wpS_pure (h _ _ (SmM.refl _) L0.first)
 rw[if_neg (by simpa using e2)];refine wpS_bind (wpS_get ?_);refine wpS_bind (wpS_mono (wpS_forRange (I:=λ i c st'=>c.1=none/\EE a b st (1+i) c.1 c.2.1 c.2.2.1 c.2.2.2.1 st') (Q:=λ c st'=>SmM st st'/\∃ z,c.1=some z/\z.toList.Perm (a.toList++b.toList)) ?step ?fin ⟨rfl,SmM.refl _,.inr ⟨rfl,L0,by dsimp only;omega,by dsimp only;omega,by dsimp only;omega⟩⟩) ?post)
 case fin=>
  rintro c st' ⟨hn,sm,⟨z,e,_⟩ | ⟨_,L,h1,h2,h3⟩⟩
  ·rw[hn] at e;cases e
  ·omega
 case post=>
  rintro⟨r,rest⟩ st' ⟨sm,z,e,p⟩;cases e;exact wpS_pure (h z st' sm p)
 case step=>
  rintro i ⟨r,na,nb,out,g⟩ st' _ hi ⟨hn,sm,hg⟩;dsimp only at hn hg ⊢;subst hn;rcases hg with ⟨z,e,_⟩ | ⟨_,L,h1,h2,h3⟩
  ·cases e
  refine wpS_bind (wpS_mono (wpS_forRange (I:=λ j c st'=>c.1=none/\EE a b st (1+i+min j 1) c.1 c.2.1 c.2.2.1 c.2.2.2.1 st') (Q:=λ c st'=>EE a b st (1+(i+1)) c.1 c.2.1 c.2.2.1 c.2.2.2.1 st') ?s1 ?f1 ⟨rfl,sm,.inr ⟨rfl,L,h1,h2,h3⟩⟩) ?p1)
  case f1=>
   rintro c st2 ⟨_,hg⟩;rw[show 1+i+min (max 0 (a.size+b.size)) 1=1+(i+1) by omega] at hg;exact hg
  case s1=>
   rintro j c st2 _ _ ⟨hn,sm2,⟨z,e,_⟩ | ⟨_,L2,k1,k2,k3⟩⟩
   ·rw[hn] at e;cases e
   refine wpS_mono (GO (m:=1+i) (g:=g) hC ha hb sm2 hk L2 k1 k2 (by omega)) λ r st3 hr=>?_;cases r with
   | done c=>exact hr
   | yield c=>exact⟨hr.1,by rw[show 1+i+min (j+1) 1=1+i+1 by omega];exact hr.2⟩
  case p1=>
   rintro⟨r,na2,nb2,out2,ac,bc⟩ st2 ⟨sm2,hg⟩;dsimp only at hg ⊢;rcases hg with ⟨z,rfl,p⟩ | ⟨rfl,L2,k1,k2,k3⟩
   ·exact wpS_pure ⟨sm2,z,rfl,p⟩
   dsimp only;refine wpS_bind (wpS_lift (acg ⟨rfl,?_⟩));refine wpS_bind (wpS_mono (wpS_forRange (I:=λ j c st'=>c.1=none/\EE a b st (1+(i+1)) c.1 c.2.1 c.2.2.1 c.2.2.2.1 st') (Q:=λ c st'=>EE a b st (1+(i+1)) c.1 c.2.1 c.2.2.1 c.2.2.2.1 st') ?s2 (λ c st' hg=>hg.2) ⟨rfl,sm2,.inr ⟨rfl,L2,k1,k2,k3⟩⟩) ?p2)
   case s2=>
    rintro j c st3 _ _ ⟨hn,sm3,⟨z,e,_⟩ | ⟨_,L3,m1,m2,m3⟩⟩
    ·rw[hn] at e;cases e
    by_cases hgt:c.2.2.2.2.1 > 1
    ·rw[if_pos hgt];refine wpS_mono (xC (g:=c.2.2.2.2.1 - 1) (ac:=c.2.2.2.2.2.1) (bc:=c.2.2.2.2.2.2) hC ha hb sm3 hk L3 m1 m2 m3) λ r st4 hr=>?_;cases r <;> exact hr
    ·rw[if_neg hgt];refine wpS_mono (xC (g:=c.2.2.2.2.1) (ac:=c.2.2.2.2.2.1) (bc:=c.2.2.2.2.2.2) hC ha hb sm3 hk L3 m1 m2 m3) λ r st4 hr=>?_;cases r <;> exact hr
   case p2=>
    rintro⟨r,na3,nb3,out3,g3,ac3,bc3⟩ st3 ⟨sm3,hg⟩;dsimp only at hg ⊢;rcases hg with ⟨z,rfl,p⟩ | ⟨rfl,L3,m1,m2,m3⟩
    ·exact wpS_pure ⟨sm3,z,rfl,p⟩
    dsimp only;refine wpS_bind (mU ?_);exact wpS_pure ⟨rfl,sm3.g _,.inr ⟨rfl,L3,m1,m2,m3⟩⟩
end
section
variable {prog:Program}{A:Around}{E:Value->Shared->Prop}{s:Shared}{kd:SortKind}{a₀:Array Keyed}
def nx (p:Array (Nat×Nat×Nat)) (lo i:Nat):Nat:=match p[i]? with
 | some q=>q.1
 | none=>lo
structure PN (p:Array (Nat×Nat×Nat)) (lo:Nat):Prop where
 one:∀ (i:Nat) (q:Nat×Nat×Nat),p[i]? = some q->1<=q.2.1
 nxt:∀ (i:Nat) (q:Nat×Nat×Nat),p[i]? = some q->q.1+q.2.1=nx p lo (i+1)
 le:∀ (i:Nat) (q:Nat×Nat×Nat),p[i]? = some q->q.1+q.2.1<=lo
structure SI (kd:SortKind) (a₀:Array Keyed) (lo:Nat) (st:SortSt):Prop where
 a:(arrOf st).Perm a₀
 k:kindOf st=kd
 f:failedOf st=none
 p:PN (pendingOf st) lo
theorem SI.size {lo:Nat}{st:SortSt} (h:SI kd a₀ lo st):(arrOf st).size=a₀.size:=h.a.size_eq
theorem SI.mem {lo:Nat}{st:SortSt} (h:SI kd a₀ lo st) {p:Keyed} (hp:p∈(arrOf st).toList):p∈a₀.toList:=(Array.perm_iff_toList_perm.mp h.a).mem_iff.mp hp
theorem SI.arr {lo:Nat}{st:SortSt} (h:SI kd a₀ lo st) {xs:Array Keyed} (hp:xs.Perm (arrOf st)):SI kd a₀ lo (setArr st xs):=⟨hp.trans h.a,h.k,h.f,h.p⟩
theorem j5 (hC:CU prog w A s kd a₀) {lo i j:Nat}{st:SortSt} (I:SI kd a₀ lo st) (hi:i < a₀.size) (hj:j < a₀.size) {Q:Option Bool->SortSt->Prop} (h:∀ b,Q (some b) st):wpS (model prog w) A E s (ltAt' i j) Q st:=by
 rw[ltAt'_eq];refine wpS_bind (wpS_get ?_);obtain⟨x,hx,hxm⟩:=cE (a:=arrOf st) (i:=i) (by rw[I.size];exact hi);obtain⟨y,hy,hym⟩:=cE (a:=arrOf st) (i:=j) (by rw[I.size];exact hj);exact wpS_bind (bZ hx (wpS_bind (bZ hy (tM hC (I.mem hxm) (I.mem hym) I.k h))))
theorem FV {σ:Type}{M:Model}{Q:PUnit->σ->Prop}{st st':σ} (h:Q ⟨⟩ st'):wpS M A E s (set st':StateT σ Sem PUnit) Q st:=by
 unfold wpS;rw[StateT.run_set];exact aae ⟨rfl,h⟩
theorem zM (hC:CU prog w A s kd a₀) {bq lo n ok:Nat} (hn:lo+n<=a₀.size) {st:SortSt} (I:SI kd a₀ bq st) {Q:Bool->SortSt->Prop} (h:∀ st',SI kd a₀ bq st'->pendingOf st'=pendingOf st->Q true st'):wpS (model prog w) A E s (binarySort' lo n ok) Q st:=by
 rw[binarySort'_eq];refine wpS_bind (wpS_mono (wpS_forRange (I:=λ _ c st'=>c=(none,())/\SI kd a₀ bq st'/\pendingOf st'=pendingOf st) (Q:=λ c st'=>c=(none,())/\SI kd a₀ bq st'/\pendingOf st'=pendingOf st) ?step (λ _ _ h=>h) ⟨rfl,I,rfl⟩) ?post)
 case post=>
  rintro c st' ⟨rfl,I',hp⟩;exact wpS_pure (h st' I' hp)
 case step=>
  rintro k c st' hak hkn ⟨rfl,I',hp⟩;refine wpS_bind (iR (I:=λ c st''=>st'=st''/\∃ l r,c=(none,l,r)/\r<=k) ?_ ⟨rfl,0,k,rfl,aaj _⟩ ?_)
  ·rintro i c _ ⟨rfl,l,r,rfl,hr⟩;dsimp only
   by_cases hge:l ≥ r
   ·rw[if_pos hge];exact wpS_pure ⟨rfl,l,r,rfl,hr⟩
   ·rw[if_neg hge];refine wpS_bind (j5 hC I' (by omega) (by omega) λ b=>?_);cases b
    ·exact wpS_pure ⟨rfl,_,_,rfl,hr⟩
    ·exact wpS_pure ⟨rfl,_,_,rfl,by omega⟩
  ·rintro c _ ⟨rfl,l,r,rfl,hr⟩;show wpS _ _ _ _ (do moveDown' (lo+k) (lo+l);pure (ForInStep.yield (none,()))) _ _;rw[moveDown'_eq];exact wpS_bind (wpS_modify (wpS_pure ⟨rfl,I'.arr (bubble_perm _ _ _),hp⟩))
theorem CF (hC:CU prog w A s kd a₀) {bq lo n:Nat} (hn:lo+n<=a₀.size) (h1:1<=n) {st:SortSt} (I:SI kd a₀ bq st) {Q:Option Nat->SortSt->Prop} (h:∀ m st',1<=m->m<=n->SI kd a₀ bq st'->pendingOf st'=pendingOf st->Q (some m) st'):wpS (model prog w) A E s (countRun' lo n) Q st:=by
 rw[countRun'_eq];refine wpS_bind (wpS_mono (wpS_forRange (I:=λ x c st'=>st=st'/\c=(none,x)) (Q:=λ c st'=>st=st'/\∃ m,c=(none,m)/\1<=m/\m<=n) ?step ?fin ⟨rfl,rfl⟩) ?post)
 case step=>
  rintro i c _ hi1 hi2 ⟨rfl,rfl⟩;dsimp only;refine wpS_bind (j5 hC I (by omega) (by omega) λ b=>?_);cases b
  ·exact wpS_pure ⟨rfl,rfl⟩
  ·exact wpS_pure ⟨rfl,i,rfl,hi1,by omega⟩
 case fin=>
  rintro c _ ⟨rfl,rfl⟩;exact⟨rfl,_,rfl,by omega,by omega⟩
 case post=>
  rintro c _ ⟨rfl,m,rfl,hm1,hm2⟩;dsimp only
  by_cases e:m=n
  ·rw[if_pos (by simpa using e)];exact wpS_pure (h m st hm1 hm2 I rfl)
  rw[if_neg (by simpa using e)];have hrev:∀ {i j:Nat}{st':SortSt}{Q:Unit->SortSt->Prop},(SI kd a₀ bq st'/\pendingOf st'=pendingOf st)->(∀ st2,SI kd a₀ bq st2/\pendingOf st2=pendingOf st->Q () st2)->wpS (model prog w) A E s (reverseSlice' i j) Q st':=λ hs hq=>wpS_reverse (hq _ ⟨hs.1.arr (mirror_perm _ _ _ _),hs.2⟩)
  by_cases hgt:m > 1
  all_goals first
   | (rw[if_pos hgt]
      refine wpS_bind (j5 hC I (by omega) (by omega) λ b=>?_);dsimp only
      by_cases hb:b=true
      ·rw[if_pos hb];exact wpS_pure (h m st hm1 hm2 I rfl)
      rw[if_neg hb];refine wpS_bind (hrev ⟨I,rfl⟩ λ st1 I1=>?_))
   | (rw[if_neg hgt]
      obtain⟨st1,hst1⟩:∃ st1,st=st1:=⟨st,rfl⟩;have I1:SI kd a₀ bq st1/\pendingOf st1=pendingOf st:=hst1 ▸ ⟨I,rfl⟩;rw[hst1])
  all_goals (
   refine wpS_bind (wpS_lift (acg ⟨rfl,?_⟩));refine wpS_bind (wpS_mono (wpS_forRange (I:=λ x c st'=>(SI kd a₀ bq st'/\pendingOf st'=pendingOf st)/\∃ q,c=(none,x,q)) (Q:=λ c st'=>(SI kd a₀ bq st'/\pendingOf st'=pendingOf st)/\∃ m q,c=(none,m,q)/\1<=m/\m<=n) ?step ?fin ⟨I1,0,rfl⟩) ?post)
   case step=>
    rintro i c st2 hi1 hi2 ⟨I2,q,rfl⟩;dsimp only;refine wpS_bind (j5 hC I2.1 (by omega) (by omega) λ b=>?_);cases b
    ·dsimp only;rw[if_neg (by decide)];refine wpS_bind (j5 hC I2.1 (by omega) (by omega) λ b=>?_);cases b
     ·exact wpS_pure ⟨I2,_,rfl⟩
     ·exact wpS_pure ⟨I2,i,_,rfl,by omega,by omega⟩
    ·dsimp only;rw[if_pos rfl]
     by_cases hq:q > 0
     ·rw[if_pos hq];exact wpS_bind (hrev I2 λ st3 I3=>wpS_pure ⟨I3,_,rfl⟩)
     ·rw[if_neg hq];exact wpS_pure ⟨I2,_,rfl⟩
   case fin=>
    rintro c st2 ⟨I2,q,rfl⟩;exact⟨I2,_,q,rfl,by omega,by omega⟩
   case post=>
    rintro c st2 ⟨I2,m2,q,rfl,h3,h4⟩;dsimp only
    by_cases hq:q > 0
    all_goals first
     | (rw[if_pos hq];refine wpS_bind (hrev I2 λ st3 I3=>?_))
     | (rw[if_neg hq]
        obtain⟨st3,hst3⟩:∃ st3,st2=st3:=⟨st2,rfl⟩;have I3:SI kd a₀ bq st3/\pendingOf st3=pendingOf st:=hst3 ▸ I2;rw[hst3])
    all_goals (
     refine wpS_bind (hrev I3 λ st4 I4=>?_);refine wpS_bind (wpS_mono (wpS_forRange (I:=λ x c st'=>st4=st'/\c=(none,x)) (Q:=λ c st'=>st4=st'/\∃ m,c=(none,m)/\1<=m/\m<=n) ?step ?fin ⟨rfl,rfl⟩) ?post)
     case step=>
      rintro i c _ hi1 hi2 ⟨rfl,rfl⟩;dsimp only;refine wpS_bind (j5 hC I4.1 (by omega) (by omega) λ b=>?_);cases b
      ·exact wpS_pure ⟨rfl,rfl⟩
      ·exact wpS_pure ⟨rfl,i,rfl,by omega,by omega⟩
     case fin=>
      rintro c _ ⟨rfl,rfl⟩;exact⟨rfl,_,rfl,by omega,by omega⟩
     case post=>
      rintro c _ ⟨rfl,m3,rfl,h5,h6⟩;exact wpS_pure (h m3 _ h5 h6 I4.1 I4.2)))
theorem nB (sa:Nat):∀ (l:List Keyed) (k:Nat) (arr:Array Keyed),sa+k+l.length<=arr.size->((l.zipIdx k).foldl (λ a (pj:Keyed×Nat)=>a.setIfInBounds (sa+pj.2) pj.1) arr).toList=arr.toList.take (sa+k)++l++arr.toList.drop (sa+k+l.length)
 | [],k,arr,_=>by simp
 | x::l,k,arr,h=>by
  have hl:sa+k < arr.toList.length:=by rw[abk] at h;rw[aap];omega
  rw[List.zipIdx_cons,List.foldl_cons,nB sa l (k+1) _ (by rw[Array.size_setIfInBounds];rw[abk] at h;omega),Array.toList_setIfInBounds];have e1:(arr.toList.set (sa+k) x).take (sa+(k+1))=arr.toList.take (sa+k)++[x]:=by
   rw[List.set_eq_take_append_cons_drop,if_pos hl,List.take_append,List.take_take,aat,show min (sa+(k+1)) (sa+k)=sa+k by omega,show sa+(k+1) - min (sa+k) arr.toList.length=1 by omega];rfl
  have e2:(arr.toList.set (sa+k) x).drop (sa+(k+1)+l.length)=arr.toList.drop (sa+k+(x::l).length):=by
   rw[List.drop_set,if_pos (by omega)];congr 1;rw[abk];omega
  rw[e1,e2,abw,abw,abw];rfl
theorem uD {arr merged:Array Keyed}{sa sb nb:Nat} (h1:sa<=sb) (h2:sb+nb<=arr.size) (hp:merged.toList.Perm ((arr.extract sa sb).toList++(arr.extract sb (sb+nb)).toList)) :
  (merged.toList.zipIdx.foldl (λ a (pj:Keyed×Nat)=>a.setIfInBounds (sa+pj.2) pj.1) arr).Perm arr:=by
 have e0:(arr.extract sa sb).toList++(arr.extract sb (sb+nb)).toList=(arr.toList.drop sa).take (sb+nb - sa):=by
  have e:=rT arr sa (sb - sa);rw[show sa+(sb - sa)=sb by omega] at e;rw[e,rT,show sb+nb - sa=sb - sa+nb by omega,List.take_add,List.drop_drop,show sa+(sb - sa)=sb by omega]
 rw[e0] at hp;have hl:merged.toList.length=sb+nb - sa:=by
  rw[hp.length_eq,aat,List.length_drop,aap];omega
 rw[Array.perm_iff_toList_perm,nB sa merged.toList 0 arr (by omega)];have e3:arr.toList=arr.toList.take sa++(arr.toList.drop sa).take (sb+nb - sa)++arr.toList.drop (sa+(sb+nb - sa)):=by
  rw[abw,<- List.drop_drop,List.take_append_drop,List.take_append_drop]
 rw[hl,Nat.add_zero]
 conv=>rhs;rw[e3]
 exact (hp.append_left _).append_right _
theorem PN.merge {p:Array (Nat×Nat×Nat)}{lo i:Nat} (P:PN p lo) {x y:Nat×Nat×Nat} (hx:p[i]? = some x) (hy:p[i+1]? = some y):PN ((p.setIfInBounds i (x.1,x.2.1+y.2.1,x.2.2)).eraseIdxIfInBounds (i+1)) lo:=by
 have hi:i+1 < p.size:=(Array.getElem?_eq_some_iff.mp hy).1;have hg:∀ j,((p.setIfInBounds i (x.1,x.2.1+y.2.1,x.2.2)).eraseIdxIfInBounds (i+1))[j]? = if j < i then p[j]? else if j=i then some (x.1,x.2.1+y.2.1,x.2.2) else p[j+1]?:=λ j=>by
  rw[Array.eraseIdxIfInBounds_eq];rw[dif_pos (by rw[Array.size_setIfInBounds];exact hi),Array.getElem?_eraseIdx]
  by_cases h1:j < i
  ·rw[if_pos h1,if_pos (by omega),Array.getElem?_setIfInBounds,if_neg (by omega)]
  ·rw[if_neg h1]
   by_cases h2:j=i
   ·rw[if_pos h2,if_pos (by omega),Array.getElem?_setIfInBounds,if_pos h2.symm,if_pos (by omega)]
   ·rw[if_neg h2,if_neg (by omega),Array.getElem?_setIfInBounds,if_neg (by omega)]
 have hn:∀ j,nx ((p.setIfInBounds i (x.1,x.2.1+y.2.1,x.2.2)).eraseIdxIfInBounds (i+1)) lo j=if j<=i then nx p lo j else nx p lo (j+1):=λ j=>by
  unfold nx;rw[hg]
  by_cases h1:j < i
  ·rw[if_pos h1,if_pos (by omega)]
  ·rw[if_neg h1]
   by_cases h2:j=i
   ·rw[if_pos h2,if_pos (by omega),h2,hx]
   ·rw[if_neg h2,if_neg (by omega)]
 have hx1:=P.nxt i x hx;have hy1:=P.nxt (i+1) y hy;have hx2:=P.one i x hx;have hy2:=P.le (i+1) y hy;have hxy:x.1+x.2.1=y.1:=by rw[hx1];unfold nx;rw[hy]
 refine⟨λ j q hq=>?_,λ j q hq=>?_,λ j q hq=>?_⟩
 ·rw[hg] at hq
  split at hq
  ·exact P.one j q hq
  ·split at hq
   ·cases hq;dsimp only;omega
   ·exact P.one _ q hq
 ·rw[hg] at hq;rw[hn]
  split at hq
  ·rw[if_pos (by omega)];exact P.nxt j q hq
  ·rw[if_neg (by omega)]
   split at hq
   ·next e=>cases hq;subst e;dsimp only;omega
   ·exact P.nxt _ q hq
 ·rw[hg] at hq
  split at hq
  ·exact P.le j q hq
  ·split at hq
   ·cases hq;dsimp only;omega
   ·exact P.le _ q hq
theorem oJ (hC:CU prog w A s kd a₀) {lo i:Nat} (hlo:lo<=a₀.size) {st:SortSt} (I:SI kd a₀ lo st) (hi:i+1 < (pendingOf st).size) {Q:Bool->SortSt->Prop} (h:∀ st',SI kd a₀ lo st'->(pendingOf st').size+1=(pendingOf st).size->Q true st'):wpS (model prog w) A E s (mergeAt' i) Q st:=by
 refine wpS_bind (wpS_get ?_);obtain⟨⟨sa,na,pw⟩,hx⟩:∃ x,(pendingOf st)[i]? = some x:=⟨_,aaq (by omega)⟩;obtain⟨⟨sb,nb,pv⟩,hy⟩:∃ x,(pendingOf st)[i+1]? = some x:=⟨_,aaq hi⟩;rw[hx,hy];have p1:=I.p.one i _ hx;have p2:=I.p.one (i+1) _ hy;have p3:=I.p.le (i+1) _ hy;have p4:sa+na=sb:=by have:=I.p.nxt i _ hx;unfold nx at this;rw[hy] at this;exact this
 have p5:=I.p.merge hx hy;have hsz:=I.size;dsimp only at p1 p2 p3 p5 ⊢;refine wpS_bind (FV ?_);obtain⟨st1,hst1⟩:∃ st1,st1=setPending st (((pendingOf st).setIfInBounds i (sa,na+nb,pw)).eraseIdxIfInBounds (i+1)):=⟨_,rfl⟩;have I1:SI kd a₀ lo st1:=hst1 ▸ ⟨I.a,I.k,I.f,p5⟩;have hz:(pendingOf st1).size+1=(pendingOf st).size:=by
  rw[hst1];show (((pendingOf st).setIfInBounds i (sa,na+nb,pw)).eraseIdxIfInBounds (i+1)).size+1=_;rw[Array.eraseIdxIfInBounds_eq,dif_pos (by rw[Array.size_setIfInBounds];exact hi),Array.size_eraseIdx,Array.size_setIfInBounds];omega
 show wpS _ _ _ _ _ _ (setPending st (((pendingOf st).setIfInBounds i (sa,na+nb,pw)).eraseIdxIfInBounds (i+1)));rw[<- hst1];have harr:arrOf st=arrOf st1:=by rw[hst1]
 have hel:∀ {j:Nat},j < a₀.size->∃ x,(arrOf st)[j]? = some x/\x∈a₀.toList:=λ {j} hj=>by
  obtain⟨x,h1,h2⟩:=cE (a:=arrOf st) (i:=j) (by omega);exact⟨x,h1,I.mem h2⟩
 obtain⟨x,hx,hxm⟩:=hel (j:=sb) (by omega);refine wpS_bind (bZ hx ?_);refine wpS_bind (fA hC I1.k hxm (λ j hj=>hel (by omega)) (by omega) λ k hk=>?_);dsimp only
 by_cases e:na - k=0
 ·rw[if_pos (by simpa using e)];exact wpS_pure (h _ I1 hz)
 rw[if_neg (by simpa using e)];obtain⟨y,hy,hym⟩:=hel (j:=sa+k+(na - k) - 1) (by omega);refine wpS_bind (bZ hy ?_);refine wpS_bind (fA hC I1.k hym (λ j hj=>hel (by omega)) (by omega) λ nc hc=>?_);dsimp only
 by_cases e:nc=0
 ·rw[if_pos (by simpa using e)];exact wpS_pure (h _ I1 hz)
 rw[if_neg (by simpa using e)];have fin:∀ (out:Array Keyed) st',SmM st1 st'->out.toList.Perm (((arrOf st).extract (sa+k) sb).toList++((arrOf st).extract sb (sb+nc)).toList)->Q (failedOf (setArr st' (out.toList.zipIdx.foldl (λ a (pj:Keyed×Nat)=>a.setIfInBounds (sa+k+pj.2) pj.1) (arrOf st')))).isNone (setArr st' (out.toList.zipIdx.foldl (λ a (pj:Keyed×Nat)=>a.setIfInBounds (sa+k+pj.2) pj.1) (arrOf st'))):=λ out st' sm hp=>by
  have e1:(failedOf st').isNone=true:=by rw[sm.f,I1.f];rfl
  show Q (failedOf st').isNone _;rw[e1];refine h _ ⟨?_,sm.k.trans I1.k,sm.f.trans I1.f,?_⟩ ?_
  ·show (out.toList.zipIdx.foldl _ (arrOf st')).Perm a₀;rw[sm.a,<- harr];exact (uD (by omega) (by omega) hp).trans I.a
  ·show PN (pendingOf st') lo;rw[sm.p];exact I1.p
  ·show (pendingOf st').size+1=_;rw[sm.p];exact hz
 have hsub:∀ (i j:Nat) (p:Keyed),p∈((arrOf st).extract i j).toList->p∈a₀.toList:=λ i j p hp=>by
  rw[Array.toList_extract,List.extract_eq_take_drop] at hp;exact I.mem (List.mem_of_mem_drop (List.mem_of_mem_take hp))
 by_cases hle:na - k<=nc
 ·rw[if_pos hle];exact wpS_bind (vL hC (hsub _ _) (hsub _ _) I1.k (by rw[Array.size_extract];omega) (by rw[Array.size_extract];omega) λ out st' sm hp=>wpS_bind (wpS_modify (wpS_bind (wpS_get (wpS_pure (fin out st' sm hp))))))
 ·rw[if_neg hle];exact wpS_bind (vM hC (hsub _ _) (hsub _ _) I1.k (by rw[Array.size_extract];omega) (by rw[Array.size_extract];omega) λ out st' sm hp=>wpS_bind (wpS_modify (wpS_bind (wpS_get (wpS_pure (fin out st' sm hp))))))
theorem DR {p:Array (Nat×Nat×Nat)}{lo n i:Nat} (hi:i<=p.size):nx (p.push (lo,n,0)) (lo+n) i=nx p lo i:=by
 unfold nx;rw[Array.getElem?_push]
 by_cases e:i=p.size
 ·rw[if_pos e,e,Array.getElem?_size]
 ·rw[if_neg e];rw[aaq (show i < p.size by omega)]
theorem PN.push {p:Array (Nat×Nat×Nat)}{lo n:Nat} (P:PN p lo) (h1:1<=n):PN (p.push (lo,n,0)) (lo+n):=by
 have key:∀ (i:Nat) (q:Nat×Nat×Nat),(p.push (lo,n,0))[i]? = some q->(i=p.size/\q=(lo,n,0))\/(i < p.size/\p[i]? = some q):=λ i q hq=>by
  rw[Array.getElem?_push] at hq
  split at hq
  ·next e=>cases hq;exact .inl ⟨e,rfl⟩
  ·exact .inr ⟨(Array.getElem?_eq_some_iff.mp hq).1,hq⟩
 refine⟨λ i q hq=>?_,λ i q hq=>?_,λ i q hq=>?_⟩ <;> rcases key i q hq with ⟨e,rfl⟩ | ⟨e,hq⟩
 ·exact h1
 ·exact P.one i q hq
 ·unfold nx;rw[Array.getElem?_eq_none (by rw[Array.size_push];omega)]
 ·rw[DR (by omega)];exact P.nxt i q hq
 ·exact aaj _
 ·have:=P.le i q hq;omega
theorem PN.power {p:Array (Nat×Nat×Nat)}{lo j pw:Nat} (P:PN p lo):PN (p.modify j λ q=>(q.1,q.2.1,pw)) lo:=by
 have hg:∀ i:Nat,(p.modify j λ q=>(q.1,q.2.1,pw))[i]? = if j=i then p[i]?.map (λ q=>(q.1,q.2.1,pw)) else p[i]?:=λ i=>Array.getElem?_modify ..
 have hn:∀ i,nx (p.modify j λ q=>(q.1,q.2.1,pw)) lo i=nx p lo i:=λ i=>by
  unfold nx;rw[hg]
  by_cases e:j=i
  ·rw[if_pos e];cases p[i]? <;> rfl
  ·rw[if_neg e]
 have key:∀ (i:Nat) (q:Nat×Nat×Nat),(p.modify j λ q=>(q.1,q.2.1,pw))[i]? = some q->∃ q',p[i]? = some q'/\q'.1=q.1/\q'.2.1=q.2.1:=λ i q hq=>by
  rw[hg] at hq
  split at hq
  ·cases h:p[i]? with
   | none=>rw[h] at hq;cases hq
   | some q'=>rw[h] at hq;cases hq;exact⟨q',rfl,rfl,rfl⟩
  ·exact⟨q,hq,rfl,rfl⟩
 refine⟨λ i q hq=>?_,λ i q hq=>?_,λ i q hq=>?_⟩ <;> obtain⟨q',h1,h2,h3⟩:=key i q hq
 ·rw[<- h3];exact P.one i q' h1
 ·rw[hn,<- h2,<- h3];exact P.nxt i q' h1
 ·rw[<- h2,<- h3];exact P.le i q' h1
theorem t8 (hC:CU prog w A s kd a₀) {st:SortSt} (hk:kindOf st=kd) (ha:(arrOf st).Perm a₀) (hf:failedOf st=none) (hp:pendingOf st = #[]) {Q:Unit->SortSt->Prop}
  (h:∀ st',(arrOf st').Perm a₀->failedOf st'=none->Q () st'):wpS (model prog w) A E s sortRuns' Q st:=by
 have I0:SI kd a₀ 0 st:=⟨ha,hk,hf,hp ▸ ⟨λ i q hq=>by simp at hq,λ i q hq=>by simp at hq,λ i q hq=>by simp at hq⟩⟩;rw[sortRuns'_eq];refine wpS_bind (wpS_get ?_);dsimp only;have hsz:=I0.size;rw[hsz];refine wpS_bind (iR (I:=λ c st'=>∃ lo,c=(none,lo)/\lo<=a₀.size/\SI kd a₀ lo st') ?_ ⟨0,rfl,by omega,I0⟩ ?_)
 ·rintro i c st1 ⟨lo,rfl,hlo,I1⟩;dsimp only
  by_cases hge:lo ≥ a₀.size
  ·rw[if_pos hge];exact wpS_pure ⟨lo,rfl,hlo,I1⟩
  rw[if_neg hge];refine wpS_bind (CF hC (by omega) (by omega) I1 λ m st2 hm1 hm2 I2 _=>?_);dsimp only;have push:∀ (n:Nat) (st3:SortSt),SI kd a₀ lo st3->1<=n->lo+n<=a₀.size->∃ lo',((none:Option Unit),lo+n)=(none,lo')/\lo'<=a₀.size/\SI kd a₀ lo' (setPending st3 ((pendingOf st3).push (lo,n,0))):=
   λ n st3 I3 h1 h2=>⟨lo+n,rfl,h2,I3.a,I3.k,I3.f,I3.p.push h1⟩
  by_cases hlt:m < minRun' a₀.size a₀.size 0
  all_goals first
   | (rw[if_pos hlt]
      refine wpS_bind (wpS_lift (acg ⟨rfl,?_⟩));refine wpS_bind (zM hC (by omega) I2 λ st3 I3 _=>?_);simp only [Bool.not_true,Bool.false_eq_true,if_false];have hn1:1<=min (a₀.size - lo) (minRun' a₀.size a₀.size 0):=by omega
      have hn2:lo+min (a₀.size - lo) (minRun' a₀.size a₀.size 0)<=a₀.size:=by omega
      generalize min (a₀.size - lo) (minRun' a₀.size a₀.size 0)=n at hn1 hn2 ⊢)
   | (rw[if_neg hlt]
      obtain⟨st3,e3⟩:∃ st3,st2=st3:=⟨_,rfl⟩;obtain⟨n,en⟩:∃ n,m=n:=⟨_,rfl⟩;have I3:SI kd a₀ lo st3:=e3 ▸ I2;have hn1:1<=n:=by omega
      have hn2:lo+n<=a₀.size:=by omega
      rw[e3,en])
  all_goals (
   refine wpS_bind (wpS_get ?_);cases hb:(pendingOf st3).back? with
   | none=>
    dsimp only;exact wpS_bind (wpS_modify (wpS_pure (push n st3 I3 hn1 hn2)))
   | some q=>
    obtain⟨s1,n1,p1⟩:=q;dsimp only;refine wpS_bind (iR (I:=λ c st'=>c=(none,())/\SI kd a₀ lo st') ?_ ⟨rfl,I3⟩ ?_)
    ·rintro i c st4 ⟨rfl,I4⟩;refine wpS_bind (wpS_get ?_)
     by_cases hgt:(pendingOf st4).size > 1
     ·rw[if_pos hgt];obtain⟨⟨sa,na,older⟩,hx⟩:∃ x,(pendingOf st4)[(pendingOf st4).size - 2]? = some x:=⟨_,aaq (by omega)⟩;rw[hx];dsimp only
      split
      ·exact wpS_pure ⟨rfl,I4⟩
      ·exact wpS_bind (oJ hC (by omega) I4 (by omega) λ st5 I5 _=>wpS_pure ⟨rfl,I5⟩)
     ·rw[if_neg hgt];exact wpS_pure ⟨rfl,I4⟩
    ·rintro c st4 ⟨rfl,I4⟩;dsimp only;refine wpS_bind (wpS_modify ?_);have I5:=SI.mk (kd:=kd) (a₀:=a₀) (lo:=lo) (st:=setPending st4 ((pendingOf st4).modify ((pendingOf st4).size - 1) λ q=>(q.1,q.2.1,power' a₀.size (2 * s1+n1) (2 * s1+n1+n1+n) a₀.size))) I4.a I4.k I4.f I4.p.power;exact wpS_bind (wpS_modify (wpS_pure (push n _ I5 hn1 hn2))))
 ·rintro c st1 ⟨lo,rfl,hlo,I1⟩;dsimp only;refine wpS_bind (iR (I:=λ c st'=>c=(none,())/\SI kd a₀ lo st') ?_ ⟨rfl,I1⟩ ?_)
  ·rintro i c st2 ⟨rfl,I2⟩;refine wpS_bind (wpS_get ?_)
   by_cases hle:(pendingOf st2).size<=1
   ·rw[if_pos hle];exact wpS_pure ⟨rfl,I2⟩
   rw[if_neg hle];refine wpS_bind (oJ hC hlo I2 ?_ λ st3 I3 _=>?_)
   ·have key:∀ (c:Prop) [Decidable c],(if c then (pendingOf st2).size - 2 - 1 else (pendingOf st2).size - 2)+1 < (pendingOf st2).size:=λ c _=>by split <;> omega
    exact key _
   ·exact wpS_pure ⟨rfl,I3⟩
  ·rintro c st2 ⟨rfl,I2⟩;exact wpS_pure (h _ I2.a I2.f)
end
def Up (xs:Array Nat):Prop:=∀ i j a b:Nat,i < j->xs[i]? = some a->xs[j]? = some b->a < b
theorem oW (xs:Array Nat) (h:Up xs) (j:Nat):∀ (fuel lo hi:Nat),hi<=xs.size->lo<=hi->hi - lo<=fuel->(∀ i a,i < lo->xs[i]? = some a->a < j)->(∀ i a,hi<=i->xs[i]? = some a->j<=a)->
  (∀ i a,i < SetTable.below.go xs j fuel lo hi->xs[i]? = some a->a < j)/\(∀ i a,SetTable.below.go xs j fuel lo hi<=i->xs[i]? = some a->j<=a)/\SetTable.below.go xs j fuel lo hi<=xs.size
 | 0,lo,hi,h1,h2,h3,l,r=>by
  have:lo=hi:=by omega
  subst this;show (∀ i a,i < lo->_)/\(∀ i a,lo<=i->_)/\lo<=_;exact⟨l,r,h1⟩
 | fuel+1,lo,hi,h1,h2,h3,l,r=>by
  have e0:SetTable.below.go xs j (fuel+1) lo hi=if lo < hi then (if xs.getD ((lo+hi) / 2) j < j then SetTable.below.go xs j fuel ((lo+hi) / 2+1) hi else SetTable.below.go xs j fuel lo ((lo+hi) / 2)) else lo:=rfl
  rw[e0]
  by_cases hlt:lo < hi
  ·rw[if_pos hlt];have hm:(lo+hi) / 2 < xs.size:=by omega
   have hg:xs[(lo+hi) / 2]? = some (xs.getD ((lo+hi) / 2) j):=by
    rw[aaq hm,Array.getD_eq_getD_getElem?,aaq hm];rfl
   by_cases hc:xs.getD ((lo+hi) / 2) j < j
   ·rw[if_pos hc];refine oW xs h j fuel ((lo+hi) / 2+1) hi h1 (by omega) (by omega) (λ i a hi' e=>?_) r;rcases Nat.lt_or_ge i ((lo+hi) / 2) with z | z
    ·exact Nat.lt_trans (h _ _ _ _ z e hg) hc
    ·have:i=(lo+hi) / 2:=by omega
     subst this;rw[hg] at e;cases e;exact hc
   ·rw[if_neg hc];refine oW xs h j fuel lo ((lo+hi) / 2) (by omega) (by omega) (by omega) l (λ i a hi' e=>?_);rcases Nat.lt_or_ge ((lo+hi) / 2) i with z | z
    ·exact acb (Nat.le_of_not_lt hc) (aby (h _ _ _ _ z hg e))
    ·have:i=(lo+hi) / 2:=by omega
     subst this;rw[hg] at e;cases e;exact Nat.le_of_not_lt hc
  ·rw[if_neg hlt];have:lo=hi:=by omega
   subst this;exact⟨l,r,h1⟩
theorem oX {xs:Array Nat} (h:Up xs) (j:Nat):(∀ i a,i < SetTable.below xs j->xs[i]? = some a->a < j)/\(∀ i a,SetTable.below xs j<=i->xs[i]? = some a->j<=a)/\SetTable.below xs j<=xs.size:=
 oW xs h j xs.size 0 xs.size (aaj _) (abg _) (by omega) (λ i a hi _=>absurd hi (Nat.not_lt_zero _)) (λ i a hi e=>by
  have:=(Array.getElem?_eq_some_iff.mp e).1;omega)
theorem vZ {xs:Array Nat} (h:Up xs) {i a:Nat} (e:xs[i]? = some a):SetTable.below xs (a+1)=i+1:=by
 obtain⟨h1,h2,h3⟩:=oX h (a+1);have hi:=(Array.getElem?_eq_some_iff.mp e).1;rcases Nat.lt_trichotomy (SetTable.below xs (a+1)) (i+1) with z | z | z
 ·have:=h2 i a (by omega) e;omega
 ·exact z
 ·have hlt:i+1 < xs.size:=by omega
  have e2:xs[i+1]? = some xs[i+1]:=aaq hlt;have l1:=h1 (i+1) _ z e2;have l2:=h i (i+1) _ _ (Nat.lt_succ_self _) e e2;omega
theorem E9 {xs:Array Nat} (h:Up xs):SetTable.below xs 0=0:=by
 obtain⟨h1,_,h3⟩:=oX h 0;rcases Nat.eq_zero_or_pos (SetTable.below xs 0) with z | z
 ·exact z
 ·have e2:xs[0]? = some xs[0]:=aaq (by omega);have:=h1 0 _ z e2;omega
theorem FJ:Up #[]:=λ i j a b _ e _=>by simp at e
theorem mQ {xs:Array Nat}:Up xs↔xs.toList.Pairwise (· < ·):=by
 rw[List.pairwise_iff_getElem];constructor
 ·intro h i j hi hj hij;exact h i j _ _ hij (by rw[<- abm];exact abb hi) (by rw[<- abm];exact abb hj)
 ·intro h i j a b hij e1 e2;rw[<- abm] at e1 e2;obtain⟨p1,rfl⟩:=aai.mp e1;obtain⟨p2,rfl⟩:=aai.mp e2;exact h i j p1 p2 hij
theorem FI {xs:Array Nat} (h:Up xs) {j:Nat} (hn:xs[SetTable.below xs j]?≠some j):Up (SetTable.insertAt xs (SetTable.below xs j) j):=by
 obtain⟨h1,h2,h3⟩:=oX h j;rw[mQ,SetTable.toList_insertAt,List.pairwise_append,List.pairwise_cons];have hl:=mQ.1 h;refine⟨hl.take,⟨λ a ha=>?_,hl.drop⟩,λ a ha b hb=>?_⟩
 ·obtain⟨i,hi⟩:=ada.1 ha;rw[List.getElem?_drop,abm] at hi;have le:=h2 _ _ (Nat.le_add_right _ _) hi;rcases Nat.lt_or_ge j a with z | z
  ·exact z
  ·have ej:j=a:=by omega
   subst ej;rcases Nat.eq_zero_or_pos i with e0 | e0
   ·subst e0;exact absurd hi hn
   ·have hlt:SetTable.below xs j < xs.size:=by
     have:=(Array.getElem?_eq_some_iff.mp hi).1;omega
    have e2:xs[SetTable.below xs j]? = some xs[SetTable.below xs j]:=aaq hlt;have l2:=h2 _ _ (aaj _) e2;have l3:=h _ _ _ _ (show SetTable.below xs j < SetTable.below xs j+i by omega) e2 hi;omega
 ·obtain⟨i,hi⟩:=ada.1 ha;rw[List.getElem?_take] at hi
  split at hi
  ·rename_i hlt
   rw[abm] at hi;have l1:=h1 _ _ hlt hi;rcases aax.1 hb with z | z
   ·subst z;exact l1
   ·obtain⟨i2,hi2⟩:=ada.1 z;rw[List.getElem?_drop,abm] at hi2;have:=h2 _ _ (Nat.le_add_right _ _) hi2;omega
  ·cases hi
theorem zU (n:Nat):Up (Array.range n):=by
 rw[mQ,Array.toList_range];exact List.pairwise_lt_range
structure Tidy (b:Bool) (t:SetTable):Prop where
 led:t.led=b
 up:Up t.place
 dm:t.dummies = #[]
theorem uM (b:Bool):Tidy b (.fresh 0 0 b):=⟨rfl,FJ,rfl⟩
theorem gO {b:Bool}{t:SetTable} (h:Tidy b t) (n:Nat):Tidy b (t.standIn n):=⟨h.led,zU n,rfl⟩
theorem D4 {b:Bool}{t:SetTable} (h:Tidy b t) (n:Nat):Tidy b (t.orStandIn n):=by
 unfold SetTable.orStandIn
 split
 ·exact h
 ·exact gO h n
theorem tS (j:Nat):SetTable.has #[] j=false:=by
 unfold SetTable.has;simp
theorem yB {b:Bool}{t:SetTable} (h:Tidy b t) (j:Nat):t.slot j≠.dummy:=by
 unfold SetTable.slot;rw[h.dm,tS];dsimp only
 by_cases c:(t.place[SetTable.below t.place j]? == some j)=true
 ·rw[if_pos c];intro z;cases z
 ·rw[if_neg c,if_neg (by decide)];intro z;cases z
theorem o9 {b:Bool}{t:SetTable} (h:Tidy b t) (hash:Int):∀ (fuel:Nat) (p:SetTable.Probe) (m:SetTable.Met),p.dummy=none->SetTable.probe.go t (λ _=>hash+1) hash fuel p=some m->
  ∃ j,m=.empty j none/\t.place[SetTable.below t.place j]?≠some j
 | 0,p,m,_,e=>by cases e
 | fuel+1,p,m,hd,e=>by
  unfold SetTable.probe.go at e;have adv:(t.advance p).dummy=none:=by
   unfold SetTable.advance
   split <;> exact hd
  split at e
  ·rename_i hs
   cases e;refine⟨p.j,by rw[hd],λ z=>?_⟩;unfold SetTable.slot at hs;simp [z] at hs
  ·rename_i hs
   exact absurd hs (yB h _)
  ·rename_i i hs
   split at e
   ·rename_i hh
    simp at hh;omega
   ·exact o9 h hash fuel _ m adv e
theorem A0 {b:Bool}{t:SetTable} (h:Tidy b t) (es:Array (Int×Value)) (hash:Int) (x:Value):Tidy b (layNew t es hash x).2.1:=by
 unfold layNew
 split
 ·rename_i slot wasDummy hf
  unfold SetTable.freeSlot at hf
  split at hf
  ·rename_i j dummy hp
   obtain⟨j',e,hn⟩:=o9 h hash _ (t.probeStart hash) _ rfl hp;cases e;cases hf;refine D4 (t:=(t.put _).1) ⟨h.led,FI h.up hn,?_⟩ _;show (if SetTable.has t.dummies _ then _ else t.dummies) = #[];rw[h.dm,tS];rfl
  ·cases hf
 ·exact gO h _
theorem uL {b:Bool}{t:SetTable} (h:Tidy b t) (es:Array (Int×Value)) (n:Nat):Tidy b (relayAll t es n).2.1:=by
 unfold relayAll
 split
 ·rename_i t' order hr
  dsimp only
  split
  ·show Tidy b t';unfold SetTable.relaid SetTable.laid at hr;obtain⟨owner,ho,e⟩:=Option.bind_eq_some_iff.mp hr;cases e;refine⟨h.led,?_,rfl⟩;rw[mQ];dsimp only;rw[List.pairwise_map,List.pairwise_filterMap];refine List.pairwise_lt_range.imp λ {a c} hac x hx y hy=>?_;obtain⟨x',_,rfl⟩:=aau.mp hx;obtain⟨y',_,rfl⟩:=aau.mp hy;exact hac
  ·exact gO h _
 ·exact gO h _
def tR:Value->Int
 | .int i _=>i
 | _=>0
structure Cnt (prog:Program) (w:World) (b:Bool) (L:List Int) (es:Array (Int×Value)) (t:SetTable):Prop where
 el:ElemsOf (intKind prog w) es.toList
 pm:(es.toList.map λ e=>tR e.2).Perm L
 bd:es.size < scanBound
 ft:t.fits es.size=true
 td:Tidy b t
def iU (prog:Program) (w:World) (b:Bool) (h:Heap) (a:Addr) (L:List Int):Prop:=
 ∃ o es ep t,h.get? a=some o/\o.ExactSet/\o.data=.set es ep t/\Cnt prog w b L es t
section
variable {prog:Program}{b:Bool}{A:Around}{E:Value->Shared->Prop}{s:Shared}{a:Addr}{L:List Int}
theorem BZ {es:List (Int×Value)} (h:ElemsOf (intKind prog w) es) {e:Int×Value} (he:e∈es):∃ i t,e.2=.int i t:=by
 obtain⟨⟨k,hk,_⟩,_⟩:=h e he;obtain⟨t,z⟩:=Value.isInt_shape hk;exact⟨k,t,z⟩
theorem BF {es:List (Int×Value)} (h:ElemsOf (intKind prog w) es) {e:Int×Value} (he:e∈es) (k:Int):(intKind prog w).is k e.2=decide (tR e.2=k):=by
 obtain⟨i,t,z⟩:=BZ h he;rw[z];show (i == k)=decide (i=k);rfl
theorem wS {es:Array (Int×Value)}{t:SetTable} (c:Cnt prog w b L es t) (k:Int):k∈L↔∃ e∈es.toList,(intKind prog w).is k e.2=true:=by
 rw[<- c.pm.mem_iff,acq];constructor
 ·rintro⟨e,he,z⟩;exact⟨e,he,by rw[BF c.el he];exact abq z⟩
 ·rintro⟨e,he,z⟩;rw[BF c.el he] at z;exact⟨e,he,abn z⟩
theorem wX {es:Array (Int×Value)}{t:SetTable} (c:Cnt prog w b L es t):es.size=L.length:=by
 rw[<- c.pm.length_eq,aad,aap]
theorem qD {o:Obj}{es es':Array (Int×Value)}{ep:Nat}{t t':SetTable}{h:Heap}{L':List Int} (g:h.get? a=some o) (x:o.ExactSet) (d:o.data=.set es ep t) (c:Cnt prog w b L' es' t') :
  (h.update a (Obj.putSet es' t')).get? a=some { o with data:=.set es' (ep+1) t' }/\iU prog w b (h.update a (Obj.putSet es' t')) a L':=by
 have u:(h.update a (Obj.putSet es' t')).get? a=some { o with data:=.set es' (ep+1) t' }:=by
  have:=ack (Obj.putSet es' t') g (by rw[putSet_of es' t' d];rfl);rw[putSet_of es' t' d] at this;exact this
 exact⟨u,_,_,_,_,u,x,rfl,c⟩
theorem qA (q:Bool) {s1:Shared}{R:Unit->Shared->Prop} (h:R () s1):wpAny (model prog w) A (match q with | true=>rule "set.scan.the-table-gave-way" | false=>pure ()) R E s1:=by
 cases q
 ·exact aae h
 ·exact acg h
theorem CN {k:Int}{tk:Tok}{R:Bool->Shared->Prop} (hS:iU prog w b s.heap a L) (room:L.length+1 < scanBound)
  (hR:∀ h',Heap.SameBut a s.heap h'->iU prog w b h' a (if k∈L then L else L++[k])->R (!decide (k∈L)) { s with heap:=h' }) :
  wpAny (model prog w) A (setAddHashed a (.int k tk) ((intKind prog w).hash k)) R E s:=by
 obtain⟨o,es,ep,t,g,x,d,c⟩:=hS;have ln:=wX c;have isk:(intKind prog w).is k (.int k tk)=true:=intKind_is _ _ _ _;have sc:(Value.int k tk).scannable=true:=rfl;unfold setAddHashed setAddHashedIn;refine abf (aaa (wpAny_setState_of (prog:=prog) g d c.ft ?_));dsimp only;rw[byScan_of sc c.bd c.el,if_pos rfl];unfold setAddByScan;refine aaa (aaa (acg (aaa (wpAny_setScan_of isk g d c.ft c.el ?_))))
 by_cases m:k∈L
 ·obtain⟨e,he,z⟩:=(wS c k).1 m;cases q:es.toList.findIdx? (λ e=>(intKind prog w).is k e.2) with
  | none=>have:=List.findIdx?_eq_none_iff.mp q e he;rw[z] at this;cases this
  | some j=>
   have r:=hR s.heap (Heap.SameBut.refl a s.heap);rw[if_pos m,abq m] at r;exact aae (aae (r ⟨o,es,ep,t,g,x,d,c⟩))
 ·cases q:es.toList.findIdx? (λ e=>(intKind prog w).is k e.2) with
  | some j=>
   obtain⟨hj,z,_⟩:=List.findIdx?_eq_some_iff_getElem.mp q;exact absurd ((wS c k).2 ⟨_,ach hj,z⟩) m
  | none=>
   dsimp only;rw[if_neg m,abo m] at hR;have p1:=layNew_perm t es ((intKind prog w).hash k) (.int k tk);have f1:=layNew_fits t es ((intKind prog w).hash k) (.int k tk);have t1:=A0 c.td es ((intKind prog w).hash k) (.int k tk);generalize layNew t es ((intKind prog w).hash k) (.int k tk)=Y at p1 f1 t1 ⊢;obtain⟨es1,tb1,wd,gv⟩:=Y;dsimp only at p1 f1 t1 ⊢;rw[Array.toList_push] at p1;have c1:Cnt prog w b (L++[k]) es1 tb1:=by
    refine⟨(c.el.push isk sc).perm p1,?_,?_,f1,t1⟩
    ·refine (p1.map _).trans ?_;rw[aam];exact c.pm.append_right _
    ·rw[<- aap,p1.length_eq,aaw,aap,ln];exact room
   have fin:∀ (tb2:SetTable),Cnt prog w b (L++[k]) es1 tb2->wpAny (model prog w) A (do
     storeSet a es1 tb2
     if (!wd && tb2.tooFull)=true then do
       (match (relayAll tb2 es1 (SetTable.grown es1.size)).2.2 with | true=>rule "set.scan.the-table-gave-way" | false=>pure ())
       storeSet a (relayAll tb2 es1 (SetTable.grown es1.size)).1 (relayAll tb2 es1 (SetTable.grown es1.size)).2.1
       pure (some true)
      else pure (some true)) (λ r s'=>wpAny (model prog w) A (match r with | some added=>pure added | none=>setAddHashedIn a (.int k tk) ((intKind prog w).hash k) 99999) R E s') E s:=by
    intro tb2 c2;refine aaa (wpAny_storeSet_of g d ?_ (fits_of_scanBound c2.bd));obtain⟨g1,S1⟩:=qD g x d c2;have sb:=Heap.SameBut.update s.heap a (Obj.putSet es1 tb2)
    split
    ·have p3:=relayAll_perm tb2 es1 (SetTable.grown es1.size);have f3:=relayAll_fits tb2 es1 (SetTable.grown es1.size);have t3:=uL c2.td es1 (SetTable.grown es1.size);generalize relayAll tb2 es1 (SetTable.grown es1.size)=Y at p3 f3 t3 ⊢;obtain⟨es3,tb3,gv3⟩:=Y;dsimp only at p3 f3 t3 ⊢;have c3:Cnt prog w b (L++[k]) es3 tb3:=⟨c2.el.perm p3,(p3.map _).trans c2.pm,by rw[<- aap,p3.length_eq,aap];exact c2.bd,f3,t3⟩;refine aaa (qA gv3 (aaa (wpAny_storeSet_of g1 rfl ?_ (fits_of_scanBound c3.bd))));exact aae (aae (hR _ (sb.trans (Heap.SameBut.update _ a _)) (qD g1 x rfl c3).2))
    ·exact aae (aae (hR _ sb S1))
   refine aaa (qA gv ?_)
   split
   ·refine aaa ?_;rw[hashByValue_scannable 8 sc];refine aae ?_;exact fin _ c1
   ·refine aaa (aae ?_);exact fin _ c1
end
end TwS
namespace TwS
open PySem PySem.Spec PyProof.Rows
def dd (val:Nat->Int):Nat->List Int
 | 0=>[]
 | i+1=>if val i∈dd val i then dd val i else dd val i++[val i]
theorem E7 (val:Nat->Int) (i:Nat):dd val (i+1)=if val i∈dd val i then dd val i else dd val i++[val i]:=rfl
theorem vW (val:Nat->Int):∀ i,(dd val i).length<=i
 | 0=>aaj _
 | i+1=>by
  have ih:=vW val i;rw[E7]
  split
  ·omega
  ·rw[aaw,acp];omega
section
variable {prog:Program}{b:Bool}{A:Around}{R:Result->Shared->Prop}{I:Addr}{fp wr:List Addr}{G:Array GenState->Array GenState->Prop}{n:Nat}{P:Nat->Value->Prop}{St:Nat->Shared->Prop}
theorem iU.at {h h':Heap}{a:Addr}{L:List Int} (x:iU prog w b h a L) (e:∀ o,h.get? a=some o->h'.get? a=some o):iU prog w b h' a L:=by
 obtain⟨o,es,ep,t,g,r⟩:=x;exact⟨o,es,ep,t,e o g,r⟩
theorem A6 (Wk:WalksS prog w A.in1 I fp wr G n P St) (S:Addr) (off:S∉fp) (val:Nat->Int) (vals:∀ i v,P i v->∃ t,v=.int (val i) t) (small:n+1 < scanBound) :
  ∀ (m i:Nat) (s:Shared),n - i=m->i<=n->St i s->iU prog w b s.heap S (dd val i)->(∀ s',Moved (S::wr) G s s'->iU prog w b s'.heap S (dd val n)->R (.ok (.ret .none)) s')->
   codeAny (model prog w) A (.builtin "set.update.loop" ⟨[.ref S,.ref I],[]⟩) R s:=by
 have offw:S∉wr:=λ z=>off (Wk.sub _ z);have more:∀ c∈wr,c∈S::wr:=λ c hc=>aay _ hc;intro m
 induction m with
 | zero=>
  intro i s hm hi st hS k;obtain rfl:i=n:=by omega
  refine codeAny_builtin F.entry_set_update_loop ?_;rw[Around.under_plainId F.plain_set_update_loop _];show wpAny _ A.in1 (pyNext (.ref I) >>= _) _ _ s;refine aaa (Wk.done s _ _ st λ s1 mv=>?_);exact aae (k s1 (mv.mono more) (hS.at λ o e=>mv.heap S o offw e))
 | succ m ih=>
  intro i s hm hi st hS k;have lt:i < n:=by omega
  refine codeAny_builtin F.entry_set_update_loop ?_;rw[Around.under_plainId F.plain_set_update_loop _];show wpAny _ A.in1 (pyNext (.ref I) >>= _) _ _ s;refine aaa (Wk.item i s _ _ lt st λ v s1 hv st1 mv=>?_);obtain⟨t,rfl⟩:=vals i v hv;have hS1:iU prog w b s1.heap S (dd val i):=hS.at λ o e=>mv.heap S o offw e;show wpAny _ A.in1 (holding [Value.int (val i) t] (setAdd S (.int (val i) t)) >>= _) _ _ s1;refine aaa (abf ?_);unfold setAdd;refine abf (aaa ((intKind prog w).pyHash (k:=val i) (intKind_is _ _ _ _) ?_));have rm:(dd val i).length+1 < scanBound:=by have:=vW val i;omega
  refine CN (s:={ s1 with toks:=s1.toks+1 }) hS1 rm λ h2 sb hS2=>?_;refine aae ⟨plainId_quiet F.plain_set_update_loop _,ih (i+1) _ (by omega) lt (Wk.frame _ s1 _ _ st1 (Nat.le_succ _) λ c hc o e=>?_) hS2 λ s3 mv3 hS3=>?_⟩
  ·rw[sb.2 c λ z:c=S=>off (z ▸ hc)];exact e
  ·refine k s3 (Moved.trans Wk.gtrans ((mv.mono more).then_heap (Nat.le_succ _) λ c o hc e=>?_) mv3) hS3;rw[sb.2 c λ z:c=S=>hc (by rw[z];exact abt)];exact e
end
section
variable {prog:Program}{A:Around}{E:Value->Shared->Prop}{s:Shared}
abbrev g7 (w:World):Obj:={ cls:=.type "set",dict:=none,data:=.set #[] 0 (.fresh 0 0 (!w.params.followText "set-order")) }
theorem DT (v:Value) {Q:Value->Shared->Prop} (k:Q (.ref s.heap.objs.size) { s with heap:=s.heap.push (g7 w) }) :
  codeAny (model prog w) A (.call (.builtin "set.__new__") ⟨[.type "set",v],[]⟩) (wants Q E) s:=by
 refine codeAny_of_tree ?_;show wpAny _ A.in1 (checkBuiltinCall "set.__new__" ⟨[.type "set",v],[]⟩ >>= λ _=>again (.builtin "set.__new__" ⟨[.type "set",v],[]⟩)) _ _ s;refine aaa (wpAny_of_eq (F.newCall_set_1 v) (aae ⟨plainId_quiet F.plain_set_new _,codeAny_builtin F.entry_set_new ?_⟩));rw[Around.under_plainId F.plain_set_new _];unfold Builtin.«set.__new__» Builtin.Frozenset.newClass;have su:=sub_set_self;obtain⟨hp,g,d,tk,os⟩:=s;dsimp only
 wp_walk
 refine wpAny_askSetting (aae ?_);dsimp only;simp only [newObj];exact aaa (wpAny_alloc (aae (aae k)))
theorem yV:Cnt prog w (!w.params.followText "set-order") [] #[] (.fresh 0 0 (!w.params.followText "set-order")):=
 ⟨λ e he=>by simp at he,by simp,by unfold scanBound;decide,by rfl,uM _⟩
theorem CJ {l:Addr}{items:Array Value}{ns:List Int}{Q:Value->Shared->Prop} (hh:A.handled=none) (hl:s.heap.IsList l items) (hi:IntsAre items.toList ns) (small:items.size+1 < scanBound)
  (k:∀ (h':Heap) (tk:Nat),iU prog w (!w.params.followText "set-order") h' s.heap.objs.size (dd (λ i=>ns.getD i 0) items.size)->(∀ c o,c < s.heap.objs.size->s.heap.get? c=some o->h'.get? c=some o)->
   Q (.ref s.heap.objs.size) { s with heap:=h',toks:=tk }) :
  wpAny (model prog w) A (call (.type "set") [.ref l]) Q E s:=by
 obtain⟨c0,tl0,mro0⟩:=F.called_set.mro;have made0:=F.called_set.made;have sub0:=F.called_set.sub;refine wpAny_call (codeAny_of_tree ?_);show wpAny _ _ (callAny (.type "set") _) _ _ _;refine aae ⟨Code.quiet_builtin _ (by decide +kernel),codeAny_builtin F.entry_type_call ?_⟩;rw[Around.under_plain (weight_type_call_type "set" [.ref l] []) rfl];have nt:=F.called_set.notType;have cc:=F.called_set.canCreate;have tc:=F.typeCall_set_1 (.ref l)
 repeat (any_goals (first | assumption | wp_step))
 refine codeAny_mono (DT (.ref l) (E:=E) (Q:=λ v s1=>v=.ref s.heap.objs.size/\s1={ s with heap:=s.heap.push (g7 w) }) ⟨rfl,rfl⟩) λ r s1 hr=>?_;cases r with
 | error e=>exact hr
 | ok fl=>
  cases fl with
  | ret obj=>
   obtain⟨rfl,rfl⟩:=hr;have gS:(s.heap.push (g7 w)).get? s.heap.objs.size=some (g7 w):=aag _ rfl;have ty:Shared.TypeIs { s with heap:=s.heap.push (g7 w) } (.ref s.heap.objs.size) "set" := ⟨_,gS,rfl⟩;have il:=F.called_set.init.lookup;have ib:=F.called_set.init.bind (.ref s.heap.objs.size)
   repeat (any_goals (first | assumption | wp_step))
   refine codeAny_mono (codeAny_call_builtin (R:=wants (λ r s2=>r=.none/\∃ h' tk,s2={ s with heap:=h',toks:=tk }/\iU prog w (!w.params.followText "set-order") h' s.heap.objs.size (dd (λ i=>ns.getD i 0) items.size)/\
     (∀ c o,c < s.heap.objs.size->s.heap.get? c=some o->h'.get? c=some o)) E) F.called_set.init.plain F.entry_set_init (check_set_init_1 ty ?_)) λ r2 s2 hr2=>?_
   ·obtain⟨ol,hol,cl,nl,dl⟩:=hl;obtain⟨ocls,odict,odata,oslots⟩:=ol;simp only at cl dl;subst cl dl;have hol1:(s.heap.push (g7 w)).get? l=some { cls:=.type "list",dict:=odict,data:=.seq items nl,slots:=oslots }:=aac _ hol;have s1:=F.sub_list_set;have s2:=F.sub_list_frozenset;have ne:(Value.type "list" == Value.type "dict")=false:=by decide
    have hl1:(s.heap.push (g7 w)).IsList l items:=⟨_,hol1,rfl,nl,rfl⟩;unfold Builtin.«set.__init__» noKeywords Builtin.Frozenset.updateFrom;generalize hPI:pyIter=PI
    wp_walk
    subst hPI;refine wpAny_pyIter_list hl1 (aaa (wpAny_runValue ?_));have ll:l < s.heap.objs.size:=aak hol;have h3:A.in1.in1.in1.handled=none:=by simp [hh]
    have zz:(s.heap.push (g7 w)).objs.size=s.heap.objs.size+1:=abd _ _;have neI:l≠(s.heap.push (g7 w)).objs.size:=by rw[zz];exact aar (Nat.lt_succ_of_lt ll)
    have offS:s.heap.objs.size∉[(s.heap.push (g7 w)).objs.size,l]:=by
     rw[zz];simp only [aax,abx,acy,or_false,not_or];exact⟨aar (Nat.lt_succ_self _),Nat.ne_of_gt ll⟩
    refine A6 ((Walks.list h3 _ l neI items).toS) s.heap.objs.size offS (λ i=>ns.getD i 0) (λ i v hv=>IntsAre.int_at hi i v (by rw[abm];exact hv)) small (items.size - 0) 0 _ (by omega) (abg _)
     ⟨⟨_,aag _ rfl,rfl,rfl⟩,hl1.push _⟩ ⟨_,#[],0,_,aac _ gS,⟨rfl,rfl,rfl⟩,rfl,yV⟩ ?_
    intro s4 mv hS4;obtain⟨h4,g4,d4,tk4,os4⟩:=s4;obtain rfl:g4=s.gens:=mv.gens;obtain rfl:d4=s.drawn:=mv.drawn;obtain rfl:os4=s.os:=mv.os;show wpAny _ _ _ _ _ _;refine aae ?_;show wpAny _ _ (ret Value.none) _ _ _;refine aae ⟨rfl,h4,tk4,rfl,hS4,λ c o hc e=>?_⟩;exact mv.heap c o (by
     simp only [aax,abx,acy,or_false,not_or];exact⟨aar hc,by rw[zz];exact aar (Nat.lt_succ_of_lt hc)⟩) (aac _ (aac _ e))
   ·cases r2 with
    | error e=>exact hr2
    | ok fl2=>
     cases fl2 with
     | ret r=>
      obtain⟨rfl,h',tk,rfl,hS2,hk2⟩:=hr2
      repeat (any_goals (first | assumption | wp_step))
      exact k _ _ hS2 hk2
     | _=>exact hr2.elim
  | _=>exact hr.elim
end
theorem eB:Slot "set_iterator" "__next__" "set_iterator.__next__" :=
 .of (owner := "set_iterator") (n := "__next__") (by rw[typeLookup_type,builtinLookup_eq_fast];kernel_rfl) (by decide +kernel) (by decide +kernel) (by decide +kernel)
  (by first | exact .inl (by decide +kernel) | exact .inr (by decide +kernel)) (by rw[isSubtype_type];kernel_rfl)
theorem pK:entryFor table "set_iterator.__next__" = some Builtin.«set_iterator.__next__»:=entryFor_of_fast (by kernel_rfl)
theorem sI (a:Value):argsOk "set_iterator.__next__" ⟨[a],[]⟩:=by unfold argsOk;kernel_rfl
theorem jK:Slot "set" "__iter__" "set.__iter__" :=
 .of (owner := "set") (n := "__iter__") (by rw[typeLookup_type,builtinLookup_eq_fast];kernel_rfl) (by decide +kernel) (by decide +kernel) (by decide +kernel)
  (by first | exact .inl (by decide +kernel) | exact .inr (by decide +kernel)) (by rw[isSubtype_type];kernel_rfl)
theorem oU:entryFor table "set.__iter__" = some Builtin.«frozenset.__iter__»:=entryFor_alias (id' := "frozenset.__iter__") (by kernel_rfl) rfl (by decide +kernel) (by kernel_rfl)
theorem kF:Slot "set_iterator" "__iter__" "set_iterator.__iter__" :=
 .of (owner := "set_iterator") (n := "__iter__") (by rw[typeLookup_type,builtinLookup_eq_fast];kernel_rfl) (by decide +kernel) (by decide +kernel) (by decide +kernel)
  (by first | exact .inl (by decide +kernel) | exact .inr (by decide +kernel)) (by rw[isSubtype_type];kernel_rfl)
theorem pL:entryFor table "set_iterator.__iter__" = some Builtin.«dict_keyiterator.__iter__»:=entryFor_alias (id' := "dict_keyiterator.__iter__") (by kernel_rfl) rfl (by decide +kernel) (by kernel_rfl)
theorem sJ (a:Value):argsOk "set_iterator.__iter__" ⟨[a],[]⟩:=by unfold argsOk;kernel_rfl
theorem pO (a:Value):argsOk "set.__iter__" ⟨[a],[]⟩:=by unfold argsOk;kernel_rfl
abbrev BE (f:Value) (i:Nat) (S:Addr) (n ep:Nat):Obj:={ cls:=.type "set_iterator",data:=.fields #[f,rawInt (i:Int),.ref S,rawInt (n:Int),rawInt (ep:Int)] }
section
variable {prog:Program}{A:Around}{E:Value->Shared->Prop}{s:Shared}{I S:Addr}{o:Obj}{es:Array (Int×Value)}{ep i:Nat}{t:SetTable}
theorem sW {Q:Fin->Shared->Prop} (hh:A.handled=none) (hE:∀ h' e,(∀ c q,s.heap.get? c=some q->h'.get? c=some q)->(∃ q,h'.get? e=some q/\q.cls=.type "StopIteration")->E (.ref e) { s with heap:=h' }) :
  wpAny (model prog w) A (newExc (.type "StopIteration") [] >>= λ x=>raiseNew x) Q E s:=by
 refine aaa ?_;simp only [newExc,newTuple];refine aaa (wpAny_newObj_type ?_ (by size_fits));refine aaa (m:=firstArgMember _ _) (wpAny_of_eq (a:=Value.none) (by first | rfl | (simp only [firstArgMember];rfl)) (wpAny_newObj_type ?_ (by size_fits)));simp only [raiseNew];refine aaa (wpAny_handled ?_);rw[hh];exact aaa (aae (wpAny_throw (hE _ _ (λ c q e=>aac _ (aac _ e)) ⟨_,aag _ rfl,rfl⟩)))
theorem eY {f:Value}{n:Nat}{Q:Option Value->Shared->Prop} (hI:s.heap.get? I=some (BE f i S n ep))
  (h:wpAny (model prog w) A.in1 (Builtin.«set_iterator.__next__» ⟨[.ref I],[]⟩) (λ fin s'=>∃ v,fin=.done (.ret v)/\Q (some v) s') (λ e s'=>(∃ a q,e=.ref a/\s'.heap.get? a=some q/\q.cls=.type "StopIteration")/\Q none s') s) :
  wpAny (model prog w) A (pyNext (.ref I)) Q E s:=by
 have ty:s.TypeIs (.ref I) "set_iterator" := ⟨_,hI,rfl⟩;unfold pyNext;refine aaa (wpAny_attempt (wpAny_callSpecial?_slot (name:=Str.ofString "__next__") ty eB
  (wpAny_call_entry eB ty pK (abp h (λ fin s' z=>?_) λ e s' z=>?_) (sI _))))
 ·obtain⟨v,rfl,q⟩:=z;exact⟨v,rfl,aae q⟩
 ·obtain⟨⟨a,q,rfl,ho,hc⟩,z⟩:=z;exact aaa (wpAny_isInstance (T := "StopIteration") (b:=true) ⟨q,ho,hc⟩ isSubtype_stop (aae z))
theorem lM {f:Value}{n:Nat}{Q:Value->Shared->Prop} (hI:s.heap.get? I=some (BE f i S n ep)) (k:Q (.ref I) s):wpAny (model prog w) A (pyIter (.ref I)) Q E s:=by
 have ty:s.TypeIs (.ref I) "set_iterator" := ⟨_,hI,rfl⟩;refine wpAny_pyIter_slot ty kF (wpAny_call_entry kF ty pL ?_ (sJ _));show wpAny _ _ (ret (.ref I)) _ _ s;exact aae ⟨_,rfl,"set_iterator",_,ty,eB.lookup,k⟩
theorem tH {slot nx:Nat}{x:Value}{Q:Fin->Shared->Prop} (hI:s.heap.get? I=some (BE (rawInt (slot:Int)) i S es.size ep)) (g:s.heap.get? S=some o) (d:o.data=.set es ep t) (ft:t.fits es.size=true)
  (hn:∀ (R:Option (Value×Nat)->Shared->Prop),R (some (x,nx)) s->wpAny (model prog w) A (setNext S slot i ep) R E s)
  (k:∀ h',h'.get? I=some (BE (rawInt (nx:Int)) (i+1) S es.size ep)->Heap.SameBut I s.heap h'->Q (.done (.ret x)) { s with heap:=h' }) :
  wpAny (model prog w) A (Builtin.«set_iterator.__next__» ⟨[.ref I],[]⟩) Q E s:=by
 show wpAny _ _ (fieldsOf (.ref I) >>= _) _ _ s;refine aaa (wpAny_fieldsOf hI rfl ?_);show wpAny _ _ (setEntries S >>= _) _ _ s;unfold setEntries;refine aaa (aaa (wpAny_setState_of g d ft (aae ?_)));dsimp only;rw[if_neg (by simp)];show wpAny _ _ (setNext S (slot:Int).toNat (i:Int).toNat (ep:Int).toNat >>= _) _ _ s;rw[abr,abr,abr];refine aaa (hn _ ?_);refine aaa (wpAny_setField_rec hI (by simp) λ h1 g1 b1=>?_);refine aaa (wpAny_setField_rec (s:={ s with heap:=h1 }) g1 (by simp) λ h2 g2 b2=>?_);exact aae (k h2 (by simp at g2;exact g2) (b1.trans b2))
theorem xH {slot:Nat}{Q:Fin->Shared->Prop} (hh:A.handled=none) (hI:s.heap.get? I=some (BE (rawInt (slot:Int)) i S es.size ep)) (g:s.heap.get? S=some o) (d:o.data=.set es ep t) (ft:t.fits es.size=true)
  (hn:∀ (R:Option (Value×Nat)->Shared->Prop),R none s->wpAny (model prog w) A (setNext S slot i ep) R E s)
  (hE:∀ h' e,(∀ c q,c≠I->s.heap.get? c=some q->h'.get? c=some q)->(∃ q,h'.get? e=some q/\q.cls=.type "StopIteration")->E (.ref e) { s with heap:=h' }) :
  wpAny (model prog w) A (Builtin.«set_iterator.__next__» ⟨[.ref I],[]⟩) Q E s:=by
 show wpAny _ _ (fieldsOf (.ref I) >>= _) _ _ s;refine aaa (wpAny_fieldsOf hI rfl ?_);show wpAny _ _ (setEntries S >>= _) _ _ s;unfold setEntries;refine aaa (aaa (wpAny_setState_of g d ft (aae ?_)));dsimp only;rw[if_neg (by simp)];show wpAny _ _ (setNext S (slot:Int).toNat (i:Int).toNat (ep:Int).toNat >>= _) _ _ s;rw[abr,abr,abr];refine aaa (hn _ ?_);refine aaa (wpAny_setField_rec hI (by simp) λ h1 g1 b1=>?_);exact sW (s:={ s with heap:=h1 }) hh λ h' e kp st=>hE h' e (λ c q hc z=>kp c q (by rw[b1.2 c hc];exact z)) st
theorem vK {T:Addr}{ps:Array Value}{m p:Nat}{tk:Tok}{hx:Int}{x:Value}{Q:Fin->Shared->Prop} (hI:s.heap.get? I=some (BE (.ref T) i S es.size ep)) (g:s.heap.get? S=some o) (d:o.data=.set es ep t) (ft:t.fits es.size=true)
  (hT:s.heap.get? T=some { cls:=.type "tuple",data:=.seq ps m }) (hp:ps[i]? = some (.int (p:Int) tk)) (hx:es[p]? = some (hx,x))
  (k:∀ h',h'.get? I=some (BE (.ref T) (i+1) S es.size ep)->Heap.SameBut I s.heap h'->Q (.done (.ret x)) { s with heap:=h' }) :
  wpAny (model prog w) A (Builtin.«set_iterator.__next__» ⟨[.ref I],[]⟩) Q E s:=by
 show wpAny _ _ (fieldsOf (.ref I) >>= _) _ _ s;refine aaa (wpAny_fieldsOf hI rfl ?_);show wpAny _ _ (setEntries S >>= _) _ _ s;unfold setEntries;refine aaa (aaa (wpAny_setState_of g d ft (aae ?_)));dsimp only;rw[if_neg (by simp)];show wpAny _ _ (seqItems? (.ref T) >>= _) _ _ s;refine aaa (wpAny_seqItems hT rfl ?_);dsimp only;rw[abr,hp];dsimp only;unfold setNextDrawn;refine aaa (aaa (wpAny_setState_of g d ft ?_));dsimp only;rw[abr,abr,if_neg (by simp),hx];refine aae (aaa (wpAny_setField_rec hI (by simp) λ h1 g1 b1=>?_));exact aae (k h1 (by simp at g1;exact g1) b1)
theorem zC {T:Addr}{ps:Array Value}{m:Nat}{Q:Fin->Shared->Prop} (hh:A.handled=none) (hI:s.heap.get? I=some (BE (.ref T) i S es.size ep)) (g:s.heap.get? S=some o) (d:o.data=.set es ep t) (ft:t.fits es.size=true)
  (hT:s.heap.get? T=some { cls:=.type "tuple",data:=.seq ps m }) (hp:ps[i]? = none)
  (hE:∀ h' e,(∀ c q,c≠I->s.heap.get? c=some q->h'.get? c=some q)->(∃ q,h'.get? e=some q/\q.cls=.type "StopIteration")->E (.ref e) { s with heap:=h' }) :
  wpAny (model prog w) A (Builtin.«set_iterator.__next__» ⟨[.ref I],[]⟩) Q E s:=by
 show wpAny _ _ (fieldsOf (.ref I) >>= _) _ _ s;refine aaa (wpAny_fieldsOf hI rfl ?_);show wpAny _ _ (setEntries S >>= _) _ _ s;unfold setEntries;refine aaa (aaa (wpAny_setState_of g d ft (aae ?_)));dsimp only;rw[if_neg (by simp)];show wpAny _ _ (seqItems? (.ref T) >>= _) _ _ s;refine aaa (wpAny_seqItems hT rfl ?_);dsimp only;rw[abr,hp];dsimp only;refine aaa (wpAny_setField_rec hI (by simp) λ h1 g1 b1=>?_);refine aaa (wpAny_setField_rec (s:={ s with heap:=h1 }) g1 (by simp) λ h2 g2 b2=>?_);exact sW (s:={ s with heap:=h2 }) hh λ h' e kp st=>hE h' e (λ c q hc z=>kp c q (by rw[b2.2 c hc,b1.2 c hc];exact z)) st
theorem kH {slot:Nat}{R:Option (Value×Nat)->Shared->Prop} (tx:w.params.followText "set-order" = true) (g:s.heap.get? S=some o) (d:o.data=.set es ep t) (ft:t.fits es.size=true)
  (k:R (((pickOrder (w.params.setOrder S ep) es)[i]?).map λ e=>(e.2,slot)) s):wpAny (model prog w) A (setNext S slot i ep) R E s:=by
 unfold setNext;refine aaa (wpAny_setState_of g d ft ?_);dsimp only;refine aaa (aaa (wpAny_askSetting (aae ?_)));rw[show (Setting.mk (model prog w).prog (model prog w).w.params).params.followText "set-order" = true from tx,if_pos rfl,if_neg (by simp)];unfold setWalk;refine aaa (aaa (wpAny_setState_of g d ft ?_));dsimp only;refine aaa (aaa (wpAny_askSetting (aae ?_)));rw[show (Setting.mk (model prog w).prog (model prog w).w.params).params.followText "set-order" = true from tx,if_pos rfl];exact aaa (wpAny_askSetting (aae (aae k)))
theorem jL {slot:Nat}{R:Option (Value×Nat)->Shared->Prop} (tx:w.params.followText "set-order" = false) (g:s.heap.get? S=some o) (d:o.data=.set es ep t) (ft:t.fits es.size=true) (pl:t.plain=true\/es.size<=1) (ld:t.led=true)
  (k:R (match es[SetTable.below t.place slot]?,t.place[SetTable.below t.place slot]? with | some (_,x),some j=>some (x,j+1) | _,_=>none) s):wpAny (model prog w) A (setNext S slot i ep) R E s:=by
 unfold setNext;refine aaa (wpAny_setState_of g d ft ?_);dsimp only;refine aaa (aaa (wpAny_askSetting (aae ?_)));rw[show (Setting.mk (model prog w).prog (model prog w).w.params).params.followText "set-order" = false from tx,if_neg (by simp)];have nd:¬ ((!t.plain && decide (es.size > 1))=true):=by
  rcases pl with z | z
  ·rw[z];simp
  ·rw[abo (by omega)];simp
 show wpAny _ _ (if (!t.plain && decide (es.size > 1))=true then _ else _) _ _ s;rw[if_neg nd];refine aaa ?_;show wpAny _ _ (if (!t.led && !es.isEmpty)=true then _ else _) _ _ s;rw[ld,if_neg (by simp)];exact aae (aae k)
end
theorem jV {az:Type}:∀ {l:List az}{i:Nat}{x:az},l[i]? = some x->(x::l.eraseIdx i).Perm l
 | [],_,_,h=>by cases h
 | y::l,0,x,h=>by cases h;exact List.Perm.refl _
 | y::l,i+1,x,h=>by
  have ih:=jV (l:=l) (i:=i) (x:=x) h;exact (List.Perm.swap y x _).trans (ih.cons y)
theorem wK {az:Type} (next:Nat->Nat):∀ (fuel k:Nat) (left:List az) (out:Array az),left.length=fuel->(pickOrder.go next fuel k left out).toList.Perm (out.toList++left)
 | 0,k,left,out,h=>by
  have:left=[]:=List.eq_nil_of_length_eq_zero h;subst this;show out.toList.Perm _;rw[acf]
 | fuel+1,k,left,out,h=>by
  have hm:next k % left.length < left.length:=Nat.mod_lt _ (by omega);have e:left[next k % left.length]? = some left[next k % left.length]:=abb hm;show (match left[next k % left.length]? with | some x=>pickOrder.go next fuel (k+1) (left.eraseIdx (next k % left.length)) (out.push x) | none=>out).toList.Perm _;rw[e];refine (wK next fuel (k+1) _ _ (by rw[List.length_eraseIdx,if_pos hm];omega)).trans ?_;rw[Array.toList_push,abw];exact (jV e).append_left _
theorem lP {az:Type} (next:Nat->Nat) (xs:Array az):(pickOrder next xs).toList.Perm xs.toList:=by
 have:=wK next xs.size 0 xs.toList #[] (aap);simpa [pickOrder] using this
section
variable {prog:Program}{A:Around}{E:Value->Shared->Prop}
theorem vX {src:Source}{n:Nat}{s:Shared}{R:Nat->Shared->Prop} (hn:n≠0) (k:∀ i d,i < n->R i { s with drawn:=d }):wpAny (model prog w) A (choose src n) R E s:=λ Γ p _=>by
 unfold choose;rw[Sem.wp_choose];refine⟨hn,?_⟩;rw[Sem.wp_pure];exact k _ _ (Nat.mod_lt _ (Nat.pos_of_ne_zero hn))
theorem tV {az:Type}:∀ (n:Nat) (xs:List az) (s:Shared) (R:List az->Shared->Prop),xs.length=n->(∀ ys d,ys.Perm xs->R ys { s with drawn:=d })->wpAny (model prog w) A (drawOrder n xs) R E s
 | 0,xs,s,R,h,k=>by
  have:xs=[]:=List.eq_nil_of_length_eq_zero h;subst this;exact aae (k [] s.drawn (List.Perm.refl _))
 | n+1,[],s,R,h,k=>by cases h
 | n+1,x::xs,s,R,h,k=>by
  unfold drawOrder;refine aaa (vX (by simp) λ i d hi=>?_);have e:(x::xs)[i]? = some (x::xs)[i]:=abb hi;rw[e];refine aaa (tV n _ _ _ (by rw[List.length_eraseIdx,if_pos hi];omega) λ ys d2 p=>?_);exact aae (k _ _ ((p.cons _).trans (jV e)))
end
theorem wZ:∀ (vs:List Value),(∀ v∈vs,∃ i t,v=.int i t)->IntsAre vs (vs.map tR)
 | [],_=>.nil
 | v::vs,h=>by
  obtain⟨i,t,rfl⟩:=h v abt;exact .cons i t (wZ vs λ v hv=>h v (aay _ hv))
theorem eZ {P:Nat->Value->Prop}{acc:Array Value}{vs:List Value} (h:ItemsOf P acc vs.length) (hP:∀ j v,P j v->vs[j]? = some v):acc.toList=vs:=by
 apply List.ext_getElem?;intro j;rcases Nat.lt_or_ge j acc.size with hj | hj
 ·have e:acc[j]? = some acc[j]:=aaq hj;rw[abm,e,hP j _ (h.2 j _ e)]
 ·rw[aco (by rw[aap];exact hj),aco (by rw[<- h.1];exact hj)]
section
variable {prog:Program}{S I T:Addr}{o:Obj}{es:Array (Int×Value)}{ep:Nat}{t:SetTable}{L:List Int}
theorem uC {b:Bool}{vs:List Value}{es':List (Int×Value)} (c:Cnt prog w b L es t) (hp:es'.Perm es.toList) (e:vs=es'.map (·.2)):IntsAre vs (vs.map tR)/\(vs.map tR).Perm L:=by
 subst e;refine⟨wZ _ λ v hv=>?_,?_⟩
 ·obtain⟨x,hx,rfl⟩:=acq.1 hv;exact BZ c.el (hp.mem_iff.1 hx)
 ·rw[acd];exact (hp.map _).trans c.pm
def uX (pl:Array Nat):Nat->Nat
 | 0=>0
 | i+1=>pl.getD i 0+1
theorem o4 {pl:Array Nat} (h:Up pl):∀ i,i<=pl.size->SetTable.below pl (uX pl i)=i
 | 0,_=>E9 h
 | i+1,hi=>by
  have e:pl[i]? = some (pl.getD i 0):=by rw[Array.getD_eq_getD_getElem?,aaq (by omega)];rfl
  exact vZ h e
theorem xW {A:Around} (hh:A.handled=none) (tx:w.params.followText "set-order" = true) (d:o.data=.set es ep t) (ft:t.fits es.size=true) (ne:S≠I) :
  Walks prog w A I [I,S] [I] es.size (λ i v=>((pickOrder (w.params.setOrder S ep) es).toList.map (·.2))[i]? = some v) (λ i h=>h.get? I=some (BE (rawInt ((0:Nat):Int)) i S es.size ep)/\h.get? S=some o) where
 sub:=λ c hc=>by simp at hc;simp [hc]
 frame:=λ _ _ _ st k=>⟨k I (by simp) _ st.1,k S (by simp) _ st.2⟩
 item:=λ i s Q E hi st k=>by
  have ln:(pickOrder (w.params.setOrder S ep) es).size=es.size:=by rw[<- aap,(lP _ es).length_eq,aap]
  have e:(pickOrder (w.params.setOrder S ep) es)[i]? = some ((pickOrder (w.params.setOrder S ep) es)[i]'(by omega)):=aaq _;refine eY st.1 (tH (x:=((pickOrder (w.params.setOrder S ep) es)[i]'(by omega)).2) (nx:=0) st.1 st.2 d ft (λ R r=>kH tx st.2 d ft (by rw[e];exact r)) λ h' g b=>⟨_,rfl,?_⟩);refine k _ h' s.toks ?_ ⟨g,by rw[b.2 S ne];exact st.2⟩ λ c q hc z=>by rw[b.2 c (λ y=>hc (by simp [y]))];exact z
  rw[aaf,abm,e];rfl
 done:=λ s Q E st k=>by
  have ln:(pickOrder (w.params.setOrder S ep) es).size=es.size:=by rw[<- aap,(lP _ es).length_eq,aap]
  have e:(pickOrder (w.params.setOrder S ep) es)[es.size]? = none:=Array.getElem?_eq_none (by omega);refine eY st.1 (xH hh st.1 st.2 d ft (λ R r=>kH tx st.2 d ft (by rw[e];exact r)) λ h' x kp sp=>⟨?_,k h' s.toks λ c q hc z=>kp c q (λ y=>hc (by simp [y])) z⟩);obtain⟨q,e1,e2⟩:=sp;exact⟨_,q,rfl,e1,e2⟩
 self:=λ i s Q E st k=>lM st.1 k
theorem uE {A:Around} (hh:A.handled=none) (tx:w.params.followText "set-order" = false) (d:o.data=.set es ep t) (ft:t.fits es.size=true) (pl:t.plain=true\/es.size<=1) (td:Tidy true t) (ne:S≠I) :
  Walks prog w A I [I,S] [I] es.size (λ i v=>(es.toList.map (·.2))[i]? = some v) (λ i h=>h.get? I=some (BE (rawInt ((uX t.place i:Nat):Int)) i S es.size ep)/\h.get? S=some o) where
 sub:=λ c hc=>by simp at hc;simp [hc]
 frame:=λ _ _ _ st k=>⟨k I (by simp) _ st.1,k S (by simp) _ st.2⟩
 item:=λ i s Q E hi st k=>by
  have psz:t.place.size=es.size:=by
   simp only [SetTable.fits,Bool.and_eq_true,beq_iff_eq] at ft;exact ft.1
  have e1:es[i]? = some es[i]:=aaq hi;have e2:t.place[i]? = some (t.place.getD i 0):=by rw[Array.getD_eq_getD_getElem?,aaq (by omega)];rfl
  have sb:=o4 td.up i (by omega);refine eY st.1 (tH (x:=es[i].2) (nx:=uX t.place (i+1)) st.1 st.2 d ft (λ R r=>jL tx st.2 d ft pl td.led (by rw[sb,e1,e2];exact r)) λ h' g b=>⟨_,rfl,?_⟩);refine k _ h' s.toks ?_ ⟨g,by rw[b.2 S ne];exact st.2⟩ λ c q hc z=>by rw[b.2 c (λ y=>hc (by simp [y]))];exact z
  rw[aaf,abm,e1];rfl
 done:=λ s Q E st k=>by
  have psz:t.place.size=es.size:=by
   simp only [SetTable.fits,Bool.and_eq_true,beq_iff_eq] at ft;exact ft.1
  have e1:es[es.size]? = none:=Array.getElem?_eq_none (aaj _);have sb:=o4 td.up es.size (by omega);refine eY st.1 (xH hh st.1 st.2 d ft (λ R r=>jL tx st.2 d ft pl td.led (by rw[sb,e1];exact r)) λ h' x kp sp=>⟨?_,k h' s.toks λ c q hc z=>kp c q (λ y=>hc (by simp [y])) z⟩);obtain⟨q,e1,e2⟩:=sp;exact⟨_,q,rfl,e1,e2⟩
 self:=λ i s Q E st k=>lM st.1 k
theorem BW {az de:Type}{f:az->Option de}:∀ (l:List az) (j:Nat),(∀ p∈l,∃ y,f p=some y)->(l.filterMap f)[j]? = l[j]?.bind f
 | [],j,_=>by simp
 | p::l,j,h=>by
  obtain⟨y,hy⟩:=h p abt;rw[List.filterMap_cons_some hy];cases j with
  | zero=>simp [hy]
  | succ j=>simpa using BW l j λ q hq=>h q (aay _ hq)
theorem uF {A:Around} (hh:A.handled=none) (d:o.data=.set es ep t) (ft:t.fits es.size=true) {ord:List Nat}{m:Nat} (hord:ord.Perm (List.range es.size)) (ne:S≠I) (neT:T≠I) :
  Walks prog w A I [I,S,T] [I] es.size (λ i v=>((ord.filterMap λ p=>es[p]?).map (·.2))[i]? = some v)
   (λ i h=>h.get? I=some (BE (.ref T) i S es.size ep)/\h.get? S=some o/\h.get? T=some { cls:=.type "tuple",data:=.seq (ord.map λ (i:Nat)=>rawInt (i:Int)).toArray m }) where
 sub:=λ c hc=>by simp at hc;simp [hc]
 frame:=λ _ _ _ st k=>⟨k I (by simp) _ st.1,k S (by simp) _ st.2.1,k T (by simp) _ st.2.2⟩
 item:=λ i s Q E hi st k=>by
  have ln:ord.length=es.size:=by rw[hord.length_eq,acv]
  have all:∀ p∈ord,∃ y,es[p]? = some y:=λ p hp=>⟨_,aaq (acx.1 (hord.mem_iff.1 hp))⟩;have e0:ord[i]? = some (ord[i]'(by omega)):=abb _;obtain⟨y,hy⟩:=all _ (abl e0);have e1:(ord.map λ (i:Nat)=>rawInt (i:Int)).toArray[i]? = some (.int (((ord[i]'(by omega)):Nat):Int) 0):=by
   rw[List.getElem?_toArray,aaf,e0];rfl
  refine eY st.1 (vK (x:=y.2) st.1 st.2.1 d ft st.2.2 e1 (show es[ord[i]'(by omega)]? = some (y.1,y.2) from hy) λ h' g b=>⟨_,rfl,?_⟩);refine k _ h' s.toks ?_ ⟨g,by rw[b.2 S ne];exact st.2.1,by rw[b.2 T neT];exact st.2.2⟩ λ c q hc z=>by rw[b.2 c (λ y=>hc (by simp [y]))];exact z
  rw[aaf,BW _ _ all,e0];show Option.map _ (es[ord[i]'(by omega)]?)=_;rw[hy];rfl
 done:=λ s Q E st k=>by
  have ln:ord.length=es.size:=by rw[hord.length_eq,acv]
  have e1:(ord.map λ (i:Nat)=>rawInt (i:Int)).toArray[es.size]? = none:=by
   rw[List.getElem?_toArray,aaf,aco (by omega)];rfl
  refine eY st.1 (zC hh st.1 st.2.1 d ft st.2.2 e1 λ h' x kp sp=>⟨?_,k h' s.toks λ c q hc z=>kp c q (λ y=>hc (by simp [y])) z⟩);obtain⟨q,e1,e2⟩:=sp;exact⟨_,q,rfl,e1,e2⟩
 self:=λ i s Q E st k=>lM st.1 k
theorem A7 {A:Around}{E:Value->Shared->Prop}{s:Shared}{Q:Value->Shared->Prop} (hS:iU prog w (!w.params.followText "set-order") s.heap S L)
  (k:∀ (I:Addr) (h':Heap) (d':Drawn) (fp:List Addr) (P:Nat->Value->Prop) (St:Nat->Heap->Prop),(∀ A':Around,A'.handled=none->Walks prog w A' I fp [I] L.length P St)->St 0 h'->I∈fp->(∀ c∈fp,c=S\/s.heap.objs.size<=c)->
   s.heap.objs.size<=I->(∀ c q,s.heap.get? c=some q->h'.get? c=some q)->(∀ acc:Array Value,ItemsOf P acc L.length->∃ ms,IntsAre acc.toList ms/\ms.Perm L)->Q (.ref I) { s with heap:=h',drawn:=d' }) :
  wpAny (model prog w) A (pyIter (.ref S)) Q E s:=by
 obtain⟨o,es,ep,t,g,x,d,c⟩:=hS;have ln:=wX c;rw[<- ln] at k;have ty:s.TypeIs (.ref S) "set" := ⟨o,g,x.1⟩;have sz:S < s.heap.objs.size:=aak g;refine wpAny_pyIter_slot ty jK (wpAny_call_entry jK ty oU ?_ (pO _));show wpAny _ _ (Builtin.Frozenset.sizeOf S >>= _) _ _ s;unfold Builtin.Frozenset.sizeOf setEntries;refine aaa (aaa (aaa (wpAny_setState_of g d c.ft (aae (aae ?_)))));dsimp only;unfold setDrawn;refine aaa (aaa (wpAny_setState_of g d c.ft ?_));dsimp only;refine aaa (aaa (wpAny_askSetting (aae (aae ?_))));show wpAny _ _ (if (!w.params.followText "set-order" && (!t.plain && decide (es.size > 1)))=true then _ else _) _ _ s
 by_cases cd:(!w.params.followText "set-order" && (!t.plain && decide (es.size > 1)))=true
 ·rw[if_pos cd];refine aaa (tV es.size _ _ _ (by rw[acv]) λ ord d' hord=>?_);refine aaa (wpAny_newTuple ?_ (by rw[aad,hord.length_eq,acv];exact fits_of_scanBound c.bd));unfold setEpoch;refine aaa (aaa (wpAny_setState_of (aac _ g) d c.ft (aae ?_)));refine aaa (wpAny_newObj_type (aae ⟨_,rfl,"set_iterator",_,⟨_,aag _ rfl,rfl⟩,eB.lookup,?_⟩));have z1:(s.heap.push { cls:=.type "tuple",data:=.seq (ord.map λ (i:Nat)=>rawInt (i:Int)).toArray }).objs.size=s.heap.objs.size+1:=abd _ _;refine k _ _ d' _ _ _ (λ A' hh=>uF hh d c.ft hord (T:=s.heap.objs.size) (aar (by rw[z1];exact Nat.lt_succ_of_lt sz)) (aar (by rw[z1];exact Nat.lt_succ_self _)))
   ⟨aag _ rfl,aac _ (aac _ g),aac _ (aag _ rfl)⟩ (by simp) (λ b hb=>?_) (by rw[z1];exact Nat.le_succ _) (λ b q e=>aac _ (aac _ e)) λ acc ha=>?_
  ·simp only [aax,abx,acy,or_false] at hb;rcases hb with rfl | rfl | rfl
   ·right;rw[z1];exact Nat.le_succ _
   ·exact .inl rfl
   ·exact .inr (aaj _)
  ·have pm:(ord.filterMap λ p=>es[p]?).Perm es.toList:=(hord.filterMap _).trans (by rw[filterMap_getElem?_range]);have hv:=uC c pm rfl;rw[show es.size=((ord.filterMap λ p=>es[p]?).map (·.2)).length by rw[aad,pm.length_eq,aap]] at ha;rw[eZ ha λ j v h=>h];exact⟨_,hv⟩
 ·rw[if_neg cd];refine aaa (aae ?_);unfold setEpoch;refine aaa (aaa (wpAny_setState_of g d c.ft (aae ?_)));refine aaa (wpAny_newObj_type (aae ⟨_,rfl,"set_iterator",_,⟨_,aag _ rfl,rfl⟩,eB.lookup,?_⟩));have fr:∀ b∈[s.heap.objs.size,S],b=S\/s.heap.objs.size<=b:=λ b hb=>by
   simp only [aax,abx,acy,or_false] at hb;rcases hb with rfl | rfl
   ·exact .inr (aaj _)
   ·exact .inl rfl
  cases tx:w.params.followText "set-order" with
  | true=>
   refine k s.heap.objs.size _ s.drawn _ _ _ (λ A' hh=>xW hh tx d c.ft (aar sz)) ⟨aag _ rfl,aac _ g⟩ (by simp) fr (aaj _) (λ b q e=>aac _ e) λ acc ha=>?_;have pm:=lP (w.params.setOrder S ep) es;have hv:=uC c pm rfl;rw[show es.size=((pickOrder (w.params.setOrder S ep) es).toList.map (·.2)).length by rw[aad,pm.length_eq,aap]] at ha;rw[eZ ha λ j v h=>h];exact⟨_,hv⟩
  | false=>
   rw[tx] at cd c;have pl:t.plain=true\/es.size<=1:=by
    cases hp:t.plain with
    | true=>exact .inl rfl
    | false=>
     rw[hp] at cd;refine .inr (Nat.le_of_not_lt λ z=>cd ?_);simp [z]
   refine k s.heap.objs.size _ s.drawn _ _ _ (λ A' hh=>uE hh tx d c.ft pl c.td (aar sz)) ⟨aag _ rfl,aac _ g⟩ (by simp) fr (aaj _) (λ b q e=>aac _ e) λ acc ha=>?_;have hv:=uC c (List.Perm.refl _) rfl;rw[show es.size=(es.toList.map (·.2)).length by rw[aad,aap]] at ha;rw[eZ ha λ j v h=>h];exact⟨_,hv⟩
end
theorem B2:typeLookup (.type "set") "__len__" = pure (some (.builtin "set.__len__")):=by rw[typeLookup_type,builtinLookup_eq_fast];kernel_rfl
theorem A5:isSubtype (.type "set") (.type "set")=pure true:=by rw[isSubtype_type];kernel_rfl
section
variable {prog:Program}{A:Around}{E:Value->Shared->Prop}{s:Shared}{S:Addr}{L:List Int}
theorem BD {az:Type}{M:Model}{c:Prop} [Decidable c] {x y:Sem az}{Q:az->Shared->Prop} (hc:c) (h:wpAny M A x Q E s):wpAny M A (if c then x else y) Q E s:=by rw[if_pos hc];exact h
theorem BJ {Q:Bool->Shared->Prop} (ty:s.TypeIs (.ref S) "set") (k:Q false s):wpAny (model prog w) A (Builtin.List.listLengthHint (.ref S)) Q E s:=by
 unfold Builtin.List.listLengthHint;refine aaa (wpAny_specialOf ty B2 ?_);show wpAny _ _ (isInstance (.ref S) (.type "set") >>= _) _ _ s;refine aaa (wpAny_isInstance ty A5 ?_);rw[if_neg (by simp)];refine BD (by decide +kernel) ?_;exact aaa (wpAny_typeOf ty (aae k))
theorem tY {Q:List Value->Shared->Prop} (hh:A.handled=none) (hS:iU prog w (!w.params.followText "set-order") s.heap S L) (hL:L.length<=sizeLine)
  (k:∀ (h':Heap) (d':Drawn) (tk:Nat) (vs:List Value) (ms:List Int),IntsAre vs ms->ms.Perm L->(∀ c q,s.heap.get? c=some q->h'.get? c=some q)->s.heap.objs.size<=h'.objs.size->Q vs { s with heap:=h',drawn:=d',toks:=tk }) :
  wpAny (model prog w) A (collect (.ref S)) Q E s:=by
 obtain⟨o,_,_,_,g,x,_⟩:=id hS;have sz:S < s.heap.objs.size:=aak g;unfold collect;refine aaa (wpAny_runValue (codeAny_builtin F.entry_proto_collect ?_));rw[Around.under_plainId F.plain_proto_collect _];show wpAny _ A.in1 (newList [] >>= λ l=>again (.builtin "list.__iadd__" ⟨[l,.ref S],[]⟩)) _ _ s;refine aaa (wpAny_newObj_type (aae ⟨plainId_quiet F.plain_list_iadd _,codeAny_builtin F.entry_list_iadd ?_⟩));rw[Around.under_plainId F.plain_list_iadd _];show wpAny _ A.in1 (Builtin.List.listExtendWith (.ref s.heap.objs.size) (.ref S) (.ref s.heap.objs.size)) _ _ { s with heap:=s.heap.push { cls:=.type "list",data:=.seq ([]:List Value).toArray } };have hl1:(s.heap.push { cls:=.type "list",data:=.seq ([]:List Value).toArray }).get? s.heap.objs.size=some { cls:=.type "list",data:=.seq ([]:List Value).toArray }:=aag _ rfl;have kp1:∀ c q,s.heap.get? c=some q->(s.heap.push { cls:=.type "list",data:=.seq ([]:List Value).toArray }).get? c=some q:=λ c q e=>aac _ e;have zz:(s.heap.push { cls:=.type "list",data:=.seq ([]:List Value).toArray }).objs.size=s.heap.objs.size+1:=abd _ _;generalize s.heap.push { cls:=.type "list",data:=.seq ([]:List Value).toArray }=h1 at hl1 kp1 zz ⊢;have hS1:iU prog w (!w.params.followText "set-order") h1 S L:=hS.at λ q e=>kp1 S q e;unfold Builtin.List.listExtendWith;refine aaa (wpAny_typeOf (T := "set") ⟨o,kp1 S o g,x.1⟩ ?_);have e1:Builtin.List.listSameRef (.ref s.heap.objs.size) (.ref S)=false:=by
  have:s.heap.objs.size≠S:=Nat.ne_of_gt sz;simp [Builtin.List.listSameRef,this]
 have e2:(Value.type "set" == Value.type "list")=false:=by decide
 have e3:(Value.type "set" == Value.type "tuple")=false:=by decide
 simp only [e1,e2,e3,Bool.or_false,Bool.false_eq_true,if_false];refine aaa (A7 (s:={ s with heap:=h1 }) hS1 λ I h2 d2 fp P St Wk st0 hI hfp hIge kp2 yl=>?_);refine aaa (abf (BJ ⟨o,kp2 S o (kp1 S o g),x.1⟩ ?_));refine BD (by decide +kernel) ?_;refine aaa (acg (aaa ?_));show wpAny _ A.in1 (updateSeq s.heap.objs.size (·.push .none) >>= λ _=>updateSeq s.heap.objs.size (·.pop)) _ _ _;have hl2:=kp2 _ _ hl1;refine aaa (wpAny_updateSeq hl2 rfl ?_);have hl3:=ack (Obj.mapSeq (·.push Value.none)) hl2 rfl;refine wpAny_updateSeq hl3 rfl ?_;have hl4:=ack (Obj.mapSeq (·.pop)) hl3 rfl;have kp4:∀ c q,c≠s.heap.objs.size->h2.get? c=some q->((h2.update s.heap.objs.size (Obj.mapSeq (·.push Value.none))).update s.heap.objs.size (Obj.mapSeq (·.pop))).get? c=some q:=
  λ c q hc e=>(acm _ _ (Ne.symm hc)).trans ((acm _ _ (Ne.symm hc)).trans e)
 have off:s.heap.objs.size∉fp:=λ z=>by
  rcases hfp _ z with e | e
  ·exact absurd e (Nat.ne_of_gt sz)
  ·rw[zz] at e;exact absurd e (Nat.not_succ_le_self _)
 have neI:∀ c,c < s.heap.objs.size->c≠I:=λ c hc e=>by
  rw[zz] at hIge;exact absurd (aan (Nat.lt_succ_of_lt hc) hIge) (by rw[e];exact aca _)
 refine aae ⟨plainId_quiet F.plain_extend_loop _,codeAny_extend_loopS ((Wk A.in1 hh).toS) hL _ off _ L.length 0 _ _ _ rfl (abg _)
  ((Wk A.in1 hh).frame 0 h2 _ st0 λ c hc q e=>kp4 c q (λ z=>off (z ▸ hc)) e) hl4 (ItemsOf.nil P) λ s5 acc n5 mv hl5 ha=>?_⟩
 obtain⟨h5,g5,d5,tk5,os5⟩:=s5;obtain rfl:g5=s.gens:=mv.gens;obtain rfl:d5=d2:=mv.drawn;obtain rfl:os5=s.os:=mv.os;show wpAny _ A (load s.heap.objs.size >>= _) _ _ _;refine aaa (wpAny_load hl5 (aae ?_));obtain⟨ms,i1,i2⟩:=yl acc ha;have keep:∀ c q,s.heap.get? c=some q->h5.get? c=some q:=λ c q e=>by
  have hc:=aak e;refine mv.heap c q ?_ (kp4 c q (aar hc) (kp2 c q (kp1 c q e)));simp only [aax,abx,acy,or_false,not_or];exact⟨aar hc,neI c hc⟩
 refine k h5 _ tk5 _ ms i1 i2 keep ?_;exact aby (aak hl5)
end
end TwS
namespace L2
open PySem PySem.Spec PyProof.Rows TwZ TwS
def A8 (P:Program) (w:World) (a:Addr) (L:List Int):HO:=.ext λ h=>iU P w (!w.params.followText "set-order") h a L
def JC (ns:List Int):List Int:=dd (λ i=>ns.getD i 0) ns.length
theorem xL (ns:List Int):(JC ns).length<=ns.length:=vW _ _
section
variable {X:Cx}{pins:List (Addr×Obj)}{σ:St}{H:Hp}{s:Shared}
theorem Inv.drew {d:Drawn} (I:Inv X pins σ H s):Inv X pins σ H { s with drawn:=d }:=⟨I.ok,I.os,I.bare,I.base,I.loc,I.cell,I.free,I.freeC,I.pin,I.hok,I.len⟩
def IC (P:Program) (w:World) (K:aab):List V->Hp->VK->Prop:=λ xs H Q=>∃ (p:Addr) (ns:List Int),xs=[.ref p]/\bN K H p (ns.map V.int)/\ns.length<=1000/\∀ a,H a=none->Q (.ref a) (upd H a (A8 P w a (JC ns)))
theorem zI (hc:X.calm=true):dY X (.type "set") (IC X.prog X.w X.K):=by
 intro pins s σ H xs us Q I r h;obtain⟨p,ns,rfl,hq,hn,q⟩:=h;obtain⟨u,rfl,ru⟩:=r.one;cases ru;obtain⟨its,rv,p1,hz⟩:=I.list hq;have ia:=oQ rv;have il:its.length=ns.length:=IntsAre.length ia;refine CJ (I.ok.hd hc) p1.isList (by simpa using ia) (by rw[aah,il];unfold scanBound;omega) λ h' tk hS hk=>?_;rw[show its.toArray.size=ns.length by rw[aah,il]] at hS;obtain⟨o,es,ep,t,g,r⟩:=id hS;exact⟨.ref s.heap.objs.size,_,I.laid (λ b u e=>hk b u (aak e) e) (aaj _) (show cJ X.prog X.w _ h' _ (A8 X.prog X.w s.heap.objs.size (JC ns)) from ⟨hS,⟨o,g⟩,λ h1 h2 x e=>x.at e⟩),rfl,q _ I.fresh⟩
theorem nF:∀ {vs:List Value}{ns:List Int},IntsAre vs ns->bI (ns.map V.int) vs
 | _,_,.nil=>.nil
 | _,_,.cons n t h=>.cons ⟨t,rfl⟩ (nF h)
theorem qE {P:Program}{w:World}{K:aab} (hP:X.prog=P) (hw:X.w=w) (hK:X.K=K) (hc:X.calm=true):dY X (.type "set") (IC P w K):=by
 subst hP hw hK;exact zI hc
theorem qH:bootBuiltins "set" = some (.type "set"):=by decide +kernel
end
end L2
namespace TwS
open PySem PySem.Spec PyProof.Rows
section
variable {prog:Program}{A:Around}{E:Value->Shared->Prop}{s:Shared}
theorem pW (vs:List Value):((pairsOf vs).map λ p:Keyed=>p.2).toList=vs:=by
 rw[Array.toList_map,pairsOf_toList]
 induction vs with
 | nil=>rfl
 | cons v vs ih=>simpa using ih
theorem pJ {kd:SortKind}{a:Addr}{vs:List Value}{n:Nat}{P:Fin->Shared->Prop} (ho:s.heap.get? a=some (seqObj "list" vs.toArray n)) (hl:vs.length<=sizeLine)
  (hkk:2<=vs.length->∀ s':Shared,(∀ c q,c≠a->s.heap.get? c=some q->s'.heap.get? c=some q)->∀ Q:SortKind->Shared->Prop,Q kd s'->wpAny (model prog w) A (keyKind' vs.toArray) Q E s')
  (hC:∀ s':Shared,(∀ c q,c≠a->s.heap.get? c=some q->s'.heap.get? c=some q)->CU prog w A s' kd (pairsOf vs))
  (h:∀ out:Array Value,out.toList.Perm vs->P (.done (.ret .none)) { s with heap:=sortedHeap s.heap a vs out }) :
  wpAny (model prog w) A (Builtin.«list.sort» ⟨[.ref a],[]⟩) P E s:=by
 rw[list_sort_plain];have ha:a < s.heap.objs.size:=aak ho;refine aaa (listItems_at ho rfl ?_);refine aaa (listUpdate_at ho rfl ?_ (by simpa using hl) (abg _));obtain⟨e1,ho1⟩:∃ e1,(s.heap.update a (Obj.mapSeq λ _=>#[])).get? a=some (seqObj "list" #[] e1):=⟨_,get?_update_seq ho (λ _=>#[])⟩;refine aaa (seqEpoch_at ho1 rfl ?_);refine aaa (wpAny_newTuple ?_);refine aaa (wpAny_newList ?_);refine abf ?_;have kp:∀ c q,c≠a->s.heap.get? c=some q->(((s.heap.update a (Obj.mapSeq λ _=>#[])).push (seqObj "tuple" vs.toArray 0)).push (seqObj "list" #[] 0)).get? c=some q:=λ c q hc e=>
  aac _ (aac _ ((acm _ _ (Ne.symm hc)).trans e))
 have ho6:(((s.heap.update a (Obj.mapSeq λ _=>#[])).push (seqObj "tuple" vs.toArray 0)).push (seqObj "list" #[] 0)).get? a=some (seqObj "list" #[] e1):=
  aac _ (aac _ ho1)
 show wpAny (model prog w) A _ P E { s with heap:=((s.heap.update a (Obj.mapSeq λ _=>#[])).push (seqObj "tuple" vs.toArray 0)).push (seqObj "list" #[] 0) };dsimp only;have hsz:vs.toArray.size=vs.length:=by simp
 by_cases h2:vs.toArray.size < 2
 ·rw[if_pos h2,if_pos h2];refine aaa (aae ?_);rw[StateT.run_pure];refine aaa (aae ?_);dsimp only;refine aaa (seqEpoch_at ho6 rfl ?_);refine aaa (listUpdate_at ho6 rfl ?_ (hsz2:=by rw[Array.size_map];show (pairsOf vs).size<=_;rw[pairsOf_size];omega));simp only [bne_self_eq_false,Bool.false_eq_true,if_false];exact aae (h ((vs.toArray.zip vs.toArray).map λ p:Keyed=>p.2) (List.Perm.of_eq (pW vs)))
 ·rw[if_neg h2,if_neg h2];refine aaa (hkk (by omega) _ kp _ ?_);refine aaa (abp (t8 (kd:=kd) (a₀:=pairsOf vs) (st:=SortSt.mk' kd (vs.toArray.zip vs.toArray) #[] 7 none)
   (Q:=λ _ st'=>(arrOf st').Perm (pairsOf vs)/\failedOf st'=none) (hC _ kp) rfl (Array.Perm.refl _) rfl rfl λ st' a1 a2=>⟨a1,a2⟩) ?_ λ _ _ e=>e)
  rintro⟨⟨⟩,st'⟩ s' ⟨rfl,hp,hf⟩;dsimp only;refine aaa (seqEpoch_at ho6 rfl ?_);refine aaa (listUpdate_at ho6 rfl ?_ (hsz2:=by refine acb (Nat.le_of_eq ((Array.size_map ..).trans (hp.size_eq.trans (pairsOf_size _)))) ?_;omega));rw[hf];simp only [bne_self_eq_false,Bool.false_eq_true,if_false];refine aae (h ((arrOf st').map λ p:Keyed=>p.2) ?_);rw[Array.toList_map];exact ((Array.perm_iff_toList_perm.mp hp).map _).trans (List.Perm.of_eq (by rw[<- Array.toList_map];exact pW vs))
theorem CG {vs:List Value}{ns:List Int} (hI:IntsAre vs ns):CU prog w A s oneType' (pairsOf vs):=λ x hx y hy E Q hq=>by
 obtain⟨n,t,e1⟩:=hI.intKeys x hx;obtain⟨m,u,e2⟩:=hI.intKeys y hy;rw[e1,e2,keyLt'_oneType];exact oneLt_int (hq _)
theorem mM {a:Addr}{vs:List Value}{ns:List Int}{n:Nat}{P:Fin->Shared->Prop} (ho:s.heap.get? a=some (seqObj "list" vs.toArray n)) (hI:IntsAre vs ns) (hl:vs.length<=sizeLine)
  (h:∀ (out:Array Value) (ns':List Int),IntsAre out.toList ns'->ns'.Perm ns->P (.done (.ret .none)) { s with heap:=sortedHeap s.heap a vs out }) :
  wpAny (model prog w) A (Builtin.«list.sort» ⟨[.ref a],[]⟩) P E s:=by
 refine pJ ho hl (kd:=oneType') (λ h2 s' _ Q hq=>?_) (λ s' _=>CG hI) λ out hp=>?_
 ·match vs,hI,h2 with
  | v₁::v₂::rest,hI,_=>rw[keyKind_ints hI];exact aae hq
 ·refine h out (out.toList.map numOf) (intsAre_map _ λ v hv=>hI.all v (hp.mem_iff.mp hv)) ?_;rw[<- hI.nums];exact hp.map numOf
variable {S:Addr}{L:List Int}
theorem t0 {Q:Value->Shared->Prop} (hh:A.handled=none) (hS:iU prog w (!w.params.followText "set-order") s.heap S L) (hL:L.length<=sizeLine)
  (k:∀ (l:Addr) (h':Heap) (d':Drawn) (tk:Nat) (out:Array Value) (ms:List Int) (e:Nat),IntsAre out.toList ms->ms.Perm L->s.heap.objs.size<=l->h'.get? l=some (seqObj "list" out e)->
   (∀ c q,s.heap.get? c=some q->h'.get? c=some q)->Q (.ref l) { s with heap:=h',drawn:=d',toks:=tk }) :
  wpAny (model prog w) A (call (.builtin "sorted") [.ref S]) Q E s:=by
 refine Calls.call_function_entry kind_sorted plain_sorted entry_sorted (args_sorted1 _) ?_;unfold Builtin.«sorted»;refine aaa (m:=checkCount "sorted" 1 1 _) (aae ?_);refine aaa (tY hh hS hL λ h1 d1 tk1 vs ns i1 i2 keep le=>?_);have hv:vs.length<=sizeLine:=by rw[IntsAre.length i1,i2.length_eq];exact hL
 refine aaa (wpAny_newList (hsz:=hv) ?_);have hoL:(h1.push (seqObj "list" vs.toArray 0)).get? h1.objs.size=some (seqObj "list" vs.toArray 0):=aag _ rfl;refine aaa (abf (wpAny_call_entry slot_list_sort ⟨_,hoL,rfl⟩ entry_list_sort (mM hoL i1 hv λ out ms a1 a2=>⟨_,rfl,?_⟩) (args_list_sort _)));obtain⟨e,he⟩:=sortedHeap_at (vs:=vs) (out:=out) hoL;refine aae ⟨_,rfl,k h1.objs.size _ _ _ out ms e a1 (a2.trans i2) le he λ c q hc=>?_⟩;have hlt:=aak (keep c q hc);rw[sortedHeap_old (aar hlt) (by rw[size_push'];exact Nat.lt_succ_of_lt hlt)];exact aac _ (keep c q hc)
end
end TwS
namespace L2
open PySem PySem.Spec PyProof.Rows TwZ TwS
section
variable {X:Cx}{pins:List (Addr×Obj)}{σ:St}{H:Hp}{s:Shared}
def HZ (P:Program) (w:World):List V->Hp->VK->Prop:=λ xs H Q=>∃ (a:Addr) (L:List Int),xs=[.ref a]/\H a=some (A8 P w a L)/\L.length<=1000/\∀ (l:Addr) (ms:List Int),H l=none->ms.Perm L->Q (.ref l) (upd H l (.lst (ms.map V.int)))
theorem oV {P:Program}{w:World} (hP:X.prog=P) (hw:X.w=w) (hc:X.calm=true):dY X (.builtin "sorted") (HZ P w):=by
 subst hP hw;intro pins s σ H xs us Q I r h;obtain⟨a,L,rfl,hq,hn,q⟩:=h;obtain⟨u,rfl,ru⟩:=r.one;cases ru;obtain⟨hS,_,_⟩:iU X.prog X.w (!X.w.params.followText "set-order") s.heap a L/\_:=I.hok a _ hq;refine t0 (I.ok.hd hc) hS (by rw[sizeLine_eq];omega) λ l h' d' tk out ms e i1 i2 le hl keep=>?_;refine⟨.ref l,upd H l (.lst (ms.map V.int)),(I.drew (d:=d')).laid keep le (show cJ X.prog X.w _ h' _ (.lst (ms.map V.int)) from ⟨?_,out.toList,e,nF i1,by rw[Array.toArray_toList];exact hl⟩),rfl,q l ms (I.hok.fresh le) i2⟩;rw[aad,i2.length_eq,sizeLine_eq];omega
end
end L2
namespace Tw
open PySem L2
theorem dN.no_ints {H:Hp}{t sl a:Addr}{l:List Int} (h:dN H t sl) (e:H a=Option.some (.lst (l.map V.int))):a≠t:=by
 rintro rfl;obtain⟨ns,pos,cell,e1,_⟩:=h;rw[e1] at e;injection e with e;injection e with e;cases l with
 | nil=>cases e
 | cons x l=>injection e with e _;cases e
theorem dN.no_refs {H:Hp}{t sl a:Addr}{l:List Addr} (h:dN H t sl) (e:H a=Option.some (.lst (l.map V.ref))):a≠t:=by
 rintro rfl;obtain⟨ns,pos,cell,e1,_⟩:=h;rw[e1] at e;injection e with e;injection e with e
 match l,e with
 | [],e=>cases e
 | [x],e=>injection e with _ e;cases e
 | x::y::l,e=>injection e with _ e;injection e with e _;cases e
theorem JF (l:List Int) (lo hi:Option Int):∃ m:List Int,jH (l.map V.int) lo hi=m.map V.int/\m.length<=l.length:=by
 refine⟨(l.drop (HT.sIx l.length 0 lo)).take (HT.sIx l.length l.length hi - HT.sIx l.length 0 lo),?_,?_⟩
 ·unfold jH;rw[aad,List.map_take,List.map_drop]
 ·rw[aat,List.length_drop];omega
theorem JE (l:List Int) (k:Nat):∃ m:List Int,jH (l.map V.int) none (some (k:Int))=m.map V.int/\m.length<=k:=by
 refine⟨l.take (min k l.length),?_,?_⟩
 ·unfold jH;rw[aad,HT.sIx_nat,HT.sIx_none,List.drop_zero,Nat.sub_zero,List.map_take]
 ·rw[aat];omega
theorem JD (l:List Int) (k:Nat) (h:k < l.length):∃ m:List Int,jH (l.map V.int) (some ((k:Int)+1)) none=m.map V.int/\m.length+k+1=l.length:=by
 refine⟨l.drop (k+1),?_,?_⟩
 ·unfold jH;rw[aad,show (k:Int)+1=((k+1:Nat):Int) by omega,HT.sIx_nat,HT.sIx_none,<- List.map_drop,abv (by rw[aad,List.length_drop];omega),show min (k+1) l.length=k+1 by omega]
 ·rw[List.length_drop];omega
theorem GD (K:aab):PySem.W.kitOne K (.type "NoneType") (.type "bool")=some false:=by
 unfold PySem.W.kitOne;rw[if_neg (by decide +kernel)];show (if PySem.W.kitMeta "bool" = true then PySem.W.subIn K (.type "NoneType") (.type "bool") else none)=some false;rw[if_pos (by decide +kernel)];show (PySem.fastBuiltinMro "NoneType").map (·.contains (.type "bool"))=some false;decide +kernel
theorem B5 (K:aab):PySem.W.kitOne K (.type "list") (.type "list")=some true:=by
 unfold PySem.W.kitOne;rw[if_pos (by decide +kernel)]
def fP (H:Hp) (net:Net) (n:Nat) (cs:List (Option Nat)) (rts:List Addr) (d:Addr):Prop:=rts.length=cs.length/\∀ (i:Nat) (r:Addr) (fo:Option Nat),rts[i]? = some r->cs[i]? = some fo->
 r≠d/\∃ ts:List Addr,H r=some (.lst (ts.map V.ref))/\ts.length=net.vs.length/\∀ (j:Nat) (t:Addr),ts[j]? = some t->t≠d/\H t=some (.lst ((gJ (dD (aW net fo) n j)).map V.int))
section
variable {H H':Hp}{net:Net}{n:Nat}{cs:List (Option Nat)}{rts:List Addr}{d:Addr}
theorem fP.off (h:fP H net n cs rts d) (b:dS d H H'):fP H' net n cs rts d:=by
 refine⟨h.1,λ i r fo hr hf=>?_⟩;obtain⟨nr,ts,e,l,k⟩:=h.2 i r fo hr hf;exact⟨nr,ts,b _ _ nr e,l,λ j t' ht=>⟨(k j t' ht).1,b _ _ (k j t' ht).1 (k j t' ht).2⟩⟩
theorem fP.but {t sl:Addr} (h:fP H net n cs rts d) (tp:dN H t sl) (b:dS t H H'):fP H' net n cs rts d:=by
 refine⟨h.1,λ i r fo hr hf=>?_⟩;obtain⟨nr,ts,e,l,k⟩:=h.2 i r fo hr hf;exact⟨nr,ts,b _ _ (tp.no_refs e) e,l,λ j t' ht=>⟨(k j t' ht).1,b _ _ (tp.no_ints (k j t' ht).2) (k j t' ht).2⟩⟩
theorem fP.snoc {fo:Option Nat}{r:Addr}{ts:List Addr} (h:fP H net n cs rts d) (nr:r≠d) (e:H r=some (.lst (ts.map V.ref))) (l:ts.length=net.vs.length)
  (k:∀ (j:Nat) (t:Addr),ts[j]? = some t->t≠d/\H t=some (.lst ((gJ (dD (aW net fo) n j)).map V.int))):fP H net n (cs++[fo]) (rts++[r]) d:=by
 refine⟨by simp [h.1],λ i r' fo' hr hf=>?_⟩;rcases Nat.lt_or_ge i rts.length with hi | hi
 ·rw[acj hi] at hr;rw[acj (by rw[<- h.1];exact hi)] at hf;exact h.2 i r' fo' hr hf
 ·rw[aci hi] at hr;rw[aci (by rw[<- h.1];exact hi)] at hf;have hi2:i - rts.length=0:=by
   rcases Nat.eq_zero_or_pos (i - rts.length) with z | z
   ·exact z
   ·rw[aco (by simp;omega)] at hr;cases hr
  rw[hi2] at hr;rw[<- h.1,hi2] at hf;cases hr;cases hf;exact⟨nr,ts,e,l,k⟩
end
def gF:Option Nat->G
 | none=>.non
 | some j=>.int (j:Int)
theorem j6 {K:aab}{H:Hp}:∀ l:List (Option Nat),cX K H (l.map gF) (l.map cN)
 | []=>cX.nil
 | none::l=>cX.cons aQ.n (j6 l)
 | some j::l=>cX.cons (aQ.i _) (j6 l)
theorem jW:∀ l:List (Option Nat),iT (l.map gF)=0
 | []=>rfl
 | none::l=>by rw[abe,iT,jW l];rfl
 | some j::l=>by rw[abe,iT,jW l];rfl
section
variable {t sl:Addr}{σ:St}{H0:Hp}{a:TE}
theorem GP (ha:Gn t sl σ H0 (cH 0 8) a):Gn t sl σ H0 (cH 0 3) (gN (rI EF λ i j=>.int (i / j)) a (tC (.int 3))):=
 (vU (by decide) (by decide) ha).imp λ v ⟨i,e,a,b⟩=>⟨i / 3,e,by omega,by omega⟩
end
def qO (K:aab):Sp:=λ vs H Q _=>∃ (x:V) (net:Net) (v:Int) (n:Nat) (sl:Addr) (seen:List Int),vs=[x,.int v,.int (n:Int),.ref sl]/\Is K H (eX net) x/\NetOk net/\NetFull net/\n<=100000/\H sl=some (.lst (seen.map V.int))/\
 ((¬ (0<=v/\v < net.vs.length)/\∀ p H',aG H H'->bM K H' p [.str "vessel"]->Q (.ref p) H')\/∃ j:Nat,v=(j:Int)/\j < net.vs.length/\∀ l H',aG H H'->H l=none->H' l=some (.lst ((fM net n j seen (aX net)).map cN))->Q (.ref l) H')
theorem jM:FnScope ["net","watched","ticks","seen","error","found","e"] ["net","watched","ticks","seen"] (aP (bQ 45)):={}
theorem pF {f f1 f2:Addr}{fd fd1 fd2:FuncData} (F:Fun K "_law_tried" "_law_tried" (bQ 45) f fd) (T:Txt mg) (W:TxtW mg c_TipError c_NoNet c_NoVessel c_TooLong c_TooMany c_TooMuch c_Nothing c_NoText c_NoRow)
  (kdV:KindOf K c_NoNet c_NoVessel c_TooLong c_TooMany c_TooMuch c_Nothing c_NoText c_NoRow c_NoVessel [false,true,false,false,false,false,false,false]) (hmV:PySem.W.exmOne K (.ref c_NoVessel) (.ref c_TipError)=some true)
  (G_cases:CalleeR P w K mg base "cases" ["net","watched","ticks","seen"] 8 (nZ K c_NoVessel) f1 fd1)
  (G__law_word:Callee P w K mg base "_law_word" ["error"] 1 (uR K c_NoNet c_NoVessel c_TooLong c_TooMany c_TooMuch c_Nothing c_NoText c_NoRow) f2 fd2) :
  FnOk P w K mg base i7 9 f fd ["net","watched","ticks","seen"] (qO K):=by
 refine F.ok jM (λ vs H Q E h=>?_) (λ cdv A outer s H vs Q E hr h=>?_)
 ·obtain⟨x,net,v,n,sl,seen,rfl,_⟩:=h;rfl
 ·obtain⟨x,net,v,n,sl,seen,rfl,hx,nok,nfu,hn,hsl,k⟩:=h;have sc:=jM;let EX:XK:=λ cls _ H'=>aG H H'/\cls=.ref c_NoVessel/\∀ p H',aG H H'->bM K H' p [.str "vessel"]->Q (.ref p) H';refine⟨_,(aD (aR (i:=4) sc.nd rfl (Or.inl rfl) eF)
   (aD (aR (i:=5) sc.nd rfl (Or.inl rfl) eF)
   (aD (G3 (EX:=EX) rfl rfl (λ pn xe hx=>(aL (aR (i:=5) sc.nd rfl (Or.inl rfl) (rA G_cases.ok (hr.mono (by decide)) rfl G_cases.mg G_cases.kp G_cases.bd .nil hx (aA (pv 0) (aA (pv 1) (aA (pv 2) (aA (pv 3) aC)))))))) rfl W.m_TipError sc.nd (i:=6) rfl rfl (λ ea=>(aL (aR (i:=4) sc.nd rfl (Or.inl rfl) (pv 6)))))
   (aD (dL (bL vG (pv 4) eF (bR _)) (aL (bF (pv 5))) bV)
   (aL (bF (dF G__law_word hr (aA (pv 4) aC)))))))),?_⟩
  dsimp only [iA,iB,dU,tC];refine⟨?_,?_⟩
  ·rcases k with ⟨hv,k⟩ | ⟨j,rfl,hj,k⟩
   ·exact⟨_,rfl,_,rfl,_,rfl,_,rfl,x,net,v,n,sl,seen,rfl,hx,nok,nfu,hn,hsl,.inr ⟨hv,aG.refl H,rfl,k⟩⟩
   ·refine⟨_,rfl,_,rfl,_,rfl,_,rfl,x,net,_,n,sl,seen,rfl,hx,nok,nfu,hn,hsl,.inl ⟨j,rfl,hj,λ l H1 s1 fl hl=>?_⟩⟩;refine⟨_,rfl,rfl,_,rfl,lB ?_⟩;exact⟨_,rfl,k l H1 s1 fl hl⟩
  ·rintro cls H' ea ad ⟨sH,rfl,kk⟩ hlen hea;obtain⟨u0,u1,u2,u3,u4,u5,u6,rfl⟩:∃ u0 u1 u2 u3 u4 u5 u6,ad=[u0,u1,u2,u3,u4,u5,u6]:=by
    match ad,hlen with
    | [u0,u1,u2,u3,u4,u5,u6],_=>exact⟨_,_,_,_,_,_,_,rfl⟩
   have s1:=aG.new (o:=yY ea (.ref c_NoVessel)) hea;refine⟨hmV,⟨_,rfl,?_⟩⟩;refine⟨_,rfl,rfl,_,rfl,g6 ?_⟩;refine⟨_,rfl,ea,c_NoVessel,_,1,"vessel",rfl,aB,kdV,rfl,rfl,λ i b hi hb=>?_,rfl,λ p H2 sm2 qp=>kk p H2 ((sH.trans s1).trans sm2) qp⟩
   match i,hi with
   | 0,_=>simpa using hb.symm
def A4 (K:aab):Sp:=λ vs H Q _=>∃ (t sl a:Addr) (seen:List Int) (n:Nat),vs=[.ref t,.ref a,.int (n:Int)]/\dN H t sl/\H a=some (.lst (seen.map V.int))/\seen.length<=500/\1<=n/\n<=500/\
 ∀ l (seen':List Int) H',dS t H H'->dN H' t sl->H' l=some (.lst (seen'.map V.int))->seen'.length<=1000->Q (.ref l) H'
theorem hX:FnScope ["tape","seen","ticks","way","at"] ["tape","seen","ticks"] (aP (bQ 46)):={}
theorem mL {f f1:Addr}{fd fd1:FuncData} (F:Fun K "_law_changed" "_law_changed" (bQ 46) f fd) (T:Txt mg)
  (G__law_draw:Callee P w K mg base "_law_draw" ["tape","many"] 1 fE f1 fd1):FnOk P w K mg base i7 2 f fd ["tape","seen","ticks"] (A4 K):=by
 refine F.ok hX (λ vs H Q E h=>?_) (λ cdv A outer s H vs Q E hr h=>?_)
 ·obtain⟨t,sl,a,seen,n,rfl,_⟩:=h;rfl
 ·obtain⟨t,sl,a,seen,n,rfl,tp,ha,hl,n1,n2,k⟩:=h;have sc:=hX;refine⟨_,(aD (aR (i:=3) sc.nd rfl (Or.inl rfl) (dF G__law_draw hr (aA (pv 0) (aA aE aC))))
   (aD (aR (i:=4) sc.nd rfl (Or.inl rfl) (dF G__law_draw hr (aA (pv 0) (aA (aT bX (aN (bE (K:=K) rfl) rfl T.b_len aba (aA (pv 1) aC)) aE) aC))))
   (aD (dL (bL iM (pv 3) aE (bR _)) (aL (bF (aT fZ (gE (kG (K:=K) rfl) (pv 1) iZ (iY (pv 4))) (gE (kG (K:=K) rfl) (pv 1) (iY (aT bX (pv 4) aE)) iZ)))) bV)
   (aD (dL (bL iM (pv 3) aE (bR _)) (aL (bF (aN (oV (P:=P) (w:=w) rfl rfl rfl) rfl T.b_sorted PyProof.Rows.boot_sorted (aA (aZ (qE (P:=P) (w:=w) (K:=K) rfl rfl rfl rfl) rfl T.b_set qH (aA (aT fZ (pv 1) (bC (aA (dF G__law_draw hr (aA (pv 0) (aA (pv 2) aC))) aC))) aC)) aC)))) bV)
   (aD (dL (PW.pt (vA (bL iM (pv 3) aE (bR _)) (qZ (bL tG (pv 4) (aN (bE (K:=K) rfl) rfl T.b_len aba (aA (pv 1) aC)) (bR _))))) (aL (bF (aN (oV (P:=P) (w:=w) rfl rfl rfl) rfl T.b_sorted PyProof.Rows.boot_sorted (aA (aZ (qE (P:=P) (w:=w) (K:=K) rfl rfl rfl rfl) rfl T.b_set qH (aA (aT fZ (aT fZ (gE (kG (K:=K) rfl) (pv 1) iZ (iY (pv 4))) (bC (aA (aN (qF rfl) rfl T.b_min PyProof.Rows.boot_min (aA (aT gX (pv 2) aE) (aA (aT bX (aS (aI (K:=K) rfl) (pv 1) (pv 4) (λ _ _=>rfl)) aE) aC))) aC))) (gE (kG (K:=K) rfl) (pv 1) (iY (aT bX (pv 4) aE)) iZ)) aC)) aC)))) bV)
   (aL (bF (bC aC)))))))),?_⟩
  have sz:(seen.map V.int).length=seen.length:=aad ..;refine⟨_,rfl,t,sl,_,rfl,tp,by decide,by decide,λ r H1 b1 tp1 r0 r1=>?_⟩;have ha1:=b1 a _ (tp.no_ints ha) ha;refine⟨_,rfl,_,rfl,a,_,rfl,.inl (bN.of ha1),_,_,rfl,rfl,t,sl,_,rfl,tp1,by omega,by omega,λ ra H2 b2 tp2 ra0 ra1=>?_⟩;have ha2:=b2 a _ (tp1.no_ints ha1) ha1;have b02:=b1.trans b2;refine⟨_,rfl,rfl,_,rfl,?_⟩;refine fJ (λ _=>?_) (λ _=>?_)
  ·refine⟨_,rfl,_,rfl,_,rfl,a,_,rfl,bN.of ha2,λ p1 hp1=>?_⟩;obtain⟨m1,e1,l1⟩:=JF seen none (some ra);rw[e1];have s1:=aG.new (o:=HO.lst (m1.map V.int)) hp1;refine⟨_,rfl,_,rfl,_,_,rfl,rfl,_,rfl,a,_,rfl,bN.of (s1 _ _ ha2),λ p2 hp2=>?_⟩;obtain⟨m2,e2,l2⟩:=JF seen (some (ra+1)) none;rw[e2];have s2:=aG.new (o:=HO.lst (m2.map V.int)) hp2;refine⟨p1,p2,_,_,rfl,rfl,s2 _ _ aB,aB,aby (aO (by rw[aad,aad];omega)),λ p3 hp3=>?_⟩;have s3:=aG.new (o:=HO.lst (m1.map V.int++m2.map V.int)) hp3;have s13:=(s1.trans s2).trans s3;exact k p3 (m1++m2) _ (b02.trans s13.but) (tp2.same s13) (by rw[aam];exact aB) (by rw[aaw];omega)
  refine⟨_,rfl,rfl,_,rfl,?_⟩;refine fJ (λ _=>?_) (λ _=>?_)
  ·refine⟨_,rfl,_,rfl,_,rfl,t,sl,_,rfl,tp2,by omega,by omega,λ rx H3 b3 tp3 rx0 rx1=>⟨(show 1<=sizeLine by decide),λ p1 hp1=>?_⟩⟩;have ha3:=b3 a _ (tp2.no_ints ha2) ha2;have s1:=aG.new (o:=HO.lst [V.int rx]) hp1;refine⟨a,p1,_,_,rfl,rfl,s1 _ _ ha3,aB,aby (aO (by rw[aad];simp;omega)),λ p2 hp2=>?_⟩;have s2:=aG.new (o:=HO.lst (seen.map V.int++[V.int rx])) hp2;refine⟨p2,seen++[rx],rfl,bN.of (by rw[aam];exact aB),by simp;omega,λ p3 hp3=>?_⟩;have s3:=aG.new (o:=A8 P w p3 (JC (seen++[rx]))) hp3;have hdl:=xL (seen++[rx]);rw[aaw] at hdl;refine⟨p3,_,rfl,aB,by simp at hdl;omega,λ p4 ms hp4 hms=>?_⟩;have s4:=aG.new (o:=HO.lst (ms.map V.int)) hp4;have s14:=((s1.trans s2).trans s3).trans s4;exact k p4 ms _ ((b02.trans b3).trans s14.but) (tp3.same s14) aB (by rw[hms.length_eq];simp at hdl;omega)
  have nilret:∀ p,H2 p=none->Q (.ref p) (upd H2 p (.lst [])):=λ p hp=>k p [] _ (b02.trans (aG.new hp).but) (tp2.same (aG.new hp)) aB (abg _);refine⟨_,rfl,rfl,_,rfl,?_⟩;refine fJ (λ _=>?_) (λ _=>g6 ⟨abg _,nilret⟩);refine⟨_,rfl,_,rfl,a,_,rfl,.inl (bN.of ha2),_,_,rfl,rfl,_,rfl,?_⟩;refine fJ (λ hlt=>?_) (λ _=>⟨abg _,nilret⟩);have hlt':=abn hlt;rw[sz] at hlt';obtain⟨ai,rfl⟩:∃ ai:Nat,ra=(ai:Int):=⟨ra.toNat,by omega⟩;have hai:seen[ai]? = some seen[ai]:=abb (by omega);refine⟨_,rfl,_,rfl,_,rfl,a,_,rfl,bN.of ha2,λ p1 hp1=>?_⟩;obtain⟨m1,e1,l1⟩:=JE seen ai;rw[e1];have s1:=aG.new (o:=HO.lst (m1.map V.int)) hp1;refine⟨_,rfl,_,_,rfl,rfl,_,rfl,_,rfl,.inl ⟨a,_,(ai:Int),.int seen[ai],rfl,rfl,bN.of (s1 _ _ ha2),bW (by rw[aaf,hai];rfl),_,_,rfl,rfl,_,_,rfl,(show 1<=sizeLine by decide),λ p2 hp2=>?_⟩⟩;generalize (if seen[ai]+1 < (n:Int) - 1 then seen[ai]+1 else (n:Int) - 1)=mm at hp2 ⊢;have s2:=aG.new (o:=HO.lst [V.int mm]) hp2;refine⟨p1,p2,_,_,rfl,rfl,s2 _ _ aB,aB,aby (aO (by rw[aad];simp;omega)),λ p3 hp3=>?_⟩;have s3:=aG.new (o:=HO.lst (m1.map V.int++[V.int mm])) hp3;have s13:=(s1.trans s2).trans s3;refine⟨_,rfl,_,rfl,_,_,rfl,rfl,_,rfl,a,_,rfl,bN.of (s13 _ _ ha2),λ p4 hp4=>?_⟩;obtain⟨m2,e2,l2⟩:=JD seen ai (by omega);rw[e2];have s4:=aG.new (o:=HO.lst (m2.map V.int)) hp4;refine⟨p3,p4,_,_,rfl,rfl,s4 _ _ aB,aB,aby (aO (by rw[aaw,aad,aad];simp;omega)),λ p5 hp5=>?_⟩;have s5:=aG.new (o:=HO.lst (m1.map V.int++[V.int mm]++m2.map V.int)) hp5;have e3:m1.map V.int++[V.int mm]++m2.map V.int=(m1++[mm]++m2).map V.int:=by rw[aam,aam];rfl
  rw[e3] at s5 ⊢;have hml:(m1++[mm]++m2).length<=1000:=by simp;omega
  refine⟨p5,m1++[mm]++m2,rfl,bN.of aB,hml,λ p6 hp6=>?_⟩;have s6:=aG.new (o:=A8 P w p6 (JC (m1++[mm]++m2))) hp6;have hdl:=xL (m1++[mm]++m2);refine⟨p6,_,rfl,aB,by omega,λ p7 ms hp7 hms=>?_⟩;have s7:=aG.new (o:=HO.lst (ms.map V.int)) hp7;have s17:=(((s13.trans s4).trans s5).trans s6).trans s7;exact k p7 ms _ (b02.trans s17.but) (tp2.same s17) aB (by rw[hms.length_eq];omega)
theorem A9:FnScope ["script","tape","net","ticks","rows","turn","watched","seen","handed","due","found","odd"] ["script"] (aP (bQ 47)):={}
theorem GB {f f1 f2 f3 f4 f5:Addr}{fd fd1 fd2 fd3 fd4 fd5:FuncData} (F:Fun K "law" "law" (bQ 47) f fd) (T:Txt mg)
  (G__law_draw:Callee P w K mg base "_law_draw" ["tape","many"] 1 fE f1 fd1) (GB__law_draw:Callee P w K mg base "_law_draw" ["tape","many"] 1 qU f1 fd1)
  (G__law_net:Callee P w K mg base "_law_net" ["tape","most","small"] 4 (uW K) f2 fd2)
  (G__law_tips:Callee P w K mg base "_law_tips" ["net","ticks","fast"] 4 (qP K) f3 fd3)
  (G__law_changed:Callee P w K mg base "_law_changed" ["tape","seen","ticks"] 2 (A4 K) f4 fd4)
  (G__law_tried:Callee P w K mg base "_law_tried" ["net","watched","ticks","seen"] 9 (qO K) f5 fd5):FnOk P w K mg base i7 10 f fd ["script"] (wF K):=by
 refine F.ok A9 (λ vs H Q E h=>?_) (λ cdv A outer s H vs Q E hr h=>?_)
 ·obtain⟨a,ns,rfl,_⟩:=h;rfl
 ·obtain⟨a,ns,rfl,hS,hlen,k⟩:=h;have sc:=A9;refine⟨_,(aD (aR (i:=1) sc.nd rfl (Or.inl rfl) (bC (aA (aZ (jA (K:=K) rfl) rfl T.b_list jC (aA (pv 0) aC)) (aA aE (aA aE aC)))))
   (aD (aR (i:=2) sc.nd rfl (Or.inr rfl) (dF G__law_net hr (aA (pv 1) (aA (aS (aI (K:=K) rfl) (bC (aA aE (aA aE aC))) (dF G__law_draw hr (aA (pv 1) (aA aE aC))) (λ _ _=>rfl)) (aA (kR wO (dF G__law_draw hr (aA (pv 1) (aA aE aC))) aE (bR _)) aC)))))
   (aD (aR (i:=3) sc.nd rfl (Or.inr rfl) (aS (aI (K:=K) rfl) (bC (aA (aT bX aE (dF G__law_draw hr (aA (pv 1) (aA aE aC)))) (aA (aT bX aE (dF G__law_draw hr (aA (pv 1) (aA aE aC)))) (aA aE aC)))) (aT fW (dF G__law_draw hr (aA (pv 1) (aA aE aC))) aE) (λ _ _=>rfl)))
   (aD (aR (i:=4) sc.nd rfl (Or.inr rfl) (fU (λ _ _ h=>h) rfl (LcOk.mk (N':=["fast","net","ticks"]) (fr:=[none,some 2,some 3]) rfl ⟨rfl,rfl,trivial⟩ rfl rfl rfl rfl rfl ⟨⟨_,rfl,rfl,rfl,rfl⟩,⟨_,rfl,rfl,rfl,rfl⟩,trivial⟩) (eP (K:=K) rfl (aT fZ (bC (aA eF aC)) (r9 rfl rfl T.b_list rfl T.b_range (aN (bE (K:=K) rfl) rfl T.b_len aba (aA (aS (aI (K:=K) rfl) (pv 2) aE (λ _ _=>rfl)) aC))))) (λ _ _ _=>(aF (i:=0) (show (["fast","net","ticks"]:List Str).Nodup by decide +kernel) rfl (Or.inl rfl) (Or.inr rfl))) (λ _ _ _=>dG) (λ _ _ _=>(dF G__law_tips hr (aA (pv 1) (aA (pv 2) (aA (pv 0) aC)))))))
   (aD (dP PassesOwn.never rfl (cC rfl T.b_range (aA aE aC)) (aF (i:=5) sc.nd rfl (Or.inl rfl)) (aD (aR (i:=6) sc.nd rfl (Or.inr rfl) (dF G__law_draw hr (aA (pv 1) (aA (aN (bE (K:=K) rfl) rfl T.b_len aba (aA (aS (aI (K:=K) rfl) (pv 2) aE (λ _ _=>rfl)) aC)) aC))))
   (aD (aR (i:=7) sc.nd rfl (Or.inr rfl) (aS (aI (K:=K) rfl) (aS (aI (K:=K) rfl) (pv 4) (dF G__law_draw hr (aA (pv 1) (aA (aN (bE (K:=K) rfl) rfl T.b_len aba (aA (pv 4) aC)) aC))) (λ _ _=>rfl)) (pv 6) (λ _ _=>rfl)))
   (aD (dL (bL iM (dF G__law_draw hr (aA (pv 1) (aA aE aC))) aE (bR _)) (aL (aR (i:=7) sc.nd rfl (Or.inr rfl) (dF G__law_changed hr (aA (pv 1) (aA (pv 7) (aA (pv 3) aC)))))) bV)
   (aD (aR (i:=8) sc.nd rfl (Or.inl rfl) (aZ (jA (K:=K) rfl) rfl T.b_list jC (aA (pv 7) aC)))
   (aD (gD (i:=9) sc.nd rfl rfl (λ _ _ h=>h) rfl (LcOk.mk (N':=["k","net","seen","watched","rows"]) (fr:=[none,some 2,some 7,some 6,some 4]) rfl ⟨rfl,rfl,rfl,rfl,trivial⟩ rfl rfl rfl rfl rfl ⟨⟨_,rfl,rfl,rfl,rfl⟩,⟨_,rfl,rfl,rfl,rfl⟩,⟨_,rfl,rfl,rfl,rfl⟩,⟨_,rfl,rfl,rfl,rfl⟩,trivial⟩) (cC rfl T.b_range (aA (aN (bE (K:=K) rfl) rfl T.b_len aba (aA (pv 4) aC)) aC)) (λ _ _ _=>(aF (i:=0) (show (["k","net","seen","watched","rows"]:List Str).Nodup by decide +kernel) rfl (Or.inl rfl) (Or.inr rfl))) (λ _ _ _=>gU (bL (wP (K:=K) rfl hr.units) (aS (aI (K:=K) rfl) (aS (aI (K:=K) rfl) (pv 4) (pv 0) (λ _ _=>rfl)) (pv 3) (λ _ _=>rfl)) (pv 2) (bR _))) (λ _ _ _=>(aS (aI (K:=K) rfl) (aT fZ (bC (aA eF aC)) (r9 rfl rfl T.b_list rfl T.b_range (aN (bE (K:=K) rfl) rfl T.b_len aba (aA (aS (aI (K:=K) rfl) (pv 1) aE (λ _ _=>rfl)) aC)))) (pv 0) (λ _ _=>rfl))))
   (aD (aR (i:=10) sc.nd rfl (Or.inl rfl) (dF G__law_tried hr (aA (pv 2) (aA (pv 6) (aA (pv 3) (aA (pv 8) aC))))))
   (aD (dL (PW.pt (wJ (r6 (gT (aN (jB (K:=K) rfl) rfl T.b_isinstance d9 (aA (pv 10) (aA (kS (v:=.ty "list") rfl T.b_list jC rfl) aC))))) (wJ (bL (wN (K:=K) rfl hr.units) (pv 10) (pv 9) (bR _)) (uZ (bL (wN (K:=K) rfl hr.units) (pv 8) (pv 7) (bR _)))))) (aL (bF i4)) bV)
   (aL (dL (bL (AS (K:=K) rfl) i4 (fU (λ _ _ h=>h) rfl (LcOk.mk (N':=["one"]) (fr:=[none]) rfl trivial rfl rfl rfl rfl rfl trivial) (eP (K:=K) rfl (pv 10)) (λ _ _ _=>(aF (i:=0) (show (["one"]:List Str).Nodup by decide +kernel) rfl (Or.inl rfl) (Or.inr rfl))) (λ _ _ _=>dG) (λ _ _ _=>(aN (jB (K:=K) rfl) rfl T.b_isinstance d9 (aA (pv 0) (aA (kS (v:=.ty "bool") rfl T.b_bool xP rfl) aC))))) (by rfl)) (aL (bF i4)) bV))))))))))
   (aD (dP PassesOwn.never rfl (eP (K:=K) rfl (bC (aA (ER zW aE) (aA (aN (bE (K:=K) rfl) rfl T.b_len aba (aA (aS (aI (K:=K) rfl) (pv 2) aE (λ _ _=>rfl)) aC)) (aA (aT bX aE (dF GB__law_draw hr (aA (pv 1) (aA (aT AR aE aE) aC)))) aC))))) (aF (i:=11) sc.nd rfl (Or.inl rfl)) (aL (dL (bL (vF (K:=K) rfl hr.units) (dF G__law_tried hr (aA (pv 2) (aA (pv 11) (aA aE (aA (bC aC) aC))))) (bO (aA dA aC)) (bR _)) (aL (bF i4)) bV)))
   (aL (bF i4)))))))),?_⟩
  refine⟨_,rfl,a,_,rfl,.inl hS,λ sl hsl=>⟨(show 3<=sizeLine by decide),λ t ht=>?_⟩⟩;have nst:sl≠t:=aJ (show upd H sl (.lst (ns.map V.int)) sl=_ from aB) ht;have tp0:dN (upd (upd H sl (.lst (ns.map V.int))) t (.lst [.ref sl,.int 0,.int 0])) t sl:=⟨ns,0,0,aB,by rw[aK nst];exact aB,by omega⟩;generalize upd (upd H sl (.lst (ns.map V.int))) t (.lst [.ref sl,.int 0,.int 0])=H0 at tp0;refine⟨_,rfl,?_⟩;refine eR (t:=t) (sl:=sl) (H0:=H0) (P:=cH 3 13) (jG ⟨4,rfl,by decide,by decide⟩) (jG ⟨12,rfl,by decide,by decide⟩) (bK rfl (by decide) (by decide)) _ _ ⟨dS.refl _,tp0⟩ ?_;rintro v H1 e1 _ ⟨most,rfl,m0,m1⟩;refine BQ (t:=t) (sl:=sl) (H0:=H1) (bK rfl (by decide) (by decide)) _ _ ⟨dS.refl _,e1.tp⟩ ?_;rintro v H2 e2 _ ⟨small,rfl⟩;refine⟨t,sl,most,small,rfl,by omega,by omega,e2.tp,λ net p H3 e3 nok nfu hml hp=>?_⟩;have tp3:=e3.tp;have n1:=nok.lo;have n2:=nok.hi;refine oR (t:=t) (sl:=sl) (H0:=H3) (P:=cH 1 501) (i5 (lU (jG (P:=cH 1 2) ⟨1,rfl,by decide,by decide⟩) (bK rfl (by decide) (by decide))) (by decide) (by decide)) (i5 (lU (jG (P:=cH 1 2) ⟨1,rfl,by decide,by decide⟩) (bK rfl (by decide) (by decide))) (by decide) (by decide))
   (jG ⟨500,rfl,by decide,by decide⟩) (GP (bK rfl (by decide) (by decide))) _ _ ⟨dS.refl _,tp3⟩ ?_
  rintro v H4 e4 _ ⟨ni,rfl,ni0,ni1⟩;obtain⟨n,rfl⟩:∃ n:Nat,ni=(n:Int):=⟨ni.toNat,by omega⟩;have tp4:=e4.tp;have hp4:=Is.mono (e4.ts (K:=K) tp3) _ _ hp;obtain⟨na,nb,nc,xs,ys,rfl,q,q1,l1,q2,l2⟩:=dM hp4;have exl:xs.length=net.vs.length:=by rw[l1.length,aad]
  refine⟨(show 1<=sizeLine by decide),λ e he=>?_⟩;have s1:=aG.new (o:=HO.lst [.non]) he;refine⟨_,rfl,.inr (.inl ⟨na,_,0,_,rfl,rfl,s1.tup q,rfl,nb,xs,rfl,.inr (s1.tup q1),net.vs.length,by rw[exl],by omega,λ l hl=>?_⟩)⟩;have s2:=aG.new (o:=HO.lst ((List.range net.vs.length).map λ (i:Nat)=>V.int (i:Int))) hl;refine⟨e,l,_,_,rfl,rfl,s2 _ _ aB,aB,aby (aO (by simp;omega)),λ tt htt=>?_⟩;have s3:=aG.new (o:=HO.lst ([V.non]++(List.range net.vs.length).map λ (i:Nat)=>V.int (i:Int))) htt;have et:([V.non]++(List.range net.vs.length).map λ (i:Nat)=>V.int (i:Int))=(aX net).map cN:=by
   unfold aX;rw[abe,acd];rfl
  rw[et] at s3 ⊢;have ht2:upd (upd (upd H4 e (.lst [.non])) l (.lst ((List.range net.vs.length).map λ (i:Nat)=>V.int (i:Int)))) tt (.lst ((aX net).map cN)) tt=some (.lst ((aX net).map cN)):=aB;have s03:=(s1.trans s2).trans s3;generalize upd (upd (upd H4 e (.lst [.non])) l (.lst ((List.range net.vs.length).map λ (i:Nat)=>V.int (i:Int)))) tt (.lst ((aX net).map cN))=H5 at s03 ht2;have hcl:(aX net).length=net.vs.length+1:=by unfold aX;simp
  have hcm:∀ {i:Nat}{fo:Option Nat},(aX net)[i]? = some fo->∀ j,fo=some j->j < net.vs.length:=λ {i fo} hfo j' e'=>by
   subst e';have:=abl hfo;unfold aX at this;rcases aax.1 this with h | h
   ·cases h
   ·obtain⟨z,hz,ez⟩:=acq.1 h;injection ez with ez;subst ez;exact acx.1 hz
  have hp5:=Is.mono s03.ts _ _ hp4;refine⟨tt,rfl,⟨_,bN.of ht2⟩,kZ (K:=K) (a:=tt) (xs:=(aX net).map cN) (λ D i r ad H'=>H5 D=none/\aG H5 H'/\H' D=some (.lst r)/\(∃ rts:List Addr,r=rts.map V.ref/\fP H' net n ((aX net).take i) rts D)/\∃ u,ad=[u,some (.ref na),some (.int (n:Int))])
   (λ D i r ad H' p=>bN.of (p.2.1 _ _ ht2)) (λ D hD=>⟨hD,aG.new hD,aB,⟨[],rfl,rfl,λ i r fo hr _=>by simp at hr⟩,none,rfl⟩) ?_ ?_⟩
  rotate_left
  ·rintro D i y r ad H6 hy ⟨hD,sm,hDl,⟨rts,rfl,RA⟩,u,rfl⟩;rw[aaf] at hy;obtain⟨fo,hfo,rfl⟩:=aau.mp hy;have hil:=(aai.mp hfo).1;dsimp only [dU];refine⟨_,rfl,_,rfl,_,rfl,.ref na,net,fo,n,rfl,Is.mono sm.ts _ _ hp5,nok,nP nok nfu fo,by omega,λ l6 ts H7 s7 fl hl7 htl hts=>?_⟩;have hrl:rts.length=i:=by rw[RA.1,aat];omega
   have off7:dS D H6 (upd H7 D (.lst (rts.map V.ref++[.ref l6]))):=λ b o hb hbo=>by rw[aK hb];exact s7 b o hbo
   have nlD:l6≠D:=λ z=>by rw[z,hDl] at fl;cases fl
   refine⟨s7 _ _ hDl,aO (by rw[aad];omega),hD,(sm.trans s7).put hD,aB,⟨rts++[l6],by simp,?_⟩,_,rfl⟩;rw[aV hfo];refine (RA.off off7).snoc nlD (by rw[aK nlD];exact hl7) htl λ j t' ht'=>?_;obtain⟨ft,e7⟩:=hts j t' ht';have ntD:t'≠D:=λ z=>by rw[z,hDl] at ft;cases ft
   refine⟨ntD,?_⟩;rw[aK ntD,e7];unfold tI gJ;rw[acd];rfl
  rintro ro r ad H6 ⟨hD,s6,hDl,⟨rts,rfl,RA⟩,_⟩;rw[aad,aas] at RA;have s46:=s03.trans s6;refine⟨_,rfl,by decide,by decide,dW (lo:=0) (n:=4) (λ m ad H'=>dN H' t sl/\Is K H' (eX net) (.ref na)/\H' ro=some (.lst (rts.map V.ref))/\fP H' net n (aX net) rts ro/\
   ∃ v5 v6 v7 v8 v9 v10 v11,ad=[some (.ref a),some (.ref t),some (.ref na),some (.int (n:Int)),some (.ref ro),v5,v6,v7,v8,v9,v10,v11]) ⟨tp4.same s46,Is.mono s46.ts _ _ hp4,hDl,RA,_,_,_,_,_,_,_,rfl⟩ ?_ ?_⟩
  ·rintro m ad H7 hm ⟨tp7,hp7,hro7,RA7,v5,v6,v7,v8,v9,v10,v11,rfl⟩;obtain⟨na',nb',nc',xs',ys',ena,q',q1',l1',_,_⟩:=dM hp7;cases ena;have exl':xs'.length=net.vs.length:=by rw[l1'.length,aad]
   dsimp only [dU];refine⟨_,rfl,_,rfl,.inr (.inl ⟨na,_,0,_,rfl,rfl,q',rfl,nb',xs',rfl,.inr q1',t,sl,_,rfl,tp7,by omega,by omega,λ rj H8 b8 tp8 r0 r1=>?_⟩)⟩;obtain⟨j,rfl⟩:∃ j:Nat,rj=(j:Int):=⟨rj.toNat,by omega⟩;have hj:j < net.vs.length:=by omega
   have hp8:=Is.mono (b8.ts (K:=K) tp7.mut) _ _ hp7;have hro8:=b8 _ _ (tp7.no_refs hro7) hro7;have RA8:=RA7.but tp7 b8;have hrl:=RA8.1;refine⟨_,rfl,_,rfl,_,rfl,ro,_,rfl,.inl (bN.of hro8),t,sl,_,rfl,tp8,by rw[aad];omega,by rw[aad];omega,λ rk H9 b9 tp9 k0 k1=>?_⟩;obtain⟨ki,rfl⟩:∃ ki:Nat,rk=(ki:Int):=⟨rk.toNat,by omega⟩;rw[aad] at k1;have hp9:=Is.mono (b9.ts (K:=K) tp8.mut) _ _ hp8;have hro9:=b9 _ _ (tp8.no_refs hro8) hro8;have RA9:=RA8.but tp8 b9;have hrk:rts[ki]? = some rts[ki]:=abb (by omega);obtain⟨fk,hfk⟩:∃ fk,(aX net)[ki]? = some fk:=⟨_,abb (by omega)⟩;obtain⟨_,tsk,hr9,htk,hk9⟩:=RA9.2 ki _ fk hrk hfk;have htj:tsk[j]? = some tsk[j]:=abb (by omega);obtain⟨_,hs9⟩:=hk9 j _ htj;refine .inl ⟨ro,_,(ki:Int),.ref rts[ki],rfl,rfl,bN.of hro9,bW (by rw[aaf,hrk];rfl),_,rfl,.inl ⟨rts[ki],_,(j:Int),.ref tsk[j],rfl,rfl,bN.of hr9,bW (by rw[aaf,htj];rfl),?_⟩⟩;have hsn:(gJ (dD (aW net fk) n j)).length<=500:=by
    unfold gJ;rw[aad];have:=nK (aW net fk) n j;omega
   generalize gJ (dD (aW net fk) n j)=seen at hs9 hsn;generalize tsk[j]=sa at hs9 htj;refine⟨_,rfl,t,sl,_,rfl,tp9,by decide,by decide,λ rz HH b10 tpp z0 z1=>⟨rfl,_,rfl,?_⟩⟩;have hpp:=Is.mono (b10.ts (K:=K) tp9.mut) _ _ hp9;have hroo:=b10 _ _ (tp9.no_refs hro9) hro9;have RAA:=RA9.but tp9 b10;have hss:=b10 _ _ (tp9.no_ints hs9) hs9;have hsz:seen.length<=1000:=by omega
   refine fJ (λ _=>?_) (λ _=>?_);refine⟨_,rfl,_,rfl,_,rfl,t,sl,sa,seen,n,rfl,tpp,hss,hsn,by omega,by omega,λ sa seen HH b11 tp11 hss hsz=>?_⟩;have hpp:=Is.mono (b11.ts (K:=K) tpp.mut) _ _ hpp;have hroo:=b11 _ _ (tpp.no_refs hroo) hroo;have RAA:=RAA.but tpp b11;have tpp:=tp11
   all_goals (
    refine⟨_,rfl,sa,_,rfl,.inl (bN.of hss),λ hd hhd=>?_⟩;have s12:=aG.new (o:=HO.lst (seen.map V.int)) hhd;have hh12:upd HH hd (.lst (seen.map V.int)) hd=some (.lst (seen.map V.int)):=aB;have hs12:=s12 _ _ hss;have tp12:=tpp.same s12;have hp12:=Is.mono s12.ts _ _ hpp;have hro12:=s12 _ _ hroo;have RA12:=RAA.off s12.but;generalize upd HH hd (.lst (seen.map V.int))=H12 at hh12 hs12 tp12 hp12 hro12 RA12;refine⟨_,rfl,ro,_,rfl,.inl (bN.of hro12),_,rfl,by rw[aad];omega,by rw[aad];omega,?_⟩;rw[show (((rts.map V.ref).length:Nat):Int).toNat=rts.length from by simp];obtain⟨na2,nb2,nc2,xs2,ys2,ena,q12,q112,l12,_,_⟩:=dM hp12;cases ena;have exl2:xs2.length=net.vs.length:=by rw[l12.length,aad]
    refine fI (n:=rts.length) (λ D i r ad H'=>H12 D=none/\aG H12 H'/\H' D=some (.lst r)/\r=(fM net n j seen ((aX net).take i)).map cN/\∃ v,ad=[v,some (.ref na),some (.ref sa),some (.int (j:Int)),some (.ref ro)])
     (λ D hD=>⟨hD,aG.new hD,aB,rfl,none,rfl⟩) ?_ ?_
    rotate_left
    ·rintro D i r ad H13 hi ⟨hD,sm,hDl13,rfl,v,rfl⟩;have hri:rts[i]? = some rts[i]:=abb hi;obtain⟨fo,hfo⟩:∃ fo,(aX net)[i]? = some fo:=⟨_,abb (by omega)⟩;have RA13:=RA12.off (sm.but (t:=ro));obtain⟨_,tsi,hri13,hti,hki⟩:=RA13.2 i _ fo hri hfo;have htij:tsi[j]? = some tsi[j]:=abb (by omega);obtain⟨_,hsi⟩:=hki j _ htij;dsimp only [dU];refine⟨_,rfl,_,rfl,.inl ⟨ro,_,(i:Int),.ref rts[i],rfl,rfl,bN.of (sm _ _ hro12),bW (by rw[aaf,hri];rfl),_,rfl,.inl ⟨rts[i],_,(j:Int),.ref tsi[j],rfl,rfl,bN.of hri13,bW (by rw[aaf,htij];rfl),?_⟩⟩⟩;refine⟨_,rfl,.lst ((gJ (dD (aW net fo) n j)).map G.int),.lst (seen.map G.int),by rw[gL,h9];decide,aQ.l (bN.of hsi) (cX.ints _),aQ.l (bN.of (sm _ _ hs12)) (cX.ints _),_,rfl,?_⟩;rw[aY,lW];have hsn:=mH net n j seen ((aX net).take i) fo;rw[<- aV hfo] at hsn;have hcl2:=jX net n j seen ((aX net).take i);rw[aat] at hcl2;refine fJ (λ hT=>?_) (λ hF=>?_)
     ·rw[if_pos (abn hT)] at hsn;refine⟨(show 1<=sizeLine by decide),λ e he=>?_⟩;have s1:=aG.new (o:=HO.lst [.non]) he;have sm1:=sm.trans s1;refine⟨_,rfl,.inr (.inl ⟨na,_,0,_,rfl,rfl,sm1.tup q12,rfl,nb2,xs2,rfl,.inr (sm1.tup q112),net.vs.length,by rw[exl2],by omega,λ l hl=>?_⟩)⟩;have s2:=aG.new (o:=HO.lst ((List.range net.vs.length).map λ (i:Nat)=>V.int (i:Int))) hl;refine⟨e,l,_,_,rfl,rfl,s2 _ _ aB,aB,aby (aO (by simp;omega)),λ tt htt=>?_⟩;have s3:=aG.new (o:=HO.lst ([V.non]++(List.range net.vs.length).map λ (i:Nat)=>V.int (i:Int))) htt;rw[et] at s3 ⊢;refine⟨_,rfl,.inl ⟨tt,_,(i:Int),cN fo,rfl,rfl,bN.of aB,bW (by rw[aaf,hfo];rfl),?_⟩⟩;have s13:=(s1.trans s2).trans s3;refine⟨s13 _ _ hDl13,aO (by rw[aad];omega),hD,(sm.trans s13).put hD,aB,?_,_,rfl⟩;rw[hsn,aam];rfl
     ·rw[if_neg (λ e=>hF (abq e)),acf] at hsn;exact⟨hD,sm,hDl13,by rw[hsn],_,rfl⟩
    rintro du r ad H13 ⟨hD,s13,hDu,rfl,_⟩;rw[show rts.length=(aX net).length from hrl,aas] at hDu;have hh13:=s13 _ _ hh12;have hs13:=s13 _ _ hs12;refine⟨_,rfl,_,rfl,_,rfl,_,rfl,.ref na,net,(j:Int),n,hd,seen,rfl,Is.mono s13.ts _ _ hp12,nok,nfu,by omega,hh13,.inr ⟨j,rfl,hj,λ fl H14 s14 ffl hfl=>?_⟩⟩;have hDu14:=s14 _ _ hDu;have s124:=s13.trans s14;have hcl3:=jX net n j seen (aX net);refine⟨_,rfl,_,"list",_,true,rfl,.inl (.lst hfl),B5 K,_,rfl,g6 ?_⟩;refine⟨_,rfl,_,rfl,.lst ((fM net n j seen (aX net)).map gF),.lst ((fM net n j seen (aX net)).map gF),by rw[gL,jW];decide,aQ.l (bN.of hfl) (j6 _),aQ.l (bN.of hDu14) (j6 _),_,rfl,?_⟩;rw[iS];refine g6 ?_;refine⟨_,rfl,_,rfl,.lst (seen.map G.int),.lst (seen.map G.int),by rw[gL,h9];decide,aQ.l (bN.of (s14 _ _ hh13)) (cX.ints _),aQ.l (bN.of (s14 _ _ hs13)) (cX.ints _),_,rfl,?_⟩;rw[iS];refine g6 ?_;refine⟨_,rfl,fl,rfl,⟨_,bN.of hfl⟩,kZ (K:=K) (a:=fl) (xs:=(fM net n j seen (aX net)).map cN) (λ D i r ad H'=>H14 D=none/\aG H14 H'/\H' D=some (.lst r)/\r=List.replicate i (.bl false)/\∃ u,ad=[u])
     (λ D i r ad H' p=>bN.of (p.2.1 _ _ hfl)) (λ D hD=>⟨hD,aG.new hD,aB,rfl,none,rfl⟩) ?_ ?_⟩
    rotate_left
    ·rintro D i x r ad H15 hx ⟨hDn,sm,hDl15,rfl,u,rfl⟩;have hil:=(aai.mp hx).1;rw[aad] at hil;rw[aaf] at hx;obtain⟨fo,_,rfl⟩:=aau.mp hx;refine eC ?_;cases fo with
     | none=>exact⟨_,rfl,_,"bool",_,false,rfl,.inl .non,GD K,hDl15,aO (by rw[acz];omega),hDn,sm.put hDn,aB,by rw[List.replicate_succ'],_,rfl⟩
     | some jj=>exact⟨_,rfl,_,"bool",_,false,rfl,.inl (.int _),B6 K,hDl15,aO (by rw[acz];omega),hDn,sm.put hDn,aB,by rw[List.replicate_succ'],_,rfl⟩
    rintro D r ad H15 ⟨hDn,sm,hDl15,rfl,_⟩;have hin:∀ m,HG (.bl true) (List.replicate m (.bl false))=false:=λ m=>by
     induction m with
     | zero=>rfl
     | succ n ih=>rw[List.replicate_succ];exact ih
    have hfl2:∀ m,(List.replicate m (V.bl false)).all gK=true:=λ m=>by
     rw[ace];intro z hz;have:=List.eq_of_mem_replicate hz;subst this;rfl
    refine⟨D,_,rfl,.inl (bN.of hDl15),rfl,hfl2 _,_,rfl,?_⟩;rw[if_neg (by decide),hin];refine g6 ?_;have s125:=s124.trans sm;exact⟨tp12.same s125,Is.mono s125.ts _ _ hp12,s125 _ _ hro12,RA12.off s125.but,_,_,_,_,_,_,_,rfl⟩)
  ·rintro ad H6 ⟨tp6,hp6,_,_,v5,v6,v7,v8,v9,v10,v11,rfl⟩;obtain⟨na',nb',nc',xs',ys',ena,q',q1',l1',_,_⟩:=dM hp6;cases ena;have exl':xs'.length=net.vs.length:=by rw[l1'.length,aad]
   refine⟨1,rfl,_,rfl,.inr (.inl ⟨na,_,0,_,rfl,rfl,q',rfl,nb',xs',rfl,.inr q1',?_⟩)⟩;refine⟨_,rfl,_,_,rfl,rfl,⟨by decide,by decide,by decide⟩,t,sl,_,rfl,tp6,by decide,by decide,λ rr H7 b7 t7 rr0 rr1=>⟨_,_,rfl,rfl,(show 3<=sizeLine by decide),λ l3 hl3=>?_⟩⟩;have ts7:=b7.ts (K:=K) tp6.mut;have s8:=aG.new (o:=HO.lst [.int (-1),.int (xs'.length:Int),.int (12+rr)]) hl3;have ts8:=ts7.trans s8.ts;refine⟨l3,rfl,⟨_,bN.of aB⟩,oS (K:=K) (a:=l3) (xs:=[.int (-1),.int (xs'.length:Int),.int (12+rr)])
    (λ m ad H'=>Is K H' (eX net) (.ref na)/\H' l3=some (.lst [.int (-1),.int (xs'.length:Int),.int (12+rr)])/\∃ v5 v6 v7 v8 v9 v10 v11,ad=[some (.ref a),some (.ref t),some (.ref na),some (.int (n:Int)),some (.ref ro),v5,v6,v7,v8,v9,v10,v11])
    ⟨Is.mono ts8 _ _ hp6,aB,_,_,_,_,_,_,_,rfl⟩ (λ m ad H' _ p=>bN.of p.2.1) ?_ ?_⟩
   ·rintro m y ad H9 hy ⟨hp9,hl9,v5,v6,v7,v8,v9,v10,v11,rfl⟩;have hyv:∃ v:Int,y=.int v/\¬ (0<=v/\v < net.vs.length):=by
     have hm:=abl hy;rcases aax.1 hm with rfl | hm
     ·exact⟨-1,rfl,by omega⟩
     rcases aax.1 hm with rfl | hm
     ·exact⟨_,rfl,by omega⟩
     ·have:=abx.1 hm;subst this;exact⟨_,rfl,by omega⟩
    obtain⟨v,rfl,hn⟩:=hyv;refine⟨_,rfl,_,rfl,abg _,λ e0 he0=>?_⟩;have s9:=aG.new (o:=HO.lst []) he0;refine⟨.ref na,net,v,5,e0,[],rfl,Is.mono s9.ts _ _ hp9,nok,nfu,by omega,aB,.inl ⟨hn,λ pd H10 sm10 qd=>⟨(show 1<=sizeLine by decide),λ e he=>?_⟩⟩⟩;have s11:=aG.new (o:=HO.tup [.str "vessel"]) he;have s911:=(s9.trans sm10).trans s11;refine⟨[.str "vessel"],(show 1<=1000 by decide),by rw[fL,fL,zD];decide,Is.tupOf (s11.tup qd) (.cons (Is.s _) .nil),Is.tupOf (bM.of aB) (.cons (Is.s _) .nil),_,rfl,g6 ?_⟩;exact⟨Is.mono s911.ts _ _ hp9,s911 _ _ hl9,_,_,_,_,_,_,_,rfl⟩
   ·rintro ad H9 _;exact k H9
theorem n4 {az:Type}{p:List az->Prop} (h:∀ a0,p [a0]):∀ us:List az,us.length=1->p us
 | [a0],_=>h a0
theorem hG {az:Type}{p:List az->Prop} (h:∀ a0 a1,p [a0,a1]):∀ us:List az,us.length=2->p us
 | [a0,a1],_=>h a0 a1
theorem cS {az:Type}{p:List az->Prop} (h:∀ a0 a1 a2,p [a0,a1,a2]):∀ us:List az,us.length=3->p us
 | [a0,a1,a2],_=>h a0 a1 a2
theorem sF {az:Type}{p:List az->Prop} (h:∀ a0 a1 a2 a3,p [a0,a1,a2,a3]):∀ us:List az,us.length=4->p us
 | [a0,a1,a2,a3],_=>h a0 a1 a2 a3
theorem E8 {az:Type}{p:List az->Prop} (h:∀ a0 a1 a2 a3 a4,p [a0,a1,a2,a3,a4]):∀ us:List az,us.length=5->p us
 | [a0,a1,a2,a3,a4],_=>h a0 a1 a2 a3 a4
abbrev Na (K:aab) (x:Str) (f:Addr):Prop:=PySem.W.nsIn K mainGlobals x=some (some (.ref f))
abbrev Nn (K:aab) (x:Str):Prop:=PySem.W.nsIn K mainGlobals x=some none
abbrev Kp (K:aab) (f:Addr):Prop:=PySem.W.keepIn K (.ref f)=true
abbrev Cd (K:aab) (c:Value) (q:Str):Prop:=PySem.W.codeIn K c q=true
abbrev Lk (K:aab) (f:Addr) (m q:Str) (s:Stmt) (oc:Value) (od:Option Addr) (kV dc pm:Value) (an:Option Addr) (cd ct:Value) (sl:Array (Option Value)):Prop:=K.lookup f=some ⟨oc,od,.func (PySem.W.fnOf m q (j9 s) (fX s) (aP s) .none kV dc pm an cd ct),sl⟩
theorem all_mk {l:PySem.W.OpenLaw}{w:World}{K:aab}{h:Heap}{mg:Str->Option Value}{fa f0 f1 f2 f3 f4 f5 f6 f7 f8 f9 f10 f11 f12 f13 f14 f15 f16 f17 f18 f19 f20 f21 f22 f23 f24 f25 f26 f27 f28 f29 f30 f31 c_TipError c_NoNet c_NoVessel c_TooLong c_TooMany c_TooMuch c_Nothing c_NoText c_NoRow:Addr} (X:K.In h) (G:h.Ns mainGlobals mg) (hfa:mg "law" = some (.ref fa))
  {od0 an0 od1 an1 od2 an2 od3 an3 od4 an4 od5 an5 od6 an6 od7 an7 od8 an8 od9 an9 od10 an10 od11 an11 od12 an12 od13 an13 od14 an14 od15 an15 od16 an16 od17 an17 od18 an18 od19 an19 od20 an20 od21 an21 od22 an22 od23 an23 od24 an24 od25 an25 od26 an26 od27 an27 od28 an28 od29 an29 od30 an30 od31 an31:Option Addr}{sl0 sl1 sl2 sl3 sl4 sl5 sl6 sl7 sl8 sl9 sl10 sl11 sl12 sl13 sl14 sl15 sl16 sl17 sl18 sl19 sl20 sl21 sl22 sl23 sl24 sl25 sl26 sl27 sl28 sl29 sl30 sl31:Array (Option Value)}{oc0 kV0 dc0 pm0 ct0 cd0 oc1 kV1 dc1 pm1 ct1 cd1 oc2 kV2 dc2 pm2 ct2 cd2 oc3 kV3 dc3 pm3 ct3 cd3 oc4 kV4 dc4 pm4 ct4 cd4 oc5 kV5 dc5 pm5 ct5 cd5 oc6 kV6 dc6 pm6 ct6 cd6 oc7 kV7 dc7 pm7 ct7 cd7 oc8 kV8 dc8 pm8 ct8 cd8 oc9 kV9 dc9 pm9 ct9 cd9 oc10 kV10 dc10 pm10 ct10 cd10 oc11 kV11 dc11 pm11 ct11 cd11 oc12 kV12 dc12 pm12 ct12 cd12 oc13 kV13 dc13 pm13 ct13 cd13 oc14 kV14 dc14 pm14 ct14 cd14 oc15 kV15 dc15 pm15 ct15 cd15 oc16 kV16 dc16 pm16 ct16 cd16 oc17 kV17 dc17 pm17 ct17 cd17 oc18 kV18 dc18 pm18 ct18 cd18 oc19 kV19 dc19 pm19 ct19 cd19 oc20 kV20 dc20 pm20 ct20 cd20 oc21 kV21 dc21 pm21 ct21 cd21 oc22 kV22 dc22 pm22 ct22 cd22 oc23 kV23 dc23 pm23 ct23 cd23 oc24 kV24 dc24 pm24 ct24 cd24 oc25 kV25 dc25 pm25 ct25 cd25 oc26 kV26 dc26 pm26 ct26 cd26 oc27 kV27 dc27 pm27 ct27 cd27 oc28 kV28 dc28 pm28 ct28 cd28 oc29 kV29 dc29 pm29 ct29 cd29 oc30 kV30 dc30 pm30 ct30 cd30 oc31 kV31 dc31 pm31 ct31 cd31:Value}
  {qcV:Value}{qdV:Option Addr}{qkV:ClassData}{qsV:Array (Option Value)}
  (a0:Na K "_law_draw" f0)
  (l0:Lk K f0 "_law_draw" "_law_draw" (bQ 35) oc0 od0 kV0 dc0 pm0 an0 cd0 ct0 sl0)
  (c0:Cd K cd0 "_law_draw")
  (k0:Kp K f0)
  (a1:Na K "_law_outs" f1)
  (l1:Lk K f1 "_law_outs" "_law_outs" (bQ 37) oc1 od1 kV1 dc1 pm1 an1 cd1 ct1 sl1)
  (c1:Cd K cd1 "_law_outs")
  (k1:Kp K f1)
  (a2:Na K "_law_vessel" f2)
  (l2:Lk K f2 "_law_vessel" "_law_vessel" (bQ 38) oc2 od2 kV2 dc2 pm2 an2 cd2 ct2 sl2)
  (c2:Cd K cd2 "_law_vessel")
  (k2:Kp K f2)
  (a3:Na K "_law_net" f3)
  (l3:Lk K f3 "_law_net" "_law_net" (bQ 39) oc3 od3 kV3 dc3 pm3 an3 cd3 ct3 sl3)
  (c3:Cd K cd3 "_law_net")
  (k3:Kp K f3)
  (a4:Na K "_law_first" f4)
  (l4:Lk K f4 "_law_first" "_law_first" (bQ 40) oc4 od4 kV4 dc4 pm4 an4 cd4 ct4 sl4)
  (c4:Cd K cd4 "_law_first")
  (k4:Kp K f4)
  (a5:Na K "_law_filled" f5)
  (l5:Lk K f5 "_law_filled" "_law_filled" (bQ 41) oc5 od5 kV5 dc5 pm5 an5 cd5 ct5 sl5)
  (c5:Cd K cd5 "_law_filled")
  (k5:Kp K f5)
  (a6:Na K "_law_tick" f6)
  (l6:Lk K f6 "_law_tick" "_law_tick" (bQ 42) oc6 od6 kV6 dc6 pm6 an6 cd6 ct6 sl6)
  (c6:Cd K cd6 "_law_tick")
  (k6:Kp K f6)
  (a7:Na K "_law_walk" f7)
  (l7:Lk K f7 "_law_walk" "_law_walk" (bQ 43) oc7 od7 kV7 dc7 pm7 an7 cd7 ct7 sl7)
  (c7:Cd K cd7 "_law_walk")
  (k7:Kp K f7)
  (a8:Na K "_law_tips" f8)
  (l8:Lk K f8 "_law_tips" "_law_tips" (bQ 44) oc8 od8 kV8 dc8 pm8 an8 cd8 ct8 sl8)
  (c8:Cd K cd8 "_law_tips")
  (k8:Kp K f8)
  (a9:Na K "_law_changed" f9)
  (l9:Lk K f9 "_law_changed" "_law_changed" (bQ 46) oc9 od9 kV9 dc9 pm9 an9 cd9 ct9 sl9)
  (c9:Cd K cd9 "_law_changed")
  (k9:Kp K f9)
  (a10:Na K "is_whole" f10)
  (l10:Lk K f10 "is_whole" "is_whole" (bQ 27) oc10 od10 kV10 dc10 pm10 an10 cd10 ct10 sl10)
  (c10:Cd K cd10 "is_whole")
  (k10:Kp K f10)
  (a11:Na K "need_vessel" f11)
  (l11:Lk K f11 "need_vessel" "need_vessel" (bQ 25) oc11 od11 kV11 dc11 pm11 an11 cd11 ct11 sl11)
  (c11:Cd K cd11 "need_vessel")
  (k11:Kp K f11)
  (a12:Na K "tips_of" f12)
  (l12:Lk K f12 "tips_of" "tips_of" (bQ 33) oc12 od12 kV12 dc12 pm12 an12 cd12 ct12 sl12)
  (c12:Cd K cd12 "tips_of")
  (k12:Kp K f12)
  (a13:Na K "with_vessel" f13)
  (l13:Lk K f13 "with_vessel" "with_vessel" (bQ 26) oc13 od13 kV13 dc13 pm13 an13 cd13 ct13 sl13)
  (c13:Cd K cd13 "with_vessel")
  (k13:Kp K f13)
  (a14:Na K "stuck_net" f14)
  (l14:Lk K f14 "stuck_net" "stuck_net" (bQ 29) oc14 od14 kV14 dc14 pm14 an14 cd14 ct14 sl14)
  (c14:Cd K cd14 "stuck_net")
  (k14:Kp K f14)
  (a15:Na K "filled" f15)
  (l15:Lk K f15 "filled" "filled" (bQ 5) oc15 od15 kV15 dc15 pm15 an15 cd15 ct15 sl15)
  (c15:Cd K cd15 "filled")
  (k15:Kp K f15)
  (a16:Na K "send" f16)
  (l16:Lk K f16 "send" "send" (bQ 8) oc16 od16 kV16 dc16 pm16 an16 cd16 ct16 sl16)
  (c16:Cd K cd16 "send")
  (k16:Kp K f16)
  (a17:Na K "share_out" f17)
  (l17:Lk K f17 "share_out" "share_out" (bQ 7) oc17 od17 kV17 dc17 pm17 an17 cd17 ct17 sl17)
  (c17:Cd K cd17 "share_out")
  (k17:Kp K f17)
  (a18:Na K "settle" f18)
  (l18:Lk K f18 "settle" "settle" (bQ 6) oc18 od18 kV18 dc18 pm18 an18 cd18 ct18 sl18)
  (c18:Cd K cd18 "settle")
  (k18:Kp K f18)
  (a19:Na K "doors_behind" f19)
  (l19:Lk K f19 "doors_behind" "doors_behind" (bQ 9) oc19 od19 kV19 dc19 pm19 an19 cd19 ct19 sl19)
  (c19:Cd K cd19 "doors_behind")
  (k19:Kp K f19)
  (a20:Na K "tick_behind" f20)
  (l20:Lk K f20 "tick_behind" "tick_behind" (bQ 3) oc20 od20 kV20 dc20 pm20 an20 cd20 ct20 sl20)
  (c20:Cd K cd20 "tick_behind")
  (k20:Kp K f20)
  (a21:Na K "came_in" f21)
  (l21:Lk K f21 "came_in" "came_in" (bQ 4) oc21 od21 kV21 dc21 pm21 an21 cd21 ct21 sl21)
  (c21:Cd K cd21 "came_in")
  (k21:Kp K f21)
  (a22:Na K "pouring" f22)
  (l22:Lk K f22 "pouring" "pouring" (bQ 2) oc22 od22 kV22 dc22 pm22 an22 cd22 ct22 sl22)
  (c22:Cd K cd22 "pouring")
  (k22:Kp K f22)
  (a23:Na K "moment_behind" f23)
  (l23:Lk K f23 "moment_behind" "moment_behind" (bQ 13) oc23 od23 kV23 dc23 pm23 an23 cd23 ct23 sl23)
  (c23:Cd K cd23 "moment_behind")
  (k23:Kp K f23)
  (a24:Na K "moment_gone" f24)
  (l24:Lk K f24 "moment_gone" "moment_gone" (bQ 12) oc24 od24 kV24 dc24 pm24 an24 cd24 ct24 sl24)
  (c24:Cd K cd24 "moment_gone")
  (k24:Kp K f24)
  (a25:Na K "first_state" f25)
  (l25:Lk K f25 "first_state" "first_state" (bQ 1) oc25 od25 kV25 dc25 pm25 an25 cd25 ct25 sl25)
  (c25:Cd K cd25 "first_state")
  (k25:Kp K f25)
  (a26:Na K "first_moment" f26)
  (l26:Lk K f26 "first_moment" "first_moment" (bQ 11) oc26 od26 kV26 dc26 pm26 an26 cd26 ct26 sl26)
  (c26:Cd K cd26 "first_moment")
  (k26:Kp K f26)
  (a27:Na K "tipped_in_case" f27)
  (l27:Lk K f27 "tipped_in_case" "tipped_in_case" (bQ 32) oc27 od27 kV27 dc27 pm27 an27 cd27 ct27 sl27)
  (c27:Cd K cd27 "tipped_in_case")
  (k27:Kp K f27)
  (a28:Na K "cases" f28)
  (l28:Lk K f28 "cases" "cases" (bQ 31) oc28 od28 kV28 dc28 pm28 an28 cd28 ct28 sl28)
  (c28:Cd K cd28 "cases")
  (k28:Kp K f28)
  (a29:Na K "_law_word" f29)
  (l29:Lk K f29 "_law_word" "_law_word" (bQ 36) oc29 od29 kV29 dc29 pm29 an29 cd29 ct29 sl29)
  (c29:Cd K cd29 "_law_word")
  (k29:Kp K f29)
  (a30:Na K "_law_tried" f30)
  (l30:Lk K f30 "_law_tried" "_law_tried" (bQ 45) oc30 od30 kV30 dc30 pm30 an30 cd30 ct30 sl30)
  (c30:Cd K cd30 "_law_tried")
  (k30:Kp K f30)
  (a31:Na K "law" f31)
  (l31:Lk K f31 "law" "law" (bQ 47) oc31 od31 kV31 dc31 pm31 an31 cd31 ct31 sl31)
  (c31:Cd K cd31 "law")
  (k31:Kp K f31)
  (xcTipError:Na K "TipError" c_TipError)
  (xcNoNet:Na K "NoNet" c_NoNet)
  (xcNoVessel:Na K "NoVessel" c_NoVessel)
  (xcTooLong:Na K "TooLong" c_TooLong)
  (xcTooMany:Na K "TooMany" c_TooMany)
  (xcTooMuch:Na K "TooMuch" c_TooMuch)
  (xcNothing:Na K "Nothing" c_Nothing)
  (xcNoText:Na K "NoText" c_NoText)
  (xcNoRow:Na K "NoRow" c_NoRow)
  (xv:Nn K "ValueError")
  (gaV:PySem.W.findIn K (.ref c_NoVessel) "__getattribute__" = some (some (.builtin "BaseException.__getattribute__")))
  (gtV:PySem.W.findIn K (.ref c_NoVessel) "__getattr__" = some none)
  (caV:PySem.W.findIn K (.ref c_NoVessel) "__class__" = some (some (.builtin "object.__class__")))
  (gg:PySem.W.specialIn K (.builtin "object.__class__") "__get__" = some (some (.builtin "getset_descriptor.__get__")))
  (tk:PySem.W.takesIn K (.builtin "object.__class__")=some true)
  (moV:PySem.W.mroIn K c_NoVessel (.type "object")=some true)
  (mbV:PySem.W.mroIn K c_NoVessel (.type "BaseException")=some true)
  (clV:K.lookup c_NoVessel=some ⟨qcV,qdV,.cls qkV,qsV⟩)
  (z0:Nn K "len")
  (z1:Nn K "sum")
  (z2:Nn K "all")
  (z3:Nn K "max")
  (z4:Nn K "min")
  (z5:Nn K "int")
  (z6:Nn K "tuple")
  (z7:Nn K "list")
  (z8:Nn K "bool")
  (z9:Nn K "range")
  (z10:Nn K "zip")
  (z11:Nn K "enumerate")
  (z12:Nn K "isinstance")
  (z13:Nn K "divmod")
  (z14:Nn K "set")
  (z15:Nn K "sorted")
  (exV:PySem.W.excIn K c_NoVessel [.type "ValueError",.type "Exception",.type "BaseException",.type "object"] "ValueError.__new__" = true)
  (vaV:PySem.W.kitOne K (.ref c_NoVessel) (.type "ValueError")=some true)
  (kkV0:PySem.W.kitOne K (.ref c_NoVessel) (.ref c_NoNet)=some false)
  (kkV1:PySem.W.kitOne K (.ref c_NoVessel) (.ref c_NoVessel)=some true)
  (kkV2:PySem.W.kitOne K (.ref c_NoVessel) (.ref c_TooLong)=some false)
  (kkV3:PySem.W.kitOne K (.ref c_NoVessel) (.ref c_TooMany)=some false)
  (kkV4:PySem.W.kitOne K (.ref c_NoVessel) (.ref c_TooMuch)=some false)
  (kkV5:PySem.W.kitOne K (.ref c_NoVessel) (.ref c_Nothing)=some false)
  (kkV6:PySem.W.kitOne K (.ref c_NoVessel) (.ref c_NoText)=some false)
  (kkV7:PySem.W.kitOne K (.ref c_NoVessel) (.ref c_NoRow)=some false)
  (hmVh:PySem.W.exmOne K (.ref c_NoVessel) (.ref c_TipError)=some true) :
  ∃ fd:FuncData,(∀ (s:Shared) (v:Value),BindsTo s fd ⟨[v],[]⟩ [("script",v)])/\∀ base:Heap,K.In base->base.Ns mainGlobals mg->FnOk l.prog w K mg base i7 10 fa fd ["script"] (wF K):=by
 have e:=hfa.symm.trans (aao X G a31);cases e;have T:Txt mg:=⟨aaz X G z0,aaz X G z1,aaz X G z2,aaz X G z3,aaz X G z4,aaz X G z5,aaz X G z6,aaz X G z7,aaz X G z8,aaz X G z9,aaz X G z10,aaz X G z11,aaz X G z12,aaz X G z13,aaz X G z14,aaz X G z15⟩;have W:TxtW mg c_TipError c_NoNet c_NoVessel c_TooLong c_TooMany c_TooMuch c_Nothing c_NoText c_NoRow:=⟨aao X G xcTipError,aao X G xcNoNet,aao X G xcNoVessel,aao X G xcTooLong,aao X G xcTooMany,aao X G xcTooMuch,aao X G xcNothing,aao X G xcNoText,aao X G xcNoRow,aaz X G xv⟩;have XC_NoVessel:ExC K "NoVessel" c_NoVessel:=⟨xcNoVessel,exV⟩;have kdV:KindOf K c_NoNet c_NoVessel c_TooLong c_TooMany c_TooMuch c_Nothing c_NoText c_NoRow c_NoVessel [false,true,false,false,false,false,false,false]:=⟨⟨gaV,gtV,caV,gg,tk,moV,mbV⟩,⟨_,_,_,_,clV⟩,vaV,⟨_,_,_,_,_,_,_,_,rfl,kkV0,kkV1,kkV2,kkV3,kkV4,kkV5,kkV6,kkV7⟩⟩;have hmV:=hmVh;have F0:=bS (st:=(bQ 35)) l0 c0 k0;have F1:=bS (st:=(bQ 37)) l1 c1 k1;have F2:=bS (st:=(bQ 38)) l2 c2 k2;have F3:=bS (st:=(bQ 39)) l3 c3 k3;have F4:=bS (st:=(bQ 40)) l4 c4 k4;have F5:=bS (st:=(bQ 41)) l5 c5 k5;have F6:=bS (st:=(bQ 42)) l6 c6 k6;have F7:=bS (st:=(bQ 43)) l7 c7 k7;have F8:=bS (st:=(bQ 44)) l8 c8 k8;have F9:=bS (st:=(bQ 46)) l9 c9 k9;have F10:=bS (st:=(bQ 27)) l10 c10 k10;have F11:=bS (st:=(bQ 25)) l11 c11 k11;have F12:=bS (st:=(bQ 33)) l12 c12 k12;have F13:=bS (st:=(bQ 26)) l13 c13 k13;have F14:=bS (st:=(bQ 29)) l14 c14 k14;have F15:=bS (st:=(bQ 5)) l15 c15 k15;have F16:=bS (st:=(bQ 8)) l16 c16 k16;have F17:=bS (st:=(bQ 7)) l17 c17 k17;have F18:=bS (st:=(bQ 6)) l18 c18 k18;have F19:=bS (st:=(bQ 9)) l19 c19 k19;have F20:=bS (st:=(bQ 3)) l20 c20 k20;have F21:=bS (st:=(bQ 4)) l21 c21 k21;have F22:=bS (st:=(bQ 2)) l22 c22 k22;have F23:=bS (st:=(bQ 13)) l23 c23 k23;have F24:=bS (st:=(bQ 12)) l24 c24 k24;have F25:=bS (st:=(bQ 1)) l25 c25 k25;have F26:=bS (st:=(bQ 11)) l26 c26 k26;have F27:=bS (st:=(bQ 32)) l27 c27 k27;have F28:=bS (st:=(bQ 31)) l28 c28 k28;have F29:=bS (st:=(bQ 36)) l29 c29 k29;have F30:=bS (st:=(bQ 45)) l30 c30 k30;have F31:=bS (st:=(bQ 47)) l31 c31 k31;refine⟨PySem.W.fnOf "law" "law" (j9 (bQ 47)) (fX (bQ 47)) (aP (bQ 47)) .none kV31 dc31 pm31 an31 cd31 ct31,λ s v=>.of_eq rfl,λ base _ _=>?_⟩;have CB0:Callee l.prog w K mg base "_law_draw" ["tape","many"] 1 qU f0 _:=⟨jO F0 T,aao X G a0,k0,F0.binds λ _ _ _ _ _ _=>hG λ _ _=>rfl⟩;have C0:Callee l.prog w K mg base "_law_draw" ["tape","many"] 1 fE f0 _:=⟨rK F0 T,aao X G a0,k0,F0.binds λ _ _ _ _ _ _=>hG λ _ _=>rfl⟩;have C1:Callee l.prog w K mg base "_law_outs" ["tape","many","small"] 2 (uV K) f1 _:=⟨rH F1 T C0,aao X G a1,k1,F1.binds λ _ _ _ _ _ _=>cS λ _ _ _=>rfl⟩;have C2:Callee l.prog w K mg base "_law_vessel" ["tape","number","many","spouts","small"] 3 (nU K) f2 _:=⟨oG F2 T C0 C1,aao X G a2,k2,F2.binds λ _ _ _ _ _ _=>E8 λ _ _ _ _ _=>rfl⟩;have C3:Callee l.prog w K mg base "_law_net" ["tape","most","small"] 4 (uW K) f3 _:=⟨rJ F3 T C0 C2,aao X G a3,k3,F3.binds λ _ _ _ _ _ _=>cS λ _ _ _=>rfl⟩;have C4:Callee l.prog w K mg base "_law_first" ["net"] 1 (iX K) f4 _:=⟨pH F4 T,aao X G a4,k4,F4.binds λ _ _ _ _ _ _=>n4 λ _=>rfl⟩;have C5:Callee l.prog w K mg base "_law_filled" ["net","state","poured"] 1 (lK K) f5 _:=⟨oH F5 T,aao X G a5,k5,F5.binds λ _ _ _ _ _ _=>cS λ _ _ _=>rfl⟩;have C6:Callee l.prog w K mg base "_law_tick" ["net","state","poured","fast"] 2 (qQ K) f6 _:=⟨pG F6 T C5,aao X G a6,k6,F6.binds λ _ _ _ _ _ _=>sF λ _ _ _ _=>rfl⟩;have C7:Callee l.prog w K mg base "_law_walk" ["net","ticks","fast"] 3 (uT K) f7 _:=⟨rF F7 T C4 C6,aao X G a7,k7,F7.binds λ _ _ _ _ _ _=>cS λ _ _ _=>rfl⟩;have C8:Callee l.prog w K mg base "_law_tips" ["net","ticks","fast"] 4 (qP K) f8 _:=⟨rG F8 T C7,aao X G a8,k8,F8.binds λ _ _ _ _ _ _=>cS λ _ _ _=>rfl⟩;have C9:Callee l.prog w K mg base "_law_changed" ["tape","seen","ticks"] 2 (A4 K) f9 _:=⟨mL F9 T C0,aao X G a9,k9,F9.binds λ _ _ _ _ _ _=>cS λ _ _ _=>rfl⟩;have C10:Callee l.prog w K mg base "is_whole" ["thing","least","most"] 1 nS f10 _:=⟨rD F10 T,aao X G a10,k10,F10.binds λ _ _ _ _ _ _=>cS λ _ _ _=>rfl⟩;have C11:CalleeR l.prog w K mg base "need_vessel" ["net","number"] 2 (qT K c_NoVessel) f11 _:=⟨mI F11 T XC_NoVessel C10,aao X G a11,k11,F11.binds λ _ _ _ _ _ _=>hG λ _ _=>rfl⟩;have C12:Callee l.prog w K mg base "tips_of" ["vessel","tipped"] 1 (nV K) f12 _:=⟨vH F12 T,aao X G a12,k12,F12.binds λ _ _ _ _ _ _=>hG λ _ _=>rfl⟩;have C13:Callee l.prog w K mg base "with_vessel" ["net","number","vessel"] 1 (uS K) f13 _:=⟨oC F13 T,aao X G a13,k13,F13.binds λ _ _ _ _ _ _=>cS λ _ _ _=>rfl⟩;have C14:Callee l.prog w K mg base "stuck_net" ["net","vessel"] 2 (jR K) f14 _:=⟨rB F14 T C13,aao X G a14,k14,F14.binds λ _ _ _ _ _ _=>hG λ _ _=>rfl⟩;have C15:Callee l.prog w K mg base "filled" ["spouts","state","poured"] 1 (nY K) f15 _:=⟨yI F15 T,aao X G a15,k15,F15.binds λ _ _ _ _ _ _=>cS λ _ _ _=>rfl⟩;have C16:Callee l.prog w K mg base "send" ["sent","target","amount"] 1 qS f16 _:=⟨DP F16 T,aao X G a16,k16,F16.binds λ _ _ _ _ _ _=>cS λ _ _ _=>rfl⟩;have C17:Callee l.prog w K mg base "share_out" ["outs","has","sent"] 2 (qR K) f17 _:=⟨rC F17 T C16,aao X G a17,k17,F17.binds λ _ _ _ _ _ _=>cS λ _ _ _=>rfl⟩;have C18:Callee l.prog w K mg base "settle" ["vessel","has","sent"] 3 (nW K) f18 _:=⟨yH F18 T C16 C17,aao X G a18,k18,F18.binds λ _ _ _ _ _ _=>cS λ _ _ _=>rfl⟩;have C19:Callee l.prog w K mg base "doors_behind" ["vessels","doors","tipped"] 1 (qV K) f19 _:=⟨mK F19 T,aao X G a19,k19,F19.binds λ _ _ _ _ _ _=>cS λ _ _ _=>rfl⟩;have C20:Callee l.prog w K mg base "tick_behind" ["net","state","poured"] 4 (uU K) f20 _:=⟨oD F20 T C15 C18 C19,aao X G a20,k20,F20.binds λ _ _ _ _ _ _=>cS λ _ _ _=>rfl⟩;have C21:Callee l.prog w K mg base "came_in" ["net","state","poured"] 1 (o0 K) f21 _:=⟨vJ F21 T,aao X G a21,k21,F21.binds λ _ _ _ _ _ _=>cS λ _ _ _=>rfl⟩;have C22:Callee l.prog w K mg base "pouring" ["net","amount"] 1 (iW K) f22 _:=⟨vI F22 T,aao X G a22,k22,F22.binds λ _ _ _ _ _ _=>hG λ _ _=>rfl⟩;have C23:Callee l.prog w K mg base "moment_behind" ["net","moment"] 5 (nX K) f23 _:=⟨lS F23 T C20 C21 C22,aao X G a23,k23,F23.binds λ _ _ _ _ _ _=>hG λ _ _=>rfl⟩;have C24:Callee l.prog w K mg base "moment_gone" ["net","moment","many"] 6 (mR K) f24 _:=⟨oE F24 T C23,aao X G a24,k24,F24.binds λ _ _ _ _ _ _=>cS λ _ _ _=>rfl⟩;have C25:Callee l.prog w K mg base "first_state" ["net"] 1 (iX K) f25 _:=⟨oF F25 T,aao X G a25,k25,F25.binds λ _ _ _ _ _ _=>n4 λ _=>rfl⟩;have C26:Callee l.prog w K mg base "first_moment" ["net"] 2 (gP K) f26 _:=⟨mJ F26 T C25 C22,aao X G a26,k26,F26.binds λ _ _ _ _ _ _=>n4 λ _=>rfl⟩;have C27:Callee l.prog w K mg base "tipped_in_case" ["net","case","ticks"] 7 (lJ K) f27 _:=⟨kU F27 T C14 C24 C26,aao X G a27,k27,F27.binds λ _ _ _ _ _ _=>cS λ _ _ _=>rfl⟩;have C28:CalleeR l.prog w K mg base "cases" ["net","watched","ticks","seen"] 8 (nZ K c_NoVessel) f28 _:=⟨yJ F28 T C11 C12 C27,aao X G a28,k28,F28.binds λ _ _ _ _ _ _=>sF λ _ _ _ _=>rfl⟩;have C29:Callee l.prog w K mg base "_law_word" ["error"] 1 (uR K c_NoNet c_NoVessel c_TooLong c_TooMany c_TooMuch c_Nothing c_NoText c_NoRow) f29 _:=⟨rE F29 T W,aao X G a29,k29,F29.binds λ _ _ _ _ _ _=>n4 λ _=>rfl⟩;have C30:Callee l.prog w K mg base "_law_tried" ["net","watched","ticks","seen"] 9 (qO K) f30 _:=⟨pF F30 T W kdV hmV C28 C29,aao X G a30,k30,F30.binds λ _ _ _ _ _ _=>sF λ _ _ _ _=>rfl⟩;exact GB F31 T C0 CB0 C3 C8 C9 C30
theorem walk {l:PySem.W.OpenLaw}{q:Program}{loose:List Str}{XP:(Str->Option Value)->Heap->Prop}{YP:World->Heap->Prop}{d:DefRec}{K:Params->aab} (hn:l.most=some 63) (hdf:d.params.defaults=[])
  (hY:∀ (w:World) (h:Heap),YP w h->(K w.params).In h)
  (F:∀ (w:World) (mg:Str->Option Value) (fa:Addr) (h:Heap),(K w.params).In h->h.Ns mainGlobals mg->mg d.name=some (.ref fa)->
   ∃ fd:FuncData,(∀ (s:Shared) (u:Value),BindsTo s fd ⟨[u],[]⟩ [("script",u)])/\∀ base:Heap,(K w.params).In base->base.Ns mainGlobals mg->FnOk l.prog w (K w.params) mg base i7 10 fa fd ["script"] (wF (K w.params))) :
  PySem.W.WalkO q loose XP YP l.row.toRowW d [] (λ f vs=>PySem.call f vs):=
 L2.walk_of (n:=63) (k:=10) (x := "script") (CX:=λ _=>i7) (sp:=λ w=>wF (K w.params)) hn (by decide) hdf ⟨rfl,by decide,by decide⟩ hY F (λ _ _ a ns hl _ hS=>⟨a,ns,rfl,hS,hl,λ _=>rfl⟩) λ _ _ _ _ _ z=>z
end Tw
def PySem.W.Fast.tw4571981481007171752:Nat:=0
theorem PySem.W.Fast.te4571981481007171752:PySem.W.Fast.tw4571981481007171752=PySem.W.Fast.tw4571981481007171752:=rfl
def PySem.W.Fast.tw17961860315199636946:PySem.Program:=PySem.Challenge.pw_tipwell_k26_cases_by_what_was_seen
theorem PySem.W.Fast.te17961860315199636946:PySem.Challenge.pw_tipwell_k26_cases_by_what_was_seen=PySem.W.Fast.tw17961860315199636946:=rfl
namespace PySem.W.Fast
def tw7001540192039105285:=0
def tw12764171280842337020:=0
def tw12111187098021895722:=0
def tw2350905303946803158:=0
def tw8968718717941649437:=0
def tw2990005514434616562:=0
def tw5849020611017615149:=0
def tw2033507451112272273:=0
def tw6793510476288194385:=0
def tw3568272566222242574:=0
def tw6794790247821137563:=0
def tw3687281266482314235:=0
def tw10727498318596134787:=0
def tw8892003757093315764:=0
def tw6465537462310810211:=0
def tw16284370922966927294:=0
def tw4523124431874357440:=0
def tw4685303909323613962:=0
def tw11776217967765159673:=0
def tw17678338028915656994:=0
def tw1008067608820223852:=0
def tw17063521705973021146:=0
def tw17394553104106935121:=0
def tw5172970176407050903:=0
def tw5612431601077161936:=0
def tw11391476159774808090:=0
def tw9011693713467383541:=0
def tw16561191797773072785:=0
def tw2933273543882181457:=0
def tw437391045628166156:=0
def tw1772018037581705739:=0
def tw10077388917018498238:=0
def tw17348325557539502884:=0
def tw10599660069138295576:=0
def tw7866773793848288703:=0
def tw9196462397247250805:=0
def tw4404631926667272842:=0
def tw14875610023989076255:=0
def tw10575163287937420171:=0
def tw2305590484152819220:=0
def tw11784373187839366748:=0
def tw17739335342654244291:=0
def tw5770649928063723938:=0
def tw18311100716307248924:=0
def tw8270187266273145866:=0
def tw10527816483722103097:=0
def tw11207725251124896131:=0
def tw3365501595638218868:=0
def tw5326150129809712989:=0
def tw15613348141544489498:=0
def tw14453301762336274461:=0
def tw18339012696513963782:=0
def tw14984306967493472353:=0
def tw5493279536102932533:=0
def tw5301302447077405119:=0
def tw17924406733049044043:=0
def tw10908876722363254488:=0
def tw1422908516096523533:=0
def tw5208173692758001882:=0
def tw1519346975878229542:=0
def tw11222194857738921379:=0
def tw1952846907502252067:=0
def tw15460745710698654277:=0
def tw6047608065319458539:=0
def tw7166230493382108750:=0
def tw1516022545662650617:=0
def tw2760686397064526441:=0
def tw13796140672378452811:=0
def tw4835726775858308044:=0
def tw4755720762082390383:=0
def tw8296086387791473283:=0
def tw9007453861736967744:=0
def tw12317340537251312006:=0
def tw6695957474216186325:=0
def tw16017813883778795447:=0
def tw13300580674538247846:=0
def tw5655579919169421096:=0
def tw8323161093846290647:=0
def tw5934700603246853337:=0
def tw17187597884233491906:=0
def tw4328429235319813487:=0
def tw11329598348525350012:=0
def tw2738602636323036412:=0
def tw10338623300133790947:=0
def tw16480169932709857699:=0
def tw5135261482711559251:=0
def tw3229657663306233689:=0
def tw14593719617476155348:=0
def tw205080199184976173:=0
def tw13073860701027378523:=0
end PySem.W.Fast
open PySem PySem.W PyProof.Rows
set_option maxRecDepth 100000 in
set_option maxHeartbeats 0 in
theorem PySem.Challenge.cw_tipwell_k26_cases_by_what_was_seen_holds : PySem.Challenge.rw_tipwell_k26_cases_by_what_was_seen.Holds := by
 w_on;o_law;k_head;(case hw=>w_witness2)
 k_fill
 refine Tw.walk (l:=PySem.Challenge.rw_tipwell_k26_cases_by_what_was_seen) rfl rfl (λ w h Y=>by first | exact PySem.W.kIn_of Y | exact PySem.W.km_in_of Y) ?F
 case F=>
  intro w mg fa h KX G hmg;refine' Tw.all_mk KX G hmg ?_ ?_ ?_ ?_ ?_ ?_ ?_ ?_ ?_ ?_ ?_ ?_ ?_ ?_ ?_ ?_ ?_ ?_ ?_ ?_ ?_ ?_ ?_ ?_ ?_ ?_ ?_ ?_ ?_ ?_ ?_ ?_ ?_ ?_ ?_ ?_ ?_ ?_ ?_ ?_ ?_ ?_ ?_ ?_ ?_ ?_ ?_ ?_ ?_ ?_ ?_ ?_ ?_ ?_ ?_ ?_ ?_ ?_ ?_ ?_ ?_ ?_ ?_ ?_ ?_ ?_ ?_ ?_ ?_ ?_ ?_ ?_ ?_ ?_ ?_ ?_ ?_ ?_ ?_ ?_ ?_ ?_ ?_ ?_ ?_ ?_ ?_ ?_ ?_ ?_ ?_ ?_ ?_ ?_ ?_ ?_ ?_ ?_ ?_ ?_ ?_ ?_ ?_ ?_ ?_ ?_ ?_ ?_ ?_ ?_ ?_ ?_ ?_ ?_ ?_ ?_ ?_ ?_ ?_ ?_ ?_ ?_ ?_ ?_ ?_ ?_ ?_ ?_ ?_ ?_ ?_ ?_ ?_ ?_ ?_ ?_ ?_ ?_ ?_ ?_ ?_ ?_ ?_ ?_ ?_ ?_ ?_ ?_ ?_ ?_ ?_ ?_ ?_ ?_ ?_ ?_ ?_ ?_ ?_ ?_ ?_ ?_ ?exV ?vaV ?kkV0 ?kkV1 ?kkV2 ?kkV3 ?kkV4 ?kkV5 ?kkV6 ?kkV7 ?hmVh
  all_goals (try delta Tw.Na)
  all_goals (try delta Tw.Nn)
  all_goals (try delta Tw.Kp)
  all_goals (try delta Tw.Cd)
  all_goals (try delta Tw.Lk)
  all_goals try k_is
  (case exV=>k_exc)
  (case vaV=>kit_is)
  (case kkV0=>kit_is)
  (case kkV1=>kit_is)
  (case kkV2=>kit_is)
  (case kkV3=>kit_is)
  (case kkV4=>kit_is)
  (case kkV5=>kit_is)
  (case kkV6=>kit_is)
  (case kkV7=>kit_is)
  (case hmVh=>kts_exm)
#print axioms PySem.Challenge.cw_tipwell_k26_cases_by_what_was_seen_holds