import PyProof.Rows.All
import Wide.All
import OpenK.AllK
import Wide.FinOn
import Lean
import PyProof.EqAt
import PyProof.EqKinds
import PyProof.TupleCall
import PyProof.FactsAll.NoneType
import PyProof.ZipIter
import PyProof.EnumMake
import KE.KUnpack
import PyProof.NeKinds
import KE.KIsAll
import KE.KTryMore
import PyProof.NsDelKeeps
import PyProof.Rows.IntBool
import PyProof.TupleKey
import PyProof.FactsAll.bool_1
import KE.RegKIsAll
import KE.RegKTryMore
import PySem.Challenge.RW_tipwell_k01_what_is_a_net
set_option Elab.async false
set_option linter.all false
set_option maxRecDepth 100000
noncomputable section
abbrev aaa:=PySem.W.Frag
def aab:=@PySem.wpAny_bind
def aac:=@List.size_toArray
def aad:=@PySem.Heap.get?_push_of_some
def aae:=@PySem.W.mg_of
def aaf:=@List.getElem?_eq_some_iff
def aag:=@Bool.false_ne_true
def aah:=@PySem.wpAny_pure
def aai:=@List.length_map
def aaj:=@Nat.le_refl
def aak:=@Nat.lt_of_lt_of_le
def aal:=@PySem.Heap.lt_size
def aam:=@PySem.Heap.get?_push_size
def aan:=@PySem.W.mg_none_of
def aao:=@decide_eq_false
def aap:=@List.mem_append_right
def aaq:=@List.mem_of_getElem?
def aar:=@Nat.ne_of_lt
def aas:=@List.mem_cons
def aat:=@List.length_cons
def aau:=@List.mem_append
def aav:=@Option.some.inj
def aaw:=@List.all_eq_true
def aax:=@decide_eq_true
def aay:=@Nat.zero_le
def aaz:=@List.length_append
def aba:=@PySem.wpAny_mono
def abb:=@List.length_take
def abc:=@List.mem_singleton
def abd:=@PySem.F.plainAttrs_list
def abe:=@List.getElem?_map
def abf:=@PySem.wpAny_field
def abg:=@PySem.mem_of_lookup
def abh:=@List.map_cons
def abi:=@List.map_append
def abj:=@List.not_mem_nil
def abk:=@List.mem_cons_of_mem
def abl:=@Nat.le_trans
def abm:=@List.mem_iff_getElem?
def abn:=@Nat.lt_irrefl
def abo:=@PySem.F.slot_list_append
def abp:=@PySem.F.type_list_append
def abq:=@PySem.wpAny_holding
def abr:=@List.nodup_cons
def abt:=@Nat.not_lt_zero
def abu:=@List.mem_append_left
def abv:=@List.getElem_mem
def abw:=@List.getElem?_eq_getElem
def abx:=@List.getElem?_set_self
def aby:=@List.take_of_length_le
def abz:=@of_decide_eq_true
def aca:=@List.mem_range
def acb:=@List.map_nil
def acd:=@List.length_singleton
def ace:=@List.take_length
def acf:=@List.getElem?_set_ne
variable {P:PySem.Program}{w:PySem.World}{K:aaa}{mg:PySem.Str->Option PySem.Value}{base:PySem.Heap}{C c_TipError c_NoNet c_NoVessel c_TooLong c_TooMany c_TooMuch c_Nothing c_NoText c_NoRow:PySem.Addr}
namespace L2
open PySem PySem.Spec PyProof.Rows
abbrev kG:=Sum Int (Option Str)
def tH:Value->Bool
 | .none=>true
 | _=>false
theorem nL {v:Value} (h:tH v=true):v=Value.none:=by
 cases v <;> simp_all [tH]
def vW:kG->Value->Bool
 | .inl k,v=>Value.isInt k v
 | .inr (some x),v=>Value.isStrOf x v
 | .inr none,v=>tH v
def gX:Int:=0xFCA86420
def keyH (w:World):kG->Int
 | .inl k=>hashInt k
 | .inr (some x)=>hashStr w x
 | .inr none=>gX
theorem bS:∀ {k:kG}{v:Value},vW k v=true->(∃ i t,k=Sum.inl i/\v=Value.int i t)\/(∃ x t,k=Sum.inr (some x)/\v=Value.str x t)\/(k=Sum.inr none/\v=Value.none)
 | .inl i,v,h=>by
  obtain⟨t,e⟩:=Value.isInt_shape (k:=i) (v:=v) h;exact .inl ⟨i,t,rfl,e⟩
 | .inr (some x),v,h=>by
  obtain⟨t,e⟩:=Value.isStrOf_shape (x:=x) (v:=v) h;exact .inr (.inl ⟨x,t,rfl,e⟩)
 | .inr none,v,h=>.inr (.inr ⟨rfl,nL h⟩)
theorem xG (a b:Int):decide ((Sum.inl a:kG)=Sum.inl b)=(a == b):=by
 by_cases e:a=b
 ·subst e;simp
 ·have h:¬ (Sum.inl a:kG)=Sum.inl b:=λ q=>e (Sum.inl.inj q);rw[aao h];exact (beq_eq_false_iff_ne.mpr e).symm
theorem xE (a b:Str):decide ((Sum.inr (some a):kG)=Sum.inr (some b))=decide (a=b):=by
 by_cases e:a=b
 ·subst e;simp
 ·have h:¬ (Sum.inr (some a):kG)=Sum.inr (some b):=λ q=>e (aav (Sum.inr.inj q));rw[aao h,aao e]
theorem tD (i:Int) (o:Option Str):decide ((Sum.inl i:kG)=Sum.inr o)=false:=aao (λ q=>nomatch q)
theorem tE (i:Int) (o:Option Str):decide ((Sum.inr o:kG)=Sum.inl i)=false:=aao (λ q=>nomatch q)
theorem xD (x:Str):decide ((Sum.inr (some x):kG)=Sum.inr none)=false:=aao (λ q=>nomatch (Sum.inr.inj q))
theorem xF (x:Str):decide ((Sum.inr none:kG)=Sum.inr (some x))=false:=aao (λ q=>nomatch (Sum.inr.inj q))
theorem tM {prog:Program}{w:World}{A:Around}{E:Value->Shared->Prop}{s:Shared}{Q:Int->Shared->Prop} (h:Q gX { s with toks:=s.toks+1 }) :
  wpAny (model prog w) A (pyHash .none) Q E s:=by
 have hT:s.TypeIs .none "NoneType" := rfl;unfold pyHash;have hv:[Value.none].any Value.onHeap=false:=rfl;refine aab ?_;rw[cRoomFor,if_neg (by rw[hv];exact aag)];refine aah ?_;refine aab (wpAny_specialOf hT F.slot_NoneType_hash.lookup ?_);show wpAny _ _ (if (some (Value.builtin "NoneType.__hash__") == some Value.none)=true then _ else _) Q E s;rw[if_neg (by rw[beq_builtin_none];exact aag)];refine aab (wpAny_specialOf hT F.slot_NoneType_hash.lookup ?_);show wpAny _ _ (callSpecialIfBoundUnlessNone? .none "__hash__" _ >>= _) Q E s;refine aab (wpAny_callSpecialIfBoundUnlessNone?_slot hT F.slot_NoneType_hash
  (wpAny_call_entry F.slot_NoneType_hash hT F.entry_NoneType_hash
   (show wpAny _ _ (do ret (<- mkInt gX)) _ _ s from wpAny_ret_mkInt ?_) (F.args_NoneType_hash_1 _)))
 show wpAny _ _ (if (decide (-(2:Int) ^ 63<=gX) && decide (gX < 2 ^ 63))=true then _ else _) Q E _;rw[if_pos (by decide)];exact aah h
def pZ (prog:Program) (w:World):PySem.KeyKind prog w kG where
 is:=vW
 hash:=keyH w
 inj:=λ v a b ha hb=>by
  rcases bS ha with ⟨i,t,rfl,rfl⟩ | ⟨x,t,rfl,rfl⟩ | ⟨rfl,rfl⟩
  ·rcases bS hb with ⟨j,u,rfl,e⟩ | ⟨y,u,rfl,e⟩ | ⟨rfl,e⟩
   ·injection e with e1 _;rw[e1]
   ·exact nomatch e
   ·exact nomatch e
  ·rcases bS hb with ⟨j,u,rfl,e⟩ | ⟨y,u,rfl,e⟩ | ⟨rfl,e⟩
   ·exact nomatch e
   ·injection e with e1 _;rw[e1]
   ·exact nomatch e
  ·rcases bS hb with ⟨j,u,rfl,e⟩ | ⟨y,u,rfl,e⟩ | ⟨rfl,e⟩
   ·exact nomatch e
   ·exact nomatch e
   ·rfl
 byValue:=λ k v h=>by
  rcases bS h with ⟨i,t,rfl,rfl⟩ | ⟨x,t,rfl,rfl⟩ | ⟨rfl,rfl⟩ <;> rfl
 pyHash:=λ hv h=>by
  rcases bS hv with ⟨i,t,rfl,rfl⟩ | ⟨x,t,rfl,rfl⟩ | ⟨rfl,rfl⟩
  ·exact wpAny_pyHash_int h
  ·exact wpAny_pyHash_str h
  ·exact tM h
 eqBool:=λ hu hv h=>by
  rcases bS hu with ⟨i,t,rfl,rfl⟩ | ⟨x,t,rfl,rfl⟩ | ⟨rfl,rfl⟩
  ·rcases bS hv with ⟨j,u,rfl,rfl⟩ | ⟨y,u,rfl,rfl⟩ | ⟨rfl,rfl⟩
   ·rw[xG] at h;exact wpAny_eqBool_int h
   ·rw[tD] at h;exact SeqAt.EqAt.int_str i t y u _ _ _ _ h
   ·rw[tD] at h;exact SeqAt.EqAt.int_none i t _ _ _ _ h
  ·rcases bS hv with ⟨j,u,rfl,rfl⟩ | ⟨y,u,rfl,rfl⟩ | ⟨rfl,rfl⟩
   ·rw[tE] at h;exact SeqAt.EqAt.str_int x t j u _ _ _ _ h
   ·rw[xE] at h;exact wpAny_eqBool_str h
   ·rw[xD] at h;exact SeqAt.EqAt.str_none x t _ _ _ _ h
  ·rcases bS hv with ⟨j,u,rfl,rfl⟩ | ⟨y,u,rfl,rfl⟩ | ⟨rfl,rfl⟩
   ·rw[tE] at h;exact SeqAt.EqAt.none_int j u _ _ _ _ h
   ·rw[xF] at h;exact SeqAt.EqAt.none_str y u _ _ _ _ h
   ·rw[aax rfl] at h;exact SeqAt.EqAt.same Value.none _ _ _ _ h
 «strs»:=λ k x t v h=>by
  rcases bS h with ⟨i,u,rfl,e⟩ | ⟨y,u,rfl,e⟩ | ⟨rfl,e⟩
  ·exact nomatch e
  ·injection e with e1 _;subst e1;cases v <;> rfl
  ·exact nomatch e
inductive V where
 | non | bl (b:Bool) | int (i:Int) | str (x:Str) | byt (b:Array UInt8) | flt (b:UInt64) | ref (a:Addr) | ty (n:String)
 deriving DecidableEq
def bD:V->Value->Prop
 | .non,u=>u=Value.none
 | .bl b,u=>u=Value.bool b
 | .int i,u=>∃ t,u=Value.int i t
 | .str x,u=>∃ t,u=Value.str x t
 | .byt b,u=>∃ t,u=Value.bytes b t
 | .flt b,u=>∃ t,u=Value.float b t
 | .ref a,u=>u=Value.ref a
 | .ty n,u=>u=Value.type n
abbrev aY:List V->List Value->Prop:=Paired bD
theorem aY.length {xs:List V}{us:List Value} (r:aY xs us):xs.length=us.length:=Paired.length r
theorem aY.get:∀ {xs:List V}{us:List Value}{i:Nat}{x:V},aY xs us->xs[i]? = some x->∃ u,us[i]? = some u/\bD x u
 | _,_,_,_,.nil,e=>by simp at e
 | _,_,0,_,.cons r _,e=>by simp at e;subst e;exact⟨_,rfl,r⟩
 | _,_,i+1,x,.cons _ t,e=>by
  obtain⟨u,h1,h2⟩:=aY.get (i:=i) (x:=x) t (by simpa using e);exact⟨u,by simpa using h1,h2⟩
theorem aY.set {x:V}{u:Value} (r:bD x u):∀ {xs:List V}{us:List Value} (i:Nat),aY xs us->aY (xs.set i x) (us.set i u)
 | _,_,_,.nil=>.nil
 | _,_,0,.cons _ t=>.cons r t
 | _,_,i+1,.cons q t=>.cons q (aY.set r i t)
theorem aY.append:∀ {xs ys:List V}{us ws:List Value},aY xs us->aY ys ws->aY (xs++ys) (us++ws)
 | _,_,_,_,.nil,s=>s
 | _,_,_,_,.cons r t,s=>.cons r (aY.append t s)
theorem aY.take:∀ {xs:List V}{us:List Value} (n:Nat),aY xs us->aY (xs.take n) (us.take n)
 | _,_,0,_=>.nil
 | _,_,_+1,.nil=>.nil
 | _,_,n+1,.cons r t=>.cons r (aY.take n t)
theorem aY.drop:∀ {xs:List V}{us:List Value} (n:Nat),aY xs us->aY (xs.drop n) (us.drop n)
 | _,_,0,r=>r
 | _,_,_+1,.nil=>.nil
 | _,_,n+1,.cons _ t=>aY.drop n t
def vJ:Option V->Option Value->Prop
 | some v,some u=>bD v u
 | none,none=>True
 | _,_=>False
def KV {cs:Type}:List (cs×V)->List (cs×Value)->Prop:=Paired λ (p:cs×V) (q:cs×Value)=>p.1=q.1/\bD p.2 q.2
def kV:kG->V
 | .inl i=>.int i
 | .inr (some x)=>.str x
 | .inr none=>.non
inductive HO where
 | lst (xs:List V)
 | tup (xs:List V)
 | dK (kvs:List (kG×V)) | dT (kvs:List (List kG×V))
 | set (S:Int->Bool) (n:Nat)
 | ins (C dx:Addr) (fs:List (Str×V))
 | own (x:Addr)
 | xd (fs:List (Str×V))
 | met (f x:Addr)
 | rng (lo hi:Int)
 | frz (o:Obj) (u:HO)
 | tbl (ps:Array Value)
 | ext (cj:Heap->Prop)
abbrev Hp:=Addr->Option HO
def upd (H:Hp) (a:Addr) (o:HO):Hp:=λ b=>if b=a then some o else H b
theorem aF {H:Hp}{a:Addr}{o:HO}:upd H a o a=some o:=by unfold upd;rw[if_pos rfl]
theorem aJ {H:Hp}{a b:Addr}{o:HO} (h:b≠a):upd H a o b=H b:=by unfold upd;rw[if_neg h]
theorem yM {H:Hp}{a b:Addr}{o u:HO} (h:H a=some o) (h':H b=some u) (d:o≠u):a≠b:=by
 intro e;subst e;rw[h] at h';exact d (aav h')
theorem aN {H:Hp}{a b:Addr}{o:HO} (h:H a=some o) (h':H b=none):a≠b:=by
 intro e;subst e;rw[h] at h';cases h'
section
variable (P:Program)(w:World)
def cJ (H:Hp) (h:Heap) (a:Addr):HO->Prop
 | .lst xs=>xs.length<=sizeLine/\∃ (its:List Value) (n:Nat),aY xs its/\h.get? a=some { cls:=.type "list",data:=.seq its.toArray n }
 | .tup xs=>xs.length<=sizeLine/\∃ its:List Value,aY xs its/\IsTup h a its.toArray
 | .dK kvs=>kvs.length<=sizeLine/\(a == sysModules)=false/\∃ vs,KV kvs vs/\h.DictOf (pZ P w) a vs
 | .dT kvs=>kvs.length<=sizeLine/\(a == sysModules)=false/\∃ xs:List (List kG×Addr×Value),
   Paired (λ (p:List kG×V) (q:List kG×Addr×Value)=>p.1=q.1/\H q.2.1=some (.tup (p.1.map kV))/\bD p.2 q.2.2) kvs xs/\
   ∃ o es ep,h.get? a=some o/\o.ExactDict/\o.data=.dict es ep/\es.toList=xs.map (entryOfKey (tupleKind (pZ P w)))/\(xs.map (·.1)).Nodup
 | .set S n=>h.SetOf (intKind P w) a S n
 | .ins C dx fs=>H dx=some (.own a)/\fs.length<=1000/\dx≠a/\h.get? a=some (PySem.W.instObj C dx)/\
   ∃ mA,h.Ns1 dx mA/\(∀ f,vJ (fs.lookup f) (mA f))/\PySem.Within mA (fs.map (·.1))
 | .own _=>∃ o,h.get? a=some o
 | .xd fs=>∃ mA,h.Ns1 a mA/\∀ f,vJ (fs.lookup f) (mA f)
 | .rng lo hi=>∃ t u v,h.get? a=some { cls:=.type "range",data:=.fields #[.int lo t,.int hi u,.int 1 v] }
 | .frz o u=>h.get? a=some o/\cJ H h a u
 | .tbl ps=>h.get? a=some { cls:=.none,data:=.fields ps }
 | .met f x=>h.get? a=some (PySem.W.methodObj (.ref f) (.ref x))
 | .ext cj=>cj h/\(∃ o,h.get? a=some o)/\∀ h1 h2:Heap,cj h1->(∀ o,h1.get? a=some o->h2.get? a=some o)->cj h2
def iV (H:Hp) (h:Heap):Prop:=∀ a o,H a=some o->cJ P w H h a o
end
section
variable {H H':Hp}{h h':Heap}{a:Addr}{o:HO}
theorem cJ.lt (x:cJ P w H h a o):a < h.objs.size:=by
 cases o with
 | lst xs=>obtain⟨_,_,_,_,e⟩:=x;exact aal e
 | tup xs=>obtain⟨_,_,_,p⟩:=x;exact p.lt
 | dK kvs=>obtain⟨_,_,_,_,o,_,_,e,_⟩:=x;exact aal e
 | dT kvs=>obtain⟨_,_,_,_,o,_,_,e,_⟩:=x;exact aal e
 | set S n=>obtain⟨o,_,_,_,e,_⟩:=x;exact aal e
 | ins C dx fs=>obtain⟨_,_,_,e,_⟩:=x;exact aal e
 | own y=>obtain⟨_,e⟩:=x;exact aal e
 | xd fs=>obtain⟨_,⟨_,_,_,e,_⟩,_⟩:=x;exact aal e
 | rng lo hi=>obtain⟨_,_,_,e⟩:=x;exact aal e
 | frz ob u=>obtain⟨e,_⟩:=x;exact aal e
 | tbl ps=>exact aal (show h.get? a=some _ from x)
 | met f y=>exact aal (show h.get? a=some _ from x)
 | ext cj=>obtain⟨_,⟨_,e⟩,_⟩:=x;exact aal e
theorem Paired.mapP {af β:Type}{F G:af->β->Prop}:∀ {cw:List af}{cx:List β},Paired F cw cx->(∀ a b,F a b->G a b)->Paired G cw cx
 | _,_,.nil,_=>.nil
 | _,_,.cons r t,f=>.cons (f _ _ r) (Paired.mapP t f)
theorem cJ.stay (x:cJ P w H h a o) (k:∀ b u,(b=a\/H b=some (.own a))->h.get? b=some u->h'.get? b=some u)
  (ho:∀ b,H b=some (.own a)->H' b=some (.own a)) (ht:∀ b xs,H b=some (.tup xs)->H' b=some (.tup xs)):cJ P w H' h' a o:=by
 induction o with
 | lst xs=>obtain⟨z,its,n,r,e⟩:=x;exact⟨z,its,n,r,k _ _ (.inl rfl) e⟩
 | tup xs=>obtain⟨z,its,r,ob,e,c⟩:=x;exact⟨z,its,r,ob,k _ _ (.inl rfl) e,c⟩
 | dK kvs=>obtain⟨z,y,vs,r,ob,es,ep,e,c⟩:=x;exact⟨z,y,vs,r,ob,es,ep,k _ _ (.inl rfl) e,c⟩
 | dT kvs=>
  obtain⟨z,y,xs,r,ob,es,ep,e,c⟩:=x;exact⟨z,y,xs,Paired.mapP r λ p q z=>⟨z.1,ht _ _ z.2.1,z.2.2⟩,ob,es,ep,k _ _ (.inl rfl) e,c⟩
 | set S n=>obtain⟨ob,es,ep,t,e,c⟩:=x;exact⟨ob,es,ep,t,k _ _ (.inl rfl) e,c⟩
 | ins C dx fs=>
  obtain⟨d,z,ne,e,mA,⟨od,es,ep,e2,c⟩,r⟩:=x;exact⟨ho _ d,z,ne,k _ _ (.inl rfl) e,mA,⟨od,es,ep,k _ _ (.inr d) e2,c⟩,r⟩
 | own y=>obtain⟨ob,e⟩:=x;exact⟨ob,k _ _ (.inl rfl) e⟩
 | xd fs=>obtain⟨mA,⟨od,es,ep,e,c⟩,r⟩:=x;exact⟨mA,⟨od,es,ep,k _ _ (.inl rfl) e,c⟩,r⟩
 | rng lo hi=>obtain⟨t,u,v,e⟩:=x;exact⟨t,u,v,k _ _ (.inl rfl) e⟩
 | frz ob u ih=>obtain⟨e,q⟩:=x;exact⟨k _ _ (.inl rfl) e,ih q⟩
 | tbl ps=>
  have e:h.get? a=some { cls:=.none,data:=.fields ps }:=x;show h'.get? a=some { cls:=.none,data:=.fields ps };exact k a _ (.inl rfl) e
 | met f y=>
  have e:h.get? a=some (PySem.W.methodObj (.ref f) (.ref y)):=x;show h'.get? a=some (PySem.W.methodObj (.ref f) (.ref y));exact k a _ (.inl rfl) e
 | ext cj=>obtain⟨p,⟨o,e⟩,st⟩:=x;exact⟨st _ _ p λ o q=>k _ _ (.inl rfl) q,⟨o,k _ _ (.inl rfl) e⟩,st⟩
theorem iV.lt (x:iV P w H h) (e:H a=some o):a < h.objs.size:=(x a o e).lt
theorem iV.fresh (x:iV P w H h) (e:h.objs.size<=a):H a=none:=by
 cases q:H a with
 | none=>rfl
 | some u=>exact absurd (aak (x.lt q) e) (abn _)
theorem iV.kept (x:iV P w H h) (k:∀ b u,h.get? b=some u->h'.get? b=some u):iV P w H h':=λ a o e=>
 (x a o e).stay (λ b u _ q=>k b u q) (λ _ q=>q) λ _ _ q=>q
theorem iV.laid (x:iV P w H h) (k:∀ b u,h.get? b=some u->h'.get? b=some u) (hp:h.objs.size<=a) (new:cJ P w (upd H a o) h' a o):iV P w (upd H a o) h':=λ b u e=>by
 have hn:=x.fresh hp
 by_cases hb:b=a
 ·subst hb;rw[aF] at e;cases e;exact new
 ·rw[aJ hb] at e;exact (x b u e).stay (λ c v _ q=>k c v q) (λ c q=>by rw[aJ (aN q hn)];exact q) λ c xs q=>by rw[aJ (aN q hn)];exact q
end
def Rd (H:Hp) (a:Addr) (u:HO):Prop:=H a=some u\/∃ o,H a=some (.frz o u)
theorem Rd.ok {P:Program}{w:World}{H:Hp}{h:Heap}{a:Addr}{u:HO} (r:Rd H a u) (x:iV P w H h):cJ P w H h a u:=by
 rcases r with r | ⟨o,r⟩
 ·exact x a u r
 ·obtain⟨_,q⟩:=x a _ r;exact q
def pJ:Option HO->Prop
 | some (.lst _)=>True
 | some (.dK _)=>True
 | some (.dT _)=>True
 | some (.set _ _)=>True
 | some (.ins _ _ _)=>True
 | some (.ext _)=>True
 | _=>False
section
variable {H:Hp}{h h':Heap}{x e:Addr}{o':HO}
theorem iV.write (ok:iV P w H h) (mu:pJ (H x)) (he:e=x\/H e=some (.own x)) (k:∀ b u,b≠e->h.get? b=some u->h'.get? b=some u) (heo:∃ u,h'.get? e=some u)
  (new:cJ P w (upd H x o') h' x o'):iV P w (upd H x o') h':=λ b u q=>by
 have nown:∀ c y,H c=some (.own y)->c≠x:=λ c y r z=>by subst z;rw[r] at mu;exact mu
 have ntup:∀ c xs,H c=some (.tup xs)->c≠x:=λ c xs r z=>by subst z;rw[r] at mu;exact mu
 by_cases hb:b=x
 ·subst hb;rw[aF] at q;cases q;exact new
 ·rw[aJ hb] at q
  by_cases hbe:b=e
  ·have q':H b=some (.own x):=by
    rcases he with z | z
    ·exact absurd (hbe.trans z) hb
    ·rw[hbe];exact z
   rw[q] at q';cases q';obtain⟨v,hv⟩:=heo;exact⟨v,by rw[hbe];exact hv⟩
  ·refine (ok b u q).stay (λ c v hc r=>k c v ?_ r) (λ c r=>by rw[aJ (nown c b r)];exact r) λ c xs r=>by rw[aJ (ntup c xs r)];exact r
   rcases hc with rfl | hc
   ·exact hbe
   ·rintro rfl;rcases he with z | z
    ·exact nown c b hc z
    ·rw[hc] at z;cases z;exact hb rfl
end
structure Un (fs ex:List Addr) (H H':Hp) (h h':Heap):Prop where
 keep:∀ b o,h.get? b=some o->H b=none->b∉fs->b∉ex->h'.get? b=some o
 slot:∀ b o,h.get? b=some o->H b=none->b∈fs->b∉ex->∃ sl,h'.get? b=some { o with slots:=sl }
 free:∀ b o,h.get? b=some o->H b=none->b∉ex->H' b=none
 there:∀ b o,h.get? b=some o->b∉ex->∃ o',h'.get? b=some o'
 tups:∀ b xs,H b=some (.tup xs)->H' b=some (.tup xs)
 frzs:∀ b o u,H b=some (.frz o u)->H' b=some (.frz o u)
 tbls:∀ b ps,H b=some (.tbl ps)->∃ more,H' b=some (.tbl (ps++more))
section
variable {fs fs' ex ex':List Addr}{H H1 H2:Hp}{h h1 h2 h':Heap}{a x e:Addr}{o:HO}
theorem Un.any (u:Un fs ex H H1 h h1) {b:Addr}{ob:Obj} (q:h.get? b=some ob) (n:H b=none) (hx:b∉ex):∃ sl,h1.get? b=some { ob with slots:=sl }:=by
 by_cases hb:b∈fs
 ·exact u.slot b ob q n hb hx
 ·exact⟨ob.slots,u.keep b ob q n hb hx⟩
theorem Un.kept (k:∀ b u,h.get? b=some u->h'.get? b=some u):Un fs ex H H h h':=
 ⟨λ b ob q _ _ _=>k b ob q,λ b ob q _ _ _=>⟨ob.slots,k b ob q⟩,λ _ _ _ n _=>n,λ b ob q _=>⟨ob,k b ob q⟩,λ _ _ q=>q,λ _ _ _ q=>q,λ _ ps q=>⟨#[],by rw[q];simp⟩⟩
theorem Un.refl:Un fs ex H H h h:=Un.kept λ _ _ q=>q
theorem Un.laid (k:∀ b u,h.get? b=some u->h'.get? b=some u) (hp:h.objs.size<=a) (hn:H a=none):Un fs ex H (upd H a o) h h' where
 keep:=λ b u q _ _ _=>k b u q
 slot:=λ b u q _ _ _=>⟨u.slots,k b u q⟩
 free:=λ b u q n _=>by rw[aJ (aar (aak (aal q) hp))];exact n
 there:=λ b u q _=>⟨u,k b u q⟩
 tups:=λ b xs q=>by rw[aJ (aN q hn)];exact q
 frzs:=λ b u xs q=>by rw[aJ (aN q hn)];exact q
 tbls:=λ b ps q=>⟨#[],by rw[aJ (aN q hn),q];simp⟩
theorem Un.write (mu:pJ (H x)) (he:e=x\/H e=some (.own x)) (k:∀ b u,b≠e->h.get? b=some u->h'.get? b=some u) (heo:∃ u,h'.get? e=some u):Un fs ex H (upd H x o) h h':=by
 have hx:∀ b,H b=none->b≠x:=λ b n z=>by subst z;rw[n] at mu;exact mu
 have hb:∀ b,H b=none->b≠e:=λ b n z=>by
  subst z;rcases he with r | r
  ·exact hx b n r
  ·rw[n] at r;cases r
 have hm:∀ b u,H b=some u->¬ pJ (some u)->b≠x:=λ b u q nm z=>by subst z;rw[q] at mu;exact nm mu
 refine⟨λ b u q n _ _=>k b u (hb b n) q,λ b u q n _ _=>⟨u.slots,k b u (hb b n) q⟩,λ b u q n _=>by rw[aJ (hx b n)];exact n,λ b u q _=>?_,
  λ b xs q=>by rw[aJ (hm b _ q λ z=>z)];exact q,λ b u xs q=>by rw[aJ (hm b _ q λ z=>z)];exact q,λ b ps q=>⟨#[],by rw[aJ (hm b _ q λ z=>z),q];simp⟩⟩
 by_cases hbe:b=e
 ·subst hbe;exact heo
 ·exact⟨u,k b u hbe q⟩
end
def trk (h:Heap) (H:Hp):List Addr:=(List.range h.objs.size).filter λ a=>(H a).isSome
def mG (h:Heap) (H:Hp):Heap:=PySem.W.hideAll h (trk h H)
theorem qY (h:Heap) (H:Hp):(mG h H).objs.size=h.objs.size:=PySem.W.hideAll_size _ _
theorem tL {h:Heap}{H:Hp}{b:Addr}{o:Obj} (e:h.get? b=some o) (n:H b=none):(mG h H).get? b=some o:=
 PySem.W.hideAll_get _ e λ hm=>by
  have q:(H b).isSome=true:=(List.mem_filter.mp hm).2;rw[n] at q;simp at q
theorem uT {h:Heap}{H:Hp}{b:Addr}{o:Obj} (e:(mG h H).get? b=some o):h.get? b=some o/\H b=none:=by
 have e':h.get? b=some o:=PySem.W.of_hideAll (trk h H) e;refine⟨e',?_⟩;cases q:H b with
 | none=>rfl
 | some x=>
  have hm:b∈trk h H:=List.mem_filter.mpr ⟨aca.mpr (aal e'),by simp [q]⟩;have z:(mG h H).get? b=none:=PySem.W.hideAll_none (trk h H) hm;rw[z] at e;cases e
structure Mod (K:aaa) (mg:Str->Option Value) (base:Heap):Prop where
 kin:K.In base
 glob:base.Ns mainGlobals mg
 blt:∃ mb,base.Ns builtinsNs mb/\∀ x:Str,x ≠ "__name__" -> mb x=bootBuiltins x
 nolimit:base.NoLimit
structure Cx where
 prog:Program
 w:World
 K:aaa
 mg:Str->Option Value
 base:Heap
 A:Around
 N:List Str
 s₀:Shared
 H₀:Hp
 env:Env
 outer:List Env
 stack:List Env
 ex:List Addr
 fn:Str->Bool
 calm:Bool
 pn:List (Addr×Obj)
 xe:Value->Shared->Prop
def iU (l:List Env):List Addr:=l.filterMap (·.frame)
abbrev Cx.fs (X:Cx):List Addr:=iU X.outer
def Vis (sc:Scope) (x:Str):Prop:=sc.names.lookup x=some .local\/sc.names.lookup x=some .cell\/sc.names.lookup x=some .free
def xU (sc:Scope) (x:Str):Prop:=sc.names.lookup x=some .local\/sc.names.lookup x=some .cell
def Look (env:Env) (h:Heap) (m:Str->Option Value) (x:Str) (u:Value):Prop:=
 (env.kindOf x=some .local/\m x=some u)\/((env.kindOf x=some .cell\/env.kindOf x=some .free)/\∃ c,env.cells.lookup x=some c/\h.IsCell c (some u))
structure Cx.Ok (X:Cx):Prop where
 mod:Mod X.K X.mg X.base
 kind:X.env.scope.kind=.function
 glob:X.env.globals=mainGlobals
 blt:X.env.builtins=builtinsNs
 above:X.s₀.heap.objs.size<=X.env.locals
 inj:∀ x y c,X.env.cells.lookup x=some c->X.env.cells.lookup y=some c->x=y
 has:∀ x,(X.env.kindOf x=some .cell\/X.env.kindOf x=some .free)->∃ c,X.env.cells.lookup x=some c
 cab:∀ x c,X.fn x=true->X.env.cells.lookup x=some c->X.s₀.heap.objs.size<=c
 hd:X.calm=true->X.A.handled=none
 frames:X.A.frames=some X.stack
 stk:X.stack=X.outer\/(X.stack=X.env::X.outer/\X.env.frame=some X.env.locals)
 exf:∀ b∈X.ex,b≠X.env.locals/\∀ x c,X.env.cells.lookup x=some c->c≠b
 bs:∀ b o,X.base.get? b=some o->X.s₀.heap.get? b=some o/\X.H₀ b=none
 bsz:X.base.objs.size<=X.s₀.heap.objs.size
 noex:∀ b o,X.base.get? b=some o->b∉X.ex
 exfs:∀ b∈X.ex,b∉X.fs
 funs:X.s₀.heap.FunFrames X.base X.outer
 frf:∀ b∈X.fs,X.H₀ b=none
structure Inv (X:Cx) (pins:List (Addr×Obj)) (σ:List (Option V)) (H:Hp) (s:Shared):Prop where
 ok:X.Ok
 os:s.os=X.s₀.os
 bare:AllBare s.gens
 base:Un X.fs X.ex X.H₀ H X.s₀.heap s.heap
 loc:∃ m,s.heap.Ns X.env.locals m/\∀ (i:Nat) (x:Str) (v:V),X.N[i]? = some x->σ[i]? = some (some v)->Vis X.env.scope x->∃ u,bD v u/\Look X.env s.heap m x u
 cell:∀ x c,X.env.cells.lookup x=some c->∃ v,s.heap.IsCell c v
 free:H X.env.locals=none
 freeC:∀ x c,X.env.cells.lookup x=some c->H c=none
 pin:∀ p∈X.pn++pins,s.heap.get? p.1=some p.2/\H p.1=none/\p.1≠X.env.locals/\p.1∉X.fs/\∀ v,p.2.data≠.cell v
 hok:iV X.prog X.w H s.heap
 len:σ.length=X.N.length
section
variable {X:Cx}{pins:List (Addr×Obj)}{σ:List (Option V)}{H H':Hp}{s:Shared}{h':Heap}
theorem Cx.Ok.nofr (ok:X.Ok) {b:Addr}{o:Obj} (e:X.base.get? b=some o):b∉X.fs:=λ hb=>by
 have:=(ok.funs.mem hb).1;rw[e] at this;cases this
theorem Inv.bs (I:Inv X pins σ H s):∀ b o,X.base.get? b=some o->s.heap.get? b=some o/\H b=none:=λ b o e=>
 ⟨I.base.keep b o (I.ok.bs b o e).1 (I.ok.bs b o e).2 (I.ok.nofr e) (I.ok.noex b o e),I.base.free b o (I.ok.bs b o e).1 (I.ok.bs b o e).2 (I.ok.noex b o e)⟩
theorem Inv.bk (I:Inv X pins σ H s):∀ b o,X.base.get? b=some o->s.heap.get? b=some o:=λ b o e=>(I.bs b o e).1
theorem Inv.mod (I:Inv X pins σ H s):Mod X.K X.mg X.base:=I.ok.mod
theorem Inv.kIn (I:Inv X pins σ H s):X.K.In s.heap:=I.ok.mod.kin.keeps I.bk
theorem Inv.lt (I:Inv X pins σ H s):X.env.locals < s.heap.objs.size:=let ⟨_,hn,_⟩:=I.loc;hn.lt
theorem Inv.sz (I:Inv X pins σ H s):X.s₀.heap.objs.size<=s.heap.objs.size:=abl I.ok.above (Nat.le_of_lt I.lt)
theorem Inv.nofs (I:Inv X pins σ H s) {a:Addr} (h:s.heap.objs.size<=a):a∉X.fs:=λ hb=>by
 obtain⟨_,o,ho,_⟩:=I.ok.funs.mem hb;exact absurd (aak (aal ho) (abl I.sz h)) (abn _)
theorem Inv.cne (I:Inv X pins σ H s):∀ x c,X.env.cells.lookup x=some c->c≠X.env.locals:=λ x c e z=>by
 obtain⟨v,o,ho,hd⟩:=I.cell x c e;obtain⟨m,⟨o',es,ep,ho',hd',_⟩,_⟩:=I.loc;rw[z,ho'] at ho;cases ho;rw[hd'] at hd;cases hd
theorem Inv.funs (I:Inv X pins σ H s):s.heap.FunFrames X.base X.outer:=by
 have all:∀ (l:List Env),(∀ b∈iU l,b∈X.fs)->X.s₀.heap.FunFrames X.base l->s.heap.FunFrames X.base l:=by
  intro l
  induction l with
  | nil=>intro _ _;trivial
  | cons env r ih=>
   intro hs hl;obtain⟨hk,⟨L,o,hf,hn,ho,hd⟩,hr⟩:=hl;have hL:L∈X.fs:=hs L (by unfold iU;rw[List.filterMap_cons,hf];exact List.mem_cons_self);obtain⟨sl,e⟩:=I.base.slot L o ho (I.ok.frf L hL) hL λ z=>I.ok.exfs L z hL;exact⟨hk,⟨L,_,hf,hn,e,hd⟩,ih (λ b hb=>hs b (by unfold iU;rw[List.filterMap_cons,hf];exact abk _ hb)) hr⟩
 exact all X.outer (λ _ hb=>hb) I.ok.funs
theorem Inv.stack (I:Inv X pins σ H s):s.heap.FunFrames X.base X.stack:=by
 rcases I.ok.stk with e | ⟨e,hf⟩
 ·rw[e];exact I.funs
 ·rw[e];obtain⟨m,hn,_⟩:=I.loc;refine .cons (by rw[I.ok.kind];decide) hf hn ?_ I.funs;exact Heap.get?_none_of_le (abl I.ok.bsz I.ok.above)
theorem Inv.stkSub (I:Inv X pins σ H s):∀ b∈iU X.stack,b∈X.env.locals::X.fs:=λ b hb=>by
 rcases I.ok.stk with e | ⟨e,hf⟩
 ·rw[e] at hb;exact abk _ hb
 ·rw[e] at hb;unfold iU at hb;rw[List.filterMap_cons,hf] at hb;exact hb
theorem Inv.stkFree (I:Inv X pins σ H s):∀ b∈iU X.stack,H b=none:=λ b hb=>by
 rcases aas.mp (I.stkSub b hb) with e | hb
 ·rw[e];exact I.free
 ·obtain⟨_,o,ho,_⟩:=I.ok.funs.mem hb;exact I.base.free b o ho (I.ok.frf b hb) λ z=>I.ok.exfs b z hb
theorem Inv.step {g':Array GenState}{t':Nat}{d':Drawn}{ch:List Addr} (I:Inv X pins σ H s)
  (hch:∀ b∈ch,(b∈X.ex\/X.s₀.heap.objs.size<=b)/\b≠X.env.locals/\(∀ x c,X.env.cells.lookup x=some c->c≠b)/\∀ p∈X.pn++pins,p.1≠b)
  (keep:∀ b o,b≠X.env.locals->b∉X.fs->b∉ch->s.heap.get? b=some o->H b=none->h'.get? b=some o)
  (slot:∀ b o,b≠X.env.locals->b∈X.fs->b∉ch->s.heap.get? b=some o->H b=none->∃ sl,h'.get? b=some { o with slots:=sl }) (free:∀ b o,b∉ch->s.heap.get? b=some o->H b=none->H' b=none)
  (there:∀ b o,b∉ch->s.heap.get? b=some o->∃ o',h'.get? b=some o')
  (tups:∀ b xs,H b=some (.tup xs)->H' b=some (.tup xs)) (frzs:∀ b o u,H b=some (.frz o u)->H' b=some (.frz o u)) (tbls:∀ b ps,H b=some (.tbl ps)->∃ more,H' b=some (.tbl (ps++more)))
  (ns:∀ m,s.heap.Ns X.env.locals m->h'.Ns X.env.locals m) (hok:iV X.prog X.w H' h') (hg:AllBare g') :
  Inv X pins σ H' { s with heap:=h',gens:=g',drawn:=d',toks:=t' }:=by
 have neL:∀ b o,X.s₀.heap.get? b=some o->b≠X.env.locals:=λ b o e=>aar (aak (aal e) I.ok.above);have neC:∀ b o,X.s₀.heap.get? b=some o->b∉X.ex->b∉ch:=λ b o e hx hb=>by
  rcases (hch b hb).1 with z | z
  ·exact hx z
  ·exact absurd (aak (aal e) z) (abn _)
 have cellK:∀ x c,X.env.cells.lookup x=some c->∀ v,s.heap.IsCell c v->h'.IsCell c v:=λ x c e v ⟨o,ho,hd⟩=>by
  have nch:c∉ch:=λ z=>(hch c z).2.2.1 x c e rfl
  by_cases hc:c∈X.fs
  ·obtain⟨sl,q⟩:=slot c o (I.cne x c e) hc nch ho (I.freeC x c e);exact⟨_,q,hd⟩
  ·exact⟨o,keep c o (I.cne x c e) hc nch ho (I.freeC x c e),hd⟩
 refine⟨I.ok,I.os,hg,⟨λ b o e n hb hx=>?_,λ b o e n hb hx=>?_,λ b o e n hx=>?_,λ b o e hx=>?_,λ b xs e=>tups b xs (I.base.tups b xs e),λ b o xs e=>frzs b o xs (I.base.frzs b o xs e),λ b ps e=>?_⟩,?_,λ x c e=>?_,?_,λ x c e=>?_,λ p hp=>?_,hok,I.len⟩
 ·exact keep b o (neL b o e) hb (neC b o e hx) (I.base.keep b o e n hb hx) (I.base.free b o e n hx)
 ·obtain⟨sl,e1⟩:=I.base.slot b o e n hb hx;obtain⟨sl',e2⟩:=slot b _ (neL b o e) hb (neC b o e hx) e1 (I.base.free b o e n hx);exact⟨sl',e2⟩
 ·obtain⟨o',e1⟩:=I.base.there b o e hx;exact free b o' (neC b o e hx) e1 (I.base.free b o e n hx)
 ·obtain⟨o',e1⟩:=I.base.there b o e hx;exact there b o' (neC b o e hx) e1
 ·obtain⟨m1,e1⟩:=I.base.tbls b ps e;obtain⟨m2,e2⟩:=tbls b _ e1;exact⟨m1++m2,by rw[e2,Array.append_assoc]⟩
 ·obtain⟨m,hn,hl⟩:=I.loc;refine⟨m,ns m hn,λ i x v e1 e2 e3=>?_⟩;obtain⟨u,r,l⟩:=hl i x v e1 e2 e3;refine⟨u,r,?_⟩;rcases l with l | ⟨k,c,e,z⟩
  ·exact .inl l
  ·exact .inr ⟨k,c,e,cellK x c e _ z⟩
 ·obtain⟨v,z⟩:=I.cell x c e;exact⟨v,cellK x c e v z⟩
 ·obtain⟨m,⟨o,_,_,ho,_⟩,_⟩:=I.loc;exact free _ o (λ z=>(hch _ z).2.1 rfl) ho I.free
 ·obtain⟨v,o,ho,hd⟩:=I.cell x c e;exact free c o (λ z=>(hch c z).2.2.1 x c e rfl) ho (I.freeC x c e)
 ·obtain⟨e,n,ne,nf,d⟩:=I.pin p hp;have nch:p.1∉ch:=λ z=>(hch p.1 z).2.2.2 p hp rfl;exact⟨keep p.1 p.2 ne nf nch e n,free p.1 p.2 nch e n,ne,nf,d⟩
theorem Inv.un {t':Nat} (I:Inv X pins σ H s) (u:Un X.fs [] H H' s.heap h') (hok:iV X.prog X.w H' h'):Inv X pins σ H' { s with heap:=h',toks:=t' }:=by
 obtain⟨m,⟨o,es,ep,ho,r⟩,_⟩:=id I.loc;obtain⟨sl,hL⟩:=u.any ho I.free (by simp);exact I.step (g':=s.gens) (d':=s.drawn) (ch:=[]) (λ _ z=>nomatch z) (λ b o _ hb _ e n=>u.keep b o e n hb (by simp)) (λ b o _ hb _ e n=>u.slot b o e n hb (by simp)) (λ b o _ e n=>u.free b o e n (by simp)) (λ b o _ e=>u.there b o e (by simp)) u.tups u.frzs u.tbls (λ m' hm=>by
  obtain⟨o',es',ep',ho',r'⟩:=hm;rw[ho] at ho';cases ho';exact⟨_,es',ep',hL,r'⟩) hok I.bare
theorem Inv.call {g':Array GenState}{t':Nat}{d':Drawn}{ch:List Addr} (I:Inv X pins σ H s) (u:Un (iU X.stack) ch H H' s.heap h') (hok:iV X.prog X.w H' h') (hg:AllBare g')
  (hch:∀ b∈ch,(b∈X.ex\/X.s₀.heap.objs.size<=b)/\b≠X.env.locals/\(∀ x c,X.env.cells.lookup x=some c->c≠b)/\∀ p∈X.pn++pins,p.1≠b) :
  Inv X pins σ H' { s with heap:=h',gens:=g',drawn:=d',toks:=t' }:=by
 obtain⟨m,⟨o,es,ep,ho,r⟩,_⟩:=id I.loc;obtain⟨sl,hL⟩:=u.any ho I.free λ z=>(hch _ z).2.1 rfl;exact I.step (ch:=ch) hch (λ b o hL hb hc e n=>u.keep b o e n (λ z=>(aas.mp (I.stkSub b z)).elim hL hb) hc) (λ b o _ _ hc e n=>u.any e n hc) (λ b o hc e n=>u.free b o e n hc) (λ b o hc e=>u.there b o e hc) u.tups u.frzs u.tbls (λ m' hm=>by
  obtain⟨o',es',ep',ho',r'⟩:=hm;rw[ho] at ho';cases ho';exact⟨_,es',ep',hL,r'⟩) hok hg
theorem Inv.turned {t':Nat}{it:Addr} (I:Inv X pins σ H s) (k:∀ b o,b≠it->s.heap.get? b=some o->h'.get? b=some o) (hn:H it=none) (hL:it≠X.env.locals)
  (h1:it∈X.ex\/X.s₀.heap.objs.size<=it) (h2:∀ x c,X.env.cells.lookup x=some c->c≠it) (h3:∀ p∈X.pn++pins,p.1≠it):Inv X pins σ H { s with heap:=h',toks:=t' }:=by
 have nit:∀ b u,H b=some u->b≠it:=λ b u e z=>by rw[z,hn] at e;cases e
 refine I.step (g':=s.gens) (d':=s.drawn) (ch:=[it]) (λ b hb=>?_) (λ b o _ _ hc e _=>k b o (λ z=>hc (by simp [z])) e) (λ b o _ _ hc e _=>⟨o.slots,k b o (λ z=>hc (by simp [z])) e⟩) (λ _ _ _ _ n=>n)
  (λ b o hc e=>⟨o,k b o (λ z=>hc (by simp [z])) e⟩) (λ _ _ e=>e) (λ _ _ _ e=>e) (λ b ps e=>⟨#[],by rw[e];simp⟩) (λ m hm=>?_) (λ b u e=>?_) I.bare
 ·have e:b=it:=by simpa using hb
  subst e;exact⟨h1,hL,h2,h3⟩
 ·obtain⟨o,es,ep,ho,r⟩:=hm;exact⟨o,es,ep,k _ o (Ne.symm hL) ho,r⟩
 ·refine (I.hok b u e).stay (λ c v hc q=>k c v ?_ q) (λ _ q=>q) λ _ _ q=>q;rcases hc with z | z
  ·rw[z];exact nit b u e
  ·exact nit c _ z
theorem Inv.tok (I:Inv X pins σ H s) (t:Nat):Inv X pins σ H { s with toks:=t }:=I.un (h':=s.heap) (t':=t) Un.refl I.hok
theorem Inv.kept {t':Nat} (I:Inv X pins σ H s) (k:∀ b u,s.heap.get? b=some u->h'.get? b=some u):Inv X pins σ H { s with heap:=h',toks:=t' }:=I.un (Un.kept k) (I.hok.kept k)
theorem Inv.laid {a:Addr}{o:HO}{t':Nat} (I:Inv X pins σ H s) (k:∀ b u,s.heap.get? b=some u->h'.get? b=some u) (hp:s.heap.objs.size<=a) (new:cJ X.prog X.w (upd H a o) h' a o) :
  Inv X pins σ (upd H a o) { s with heap:=h',toks:=t' }:=I.un (Un.laid k hp (I.hok.fresh hp)) (I.hok.laid k hp new)
theorem Inv.write {x e:Addr}{o:HO}{t':Nat} (I:Inv X pins σ H s) (mu:pJ (H x)) (he:e=x\/H e=some (.own x)) (k:∀ b u,b≠e->s.heap.get? b=some u->h'.get? b=some u) (heo:∃ u,h'.get? e=some u)
  (new:cJ X.prog X.w (upd H x o) h' x o):Inv X pins σ (upd H x o) { s with heap:=h',toks:=t' }:=I.un (Un.write mu he k heo) (I.hok.write mu he k heo new)
theorem Inv.pins_of {pins':List (Addr×Obj)} (I:Inv X pins σ H s) (h:∀ p∈pins',s.heap.get? p.1=some p.2/\H p.1=none/\p.1≠X.env.locals/\p.1∉X.fs/\∀ v,p.2.data≠.cell v):Inv X pins' σ H s:=
 ⟨I.ok,I.os,I.bare,I.base,I.loc,I.cell,I.free,I.freeC,λ p hp=>(aau.mp hp).elim (λ z=>I.pin p (abu _ z)) (h p),I.hok,I.len⟩
theorem jT {N:List Str} (hN:N.Nodup) {i j:Nat}{x:Str} (a:N[i]? = some x) (b:N[j]? = some x):i=j:=by
 obtain⟨h1,e1⟩:=aaf.mp a;obtain⟨h2,e2⟩:=aaf.mp b;exact (List.getElem_inj hN).mp (e1.trans e2.symm)
theorem kP {M:Model}{A:Around}{E:Value->Shared->Prop}{i:Nat}{x:Str}{v:V}{u:Value}{Q:Unit->Shared->Prop} (I:Inv X pins σ H s) (hN:X.N.Nodup) (hi:X.N[i]? = some x) (hx:xU X.env.scope x) (r:bD v u)
  (h:∀ s',Inv X pins (σ.set i (some v)) H s'->(∃ a,Heap.SameBut a s.heap s'.heap/\(a=X.env.locals\/X.env.cells.lookup x=some a))->Q () s') (hf:X.fn x=true\/X.env.scope.names.lookup x=some .local:=by first | exact .inl rfl | exact .inr rfl | assumption):wpAny M A (storeName X.env x u) Q E s:=by
 obtain⟨m,hn,hl⟩:=id I.loc;have hcls:(X.env.scope.kind == .class || (X.env.scope.kind == .module && X.env.locals != X.env.globals))=false:=by rw[I.ok.kind];rfl
 have bv:i < σ.length:=by rw[I.len];exact (aaf.mp hi).1
 have cne:=I.cne;have tracked:∀ {a:Addr}{h':Heap},(∃ o,s.heap.get? a=some o/\H a=none)->Heap.SameBut a s.heap h'->iV X.prog X.w H h':=λ {a h'} ha hs b ob e=>by
  obtain⟨_,_,hfree⟩:=ha;refine (I.hok b ob e).stay (λ c w' hc q=>(hs.2 c ?_).trans q) (λ _ q=>q) λ _ _ q=>q;rintro rfl;rcases hc with rfl | hc
  ·rw[hfree] at e;cases e
  ·rw[hfree] at hc;cases hc
 rcases hx with hk | hk
 ·refine wpAny_storeName_local hk hn (λ h' hn' hs=>?_) hcls;obtain⟨oL,_,_,hoL,_⟩:=id hn;refine h _ ⟨I.ok,I.os,I.bare,⟨λ b o e n hb hx=>?_,λ b o e n hb hx=>?_,I.base.free,λ b o e hx=>?_,I.base.tups,I.base.frzs,I.base.tbls⟩,⟨_,hn',λ j y v' e1 e2 e3=>?_⟩,λ y c e=>?_,I.free,I.freeC,λ p hp=>?_,tracked ⟨oL,hoL,I.free⟩ hs,by simpa using I.len⟩ ⟨_,hs,.inl rfl⟩
  ·exact (hs.2 b (aar (aak (aal e) I.ok.above))).trans (I.base.keep b o e n hb hx)
  ·obtain⟨sl,e1⟩:=I.base.slot b o e n hb hx;exact⟨sl,(hs.2 b (aar (aak (aal e) I.ok.above))).trans e1⟩
  ·obtain⟨o',e1⟩:=I.base.there b o e hx;exact⟨o',(hs.2 b (aar (aak (aal e) I.ok.above))).trans e1⟩
  ·by_cases hj:j=i
   ·subst hj;rw[hi] at e1;cases e1;rw[abx bv] at e2;cases e2;exact⟨u,r,.inl ⟨hk,by simp⟩⟩
   ·rw[acf (Ne.symm hj)] at e2;obtain⟨u',r',q⟩:=hl j y v' e1 e2 e3;refine⟨u',r',?_⟩;rcases q with ⟨k,e⟩ | ⟨k,c,e,z⟩
    ·refine .inl ⟨k,?_⟩;have:y≠x:=λ e=>hj (jT hN e1 (e ▸ hi));simp [this,e]
    ·exact .inr ⟨k,c,e,z.sameBut hs (cne y c e)⟩
  ·obtain⟨w',z⟩:=I.cell y c e;exact⟨w',z.sameBut hs (cne y c e)⟩
  ·obtain⟨e,n,ne,nf,d⟩:=I.pin p hp;exact⟨(hs.2 p.1 ne).trans e,n,ne,nf,d⟩
 ·have hfn:X.fn x=true:=by
   rcases hf with z | z
   ·exact z
   ·rw[z] at hk;cases hk
  obtain⟨c,hc⟩:=I.ok.has x (.inl hk);obtain⟨w',z⟩:=I.cell x c hc;refine wpAny_storeName_cell I.ok.kind hk hc z (λ h' hc' hs=>?_);obtain⟨oc,hoc,hocd⟩:=id z;refine h { s with heap:=h' } ⟨I.ok,I.os,I.bare,⟨λ b o e n hb hx=>?_,λ b o e n hb hx=>?_,I.base.free,λ b o e hx=>?_,I.base.tups,I.base.frzs,I.base.tbls⟩,⟨m,hn.sameBut hs (Ne.symm (cne x c hc)),λ j y v' e1 e2 e3=>?_⟩,λ y c' e=>?_,I.free,I.freeC,λ p hp=>?_,tracked ⟨oc,hoc,I.freeC x c hc⟩ hs,by simpa using I.len⟩ ⟨c,hs,.inr hc⟩
  ·exact (hs.2 b (aar (aak (aal e) (I.ok.cab x c hfn hc)))).trans (I.base.keep b o e n hb hx)
  ·obtain⟨sl,e1⟩:=I.base.slot b o e n hb hx;exact⟨sl,(hs.2 b (aar (aak (aal e) (I.ok.cab x c hfn hc)))).trans e1⟩
  ·obtain⟨o',e1⟩:=I.base.there b o e hx;exact⟨o',(hs.2 b (aar (aak (aal e) (I.ok.cab x c hfn hc)))).trans e1⟩
  ·by_cases hj:j=i
   ·subst hj;rw[hi] at e1;cases e1;rw[abx bv] at e2;cases e2;exact⟨u,r,.inr ⟨.inl hk,c,hc,hc'⟩⟩
   ·rw[acf (Ne.symm hj)] at e2;obtain⟨u',r',q⟩:=hl j y v' e1 e2 e3;refine⟨u',r',?_⟩;rcases q with q | ⟨k,c',e,z'⟩
    ·exact .inl q
    ·refine .inr ⟨k,c',e,z'.sameBut hs ?_⟩;rintro rfl;exact hj (jT hN e1 (I.ok.inj _ _ _ e hc ▸ hi))
  ·by_cases hcc:c'=c
   ·subst hcc;exact⟨_,hc'⟩
   ·obtain⟨w2,z2⟩:=I.cell y c' e;exact⟨w2,z2.sameBut hs hcc⟩
  ·obtain⟨e,n,ne,nf,d⟩:=I.pin p hp;refine⟨(hs.2 p.1 ?_).trans e,n,ne,nf,d⟩;intro q;rw[q,hoc] at e;have q':oc=p.2:=aav e;exact d w' (by rw[<- q'];exact hocd)
theorem jF {M:Model}{A:Around}{E:Value->Shared->Prop}{i:Nat}{x:Str}{v:V}{u:Value}{Q:Unit->Shared->Prop} (I:Inv X pins σ H s) (hN:X.N.Nodup) (hi:X.N[i]? = some x) (hx:xU X.env.scope x) (r:bD v u)
  (h:∀ s',Inv X pins (σ.set i (some v)) H s'->Q () s') (hf:X.fn x=true\/X.env.scope.names.lookup x=some .local:=by first | exact .inl rfl | exact .inr rfl | assumption):wpAny M A (storeName X.env x u) Q E s:=
 kP I hN hi hx r (λ s' I' _=>h s' I') hf
theorem Inv.call' {s':Shared}{ch:List Addr} (I:Inv X pins σ H s) (ho:s'.os=s.os) (u:Un (iU X.stack) ch H H' s.heap s'.heap) (hok:iV X.prog X.w H' s'.heap) (hg:AllBare s'.gens)
  (hch:∀ b∈ch,(b∈X.ex\/X.s₀.heap.objs.size<=b)/\b≠X.env.locals/\(∀ x c,X.env.cells.lookup x=some c->c≠b)/\∀ p∈X.pn++pins,p.1≠b):Inv X pins σ H' s':=by
 obtain⟨h',g',d',t',o'⟩:=s';have e:o'=s.os:=ho;subst e;exact I.call (g':=g') (t':=t') (d':=d') u hok hg hch
end
abbrev XK:=Value->Option Addr->Hp->Prop
abbrev St:=List (Option V)
abbrev VK:=V->Hp->Prop
abbrev TE:=St->Hp->VK->Prop
abbrev TT:=St->Hp->(Bool->Hp->Prop)->Prop
abbrev TA:=St->Hp->(List V->Hp->Prop)->Prop
structure Ends where
 nx:St->Hp->Prop
 rt:VK
 bk:St->Hp->Prop:=λ _ _=>False
 ct:St->Hp->Prop:=λ _ _=>False
abbrev TS:=Ends->St->Hp->Prop
def EP (X:Cx) (pins:List (Addr×Obj)) (σ:St) (Q:VK) (u:Value) (s':Shared):Prop:=∃ v H',Inv X pins σ H' s'/\bD v u/\Q v H'
def TP (X:Cx) (pins:List (Addr×Obj)) (σ:St) (Q:Bool->Hp->Prop) (b:Bool) (s':Shared):Prop:=∃ H',Inv X pins σ H' s'/\Q b H'
def AP (X:Cx) (pins:List (Addr×Obj)) (σ:St) (Q:List V->Hp->Prop) (us:List Value) (s':Shared):Prop:=∃ vs H',Inv X pins σ H' s'/\aY vs us/\Q vs H'
def SP (X:Cx) (pins:List (Addr×Obj)) (D:Ends) (f:Flow) (s':Shared):Prop:=
 match f with
 | .next=>∃ aa H',Inv X pins aa H' s'/\D.nx aa H'
 | .brk=>∃ aa H',Inv X pins aa H' s'/\D.bk aa H'
 | .cont=>∃ aa H',Inv X pins aa H' s'/\D.ct aa H'
 | .ret u=>∃ v aa H',Inv X pins aa H' s'/\bD v u/\D.rt v H'
def PE (X:Cx) (e:Expr) (t:TE):Prop:=
 ∀ (pins:List (Addr×Obj)) (s:Shared) (σ:St) (H:Hp) (Q:VK),Inv X pins σ H s->t σ H Q->wpAny (model X.prog X.w) X.A (eval e X.env) (EP X pins σ Q) X.xe s
def PT (X:Cx) (e:Expr) (t:TT):Prop:=
 ∀ (pins:List (Addr×Obj)) (s:Shared) (σ:St) (H:Hp) (Q:Bool->Hp->Prop),Inv X pins σ H s->t σ H Q->wpAny (model X.prog X.w) X.A (isTrue e X.env (eval e X.env)) (TP X pins σ Q) X.xe s
def PW (X:Cx) (e:Expr) (t:TT):Prop:=
 ∀ (whole:Sem Value) (pins:List (Addr×Obj)) (s:Shared) (σ:St) (H:Hp) (Q:Bool->Hp->Prop),Inv X pins σ H s->t σ H Q->wpAny (model X.prog X.w) X.A (isTrue e X.env whole) (TP X pins σ Q) X.xe s
theorem PW.pt {X:Cx}{e:Expr}{t:TT} (h:PW X e t):PT X e t:=h _
def PA (X:Cx) (es:List Expr) (t:TA):Prop:=
 ∀ (pos:Pos) (pins:List (Addr×Obj)) (s:Shared) (σ:St) (H:Hp) (Q:List V->Hp->Prop),Inv X pins σ H s->t σ H Q->wpAny (model X.prog X.w) X.A (spliced (backTo pos (starEach es X.env))) (AP X pins σ Q) X.xe s
def PS (X:Cx) (st:Stmt) (t:TS):Prop:=
 ∀ (pins:List (Addr×Obj)) (s:Shared) (σ:St) (H:Hp) (D:Ends),Inv X pins σ H s->t D σ H->wpAny (model X.prog X.w) X.A (exec st X.env) (SP X pins D) X.xe s
def nY (X:Cx) (st:List Stmt) (t:TS):Prop:=
 ∀ (pins:List (Addr×Obj)) (s:Shared) (σ:St) (H:Hp) (D:Ends),Inv X pins σ H s->t D σ H->wpAny (model X.prog X.w) X.A (execs st X.env) (SP X pins D) X.xe s
theorem cH {af:Type}{t:Sem af}{Q Q':af->Shared->Prop}{M:Model}{A:Around}{E:Value->Shared->Prop}{s:Shared} (h:wpAny M A t Q E s) (hQ:∀ a s,Q a s->Q' a s):wpAny M A t Q' E s:=aba h hQ λ _ _ x=>x
section
variable {X:Cx}
def bZ (i:Nat):TE:=λ σ H Q=>∃ v,σ[i]? = some (some v)/\Q v H
def tC (v:V):TE:=λ _ H Q=>Q v H
theorem wV {i:Nat}{x:Str}{pos:Pos} (hN:X.N[i]? = some x) (hv:Vis X.env.scope x) (hd:(x == ("__debug__" : Str))=false:=by decide) (hcd:(x == ("__classdict__" : Str))=false:=by decide):PE X (.Name x pos) (bZ i):=by
 intro pins s σ H Q I h;obtain⟨v,e,h⟩:=h;obtain⟨m,hn,hl⟩:=I.loc;obtain⟨u,r,l⟩:=hl i x v hN e hv;have fin:EP X pins σ Q u s:=⟨v,H,I,r,h⟩;rcases l with ⟨hk,hm⟩ | ⟨hk,c,hc,hcell⟩
 ·exact wpAny_Name (wpAny_loadName_local I.ok.kind hk hn hm fin) hd
 ·rcases hk with hk | hk
  ·exact wpAny_Name (wpAny_loadName_cell I.ok.kind hk hc hcell fin) hd
  ·exact wpAny_Name (wpAny_loadName_free I.ok.kind hk hc hcell fin hcd) hd
theorem aD {i j pos}:PE X (.Constant (.int i) j pos) (tC (.int i)):=λ _ _ _ H _ I h=>wpAny_Constant_int ⟨.int i,H,I.tok _,⟨_,rfl⟩,h⟩
theorem bV {b j pos}:PE X (.Constant (.bool b) j pos) (tC (.bl b)):=λ _ _ _ H _ I h=>Constant_bool ⟨.bl b,H,I,rfl,h⟩
theorem cS {j pos}:PE X (.Constant .none j pos) (tC .non):=λ _ _ _ H _ I h=>Constant_none ⟨.non,H,I,rfl,h⟩
theorem bQ {x j pos}:PE X (.Constant (.str x) j pos) (tC (.str x)):=λ _ _ _ H _ I h=>Calls.Constant_str ⟨.str x,H,I.tok _,⟨_,rfl⟩,h⟩
def Gl (X:Cx) (x:Str):Prop:=X.env.kindOf x=some .globalImplicit
theorem gU {E:Value->Shared->Prop}{pins:List (Addr×Obj)}{s:Shared}{σ:St}{H:Hp}{x:Str}{u:Value}{pos:Pos}{Q:Value->Shared->Prop} (I:Inv X pins σ H s) (hg:Gl X x) (hm:X.mg x=some u) (h:Q u s)
  (hd:(x == ("__debug__" : Str))=false:=by decide):wpAny (model X.prog X.w) X.A (eval (.Name x pos) X.env) Q E s:=
 Calls.Name_function_global I.ok.kind hg (Calls.loadGlobal_global (by rw[I.ok.glob];exact I.mod.glob.keeps I.bk) hm h) hd
theorem jW {E:Value->Shared->Prop}{pins:List (Addr×Obj)}{s:Shared}{σ:St}{H:Hp}{x:Str}{u:Value}{pos:Pos}{Q:Value->Shared->Prop} (I:Inv X pins σ H s) (hg:Gl X x) (hm:X.mg x=none) (hv:bootBuiltins x=some u) (h:Q u s)
  (hn:x ≠ "__name__" := by decide) (hd:(x == ("__debug__" : Str))=false:=by decide):wpAny (model X.prog X.w) X.A (eval (.Name x pos) X.env) Q E s:=by
 obtain⟨mb,h1,h2⟩:=I.mod.blt;exact Calls.Name_function_global I.ok.kind hg (Calls.loadGlobal_builtin (by rw[I.ok.glob];exact I.mod.glob.keeps I.bk) hm (by rw[I.ok.blt];exact h1.keeps I.bk) ((h2 x hn).trans hv) h) hd
theorem uL {x:Str}{v:V}{u:Value}{pos:Pos} (hg:Gl X x) (hm:X.mg x=some u) (r:bD v u) (hd:(x == ("__debug__" : Str))=false:=by decide):PE X (.Name x pos) (tC v):=
 λ _ _ _ H _ I h=>gU I hg hm ⟨v,H,I,r,h⟩ hd
theorem bG {x:Str}{v:V}{u:Value}{pos:Pos} (hg:Gl X x) (hm:X.mg x=none) (hv:bootBuiltins x=some u) (r:bD v u) (hn:x ≠ "__name__" := by decide) (hd:(x == ("__debug__" : Str))=false:=by decide):PE X (.Name x pos) (tC v):=
 λ _ _ _ H _ I h=>jW I hg hm hv ⟨v,H,I,r,h⟩ hn hd
variable {a b:Expr}{ta tb:TE}{pos:Pos}
def tB (t:TE):TT:=λ σ H Q=>t σ H λ x H1=>∃ c,x=.bl c/\Q c H1
theorem aX {e:Expr}{t:TE} (h:PE X e t) (he:∀ whole,isTrue e X.env whole=(do let v <- whole;standAt e.pos;holding [v] (truthy v)):=by intro _;rfl):PT X e (tB t):=by
 intro pins s σ H Q I hw;refine isTrue_plain (cH (h pins s σ H _ I hw) λ v s1 ⟨x,H1,I1,r1,q1⟩=>?_) (he _);obtain⟨d,rfl,q⟩:=q1;cases r1;exact wpAny_truthy_bool ⟨H1,I1,q⟩
variable {tA tB':TT}{rest:List Expr}
def tAnd (t u:TT):TT:=λ σ H Q=>t σ H λ c H1=>if c=true then u σ H1 Q else Q false H1
def tOr (t u:TT):TT:=λ σ H Q=>t σ H λ c H1=>if c=true then Q true H1 else u σ H1 Q
def tNot (t:TT):TT:=λ σ H Q=>t σ H λ c H1=>Q (!c) H1
theorem dJ (ha:PT X a tA):PW X (.BoolOp .And [a] pos) tA:=by
 intro wh pins s σ H Q I h;refine isTrue_and (cH (ha pins s σ H Q I h) λ c s1 e=>?_);cases c with
 | true=>exact isTrue_and_nil e
 | false=>exact e
theorem cI (ha:PT X a tA):PW X (.BoolOp .Or [a] pos) tA:=by
 intro wh pins s σ H Q I h;refine isTrue_or (cH (ha pins s σ H Q I h) λ c s1 e=>?_);cases c with
 | false=>exact isTrue_or_nil e
 | true=>exact e
theorem dP (ha:PT X a tA) (hb:PW X (.BoolOp .And (b::rest) pos) tB'):PW X (.BoolOp .And (a::b::rest) pos) (tAnd tA tB'):=by
 intro wh pins s σ H Q I h;refine isTrue_and (cH (ha pins s σ H _ I h) λ c s1 ⟨H1,I1,q1⟩=>?_);cases c with
 | true=>exact hb wh pins s1 σ H1 Q I1 q1
 | false=>exact⟨H1,I1,q1⟩
theorem cM (ha:PT X a tA) (hb:PW X (.BoolOp .Or (b::rest) pos) tB'):PW X (.BoolOp .Or (a::b::rest) pos) (tOr tA tB'):=by
 intro wh pins s σ H Q I h;refine isTrue_or (cH (ha pins s σ H _ I h) λ c s1 ⟨H1,I1,q1⟩=>?_);cases c with
 | true=>exact⟨H1,I1,q1⟩
 | false=>exact hb wh pins s1 σ H1 Q I1 q1
theorem bC (ha:PT X a tA):PT X (.UnaryOp .Not a pos) (tNot tA):=by
 intro pins s σ H Q I h;exact isTrue_not (ha pins s σ H (λ c H1=>Q (!c) H1) I h)
def y4 (ta tb:TE):TE:=λ σ H Q=>ta σ H λ x H1=>∃ c,x=.bl c/\if c=true then tb σ H1 Q else Q (.bl false) H1
def tOrV (ta tb:TE):TE:=λ σ H Q=>ta σ H λ x H1=>∃ c,x=.bl c/\if c=true then Q (.bl true) H1 else tb σ H1 Q
def vP (ta:TE):TE:=λ σ H Q=>ta σ H λ x H1=>∃ c,x=.bl c/\Q (.bl (!c)) H1
theorem dR {op}{t:TE} (h:PE X a t):PE X (.BoolOp op [a] pos) t:=λ pins s σ H Q I hw=>BoolOp_one (h pins s σ H Q I hw)
theorem cT (ha:PE X a ta) (hb:PE X (.BoolOp .And (b::rest) pos) tb):PE X (.BoolOp .And (a::b::rest) pos) (y4 ta tb):=by
 intro pins s σ H Q I h;refine BoolOp_and (cH (ha pins s σ H _ I h) λ v s1 ⟨x,H1,I1,r1,q1⟩=>?_);obtain⟨c,rfl,q1⟩:=q1;cases r1;refine wpAny_truthy_bool ?_;cases c with
 | true=>exact hb pins s1 σ H1 Q I1 q1
 | false=>exact⟨.bl false,H1,I1,rfl,q1⟩
theorem sL (ha:PE X a ta) (hb:PE X (.BoolOp .Or (b::rest) pos) tb):PE X (.BoolOp .Or (a::b::rest) pos) (tOrV ta tb):=by
 intro pins s σ H Q I h;refine BoolOp_or (cH (ha pins s σ H _ I h) λ v s1 ⟨x,H1,I1,r1,q1⟩=>?_);obtain⟨c,rfl,q1⟩:=q1;cases r1;refine wpAny_truthy_bool ?_;cases c with
 | false=>exact hb pins s1 σ H1 Q I1 q1
 | true=>exact⟨.bl true,H1,I1,rfl,q1⟩
theorem oN (ha:PE X a ta):PE X (.UnaryOp .Not a pos) (vP ta):=by
 intro pins s σ H Q I h;refine UnaryOp_ (cH (ha pins s σ H _ I h) λ v s1 ⟨x,H1,I1,r1,q1⟩=>?_);obtain⟨c,rfl,q1⟩:=q1;cases r1;exact not_of (wpAny_truthy_bool ⟨.bl (!c),H1,I1,rfl,q1⟩)
end
def cG (K:aaa) (H:Hp) (a:Addr) (xs:List V):Prop:=
 Rd H a (.lst xs)\/
  ∃ (o:Obj) (its:Array Value) (n:Nat),K.lookup a=some o/\o.cls=.type "list" /\ o.dict=none/\o.data=.seq its n/\its.size<=sizeLine/\aY xs its.toList
def bU (K:aaa) (H:Hp) (a:Addr) (xs:List V):Prop:=
 Rd H a (.tup xs)\/
  ∃ (o:Obj) (its:Array Value) (n:Nat),K.lookup a=some o/\o.cls=.type "tuple" /\ o.data=.seq its n/\its.size<=sizeLine/\aY xs its.toList
def absV:Value->Option V
 | .none=>some .non
 | .bool b=>some (.bl b)
 | .int i _=>some (.int i)
 | .str x _=>some (.str x)
 | .bytes b _=>some (.byt b)
 | .float b _=>some (.flt b)
 | .ref a=>some (.ref a)
 | .type n=>some (.ty n)
 | _=>none
theorem bD.abs {x:V}{u:Value} (r:bD x u):absV u=some x:=by
 cases x with
 | non=>cases r;rfl
 | bl _=>cases r;rfl
 | int _=>obtain⟨t,rfl⟩:=r;rfl
 | str _=>obtain⟨t,rfl⟩:=r;rfl
 | byt _=>obtain⟨t,rfl⟩:=r;rfl
 | flt _=>obtain⟨t,rfl⟩:=r;rfl
 | ref _=>cases r;rfl
 | ty _=>cases r;rfl
theorem bD.inj {x y:V}{u:Value} (r:bD x u) (q:bD y u):x=y:=aav (r.abs.symm.trans q.abs)
theorem aY.inj:∀ {xs ys:List V}{us:List Value},aY xs us->aY ys us->xs=ys
 | _,_,_,.nil,.nil=>rfl
 | _,_,_,.cons r t,.cons r' t'=>by rw[r.inj r',aY.inj t t']
section
variable {X:Cx}{pins:List (Addr×Obj)}{σ:St}{H:Hp}{s:Shared}{a:Addr}{xs ys:List V}
theorem cG.of {K:aaa} (h:H a=some (.lst xs)):cG K H a xs:=.inl (.inl h)
theorem bU.of {K:aaa} (h:H a=some (.tup xs)):bU K H a xs:=.inl (.inl h)
theorem Inv.list (I:Inv X pins σ H s) (h:cG X.K H a xs):∃ its:List Value,aY xs its/\PlainL s.heap a its.toArray/\xs.length<=sizeLine:=by
 rcases h with h | ⟨o,its,n,hk,hc,hd,hs,hz,r⟩
 ·obtain⟨z,its,n,r,e⟩:=h.ok I.hok;exact⟨its,r,⟨_,n,e,rfl,rfl,rfl⟩,z⟩
 ·refine⟨its.toList,r,⟨o,n,I.kIn a o hk,hc,hd,by simpa using hs⟩,?_⟩;have e:=r.length;simp only [Array.length_toList] at e;omega
theorem Inv.tuple (I:Inv X pins σ H s) (h:bU X.K H a xs):∃ its:List Value,aY xs its/\IsTup s.heap a its.toArray/\xs.length<=sizeLine:=by
 rcases h with h | ⟨o,its,n,hk,hc,hs,hz,r⟩
 ·obtain⟨z,its,r,p⟩:=h.ok I.hok;exact⟨its,r,p,z⟩
 ·refine⟨its.toList,r,⟨o,I.kIn a o hk,hc,n,by simpa using hs⟩,?_⟩;have e:=r.length;simp only [Array.length_toList] at e;omega
theorem Inv.list_inj (I:Inv X pins σ H s) (h:cG X.K H a xs) (h':cG X.K H a ys):xs=ys:=by
 obtain⟨its,r,⟨o,n,e,_,_,d⟩,_⟩:=I.list h;obtain⟨its',r',⟨o',n',e',_,_,d'⟩,_⟩:=I.list h';rw[e] at e';cases e';rw[d] at d';injection d' with d1 _;have:its=its':=by simpa using congrArg Array.toList d1
 subst this;exact r.inj r'
theorem Inv.tuple_inj (I:Inv X pins σ H s) (h:bU X.K H a xs) (h':bU X.K H a ys):xs=ys:=by
 obtain⟨its,r,⟨o,e,_,n,d⟩,_⟩:=I.tuple h;obtain⟨its',r',⟨o',e',_,n',d'⟩,_⟩:=I.tuple h';rw[e] at e';cases e';rw[d] at d';injection d' with d1 _;have:its=its':=by simpa using congrArg Array.toList d1
 subst this;exact r.inj r'
end
abbrev Cx.wish (X:Cx) (E:Value->Shared->Prop):Cx:={ X with xe:=E }
abbrev Cx.nox (X:Cx):Cx:=X.wish λ _ _=>False
theorem Cx.Ok.wish {X:Cx} (ok:X.Ok) (E:Value->Shared->Prop):(X.wish E).Ok:=
 ⟨ok.mod,ok.kind,ok.glob,ok.blt,ok.above,ok.inj,ok.has,ok.cab,ok.hd,ok.frames,ok.stk,ok.exf,ok.bs,ok.bsz,ok.noex,ok.exfs,ok.funs,ok.frf⟩
theorem Cx.Ok.unwish {X:Cx}{E:Value->Shared->Prop} (ok:(X.wish E).Ok):X.Ok:=
 ⟨ok.mod,ok.kind,ok.glob,ok.blt,ok.above,ok.inj,ok.has,ok.cab,ok.hd,ok.frames,ok.stk,ok.exf,ok.bs,ok.bsz,ok.noex,ok.exfs,ok.funs,ok.frf⟩
section
variable {X:Cx}{pins:List (Addr×Obj)}{σ:St}{H:Hp}{s:Shared}{E:Value->Shared->Prop}
theorem Inv.wish (I:Inv X pins σ H s) (E:Value->Shared->Prop):Inv (X.wish E) pins σ H s:=⟨I.ok.wish E,I.os,I.bare,I.base,I.loc,I.cell,I.free,I.freeC,I.pin,I.hok,I.len⟩
theorem Inv.unwish (I:Inv (X.wish E) pins σ H s):Inv X pins σ H s:=⟨I.ok.unwish,I.os,I.bare,I.base,I.loc,I.cell,I.free,I.freeC,I.pin,I.hok,I.len⟩
theorem SP.unwish {D:Ends}{f:Flow}{s':Shared} (h:SP (X.wish E) pins D f s'):SP X pins D f s':=by
 cases f with
 | next=>obtain⟨aa,H',I,q⟩:=h;exact⟨aa,H',I.unwish,q⟩
 | brk=>obtain⟨aa,H',I,q⟩:=h;exact⟨aa,H',I.unwish,q⟩
 | cont=>obtain⟨aa,H',I,q⟩:=h;exact⟨aa,H',I.unwish,q⟩
 | ret u=>obtain⟨v,aa,H',I,r,q⟩:=h;exact⟨v,aa,H',I.unwish,r,q⟩
theorem nY.nox {st:List Stmt}{t:TS} (h:nY X.nox st t):nY X st t:=λ pins s σ H D I hw=>
 aba (h pins s σ H D (I.wish _) hw) (λ _ _ q=>q.unwish) λ _ _ z=>False.elim z
end
section
variable {X:Cx}{st:Stmt}{rest:List Stmt}{t u:TS}{e:Expr}{te:TE}{pos:Pos}
def pO:TS:=λ D σ H=>D.nx σ H
def fY (t u:TS):TS:=λ D σ H=>t { D with nx:=u D } σ H
theorem aP:nY X [] pO:=λ _ _ σ H _ I h=>wpAny_execs_nil ⟨σ,H,I,h⟩
theorem aE (h1:PS X st t) (h2:nY X rest u):nY X (st::rest) (fY t u):=by
 intro pins s σ H D I h;refine wpAny_execs_cons (cH (h1 pins s σ H { D with nx:=u D } I h) λ f s1 q=>?_);cases f with
 | next=>
  obtain⟨aa,H',I',q⟩:=q;exact h2 pins s1 aa H' D I' q
 | ret v=>exact q
 | brk=>exact q
 | cont=>exact q
theorem aG (h1:PS X st t):nY X [st] t:=by
 intro pins s σ H D I h;refine wpAny_execs_cons (cH (h1 pins s σ H D I h) λ f s1 q=>?_);cases f with
 | next=>exact wpAny_execs_nil q
 | ret v=>exact q
 | brk=>exact q
 | cont=>exact q
theorem Inv.quiet {pins:List (Addr×Obj)}{σ:St}{H:Hp}{s:Shared} (I:Inv X pins σ H s):interactive X.env=false:=by simp [interactive,I.ok.kind]
def y3 (te:TE):TS:=λ D σ H=>te σ H λ _ H1=>D.nx σ H1
theorem gM (he:PE X e te) (hs:swapsWith e none pos.line X.env=pure false:=by rfl):PS X (.Expr e pos) (y3 te):=by
 intro pins s σ H D I h;exact wpAny_Expr_any (cH (he pins s σ H _ I h) λ v s1 ⟨x,H1,I1,r1,q1⟩=>⟨σ,H1,I1,q1⟩) I.quiet hs
def wD (te:TE):TS:=λ D σ H=>te σ H D.rt
theorem aM (he:PE X e te):PS X (.Return (some e) pos) (wD te):=by
 intro pins s σ H D I h;exact wpAny_Return_some (cH (he pins s σ H _ I h) λ v s1 ⟨x,H1,I1,r1,q1⟩=>⟨x,σ,H1,I1,r1,q1⟩)
def rR (c:TT) (t u:TS):TS:=λ D σ H=>c σ H λ b H1=>if b=true then t D σ H1 else u D σ H1
theorem bI {c:Expr}{a b:List Stmt}{tc:TT} (hc:PT X c tc) (ha:nY X a t) (hb:nY X b u):PS X (.If c a b pos) (rR tc t u):=by
 intro pins s σ H D I h;refine wpAny_If (cH (hc pins s σ H _ I h) λ d s1 ⟨H1,I1,q1⟩=>?_);cases d with
 | true=>exact ha pins s1 σ H1 D I1 q1
 | false=>exact hb pins s1 σ H1 D I1 q1
end
abbrev TG:=V->St->Hp->(St->Hp->Prop)->Prop
abbrev w6:=List V->St->Hp->(St->Hp->Prop)->Prop
def PG (X:Cx) (target:Expr) (t:TG):Prop:=
 ∀ (pins:List (Addr×Obj)) (s:Shared) (σ:St) (H:Hp) (v:V) (u:Value) (Q:St->Hp->Prop),Inv X pins σ H s->bD v u->t v σ H Q->
  wpAny (model X.prog X.w) X.A (assign target X.env u) (λ _ s'=>∃ aa H',Inv X pins aa H' s'/\Q aa H') X.xe s
def zB (X:Cx) (ts:List Expr) (t:w6):Prop:=
 ∀ (pins:List (Addr×Obj)) (s:Shared) (σ:St) (H:Hp) (vs:List V) (us:List Value) (Q:St->Hp->Prop),Inv X pins σ H s->aY vs us->t vs σ H Q->
  wpAny (model X.prog X.w) X.A (assignInOrder ((assignEach ts X.env).map (·.2)) us) (λ _ s'=>∃ aa H',Inv X pins aa H' s'/\Q aa H') X.xe s
abbrev xS:=V->V->V->Hp->(Hp->Prop)->Prop
def yZ (X:Cx) (t:xS):Prop:=
 ∀ (pins:List (Addr×Obj)) (s:Shared) (σ:St) (H:Hp) (o i v:V) (ov iv u:Value) (Q:Hp->Prop),Inv X pins σ H s->bD o ov->bD i iv->bD v u->t o i v H Q->
  wpAny (model X.prog X.w) X.A (setItem ov iv u) (λ _ s'=>∃ H',Inv X pins σ H' s'/\Q H') X.xe s
section
variable {X:Cx}{pos:Pos}
def cC (i:Nat):TG:=λ v σ H Q=>Q (σ.set i (some v)) H
theorem lT {i:Nat}{x:Str} (hN:X.N.Nodup) (hi:X.N[i]? = some x) (hx:xU X.env.scope x) (hf:X.fn x=true\/X.env.scope.names.lookup x=some .local:=by first | exact .inl rfl | exact .inr rfl | assumption):PG X (.Name x pos) (cC i):=by
 intro pins s σ H v u Q I r h;exact wpAny_assign_Name (jF I hN hi hx r (λ s' I'=>⟨_,H,I',h⟩) hf)
def gNil:w6:=λ vs σ H Q=>vs=[]/\Q σ H
def yU (t:TG) (u:w6):w6:=λ vs σ H Q=>∃ v r,vs=v::r/\t v σ H λ aa H'=>u r aa H' Q
theorem cP:zB X [] gNil:=by
 intro pins s σ H vs us Q I r h;obtain⟨e,h⟩:=h;subst e;cases r;exact assignInOrder_nil ⟨σ,H,I,h⟩
theorem aT {e:Expr}{es:List Expr}{t:TG}{u:w6} (h1:PG X e t) (h2:zB X es u)
  (hs:(assignEach (e::es) X.env).map (·.2)=assign e X.env::(assignEach es X.env).map (·.2):=by rfl):zB X (e::es) (yU t u):=by
 intro pins s σ H vs us Q I r h;obtain⟨v,vr,e1,h⟩:=h;subst e1;cases r with
 | cons r rr=>
  rw[hs];refine assignInOrder_cons (cH (h1 pins s σ H _ _ _ I r h) λ _ s1 ⟨bu,H1,I1,q1⟩=>?_);exact h2 pins s1 bu H1 _ _ Q I1 rr q1
def yT (K:aaa) (n:Nat) (t:w6):TG:=λ v σ H Q=>∃ a xs,v=.ref a/\bU K H a xs/\xs.length=n/\t xs σ H Q
theorem wU {es:List Expr}{k:Nat}{t:w6}{n:Nat} (hc:X.calm=true) (h:zB X es t)
  (hn:(assignEach es X.env).length=n:=by rfl) (hst:(assignEach es X.env).findIdx? (·.1)=none:=by rfl):PG X (.Tuple es k pos) (yT X.K n t):=by
 intro pins s σ H v u Q I r hw;obtain⟨a,xs,e1,hq,hl,hw⟩:=hw;subst e1;cases r;obtain⟨its,rv,ht,hz⟩:=I.tuple hq;refine assign_Tuple_tuple (I.ok.hd hc) ht (by simp [hn,<- hl,rv.length]) hst λ h' hx=>?_;have I1:Inv X pins σ H { s with heap:=h' }:=I.kept (t':=s.toks) λ b o e=>hx b o (aar (aal e)) e;exact h pins _ σ H xs _ Q I1 (by simpa using rv) hw
def vC (to ti:TE) (t:xS):TG:=λ v σ H Q=>to σ H λ o H1=>ti σ H1 λ i H2=>t o i v H2 λ H3=>Q σ H3
theorem oM {o i:Expr}{to ti:TE}{t:xS} (ho:PE X o to) (hi:PE X i ti) (hs:yZ X t)
  (ha:∀ v,assign (.Subscript o i pos) X.env v=(do
   let ov <- holding [v] (eval o X.env);let iv <- holding [v,ov] (eval i X.env)
   standAt pos
   holding [v,ov,iv] (setItem ov iv v)
   release [v,ov,iv] []):=by intro _;rfl):PG X (.Subscript o i pos) (vC to ti t):=by
 intro pins s σ H v u Q I r h;rw[ha];refine aab (abq (cH (ho pins s σ H _ I h) λ ov s1 ⟨x,H1,I1,r1,q1⟩=>?_));refine aab (abq (cH (hi pins s1 σ H1 _ I1 q1) λ iv s2 ⟨y,H2,I2,r2,q2⟩=>?_));refine aab (wpAny_standAt (aab (abq (cH (hs pins s2 σ H2 x y v ov iv u _ I2 r1 r2 r q2) λ _ s3 ⟨H3,I3,q3⟩=>?_))));exact wpAny_release ⟨σ,H3,I3,q3⟩
def eP (te:TE) (g:TG):TS:=λ D σ H=>te σ H λ x H1=>g x σ H1 D.nx
theorem dQ {tg e:Expr}{te:TE}{g:TG} (he:PE X e te) (hg:PG X tg g) (hs:swapsWithSole [tg] e pos.line X.env=pure false:=by rfl) (hw:swappedStores [tg] e X.env=pure none:=by rfl)
  (h1:(assignEach [tg] X.env).map (·.2)=[assign tg X.env]:=by rfl):PS X (.Assign [tg] e pos) (eP te g):=by
 intro pins s σ H D I h;refine wpAny_Assign_stores (cH (he pins s σ H _ I h) λ v s1 ⟨x,H1,I1,r1,q1⟩=>?_) hs hw;rw[h1];exact cH (hg pins s1 σ H1 x v _ I1 r1 q1) λ _ s2 q=>q
theorem oJ {i:Nat}{x:Str}{e:Expr}{te:TE}{pos':Pos} (hN:X.N.Nodup) (hi:X.N[i]? = some x) (hx:xU X.env.scope x) (he:PE X e te) (hs:swapsWith e (some (.Name x pos')) pos.line X.env=pure false:=by rfl) (hf:X.fn x=true\/X.env.scope.names.lookup x=some .local:=by first | exact .inl rfl | exact .inr rfl | assumption) :
  PS X (.Assign [.Name x pos'] e pos) (eP te (cC i)):=by
 intro pins s σ H D I h;refine wpAny_Assign_Name (cH (he pins s σ H _ I h) λ v s1 ⟨y,H1,I1,r1,q1⟩=>?_) hs;exact jF I1 hN hi hx r1 (λ s2 I2=>⟨_,H1,I2,q1⟩) hf
def wC (c:TT) (tb:TS):TS:=λ D σ H=>∃ W:Nat->St->Hp->Prop,(∃ m,W m σ H)/\∀ m σ H,W m σ H->
 c σ H λ b H1=>if b=true then ∃ N:St->Hp->Prop,(∀ aa H',N aa H'->∃ m',m' < m/\W m' aa H')/\tb { D with nx:=N,ct:=N,bk:=D.nx } σ H1 else D.nx σ H1
theorem sF {c:Expr}{body:List Stmt}{tc:TT}{tb:TS} (hp:PassesOwn (model X.prog X.w) X.A X.env X.xe) (hc:PT X c tc) (hb:nY X body tb):PS X (.While c body [] pos) (wC tc tb):=by
 intro pins s σ H D I h;obtain⟨W,⟨m0,w0⟩,turn⟩:=h;refine wpAny_While (codeAny_whileLoop (λ n s'=>∃ aa H',Inv X pins aa H' s'/\W n aa H') ?_ m0 ⟨σ,H,I,w0⟩);rintro n s1 ⟨bu,H1,I1,w1⟩;refine wpAny_passesOwn hp (cH (hc pins s1 bu H1 _ I1 (turn n bu H1 w1)) λ b s2 ⟨H2,I2,q2⟩=>?_);cases b with
 | true=>
  obtain⟨N,hN,q2⟩:=q2;rw[if_pos rfl];refine wpAny_passesOwn hp (cH (hb pins s2 bu H2 _ I2 q2) λ f s3 q3=>?_);cases f with
  | next=>
   obtain⟨ae,H3,I3,n3⟩:=q3;obtain⟨m',hm,w3⟩:=hN ae H3 n3;exact⟨m',hm,ae,H3,I3,w3⟩
  | cont=>
   obtain⟨ae,H3,I3,n3⟩:=q3;obtain⟨m',hm,w3⟩:=hN ae H3 n3;exact⟨m',hm,ae,H3,I3,w3⟩
  | brk=>exact q3
  | ret v=>exact q3
 | false=>
  rw[if_neg aag];exact wpAny_execs_nil ⟨bu,H2,I2,q2⟩
end
structure It where
 go:Nat->Hp->Prop
 yld:Nat->Hp->V->Hp->Prop
 stop:Nat->Hp->Prop
def g9 (X:Cx) (pins:List (Addr×Obj)) (H:Hp) (b:Addr):Prop:=
 H b=none/\b≠X.env.locals/\b∉X.fs/\(b∈X.ex\/X.s₀.heap.objs.size<=b)/\(∀ x c,X.env.cells.lookup x=some c->c≠b)/\∀ p∈X.pn++pins,p.1≠b
theorem Inv.fpOk {X:Cx}{pins:List (Addr×Obj)}{σ:St}{H H':Hp}{s:Shared}{b:Addr} (I:Inv X pins σ H s) (hb:s.heap.objs.size<=b) (hn:H' b=none):g9 X pins H' b:=by
 refine⟨hn,Nat.ne_of_gt (aak I.lt hb),I.nofs hb,.inr (abl I.sz hb),λ x c e z=>?_,λ p hp z=>?_⟩
 ·obtain⟨v,q⟩:=I.cell x c e;exact absurd (aak q.lt (by rw[z];exact hb)) (abn _)
 ·exact absurd (aak (aal (I.pin p hp).1) (by rw[z];exact hb)) (abn _)
structure Turn (P:Program) (w:World) (K:aaa) (tg:Expr) (J:It) (fp:List Addr) (it:Addr) (tn:Nat->Heap->Prop):Prop where
 mem:it∈fp
 obj:∀ i h,tn i h->∀ b∈fp,∃ o,h.get? b=some o/\∀ v,o.data≠.cell v
 keep:∀ i h h',tn i h->(∀ b∈fp,∀ o,h.get? b=some o->h'.get? b=some o)->tn i h'
 item:∀ (X:Cx),X.prog=P->X.w=w->X.K=K->X.calm=true->∀ (i:Nat) (pins:List (Addr×Obj)) (s:Shared) (σ:St) (H:Hp) (E:Value->Shared->Prop),Inv X pins σ H s->(∀ b∈fp,g9 X pins H b)->tn i s.heap->J.go i H->
  wpAny (model P w) X.A (pyNext (.ref it)) (λ r s1=>∃ u,r=some u/\
   wpAny (model P w) X.A (letOwnedTupleGo tg (.ref it) u) (λ _ s2=>∃ x H',Inv X pins σ H' s2/\bD x u/\J.yld i H x H'/\tn (i+1) s2.heap/\∀ b∈fp,H' b=none) E s1) E s
 done:∀ (X:Cx),X.prog=P->X.w=w->X.K=K->X.calm=true->∀ (i:Nat) (pins:List (Addr×Obj)) (s:Shared) (σ:St) (H:Hp) (E:Value->Shared->Prop),Inv X pins σ H s->(∀ b∈fp,g9 X pins H b)->tn i s.heap->J.stop i H->
  wpAny (model P w) X.A (pyNext (.ref it)) (λ r s1=>r=none/\Inv X pins σ H s1) E s
 self:∀ (A:Around) (i:Nat) (s:Shared) (Q:Value->Shared->Prop) (E:Value->Shared->Prop),tn i s.heap->Q (.ref it) s->wpAny (model P w) A (pyIter (.ref it)) Q E s
abbrev TI:=St->Hp->(It->Hp->Prop)->Prop
def PIE (X:Cx) (pins:List (Addr×Obj)) (σ:St) (tg:Expr) (R:It->Hp->Prop) (itv:Value) (s2:Shared):Prop:=
 ∃ (it:Addr) (fp:List Addr) (tn:Nat->Heap->Prop) (J:It) (H':Hp),itv=.ref it/\Inv X pins σ H' s2/\Turn X.prog X.w X.K tg J fp it tn/\tn 0 s2.heap/\(∀ b∈fp,g9 X pins H' b)/\R J H'
def PI (X:Cx) (tg iter:Expr) (wi:TI):Prop:=
 ∀ (pins:List (Addr×Obj)) (s:Shared) (σ:St) (H:Hp) (R:It->Hp->Prop),Inv X pins σ H s->wi σ H R->
  wpAny (model X.prog X.w) X.A (eval iter X.env) (λ v s1=>wpAny (model X.prog X.w) X.A (pyIter v) (PIE X pins σ tg R) X.xe s1) X.xe s
theorem tO {M:Model}{A:Around}{E:Value->Shared->Prop}{s:Shared}{tg:Expr}{it:Addr}{u:Value}{o:Obj}{n:String}{vs:Array Value}{Q:Unit->Shared->Prop} (ho:s.heap.get? it=some o) (hc:o.cls=.type n) (hd:o.data=.fields vs)
  (hn:["enumerate","zip","dict_itemiterator","dict_reverseitemiterator","odict_iterator","itertools.zip_longest","itertools.pairwise"].contains n=false) (hQ:Q () s):wpAny M A (letOwnedTupleGo tg (.ref it) u) Q E s:=by
 unfold letOwnedTupleGo;cases tg <;> first
  | exact aah hQ
  | (cases u <;> first
    | exact aah hQ
    | (refine aab (wpAny_load ho ?_)
       rw[hc,hd];show wpAny M A (if (["enumerate","zip","dict_itemiterator","dict_reverseitemiterator","odict_iterator","itertools.zip_longest","itertools.pairwise"].contains n && vs[0]? == some (rawInt _))=true then _ else _) Q E s;rw[if_neg (by intro h;rw[hn,Bool.false_and] at h;cases h)];exact aah hQ))
def zC (K:aaa) (a:Addr):It:=
 ⟨λ i H=>∃ xs x,cG K H a xs/\xs[i]? = some x,λ i H x H'=>H'=H/\∀ xs,cG K H a xs->xs[i]? = some x,λ i H=>∃ xs,cG K H a xs/\xs.length<=i⟩
def xV (K:aaa) (a:Addr):It:=
 ⟨λ i H=>∃ xs x,bU K H a xs/\xs[i]? = some x,λ i H x H'=>H'=H/\∀ xs,bU K H a xs->xs[i]? = some x,λ i H=>∃ xs,bU K H a xs/\xs.length<=i⟩
def xW (lo:Int) (n:Nat):It:=⟨λ i _=>i < n,λ i H x H'=>H'=H/\x=.int (lo+i),λ i _=>n<=i⟩
theorem qN {P:Program}{w:World}{K:aaa}{tg:Expr} (a it:Addr):Turn P w K tg (zC K a) [it] it (λ i h=>h.IsListIter it a i) where
 mem:=by simp
 obj:=λ i h st b hb=>by
  have e:b=it:=by simpa using hb
  subst e;obtain⟨o,e,c,d⟩:=st;exact⟨o,e,λ v z=>by rw[d] at z;cases z⟩
 keep:=λ i h h' st k=>st.at λ o e=>k it (by simp) o e
 item:=by
  intro X hP hw hK hc i pins s σ H E I hf st hg;subst hP hw hK;obtain⟨xs,x,hq,hx⟩:=hg;obtain⟨its,rv,p,hz⟩:=I.list hq;obtain⟨u,hu,ru⟩:=rv.get hx;obtain⟨f0,f1,f2,f3,f4,f5⟩:=hf it (by simp);refine wpAny_pyNext_list_item st p.isList (x:=u) (by simpa using hu) λ h' st' sb=>?_;have I1:Inv X pins σ H { s with heap:=h' }:=I.turned (t':=s.toks) (λ b o hb e=>(sb.2 b hb).trans e) f0 f1 f3 f4 f5;obtain⟨o,e,c,d⟩:=id st';exact⟨u,rfl,tO (s:={ s with heap:=h' }) e c d (by decide) ⟨x,H,I1,ru,⟨rfl,λ ys hy=>by rw[I.list_inj hy hq];exact hx⟩,st',λ b hb=>(hf b hb).1⟩⟩
 done:=by
  intro X hP hw hK hc i pins s σ H E I hf st hg;subst hP hw hK;obtain⟨xs,hq,hx⟩:=hg;obtain⟨its,rv,p,hz⟩:=I.list hq;obtain⟨f0,f1,f2,f3,f4,f5⟩:=hf it (by simp);have hl:=rv.length;exact wpAny_pyNext_list_end (I.ok.hd hc) st p.isList (by simp;omega) λ h' eb=>⟨rfl,I.turned (t':=s.toks) (λ b o hb e=>eb b o hb e) f0 f1 f3 f4 f5⟩
 self:=λ _ _ _ _ _ st h=>wpAny_pyIter_listiter st h
theorem o4 {P:Program}{w:World}{K:aaa}{tg:Expr} (a it:Addr):Turn P w K tg (xV K a) [it] it (λ i h=>h.IsTupleIter it a i) where
 mem:=by simp
 obj:=λ i h st b hb=>by
  have e:b=it:=by simpa using hb
  subst e;obtain⟨o,e,c,d⟩:=st;exact⟨o,e,λ v z=>by rw[d] at z;cases z⟩
 keep:=λ i h h' st k=>st.at λ o e=>k it (by simp) o e
 item:=by
  intro X hP hw hK hc i pins s σ H E I hf st hg;subst hP hw hK;obtain⟨xs,x,hq,hx⟩:=hg;obtain⟨its,rv,p,hz⟩:=I.tuple hq;obtain⟨u,hu,ru⟩:=rv.get hx;obtain⟨f0,f1,f2,f3,f4,f5⟩:=hf it (by simp);refine wpAny_pyNext_tuple_item st (show s.heap.IsTuple a its.toArray from p) (x:=u) (by simpa using hu) λ h' st' sb=>?_;have I1:Inv X pins σ H { s with heap:=h' }:=I.turned (t':=s.toks) (λ b o hb e=>(sb.2 b hb).trans e) f0 f1 f3 f4 f5;obtain⟨o,e,c,d⟩:=id st';exact⟨u,rfl,tO (s:={ s with heap:=h' }) e c d (by decide) ⟨x,H,I1,ru,⟨rfl,λ ys hy=>by rw[I.tuple_inj hy hq];exact hx⟩,st',λ b hb=>(hf b hb).1⟩⟩
 done:=by
  intro X hP hw hK hc i pins s σ H E I hf st hg;subst hP hw hK;obtain⟨xs,hq,hx⟩:=hg;obtain⟨its,rv,p,hz⟩:=I.tuple hq;obtain⟨f0,f1,f2,f3,f4,f5⟩:=hf it (by simp);have hl:=rv.length;exact wpAny_pyNext_tuple_end (I.ok.hd hc) st (show s.heap.IsTuple a its.toArray from p) (by simp;omega) λ h' eb=>⟨rfl,I.turned (t':=s.toks) (λ b o hb e=>eb b o hb e) f0 f1 f3 f4 f5⟩
 self:=λ _ _ _ _ _ st h=>wpAny_pyIter_tupleiter st h
theorem o5 {P:Program}{w:World}{K:aaa}{tg:Expr} (it:Addr) (lo:Int) (n:Nat):Turn P w K tg (xW lo n) [it] it (λ i h=>IsRangeIter h it (lo+(i:Nat) * 1) ((n:Int) - (i:Nat)) 1) where
 mem:=by simp
 obj:=λ i h st b hb=>by
  have e:b=it:=by simpa using hb
  subst e;exact⟨_,st,λ v z=>by
   have z':Data.fields _=Data.cell v:=z;cases z'⟩
 keep:=λ i h h' st k=>k it (by simp) _ st
 item:=by
  intro X hP hw hK hc i pins s σ H E I hf st hg;subst hP hw hK;obtain⟨f0,f1,f2,f3,f4,f5⟩:=hf it (by simp);have W:=Walks.range (prog:=X.prog) (w:=X.w) (I.ok.hd hc) it lo 1 n;refine W.item i s _ _ hg st λ v h' tk hv st' kk=>?_;obtain⟨t,rfl⟩:=hv;have I1:Inv X pins σ H { s with heap:=h',toks:=tk }:=I.turned (λ b o hb e=>kk b o (by simpa using hb) e) f0 f1 f3 f4 f5;refine⟨_,rfl,tO (s:={ s with heap:=h',toks:=tk }) (n := "range_iterator") st' rfl rfl (by decide) ⟨.int (lo+i),H,I1,⟨t,?_⟩,⟨rfl,rfl⟩,st',λ b hb=>(hf b hb).1⟩⟩;rw[Int.mul_one]
 done:=by
  intro X hP hw hK hc i pins s σ H E I hf st hg;subst hP hw hK;obtain⟨f0,f1,f2,f3,f4,f5⟩:=hf it (by simp);exact wpAny_pyNext_range_end (I.ok.hd hc) st (by have:n<=i:=hg;omega) λ h' eb=>⟨rfl,I.turned (t':=s.toks) (λ b o hb e=>eb b o hb e) f0 f1 f3 f4 f5⟩
 self:=λ _ _ _ _ _ st h=>wpAny_pyIter_rangeiter st h
section
variable {X:Cx}{tg:Expr}
def vX (K:aaa) (tl:TE):TI:=λ σ H R=>tl σ H λ x H1=>∃ a,x=.ref a/\(∃ xs,cG K H1 a xs)/\R (zC K a) H1
def xL (K:aaa) (tl:TE):TI:=λ σ H R=>tl σ H λ x H1=>∃ a,x=.ref a/\(∃ xs,bU K H1 a xs)/\R (xV K a) H1
theorem uI {l:Expr}{tl:TE} (hl:PE X l tl):PI X tg l (vX X.K tl):=by
 intro pins s σ H R I h;refine cH (hl pins s σ H _ I h) λ v s1 ⟨x,H1,I1,r1,q1⟩=>?_;obtain⟨a,e,⟨xs,hq⟩,q⟩:=q1;subst e;cases r1;obtain⟨its,rv,p,hz⟩:=I1.list hq;refine wpAny_pyIter_list p.isList ?_;refine⟨s1.heap.objs.size,[s1.heap.objs.size],_,_,H1,rfl,I1.kept (t':=s1.toks) λ b o e=>aad _ e,qN a _,⟨_,aam _ rfl,rfl,rfl⟩,λ b hb=>?_,q⟩;have e:b=s1.heap.objs.size:=by simpa using hb
 subst e;exact I1.fpOk (aaj _) (I1.hok.fresh (aaj _))
theorem wT {l:Expr}{tl:TE} (hl:PE X l tl):PI X tg l (xL X.K tl):=by
 intro pins s σ H R I h;refine cH (hl pins s σ H _ I h) λ v s1 ⟨x,H1,I1,r1,q1⟩=>?_;obtain⟨a,e,⟨xs,hq⟩,q⟩:=q1;subst e;cases r1;obtain⟨its,rv,p,hz⟩:=I1.tuple hq;refine wpAny_pyIter_tuple (show s1.heap.IsTuple a its.toArray from p) ?_;refine⟨s1.heap.objs.size,[s1.heap.objs.size],_,_,H1,rfl,I1.kept (t':=s1.toks) λ b o e=>aad _ e,o4 a _,⟨_,aam _ rfl,rfl,rfl⟩,λ b hb=>?_,q⟩;have e:b=s1.heap.objs.size:=by simpa using hb
 subst e;exact I1.fpOk (aaj _) (I1.hok.fresh (aaj _))
theorem sB {pins:List (Addr×Obj)}{σ:St}{H:Hp}{s:Shared}{R:It->Hp->Prop}{E:Value->Shared->Prop}{lo hi:Int}{t u v:Tok}{tk:Nat} (I:Inv X pins σ H s) (h1 : -(2 ^ 62)<=lo) (h2:lo < 2 ^ 62) (h3 : -(2 ^ 62)<=hi) (h4:hi < 2 ^ 62)
  (q:R (xW lo (hi - lo).toNat) H):wpAny (model X.prog X.w) X.A (pyIter (.ref s.heap.objs.size)) (PIE X pins σ tg R) E { s with heap:=s.heap.push { cls:=.type "range",data:=.fields #[.int lo t,.int hi u,.int 1 v] },toks:=tk }:=by
 refine wpAny_pyIter_range (IsRange.new ..) (small_one h1 h2 h3 h4) ?_;have I1:Inv X pins σ H { s with heap:=s.heap.push { cls:=.type "range",data:=.fields #[.int lo t,.int hi u,.int 1 v] },toks:=tk }:=I.kept λ b o e=>aad _ e;refine⟨(s.heap.push { cls:=.type "range",data:=.fields #[.int lo t,.int hi u,.int 1 v] }).objs.size,[(s.heap.push { cls:=.type "range",data:=.fields #[.int lo t,.int hi u,.int 1 v] }).objs.size],_,_,H,rfl,
  I1.kept (t':=tk) λ b o e=>aad _ e,o5 _ lo (hi - lo).toNat,?_,λ b hb=>?_,q⟩
 ·have e1:lo+((0:Nat):Int) * 1=lo:=by simp
  have e2:(((hi - lo).toNat:Nat):Int) - ((0:Nat):Int)=Builtin.Range.rangeSize lo hi 1:=by rw[rangeSize_one];split <;> omega
  show IsRangeIter _ _ (lo+((0:Nat):Int) * 1) ((((hi - lo).toNat:Nat):Int) - ((0:Nat):Int)) 1;rw[e1,e2];exact aam _ rfl
 ·have e:b=(s.heap.push { cls:=.type "range",data:=.fields #[.int lo t,.int hi u,.int 1 v] }).objs.size:=by simpa using hb
  subst e;exact I1.fpOk (aaj _) (I1.hok.fresh (aaj _))
def yR (ta:TA):TI:=λ σ H R=>ta σ H λ vs H1=>∃ j:Int,vs=[.int j]/\-(2 ^ 62)<=j/\j < 2 ^ 62/\R (xW 0 j.toNat) H1
theorem d4 {a:Expr}{ta:TA}{p pos:Pos} (hg:Gl X "range") (hm:X.mg "range" = none) (ha:PA X [a] ta) (hs:starEach [a] X.env=[(false,eval a X.env)]:=by rfl):PI X tg (.Call (.Name "range" p) [a] [] pos) (yR ta):=by
 intro pins s σ H R I h;refine Call_ (jW I hg hm boot_range (PyProof.Rows.callWith_type1 (cH (ha pos pins s σ H _ I h) λ us s1 ⟨vs,H1,I1,r1,q1⟩=>?_) hs rfl));obtain⟨j,e,q1,q2,q⟩:=q1;subst e;cases r1 with
 | cons r rr=>
  cases rr;obtain⟨t,rfl⟩:=r;exact call_range_1 (sB I1 (by omega) (by omega) q1 q2 (by simpa using q))
def tFor (wi:TI) (g:TG) (tb:TS):TS:=λ D σ H=>wi σ H λ J H1=>∃ W:Nat->Nat->St->Hp->Prop,(∃ m,W 0 m σ H1)/\∀ i m σ H,W i m σ H->
 (J.stop i H/\D.nx σ H)\/(J.go i H/\∃ N:St->Hp->Prop,(∀ aa H',N aa H'->∃ m',m' < m/\W (i+1) m' aa H')/\∀ x H',J.yld i H x H'->g x σ H' λ ah H2=>tb { D with nx:=N,ct:=N,bk:=D.nx } ah H2)
def jM (fp:List Addr) (h:Heap):List (Addr×Obj):=fp.filterMap λ b=>(h.get? b).map λ o=>(b,o)
theorem eI {fp:List Addr}{h:Heap}{b:Addr}{o:Obj} (hb:b∈fp) (e:h.get? b=some o):(b,o)∈jM fp h:=List.mem_filterMap.mpr ⟨b,hb,by rw[e];rfl⟩
theorem qU {fp:List Addr}{h:Heap}{p:Addr×Obj} (hp:p∈jM fp h):p.1∈fp/\h.get? p.1=some p.2:=by
 obtain⟨b,hb,e⟩:=List.mem_filterMap.mp hp;cases q:h.get? b with
 | none=>rw[q] at e;cases e
 | some o=>
  rw[q] at e;have e':(b,o)=p:=aav e;subst e';exact⟨hb,q⟩
theorem Inv.pinned {pins:List (Addr×Obj)}{σ:St}{H:Hp}{s:Shared}{fp:List Addr} (I:Inv X pins σ H s) (hf:∀ b∈fp,g9 X pins H b) (ho:∀ b∈fp,∃ o,s.heap.get? b=some o/\∀ v,o.data≠.cell v):Inv X (pins++jM fp s.heap) σ H s:=
 I.pins_of λ p hp=>(aau.mp hp).elim (λ z=>I.pin p (aap _ z)) λ z=>by
  obtain⟨hb,e⟩:=qU z;obtain⟨f0,f1,f2,_⟩:=hf p.1 hb;obtain⟨o,e',d⟩:=ho p.1 hb;rw[e] at e';cases e';exact⟨e,f0,f1,f2,d⟩
theorem Inv.unpinned {pins pl:List (Addr×Obj)}{σ:St}{H:Hp}{s:Shared} (I:Inv X (pins++pl) σ H s):Inv X pins σ H s:=I.pins_of λ p hp=>I.pin p (aap _ (abu _ hp))
theorem d7 {iter:Expr}{body:List Stmt}{wi:TI}{g:TG}{tb:TS}{pos:Pos} (hp:PassesOwn (model X.prog X.w) X.A X.env X.xe) (hc:X.calm=true) (hi:PI X tg iter wi) (hg:PG X tg g) (hb:nY X body tb)
  (hs:∀ x,foldedSetIterable iter X.env x=pure x:=by intro _;rfl):PS X (.For tg iter body [] pos) (tFor wi g tb):=by
 intro pins s σ H D I h;refine wpAny_For (cH (hi pins s σ H _ I h) λ v s1 h1=>cH h1 λ itv s2 h2=>?_) hs;obtain⟨it,fp,tn,J,H2,e,I2,T,st2,f2,W,⟨m0,w0⟩,turn⟩:=h2;subst e;have stat:∀ {H':Hp},(∀ b∈fp,H' b=none)->∀ b∈fp,g9 X pins H' b:=λ hn b hb=>⟨hn b hb,(f2 b hb).2⟩;refine codeAny_forLoop_any (λ n s'=>∃ i aa H',Inv X pins aa H' s'/\tn i s'.heap/\(∀ b∈fp,H' b=none)/\W i n aa H') ?_ m0 ⟨0,σ,H2,I2,st2,λ b hb=>(f2 b hb).1,w0⟩;rintro n s3 ⟨i,ae,H3,I3,st3,fr3,w3⟩;rcases turn i n ae H3 w3 with ⟨stop,qn⟩ | ⟨go,N,hN,step⟩
 ·refine wpAny_passesOwn hp (cH (T.done X rfl rfl rfl hc i pins s3 ae H3 X.xe I3 (stat fr3) st3 stop) λ r s4 ⟨hr,I4⟩=>?_);subst hr;exact wpAny_execs_nil ⟨ae,H3,I4,qn⟩
 ·refine wpAny_passesOwn hp (cH (T.item X rfl rfl rfl hc i pins s3 ae H3 X.xe I3 (stat fr3) st3 go) λ r s4 ⟨u,hr,h4⟩=>?_);subst hr;refine wpAny_passesOwn hp (cH h4 λ _ s5 ⟨x,H5,I5,r5,y5,st5,fr5⟩=>?_);have I5':=I5.pinned (stat fr5) (T.obj _ _ st5);refine wpAny_passesOwn hp (cH (hg _ s5 ae H5 x u _ I5' r5 (step x H5 y5)) λ _ s6 ⟨σ6,H6,I6,q6⟩=>?_);refine wpAny_passesOwn hp (cH (hb _ s6 σ6 H6 _ I6 q6) λ f s7 q7=>?_);have again:∀ {ar:St}{H7:Hp},Inv X (pins++jM fp s5.heap) ar H7 s7->N ar H7->∃ m,m < n/\∃ i aa H',Inv X pins aa H' s7/\tn i s7.heap/\(∀ b∈fp,H' b=none)/\W i m aa H':=λ {ar H7} I7 n7=>by
   obtain⟨m',hm,w7⟩:=hN ar H7 n7;refine⟨m',hm,i+1,ar,H7,I7.unpinned,T.keep _ _ _ st5 λ b hb o e=>(I7.pin (b,o) (aap _ (aap _ (eI hb e)))).1,λ b hb=>?_,w7⟩;obtain⟨o,e,d⟩:=T.obj _ _ st5 b hb;exact (I7.pin (b,o) (aap _ (aap _ (eI hb e)))).2.1
  cases f with
  | next=>obtain⟨ar,H7,I7,n7⟩:=q7;exact again I7 n7
  | cont=>obtain⟨ar,H7,I7,n7⟩:=q7;exact again I7 n7
  | brk=>obtain⟨ar,H7,I7,q7⟩:=q7;exact⟨ar,H7,I7.unpinned,q7⟩
  | ret v=>obtain⟨x7,ar,H7,I7,r7,q7⟩:=q7;exact⟨x7,ar,H7,I7.unpinned,r7,q7⟩
end
theorem tS {K:aaa}{a:Addr}{xs:List V}{g:TG}{tb:TS}{D:Ends}{σ:St}{H:Hp} (Pv:Nat->St->Hp->Prop) (h0:Pv 0 σ H) (hl:∀ i σ H,i<=xs.length->Pv i σ H->cG K H a xs)
  (hs:∀ i x σ H,xs[i]? = some x->Pv i σ H->g x σ H λ ah H2=>tb { D with nx:=Pv (i+1),ct:=Pv (i+1),bk:=D.nx } ah H2) (hd:∀ σ H,Pv xs.length σ H->D.nx σ H) :
  ∃ W:Nat->Nat->St->Hp->Prop,(∃ m,W 0 m σ H)/\∀ i m σ H,W i m σ H->
   ((zC K a).stop i H/\D.nx σ H)\/((zC K a).go i H/\∃ N:St->Hp->Prop,(∀ aa H',N aa H'->∃ m',m' < m/\W (i+1) m' aa H')/\∀ x H',(zC K a).yld i H x H'->g x σ H' λ ah H2=>tb { D with nx:=N,ct:=N,bk:=D.nx } ah H2):=by
 refine⟨λ i m σ H=>m=xs.length - i/\i<=xs.length/\Pv i σ H,⟨xs.length,by simp,aay _,h0⟩,?_⟩;rintro i m σ H ⟨rfl,hi,p⟩;have q:=hl i σ H hi p
 by_cases hlt:i < xs.length
 ·refine .inr ⟨⟨xs,xs[i],q,by simp [hlt]⟩,Pv (i+1),λ aa H' p'=>⟨xs.length - (i+1),by omega,rfl,hlt,p'⟩,λ x H' y=>?_⟩;obtain⟨e,y⟩:=y;subst e;exact hs i x σ _ (y xs q) p
 ·have e:i=xs.length:=by omega
  subst e;exact .inl ⟨⟨xs,q,aaj _⟩,hd σ H p⟩
theorem j9 {K:aaa}{a:Addr}{xs:List V}{g:TG}{tb:TS}{D:Ends}{σ:St}{H:Hp} (Pv:Nat->St->Hp->Prop) (h0:Pv 0 σ H) (hl:∀ i σ H,i<=xs.length->Pv i σ H->bU K H a xs)
  (hs:∀ i x σ H,xs[i]? = some x->Pv i σ H->g x σ H λ ah H2=>tb { D with nx:=Pv (i+1),ct:=Pv (i+1),bk:=D.nx } ah H2) (hd:∀ σ H,Pv xs.length σ H->D.nx σ H) :
  ∃ W:Nat->Nat->St->Hp->Prop,(∃ m,W 0 m σ H)/\∀ i m σ H,W i m σ H->
   ((xV K a).stop i H/\D.nx σ H)\/((xV K a).go i H/\∃ N:St->Hp->Prop,(∀ aa H',N aa H'->∃ m',m' < m/\W (i+1) m' aa H')/\∀ x H',(xV K a).yld i H x H'->g x σ H' λ ah H2=>tb { D with nx:=N,ct:=N,bk:=D.nx } ah H2):=by
 refine⟨λ i m σ H=>m=xs.length - i/\i<=xs.length/\Pv i σ H,⟨xs.length,by simp,aay _,h0⟩,?_⟩;rintro i m σ H ⟨rfl,hi,p⟩;have q:=hl i σ H hi p
 by_cases hlt:i < xs.length
 ·refine .inr ⟨⟨xs,xs[i],q,by simp [hlt]⟩,Pv (i+1),λ aa H' p'=>⟨xs.length - (i+1),by omega,rfl,hlt,p'⟩,λ x H' y=>?_⟩;obtain⟨e,y⟩:=y;subst e;exact hs i x σ _ (y xs q) p
 ·have e:i=xs.length:=by omega
  subst e;exact .inl ⟨⟨xs,q,aaj _⟩,hd σ H p⟩
theorem eD {lo:Int}{n:Nat}{g:TG}{tb:TS}{D:Ends}{σ:St}{H:Hp} (Pv:Nat->St->Hp->Prop) (h0:Pv 0 σ H)
  (hs:∀ i σ H,i < n->Pv i σ H->g (.int (lo+i)) σ H λ ah H2=>tb { D with nx:=Pv (i+1),ct:=Pv (i+1),bk:=D.nx } ah H2) (hd:∀ σ H,Pv n σ H->D.nx σ H) :
  ∃ W:Nat->Nat->St->Hp->Prop,(∃ m,W 0 m σ H)/\∀ i m σ H,W i m σ H->
   ((xW lo n).stop i H/\D.nx σ H)\/((xW lo n).go i H/\∃ N:St->Hp->Prop,(∀ aa H',N aa H'->∃ m',m' < m/\W (i+1) m' aa H')/\∀ x H',(xW lo n).yld i H x H'->g x σ H' λ ah H2=>tb { D with nx:=N,ct:=N,bk:=D.nx } ah H2):=by
 refine⟨λ i m σ H=>m=n - i/\i<=n/\Pv i σ H,⟨n,by simp,aay _,h0⟩,?_⟩;rintro i m σ H ⟨rfl,hi,p⟩
 by_cases hlt:i < n
 ·refine .inr ⟨hlt,Pv (i+1),λ aa H' p'=>⟨n - (i+1),by omega,rfl,hlt,p'⟩,λ x H' y=>?_⟩;obtain⟨e,y⟩:=y;subst e y;exact hs i σ _ hlt p
 ·have e:i=n:=by omega
  subst e;exact .inl ⟨aaj _,hd σ H p⟩
abbrev R2:=V->V->Hp->VK->Prop
def dS (X:Cx) (f:Value->Value->Sem Value) (r:R2):Prop:=
 ∀ (pins:List (Addr×Obj)) (s:Shared) (σ:St) (H:Hp) (x y:V) (v u:Value) (Q:VK),Inv X pins σ H s->bD x v->bD y u->r x y H Q->
  wpAny (model X.prog X.w) X.A (f v u) (EP X pins σ Q) X.xe s
def UnR (X:Cx) (f:Value->Sem Value) (r:V->Hp->VK->Prop):Prop:=
 ∀ (pins:List (Addr×Obj)) (s:Shared) (σ:St) (H:Hp) (x:V) (v:Value) (Q:VK),Inv X pins σ H s->bD x v->r x H Q->
  wpAny (model X.prog X.w) X.A (f v) (EP X pins σ Q) X.xe s
def dA (X:Cx) (f:Value) (r:List V->Hp->VK->Prop):Prop:=
 ∀ (pins:List (Addr×Obj)) (s:Shared) (σ:St) (H:Hp) (xs:List V) (us:List Value) (Q:VK),Inv X pins σ H s->aY xs us->r xs H Q->
  wpAny (model X.prog X.w) X.A (call f us) (EP X pins σ Q) X.xe s
def dX (r:R2) (ta tb:TE):TE:=λ σ H Q=>ta σ H λ x H1=>tb σ H1 λ y H2=>r x y H2 Q
def tUn (r:V->Hp->VK->Prop) (ta:TE):TE:=λ σ H Q=>ta σ H λ x H1=>r x H1 Q
def rI (C:Int->Int->Prop) (g:Int->Int->V):R2:=λ x y H Q=>∃ i j,x=.int i/\y=.int j/\C i j/\Q (g i j) H
def lR (g:Int->Int->V):R2:=λ x y H Q=>∃ i j,x=.int i/\y=.int j/\Q (g i j) H
def rU (g:Int->V):V->Hp->VK->Prop:=λ x H Q=>∃ i,x=.int i/\Q (g i) H
section
variable {X:Cx}{a b c:Expr}{ta tb tc:TE}{pos:Pos}
theorem xP (ha:PE X a ta) (hb:PE X b tb) {pins:List (Addr×Obj)}{s:Shared}{σ:St}{H:Hp}{R:V->V->Hp->Prop} (I:Inv X pins σ H s)
  (h:ta σ H λ x H1=>tb σ H1 λ y H2=>R x y H2) {Q:Value->Shared->Prop}{f:Value->Value->Sem Value}
  (hf:∀ v u s2 x y H2,Inv X pins σ H2 s2->bD x v->bD y u->R x y H2->wpAny (model X.prog X.w) X.A (f v u) Q X.xe s2) :
  wpAny (model X.prog X.w) X.A (eval a X.env) (λ v ad=>wpAny (model X.prog X.w) X.A (eval b X.env) (λ u bf=>wpAny (model X.prog X.w) X.A (f v u) Q X.xe bf) X.xe ad) X.xe s:=by
 refine cH (ha pins s σ H _ I h) λ v s1 ⟨x,H1,I1,r1,q1⟩=>?_;refine cH (hb pins s1 σ H1 _ I1 q1) λ u s2 ⟨y,H2,I2,r2,q2⟩=>?_;exact hf v u s2 x y H2 I2 r1 r2 q2
theorem aS {op:Operator}{r:R2} (ho:dS X (binaryOp op) r) (ha:PE X a ta) (hb:PE X b tb):PE X (.BinOp a op b pos) (dX r ta tb):=by
 intro pins s σ H Q I h;exact wpAny_BinOp (xP ha hb I h λ v u s2 x y H2 I2 rx ry q=>ho pins s2 σ H2 x y v u Q I2 rx ry q)
theorem pT {op:UnaryOp}{r:V->Hp->VK->Prop} (ho:UnR X (unaryOp op) r) (ha:PE X a ta):PE X (.UnaryOp op a pos) (tUn r ta):=by
 intro pins s σ H Q I h;exact UnaryOp_ (cH (ha pins s σ H _ I h) λ v s1 ⟨x,H1,I1,r1,q1⟩=>ho pins s1 σ H1 x v Q I1 r1 q1)
theorem yL {f:Value->Value->Sem Value}{C:Int->Int->Prop}{g:Int->Int->Int}
  (rule:∀ (i j:Int) (t u:Tok) (s:Shared) (Q:Value->Shared->Prop) (E:Value->Shared->Prop),C i j->Q (.int (g i j) s.toks) { s with toks:=s.toks+1 }->wpAny (model X.prog X.w) X.A (f (.int i t) (.int j u)) Q E s) :
  dS X f (rI C λ i j=>.int (g i j)):=by
 intro pins s σ H x y v u Q I rx ry h;obtain⟨i,j,rfl,rfl,hc,q⟩:=h;obtain⟨t,rfl⟩:=rx;obtain⟨t',rfl⟩:=ry;exact rule i j t t' s _ _ hc ⟨.int (g i j),H,I.tok _,⟨_,rfl⟩,q⟩
theorem yK {f:Value->Value->Sem Value}{g:Int->Int->Int}
  (rule:∀ (i j:Int) (t u:Tok) (s:Shared) (Q:Value->Shared->Prop) (E:Value->Shared->Prop),Q (.int (g i j) s.toks) { s with toks:=s.toks+1 }->wpAny (model X.prog X.w) X.A (f (.int i t) (.int j u)) Q E s) :
  dS X f (lR λ i j=>.int (g i j)):=by
 intro pins s σ H x y v u Q I rx ry h;obtain⟨i,j,rfl,rfl,q⟩:=h;obtain⟨t,rfl⟩:=rx;obtain⟨t',rfl⟩:=ry;exact rule i j t t' s _ _ ⟨.int (g i j),H,I.tok _,⟨_,rfl⟩,q⟩
theorem uS {f:Value->Value->Sem Value}{g:Int->Int->Bool}
  (rule:∀ (i j:Int) (t u:Tok) (s:Shared) (Q:Value->Shared->Prop) (E:Value->Shared->Prop),Q (.bool (g i j)) s->wpAny (model X.prog X.w) X.A (f (.int i t) (.int j u)) Q E s) :
  dS X f (lR λ i j=>.bl (g i j)):=by
 intro pins s σ H x y v u Q I rx ry h;obtain⟨i,j,rfl,rfl,q⟩:=h;obtain⟨t,rfl⟩:=rx;obtain⟨t',rfl⟩:=ry;exact rule i j t t' s _ _ ⟨.bl (g i j),H,I,rfl,q⟩
def xZ (i j:Int):Prop:=0 < j/\j < 1073741824
def xY (i j:Int):Prop:=0<=j/\j<=1000000/\i.natAbs < 2 ^ 64
def nX (i j:Int):Prop:=(-(2 ^ 64) < i/\i < 2 ^ 64)\/(-(2 ^ 64) < j/\j < 2 ^ 64)
theorem nX.ok {i j:Int} (h:nX i j):IntMulOk i j:=by
 rcases h with ⟨h1,h2⟩ | ⟨h1,h2⟩
 ·exact .of_left (intBits_le_64 h1 h2)
 ·exact .of_right (intBits_le_64 h1 h2)
theorem cF:dS X (binaryOp .Add) (lR λ i j=>.int (i+j)):=yK λ _ _ _ _ _ _ _ q=>add_int q
theorem cU:dS X (binaryOp .Sub) (lR λ i j=>.int (i - j)):=yK λ _ _ _ _ _ _ _ q=>sub_int q
theorem jN:dS X (binaryOp .Mult) (rI nX λ i j=>.int (i * j)):=yL λ _ _ _ _ _ _ _ hc q=>mul_int q hc.ok
theorem gQ:dS X (binaryOp .FloorDiv) (rI xZ λ i j=>.int (i / j)):=yL λ i j _ _ _ _ _ hc q=>by
 have h1:(0:Int) < j:=hc.1;have h2:j < 1073741824:=hc.2;exact floordiv_int (by omega) (by rw[Int.fdiv_eq_ediv_of_nonneg i (by omega)];exact q) (.inl (PyProof.noPylong_small (by omega)))
theorem hV:dS X (binaryOp .Mod) (rI (λ _ j=>0 < j) λ i j=>.int (i % j)):=yL λ i j _ _ _ _ _ hc q=>by
 have h1:(0:Int) < j:=hc;exact mod_int' (by omega) (by rw[Int.fmod_eq_emod_of_nonneg i (by omega)];exact q)
theorem oO:dS X (binaryOp .Pow) (rI xY λ i j=>.int (i ^ j.toNat)):=yL λ _ _ _ _ _ _ _ hc q=>pow_int_small hc.1 hc.2.1 hc.2.2 q
theorem unI {f:Value->Sem Value}{g:Int->Int}
  (rule:∀ (i:Int) (t:Tok) (s:Shared) (Q:Value->Shared->Prop) (E:Value->Shared->Prop),Q (.int (g i) s.toks) { s with toks:=s.toks+1 }->wpAny (model X.prog X.w) X.A (f (.int i t)) Q E s) :
  UnR X f (rU λ i=>.int (g i)):=by
 intro pins s σ H x v Q I rx h;obtain⟨i,rfl,q⟩:=h;obtain⟨t,rfl⟩:=rx;exact rule i t s _ _ ⟨.int (g i),H,I.tok _,⟨_,rfl⟩,q⟩
theorem lH:UnR X (unaryOp .USub) (rU λ i=>.int (-i)):=unI λ _ _ _ _ _ q=>neg_int q
end
def y8:V->V->Bool
 | .non,.non=>true | .non,.int _=>true | .int _,.non=>true | .non,.bl _=>true | .bl _,.non=>true | .non,.str _=>true | .str _,.non=>true
 | .int _,.int _=>true | .bl _,.bl _=>true | .str _,.str _=>true | .byt _,.byt _=>true
 | .int _,.str _=>true | .str _,.int _=>true | .bl _,.str _=>true | .str _,.bl _=>true
 | _,_=>false
def rEq:R2:=λ x y H Q=>y8 x y=true/\Q (.bl (decide (x=y))) H
def rNe:R2:=λ x y H Q=>y8 x y=true/\Q (.bl (!decide (x=y))) H
theorem qF {i j:Int}:decide (V.int i=V.int j)=(i == j):=by
 rw[Bool.eq_iff_iff];simp
theorem tV {i j:Bool}:decide (V.bl i=V.bl j)=(i == j):=by
 rw[Bool.eq_iff_iff];simp
theorem qE {i j:Str}:decide (V.str i=V.str j)=(i == j):=by
 rw[Bool.eq_iff_iff];simp
theorem qG {i j:Array UInt8}:decide (V.byt i=V.byt j)=(i.toList == j.toList):=by
 rw[Bool.eq_iff_iff];cases i;cases j;simp
section
variable {X:Cx}{a b c:Expr}{ta tb tc:TE}{pos:Pos}
theorem bF {pins:List (Addr×Obj)}{σ:St}{H:Hp}{s:Shared}{Q:VK}{k k':Bool} (I:Inv X pins σ H s) (q:Q (.bl k) H) (e:k=k'):EP X pins σ Q (.bool k') s:=by
 subst e;exact⟨.bl k,H,I,rfl,q⟩
theorem gR:dS X (compareOp .Eq) rEq:=by
 intro pins s σ H x y v u Q I rx ry h;obtain⟨hs,q⟩:=h;cases x with
 | non=>
  cases rx;cases y with
  | non=>cases ry;exact PySem.EqNone.eq_none_none (bF I q (by simp))
  | bl j=>cases ry;exact PySem.EqNone.eq_none_bool (bF I q (by simp))
  | int j=>obtain⟨t',rfl⟩:=ry;exact PySem.EqNone.eq_none_int (bF I q (by simp))
  | str j=>obtain⟨t',rfl⟩:=ry;exact PySem.EqNone.eq_none_str (bF I q (by simp))
  | _=>exact absurd (show false=true from hs) aag
 | bl i=>
  cases rx;cases y with
  | non=>cases ry;exact PySem.EqNone.eq_bool_none (bF I q (by simp))
  | bl j=>cases ry;exact eq_bool (bF I q tV)
  | str j=>obtain⟨t',rfl⟩:=ry;exact PySem.EqMixed.eq_bool_str (bF I q (by simp))
  | _=>exact absurd (show false=true from hs) aag
 | int i=>
  obtain⟨t,rfl⟩:=rx;cases y with
  | non=>cases ry;exact PySem.EqNone.eq_int_none (bF I q (by simp))
  | int j=>obtain⟨t',rfl⟩:=ry;exact eq_int (bF I q qF)
  | str j=>obtain⟨t',rfl⟩:=ry;exact PySem.EqMixed.eq_int_str (bF I q (by simp))
  | _=>exact absurd (show false=true from hs) aag
 | str i=>
  obtain⟨t,rfl⟩:=rx;cases y with
  | non=>cases ry;exact PySem.EqNone.eq_str_none (bF I q (by simp))
  | bl j=>cases ry;exact PySem.EqMixed.eq_str_bool (bF I q (by simp))
  | int j=>obtain⟨t',rfl⟩:=ry;exact PySem.EqMixed.eq_str_int (bF I q (by simp))
  | str j=>obtain⟨t',rfl⟩:=ry;exact eq_str (bF I q qE)
  | _=>exact absurd (show false=true from hs) aag
 | byt i=>
  obtain⟨t,rfl⟩:=rx;cases y with
  | byt j=>obtain⟨t',rfl⟩:=ry;exact PySem.W.eq_bytes (bF I q qG)
  | _=>exact absurd (show false=true from hs) aag
 | _=>cases y <;> exact absurd (show false=true from hs) aag
theorem kW:dS X (compareOp .NotEq) rNe:=by
 intro pins s σ H x y v u Q I rx ry h;obtain⟨hs,q⟩:=h;cases x with
 | non=>
  cases rx;cases y with
  | non=>cases ry;exact PySem.EqNone.ne_none_none (bF I q (by simp))
  | bl j=>cases ry;exact PySem.EqNone.ne_none_bool (bF I q (by simp))
  | int j=>obtain⟨t',rfl⟩:=ry;exact PySem.EqNone.ne_none_int (bF I q (by simp))
  | str j=>obtain⟨t',rfl⟩:=ry;exact PySem.EqNone.ne_none_str (bF I q (by simp))
  | _=>exact absurd (show false=true from hs) aag
 | bl i=>
  cases rx;cases y with
  | non=>cases ry;exact PySem.EqNone.ne_bool_none (bF I q (by simp))
  | bl j=>cases ry;exact ne_bool (bF I q (congrArg not tV))
  | str j=>obtain⟨t',rfl⟩:=ry;exact PySem.EqMixed.ne_bool_str (bF I q (by simp))
  | _=>exact absurd (show false=true from hs) aag
 | int i=>
  obtain⟨t,rfl⟩:=rx;cases y with
  | non=>cases ry;exact PySem.EqNone.ne_int_none (bF I q (by simp))
  | int j=>obtain⟨t',rfl⟩:=ry;exact ne_int (bF I q (congrArg not qF))
  | str j=>obtain⟨t',rfl⟩:=ry;exact PySem.EqMixed.ne_int_str (bF I q (by simp))
  | _=>exact absurd (show false=true from hs) aag
 | str i=>
  obtain⟨t,rfl⟩:=rx;cases y with
  | non=>cases ry;exact PySem.EqNone.ne_str_none (bF I q (by simp))
  | bl j=>cases ry;exact PySem.EqMixed.ne_str_bool (bF I q (by simp))
  | int j=>obtain⟨t',rfl⟩:=ry;exact PySem.EqMixed.ne_str_int (bF I q (by simp))
  | str j=>obtain⟨t',rfl⟩:=ry;exact ne_str (bF I q (congrArg not qE))
  | _=>exact absurd (show false=true from hs) aag
 | byt i=>
  obtain⟨t,rfl⟩:=rx;cases y with
  | byt j=>obtain⟨t',rfl⟩:=ry;exact PySem.W.ne_bytes (bF I q (congrArg not qG))
  | _=>exact absurd (show false=true from hs) aag
 | _=>cases y <;> exact absurd (show false=true from hs) aag
theorem sQ:dS X (compareOp .Lt) (lR λ i j=>.bl (decide (i < j))):=uS λ _ _ _ _ _ _ _ q=>lt_int q
theorem fS:dS X (compareOp .LtE) (lR λ i j=>.bl (decide (i<=j))):=uS λ _ _ _ _ _ _ _ q=>le_int q
theorem gP:dS X (compareOp .Gt) (lR λ i j=>.bl (decide (j < i))):=uS λ _ _ _ _ _ _ _ q=>gt_int q
theorem yJ:dS X (compareOp .GtE) (lR λ i j=>.bl (decide (j<=i))):=uS λ _ _ _ _ _ _ _ q=>ge_int q
theorem lU:dS X (compareOp .Is) (λ x y H Q=>y=.non/\Q (.bl (decide (x=.non))) H):=by
 intro pins s σ H x y v u Q I rx ry h;obtain⟨rfl,q⟩:=h;cases ry;refine is_none_gen (bF I q ?_);cases x <;> first
  | (cases rx;rfl)
  | (obtain⟨t,rfl⟩:=rx;rfl)
theorem uP:dS X (compareOp .IsNot) (λ x y H Q=>y=.non/\Q (.bl (!decide (x=.non))) H):=by
 intro pins s σ H x y v u Q I rx ry h;obtain⟨rfl,q⟩:=h;cases ry;refine isnot_none_gen (bF I q ?_);cases x <;> first
  | (cases rx;rfl)
  | (obtain⟨t,rfl⟩:=rx;rfl)
theorem aZ (b:Expr) {op:CmpOp} (h:op≠.In:=by decide) (h2:op≠.NotIn:=by decide):behindInMarks op b=false:=by
 have e1:(op == CmpOp.In)=false:=by cases op <;> first | rfl | exact absurd rfl h
 have e2:(op == CmpOp.NotIn)=false:=by cases op <;> first | rfl | exact absurd rfl h2
 cases b <;> simp [behindInMarks,e1,e2]
theorem dL {op:CmpOp}{r:R2} (ho:dS X (compareOp op) r) (ha:PE X a ta) (hb:PE X b tb) (hm:behindInMarks op b=false):PE X (.Compare a [op] [b] pos) (dX r ta tb):=by
 intro pins s σ H Q I h;exact wpAny_Compare1 (xP ha hb I h λ v u s2 x y H2 I2 rx ry q=>ho pins s2 σ H2 x y v u Q I2 rx ry q) hm
def mV (t:TE):TT:=λ σ H Q=>t σ H λ x H'=>∃ k,x=.bl k/\Q k H'
theorem aW {op:CmpOp}{r:R2} (ho:dS X (compareOp op) r) (ha:PE X a ta) (hb:PE X b tb) (hm:behindInMarks op b=false):PT X (.Compare a [op] [b] pos) (mV (dX r ta tb)):=by
 intro pins s σ H Q I h;refine wpAny_isTrue_Compare1 (cH (ha pins s σ H _ I h) λ v s1 ⟨x,H1,I1,r1,q1⟩=>cH (hb pins s1 σ H1 _ I1 q1) λ u s2 ⟨y,H2,I2,r2,q2⟩=>
  cH (ho pins s2 σ H2 x y v u _ I2 r1 r2 q2) λ c s3 ⟨z,H3,I3,r3,k,e,q3⟩=>?_) hm
 subst e;cases r3;exact wpAny_truthy_bool ⟨H3,I3,q3⟩
def rS (r r':R2) (ta tb tc:TE):TE:=λ σ H Q=>ta σ H λ x H1=>tb σ H1 λ y H2=>r x y H2 λ z H3=>∃ k,z=.bl k/\
 (if k=true then tc σ H3 λ w' H4=>r' y w' H4 Q else Q (.bl false) H3)
theorem nA {op op':CmpOp}{r r':R2} (ho:dS X (compareOp op) r) (ho':dS X (compareOp op') r') (ha:PE X a ta) (hb:PE X b tb) (hc:PE X c tc)
  (hm:lastMarks [op,op'] [b,c]=false:=by with_unfolding_all rfl):PE X (.Compare a [op,op'] [b,c] pos) (rS r r' ta tb tc):=by
 intro pins s σ H Q I h;refine Compare_chain (cH (ha pins s σ H _ I h) λ v s1 ⟨x,H1,I1,r1,q1⟩=>chain_link (cH (hb pins s1 σ H1 _ I1 q1) λ u s2 ⟨y,H2,I2,r2,q2⟩=>
  cH (ho pins s2 σ H2 x y v u _ I2 r1 r2 q2) λ d s3 ⟨z,H3,I3,r3,k,e,q3⟩=>?_)) hm
 subst e;cases r3;refine wpAny_truthy_bool ?_;cases k with
 | false=>exact ite_ff ⟨.bl false,H3,I3,rfl,q3⟩
 | true=>exact ite_tt (chain_last (cH (hc pins s3 σ H3 _ I3 q3) λ w' s4 ⟨z',H4,I4,r4,q4⟩=>ho' pins s4 σ H4 y z' u w' Q I4 r2 r4 q4))
theorem n6 {op op':CmpOp}{r r':R2} (ho:dS X (compareOp op) r) (ho':dS X (compareOp op') r') (ha:PE X a ta) (hb:PE X b tb) (hc:PE X c tc)
  (hm:lastMarks [op,op'] [b,c]=false:=by with_unfolding_all rfl):PT X (.Compare a [op,op'] [b,c] pos) (mV (rS r r' ta tb tc)):=by
 intro pins s σ H Q I h;refine isTrue_chain (cH (ha pins s σ H _ I h) λ v s1 ⟨x,H1,I1,r1,q1⟩=>test_link (cH (hb pins s1 σ H1 _ I1 q1) λ u s2 ⟨y,H2,I2,r2,q2⟩=>
  cH (ho pins s2 σ H2 x y v u _ I2 r1 r2 q2) λ d s3 ⟨z,H3,I3,r3,k,e,q3⟩=>?_)) hm
 subst e;cases r3;refine wpAny_truthy_bool ?_;cases k with
 | false=>
  obtain⟨k',e',q'⟩:=q3;cases e';exact ite_ff ⟨H3,I3,q'⟩
 | true=>
  refine ite_tt (test_last (cH (hc pins s3 σ H3 _ I3 q3) λ w' s4 ⟨z',H4,I4,r4,q4⟩=>cH (ho' pins s4 σ H4 y z' u w' _ I4 r2 r4 q4) λ d' s5 ⟨z2,H5,I5,r5,k2,e2,q5⟩=>?_));subst e2;cases r5;exact wpAny_truthy_bool ⟨H5,I5,q5⟩
theorem jV:(sizeLine:Nat) < 2 ^ 63:=by rw[sizeLine_eq];decide
theorem kO {x:V}{us:List Value} (r:aY [x] us):∃ u,us=[u]/\bD x u:=by
 cases r with
 | cons r1 r2=>cases r2;exact⟨_,rfl,r1⟩
theorem d6:dA X (.type "int") (λ xs H Q=>(∃ i,xs=[.int i]/\Q (.int i) H)\/∃ k,xs=[.bl k]/\Q (.int (if k then 1 else 0)) H):=by
 intro pins s σ H xs us Q I r h;rcases h with ⟨i,rfl,q⟩ | ⟨k,rfl,q⟩
 ·obtain⟨u,rfl,t,rfl⟩:=kO r;exact call_int_int ⟨.int i,H,I,⟨_,rfl⟩,q⟩
 ·obtain⟨u,rfl,r1⟩:=kO r;cases r1;exact call_int_bool ⟨.int (if k then 1 else 0),H,I.tok _,⟨_,rfl⟩,q⟩
end
structure ObjM (h:Heap) (x dx C:Addr) (mA:Str->Option Value):Prop where
 obj:h.get? x=some (PySem.W.instObj C dx)
 ns:h.Ns1 dx mA
 ne:dx≠x
theorem qW {h:Heap}{dx:Addr}{mA:Str->Option Value} (n:h.Ns1 dx mA):∃ od,h.get? dx=some od/\∀ name,PySem.W.lookIn name od=some (mA name):=by
 obtain⟨o,es,ep,ho,hd,hk,_,hm⟩:=n;refine⟨o,ho,λ name=>?_⟩;have e:=hm name;unfold nsFind findBy at e;rw[<- Array.find?_toList] at e;unfold PySem.W.lookIn;rw[hd];dsimp only
 split
 ·rename_i y q
  rw[q] at e;exact congrArg some e
 ·rename_i q
  rw[q] at e;have a:es.toList.any (·.refKey)=false:=by
   rw[List.any_eq_false];intro y hy;obtain⟨z,t,hkey⟩:=hk y (Array.mem_toList_iff.mp hy);simp [DictEntry.refKey,hkey]
  have a':¬ es.toList.any (·.refKey)=true:=by rw[a];exact aag
  rw[if_neg a'];exact congrArg some e
theorem ObjM.look {h:Heap}{x dx C:Addr}{mA:Str->Option Value} (I:ObjM h x dx C mA):∃ od,PySem.W.InstAt h x (PySem.W.instObj C dx) C (some od)/\∀ name,PySem.W.lookIn name od=some (mA name):=
 let ⟨od,ho,hl⟩:=qW I.ns
 ⟨od,⟨I.obj,rfl,rfl,ho⟩,hl⟩
section
variable {prog:Program}{A:Around}{E:Value->Shared->Prop}{s:Shared}{x dx f:Addr}{mA:Str->Option Value}{name:Str}{v:Value}
theorem uD {ns:List Str}{Q:Unit->Shared->Prop} (X:K.In s.heap) (I:ObjM s.heap x dx C mA)
  (hs:PySem.W.findIn K (.ref C) "__setattr__" = some (some (.builtin "object.__setattr__"))) (hp:PySem.W.plainOver K C=true) (ht:PySem.W.takerIn K C name=some none) (hh:PySem.W.hasDictIn K C=true)
  (hw:PySem.Within mA ns) (hsz:ns.length<=sizeLine)
  (h:∀ h',ObjM h' x dx C (λ y=>if y=name then some v else mA y)->Heap.SameBut dx s.heap h'->Q () { s with heap:=h',toks:=s.toks+2 }) :
  wpAny (model prog w) A (setAttr (.ref x) name v) Q E s:=by
 obtain⟨od,J,hl⟩:=I.look;refine PySem.W.set_plain X J hs (PySem.W.osa_open (s:={ s with toks:=s.toks+1 }) (r:=none) X J hp ht λ b=>?_);obtain⟨cd,hc,hd'⟩:=PySem.W.any_some hh;have hx:s.heap.get? x=some ⟨.ref C,some dx,.plain,#[]⟩:=I.obj;refine aab (aah (aab (aab (wpAny_loadPart hx (aab (PySem.W.Looks.here (s:={ s with toks:=s.toks+1 }) (PySem.W.looks_clsIn X hc) ?_))))));rw[hd'];refine aah (a:=some dx) (aab (aah (aab ?_)));refine wpAny_nsSet1 (s:={ s with toks:=s.toks+1 }) I.ns λ h' hn2 hs2=>?_;obtain⟨oD,esD,epD,hoD,hdD,hcD⟩:=hn2.count (PySem.Within.cons name v hw);refine aab (wpAny_lookBehind hoD (by rw[hdD];exact pastItsLine_dict (abl hcD (by rw[aat];omega))) ?_);exact aah (h _ ⟨(hs2.2 _ (Ne.symm I.ne)).trans I.obj,hn2,I.ne⟩ hs2)
theorem t0 {R:Result->Shared->Prop}{vs:List Value}{kw:List (Str×Value)} (X:K.In s.heap) (hm:PySem.W.makesIn K C=true)
  (hi:PySem.W.findIn K (.ref C) "__init__" = some (some (.ref f))) (hf:PySem.W.typeIn K (.ref f)=some (.type "function"))
  (h:codeAny (model prog w) (A.under (.builtin "type.__call__" ⟨.ref C::vs,kw⟩)) (.call (.ref f) ⟨.ref (s.heap.objs.size+1)::vs,kw⟩) (PySem.W.InitBack (s.heap.objs.size+1) R)
   { s with heap:=(s.heap.push PySem.W.emptyDict).push (PySem.W.instObj C s.heap.objs.size) }) :
  codeAny (model prog w) A (.call (.ref C) ⟨vs,kw⟩) R s:=by
 obtain⟨hh,g,d,t,os⟩:=s;exact PySem.W.make_core (PySem.W.makes_of X hm) (PySem.W.looks_findIn X hi) (λ self=>PySem.W.bind_fn X self hf) (.inl rfl) h
end
def bL (f:Str) (v:V):List (Str×V)->List (Str×V)
 | []=>[(f,v)]
 | (g,x)::r=>if g=f then (g,v)::r else (g,x)::bL f v r
theorem iM (f g:Str) (v:V):∀ fs:List (Str×V),(bL f v fs).lookup g=if g=f then some v else fs.lookup g
 | []=>by
  show List.lookup g [(f,v)]=_
  by_cases h:g=f
  ·have hb:(g == f)=true:=beq_iff_eq.mpr h;simp only [List.lookup,hb,if_pos h]
  ·have hb:(g == f)=false:=beq_eq_false_iff_ne.mpr h;simp only [List.lookup,hb,if_neg h]
 | (k,x)::r=>by
  have ih:=iM f g v r;rw[show bL f v ((k,x)::r)=(if k=f then (k,v)::r else (k,x)::bL f v r) from rfl]
  by_cases hk:k=f
  ·rw[if_pos hk]
   by_cases h:g=k
   ·have hb:(g == k)=true:=beq_iff_eq.mpr h;simp only [List.lookup,hb,if_pos (h.trans hk)]
   ·have hb:(g == k)=false:=beq_eq_false_iff_ne.mpr h;simp only [List.lookup,hb,if_neg (λ e:g=f=>h (e.trans hk.symm))]
  ·rw[if_neg hk]
   by_cases h:g=k
   ·have hb:(g == k)=true:=beq_iff_eq.mpr h;simp only [List.lookup,hb,if_neg (λ e:g=f=>hk (h.symm.trans e))]
   ·have hb:(g == k)=false:=beq_eq_false_iff_ne.mpr h;simp only [List.lookup,hb];exact ih
theorem iA (f:Str) (v:V):∀ fs:List (Str×V),f∈(bL f v fs).map (·.1)/\∀ g,g∈fs.map (·.1)->g∈(bL f v fs).map (·.1)
 | []=>⟨by simp [bL],λ g h=>by simp at h⟩
 | (k,x)::r=>by
  obtain⟨i1,i2⟩:=iA f v r;rw[show bL f v ((k,x)::r)=(if k=f then (k,v)::r else (k,x)::bL f v r) from rfl]
  by_cases hk:k=f
  ·rw[if_pos hk];subst hk;exact⟨by simp,λ g h=>by simpa using h⟩
  ·rw[if_neg hk];refine⟨?_,λ g h=>?_⟩
   ·rw[abh];exact abk _ i1
   ·rw[abh] at h ⊢;rcases aas.mp h with e | e
    ·exact aas.mpr (.inl e)
    ·exact abk _ (i2 g e)
theorem iN (f:Str) (v:V):∀ fs:List (Str×V),(bL f v fs).length<=fs.length+1
 | []=>by simp [bL]
 | (k,x)::r=>by
  have ih:=iN f v r;rw[show bL f v ((k,x)::r)=(if k=f then (k,v)::r else (k,x)::bL f v r) from rfl]
  by_cases hk:k=f
  ·rw[if_pos hk,aat,aat];omega
  ·rw[if_neg hk,aat,aat];omega
section
variable {H H':Hp}{h h':Heap}{a dx:Addr}{fs fs':List (Str×V)}
theorem qB (hok:iV P w H h) (e:H a=some (.ins C dx fs)):∃ mA,ObjM h a dx C mA/\(∀ f,vJ (fs.lookup f) (mA f))/\PySem.Within mA (fs.map (·.1))/\fs.length<=1000/\H dx=some (.own a):=by
 obtain⟨d,z,ne,ob,mA,n,r,q⟩:=(show cJ P w H h a (.ins C dx fs) from hok a _ e);exact⟨mA,⟨ob,n,ne⟩,r,q,z,d⟩
end
structure Cls (K:aaa) (C:Addr):Prop where
 pg:PySem.W.plainGet K C Str.empty=true
 hd:PySem.W.hasDictIn K C=true
 po:PySem.W.plainOver K C=true
 sa:PySem.W.findIn K (.ref C) "__setattr__" = some (some (.builtin "object.__setattr__"))
theorem Cls.get {K:aaa}{C:Addr} (c:Cls K C) (f:Str):PySem.W.plainGet K C f=true:=c.pg
def fC (K:aaa) (C:Addr) (f:Str):Prop:=PySem.W.findIn K (.ref C) f=some none
theorem fC.taker {K:aaa}{C:Addr}{f:Str} (n:fC K C f):PySem.W.takerIn K C f=some none:=by
 unfold PySem.W.takerIn;rw[show PySem.W.findIn K (.ref C) f=some none from n];rfl
section
variable {X:Cx}{pins:List (Addr×Obj)}{σ:St}{H:Hp}{s:Shared}{a dx:Addr}{fs:List (Str×V)}{f:Str}{v:V}{A:Around}{E:Value->Shared->Prop}
theorem oH {y:V}{u:Value}{Q:Unit->Shared->Prop} (I:Inv X pins σ H s) (e:H a=some (.ins C dx fs)) (c:Cls X.K C) (n:fC X.K C f) (hl:fs.length < 1000) (ry:bD y u)
  (h:∀ s',Inv X pins σ (upd H a (.ins C dx (bL f y fs))) s'->Q () s'):wpAny (model X.prog X.w) A (setAttr (.ref a) f u) Q E s:=by
 obtain⟨mA,O,r,wi,_,ho⟩:=qB I.hok e;have hz:(fs.map (·.1)).length<=sizeLine:=by rw[aai,sizeLine_eq];omega
 refine uD I.kIn O c.sa c.po n.taker c.hd wi hz λ h' O' sb=>h _ ?_;have hd:∃ o,h'.get? dx=some o:=let ⟨o,_,_,e',_⟩:=O'.ns;⟨o,e'⟩;refine I.write (x:=a) (e:=dx) (by rw[e];exact True.intro) (.inr ho) (λ b q hb z=>(sb.2 b hb).trans z) hd ?_;refine⟨by rw[aJ O.ne];exact ho,?_,O.ne,O'.obj,_,O'.ns,λ g=>?_,λ g hg=>?_⟩
 ·have:=iN f y fs;omega
 ·show vJ ((bL f y fs).lookup g) (if g=f then some u else mA g);rw[iM]
  by_cases q:g=f
  ·rw[if_pos q,if_pos q];exact ry
  ·rw[if_neg q,if_neg q];exact r g
 ·by_cases q:g=f
  ·rw[q];exact (iA f y fs).1
  ·refine (iA f y fs).2 g (wi g λ z=>hg ?_);show (if g=f then some u else mA g)=none;rw[if_neg q];exact z
theorem Inv.made (I:Inv X pins σ H s):Inv X pins σ (upd (upd H s.heap.objs.size (.own (s.heap.objs.size+1))) (s.heap.objs.size+1) (.ins C s.heap.objs.size []))
  { s with heap:=(s.heap.push PySem.W.emptyDict).push (PySem.W.instObj C s.heap.objs.size) }:=by
 have e1:(s.heap.push PySem.W.emptyDict).get? s.heap.objs.size=some PySem.W.emptyDict:=aam s.heap rfl;have e2:((s.heap.push PySem.W.emptyDict).push (PySem.W.instObj C s.heap.objs.size)).get? (s.heap.objs.size+1)=some (PySem.W.instObj C s.heap.objs.size):=by
  have:=aam (s.heap.push PySem.W.emptyDict) (o:=PySem.W.instObj C s.heap.objs.size) rfl
  rwa [Heap.size_push] at this
 have e3:(s.heap.push PySem.W.emptyDict).Ns s.heap.objs.size (λ _=>none):=⟨PySem.W.emptyDict,#[],_,e1,rfl,(λ e he=>absurd he (by simp)),λ _=>rfl⟩;have I1:=I.laid (a:=s.heap.objs.size) (o:=.own (s.heap.objs.size+1)) (h':=s.heap.push PySem.W.emptyDict) (t':=s.toks) (λ b u q=>aad _ q) (aaj _) ⟨_,e1⟩;refine I1.laid (a:=s.heap.objs.size+1) (o:=.ins C s.heap.objs.size []) (t':=s.toks) (λ b u q=>aad _ q) (Nat.le_of_eq (Heap.size_push _ _)) ?_;have ne:s.heap.objs.size≠s.heap.objs.size+1:=aar (Nat.lt_succ_self _);refine⟨by rw[aJ ne,aF],aay _,ne,e2,λ _=>none,(Heap.Ns1.of_empty e3).at λ o q=>aad _ q,λ _=>True.intro,λ y hy=>absurd rfl hy⟩
end
def y9 (K:aaa) (ta tv:TE) (f:Str):TS:=λ D σ H=>tv σ H λ y H1=>ta σ H1 λ x H2=>∃ a C dx fs,x=.ref a/\H2 a=some (.ins C dx fs)/\Cls K C/\fC K C f/\fs.length < 1000/\
 D.nx σ (upd H2 a (.ins C dx (bL f y fs)))
section
variable {X:Cx}{o e value:Expr}{f:Str}{pos pos' tpos:Pos}{ta tv:TE}
theorem wS (ha:PE X o ta) (hv:PE X value tv) (hs:swapsWith value (some (.Attribute o f pos')) pos.line X.env=pure false):PS X (.Assign [.Attribute o f pos'] value pos) (y9 X.K ta tv f):=by
 intro pins s σ H D I h;refine plainObj_wpAny_Assign_Attribute (cH (hv pins s σ H _ I h) λ u s1 ⟨y,H1,I1,ry,q⟩=>cH (ha pins s1 σ H1 _ I1 q) λ ov s2 ⟨x,H2,I2,rx,a,C,dx,fs,ex,ea,c,n,l,q2⟩=>?_) hs;subst ex;obtain rfl:ov=Value.ref a:=rx;exact oH I2 ea c n l ry λ s3 I3=>⟨σ,_,I3,q2⟩
end
section
variable {X:Cx}{pins:List (Addr×Obj)}{σ:St}{H:Hp}{s:Shared}{A:Around}{E:Value->Shared->Prop}{Q:Value->Shared->Prop}{c:Value}{b:Bool}
inductive TyOf (K:aaa) (H:Hp):V->Value->Prop where
 | non:TyOf K H .non (.type "NoneType")
 | bl (x:Bool):TyOf K H (.bl x) (.type "bool")
 | int (i:Int):TyOf K H (.int i) (.type "int")
 | str (x:Str):TyOf K H (.str x) (.type "str")
 | flt (x:UInt64):TyOf K H (.flt x) (.type "float")
 | lst {a:Addr}{xs:List V} (e:H a=some (.lst xs)):TyOf K H (.ref a) (.type "list")
 | frz {a:Addr}{o:Obj}{xs:List V} (e:H a=some (.frz o (.lst xs))):TyOf K H (.ref a) (.type "list")
 | tup {a:Addr}{xs:List V} (e:H a=some (.tup xs)):TyOf K H (.ref a) (.type "tuple")
 | dK {a:Addr}{kvs:List (kG×V)} (e:H a=some (.dK kvs)):TyOf K H (.ref a) (.type "dict")
 | dT {a:Addr}{kvs:List (List kG×V)} (e:H a=some (.dT kvs)):TyOf K H (.ref a) (.type "dict")
 | ins {a C dx:Addr}{fs:List (Str×V)} (e:H a=some (.ins C dx fs)) (cl:Cls K C) (ha:PySem.W.findIn K (.ref C) "__class__" = some (some (.builtin "object.__class__")))
   (hn:PySem.W.specialIn K (.builtin "object.__class__") "__get__" = some (some (.builtin "getset_descriptor.__get__"))) (htk:PySem.W.takesIn K (.builtin "object.__class__")=some true)
   (hm:PySem.W.mroIn K C (.type "object")=some true):TyOf K H (.ref a) (.ref C)
theorem fH {x:V}{u t:Value} (I:Inv X pins σ H s) (rx:bD x u) (ty:TyOf X.K H x t) (e:PySem.W.kitOne X.K t c=some b) (h:∀ tk,Q (.bool b) { s with toks:=tk }) :
  wpAny (model X.prog X.w) A (call (.builtin "isinstance") [u,c]) Q E s:=by
 cases ty with
 | non=>cases (show u=Value.none from rx);exact PySem.W.kia_one PySem.W.kitx_none I.kIn True.intro e (λ z=>nomatch z) h
 | bl y=>cases (show u=Value.bool y from rx);exact PySem.W.kia_one PySem.W.kitx_bool I.kIn True.intro e (λ z=>nomatch z) h
 | int i=>obtain⟨t,q⟩:=(show ∃ t,u=Value.int i t from rx);cases q;exact PySem.W.kia_one PySem.W.kitx_int I.kIn True.intro e (λ z=>nomatch z) h
 | str y=>obtain⟨t,q⟩:=(show ∃ t,u=Value.str y t from rx);cases q;exact PySem.W.kia_one PySem.W.kitx_str I.kIn True.intro e (λ z=>nomatch z) h
 | flt y=>obtain⟨t,q⟩:=(show ∃ t,u=Value.float y t from rx);cases q;exact PySem.W.kia_one PySem.W.kitx_float I.kIn True.intro e (λ z=>nomatch z) h
 | @lst a xs ea=>
  cases (show u=Value.ref a from rx);obtain⟨_,_,n,_,h1⟩:=(show cJ X.prog X.w H s.heap a (.lst xs) from I.hok a _ ea);exact PySem.W.kia_one PySem.W.kitx_list I.kIn ⟨_,h1,rfl⟩ e (λ z=>nomatch z) h
 | @frz a ob xs ea=>
  cases (show u=Value.ref a from rx);obtain⟨_,_,_,n,_,h1⟩:=(show cJ X.prog X.w H s.heap a (.frz ob (.lst xs)) from I.hok a _ ea);exact PySem.W.kia_one PySem.W.kitx_list I.kIn ⟨_,h1,rfl⟩ e (λ z=>nomatch z) h
 | @tup a xs ea=>
  cases (show u=Value.ref a from rx);obtain⟨_,_,_,p⟩:=(show cJ X.prog X.w H s.heap a (.tup xs) from I.hok a _ ea);obtain⟨o,h1,h2,_⟩:=p;exact PySem.W.kia_one PySem.W.kitx_tuple I.kIn ⟨o,h1,h2⟩ e (λ z=>nomatch z) h
 | @dK a kvs ea=>
  cases (show u=Value.ref a from rx);obtain⟨_,_,vs,_,p⟩:=(show cJ X.prog X.w H s.heap a (.dK kvs) from I.hok a _ ea);obtain⟨o,es,ep,h1,h2,_⟩:=p;exact PySem.W.kia_one PySem.W.kitx_dict I.kIn ⟨o,h1,h2.1⟩ e (λ z=>nomatch z) h
 | @dT a kvs ea=>
  cases (show u=Value.ref a from rx);obtain⟨_,_,xs,_,o,es,ep,h1,h2,_⟩:=(show cJ X.prog X.w H s.heap a (.dT kvs) from I.hok a _ ea);exact PySem.W.kia_one PySem.W.kitx_dict I.kIn ⟨o,h1,h2.1⟩ e (λ z=>nomatch z) h
 | @ins a C dx fs ea cl ha hn htk hm=>
  cases (show u=Value.ref a from rx);obtain⟨mA,O,_⟩:=qB I.hok ea;obtain⟨od,J,_⟩:=O.look;exact PySem.W.kia_one (PySem.W.kitx_own (cl.get _) cl.hd ha hn htk hm) I.kIn J e (λ z=>nomatch z) h
end
structure Room (k:Nat) (A:Around):Prop where
 hd:A.handled=none
 dp:A.depth+3 * k+5 < recursionLimit
 un:A.units+16 * k+200 < cLine
theorem Room.mono {j k:Nat}{A:Around} (r:Room k A) (h:j<=k):Room j A:=⟨r.hd,by have:=r.dp;omega,by have:=r.un;omega⟩
theorem Room.deeper {k:Nat}{A:Around} (r:Room (k+1) A) (env:Env):Room k (A.deeper env):=
 ⟨r.hd,by have:=r.dp;show A.depth+1+3 * k+5 < _;omega,by have:=r.un;show A.units+3+16 * k+200 < _;omega⟩
theorem pD {A:Around}{C:Addr}{us:List Value}{kw:List (Str×Value)}:(A.under (.builtin "type.__call__" ⟨.ref C::us,kw⟩)).depth=A.depth+1:=by
 first | rfl | simp [Around.under,Code.weight,Code.isCreation,Code.isGuard,Code.isCaller,Code.frames,Code.isFrame,guardIds]
theorem pC {A:Around}{C:Addr}{us:List Value}{kw:List (Str×Value)}:(A.under (.builtin "type.__call__" ⟨.ref C::us,kw⟩)).units=A.units+1:=by
 first | rfl | simp [Around.under,Code.cUnits,Code.frames,Code.isFrame]
theorem Room.make {k:Nat}{A:Around} (r:Room (k+1) A) (C:Addr) (us:List Value) (kw:List (Str×Value)):Room k (A.under (.builtin "type.__call__" ⟨.ref C::us,kw⟩)):=
 ⟨r.hd,by have:=r.dp;rw[pD];omega,by have:=r.un;rw[pC];omega⟩
theorem Room.depth {k:Nat}{A:Around} (r:Room k A):A.depth < recursionLimit:=by have:=r.dp;omega
theorem Room.units {k:Nat}{A:Around} (r:Room k A):A.units+64 < cLine:=by have:=r.un;omega
def eG:TA:=λ _ H Q=>Q [] H
def bN (ta:TE) (tr:TA):TA:=λ σ H Q=>ta σ H λ x H1=>tr σ H1 λ xs H2=>Q (x::xs) H2
section
variable {X:Cx}{e:Expr}{es:List Expr}{te:TE}{t:TA}{pos:Pos}
theorem aB:PA X [] eG:=λ _ _ _ _ H Q I h=>Calls.spliced_nil ⟨[],H,I,.nil,h⟩
theorem aA (ha:PE X e te) (hr:PA X es t) (hs:starEach (e::es) X.env=(false,eval e X.env)::starEach es X.env:=by rfl):PA X (e::es) (bN te t):=by
 intro pos pins s σ H Q I h;rw[hs];show wpAny _ _ (spliced ((false,eval e X.env)::backTo pos (starEach es X.env))) _ _ s;refine Calls.spliced_cons (cH (ha pins s σ H _ I h) λ u s1 ⟨x,H1,I1,r1,q1⟩=>?_);exact cH (hr pos pins s1 σ H1 _ I1 q1) λ us s2 ⟨xs,H2,I2,r2,q2⟩=>⟨x::xs,H2,I2,.cons r1 r2,q2⟩
def y0 (t:TA):TE:=λ σ H Q=>t σ H λ xs H1=>xs.length<=sizeLine/\∀ p,H1 p=none->Q (.ref p) (upd H1 p (.tup xs))
def mW (t:TA):TE:=λ σ H Q=>t σ H λ xs H1=>xs.length<=sizeLine/\∀ p,H1 p=none->Q (.ref p) (upd H1 p (.lst xs))
theorem bE {x1} (h:PA X es t):PE X (.Tuple es x1 pos) (y0 t):=by
 intro pins s σ H Q I hq;refine wpAny_Tuple_spliced (cH (h pos pins s σ H _ I hq) λ us s1 ⟨xs,H1,I1,r,z,q⟩=>⟨by rw[<- r.length];exact z,?_⟩);have hf:H1 s1.heap.objs.size=none:=I1.hok.fresh (aaj _);refine⟨.ref s1.heap.objs.size,upd H1 s1.heap.objs.size (.tup xs),I1.laid (t':=s1.toks) (λ b u e=>aad _ e) (aaj _) ?_,rfl,q _ hf⟩;exact⟨z,us,r,⟨_,aam _ rfl,rfl,_,rfl⟩⟩
theorem bB (h:PA X es t):PE X (.List es pos) (mW t):=by
 intro pins s σ H Q I hq;refine wpAny_List_spliced (cH (h pos pins s σ H _ I hq) λ us s1 ⟨xs,H1,I1,r,z,q⟩=>⟨by rw[<- r.length];exact z,?_⟩);have hf:H1 s1.heap.objs.size=none:=I1.hok.fresh (aaj _);refine⟨.ref s1.heap.objs.size,upd H1 s1.heap.objs.size (.lst xs),I1.laid (t':=s1.toks) (λ b u e=>aad _ e) (aaj _) ?_,rfl,q _ hf⟩;exact⟨z,us,0,r,aam _ rfl⟩
end
abbrev Sp:=List V->Hp->VK->XK->Prop
abbrev rJ:=List Env->Hp->Shared->XK->Value->Shared->Prop
structure Env0 (P:Program) (w:World) (K:aaa) (mg:Str->Option Value) (base:Heap) (A:Around) (outer:List Env) (s:Shared) (H:Hp):Prop where
 frames:A.frames=some outer
 mod:Mod K mg base
 bs:∀ b o,base.get? b=some o->s.heap.get? b=some o/\H b=none
 bsz:base.objs.size<=s.heap.objs.size
 funs:s.heap.FunFrames base outer
 frf:∀ b∈iU outer,H b=none
 hok:iV P w H s.heap
 bare:AllBare s.gens
def CE (outer:List Env) (P:Program) (w:World) (H:Hp) (s:Shared) (Q:VK) (u:Value) (s':Shared):Prop:=
 ∃ v H',s'.os=s.os/\AllBare s'.gens/\Un (iU outer) [] H H' s.heap s'.heap/\iV P w H' s'.heap/\bD v u/\Q v H'
def CR (CX:rJ) (outer:List Env) (P:Program) (w:World) (H:Hp) (s:Shared) (Q:VK) (E:XK) (r:Result) (s':Shared):Prop:=
 match r with
 | .ok (.ret u)=>CE outer P w H s Q u s'
 | .ok _=>False
 | .error e=>CX outer H s E e s'
structure FnOk (P:Program) (w:World) (K:aaa) (mg:Str->Option Value) (base:Heap) (CX:rJ) (k:Nat) (f:Addr) (fd:FuncData) (ps:List Str) (sp:Sp):Prop where
 len:∀ vs H Q E,sp vs H Q E->vs.length=ps.length
 run:∀ (A:Around) (outer:List Env) (s:Shared) (H:Hp) (args:Args) (us:List Value) (vs:List V) (Q:VK) (E:XK),Room k A->Env0 P w K mg base A outer s H->BindsTo s fd args (ps.zip us)->aY vs us->sp vs H Q E->
  codeAny (model P w) A (.call (.ref f) args) (CR CX outer P w H s Q E) s
theorem FnOk.imp {P:Program}{w:World}{K:aaa}{mg:Str->Option Value}{base:Heap}{CX:rJ}{k:Nat}{f:Addr}{fd:FuncData}{ps:List Str}{sp sp':Sp} (F:FnOk P w K mg base CX k f fd ps sp)
  (h:∀ vs H Q E,sp' vs H Q E->sp vs H Q E):FnOk P w K mg base CX k f fd ps sp':=
 ⟨λ vs H Q E q=>F.len vs H Q E (h _ _ _ _ q),λ A outer s H args us vs Q E hr he hb hv hs=>F.run A outer s H args us vs Q E hr he hb hv (h _ _ _ _ hs)⟩
theorem Env0.make {P:Program}{w:World}{K:aaa}{mg:Str->Option Value}{base:Heap}{A:Around}{outer:List Env}{s:Shared}{H:Hp} (e:Env0 P w K mg base A outer s H) (C:Addr) (us:List Value) (kw:List (Str×Value)) :
  Env0 P w K mg base (A.under (.builtin "type.__call__" ⟨.ref C::us,kw⟩)) outer s H:=⟨by first | exact e.frames | (simpa [Around.under,Code.envs,Code.isFrame,pushEnvs] using e.frames),e.mod,e.bs,e.bsz,e.funs,e.frf,e.hok,e.bare⟩
section
variable {X:Cx}{pins:List (Addr×Obj)}{σ:St}{H:Hp}{s s':Shared}
theorem Inv.env0 (I:Inv X pins σ H s):Env0 X.prog X.w X.K X.mg X.base X.A X.stack s H:=
 ⟨I.ok.frames,I.ok.mod,I.bs,abl I.ok.bsz I.sz,I.stack,I.stkFree,I.hok,I.bare⟩
theorem Inv.after {Q:VK}{u:Value} (I:Inv X pins σ H s) (h:CE X.stack X.prog X.w H s Q u s'):EP X pins σ Q u s':=by
 obtain⟨v,H',os,bare,un,hok,r,q⟩:=h;obtain⟨hh,g,d,t,os'⟩:=s';obtain rfl:os'=s.os:=os;exact⟨v,H',I.call (h':=hh) (g':=g) (d':=d) (t':=t) (ch:=[]) un hok bare (λ b z=>absurd z (by simp)),r,q⟩
end
def gB (sp:Sp) (dvs:List V) (E:XK) (t:TA):TE:=λ σ H Q=>t σ H λ vs H1=>sp (vs++dvs) H1 Q E
def y2 (C:Addr) (sp:Sp) (dvs:List V) (E:XK) (t:TA):TE:=λ σ H Q=>t σ H λ vs H1=>∀ x dx,H1 x=none->H1 dx=none->dx≠x->
 sp (.ref x::(vs++dvs)) (upd (upd H1 dx (.own x)) x (.ins C dx [])) (λ v H2=>v=.non/\Q (.ref x) H2) E
def fE (K:aaa) (fd:FuncData) (ps:List Str) (ds:List Value):Prop:=
 ∀ (s:Shared) (us:List Value),K.In s.heap->(us++ds).length=ps.length->BindsTo s fd ⟨us,[]⟩ (ps.zip (us++ds))
theorem fE.all {K:aaa}{fd:FuncData}{ps:List Str} (h:∀ us:List Value,us.length=ps.length->bindArgs fd ⟨us,[]⟩=pure (ps.zip us)):fE K fd ps []:=λ s us _ hl=>by
 rw[List.append_nil] at hl ⊢;exact .of_eq (h us hl)
def g8 (CX:rJ) (X:Cx) (E:XK):Prop:=∀ (pins:List (Addr×Obj)) (σ:St) (H:Hp) (s:Shared) (e:Value) (s':Shared),Inv X pins σ H s->CX X.stack H s E e s'->X.xe e s'
section
variable {X:Cx}{CX:rJ}{k:Nat}{f:Addr}{fd:FuncData}{ps:List Str}{sp:Sp}{dvs:List V}{ds:List Value}{E:XK}{x m:Str}{p pos apos:Pos}{e o:Expr}{es:List Expr}{ta:TE}{t:TA}
theorem wJ {pins:List (Addr×Obj)}{σ:St}{H:Hp}{s:Shared}{Q:VK}{us:List Value}{vs:List V} (F:FnOk X.prog X.w X.K X.mg X.base CX k f fd ps sp) (hr:Room k X.A) (hb:fE X.K fd ps ds) (hd:aY dvs ds) (hx:g8 CX X E)
  (I:Inv X pins σ H s) (r:aY vs us) (h:sp (vs++dvs) H Q E):wpAny (model X.prog X.w) X.A (call (.ref f) us) (EP X pins σ Q) X.xe s:=by
 have r2:aY (vs++dvs) (us++ds):=r.append hd;have hl:(us++ds).length=ps.length:=by rw[<- r2.length];exact F.len _ _ _ _ h
 refine wpAny_call (codeAny_mono (F.run X.A X.stack s H ⟨us,[]⟩ (us++ds) (vs++dvs) Q E hr I.env0 (hb s us I.kIn hl) r2 h) λ r s' hq=>?_);cases r with
 | error e=>exact hx pins σ H s e s' I hq
 | ok fl=>
  cases fl with
  | ret u=>exact I.after hq
  | next=>exact False.elim hq
  | brk=>exact False.elim hq
  | cont=>exact False.elim hq
theorem uM (F:FnOk X.prog X.w X.K X.mg X.base CX k f fd ps sp) (hr:Room k X.A) (hg:Gl X x) (hm:X.mg x=some (.ref f)) (hk:PySem.W.keepIn X.K (.ref f)=true) (hb:fE X.K fd ps ds) (hd:aY dvs ds) (hx:g8 CX X E)
  (ha:PA X (e::es) t) (hdb:(x == ("__debug__" : Str))=false:=by decide) (he:starEach (e::es) X.env=(false,eval e X.env)::starEach es X.env:=by rfl) (hpl:(backTo pos (starEach es X.env)).any (·.1)=false:=by rfl) :
  PE X (.Call (.Name x p) (e::es) [] pos) (gB sp dvs E t):=by
 intro pins s σ H Q I h;refine wpAny_Call_Name_kw (gU I hg hm ?_ hdb);refine PySem.W.callWith_K (h₀:=X.base) I.ok.mod.kin hk (cH (ha pos pins s σ H _ I h) λ us s1 ⟨vs,H1,I1,r,q⟩=>⟨I1.kIn,?_⟩) he hpl;exact wJ F hr hb hd hx I1 r q
structure Mk (K:aaa) (C f:Addr):Prop where
 makes:PySem.W.makesIn K C=true
 init:PySem.W.findIn K (.ref C) "__init__" = some (some (.ref f))
 fn:PySem.W.isFn K (.ref f)=true
 kp:PySem.W.keepIn K (.ref C)=true
theorem rY {pins:List (Addr×Obj)}{σ:St}{H:Hp}{s:Shared}{Q:VK}{us:List Value}{vs:List V} (M:Mk X.K C f) (F:FnOk X.prog X.w X.K X.mg X.base CX k f fd ps sp) (hr:Room (k+1) X.A) (hb:fE X.K fd ps ds) (hd:aY dvs ds)
  (hx:g8 CX X E) (I:Inv X pins σ H s) (r:aY vs us)
  (h:∀ x dx,H x=none->H dx=none->dx≠x->sp (.ref x::(vs++dvs)) (upd (upd H dx (.own x)) x (.ins C dx [])) (λ v H2=>v=.non/\Q (.ref x) H2) E) :
  wpAny (model X.prog X.w) X.A (call (.ref C) us) (EP X pins σ Q) X.xe s:=by
 have hq:=h (s.heap.objs.size+1) s.heap.objs.size (I.hok.fresh (Nat.le_succ _)) (I.hok.fresh (aaj _)) (aar (Nat.lt_succ_self _));have I2:=Inv.made (C:=C) I;have r2:aY (V.ref (s.heap.objs.size+1)::(vs++dvs)) (Value.ref (s.heap.objs.size+1)::(us++ds)):=.cons rfl (r.append hd);have hl:(Value.ref (s.heap.objs.size+1)::us++ds).length=ps.length:=by
  have e:=r2.length;rw[F.len _ _ _ _ hq] at e;exact e.symm
 refine wpAny_call (t0 (f:=f) I.kIn M.makes M.init (beq_iff_eq.mp M.fn) (codeAny_mono (F.run _ X.stack _ _ ⟨Value.ref (s.heap.objs.size+1)::us,[]⟩ (Value.ref (s.heap.objs.size+1)::(us++ds)) _ _ E (hr.make C us [])
  (I2.env0.make C us []) (hb _ (Value.ref (s.heap.objs.size+1)::us) I2.kIn hl) r2 hq) λ r s' hq'=>?_))
 cases r with
 | error e=>exact hx pins σ _ _ e s' I2 hq'
 | ok fl=>
  cases fl with
  | ret u=>
   obtain⟨v,H',I3,rv,ev,q3⟩:=I2.after hq';subst ev;exact⟨rv,⟨V.ref (s.heap.objs.size+1),H',I3,rfl,q3⟩⟩
  | next=>exact False.elim hq'
  | brk=>exact False.elim hq'
  | cont=>exact False.elim hq'
theorem uK (M:Mk X.K C f) (F:FnOk X.prog X.w X.K X.mg X.base CX k f fd ps sp) (hr:Room (k+1) X.A) (hg:Gl X x) (hm:X.mg x=some (.ref C)) (hb:fE X.K fd ps ds) (hd:aY dvs ds) (hx:g8 CX X E)
  (ha:PA X (e::es) t) (hdb:(x == ("__debug__" : Str))=false:=by decide) (he:starEach (e::es) X.env=(false,eval e X.env)::starEach es X.env:=by rfl) (hpl:(backTo pos (starEach es X.env)).any (·.1)=false:=by rfl) :
  PE X (.Call (.Name x p) (e::es) [] pos) (y2 C sp dvs E t):=by
 intro pins s σ H Q I h;refine wpAny_Call_Name_kw (gU I hg hm ?_ hdb);refine PySem.W.callWith_K (h₀:=X.base) I.ok.mod.kin M.kp (cH (ha pos pins s σ H _ I h) λ us s1 ⟨vs,H1,I1,r,q⟩=>⟨I1.kIn,?_⟩) he hpl;exact rY M F hr hb hd hx I1 r q
end
section
variable {X:Cx}{CX:rJ}{k:Nat}{f:Addr}{fd:FuncData}{ps ks:List Str}{sp:Sp}{E:XK}{x m:Str}{p pos apos kpos:Pos}{e o:Expr}{es:List Expr}{kws:List Keyword}{te ta:TE}{t tk:TA}{nm:Option Str}
variable {g:List Value->List Value->List Value}{gV:List V->List V->List V}
end
structure FnScope (N P:List Str) (sc:Scope):Prop where
 kind:sc.kind=.function:=by rfl
 co:sc.isCoroutine=false:=by rfl
 gen:sc.isGenerator=false:=by rfl
 nd:N.Nodup:=by decide +kernel
 pre:N.take P.length=P:=by rfl
 par:∀ x∈P,sc.names.lookup x=some .local\/sc.names.lookup x=some .cell:=by decide +kernel
 nofree:∀ y∈sc.names,y.2≠.free:=by decide +kernel
theorem lA {kindOf:Str->Option NameKind}{x:Str}:∀ {binds:List (Str×Value)}{m:Str->Option Value},(∀ v,(x,v)∉binds)->bindL kindOf binds m x=m x
 | [],_,_=>rfl
 | (n,v)::r,m,h=>by
  unfold bindL;rw[lA λ w hw=>h w (abk _ hw)]
  split
  ·have:x≠n:=by rintro rfl;exact h v List.mem_cons_self
   simp [this]
  ·rfl
theorem lC {kindOf:Str->Option NameKind}{x:Str}:∀ {binds:List (Str×Value)}{m:Str->Option Value},(∀ v,(x,v)∉binds)->bindC kindOf binds m x=m x
 | [],_,_=>rfl
 | (n,v)::r,m,h=>by
  unfold bindC;rw[lC λ w hw=>h w (abk _ hw)]
  split
  ·rfl
  ·have:x≠n:=by rintro rfl;exact h v List.mem_cons_self
   simp [this]
theorem lB {kindOf:Str->Option NameKind}{x:Str}{v:Value}:∀ {P:List Str}{vs:List Value}{i:Nat}{m:Str->Option Value},P.Nodup->P[i]? = some x->vs[i]? = some v->kindOf x=some .local->
  bindL kindOf (P.zip vs) m x=some v
 | [],_,_,_,_,h,_,_=>by simp at h
 | _::_,[],_,_,_,_,h,_=>by simp at h
 | p::P,w::vs,0,m,nd,h1,h2,hk=>by
  simp at h1 h2;subst h1;subst h2;show bindL kindOf ((p,w)::P.zip vs) m p=_;unfold bindL;rw[lA λ v hv=>(abr.mp nd).1 (List.of_mem_zip hv).1,if_pos hk];simp
 | p::P,w::vs,i+1,m,nd,h1,h2,hk=>by
  show bindL kindOf ((p,w)::P.zip vs) m x=_;unfold bindL;exact lB (i:=i) (abr.mp nd).2 (by simpa using h1) (by simpa using h2) hk
theorem lD {kindOf:Str->Option NameKind}{x:Str}{v:Value}:∀ {P:List Str}{vs:List Value}{i:Nat}{m:Str->Option Value},P.Nodup->P[i]? = some x->vs[i]? = some v->kindOf x≠some .local->
  bindC kindOf (P.zip vs) m x=some v
 | [],_,_,_,_,h,_,_=>by simp at h
 | _::_,[],_,_,_,_,h,_=>by simp at h
 | p::P,w::vs,0,m,nd,h1,h2,hk=>by
  simp at h1 h2;subst h1;subst h2;show bindC kindOf ((p,w)::P.zip vs) m p=_;unfold bindC;rw[lC λ v hv=>(abr.mp nd).1 (List.of_mem_zip hv).1,if_neg hk];simp
 | p::P,w::vs,i+1,m,nd,h1,h2,hk=>by
  show bindC kindOf ((p,w)::P.zip vs) m x=_;unfold bindC;exact lD (i:=i) (abr.mp nd).2 (by simpa using h1) (by simpa using h2) hk
def gD (N:List Str) (vs:List V):St:=vs.map some++List.replicate (N.length - vs.length) none
def nQ (CX:rJ) (P:Program) (w:World) (K:aaa) (mg:Str->Option Value) (base:Heap) (N:List Str) (qual:Str) (scope:Scope) (f:Addr) (cd:Value) (A:Around) (outer:List Env) (s:Shared) (H:Hp) (E:XK):Cx where
 prog:=P
 w:=w
 K:=K
 mg:=mg
 base:=base
 A:=A.deeper (envOfC qual scope s.heap.objs.size f cd)
 N:=N
 s₀:=s
 H₀:=H
 env:=envOfC qual scope s.heap.objs.size f cd
 outer:=outer
 stack:=envOfC qual scope s.heap.objs.size f cd::outer
 ex:=[]
 calm:=true
 fn:=λ _=>true
 pn:=[]
 xe:=λ e s'=>wpAny (model P w) (A.deeper (envOfC qual scope s.heap.objs.size f cd)) (leaving (envOfC qual scope s.heap.objs.size f cd) e) (λ _ s''=>CX outer H s E e s'') (λ e' s''=>CX outer H s E e' s'') s'
theorem nU {sc:Scope}{n:Nat}{x:Str} (h:sc.names.lookup x=some .cell):∃ c,(cellsFrom n sc.names []).lookup x=some c:=by
 have q:=PySem.W.cellsFrom_some sc.names n [] (.inl h);exact Option.isSome_iff_exists.mp q
theorem qX {CX:rJ}{P:Program}{w:World}{K:aaa}{mg:Str->Option Value}{base:Heap}{N ps:List Str}{qual:Str}{scope:Scope}{f:Addr}{cd:Value}{A:Around}{outer:List Env}{s s1:Shared}{H:Hp}{E:XK}{us:List Value}{vs:List V}
  (S:FnScope N ps scope) (hd:A.handled=none) (e0:Env0 P w K mg base A outer s H) (hl:vs.length=ps.length) (r:aY vs us)
  (x:InCallC s s.heap.objs.size (bindL (envOfC qual scope s.heap.objs.size f cd).kindOf (ps.zip us) λ _=>none) (cellsFrom (s.heap.objs.size+1) scope.names []) (bindC (envOfC qual scope s.heap.objs.size f cd).kindOf (ps.zip us) λ _=>none) s1) :
  Inv (nQ CX P w K mg base N qual scope f cd A outer s H E) [] (gD N vs) H s1:=by
 have hpl:ps.length<=N.length:=by have:=congrArg List.length S.pre;rw[abb] at this;omega
 obtain⟨h1,tk,rfl,hk⟩:=x.done;have noA:∀ b:Addr,b∉(nQ CX P w K mg base N qual scope f cd A outer s H E).ex:=λ b z=>absurd (show b∈([]:List Addr) from z) (by simp);refine⟨⟨e0.mod,S.kind,rfl,rfl,aaj _,λ y z c h1 h2=>?_,λ y hy=>?_,λ y c _ h=>?_,λ _=>hd,Around.frames_deeper e0.frames,.inr ⟨rfl,rfl⟩,λ b z=>absurd z (noA b),e0.bs,e0.bsz,λ b _ _=>noA b,λ b z=>absurd z (noA b),e0.funs,e0.frf⟩,
  rfl,e0.bare,Un.kept hk,⟨_,x.toInCall.ns,λ i y v h1 h2 h3=>?_⟩,λ y c h=>⟨_,x.cell y c h⟩,e0.hok.fresh (aaj _),λ y c h=>?_,λ p hp=>absurd (show p∈([]:List (Addr×Obj)) from hp) (by simp),e0.hok.kept hk,?_⟩
 ·exact name_of_addr x.apart (abg h1) (abg h2)
 ·have hy:scope.names.lookup y=some .cell\/scope.names.lookup y=some .free:=hy;rcases hy with hy | hy
  ·exact nU hy
  ·exact absurd rfl (S.nofree _ (abg hy))
 ·exact Nat.le_of_lt (x.above y c (abg h))
 ·have hi:i < vs.length:=by
   unfold gD at h2
   by_cases hi:i < vs.length
   ·exact hi
   ·rw[List.getElem?_append_right (by simpa using hi)] at h2;rw[List.getElem?_replicate] at h2
    split at h2 <;> cases h2
  have ha:vs[i]? = some v:=by
   unfold gD at h2;rw[List.getElem?_append_left (by simpa using hi),abe] at h2;cases e:vs[i]? with
   | none=>rw[e] at h2;cases h2
   | some a=>rw[e] at h2;cases h2;rfl
  obtain⟨u,hu,rv⟩:=r.get ha;have hp:ps[i]? = some y:=by
   rw[<- S.pre,List.getElem?_take_of_lt (by omega)];exact h1
  have ndP:ps.Nodup:=by rw[<- S.pre];exact S.nd.sublist (List.take_sublist _ _)
  refine⟨u,rv,?_⟩;rcases S.par y (aaq hp) with k | k
  ·exact .inl ⟨k,lB ndP hp hu k⟩
  ·obtain⟨c,e⟩:=nU (n:=s.heap.objs.size+1) k;refine .inr ⟨.inl k,c,e,?_⟩;have q:=x.cell y c e;rw[lD ndP hp hu (by show scope.names.lookup y≠_;rw[k];decide)] at q;exact q
 ·exact e0.hok.fresh (Nat.le_of_lt (x.above y c (abg h)))
 ·unfold gD;show _=N.length;rw[aaz,aai,List.length_replicate];omega
theorem vZ {CX:rJ}{P:Program}{w:World}{K:aaa}{mg:Str->Option Value}{base:Heap}{k:Nat}{f:Addr}{name qual:Str}{params:Arguments}{body:List Stmt}{scope:Scope}{dV kV doc pm cdv ct oc:Value}{an od:Option Addr}
  {osl:Array (Option Value)}{N ps:List Str}{sp:Sp} (lk:K.lookup f=some ⟨oc,od,.func (PySem.W.fnOf name qual params body scope dV kV doc pm an cdv ct),osl⟩) (hcd:PySem.W.codeIn K cdv qual=true) (S:FnScope N ps scope)
  (len:∀ vs H Q E,sp vs H Q E->vs.length=ps.length)
  (hbody:∀ (A:Around) (outer:List Env) (s:Shared) (H:Hp) (vs:List V) (Q:VK) (E:XK),Room k (A.deeper (envOfC qual scope s.heap.objs.size f cdv))->sp vs H Q E->
   ∃ t,nY (nQ CX P w K mg base N qual scope f cdv A outer s H E) body t/\t { nx:=λ _ H'=>Q .non H',rt:=Q } (gD N vs) H) :
  FnOk P w K mg base CX (k+1) f (PySem.W.fnOf name qual params body scope dV kV doc pm an cdv ct) ps sp:=by
 refine⟨len,λ A outer s H args us vs Q E hr e0 hb r hsp=>?_⟩;have hl:=len _ _ _ _ hsp;have KX:K.In s.heap:=e0.mod.kin.keeps λ b o e=>(e0.bs b o e).1;have lim:s.heap.NoLimit:=e0.mod.nolimit.keeps λ b o e=>(e0.bs b o e).1;have hkind:∀ y∈ps.zip us,scope.names.lookup y.1=some .local\/(scope.names.lookup y.1=some .cell/\((cellsFrom (s.heap.objs.size+1) scope.names []).lookup y.1).isSome=true):=λ ⟨n,v⟩ hy=>by
  rcases S.par n (List.of_mem_zip hy).1 with q | q
  ·exact .inl q
  ·exact .inr ⟨q,PySem.W.cellsFrom_some _ _ _ (.inl q)⟩
 refine codeAny_call_function hr.depth (KX _ _ lk) rfl S.co S.gen rfl (PySem.W.codeRec_of KX hcd) (hb _ _ _ _ ?_);refine wpAny_newFunctionEnv_cells S.kind hkind λ env he s1 x=>?_;subst he;refine⟨lim.keeps x.toInCall.keep,codeAny_func ?_⟩;obtain⟨t,ht,hq⟩:=hbody A outer s H vs Q E (hr.deeper _) hsp;have I:Inv (nQ CX P w K mg base N qual scope f cdv A outer s H E) [] (gD N vs) H s1:=qX S hr.hd e0 hl r x;refine aba (ht [] s1 (gD N vs) H _ I hq) (λ fl s' hs=>?_) λ e s' hs=>hs;have fin:∀ {aa:St}{H':Hp}{v:V}{u:Value},Inv (nQ CX P w K mg base N qual scope f cdv A outer s H E) [] aa H' s'->bD v u->Q v H'->CE outer P w H s Q u s':=
  λ {aa H' v u} J rv q=>⟨v,H',J.os,J.bare,J.base,J.hok,rv,q⟩
 cases fl with
 | ret u=>
  obtain⟨v,aa,H',J,rv,q⟩:=hs;exact fin J rv q
 | next=>
  obtain⟨aa,H',J,q⟩:=hs;exact fin (v:=V.non) (u:=Value.none) J rfl q
 | brk=>
  obtain⟨_,_,_,q⟩:=hs;exact False.elim q
 | cont=>
  obtain⟨_,_,_,q⟩:=hs;exact False.elim q
section
variable {X:Cx}{x:Str}{p pos:Pos}{e:Expr}{es:List Expr}{t:TA}{id T:String}{r:List V->Hp->VK->Prop}
def vQ (r:List V->Hp->VK->Prop) (t:TA):TE:=λ σ H Q=>t σ H λ vs H1=>r vs H1 Q
theorem aL (hc:dA X (.builtin id) r) (hg:Gl X x) (hm:X.mg x=none) (hv:bootBuiltins x=some (.builtin id)) (ha:PA X (e::es) t) (hn:x ≠ "__name__" := by decide) (hdb:(x == ("__debug__" : Str))=false:=by decide)
  (he:starEach (e::es) X.env=(false,eval e X.env)::starEach es X.env:=by rfl) (hpl:(backTo pos (starEach es X.env)).any (·.1)=false:=by rfl):PE X (.Call (.Name x p) (e::es) [] pos) (vQ r t):=by
 intro pins s σ H Q I h;refine wpAny_Call_Name_kw (jW I hg hm hv ?_ hn hdb);exact PyProof.Rows.callWith_builtin1 (cH (ha pos pins s σ H _ I h) λ us s1 ⟨vs,H1,I1,r1,q1⟩=>hc pins s1 σ H1 vs us Q I1 r1 q1) he hpl
theorem bX (hc:dA X (.type T) r) (hg:Gl X x) (hm:X.mg x=none) (hv:bootBuiltins x=some (.type T)) (ha:PA X (e::es) t) (hn:x ≠ "__name__" := by decide) (hdb:(x == ("__debug__" : Str))=false:=by decide)
  (he:starEach (e::es) X.env=(false,eval e X.env)::starEach es X.env:=by rfl) (hpl:(backTo pos (starEach es X.env)).any (·.1)=false:=by rfl):PE X (.Call (.Name x p) (e::es) [] pos) (vQ r t):=by
 intro pins s σ H Q I h;refine wpAny_Call_Name_kw (jW I hg hm hv ?_ hn hdb);exact PyProof.Rows.callWith_type1 (cH (ha pos pins s σ H _ I h) λ us s1 ⟨vs,H1,I1,r1,q1⟩=>hc pins s1 σ H1 vs us Q I1 r1 q1) he hpl
end
end L2
namespace HT
open PySem PyProof.Rows
section
open PySem.SeqAt
open PySem.AutoSeq1 (wpAny_loadPart')
open PySem.MeetsSeq PySem.MeetsSeq2 PySem.MeetsSeq3
end
section
variable {prog:Program}{A:Around}{E:Value->Shared->Prop}{s:Shared}
theorem cat_tup {t b:Addr}{vs ws:List Value}{Q:Value->Shared->Prop} (ht:IsTup s.heap t vs.toArray) (hb:IsTup s.heap b ws.toArray) (hv:vs≠[])
  (h1:ws=[]->Q (.ref t) s) (h2:ws≠[]->Q (.ref s.heap.objs.size) { s with heap:=s.heap.push { cls:=.type "tuple",data:=.seq (vs++ws).toArray } })
  (hsz:vs.length+ws.length<=sizeLine):wpAny (model prog w) A (binaryOp .Add (.ref t) (.ref b)) Q E s:=by
 obtain⟨⟨cls,dd,data,sl⟩,ho,hc,n,hd⟩:=id ht;obtain⟨⟨cls2,dd2,data2,sl2⟩,ho2,hc2,n2,hd2⟩:=id hb;simp only at hc hd hc2 hd2;subst hc hd hc2 hd2;have e:vs.toArray++ws.toArray=(vs++ws).toArray:=by simp
 by_cases hw:ws=[]
 ·exact concat_meets ⟨_,ho,rfl⟩ ⟨_,ho2,rfl⟩ noFill_tuple_add seq_tuple_add PySem.F.slot_tuple_add PySem.F.entry_tuple_add (PySem.F.args_tuple_add_2 _ _)
   (tuple_addW1 t b vs.toArray ws.toArray n n2 dd dd2 sl sl2 (by simpa using hv) (by simp [hw])) ⟨ho,ho2,h1 hw⟩
 ·refine concat_meets ⟨_,ho,rfl⟩ ⟨_,ho2,rfl⟩ noFill_tuple_add seq_tuple_add PySem.F.slot_tuple_add PySem.F.entry_tuple_add (PySem.F.args_tuple_add_2 _ _)
   (tuple_addW2 t b vs.toArray ws.toArray n n2 dd dd2 sl sl2 (by simpa using hv) (by simpa using hw) (by rw[aac,aac];exact hsz)) ⟨ho,ho2,?_⟩
  rw[e];exact h2 hw
def sIx (n d:Nat):Option Int->Nat
 | none=>d
 | some v=>if v < 0 then (v+(n:Int)).toNat else min v.toNat n
theorem sIx_none (n d:Nat):sIx n d none=d:=rfl
theorem sIx_nat (n d k:Nat):sIx n d (some (k:Int))=min k n:=by
 show (if (k:Int) < 0 then ((k:Int)+(n:Int)).toNat else min (k:Int).toNat n)=min k n;rw[if_neg (by omega),Int.toNat_natCast]
theorem wI (n d:Nat) (hd:d<=n) (o:Option Int):sIx n d o<=n:=by
 cases o with
 | none=>exact hd
 | some v=>
  show (if v < 0 then (v+(n:Int)).toNat else min v.toNat n)<=n
  by_cases hv:v < 0
  ·rw[if_pos hv];omega
  ·rw[if_neg hv];exact Nat.min_le_right _ _
theorem qH (v:Int) (n d:Nat):(if v < 0 then max (v+(n:Int)) 0 else min v (n:Int))=((sIx n d (some v):Nat):Int):=by
 show (if v < 0 then max (v+(n:Int)) 0 else min v (n:Int))=(((if v < 0 then (v+(n:Int)).toNat else min v.toNat n):Nat):Int)
 by_cases hv:v < 0
 ·simp only [if_pos hv];omega
 ·simp only [if_neg hv];omega
theorem pI (lo hi:Option Int) (n:Nat):Builtin.Slice.sliceAdjust lo hi 1 (n:Int)=(((sIx n 0 lo:Nat):Int),((sIx n n hi:Nat):Int)):=by
 have h1:¬ ((1:Int) < 0):=by omega
 unfold Builtin.Slice.sliceAdjust;simp only [h1,if_false];refine Prod.ext ?_ ?_
 ·cases lo with
  | none=>rfl
  | some v=>exact qH v n 0
 ·cases hi with
  | none=>rfl
  | some v=>exact qH v n n
theorem oK (i j:Nat):Builtin.Slice.slicePlaces (i:Int) (j:Int) 1=j - i:=by
 unfold Builtin.Slice.slicePlaces;have h1:(1:Int) > 0:=by omega
 simp only [h1,if_true,Int.ediv_one]
 split <;> omega
theorem jJ {v:Value}{o:Option Int}{Q:Option Int->Shared->Prop} (p:IsPart v o) (h:Q o s):wpAny (model prog w) A (Builtin.Slice.slicePartIndex v) Q E s:=by
 cases p with
 | none=>exact slicePart_none h
 | int i t=>exact slicePart_int h
theorem dY {sl:Addr}{vl vu:Value}{lo hi:Option Int}{n:Nat}{Q:Int×Int×Nat->Shared->Prop} (hs:s.heap.IsSliceOf sl vl vu .none) (pl:IsPart vl lo) (pu:IsPart vu hi)
  (h:Q (((sIx n 0 lo:Nat):Int),1,sIx n n hi - sIx n 0 lo) s):wpAny (model prog w) A (Builtin.Slice.sliceApplied (.ref sl) (pure (n:Int))) Q E s:=by
 obtain⟨os,hos,hcs,hds⟩:=id hs;unfold Builtin.Slice.sliceApplied Builtin.Slice.sliceFields;refine aab (aab (abf hos hds (x:=vl) rfl (aab (abf hos hds (x:=vu) rfl (aab (abf hos hds (x:=.none) rfl (aah ?_)))))));refine aab (slicePart_none ?_);show wpAny _ _ (if ((1:Int) == 0)=true then _ else _) _ _ s;rw[if_neg (by decide)];refine aab (jJ pl (aab (jJ pu (aab (aah ?_)))));show wpAny _ _ (match Builtin.Slice.sliceAdjust lo hi 1 (n:Int) with | (lo,hi)=>pure (lo,(1:Int),Builtin.Slice.slicePlaces lo hi 1)) _ _ s;rw[pI lo hi n];show wpAny _ _ (pure (((sIx n 0 lo:Nat):Int),(1:Int),Builtin.Slice.slicePlaces ((sIx n 0 lo:Nat):Int) ((sIx n n hi:Nat):Int) 1)) _ _ s;rw[oK];exact aah h
theorem sI (xs:Array Value) (i k:Nat):((List.range k).filterMap λ (m:Nat)=>xs[((i:Int)+(m:Int) * 1).toNat]?).toArray=((xs.toList.drop i).take k).toArray:=by
 have e:(λ (m:Nat)=>xs[((i:Int)+(m:Int) * 1).toNat]?)=λ m=>xs[i+m]?:=by
  funext m;have:((i:Int)+(m:Int) * 1).toNat=i+m:=by omega
  rw[this]
 rw[e];have:=pick_run xs i k;rw[List.filterMap_map] at this;have e2:((λ x=>xs[x]?) ∘ λ x=>i+x)=λ m=>xs[i+m]?:=rfl;rw[e2] at this;rw[this]
theorem getItem_tuple_cut {t sl:Addr}{items:Array Value}{vl vu:Value}{lo hi:Option Int}{Q:Value->Shared->Prop} (ht:IsTup s.heap t items) (hs:s.heap.IsSliceOf sl vl vu .none) (pl:IsPart vl lo) (pu:IsPart vu hi)
  (hw:¬ (sIx items.size 0 lo=0/\sIx items.size items.size hi=items.size))
  (h:Q (.ref s.heap.objs.size) { s with heap:=s.heap.push { cls:=.type "tuple",data:=.seq ((items.toList.drop (sIx items.size 0 lo)).take (sIx items.size items.size hi - sIx items.size 0 lo)).toArray } })
  (hsz:items.size<=sizeLine):wpAny (model prog w) A (getItem (.ref t) (.ref sl)) Q E s:=by
 have htake:sizeOk (.seq ((items.toList.drop (sIx items.size 0 lo)).take (sIx items.size items.size hi - sIx items.size 0 lo)).toArray):=by
  show ((items.toList.drop (sIx items.size 0 lo)).take (sIx items.size items.size hi - sIx items.size 0 lo)).toArray.size<=sizeLine;rw[aac,abb,List.length_drop,Array.length_toList];omega
 have hj:sIx items.size items.size hi<=items.size:=wI _ _ (aaj _) hi;obtain⟨os,hos,hcs,hds⟩:=id hs;have hTs:s.TypeIs (.ref sl) "slice" := ⟨os,hos,hcs⟩;unfold getItem
 try with_reducible refine abq ?_
 first | refine aab (aah ?_) | skip
 refine aab (wpAny_sequenceKey ht.typeIs (by decide) ?_);refine aab (wpAny_callSpecial?_slot (name:=Str.ofString "__getitem__") ht.typeIs PyProof.Rows.slot_tuple_getitem
  (wpAny_call_entry PyProof.Rows.slot_tuple_getitem ht.typeIs entry_tuple_getitem ?_ (args_tuple_getitem _ _)))
 show wpAny _ _ (Builtin.Tuple.tupleItemsOf (.ref t) >>= _) _ _ s;refine aab (tupleItemsOf_ ht ?_);refine aab (wpAny_typeOf hTs ?_);rw[if_pos (by decide)];refine aab (dY hs pl pu ?_);have hno:¬ ((((sIx items.size 0 lo:Nat):Int) == 0 && (1:Int) == 1 && (sIx items.size items.size hi - sIx items.size 0 lo) == items.size)=true):=by
  intro q;rw[Bool.and_eq_true,Bool.and_eq_true] at q;have q1:((sIx items.size 0 lo:Nat):Int)=0:=eq_of_beq q.1.1;have q2:sIx items.size items.size hi - sIx items.size 0 lo=items.size:=eq_of_beq q.2;exact hw ⟨by omega,by omega⟩
 show wpAny _ _ (if (((sIx items.size 0 lo:Nat):Int) == 0 && (1:Int) == 1 && (sIx items.size items.size hi - sIx items.size 0 lo) == items.size)=true then _ else _) _ _ s;rw[if_neg hno,sI]
 first
  | exact aab (m:=Builtin.Tuple.tupleExact _) (wpAny_newObj_type (aah ⟨_,rfl,aah h⟩) htake)
  | exact aab (m:=Builtin.Tuple.tupleExact _) (wpAny_newObj_type (aab (aah (aah ⟨_,rfl,aah h⟩))) htake)
  | exact aab (aab (m:=Builtin.Tuple.tupleExact _) (wpAny_newObj_type (aah (aah ⟨_,rfl,aah h⟩)) htake))
  | exact aab (aab (m:=Builtin.Tuple.tupleExact _) (wpAny_newObj_type (aah ⟨_,rfl,aah h⟩) htake))
end
end HT
namespace L2
open PySem PySem.Spec PyProof.Rows
abbrev TO:=St->Hp->(Option Int->Hp->Prop)->Prop
def PO (X:Cx) (e:Option Expr) (t:TO):Prop:=
 ∀ (pins:List (Addr×Obj)) (s:Shared) (σ:St) (H:Hp) (Q:Option Int->Hp->Prop),Inv X pins σ H s->t σ H Q->
  wpAny (model X.prog X.w) X.A (evalPart e X.env) (λ u s'=>∃ o H',Inv X pins σ H' s'/\IsPart u o/\Q o H') X.xe s
def pN:TO:=λ _ H Q=>Q none H
def y1 (t:TE):TO:=λ σ H Q=>t σ H λ x H1=>∃ i,x=.int i/\Q (some i) H1
section
variable {X:Cx}{e:Expr}{te:TE}{lo hi:Option Expr}{tl th:TO}{pos p2:Pos}
theorem gO:PO X none pN:=by
 intro pins s σ H Q I h;rw[evalPart_none];exact aah ⟨none,H,I,.none,h⟩
theorem gN (h:PE X e te):PO X (some e) (y1 te):=by
 intro pins s σ H Q I hw;rw[evalPart_some];refine cH (h pins s σ H _ I hw) λ u s1 ⟨x,H1,I1,r1,q1⟩=>?_;obtain⟨i,rfl,q⟩:=q1;obtain⟨t,rfl⟩:=r1;exact⟨some i,H1,I1,.int i t,q⟩
def yY (X:Cx) (r:V->Option Int->Option Int->Hp->VK->Prop):Prop:=
 ∀ (pins:List (Addr×Obj)) (s:Shared) (σ:St) (H:Hp) (x:V) (v vl vu:Value) (lo hi:Option Int) (sl:Addr) (Q:VK),Inv X pins σ H s->bD x v->s.heap.IsSliceOf sl vl vu .none->IsPart vl lo->IsPart vu hi->r x lo hi H Q->
  ∃ T id,typeLookup (.type T) "__getitem__" = pure (some (.builtin id))/\s.TypeIs v T/\wpAny (model X.prog X.w) X.A (getItem v (.ref sl)) (EP X pins σ Q) X.xe s
def tSl (r:V->Option Int->Option Int->Hp->VK->Prop) (te:TE) (tl th:TO):TE:=λ σ H Q=>te σ H λ x H1=>tl σ H1 λ l H2=>th σ H2 λ u H3=>r x l u H3 Q
theorem eX {r:V->Option Int->Option Int->Hp->VK->Prop} (hr:yY X r) (he:PE X e te) (hl:PO X lo tl) (hu:PO X hi th):PE X (.Subscript e (.Slice lo hi none p2) pos) (tSl r te tl th):=by
 intro pins s σ H Q I h;refine Subscript_ (cH (he pins s σ H _ I h) λ v s1 ⟨x,H1,I1,r1,q1⟩=>?_);refine wpAny_Slice (cH (hl pins s1 σ H1 _ I1 q1) λ vl s2 ⟨l,H2,I2,pl,q2⟩=>cH (hu pins s2 σ H2 _ I2 q2) λ vu s3 ⟨u,H3,I3,pu,q3⟩=>?_);rw[evalPart_none];refine aah ?_;have I4:Inv X pins σ H3 { s3 with heap:=s3.heap.push { cls:=.type "slice",data:=.fields #[vl,vu,.none] } }:=I3.kept (t':=s3.toks) λ b ob q=>aad _ q;obtain⟨T,id,hT,ht,hg⟩:=hr pins { s3 with heap:=s3.heap.push { cls:=.type "slice",data:=.fields #[vl,vu,.none] } } σ H3 x v vl vu l u s3.heap.objs.size Q I4 r1 (Heap.IsSliceOf.new ..) pl pu q3;show wpAny (model X.prog X.w) X.A (subscriptTail e (.Slice lo hi none p2) v (.ref s3.heap.objs.size)) (EP X pins σ Q) X.xe { s3 with heap:=s3.heap.push { cls:=.type "slice",data:=.fields #[vl,vu,.none] } };exact tail_any (ops:=[.ref s3.heap.objs.size,v]) ht hT hg (by with_unfolding_all rfl)
def gZ (xs:List V) (lo hi:Option Int):List V:=(xs.drop (HT.sIx xs.length 0 lo)).take (HT.sIx xs.length xs.length hi - HT.sIx xs.length 0 lo)
theorem iP (xs:List V) (lo hi:Option Int):(gZ xs lo hi).length<=xs.length:=by
 unfold gZ;rw[abb,List.length_drop];omega
def rSlT (K:aaa):V->Option Int->Option Int->Hp->VK->Prop:=λ x lo hi H Q=>∃ a xs,x=.ref a/\bU K H a xs/\
 ¬ (HT.sIx xs.length 0 lo=0/\HT.sIx xs.length xs.length hi=xs.length)/\∀ p,H p=none->Q (.ref p) (upd H p (.tup (gZ xs lo hi)))
theorem wH:yY X (rSlT X.K):=by
 intro pins s σ H x v vl vu lo hi sl Q I rx hs pl pu h;obtain⟨a,xs,rfl,hx,hw,q⟩:=h;cases rx;obtain⟨its,r,ht,hz⟩:=I.tuple hx;have hlen:its.toArray.size=xs.length:=by rw[aac];exact r.length.symm
 refine⟨"tuple",_,PyProof.Rows.slot_tuple_getitem.lookup,ht.typeIs,?_⟩;refine HT.getItem_tuple_cut ht hs pl pu (by rw[hlen];exact hw) ?_ (by rw[hlen];exact hz);rw[hlen];refine⟨.ref s.heap.objs.size,_,I.laid (t':=s.toks) (o:=.tup (gZ xs lo hi)) (λ b ob q=>aad _ q) (aaj _) ?_,rfl,q _ (I.hok.fresh (aaj _))⟩;exact⟨abl (iP xs lo hi) hz,_,(r.drop (HT.sIx xs.length 0 lo)).take (HT.sIx xs.length xs.length hi - HT.sIx xs.length 0 lo),IsTup.new _ _⟩
def vV (K:aaa):R2:=λ x y H Q=>∃ a b xs ys,x=.ref a/\y=.ref b/\bU K H a xs/\bU K H b ys/\xs≠[]/\xs.length+ys.length<=sizeLine/\
 (ys=[]->Q (.ref a) H)/\(ys≠[]->∀ p,H p=none->Q (.ref p) (upd H p (.tup (xs++ys))))
theorem aY.nil_iff {xs:List V}{us:List Value} (r:aY xs us):us=[]↔xs=[]:=by
 cases r with
 | nil=>simp
 | cons _ _=>simp
theorem pX:dS X (binaryOp .Add) (vV X.K):=by
 intro pins s σ H x y v u Q I rx ry h;obtain⟨a,b,xs,ys,rfl,rfl,ha,hb,hx,hz,q1,q2⟩:=h;cases rx;cases ry;obtain⟨its,r1,p1,_⟩:=I.tuple ha;obtain⟨its2,r2,p2,_⟩:=I.tuple hb;refine HT.cat_tup p1 p2 (λ z=>hx (r1.nil_iff.mp z)) (λ z=>⟨.ref a,H,I,rfl,q1 (r2.nil_iff.mp z)⟩) (λ z=>?_) (by rw[<- r1.length,<- r2.length];exact hz);refine⟨.ref s.heap.objs.size,_,I.laid (t':=s.toks) (o:=.tup (xs++ys)) (λ b ob q=>aad _ q) (aaj _) ?_,rfl,q2 (λ w=>z (r2.nil_iff.mpr w)) _ (I.hok.fresh (aaj _))⟩;exact⟨by rw[aaz];exact hz,_,r1.append r2,IsTup.new _ _⟩
end
def uZ (n:Nat) (i:Int):Option Nat:=if 0<=i then (if i < n then some i.toNat else none) else if -(n:Int)<=i then some (i+n).toNat else none
def rN {af:Type} (xs:List af) (i:Int):Option af:=(uZ xs.length i).bind λ j=>xs[j]?
theorem qA {n:Nat}{i:Int}{j:Nat} (h:uZ n i=some j):seqIndex? i n=some j/\j < n/\-(n:Int)<=i/\i < n:=by
 unfold uZ at h
 by_cases h0:0<=i
 ·rw[if_pos h0] at h
  by_cases h1:i < n
  ·rw[if_pos h1] at h;have e:i.toNat=j:=aav h;exact⟨by rw[seqIndex_of h0 h1,e],by omega,by omega,h1⟩
  ·rw[if_neg h1] at h;cases h
 ·rw[if_neg h0] at h
  by_cases h1 : -(n:Int)<=i
  ·rw[if_pos h1] at h;have e:(i+n).toNat=j:=aav h;exact⟨by rw[seqIndex_neg (by omega) h1,e],by omega,h1,by omega⟩
  ·rw[if_neg h1] at h;cases h
theorem mO {af:Type}{xs:List af}{i:Int}{v:af} (h:rN xs i=some v):∃ j,seqIndex? i xs.length=some j/\xs[j]? = some v/\j < xs.length/\-(xs.length:Int)<=i/\i < xs.length:=by
 unfold rN at h;cases e:uZ xs.length i with
 | none=>rw[e] at h;cases h
 | some j=>
  rw[e] at h;obtain⟨h1,h2,h3,h4⟩:=qA e;exact⟨j,h1,h,h2,h3,h4⟩
theorem dN {af:Type}{xs:List af}{j:Nat}{v:af} (h:xs[j]? = some v):rN xs (j:Int)=some v:=by
 have hj:j < xs.length:=(aaf.mp h).1;have e:uZ xs.length (j:Int)=some j:=by
  unfold uZ;rw[if_pos (by omega),if_pos (by omega)];simp
 unfold rN;rw[e];exact h
theorem tZ {af:Type} (xs:List af) (v:af):rN (xs++[v]) (-1)=some v:=by
 have hl:(xs++[v]).length=xs.length+1:=by simp
 have e:uZ (xs++[v]).length (-1)=some xs.length:=by
  unfold uZ;rw[hl,if_neg (by decide),if_pos (by omega)];congr 1;omega
 unfold rN;rw[e];show (xs++[v])[xs.length]? = some v;simp
def qK (b:Expr):Prop:=∀ o i,subscripted b false o i=operate [o,i] (getItem o i)
def u8 (X:Cx) (r:R2):Prop:=
 ∀ (value slice:Expr) (pins:List (Addr×Obj)) (s:Shared) (σ:St) (H:Hp) (x y:V) (v u:Value) (Q:VK),Inv X pins σ H s->bD x v->bD y u->r x y H Q->
  subscripted slice false v u=operate [v,u] (getItem v u)->wpAny (model X.prog X.w) X.A (subscriptTail value slice v u) (EP X pins σ Q) X.xe s
def MtR (X:Cx) (id:String) (r:V->List V->Hp->VK->Prop):Prop:=
 ∀ (pins:List (Addr×Obj)) (s:Shared) (σ:St) (H:Hp) (x:V) (xs:List V) (v:Value) (us:List Value) (Q:VK),Inv X pins σ H s->bD x v->aY xs us->r x xs H Q->
  wpAny (model X.prog X.w) X.A (call (.builtin id) (v::us)) (EP X pins σ Q) X.xe s
section
variable {X:Cx}{a b:Expr}{ta tb:TE}{pos:Pos}
theorem u8.or {r r':R2} (h:u8 X r) (h':u8 X r'):u8 X (λ x y H Q=>r x y H Q\/r' x y H Q):=by
 intro value slice pins s σ H x y v u Q I rx ry q hs;rcases q with q | q
 ·exact h value slice pins s σ H x y v u Q I rx ry q hs
 ·exact h' value slice pins s σ H x y v u Q I rx ry q hs
theorem yG {r:R2} (hr:u8 X r) (ha:PE X a ta) (hb:PE X b tb) (hs:qK b):PE X (.Subscript a b pos) (dX r ta tb):=by
 intro pins s σ H Q I h;exact Subscript_ (xP ha hb I h λ v u s2 x y H2 I2 rx ry q=>hr a b pins s2 σ H2 x y v u Q I2 rx ry q (hs _ _))
def yD (K:aaa):R2:=λ x y H Q=>∃ p xs i v,x=.ref p/\y=.int i/\cG K H p xs/\rN xs i=some v/\Q v H
def yB (K:aaa):R2:=λ x y H Q=>∃ p xs i v,x=.ref p/\y=.int i/\bU K H p xs/\rN xs i=some v/\Q v H
def yC:R2:=λ x y H Q=>∃ z i c,x=.str z/\y=.int i/\z.length<=sizeLine/\rN z.cps.toList i=some c/\Q (.str ⟨#[c]⟩) H
theorem uY:u8 X (yD X.K):=by
 intro value slice pins s σ H x y v u Q I rx ry h hs;obtain⟨p,xs,i,z,rfl,rfl,hq,he,q⟩:=h;cases rx;obtain⟨t,rfl⟩:=ry;obtain⟨its,r,pl,hz⟩:=I.list hq;obtain⟨j,h1,h2,h3,h4,h5⟩:=mO he;obtain⟨w,ew,rw'⟩:=r.get h2;have hl:=r.length;have hn:=jV;have fin:EP X pins σ Q w s:=⟨z,H,I,rw',q⟩
 by_cases h0:0<=i
 ·have hj:i.toNat=j:=by
   rw[seqIndex_of h0 h5] at h1;exact aav h1
  exact item_listR pl.isList h0 (by omega) (by rw[hj];simpa using ew) fin hs
 ·have hj:(i+(its.toArray.size:Int)).toNat=j:=by
   rw[seqIndex_neg (by omega) h4] at h1;rw[aac,<- hl];exact aav h1
  exact subscriptTail_builtinR (x:=w) pl.isList.typeIs slot_list_getitem.lookup
   (wpAny_getItem_list_neg (Q:=λ r s'=>r=w/\EP X pins σ Q r s') pl.isList (by omega) (by rw[aac] <;> omega) (by omega) (by rw[hj];simpa using ew) ⟨rfl,fin⟩) hs
theorem xH:u8 X (yB X.K):=by
 intro value slice pins s σ H x y v u Q I rx ry h hs;obtain⟨p,xs,i,z,rfl,rfl,hq,he,q⟩:=h;cases rx;obtain⟨t,rfl⟩:=ry;obtain⟨its,r,pl,hz⟩:=I.tuple hq;obtain⟨j,h1,h2,h3,h4,h5⟩:=mO he;obtain⟨w,ew,rw'⟩:=r.get h2;have hl:=r.length;have hn:=jV;have fin:EP X pins σ Q w s:=⟨z,H,I,rw',q⟩;exact subscriptTail_builtinR (x:=w) pl.typeIs slot_tuple_getitem.lookup
  (getItem_tuple (j:=j) (Q:=λ r s'=>r=w/\EP X pins σ Q r s') pl (by omega) (by omega) (by rw[aac,<- hl];exact h1) (by simpa using ew) ⟨rfl,fin⟩) hs
theorem xI:u8 X yC:=by
 intro value slice pins s σ H x y v u Q I rx ry h hs;obtain⟨z,i,c,rfl,rfl,hz,he,q⟩:=h;obtain⟨t,rfl⟩:=rx;obtain⟨t',rfl⟩:=ry;obtain⟨j,h1,h2,h3,h4,h5⟩:=mO he;have hl:z.cps.toList.length=z.length:=by simp [Str.length]
 rw[hl] at h1 h4 h5;have hn:=jV;exact tail_any (typeIs_str s z t) slot_str_getitem.lookup (getItem_str (c:=c) (by
  have e1:decide (i < -(2 ^ 63:Int))=false:=aao (by omega);have e2:decide (i ≥ 2 ^ 63)=false:=aao (by omega);rw[e1,e2,Bool.or_false]) (by rw[h1];simpa using h2) ⟨.str ⟨#[c]⟩,H,I.tok _,⟨_,rfl⟩,q⟩) hs
def oI (K:aaa):R2:=λ x y H Q=>yD K x y H Q\/yB K x y H Q\/yC x y H Q
theorem xJ:u8 X (oI X.K):=uY.or (xH.or xI)
theorem pB (its:List Value) (n j:Nat) (u:Value):Obj.mapSeq (·.setIfInBounds j u) { cls:=.type "list",data:=.seq its.toArray n }={ cls:=.type "list",data:=.seq (its.set j u).toArray n }:=by
 simp [Obj.mapSeq]
theorem Inv.lst {pins:List (Addr×Obj)}{σ:St}{H:Hp}{s:Shared}{p:Addr}{xs:List V} (I:Inv X pins σ H s) (h:H p=some (.lst xs)) :
  ∃ (its:List Value) (n:Nat),aY xs its/\s.heap.get? p=some { cls:=.type "list",data:=.seq its.toArray n }/\xs.length<=sizeLine:=by
 obtain⟨z,its,n,r,e⟩:=I.hok p _ h;exact⟨its,n,r,e,z⟩
theorem Inv.lstUpd {pins:List (Addr×Obj)}{σ:St}{H:Hp}{s:Shared}{p:Addr}{xs ys:List V}{its its':List Value}{n n':Nat}{f:Obj->Obj} (I:Inv X pins σ H s) (h:H p=some (.lst xs))
  (ho:s.heap.get? p=some { cls:=.type "list",data:=.seq its.toArray n }) (hf:f { cls:=.type "list",data:=.seq its.toArray n }={ cls:=.type "list",data:=.seq its'.toArray n' }) (r:aY ys its') (hz:ys.length<=sizeLine) (t:Nat) :
  Inv X pins σ (upd H p (.lst ys)) { s with heap:=s.heap.update p f,toks:=t }:=by
 have e:(s.heap.update p f).get? p=some { cls:=.type "list",data:=.seq its'.toArray n' }:=by
  rw[Heap.get?_update_self f ho (by rw[hf] <;> rfl),hf]
 refine I.write (x:=p) (e:=p) (by rw[h];trivial) (.inl rfl) (λ b u hb q=>(Heap.get?_update_other _ _ (Ne.symm hb)).trans q) ⟨_,e⟩ ?_;exact⟨hz,its',n',r,e⟩
def pR:V->V->V->Hp->(Hp->Prop)->Prop:=λ o i v H Q=>∃ p xs k j,o=.ref p/\i=.int k/\H p=some (.lst xs)/\uZ xs.length k=some j/\Q (upd H p (.lst (xs.set j v)))
theorem jK:yZ X pR:=by
 intro pins s σ H o i v ov iv u Q I ro ri rv h;obtain⟨p,xs,k,j,rfl,rfl,hp,hj,q⟩:=h;cases ro;obtain⟨t,rfl⟩:=ri;obtain⟨its,n,r,ho,hz⟩:=I.lst hp;obtain⟨h1,h2,h3,h4⟩:=qA hj;have hl:=r.length;have hn:=jV;have I':Inv X pins σ (upd H p (.lst (xs.set j v))) { s with heap:=s.heap.update p (Obj.mapSeq (·.setIfInBounds j u)) }:=
  I.lstUpd hp ho (pB its n j u) (r.set rv j) (by rw[List.length_set];exact hz) s.toks
 by_cases h0:0<=k
 ·have hk:k.toNat=j:=by
   rw[seqIndex_of h0 h4] at h1;exact aav h1
  exact PySem.W.ki_setAt ho h0 (by omega) (by rw[aac,<- hl];exact h4) (by rw[hk];exact⟨_,I',q⟩)
 ·have hk:(k+(its.toArray.size:Int)).toNat=j:=by
   rw[seqIndex_neg (by omega) h3] at h1;rw[aac,<- hl];exact aav h1
  exact PySem.W.ki_setBack ho (by omega) (by rw[aac,<- hl];exact h3) (by omega) (by rw[hk];exact⟨_,I',q⟩)
theorem lO (lo hi:Option Int) (n:Nat):(sliceBounds lo hi none n).1=((HT.sIx n 0 lo:Nat):Int)/\(sliceBounds lo hi none n).2.1=((HT.sIx n n hi:Nat):Int)/\(sliceBounds lo hi none n).2.2=1:=by
 refine⟨?_,?_,rfl⟩
 ·cases lo with
  | none=>simp [sliceBounds,HT.sIx]
  | some i=>
   simp only [sliceBounds,HT.sIx,Option.getD_none,show (1:Int) > 0 by decide,if_true]
   by_cases h:i < 0
   ·simp only [h,if_true] <;> omega
   ·simp only [h,if_false] <;> omega
 ·cases hi with
  | none=>simp [sliceBounds,HT.sIx]
  | some i=>
   simp only [sliceBounds,HT.sIx,Option.getD_none,show (1:Int) > 0 by decide,if_true]
   by_cases h:i < 0
   ·simp only [h,if_true] <;> omega
   ·simp only [h,if_false] <;> omega
theorem kI (its:List Value) (lo hi:Option Int):slicePick its.toArray lo hi none=((its.drop (HT.sIx its.length 0 lo)).take (HT.sIx its.length its.length hi - HT.sIx its.length 0 lo)).toArray:=by
 obtain⟨h1,h2,h3⟩:=lO lo hi its.toArray.size;unfold slicePick;rw[h1,h2,h3];simp only [sliceRange_one,pick_run,aac] <;> rfl
def yA (K:aaa):V->Option Int->Option Int->Hp->VK->Prop:=λ x lo hi H Q=>∃ a xs,x=.ref a/\cG K H a xs/\∀ p,H p=none->Q (.ref p) (upd H p (.lst (gZ xs lo hi)))
theorem uB:yY X (yA X.K):=by
 intro pins s σ H x v vl vu lo hi sl Q I rx hs pl pu h;obtain⟨a,xs,rfl,hx,q⟩:=h;cases rx;obtain⟨its,r,ht,hz⟩:=I.list hx;have hlen:=r.length;refine⟨"list",_,slot_list_getitem.lookup,ht.isList.typeIs,?_⟩;refine wpAny_getItem_list_slice ht.isList hs pl pu .none (by simp) ?_ (by rw[aac] <;> omega);rw[kI,<- hlen];refine⟨.ref s.heap.objs.size,_,I.laid (t':=s.toks) (o:=.lst (gZ xs lo hi)) (λ b ob q=>aad _ q) (aaj _) ?_,rfl,q _ (I.hok.fresh (aaj _))⟩;exact⟨abl (iP xs lo hi) hz,_,0,(r.drop (HT.sIx xs.length 0 lo)).take (HT.sIx xs.length xs.length hi - HT.sIx xs.length 0 lo),aam _ rfl⟩
def iO:V->Bool
 | .non=>true
 | .bl _=>true
 | .int _=>true
 | .str _=>true
 | _=>false
def w4:V->V->Bool
 | .non,.non=>true
 | .bl a,.bl b=>a == b
 | .bl a,.int b=>(if a then 1 else 0) == b
 | .int a,.bl b=>a == (if b then 1 else 0)
 | .int a,.int b=>a == b
 | .str a,.str b=>a == b
 | _,_=>false
theorem xO {A:Around}{s:Shared}{y x:V}{u v:Value} (ry:bD y u) (rx:bD x v) (fy:iO y=true) (fx:iO x=true):SeqAt.EqAt A s u v (w4 y x):=by
 cases y with
 | non=>
  cases ry;cases x with
  | non=>cases rx;exact SeqAt.EqAt.same _
  | bl b=>cases rx;exact SeqAt.EqAt.none_bool b
  | int b=>obtain⟨t,rfl⟩:=rx;exact SeqAt.EqAt.none_int b t
  | str b=>obtain⟨t,rfl⟩:=rx;exact SeqAt.EqAt.none_str b t
  | _=>exact absurd (show false=true from fx) aag
 | bl a=>
  cases ry;cases x with
  | non=>cases rx;exact SeqAt.EqAt.bool_none a
  | bl b=>cases rx;exact SeqAt.EqAt.bool_bool a b
  | int b=>obtain⟨t,rfl⟩:=rx;exact SeqAt.EqAt.bool_int a b t
  | str b=>obtain⟨t,rfl⟩:=rx;exact SeqAt.EqAt.bool_str a b t
  | _=>exact absurd (show false=true from fx) aag
 | int a=>
  obtain⟨t',rfl⟩:=ry;cases x with
  | non=>cases rx;exact SeqAt.EqAt.int_none a t'
  | bl b=>cases rx;exact SeqAt.EqAt.int_bool a t' b
  | int b=>obtain⟨t,rfl⟩:=rx;exact SeqAt.EqAt.int_int a t' b t
  | str b=>obtain⟨t,rfl⟩:=rx;exact SeqAt.EqAt.int_str a t' b t
  | _=>exact absurd (show false=true from fx) aag
 | str a=>
  obtain⟨t',rfl⟩:=ry;cases x with
  | non=>cases rx;exact SeqAt.EqAt.str_none a t'
  | bl b=>cases rx;exact SeqAt.EqAt.str_bool a t' b
  | int b=>obtain⟨t,rfl⟩:=rx;exact SeqAt.EqAt.str_int a t' b t
  | str b=>obtain⟨t,rfl⟩:=rx;exact SeqAt.EqAt.str_str a t' b t
  | _=>exact absurd (show false=true from fx) aag
 | _=>exact absurd (show false=true from fy) aag
def yV (x:V) (u:Value):Bool:=match u with
 | .none=>w4 .non x
 | .bool b=>w4 (.bl b) x
 | .int i _=>w4 (.int i) x
 | .str z _=>w4 (.str z) x
 | _=>false
theorem pH {x y:V}{u:Value} (r:bD y u) (f:iO y=true):yV x u=w4 y x:=by
 cases y with
 | non=>cases r;rfl
 | bl b=>cases r;rfl
 | int i=>obtain⟨t,rfl⟩:=r;rfl
 | str z=>obtain⟨t,rfl⟩:=r;rfl
 | _=>exact absurd (show false=true from f) aag
theorem nH {A:Around}{s:Shared}{x:V}{v:Value} (rx:bD x v) (fx:iO x=true):∀ {xs:List V}{us:List Value},aY xs us->xs.all iO=true->∀ u∈us,SeqAt.EqAt A s u v (yV x u)
 | _,_,.nil,_=>λ u hu=>by cases hu
 | y::xs,u::us,.cons r t,f=>λ u' hu=>by
  rw[List.all_cons,Bool.and_eq_true] at f;rcases aas.mp hu with rfl | hu
  ·rw[pH r f.1];exact xO r rx f.1 fx
  ·exact nH rx fx t f.2 u' hu
theorem mM:dA X (.builtin "len") (λ xs H Q=>∃ p ys,xs=[.ref p]/\(cG X.K H p ys\/bU X.K H p ys)/\Q (.int ys.length) H):=by
 intro pins s σ H xs us Q I r h;obtain⟨p,ys,rfl,hq,q⟩:=h;obtain⟨u,rfl,rx⟩:=kO r;cases rx;have hn:=jV;rcases hq with hq | hq
 ·obtain⟨its,r',pl,hz⟩:=I.list hq;have hlen:=r'.length;exact Calls.call_len_list pl.isList (by simp only [aac] <;> omega) ⟨.int ys.length,H,I.tok _,⟨s.toks+1,by rw[aac,hlen]⟩,q⟩
 ·obtain⟨its,r',pl,hz⟩:=I.tuple hq;have hlen:=r'.length;exact len_tuple pl (by simp only [aac] <;> omega) ⟨.int ys.length,H,I.tok _,⟨s.toks+1,by rw[aac,hlen]⟩,q⟩
theorem mL:dA X (.type "list") (λ xs H Q=>∃ p ys,xs=[.ref p]/\(cG X.K H p ys\/bU X.K H p ys)/\∀ l,H l=none->Q (.ref l) (upd H l (.lst ys))):=by
 intro pins s σ H xs us Q I r h;obtain⟨p,ys,rfl,hq,q⟩:=h;obtain⟨u,rfl,rx⟩:=kO r;cases rx;have fin:∀ (its:List Value),aY ys its->ys.length<=sizeLine->∀ (h':Heap) (c':Nat),(∀ b o',s.heap.get? b=some o'->h'.get? b=some o')->
   h'.get? s.heap.objs.size=some { cls:=.type "list",dict:=none,data:=.seq its.toArray c',slots:=#[] }->EP X pins σ Q (.ref s.heap.objs.size) { s with heap:=h' }:=λ its r' hz h' c' kp e=>
  ⟨.ref s.heap.objs.size,_,I.laid (t':=s.toks) kp (aaj _) (show cJ X.prog X.w _ h' _ (.lst ys) from ⟨hz,its,c',r',e⟩),rfl,q _ (I.hok.fresh (aaj _))⟩
 rcases hq with hq | hq
 ·obtain⟨its,r',pl,hz⟩:=I.list hq;have hlen:=r'.length;obtain⟨o,ho,hc,n,hd⟩:=pl.isList;exact call_list_seq p (.inl rfl) ho hc hd (λ h' c' kp e=>fin its r' hz h' c' kp e) (by simp only [aac] <;> omega)
 ·obtain⟨its,r',pl,hz⟩:=I.tuple hq;have hlen:=r'.length;obtain⟨o,ho,hc,n,hd⟩:=pl;exact call_list_seq p (.inr rfl) ho hc hd (λ h' c' kp e=>fin its r' hz h' c' kp e) (by simp only [aac] <;> omega)
theorem kL:dA X (.type "tuple") (λ xs H Q=>∃ p ys,xs=[.ref p]/\((cG X.K H p ys/\∀ l,H l=none->Q (.ref l) (upd H l (.tup ys)))\/(bU X.K H p ys/\Q (.ref p) H))):=by
 intro pins s σ H xs us Q I r h;obtain⟨p,ys,rfl,h⟩:=h;obtain⟨u,rfl,rx⟩:=kO r;cases rx;rcases h with ⟨hq,q⟩ | ⟨hq,q⟩
 ·obtain⟨its,r',pl,hz⟩:=I.list hq;have hlen:=r'.length;refine call_tuple_list pl.isList (λ h' kp=>?_) (by simp only [aac] <;> omega);have I1:Inv X pins σ H { s with heap:=h' }:=I.kept (t':=s.toks) kp;have I2:Inv X pins σ (upd H h'.objs.size (.tup ys)) { s with heap:=h'.push { cls:=.type "tuple",data:=.seq its.toArray } }:=
   I1.laid (t':=s.toks) (λ b o e=>aad _ e) (aaj _) (show cJ X.prog X.w _ _ _ (.tup ys) from ⟨hz,its,r',IsTup.new _ _⟩)
  exact⟨.ref h'.objs.size,_,I2,rfl,q _ (I1.hok.fresh (aaj _))⟩
 ·obtain⟨its,r',pl,hz⟩:=I.tuple hq;exact call_tuple_same pl ⟨.ref p,H,I,rfl,q⟩
def tyV (K:aaa) (T:String) (x:V) (H:Hp):Prop:=match x with
 | .str _=>T = "str"
 | .int _=>T = "int"
 | .ref p=>(T = "list" /\ ∃ xs,cG K H p xs)\/(T = "tuple" /\ ∃ o,K.lookup p=some o/\o.cls=.type "tuple" /\ o.dict=none)\/
   (T = "dict" /\ ((∃ kvs,H p=some (.dK kvs))\/∃ kvs,H p=some (.dT kvs)))\/(T = "set" /\ ∃ S n,H p=some (.set S n))
 | _=>False
theorem wA {pins:List (Addr×Obj)}{σ:St}{H:Hp}{s:Shared}{T:String}{x:V}{v:Value} (I:Inv X pins σ H s) (r:bD x v) (ty:tyV X.K T x H) :
  s.TypeIs v T/\∀ a,v=.ref a->∃ ob,s.heap.get? a=some ob/\ob.dict=none:=by
 cases x with
 | str z=>
  obtain⟨t,rfl⟩:=r;cases (show T = "str" from ty);exact⟨typeIs_str s z t,λ _ e=>nomatch e⟩
 | int i=>
  obtain⟨t,rfl⟩:=r;cases (show T = "int" from ty);exact⟨typeIs_int s i t,λ _ e=>nomatch e⟩
 | ref p=>
  cases r;rcases ty with ⟨rfl,xs,hq⟩ | ⟨rfl,o,hk,hc,hd⟩ | ⟨rfl,hk⟩ | ⟨rfl,S,n,hk⟩
  ·obtain⟨its,_,pl,_⟩:=I.list hq;refine⟨pl.isList.typeIs,λ a e=>?_⟩;cases e;obtain⟨o,n,e,c,hd,_⟩:=pl;exact⟨o,e,hd⟩
  ·refine⟨⟨o,I.kIn p o hk,hc⟩,λ a e=>?_⟩;cases e;exact⟨o,I.kIn _ o hk,hd⟩
  ·have z:∃ o,s.heap.get? p=some o/\o.ExactDict:=by
    rcases hk with ⟨kvs,hk⟩ | ⟨kvs,hk⟩
    ·obtain⟨_,_,_,_,o,_,_,e,ex,_⟩:=I.hok p _ hk;exact⟨o,e,ex⟩
    ·obtain⟨_,_,_,_,o,_,_,e,ex,_⟩:=I.hok p _ hk;exact⟨o,e,ex⟩
   obtain⟨o,e,ex⟩:=z;refine⟨⟨o,e,ex.1⟩,λ a e2=>?_⟩;cases e2;exact⟨o,e,ex.2.1⟩
  ·obtain⟨o,_,_,_,e,ex,_⟩:=I.hok p _ hk;refine⟨⟨o,e,ex.1⟩,λ a e2=>?_⟩;cases e2;exact⟨o,e,ex.2.1⟩
 | _=>exact False.elim ty
def tBM (K:aaa) (T:String) (r:V->List V->Hp->VK->Prop) (to:TE) (t:TA):TE:=λ σ H Q=>to σ H λ x H1=>tyV K T x H1/\t σ H1 λ xs H2=>r x xs H2 Q
variable {o e:Expr}{es:List Expr}{to:TE}{t:TA}{name:Str}{apos cpos:Pos}{T id:String}{r:V->List V->Hp->VK->Prop}
theorem yH (pa:PlainAttrs T) (slot:Slot T name id) (hty:typeOf (.builtin id)=pure (.type "method_descriptor")) (hm:MtR X id r) (ho:PE X o to) (ha:PA X (e::es) t)
  (hbase:attributeBase o name X.env (eval o X.env)=eval o X.env:=by rfl)
  (hfew:((backTo cpos (starEach (e::es) X.env)).all (λ x=>!x.1) && (backToKw cpos (keywordEach [] X.env)).all (λ x=>x.1.isSome)
   && decide ((e::es).length+([]:List Keyword).length+(if ([]:List Keyword).isEmpty then 0 else 1) < 30))=true:=by rfl)
  (hline:(apos.endLine == cpos.line)=true:=by rfl) (hs:starEach (e::es) X.env=(false,eval e X.env)::starEach es X.env:=by rfl) (hplain:(backTo cpos (starEach es X.env)).any (·.1)=false:=by rfl) :
  PE X (.Call (.Attribute o name apos) (e::es) [] cpos) (tBM X.K T r to t):=by
 intro pins s σ H Q I h;refine wpAny_Call_method_late hbase hfew hline rfl (cH (ho pins s σ H _ I h) λ v s1 ⟨x,H1,I1,r1,ty,q1⟩=>?_);obtain⟨h1,h2⟩:=wA I1 r1 ty;refine⟨T,id,pa,slot,hty,h1,h2,?_⟩;have hA:=ha cpos pins s1 σ H1 _ I1 q1;rw[hs] at hA ⊢;refine Calls.callWith_builtin (by show (false || (backTo cpos (starEach es X.env)).any (·.1))=false;rw[hplain] <;> rfl) (Calls.evalArgs_plain ?_);exact cH hA λ us s2 ⟨vs,H2,I2,r2,q2⟩=>hm pins s2 σ H2 x vs v us Q I2 r1 r2 q2
end
def MtM (X:Cx) (id:String) (r:V->List V->Hp->VK->Prop):Prop:=
 ∀ (pins:List (Addr×Obj)) (s:Shared) (σ:St) (H:Hp) (x:V) (xs:List V) (v:Value) (us:List Value) (Q:VK),Inv X pins σ H s->bD x v->aY xs us->r x xs H Q->
  wpAny (model X.prog X.w) X.A (call (.builtin id) (v::us)) (EP X pins σ Q) X.xe s
theorem aY.one {x:V}{us:List Value} (h:aY [x] us):∃ u,us=[u]/\bD x u:=kO h
theorem aY.two:∀ {x y:V}{us:List Value},aY [x,y] us->∃ u v,us=[u,v]/\bD x u/\bD y v
 | _,_,_,.cons r (.cons q .nil)=>⟨_,_,rfl,r,q⟩
theorem aY.rep {xs:List V}{us:List Value} (h:aY xs us):∀ k:Nat,aY (List.replicate k xs).flatten (List.replicate k us).flatten
 | 0=>.nil
 | k+1=>by
  rw[List.replicate_succ,List.replicate_succ,List.flatten_cons,List.flatten_cons];exact aY.append h (aY.rep h k)
theorem kY (its:List Value):∀ (k:Nat) (acc:List Value),
  List.foldl (λ x1 x2=>x1++x2) acc.toArray (List.replicate k its.toArray)=(acc++(List.replicate k its).flatten).toArray
 | 0,acc=>by simp
 | k+1,acc=>by
  have e:acc.toArray++its.toArray=(acc++its).toArray:=by simp
  have e2:(acc++its)++(List.replicate k its).flatten=acc++(List.replicate (k+1) its).flatten:=by
   rw[List.replicate_succ,List.flatten_cons,List.append_assoc]
  rw[<- e2,<- kY its k (acc++its),<- e,List.replicate_succ,List.foldl_cons]
section
variable {X:Cx}{pins:List (Addr×Obj)}{σ:St}{H:Hp}{s:Shared}{l b:Addr}{xs ys zs:List V}
theorem Inv.lset {its its':List Value}{n:Nat}{f:Array Value->Array Value}{t':Nat} (I:Inv X pins σ H s) (hH:H l=some (.lst xs))
  (e:s.heap.get? l=some { cls:=.type "list",data:=.seq its.toArray n }) (hf:f its.toArray=its'.toArray) (hv:aY ys its') (hz:ys.length<=sizeLine) :
  Inv X pins σ (upd H l (.lst ys)) { s with heap:=s.heap.update l (Obj.mapSeq f),toks:=t' }:=by
 have q:=PySem.IsL.update e f;rw[hf] at q;refine I.write (x:=l) (e:=l) (by rw[hH];exact trivial) (.inl rfl) (λ b' u hb hu=>(Heap.get?_update_other s.heap (Obj.mapSeq f) (Ne.symm hb)).trans hu) ⟨_,q⟩ ?_;exact⟨hz,its',_,hv,q⟩
theorem Inv.lnew {its:List Value}{t':Nat} (I:Inv X pins σ H s) (hv:aY ys its) (hz:ys.length<=sizeLine) :
  Inv X pins σ (upd H s.heap.objs.size (.lst ys)) { s with heap:=s.heap.push { cls:=.type "list",data:=.seq its.toArray },toks:=t' }:=
 I.laid (λ _ _ q=>aad _ q) (aaj _) ⟨hz,its,0,hv,aam _ rfl⟩
theorem Inv.fresh (I:Inv X pins σ H s):H s.heap.objs.size=none:=I.hok.fresh (aaj _)
theorem Inv.lstM (I:Inv X pins σ H s) (hH:H l=some (.lst xs)):xs.length<=sizeLine/\∃ (its:List Value) (n:Nat),aY xs its/\xs.length=its.length/\s.heap.get? l=some { cls:=.type "list",data:=.seq its.toArray n }:=by
 obtain⟨z,its,n,r,e⟩:=I.hok l _ hH;exact⟨z,its,n,r,r.length,e⟩
end
section
variable {X:Cx}
def uG:V->List V->Hp->VK->Prop:=λ x vs H Q=>∃ l xs y,x=.ref l/\vs=[y]/\H l=some (.lst xs)/\xs.length < sizeLine/\Q .non (upd H l (.lst (xs++[y])))
theorem eA:MtM X "list.append" uG:=by
 intro pins s σ H x vs v us Q I rx rv h;obtain⟨l,xs,y,rfl,rfl,hH,hz,q⟩:=h;cases rx;obtain⟨u,rfl,ru⟩:=rv.one;obtain⟨z,its,n,r,hl,e⟩:=I.lstM hH;refine call_meets F.slot_list_append ⟨_,e,rfl⟩ F.entry_list_append (F.args_list_append_2 _ _) (PySem.list_append l its.toArray n u (by rw[aac];omega)) ⟨e,?_⟩;refine⟨.non,_,I.lset (its':=its++[u]) hH e (by simp) (r.append (.cons ru .nil)) ?_,rfl,q⟩;rw[aaz,acd];omega
def yF:R2:=λ x y H Q=>∃ l b xs zs,x=.ref l/\y=.ref b/\H l=some (.lst xs)/\H b=some (.lst zs)/\xs.length+zs.length<=sizeLine/\∀ p,H p=none->Q (.ref p) (upd H p (.lst (xs++zs)))
theorem jO:dS X (binaryOp .Add) yF:=by
 intro pins s σ H x y v u Q I rx ry h;obtain⟨l,b,xs,zs,rfl,rfl,hH,hB,hz,q⟩:=h;cases rx;cases ry;obtain⟨z,its,n,r,hl,e⟩:=I.lstM hH;obtain⟨z2,its2,n2,r2,hl2,e2⟩:=I.lstM hB;refine PySem.P.add_list e e2 ?_ (by rw[aac,aac];omega);have ea:its.toArray++its2.toArray=(its++its2).toArray:=by simp
 rw[ea];exact⟨.ref _,_,I.lnew (t':=s.toks) (r.append r2) (by rw[aaz];omega),rfl,q _ I.fresh⟩
theorem q0 {af:Type} (xs:List af) (k:Nat):(List.replicate k xs).flatten.length=k * xs.length:=by
 induction k with
 | zero=>simp
 | succ k ih=>rw[List.replicate_succ,List.flatten_cons,aaz,ih,Nat.succ_mul,Nat.add_comm]
end
section
variable {prog:Program}{A:Around}{E:Value->Shared->Prop}{s:Shared}
end
section
variable {X:Cx}
end
section
variable {cs:Type}[DecidableEq cs]
end
section
variable {H:Hp}{h:Heap}{a:Addr}
end
section
variable {X:Cx}{pins:List (Addr×Obj)}{σ:St}{H:Hp}{s:Shared}{a:Addr}{y v:V}{u r:Value}{o:Option V}{A:Around}{E:Value->Shared->Prop}
end
section
variable {X:Cx}{pins:List (Addr×Obj)}{σ:St}{H:Hp}{s:Shared}{a:Addr}{kvs:List (kG×V)}{k:kG}{u:Value}{A:Around}{E:Value->Shared->Prop}
end
section
variable {X:Cx}{o i e value:Expr}{pos pos' tpos:Pos}{td ty tv:TE}
end
section
variable {X:Cx}{pos:Pos}
end
section
variable {X:Cx}{pins:List (Addr×Obj)}{σ:St}{H:Hp}{s:Shared}{a:Addr}{y d:V}{u r:Value}{o:Option V}{A:Around}{E:Value->Shared->Prop}
end
section
variable {X:Cx}{o e f:Expr}{apos cpos:Pos}{td ty tx:TE}
end
section
variable {X:Cx}{pins:List (Addr×Obj)}{σ:St}{H:Hp}{s:Shared}{a:Addr}{kvs:List (kG×V)}{A:Around}{E:Value->Shared->Prop}
end
section
variable {X:Cx}{pins:List (Addr×Obj)}{σ:St}{H:Hp}{s:Shared}{a:Addr}{y:V}{u:Value}{A:Around}{E:Value->Shared->Prop}
end
end L2
namespace Att
open PySem PySem.W PySem.Calls PyProof.Rows
theorem iT {P:Params}{h:Heap}:∀ (ns:List Int) (vs:List Value),WellAll P h vs (ns.map WData.int)->IntsAre vs ns:=by
 intro ns
 induction ns with
 | nil=>
  intro vs w;rw[acb] at w;cases w;exact .nil
 | cons n ns ih=>
  intro vs w;rw[abh] at w;cases w with
  | cons a b=>
   cases a;exact .cons _ _ (ih _ b)
theorem qQ {l:OpenLaw}{n:Nat} (hn:l.most=some n) {P:Params}{h:Heap}{args:List WData}{vals:List Value}
  (hpre:l.row.toRowW.claim.pre args=true) (hwl:WellAll P h vals args) :
  ∃ a vs ns,vals=[Value.ref a]/\args=[WData.list (ns.map WData.int)]/\h.get? a=some { cls:=.type "list",data:=.seq vs.toArray }/\IntsAre vs ns/\ns.length<=n:=by
 have hsh:WShape.hasAll [] args [.list .int]=true:=(pre_splitW hpre).1;have hc:l.pre.holds [] { args:=args }=true:=(pre_splitW hpre).2;obtain⟨d,r,rfl,h1,h2⟩:=hasAllW_cons hsh;obtain rfl:=hasAllW_nil h2;obtain⟨xs,rfl,h3⟩:=hasW_list h1;obtain⟨ns,rfl⟩:=items_int h3;have hlen:ns.length<=n:=by
  unfold OpenLaw.pre at hc;have h4:(WTm.not (.lt (.lit (.int (n:Int))) (.len (.arg 0)))).holds [] { args:=[.list (ns.map .int)] }=true:=by
   have h4:=(holds_andW hc).1;rw[hn] at h4;exact h4
  have h5:=condW_of h4 (w_not (w_lt w_lit (w_len_list (w_arg rfl))));rw[aai] at h5;refine Nat.le_of_not_lt λ q=>?_;have q':(n:Int) < ((ns.length:Nat):Int):=by omega
  first
   | (rw[aax q'] at h5;exact absurd h5 (by decide))
   | (simp at h5;omega)
 cases hwl with
 | cons w1 w2=>
  cases w2;cases w1 with
  | list ho hall=>exact⟨_,_,ns,rfl,rfl,ho,iT ns _ hall,hlen⟩
theorem qS (l:OpenLaw) (args:List WData):l.row.toRowW.claim.post args (.bool true) args=true:=
 postW_of (r:=l.row.toRowW) (X:=(true == true))
  (show WShape.has [] (.bool true) .bool=true by first | rfl | decide | simp [WShape.has,WShape.arms,WShape.armsAll])
  (show (WTm.eq .res (.lit (.bool true))).value [] { args:=args,res:=some (.bool true),after:=args }=some (.bool (true == true)) from w_eq_bool (w_res rfl) w_lit) rfl
theorem attach_call {l:OpenLaw}{n:Nat}{q:Program}{loose:List Str}{XP:(Str->Option Value)->Heap->Prop}{YP:World->Heap->Prop}{d:DefRec}
  (hn:l.most=some n) (hdf:d.params.defaults=[])
  (call:∀ (w:World) (s₀ ad:Shared) (mg mb:Str->Option Value) (fa:Addr) (o:Obj) (pm cd doc:Value) (a:Addr) (vs:List Value) (ns:List Int),
   Ground q loose [] XP w s₀ mg mb ad.heap->YP w ad.heap->
   ad.heap.get? fa=some o->o.data=.func (docDef d.name d.params d.body d.scope pm cd doc)->ad.heap.CodeRec cd d.name->mg d.name=some (.ref fa)->
   ad.heap.get? a=some { cls:=.type "list",data:=.seq vs.toArray }->IntsAre vs ns->ns.length<=n->ad.gens = #[]->
   codeAny (model l.prog w) callerA (.call (.ref fa) ⟨[.ref a],[]⟩) (λ r s'=>r=.ok (.ret (.bool true))/\OldK ad.heap s'.heap/\s'.os=ad.os/\AllBare s'.gens) ad) :
  WalkO q loose XP YP l.row.toRowW d [] (λ f vs=>PySem.call f vs):=by
 intro w s₀ ad mg mb G Y fa o pm cd doc dV kV ho hd hcd hD hmg hg args vals as hpre hlay hrd hwl hlo;obtain rfl:dV=.none:=Dflts.none hD hdf;obtain rfl:kV=.none:=Dflts.noKw hD;obtain⟨a,vs,ns,rfl,rfl,hobj,hints,hlen⟩:=qQ hn hpre hwl;refine enter_call (codeAny_mono (call w s₀ ad mg mb fa o pm cd doc a vs ns G Y ho (fd_plain hd) hcd hmg hobj hints hlen hg) λ r s' hq=>?_);obtain⟨rfl,h2,h3,h4⟩:=hq;exact⟨.inl ⟨.bool true,.bool true,[],rfl,λ _=>rfl,.bool true,qS l _,λ _=>⟨List.Pairwise.nil,λ _ hm=>(nomatch hm)⟩⟩,h2,h3,h4⟩
section
variable {prog:Program}{A:Around}{E:Value->Shared->Prop}{s:Shared}{K:Frag}
end
end Att
namespace L2
open PySem PySem.Spec PyProof.Rows
theorem kN:∀ {vs:List Value}{ns:List Int},IntsAre vs ns->aY (ns.map V.int) vs
 | _,_,.nil=>.nil
 | _,_,.cons n t h=>.cons ⟨t,rfl⟩ (kN h)
def xT (H:Hp):Prop:=∀ b,H b=none\/∃ o xs,H b=some (.frz o (.lst xs))
theorem t7 {P:Program}{w:World}{K:aaa}{mg mb:Str->Option Value}{CX:rJ}{k:Nat}{fa a:Addr}{fd:FuncData}{x:Str}{sp:Sp}{ad:Shared}{vs:List Value}{ns:List Int}
  (KX:K.In ad.heap) (hns:ad.heap.Ns mainGlobals mg) (hb:ad.heap.Ns builtinsNs mb) (hbb:∀ x:Str,x ≠ "__name__" -> mb x=bootBuiltins x) (hlim:ad.heap.NoLimit) (hg:ad.gens = #[])
  (ha:ad.heap.get? a=some { cls:=.type "list",data:=.seq vs.toArray }) (hi:IntsAre vs ns) (hl:ns.length<=sizeLine) (hr:Room k callerA)
  (F:∀ base:Heap,K.In base->base.Ns mainGlobals mg->FnOk P w K mg base CX k fa fd [x] sp) (hbind:∀ (s:Shared) (u:Value),BindsTo s fd ⟨[u],[]⟩ [(x,u)])
  (hsp:∀ H:Hp,xT H->cG K H a (ns.map V.int)->sp [.ref a] H (λ v _=>v=.bl true) λ _ _ _=>False)
  (hCX:∀ H e s',CX [] H ad (λ _ _ _=>False) e s'->False) :
  codeAny (model P w) callerA (.call (.ref fa) ⟨[.ref a],[]⟩) (λ r s'=>r=.ok (.ret (.bool true))/\OldK ad.heap s'.heap/\s'.os=ad.os/\AllBare s'.gens) ad:=by
 have rv:=kN hi;have lenV:=hi.length;have core:∀ H:Hp,xT H->cG K H a (ns.map V.int)->iV P w H ad.heap->(∀ b,H b≠none->b=a)->(H a≠none->K.lookup a=none)->
   codeAny (model P w) callerA (.call (.ref fa) ⟨[.ref a],[]⟩) (λ r s'=>r=.ok (.ret (.bool true))/\OldK ad.heap s'.heap/\s'.os=ad.os/\AllBare s'.gens) ad:=by
  intro H hO hS hok hA hK;have base_of:∀ {b:Addr}{o:Obj},ad.heap.get? b=some o->H b=none->(mG ad.heap H).get? b=some o:=λ e n=>tL e n;have noA:∀ {b:Addr}{o:Obj}{es:Array DictEntry}{ep:Nat},ad.heap.get? b=some o->o.data=.dict es ep->H b=none:=λ {b o es ep} e d=>by
   cases q:H b with
   | none=>rfl
   | some u=>
    have e':b=a:=hA b (by rw[q];simp);subst e';rw[ha] at e;cases e;have d':Data.seq vs.toArray _=Data.dict es ep:=d;cases d'
  have nsK:∀ {b:Addr}{m:Str->Option Value},ad.heap.Ns b m->(mG ad.heap H).Ns b m:=λ {b m} ⟨o,es,ep,e,d,r⟩=>⟨o,es,ep,base_of e (noA e d),d,r⟩;have hKb:K.In (mG ad.heap H):=λ b o e=>base_of (KX b o e) (by
   cases q:H b with
   | none=>rfl
   | some u=>
    have e':b=a:=hA b (by rw[q];simp);subst e';rw[hK (by rw[q];simp)] at e;cases e)
  have hM:Mod K mg (mG ad.heap H):=⟨hKb,nsK hns,⟨mb,nsK hb,hbb⟩,let ⟨mc,h1,h2⟩:=hlim;⟨mc,nsK h1,h2⟩⟩;have e0:Env0 P w K mg (mG ad.heap H) callerA [] ad H:=⟨rfl,hM,λ b o e=>uT e,Nat.le_of_eq (qY _ _),trivial,λ b hb=>absurd (show b∈([]:List Addr) from hb) (by simp),hok,.of_eq hg⟩;refine codeAny_mono ((F _ hKb (nsK hns)).run callerA [] ad H ⟨[.ref a],[]⟩ [.ref a] [.ref a] _ _ hr e0 (hbind ad (.ref a)) (.cons rfl .nil) (hsp H hO hS)) λ r s' h=>?_;cases r with
  | error e=>exact (hCX H e s' h).elim
  | ok fl=>
   cases fl with
   | next=>exact False.elim h
   | brk=>exact False.elim h
   | cont=>exact False.elim h
   | ret u=>
    obtain⟨v,H',os,bare,un,hok',r',q⟩:=h;have q':v=.bl true:=q;subst q';obtain rfl:u=Value.bool true:=r';refine⟨rfl,OldK.of_keep λ b o e=>?_,os,bare⟩;cases q:H b with
    | none=>exact un.keep b o e q (by intro z;exact absurd (show b∈([]:List Addr) from z) (by simp)) (by simp)
    | some u=>
     rcases hO b with z | ⟨ob,xs,z⟩
     ·rw[q] at z;cases z
     ·have z2:=un.frzs b ob _ z;obtain⟨e1,_⟩:=hok b _ z;obtain⟨e2,_⟩:=hok' b _ z2;rw[e] at e1;cases e1;exact e2
 cases hk:K.lookup a with
 | some o=>
  have e:=KX a o hk;rw[ha] at e;cases e;refine core (λ _=>none) (λ _=>.inl rfl) (.inr ⟨_,vs.toArray,_,hk,rfl,rfl,rfl,by rw[aac,lenV];exact hl,by simpa using rv⟩) (λ b u z=>by have z':(none:Option HO)=some u:=z;cases z') (λ b z=>absurd rfl z) λ z=>absurd rfl z
 | none=>
  refine core (λ b=>if b=a then some (.frz { cls:=.type "list",data:=.seq vs.toArray } (.lst (ns.map V.int))) else none) (λ b=>?_) (.inl (.inr ⟨{ cls:=.type "list",data:=.seq vs.toArray },if_pos rfl⟩)) (λ b u z=>?_) (λ b z=>?_) λ _=>hk
  ·by_cases hb:b=a
   ·exact .inr ⟨_,_,if_pos hb⟩
   ·exact .inl (if_neg hb)
  ·by_cases hb:b=a
   ·have z':=(if_pos hb).symm.trans z;cases z';subst hb;exact⟨ha,by rw[aai];exact hl,vs,_,rv,ha⟩
   ·have z':=(if_neg hb).symm.trans z;cases z'
  ·by_cases hb:b=a
   ·exact hb
   ·exact absurd (if_neg hb) z
theorem walk_of {l:PySem.W.OpenLaw}{n k:Nat}{q:Program}{loose:List Str}{XP:(Str->Option Value)->Heap->Prop}{YP:World->Heap->Prop}{d:DefRec}{K:Params->aaa}{CX:World->rJ}{sp:World->Sp}{x:Str}
  (hn:l.most=some n) (hn2:n<=sizeLine) (hdf:d.params.defaults=[]) (hr:Room k callerA)
  (hY:∀ (w:World) (h:Heap),YP w h->(K w.params).In h)
  (F:∀ (w:World) (mg:Str->Option Value) (fa:Addr) (h:Heap),(K w.params).In h->h.Ns mainGlobals mg->mg d.name=some (.ref fa)->
   ∃ fd:FuncData,(∀ (s:Shared) (u:Value),BindsTo s fd ⟨[u],[]⟩ [(x,u)])/\
    ∀ base:Heap,(K w.params).In base->base.Ns mainGlobals mg->FnOk l.prog w (K w.params) mg base (CX w) k fa fd [x] (sp w))
  (hsp:∀ (w:World) (H:Hp) (a:Addr) (ns:List Int),ns.length<=n->xT H->cG (K w.params) H a (ns.map V.int)->sp w [.ref a] H (λ v _=>v=.bl true) λ _ _ _=>False)
  (hCX:∀ (w:World) (H:Hp) (s:Shared) (e:Value) (s':Shared),CX w [] H s (λ _ _ _=>False) e s'->False) :
  PySem.W.WalkO q loose XP YP l.row.toRowW d [] (λ f vs=>PySem.call f vs):=by
 refine Att.attach_call hn hdf λ w s₀ ad mg mb fa o pm cd doc a vs ns G Y ho hd hcd hmg hobj hints hlen hg=>?_;have KX:=hY w _ Y;obtain⟨fd,hb,hF⟩:=F w mg fa _ KX G.T.g hmg;exact t7 KX G.T.g G.T.b G.T.builtins G.T.nolimit hg hobj hints (abl hlen hn2) hr hF hb (λ H hO hS=>hsp w H a ns hlen hO hS) λ H e s'=>hCX w H ad e s'
def j5 (s:Stmt) (j:Nat):Stmt:=match s with
 | .ClassDef _ _ _ body _ _ _ _ _ _ _=>body.getD j (.Pass ⟨0,0,0,0⟩)
 | _=>.Pass ⟨0,0,0,0⟩
def fI (s:Stmt):Arguments:=match s with
 | .FunctionDef _ a _ _ _ _ _ _ _ _=>a
 | _=>{ posonlyargs:=[],args:=[],vararg:=none,kwonlyargs:=[],kw_defaults:=[],kwarg:=none,defaults:=[] }
def dM (s:Stmt):List Stmt:=match s with
 | .FunctionDef _ _ b _ _ _ _ _ _ _=>b
 | _=>[]
def aK (s:Stmt):Scope:=match s with
 | .FunctionDef _ _ _ _ _ _ sc _ _ _=>sc
 | _=>{ kind:=.function,names:=[],isGenerator:=false,isCoroutine:=false }
abbrev fK:rJ:=λ _ _ _ _ _ _=>False
abbrev E0:XK:=λ _ _ _=>False
theorem yI {X:Cx}:g8 fK X E0:=λ _ _ _ _ _ _ _ h=>h.elim
structure Fun (K:aaa) (x qual:Str) (st:Stmt) (f:Addr) (fd:FuncData):Prop where
 ex:∃ (oc:Value) (od:Option Addr) (kV doc pm:Value) (an:Option Addr) (cdv ct:Value) (osl:Array (Option Value)),
  fd=PySem.W.fnOf x qual (fI st) (dM st) (aK st) .none kV doc pm an cdv ct/\K.lookup f=some ⟨oc,od,.func fd,osl⟩/\PySem.W.codeIn K cdv qual=true
 kp:PySem.W.keepIn K (.ref f)=true
theorem Fun.ok {x qual:Str}{st:Stmt}{f:Addr}{fd:FuncData}{N ps:List Str}{k:Nat}{sp:Sp} (F:Fun K x qual st f fd) (S:FnScope N ps (aK st)) (len:∀ vs H Q E,sp vs H Q E->vs.length=ps.length)
  (hbody:∀ (cdv:Value) (A:Around) (outer:List Env) (s:Shared) (H:Hp) (vs:List V) (Q:VK) (E:XK),Room k (A.deeper (envOfC qual (aK st) s.heap.objs.size f cdv))->sp vs H Q E->
   ∃ t,nY (nQ fK P w K mg base N qual (aK st) f cdv A outer s H E).nox (dM st) t/\t { nx:=λ _ H'=>Q .non H',rt:=Q } (gD N vs) H):FnOk P w K mg base fK (k+1) f fd ps sp:=by
 obtain⟨oc,od,kV,doc,pm,an,cdv,ct,osl,rfl,lk,hcd⟩:=F.ex;refine vZ lk hcd S len λ A outer s H vs Q E hr hsp=>?_;obtain⟨t,h,q⟩:=hbody cdv A outer s H vs Q E hr hsp;exact⟨t,h.nox,q⟩
theorem Fun.binds {x qual:Str}{st:Stmt}{f:Addr}{fd:FuncData}{ps:List Str} (F:Fun K x qual st f fd)
  (h:∀ (kV doc pm:Value) (an:Option Addr) (cdv ct:Value) (us:List Value),us.length=ps.length->bindArgs (PySem.W.fnOf x qual (fI st) (dM st) (aK st) .none kV doc pm an cdv ct) ⟨us,[]⟩=pure (ps.zip us)):fE K fd ps []:=by
 obtain⟨oc,od,kV,doc,pm,an,cdv,ct,osl,rfl,lk,hcd⟩:=F.ex;exact .all (h kV doc pm an cdv ct)
theorem bT {x qual:Str}{st:Stmt}{f:Addr}{oc:Value}{od an:Option Addr}{osl:Array (Option Value)}{kV doc pm cdv ct:Value} (l:K.lookup f=some ⟨oc,od,.func (PySem.W.fnOf x qual (fI st) (dM st) (aK st) .none kV doc pm an cdv ct),osl⟩)
  (c:PySem.W.codeIn K cdv qual=true) (k:PySem.W.keepIn K (.ref f)=true):Fun K x qual st f (PySem.W.fnOf x qual (fI st) (dM st) (aK st) .none kV doc pm an cdv ct):=⟨⟨oc,od,kV,doc,pm,an,cdv,ct,osl,rfl,l,c⟩,k⟩
theorem cR {n:Nat} (h:n<=1000):n < sizeLine:=Nat.lt_of_le_of_lt h (by decide)
section
variable {X:Cx}
theorem pv (i:Nat) {x:Str}{pos:Pos} (hN:X.N[i]? = some x:=by rfl) (hv:Vis X.env.scope x:=by first | exact Or.inl rfl | exact Or.inr (Or.inl rfl) | exact Or.inr (Or.inr rfl)) (hd:(x == ("__debug__" : Str))=false:=by decide)
  (hcd:(x == ("__classdict__" : Str))=false:=by decide):PE X (.Name x pos) (bZ i):=wV hN hv hd hcd
end
theorem aV {A B:Prop} (h:B):if false=true then A else B:=by
 rw[if_neg aag];exact h
theorem aU {A B:Prop} (h:A):if true=true then A else B:=by
 rw[if_pos rfl];exact h
theorem cV {c A B:Prop} [Decidable c] (h1:c->A) (h2:¬ c->B):if c then A else B:=by
 by_cases h:c
 ·rw[if_pos h];exact h1 h
 ·rw[if_neg h];exact h2 h
theorem yQ {c A B:Prop} [Decidable c] (hc:c) (h:B):if (!decide c)=true then A else B:=by
 rw[aax hc];exact aV h
def aH (H H':Hp):Prop:=∀ b o,H b=some o->H' b=some o
theorem aH.refl (H:Hp):aH H H:=λ _ _ h=>h
theorem aH.trans {H H1 H2:Hp} (a:aH H H1) (b:aH H1 H2):aH H H2:=λ c o h=>b c o (a c o h)
theorem aH.free {H H':Hp} (e:aH H H') {l:Addr} (h:H' l=Option.none):H l=Option.none:=by
 cases q:H l with
 | none=>rfl
 | some o=>
  rw[e l o q] at h;cases h
end L2
set_option maxHeartbeats 4000000
namespace L2
open PySem PySem.Spec PyProof.Rows
theorem d3 {env:Env} (hk:env.scope.kind=.function):∀ {names:List (Str×NameKind)}{x:Str},names.lookup x=some .free->env.kindOf x=some .cell->
  (names.map λ (n,k)=>if (k == NameKind.free && env.scope.kind == .function && env.kindOf n == some .cell) then (n,NameKind.cell) else (n,k)).lookup x=some .cell
 | [],_,h,_=>by simp at h
 | (n,k)::r,x,h,hc=>by
  have ih:=@d3 env hk r x;show List.lookup x ((if (k == NameKind.free && env.scope.kind == .function && env.kindOf n == some .cell)=true then (n,NameKind.cell) else (n,k))::_)=_;cases hx:x == n with
  | true=>
   simp only [List.lookup_cons,hx] at h;cases h;have e:x=n:=by simpa using hx
   subst e;rw[if_pos (by rw[hk,hc];decide)];simp [List.lookup_cons]
  | false=>
   simp only [List.lookup_cons,hx] at h
   by_cases hq:(k == NameKind.free && env.scope.kind == .function && env.kindOf n == some .cell)=true
   ·rw[if_pos hq];simp only [List.lookup_cons,hx];exact ih h hc
   ·rw[if_neg hq];simp only [List.lookup_cons,hx];exact ih h hc
def u4 (env:Env):List (Str×Addr)->Prop
 | []=>True
 | p::r=>env.cells.lookup p.1=some p.2/\u4 env r
theorem u4.get {env:Env}:∀ {cl:List (Str×Addr)},u4 env cl->∀ x c,cl.lookup x=some c->env.cells.lookup x=some c
 | [],_,_,_,e=>by simp at e
 | (n,a)::r,h,x,c,e=>by
  cases hx:x == n with
  | true=>
   simp only [List.lookup_cons,hx] at e;cases e;have e':x=n:=by simpa using hx
   subst e';exact h.1
  | false=>
   simp only [List.lookup_cons,hx] at e;exact u4.get h.2 x c e
def nW (X:Cx) (scope:Scope) (N':List Str):List (Option Nat)->Nat->Prop
 | [],_=>True
 | none::r,i=>nW X scope N' r (i+1)
 | some j::r,i=>(∃ x,N'[i]? = some x/\X.N[j]? = some x/\scope.names.lookup x=some .free/\X.env.kindOf x=some .cell)/\nW X scope N' r (i+1)
theorem nW.get {X:Cx}{scope:Scope}{N':List Str}:∀ {fr:List (Option Nat)}{k:Nat},nW X scope N' fr k->∀ i j,fr[i]? = some (some j)->
  ∃ x,N'[k+i]? = some x/\X.N[j]? = some x/\scope.names.lookup x=some .free/\X.env.kindOf x=some .cell
 | [],_,_,i,j,e=>by simp at e
 | none::r,k,h,0,j,e=>by simp at e
 | some _::r,k,h,0,j,e=>by simp at e;subst e;exact h.1
 | none::r,k,h,i+1,j,e=>by
  have:=nW.get (k:=k+1) (show nW X scope N' r (k+1) from h) i j (by simpa using e)
  rwa [Nat.add_right_comm] at this
 | some _::r,k,h,i+1,j,e=>by
  have:=nW.get (k:=k+1) h.2 i j (by simpa using e)
  rwa [Nat.add_right_comm] at this
structure LcOk (X:Cx) (scope:Scope) (cl:List (Str×Addr)) (N':List Str) (fr:List (Option Nat)):Prop where
 clos:closureFor scope X.env=pure cl
 cls:u4 X.env cl
 kind:scope.kind=.function
 nocell:(scope.names.all λ p=>p.2 != NameKind.cell)=true
 locs:(scope.names.all λ p=>p.2 != NameKind.local || scope.names.lookup p.1 == some NameKind.local)=true
 frees:(scope.names.all λ p=>p.2 != NameKind.free || (cl.lookup p.1).isSome)=true
 len:fr.length=N'.length
 fr:nW X scope N' fr 0
def u7 (fr:List (Option Nat)) (σ:St):St:=fr.map λ o=>o.bind λ j=>(σ[j]?).join
def mS (X:Cx) (N':List Str) (scope:Scope) (cl:List (Str×Addr)) (fp:List Addr) (s:Shared) (H:Hp):Cx:=
 { X with N:=N',s₀:=s,H₀:=H,env:=compEnvC scope cl s.heap.objs.size X.env,outer:=X.stack,ex:=fp,fn:=λ _=>false,pn:=[] }
def PIf (X:Cx) (ifs:List Expr) (t:TT):Prop:=
 ∀ (pins:List (Addr×Obj)) (s:Shared) (σ:St) (H:Hp) (Q:Bool->Hp->Prop),Inv X pins σ H s->t σ H Q->
  wpAny (model X.prog X.w) X.A (forIn ifs true λ c r=>if r=true then do let ok <- isTrue c X.env (eval c X.env);pure (ForInStep.yield ok) else pure (ForInStep.yield r)) (TP X pins σ Q) X.xe s
def rQ:TT:=λ _ H Q=>Q true H
theorem eH {X:Cx}:PIf X [] rQ:=λ _ _ _ H _ I h=>wpAny_tests_nil ⟨H,I,h⟩
def i8 (J:It) (g:TG) (tc:TT) (te:TE) (fr:List (Option Nat)) (σ:St) (H1:Hp) (Q:Addr->Hp->Prop):Prop:=
 ∀ D,H1 D=none->∃ W:Nat->Nat->List V->St->Hp->Prop,(∃ m,W 0 m [] (u7 fr σ) (upd H1 D (.lst [])))/\
  ∀ i m ys aa H',W i m ys aa H'->(J.stop i H'/\Q D H')\/
   (J.go i H'/\∃ N:List V->St->Hp->Prop,(∀ ys' ck H'',N ys' ck H''->∃ m',m' < m/\W (i+1) m' ys' ck H'')/\
    ∀ x H2,J.yld i H' x H2->g x aa H2 λ ae H3=>tc ae H3 λ b H4=>
    if b=true then te ae H4 λ y H5=>H5 D=some (.lst ys)/\ys.length < sizeLine/\N (ys++[y]) ae (upd H5 D (.lst (ys++[y])))
    else N ys ae H4)
theorem t6 {J:It}{n:Nat}{g:TG}{tc:TT}{te:TE}{fr:List (Option Nat)}{σ:St}{H1:Hp}{Q:Addr->Hp->Prop} (Pv:Addr->Nat->List V->St->Hp->Prop)
  (h0:∀ D,H1 D=none->Pv D 0 [] (u7 fr σ) (upd H1 D (.lst [])))
  (hstop:∀ D ys aa H',Pv D n ys aa H'->J.stop n H'/\Q D H')
  (hgo:∀ D i ys aa H',i < n->Pv D i ys aa H'->J.go i H'/\∀ x H2,J.yld i H' x H2->g x aa H2 λ ae H3=>tc ae H3 λ b H4=>
    if b=true then te ae H4 λ y H5=>H5 D=some (.lst ys)/\ys.length < sizeLine/\Pv D (i+1) (ys++[y]) ae (upd H5 D (.lst (ys++[y])))
    else Pv D (i+1) ys ae H4):i8 J g tc te fr σ H1 Q:=by
 intro D hD;refine⟨λ i m ys σ H=>m=n - i/\i<=n/\Pv D i ys σ H,⟨n,by simp,aay _,h0 D hD⟩,?_⟩;rintro i m ys aa H' ⟨rfl,hi,p⟩
 by_cases hlt:i < n
 ·obtain⟨go,step⟩:=hgo D i ys aa H' hlt p;exact .inr ⟨go,Pv D (i+1),λ ys' ck H'' p'=>⟨n - (i+1),by omega,rfl,hlt,p'⟩,step⟩
 ·have e:i=n:=by omega
  subst e;exact .inl (hstop D ys aa H' p)
theorem vD {J:It}{n:Nat}{g:TG}{tb:TS}{D:Ends}{σ:St}{H:Hp} (Pv:Nat->St->Hp->Prop) (h0:Pv 0 σ H) (hstop:∀ σ H,Pv n σ H->J.stop n H/\D.nx σ H)
  (hgo:∀ i σ H,i < n->Pv i σ H->J.go i H/\∀ x H',J.yld i H x H'->g x σ H' λ ah H2=>tb { D with nx:=Pv (i+1),ct:=Pv (i+1),bk:=D.nx } ah H2) :
  ∃ W:Nat->Nat->St->Hp->Prop,(∃ m,W 0 m σ H)/\∀ i m σ H,W i m σ H->
   (J.stop i H/\D.nx σ H)\/(J.go i H/\∃ N:St->Hp->Prop,(∀ aa H',N aa H'->∃ m',m' < m/\W (i+1) m' aa H')/\∀ x H',J.yld i H x H'->g x σ H' λ ah H2=>tb { D with nx:=N,ct:=N,bk:=D.nx } ah H2):=by
 refine⟨λ i m σ H=>m=n - i/\i<=n/\Pv i σ H,⟨n,by simp,aay _,h0⟩,?_⟩;rintro i m σ H ⟨rfl,hi,p⟩
 by_cases hlt:i < n
 ·obtain⟨go,step⟩:=hgo i σ H hlt p;exact .inr ⟨go,Pv (i+1),λ aa H' p'=>⟨n - (i+1),by omega,rfl,hlt,p'⟩,step⟩
 ·have e:i=n:=by omega
  subst e;exact .inl (hstop σ H p)
def tLC (wi:TI) (fr:List (Option Nat)) (g:TG) (tc:TT) (te:TE):TE:=λ σ H Q=>wi σ H λ J H1=>i8 J g tc te fr σ H1 λ D H'=>Q (.ref D) H'
section
variable {prog:Program}{A:Around}{R:Result->Shared->Prop}{s:Shared}
theorem mK {elt target iter:Expr}{ifs:List Expr}{scope:Scope}{pos:Pos}{it acc:Value}{env:Env} (I:Nat->Shared->Prop)
  (turn:∀ n s,I n s->wpAny (model prog w) A (pyNext it) (λ r ad=>match r with
   | none=>R (.ok .next) ad
   | some v=>wpAny (model prog w) A (letOwnedTupleGo target it v) (λ _ cp=>wpAny (model prog w) A (assign target env v) (λ _ bf=>
     wpAny (model prog w) A (forIn ifs true λ c r=>if r=true then do let ok <- isTrue c env (eval c env);pure (ForInStep.yield ok) else pure (ForInStep.yield r)) (λ ok bi=>
      if ok=true then wpAny (model prog w) A (eval elt env) (λ x bw=>
       wpAny (model prog w) A (call (.builtin "list.append") [acc,x]) (λ _ cy=>∃ m,m < n/\I m cy) (notedBy (model prog w) A env λ e s'=>R (.error e) s') bw) (notedBy (model prog w) A env λ e s'=>R (.error e) s') bi
      else ∃ m,m < n/\I m bi) (notedBy (model prog w) A env λ e s'=>R (.error e) s') bf) (notedBy (model prog w) A env λ e s'=>R (.error e) s') cp) (notedBy (model prog w) A env λ e s'=>R (.error e) s') ad)
    (notedBy (model prog w) A env λ e s'=>R (.error e) s') s)
  (n:Nat) (h:I n s) :
  codeAny (model prog w) A (.compLoop (.ListComp elt [⟨target,iter,ifs,0⟩] scope pos) 0 it acc env) R s:=by
 refine codeAny_loop rfl I (λ n s hI=>?_) n h;show wpAny _ A ((compTurn (.ListComp elt [⟨target,iter,ifs,0⟩] scope pos) 0 it acc env).onRaise (λ x=>do noteFrame x env;theTreesLotGoes x)) _ _ s;refine wpAny_noted ?_;rw[compTurn_list];refine aab (wpAny_standAt (aab (aba (turn n s hI) (λ r ad ag=>?_) λ _ _ h'=>h')));cases r with
 | none=>exact aah ag
 | some v=>
  refine aab (aba ag (λ _ cp h₁'=>?_) λ _ _ h'=>h');refine aab (aba h₁' (λ _ bf aq=>aab (aba aq (λ ok bi ai=>?_) λ _ _ h'=>h')) λ _ _ h'=>h');cases ok with
  | false=>exact aah ⟨rfl,ai⟩
  | true=>
   exact aab (aab (aba ai (λ x bw bb=>aab (aba bb (λ _ cy aj=>aah (aah ⟨rfl,aj⟩)) λ _ _ h'=>h')) λ _ _ h'=>h'))
end
section
variable {X:Cx}
theorem LcOk.invC {scope:Scope}{cl:List (Str×Addr)}{N':List Str}{fr:List (Option Nat)}{pins:List (Addr×Obj)}{σ:St}{H:Hp}{s:Shared}{h1:Heap}{fp:List Addr}{m1:Str->Option Value}{tk:Nat}
  (S:LcOk X scope cl N' fr) (I:Inv X pins σ H s) (hf:∀ b∈fp,g9 X pins H b) (hfo:∀ b∈fp,b < s.heap.objs.size)
  (k:∀ b o,s.heap.get? b=some o->h1.get? b=some o) (hn:h1.Ns s.heap.objs.size m1):Inv (mS X N' scope cl fp s H) [] (u7 fr σ) H { s with heap:=h1,toks:=tk }:=by
 have hfree:=S.frees;have hcell:=S.nocell;rw[aaw] at hfree hcell;have fresh:H s.heap.objs.size=none:=I.hok.fresh (aaj _);have clg:=S.cls.get;refine⟨⟨I.ok.mod,S.kind,I.ok.glob,I.ok.blt,aaj _,λ x y c e1 e2=>I.ok.inj x y c (clg x c e1) (clg y c e2),λ x hx=>?_,(λ x c e=>nomatch e),I.ok.hd,I.ok.frames,.inl rfl,λ b hb=>⟨aar (hfo b hb),λ x c e=>(hf b hb).2.2.2.2.1 x c (clg x c e)⟩,
  I.bs,abl I.ok.bsz I.sz,λ b o e hb=>?_,λ b hb hz=>?_,I.stack,I.stkFree⟩,rfl,I.bare,Un.kept k,⟨m1,hn,λ i x v e1 e2 e3=>?_⟩,λ x c e=>?_,fresh,λ x c e=>I.freeC x c (clg x c e),λ p hp=>absurd (show p∈([]:List (Addr×Obj)) from hp) (by simp),I.hok.kept k,?_⟩
 ·
  have hm:∃ k',(x,k')∈scope.names/\k'=NameKind.free:=by
   have hx':(relabel scope X.env).names.lookup x=some .cell\/(relabel scope X.env).names.lookup x=some .free:=hx;obtain⟨k',e,hk'⟩:∃ k',(relabel scope X.env).names.lookup x=some k'/\(k'=.cell\/k'=.free):=by
    rcases hx' with e | e
    ·exact⟨_,e,.inl rfl⟩
    ·exact⟨_,e,.inr rfl⟩
   have hmem:=abg e;obtain⟨⟨n,kn⟩,hp,he⟩:=List.mem_map.mp hmem;dsimp only at he
   split at he
   ·rename_i hc
    cases he;have:kn=.free:=by
     simp only [Bool.and_eq_true,beq_iff_eq] at hc;exact hc.1.1
    exact⟨kn,hp,this⟩
   ·cases he;rcases hk' with e' | e'
    ·subst e';have:=hcell _ hp;simp at this
    ·exact⟨_,hp,e'⟩
  obtain⟨k',hp,rfl⟩:=hm;have:=hfree _ hp;simp only [bne_self_eq_false,Bool.false_or] at this;exact Option.isSome_iff_exists.mp this
 ·rcases (hf b hb).2.2.2.1 with z | z
  ·exact I.ok.noex b o e z
  ·have:=aal e;exact absurd (aak this (abl I.ok.bsz z)) (abn _)
 ·obtain⟨_,f1,f2,_⟩:=hf b hb;rcases aas.mp (I.stkSub b hz) with e | e
  ·exact f1 e
  ·exact f2 e
 ·
  unfold u7 at e2;rw[abe] at e2;cases ef:fr[i]? with
  | none=>rw[ef] at e2;cases e2
  | some o=>
   rw[ef] at e2;cases o with
   | none=>simp at e2
   | some j=>
    have e2':(σ[j]?).join=some v:=by simpa using e2
    obtain⟨x',h1',h2',h3',h4'⟩:=S.fr.get i j ef;rw[Nat.zero_add] at h1';have ex:x'=x:=by
     have:N'[i]? = some x:=e1;rw[h1'] at this;exact aav this
    subst ex;have e2'':σ[j]? = some (some v):=by
     cases q:σ[j]? with
     | none=>rw[q] at e2';cases e2'
     | some z=>rw[q] at e2';simp at e2';rw[e2']
    obtain⟨m,hm,hl⟩:=I.loc;obtain⟨u,r,lk⟩:=hl j x' v h2' e2'' (.inr (.inl h4'));refine⟨u,r,?_⟩;rcases lk with ⟨q,_⟩ | ⟨_,c,hc,z⟩
    ·rw[h4'] at q;cases q
    ·have hcl:∃ c',cl.lookup x'=some c':=by
      have:=hfree _ (abg h3');simp only [bne_self_eq_false,Bool.false_or] at this;exact Option.isSome_iff_exists.mp this
     obtain⟨c',hc'⟩:=hcl;have e':=clg x' c' hc';rw[hc] at e';cases e';obtain⟨oc,hoc,hd⟩:=z;refine .inr ⟨.inl ?_,c,hc',oc,k c oc hoc,hd⟩;exact d3 I.ok.kind h3' h4'
 ·obtain⟨v,oc,hoc,hd⟩:=I.cell x c (clg x c e);exact⟨v,oc,k c oc hoc,hd⟩
 ·show (u7 fr σ).length=N'.length;unfold u7;rw[aai,S.len]
theorem Inv.outC {scope:Scope}{cl:List (Str×Addr)}{N':List Str}{pins pins':List (Addr×Obj)}{σ aa:St}{H H':Hp}{s s':Shared}{fp:List Addr} (I:Inv X pins σ H s) (J:Inv (mS X N' scope cl fp s H) pins' aa H' s')
  (hf:∀ b∈fp,g9 X pins H b):Inv X pins σ H' s':=
 I.call' (ch:=fp) J.os J.base J.hok J.bare λ b hb=>by
  obtain⟨_,f1,_,f3,f4,f5⟩:=hf b hb;exact⟨f3,f1,f4,f5⟩
theorem Inv.letgo {pins:List (Addr×Obj)}{σ:St}{H:Hp}{s:Shared}{C:Addr}{h':Heap} (I:Inv X pins σ H s) (f:g9 X pins H C) (hsb:Heap.SameBut C s.heap h'):Inv X pins σ H { s with heap:=h' }:=by
 obtain⟨f0,f1,f2,f3,f4,f5⟩:=f;exact I.turned (t':=s.toks) (it:=C) (h':=h') (λ b o hb e=>(hsb.2 b hb).trans e) f0 f1 f3 f4 f5
theorem nJ {elt tg iter:Expr}{ifs:List Expr}{scope:Scope}{pos:Pos}{N':List Str}{fr:List (Option Nat)}{cl:List (Str×Addr)}{g:TG}{tc:TT}{te:TE}
  {pins:List (Addr×Obj)}{σ:St}{H:Hp}{s:Shared}{J:It}{fp:List Addr}{it:Addr}{tn:Nat->Heap->Prop}{Q:Addr->Hp->Prop}{RR:Value->Addr->Result->Shared->Prop}{E:Value->Shared->Prop}
  (hx:∀ e s,¬ X.xe e s) (hc:X.calm=true) (S:LcOk X scope cl N' fr)
  (hg:∀ fp s H,PG (mS X N' scope cl fp s H) tg g) (ht:∀ fp s H,PIf (mS X N' scope cl fp s H) ifs tc) (he:∀ fp s H,PE (mS X N' scope cl fp s H) elt te)
  (I:Inv X pins σ H s) (T:Turn X.prog X.w X.K tg J fp it tn) (st:tn 0 s.heap) (hf:∀ b∈fp,g9 X pins H b) (h:i8 J g tc te fr σ H Q)
  (hRR:∀ D C H' s' m',Inv X pins σ H' s'->Q D H'->s'.heap.Ns C m'->g9 X pins H' C->RR (.ref D) C (.ok .next) s') :
  wpAny (model X.prog X.w) X.A (newList []) (λ acc bi=>wpAny (model X.prog X.w) X.A (newFunctionEnv scope X.env.globals cl [] X.env.qual none .none (some X.env)) (λ cenv bw=>
   codeAny (model X.prog X.w) X.A (.compStart (.ListComp elt [⟨tg,iter,ifs,0⟩] scope pos) 0 (.ref it) acc { cenv with scope:=relabel scope X.env }) (RR acc cenv.locals) bw) E bi) E s:=by
 have hcell:=S.nocell;rw[aaw] at hcell;refine wpAny_newObj_type (wpAny_newFunctionEnv (λ x hx'=>by simpa using hcell x hx') (by intro y hy;simp at hy) (λ ag bj bp=>?_) S.kind);dsimp only at bj bp ⊢;have fresh:H s.heap.objs.size=none:=I.hok.fresh (aaj _);have I3:Inv X pins σ (upd H s.heap.objs.size (.lst [])) { s with heap:=s.heap.push { cls:=.type "list",data:=.seq ([]:List Value).toArray },toks:=s.toks }:=I.lnew (ys:=[]) (its:=[]) .nil (aay _);have hf3:∀ b∈fp,g9 X pins (upd H s.heap.objs.size (.lst [])) b:=λ b hb=>by
  obtain⟨o,ho,_⟩:=T.obj _ _ st b hb;exact⟨by rw[aJ (aar (aal ho))];exact (hf b hb).1,(hf b hb).2⟩
 generalize hs3:({ s with heap:=s.heap.push { cls:=.type "list",data:=.seq ([]:List Value).toArray },toks:=s.toks }:Shared)=s3 at I3;have e3:s3.heap=s.heap.push { cls:=.type "list",dict:=none,data:=.seq ([]:List Value).toArray }:=by rw[<- hs3]
 have e3s:({ s with heap:=s.heap.push { cls:=.type "list",dict:=none,data:=.seq ([]:List Value).toArray } }:Shared)=s3:=hs3;have hsz3:s3.heap.objs.size=s.heap.objs.size+1:=by rw[e3,Heap.size_push]
 have hfo:∀ b∈fp,b < s3.heap.objs.size:=λ b hb=>by
  obtain⟨o,ho,_⟩:=T.obj _ _ st b hb;rw[hsz3];exact Nat.lt_succ_of_lt (aal ho)
 rw[<- e3] at bj bp ⊢;have old3:∀ b o,s3.heap.get? b=some o->ag.get? b=some o:=λ b o e=>bp.extBut b o (aar (aal e)) (aad _ e);have old:∀ b o,s.heap.get? b=some o->s3.heap.get? b=some o:=λ b o e=>by rw[e3];exact aad _ e
 have I4:=S.invC (tk:=s3.toks) I3 hf3 hfo old3 bj;obtain⟨W,⟨m0,w0⟩,turn⟩:=h s.heap.objs.size fresh;have stat:∀ {H':Hp},(∀ b∈fp,H' b=none)->∀ b∈fp,g9 (mS X N' scope cl fp s3 (upd H s.heap.objs.size (.lst []))) [] H' b:=λ hn b hb=>by
  refine⟨hn b hb,aar (hfo b hb),?_,.inl hb,λ x c e=>(hf b hb).2.2.2.2.1 x c (S.cls.get x c e),λ p hp=>absurd (show p∈([]:List (Addr×Obj)) from hp) (by simp)⟩;intro hz;obtain⟨_,f1,f2,_⟩:=hf b hb;rcases aas.mp (I.stkSub b hz) with e | e
  ·exact f1 e
  ·exact f2 e
 have loop:∀ s4:Shared,s4={ s3 with heap:=ag,toks:=s3.toks }->
   codeAny (model X.prog X.w) X.A (.compLoop (.ListComp elt [⟨tg,iter,ifs,0⟩] scope pos) 0 (.ref it) (.ref s.heap.objs.size) (compEnvC scope cl s3.heap.objs.size X.env)) (RR (.ref s.heap.objs.size) s3.heap.objs.size) s4:=by
  intro s4 hs4;refine mK (λ n s'=>∃ i ys aa H',Inv (mS X N' scope cl fp s3 (upd H s.heap.objs.size (.lst []))) [] aa H' s'/\tn i s'.heap/\(∀ b∈fp,H' b=none)/\W i n ys aa H') ?_ m0
   ⟨0,[],u7 fr σ,_,by rw[hs4];exact I4,by rw[hs4];exact T.keep _ _ _ st λ b _ o e=>old3 b o (old b o e),λ b hb=>(hf3 b hb).1,w0⟩
  rintro n s5 ⟨i,ys,ci,H5,I5,st5,fr5,w5⟩;rcases turn i n ys ci H5 w5 with ⟨stop,qn⟩ | ⟨go,N,hN,step⟩
  ·refine cH (T.done (mS X N' scope cl fp s3 (upd H s.heap.objs.size (.lst []))) rfl rfl rfl hc i [] s5 ci H5 _ I5 (stat fr5) st5 stop) λ r s6 ⟨hr,I6⟩=>?_;subst hr;obtain⟨m',hm',_⟩:=I6.loc;exact hRR _ _ H5 s6 m' (I3.outC I6 hf3) qn hm' (I3.fpOk (aaj _) I6.free)
  ·refine cH (T.item (mS X N' scope cl fp s3 (upd H s.heap.objs.size (.lst []))) rfl rfl rfl hc i [] s5 ci H5 _ I5 (stat fr5) st5 go) λ r s6 ⟨u,hr,h6⟩=>?_;subst hr;refine cH h6 λ _ s7 ⟨x,H7,I7,r7,y7,st7,fr7⟩=>?_;have I7':=I7.pinned (stat fr7) (T.obj _ _ st7);refine aba (hg fp s3 _ _ s7 ci H7 x u _ I7' r7 (step x H7 y7)) (λ _ s8 ⟨bc,H8,I8,q8⟩=>?_) λ e s' z=>(hx e s' z).elim;refine aba (ht fp s3 _ _ s8 bc H8 _ I8 q8) (λ ok s9 ⟨H9,I9,q9⟩=>?_) λ e s' z=>(hx e s' z).elim;have again:∀ {s10:Shared}{H10:Hp}{ys':List V},Inv (mS X N' scope cl fp s3 (upd H s.heap.objs.size (.lst []))) ([]++jM fp s7.heap) bc H10 s10->N ys' bc H10->
     ∃ m,m < n/\∃ i ys aa H',Inv (mS X N' scope cl fp s3 (upd H s.heap.objs.size (.lst []))) [] aa H' s10/\tn i s10.heap/\(∀ b∈fp,H' b=none)/\W i m ys aa H':=λ {s10 H10 ys'} I10 n10=>by
    obtain⟨m',hm,w10⟩:=hN ys' bc H10 n10;refine⟨m',hm,i+1,ys',bc,H10,I10.unpinned,T.keep _ _ _ st7 λ b hb o e=>(I10.pin (b,o) (aap _ (aap _ (eI hb e)))).1,λ b hb=>?_,w10⟩;obtain⟨o,e,d⟩:=T.obj _ _ st7 b hb;exact (I10.pin (b,o) (aap _ (aap _ (eI hb e)))).2.1
   cases ok with
   | false=>
    rw[if_neg aag] at q9 ⊢;exact again I9 q9
   | true=>
    rw[if_pos rfl] at q9 ⊢;refine aba (he fp s3 _ _ s9 bc H9 _ I9 q9) (λ y s10 ⟨yv,H10,I10,r10,hD,hlen,q10⟩=>?_) λ e s' z=>(hx e s' z).elim;refine aba (eA (X:=mS X N' scope cl fp s3 (upd H s.heap.objs.size (.lst []))) _ s10 bc H10 (.ref s.heap.objs.size) [yv] (.ref s.heap.objs.size) [y] (λ _ H11=>H11=upd H10 s.heap.objs.size (.lst (ys++[yv]))) I10 rfl (.cons r10 .nil)
     ⟨_,ys,yv,rfl,rfl,hD,hlen,rfl⟩) (λ _ s11 ⟨_,H11,I11,_,e11⟩=>?_) λ e s' z=>(hx e s' z).elim
    subst e11;exact again I11 q10
 exact codeAny_compStart_list (loop _ (by rw[<- e3s];rfl)) (T.self X.A 0 _ _ _ (T.keep _ _ _ st λ b _ o e=>old3 b o (old b o e)) (loop _ (by rw[<- e3s];rfl)))
theorem kU {elt tg iter:Expr}{ifs:List Expr}{scope:Scope}{pos:Pos}{N':List Str}{fr:List (Option Nat)}{cl:List (Str×Addr)}{wi:TI}{g:TG}{tc:TT}{te:TE}
  (hx:∀ e s,¬ X.xe e s) (hc:X.calm=true) (S:LcOk X scope cl N' fr) (hi:PI X tg iter wi)
  (hg:∀ fp s H,PG (mS X N' scope cl fp s H) tg g) (ht:∀ fp s H,PIf (mS X N' scope cl fp s H) ifs tc) (he:∀ fp s H,PE (mS X N' scope cl fp s H) elt te)
  (hs:∀ x,foldedSetIterable iter X.env x=pure x:=by intro _;rfl):PE X (.ListComp elt [⟨tg,iter,ifs,0⟩] scope pos) (tLC wi fr g tc te):=by
 intro pins s σ H Q I h;have hloc:=S.locs;rw[aaw] at hloc;rw[eval_ListComp];refine wpAny_comprehension_free (use:=none) rfl hs S.clos S.kind (λ x hx' hl=>by have:=hloc x hx';rw[hl] at this;simpa using this) (cH (hi pins s σ H _ I h) λ v s1 h1=>cH h1 λ itv s2 h2=>?_);obtain⟨it,fp,tn,J,H2,e,I2,T,st2,f2,rest⟩:=h2;subst e;refine nJ (RR:=λ acc C=>compPost (model X.prog X.w) X.A X.xe none (EP X pins σ Q) acc C) hx hc S hg ht he I2 T st2 f2 rest ?_;intro D C H' s' m' I' q hn f;exact⟨m',hn,λ h' hsb=>⟨.ref D,H',I'.letgo f hsb,rfl,q⟩⟩
theorem qR {i:Nat}{y:Str}{py:Pos}{spos:Pos}{elt tg iter:Expr}{ifs:List Expr}{scope:Scope}{pos:Pos}{N':List Str}{fr:List (Option Nat)}{cl:List (Str×Addr)}{wi:TI}{g:TG}{tc:TT}{te:TE}
  (hN:X.N.Nodup) (hy:X.N[i]? = some y) (hk:X.env.scope.names.lookup y=some .local)
  (hx:∀ e s,¬ X.xe e s) (hc:X.calm=true) (S:LcOk X scope cl N' fr) (hi:PI X tg iter wi)
  (hg:∀ fp s H,PG (mS X N' scope cl fp s H) tg g) (ht:∀ fp s H,PIf (mS X N' scope cl fp s H) ifs tc) (he:∀ fp s H,PE (mS X N' scope cl fp s H) elt te)
  (hsw:swapsWith (.ListComp elt [⟨tg,iter,ifs,0⟩] scope pos) (some (.Name y py)) spos.line X.env=pure true:=by rfl)
  (hs:∀ x,foldedSetIterable iter X.env x=pure x:=by intro _;rfl):PS X (.Assign [.Name y py] (.ListComp elt [⟨tg,iter,ifs,0⟩] scope pos) spos) (eP (tLC wi fr g tc te) (cC i)):=by
 intro pins s σ H D I h;have hloc:=S.locs;rw[aaw] at hloc;rw[exec_Assign_Name_used _ _ _ _ hsw];refine aab (wpAny_standAt (aab ?_));show wpAny _ X.A (do let _ <- comprehension (.ListComp elt [⟨tg,iter,ifs,0⟩] scope pos) scope X.env _ (newList []) false (eval iter X.env) (some (assign (.Name y py) X.env))) _ _ s;refine aab (aba (wpAny_comprehension_free (use:=some (assign (.Name y py) X.env)) (Q:=λ _ s'=>SP X pins D .next s') rfl hs S.clos S.kind (λ x hx' hl=>by have:=hloc x hx';rw[hl] at this;simpa using this)
  (cH (hi pins s σ H _ I h) λ v s1 h1=>cH h1 λ itv s2 h2=>?_)) (λ _ s' hq=>aah (aah hq)) λ _ _ e=>e)
 obtain⟨it,fp,tn,J,H2,e,I2,T,st2,f2,rest⟩:=h2;subst e;refine nJ (RR:=λ acc C=>compPost (model X.prog X.w) X.A X.xe (some (assign (.Name y py) X.env)) (λ _ s'=>SP X pins D .next s') acc C) hx hc S hg ht he I2 T st2 f2 rest ?_;intro Da C H' s' m' I' q hn f;show wpAny _ X.A (assign (.Name y py) X.env (.ref Da)) _ _ _;refine wpAny_assign_Name (kP I' hN hy (.inl hk) (v:=.ref Da) rfl (λ s'' I'' hch=>?_) (.inr hk));obtain⟨a,hsb,ha⟩:=hch;have haC:a≠C:=by
  rcases ha with e | e
  ·rw[e];exact Ne.symm f.2.1
  ·exact f.2.2.2.2.1 _ _ e
 exact⟨m',hn.sameBut hsb (Ne.symm haC),λ h' hs'=>⟨_,H',I''.letgo f hs',q⟩⟩
end
end L2
namespace TwZ
open PySem
open Sem (wp)
def eQ (h:Heap) (t:Bool) (it a:Addr) (i:Nat):Prop:=if t=true then h.IsTupleIter it a i else h.IsListIter it a i
def eO (h:Heap) (t:Bool) (a:Addr) (items:Array Value):Prop:=if t=true then h.IsTuple a items else h.IsList a items
theorem eQ.at {h h':Heap}{t:Bool}{it a:Addr}{i:Nat} (x:eQ h t it a i) (k:∀ o,h.get? it=some o->h'.get? it=some o):eQ h' t it a i:=by
 cases t <;> (obtain⟨o,ho,r⟩:=x;exact⟨o,k o ho,r⟩)
theorem ex {h h':Heap}{b c:Addr}{o:Obj} (hs:Heap.SameBut b h h') (hc:@Ne Nat c b) (e:h.get? c=some o):h'.get? c=some o:=hs.extBut _ _ hc e
theorem eQ.ext {h h':Heap}{t:Bool}{it a b:Addr}{i:Nat} (x:eQ h t it a i) (hs:Heap.SameBut b h h') (hab:@Ne Nat it b):eQ h' t it a i:=x.at λ o e=>hs.extBut _ _ hab e
theorem eO.lt {h:Heap}{t:Bool}{a:Addr}{xs:Array Value} (x:eO h t a xs):a < h.objs.size:=by
 cases t <;> (obtain⟨o,ho,r⟩:=x;exact aal ho)
theorem eQ.obj {h:Heap}{t:Bool}{it a:Addr}{i:Nat} (x:eQ h t it a i):∃ o,h.get? it=some o/\∀ v,o.data≠.cell v:=by
 cases t <;> (obtain⟨o,ho,_,d⟩:=x;exact⟨o,ho,λ v z=>by rw[d] at z;cases z⟩)
section
variable {prog:Program}{M:Model}{A:Around}{E:Value->Shared->Prop}{s:Shared}
theorem mT {a:Addr}{Q:Option Obj->Shared->Prop} (h:Q (s.heap.get? a) s):wpAny M A (loadIfAlive a) Q E s:=λ Γ p _=>by
 unfold loadIfAlive;rw[Sem.wp_loadIfAlive];exact h
theorem gS {it l:Addr}{i:Nat}{items}{x:Value}{Q:Value->Shared->Prop} (hit:s.heap.IsTupleIter it l i)
  (hl:s.heap.IsTuple l items) (hx:items[i]? = some x)
  (hQ:∀ h',h'.IsTupleIter it l (i+1)->Heap.SameBut it s.heap h'->Q x { s with heap:=h' }) :
  wpAny (model prog w) A (Builtin.SmallTypes.nextOf (.ref it)) Q E s:=by
 obtain⟨o,ho,hc,hd⟩:=id hit;obtain⟨ol,hol,_,nl,hdl⟩:=hl;unfold Builtin.SmallTypes.nextOf;refine aab (wpAny_callSpecial?_slot (name:=Str.ofString "__next__") hit.typeIs F.slot_tuple_iterator_next
  (wpAny_call_entry F.slot_tuple_iterator_next hit.typeIs F.entry_tuple_iterator_next ?_ (F.args_tuple_iterator_next_1 _)))
 show wpAny _ _ (field (.ref it) 0 >>= _) _ _ s;refine aab (abf ho hd (x:=.ref l) rfl ?_);show wpAny _ _ (if (Value.ref l == Value.none)=true then _ else _) _ _ s;rw[if_neg (show ¬ ((Value.ref l == Value.none)=true) from aag)];show wpAny _ _ (field (.ref it) 1 >>= _) _ _ s;refine aab (abf ho hd (x:=.int i 0) rfl ?_);show wpAny _ _ (seqItems? (.ref l) >>= _) _ _ s;refine aab (wpAny_seqItems hol hdl ?_);simp only [Int.toNat_natCast,hx];refine aab (wpAny_setField ho hd (by simp) (aah ⟨x,rfl,aah (hQ _ ?_ (Heap.SameBut.update ..))⟩));exact⟨_,Heap.get?_update_self _ ho (Obj.isFreed_of_fields (Obj.data_mapFields hd _)),(Obj.cls_mapFields ..).trans hc,by
  rw[Obj.data_mapFields hd];simp [rawInt]⟩
theorem hW {it l:Addr}{i:Nat}{items}{Q:Value->Shared->Prop} (hh:A.handled=none)
  (hit:s.heap.IsTupleIter it l i) (hl:s.heap.IsTuple l items) (hx:items[i]? = none)
  (hE:∀ h' e,Heap.ExtBut it s.heap h'->(∃ o,h'.get? e=some o/\o.cls=.type "StopIteration")->E (.ref e) { s with heap:=h' }) :
  wpAny (model prog w) A (Builtin.SmallTypes.nextOf (.ref it)) Q E s:=by
 obtain⟨o,ho,hc,hd⟩:=id hit;obtain⟨ol,hol,_,nl,hdl⟩:=hl;unfold Builtin.SmallTypes.nextOf;refine aab (wpAny_callSpecial?_slot (name:=Str.ofString "__next__") hit.typeIs F.slot_tuple_iterator_next
  (wpAny_call_entry F.slot_tuple_iterator_next hit.typeIs F.entry_tuple_iterator_next ?_ (F.args_tuple_iterator_next_1 _)))
 show wpAny _ _ (field (.ref it) 0 >>= _) _ _ s;refine aab (abf ho hd (x:=.ref l) rfl ?_);show wpAny _ _ (if (Value.ref l == Value.none)=true then _ else _) _ _ s;rw[if_neg (show ¬ ((Value.ref l == Value.none)=true) from aag)];show wpAny _ _ (field (.ref it) 1 >>= _) _ _ s;refine aab (abf ho hd (x:=.int i 0) rfl ?_);show wpAny _ _ (seqItems? (.ref l) >>= _) _ _ s;refine aab (wpAny_seqItems hol hdl ?_);simp only [Int.toNat_natCast,hx];refine aab (wpAny_rule (aab (wpAny_setField ho hd (by simp) ?_)));show wpAny _ _ (newExc (.type "StopIteration") [] >>= _) _ _ _;refine aab ?_;simp only [newExc,newTuple];refine aab (wpAny_newObj_type ?_ (by size_fits));refine aab (m:=firstArgMember _ _) (wpAny_of_eq (a:=Value.none) (by first | rfl | (simp only [firstArgMember];rfl)) ?_);refine wpAny_newObj_type ?_ (by size_fits);simp only [raiseNew];refine aab (wpAny_handled ?_)
 first | rw[show A.in1.handled=none from hh] | rw[hh]
 refine aab (aah (wpAny_throw ?_));exact hE _ _ (((Heap.SameBut.update ..).extBut.push _).push _) ⟨_,aam _ rfl,rfl⟩
theorem nG {t:Bool}{it l:Addr}{i:Nat}{items}{x:Value}{Q:Value->Shared->Prop} (hit:eQ s.heap t it l i)
  (hl:eO s.heap t l items) (hx:items[i]? = some x)
  (hQ:∀ h',eQ h' t it l (i+1)->Heap.SameBut it s.heap h'->Q x { s with heap:=h' }) :
  wpAny (model prog w) A (Builtin.SmallTypes.nextOf (.ref it)) Q E s:=by
 cases t with
 | true=>exact gS hit hl hx hQ
 | false=>exact wpAny_nextOf_list_item hit hl hx hQ
theorem oU {t:Bool}{it l:Addr}{i:Nat}{items}{Q:Value->Shared->Prop} (hh:A.handled=none)
  (hit:eQ s.heap t it l i) (hl:eO s.heap t l items) (hx:items[i]? = none)
  (hE:∀ h' e,Heap.ExtBut it s.heap h'->(∃ o,h'.get? e=some o/\o.cls=.type "StopIteration")->E (.ref e) { s with heap:=h' }) :
  wpAny (model prog w) A (Builtin.SmallTypes.nextOf (.ref it)) Q E s:=by
 cases t with
 | true=>exact hW hh hit hl hx hE
 | false=>exact wpAny_nextOf_list_end hh hit hl hx hE
abbrev xX (h:Heap) (T:Addr) (vs:Array Value):Prop:=h.get? T=some { cls:=.type "tuple",data:=.seq vs }
def lG (f0:Value):Prop:=f0=.none\/∃ a:Int,f0=.int a 0
def tG (t:Bool) (a:Addr):Obj:={ cls:=.type (if t=true then "tuple_iterator" else "list_iterator"),data:=.fields #[.ref a,.int 0 0] }
theorem g5 {t:Bool}{a:Addr}{items:Array Value}{Q:Value->Shared->Prop} (hs:eO s.heap t a items) (hQ:Q (.ref s.heap.objs.size) { s with heap:=s.heap.push (tG t a) }) :
  wpAny (model prog w) A (pyIter (.ref a)) Q E s:=by
 cases t with
 | true=>exact wpAny_pyIter_tuple hs hQ
 | false=>exact wpAny_pyIter_list hs hQ
theorem tF {h:Heap}{t:Bool}{a it:Addr} (e:h.get? it=some (tG t a)):eQ h t it a 0:=by
 cases t <;> exact⟨_,e,rfl,rfl⟩
abbrev zA (h:Heap) (t:Bool) (a:Addr):Heap:=h.push (tG t a)
end
end TwZ
namespace TwZ
open PySem
open Sem (wp)
open AutoSeq1 (wpAny_loadPart')
section
variable {prog:Program}{M:Model}{A:Around}{E:Value->Shared->Prop}{s:Shared}
abbrev dU (h:Heap) (e it:Addr) (f0:Value) (f1:Bool) (i:Int) (old:Value):Prop:=
 h.get? e=some { cls:=.type "enumerate",dict:=none,data:=.fields #[f0,.bool f1,.ref it,rawInt i,.none,old],slots:=#[] }
theorem nB {e it:Addr}{f0:Value}{f1:Bool}{i:Int}{old:Value}{Q:Bool->Shared->Prop} (hz:dU s.heap e it f0 f1 i old) (hf:lG f0) (yes:Q true s)
  (no:∀ h',dU h' e it f0 true i old->Heap.SameBut e s.heap h'->Q false { s with heap:=h' }):wpAny (model prog w) A (Builtin.SmallTypes.ownedTupleIsFree (.ref e)) Q E s:=by
 unfold Builtin.SmallTypes.ownedTupleIsFree;refine aab (abf hz rfl (x:=f0) rfl ?_);rcases hf with rfl | ⟨a,rfl⟩
 ·exact aah yes
 ·refine aab (mT ?_);cases h:s.heap.get? a.toNat with
  | none=>exact aah yes
  | some o=>
   show wpAny _ _ (field (.ref e) 1 >>= _) _ _ _;refine aab (abf hz rfl (x:=.bool f1) rfl ?_);cases f1 with
   | true=>exact aah (no s.heap hz (Heap.SameBut.refl ..))
   | false=>
    show wpAny _ _ (setField (.ref e) 1 (.bool true) >>= _) _ _ _;refine aab (wpAny_setField_rec hz (by simp) λ ag au ak=>aah (no ag au ak))
theorem tN {e it:Addr}{f0:Value}{f1:Bool}{i:Int}{old:Value}{T:Addr}{Q:Unit->Shared->Prop} (hz:dU s.heap e it f0 f1 i old)
  (h:∀ h',dU h' e it (rawInt T) false i old->Heap.SameBut e s.heap h'->Q () { s with heap:=h' }):wpAny (model prog w) A (Builtin.SmallTypes.ownedTupleHandOut (.ref e) (.ref T)) Q E s:=by
 unfold Builtin.SmallTypes.ownedTupleHandOut;refine aab (wpAny_setField_rec hz (by simp) λ ag au ak=>?_);replace au:dU ag e it (rawInt T) f1 i old:=au;refine wpAny_setField_rec au (by simp) λ aq hz₂ ap=>?_;exact h aq hz₂ (Heap.SameBut.trans ak ap)
theorem r9 {n a:Nat}{t:Bool}{k:Nat}{xs:Array Value}{x old f0:Value}{f1:Bool}{Q:Value->Shared->Prop} (hf:lG f0)
  (he:dU s.heap (n+1) n f0 f1 k old) (i1:eQ s.heap t n a k) (s1:eO s.heap t a xs) (l1:a < n) (hx:xs[k]? = some x)
  (hQ:∀ (T:Nat) h' f0' f1' old',s.heap.objs.size<=T->lG f0'->dU h' (n+1) n f0' f1' ((k:Int)+1) old'->eQ h' t n a (k+1)->xX h' T #[.int k s.toks,x]->
   (∀ (c:Nat) o,(c < n\/n+1 < c)->s.heap.get? c=some o->h'.get? c=some o)->Q (.ref T) { s with heap:=h',toks:=s.toks+1 }) :
  wpAny (model prog w) A (Builtin.«enumerate.__next__» ⟨[.ref (n+1)],[]⟩) (λ fin s'=>∃ v,fin=.done (.ret v)/\Q v s') E s:=by
 obtain⟨hp,g,d,tk,os⟩:=s;have helt:n+1 < hp.objs.size:=aal he;show wpAny _ _ (field (.ref (n+1)) 2 >>= _) _ _ _;refine aab (abf he rfl (x:=.ref n) rfl ?_);refine aab (nG i1 s1 hx λ ag i1₁ ak=>?_);replace ak:Heap.SameBut n hp ag:=ak;have bx:dU ag (n+1) n f0 f1 k old:=ex ak (by omega) he;show wpAny _ _ (field (.ref (n+1)) 3 >>= _) _ _ ⟨ag,g,d,tk,os⟩;refine aab (abf bx rfl (x:=rawInt k) rfl ?_);show wpAny _ _ (field (.ref (n+1)) 4 >>= _) _ _ ⟨ag,g,d,tk,os⟩;refine aab (abf bx rfl (x:=.none) rfl ?_);show wpAny _ _ (mkInt k >>= _) _ _ ⟨ag,g,d,tk,os⟩;refine aab (wpAny_mkInt ?_);show wpAny _ _ (setField (.ref (n+1)) 3 (rawInt ((k:Int)+1)) >>= _) _ _ ⟨ag,g,d,tk+1,os⟩;refine aab (wpAny_setField_rec bx (by simp) λ aq bz ap=>?_);replace ap:Heap.SameBut (n+1) ag aq:=ap;replace bz:dU aq (n+1) n f0 f1 ((k:Int)+1) old:=bz;show wpAny _ _ (setField (.ref (n+1)) 4 .none >>= _) _ _ ⟨aq,g,d,tk+1,os⟩;refine aab (wpAny_setField_rec bz (by simp) λ ai cb av=>?_);replace av:Heap.SameBut (n+1) aq ai:=av;replace cb:dU ai (n+1) n f0 f1 ((k:Int)+1) old:=cb;show wpAny _ _ (newTuple [.int k tk,x] >>= _) _ _ ⟨ai,g,d,tk+1,os⟩;refine aab (wpAny_newTuple ?_);have be:dU (ai.push { cls:=.type "tuple",data:=.seq #[.int k tk,x] }) (n+1) n f0 f1 ((k:Int)+1) old:=aad _ cb;have hsz:ai.objs.size=hp.objs.size:=by rw[av.1,ap.1,ak.1]
 have cc:xX (ai.push { cls:=.type "tuple",data:=.seq #[.int k tk,x] }) ai.objs.size #[.int k tk,x]:=aam _ rfl;have cn:∀ (c:Nat) o,(c < n\/n+1 < c)->hp.get? c=some o->(ai.push { cls:=.type "tuple",data:=.seq #[.int k tk,x] }).get? c=some o:=λ c o hc e=>
  aad _ (ex av (by omega) (ex ap (by omega) (ex ak (by omega) e)))
 have ce:eQ (ai.push { cls:=.type "tuple",data:=.seq #[.int k tk,x] }) t n a (k+1):=((i1₁.ext ap (by omega)).ext av (by omega)).at λ o e=>aad _ e;have hlt₃:n+1 < ai.objs.size:=by rw[hsz];exact helt
 generalize hh₄:ai.push { cls:=.type "tuple",data:=.seq #[.int k tk,x] }=bb at be cc cn ce;have hTle:hp.objs.size<=ai.objs.size:=Nat.le_of_eq hsz.symm;show wpAny _ _ (Builtin.SmallTypes.ownedTupleIsFree (.ref (n+1)) >>= _) _ _ ⟨bb,g,d,tk+1,os⟩;refine aab (nB be hf ?_ ?_)
 ·simp only [if_true];refine aab (wpAny_rule ?_);refine aab (abf be rfl (x:=old) rfl ?_);refine aab (wpAny_setField_rec be (by simp) λ aj az am=>?_);replace am:Heap.SameBut (n+1) bb aj:=am;replace az:dU aj (n+1) n f0 f1 ((k:Int)+1) x:=az;refine aab (tN (s:=⟨aj,g,d,tk+1,os⟩) az λ bq he₆ ba=>?_);replace ba:Heap.SameBut (n+1) aj bq:=ba;refine aab (wpAny_letGo (aah ⟨_,rfl,?_⟩));exact hQ ai.objs.size bq _ _ _ hTle (.inr ⟨_,rfl⟩) he₆ ((ce.ext am (by omega)).ext ba (by omega)) (ex ba (by omega) (ex am (by omega) cc)) λ c o hc e=>ex ba (by omega) (ex am (by omega) (cn c o hc e))
 ·intro aj az am;replace am:Heap.SameBut (n+1) bb aj:=am;simp only [Bool.false_eq_true,if_false];refine aah ⟨_,rfl,?_⟩;exact hQ ai.objs.size aj _ _ _ hTle hf az (ce.ext am (by omega)) (ex am (by omega) cc) λ c o hc e=>ex am (by omega) (cn c o hc e)
theorem tU {n a:Nat}{t:Bool}{k:Nat}{xs:Array Value}{old f0:Value}{f1:Bool}{Q:Fin->Shared->Prop} (hh:A.handled=none)
  (he:dU s.heap (n+1) n f0 f1 k old) (i1:eQ s.heap t n a k) (s1:eO s.heap t a xs) (hx:xs[k]? = none)
  (hE:∀ h' e,(∀ (c:Nat) o,(c < n\/n+1 < c)->s.heap.get? c=some o->h'.get? c=some o)->(∃ o,h'.get? e=some o/\o.cls=.type "StopIteration")->E (.ref e) { s with heap:=h' }) :
  wpAny (model prog w) A (Builtin.«enumerate.__next__» ⟨[.ref (n+1)],[]⟩) Q E s:=by
 show wpAny _ _ (field (.ref (n+1)) 2 >>= _) _ _ _;refine aab (abf he rfl (x:=.ref n) rfl ?_);refine aab (oU hh i1 s1 hx λ h' e hk he'=>hE h' e (λ c o hc q=>hk c o (show @Ne Nat c n by omega) q) he')
theorem iJ {e it:Addr}{f0:Value}{f1:Bool}{i:Int}{old:Value}{Q:Option Value->Shared->Prop} (he:dU s.heap e it f0 f1 i old)
  (h:wpAny (model prog w) A.in1 (Builtin.«enumerate.__next__» ⟨[.ref e],[]⟩) (λ fin s'=>∃ v,fin=.done (.ret v)/\Q (some v) s') (λ e s'=>(∃ a o,e=.ref a/\s'.heap.get? a=some o/\o.cls=.type "StopIteration")/\Q none s') s) :
  wpAny (model prog w) A (pyNext (.ref e)) Q E s:=by
 have hT:s.TypeIs (.ref e) "enumerate" := ⟨_,he,rfl⟩;unfold pyNext;refine aab (wpAny_attempt (wpAny_callSpecial?_slot (name:=Str.ofString "__next__") hT F.slot_enumerate_next
  (wpAny_call_entry F.slot_enumerate_next hT F.entry_enumerate_next (aba h (λ fin s' h'=>?_) λ e s' h'=>?_) (F.args_enumerate_next_1 _))))
 ·obtain⟨v,rfl,q⟩:=h';exact⟨v,rfl,aah q⟩
 ·obtain⟨⟨a,o,rfl,ho,hc⟩,q⟩:=h';exact aab (wpAny_isInstance (T := "StopIteration") (b:=true) ⟨o,ho,hc⟩ isSubtype_stop (aah q))
theorem pE {tg:Expr}{e it T:Addr}{f0:Value}{f1:Bool}{i:Int}{old:Value}{Q:Unit->Shared->Prop} (hf:lG f0) (hz:dU s.heap e it f0 f1 i old)
  (hQ:∀ h' f0',lG f0'->dU h' e it f0' f1 i old->Heap.SameBut e s.heap h'->Q () { s with heap:=h' }):wpAny (model prog w) A (letOwnedTupleGo tg (.ref e) (.ref T)) Q E s:=by
 have same:Q () s:=hQ s.heap f0 hf hz (Heap.SameBut.refl ..);have core:wpAny (model prog w) A (do
   let o <- load e
   match o.cls,o.data with
   | .type n,.fields vs=>
    if ["enumerate","zip","dict_itemiterator","dict_reverseitemiterator","odict_iterator","itertools.zip_longest","itertools.pairwise"].contains n && vs[0]? == some (rawInt T) then
     rule "for.unpacks-the-owned-tuple"
     updateField e 0 .none
   | _,_=>pure ()) Q E s:=by
  refine aab (wpAny_load hz ?_);show wpAny _ _ (if (["enumerate","zip","dict_itemiterator","dict_reverseitemiterator","odict_iterator","itertools.zip_longest","itertools.pairwise"].contains "enumerate" &&
   (#[f0,.bool f1,.ref it,rawInt i,.none,old]:Array Value)[0]? == some (rawInt T))=true then _ else _) Q E s
  split
  ·refine aab (wpAny_rule ?_);show wpAny _ _ (setField (.ref e) 0 .none) Q E s;exact wpAny_setField_rec hz (by simp) λ h' hz' hs'=>hQ h' .none (.inl rfl) hz' hs'
  ·exact aah same
 unfold letOwnedTupleGo;cases tg <;> first
  | exact aah same
  | exact core
theorem iK {e it:Addr}{f0:Value}{f1:Bool}{i:Int}{old:Value}{Q:Value->Shared->Prop} (he:dU s.heap e it f0 f1 i old) (h:Q (.ref e) s):wpAny (model prog w) A (pyIter (.ref e)) Q E s:=by
 have hT:s.TypeIs (.ref e) "enumerate" := ⟨_,he,rfl⟩;refine wpAny_pyIter_slot hT F.slot_enumerate_iter (wpAny_call_entry F.slot_enumerate_iter hT F.entry_enumerate_iter ?_ (F.args_enumerate_iter_1 _));show wpAny _ _ (ret (.ref e)) _ _ s;exact aah ⟨_,rfl,"enumerate",_,hT,F.slot_enumerate_next.lookup,h⟩
theorem pA (t:Bool) (l:Addr) (xs:Array Value) :
  Meets (Builtin.«enumerate.__new__» ⟨[.type "enumerate",.ref l],[]⟩) (λ _ R s=>eO s.heap t l xs/\
   R (.ok (.ret (.ref (zA s.heap t l).objs.size))) { s with heap:=(zA s.heap t l).push { cls:=.type "enumerate",data:=.fields #[.none,.bool false,.ref s.heap.objs.size,rawInt 0,.none,.none] } }):=
 .of_wp λ prog w A R s h=>by
  obtain⟨hp,g,d,tk,os⟩:=s;obtain⟨hl,h⟩:=h;have hsub:=sub_enumerate;have hL:eO (Shared.heap ⟨hp,g,d,tk,os⟩) t l xs:=hl
  wp_walk
  refine wpAny_stack_any λ st=>aah ?_
  split
  ·rename_i c _ _ _ _ _
   cases (c == Value.type "enumerate")
   ·wp_walk using g5 hL
    exact⟨_,rfl,h⟩
   ·wp_walk using g5 hL
    exact⟨_,rfl,h⟩
  ·wp_walk using g5 hL
   exact⟨_,rfl,h⟩
theorem rE {t:Bool}{l:Addr}{xs:Array Value}{Q:Value->Shared->Prop} (hL:eO s.heap t l xs)
  (h:∀ h',dU h' (s.heap.objs.size+1) s.heap.objs.size .none false 0 .none->eQ h' t s.heap.objs.size l 0->(∀ b o,s.heap.get? b=some o->h'.get? b=some o)->Q (.ref (s.heap.objs.size+1)) { s with heap:=h' }) :
  wpAny (model prog w) A (call (.type "enumerate") [.ref l]) Q E s:=by
 refine callType_new F.called_enumerate (by decide) (F.typeCall_enumerate_1 _) (F.newCall_enumerate_1 _) (λ obj=>F.args_object_init_2 obj _) F.entry_enumerate_new (pA t l xs) ⟨hL,?_⟩;have hz:(zA s.heap t l).objs.size=s.heap.objs.size+1:=Heap.size_push ..;show _/\_;rw[hz];have he:dU ((zA s.heap t l).push { cls:=.type "enumerate",data:=.fields #[.none,.bool false,.ref s.heap.objs.size,rawInt 0,.none,.none] }) (s.heap.objs.size+1) s.heap.objs.size .none false 0 .none:=by
  have:=aam (zA s.heap t l) (o:={ cls:=.type "enumerate",data:=.fields #[.none,.bool false,.ref s.heap.objs.size,rawInt 0,.none,.none] }) rfl;rw[hz] at this;exact this
 exact⟨⟨_,he,rfl⟩,h _ he (tF (aad _ (aam _ rfl))) λ b o x=>aad _ (aad _ x)⟩
end
end TwZ
namespace L2
open PySem PySem.Spec PyProof.Rows TwZ
def vI (K:aaa) (H:Hp) (t:Bool) (a:Addr) (xs:List V):Prop:=if t=true then bU K H a xs else cG K H a xs
section
variable {X:Cx}{pins:List (Addr×Obj)}{σ:St}{H:Hp}{s:Shared}
theorem Inv.src {t:Bool}{a:Addr}{xs:List V} (I:Inv X pins σ H s) (h:vI X.K H t a xs):∃ its:List Value,aY xs its/\eO s.heap t a its.toArray/\xs.length<=sizeLine:=by
 cases t with
 | true=>
  obtain⟨its,r,p,z⟩:=I.tuple h;exact⟨its,r,(show s.heap.IsTuple a its.toArray from p),z⟩
 | false=>
  obtain⟨its,r,p,z⟩:=I.list h;exact⟨its,r,p.isList,z⟩
theorem Inv.src_inj {t:Bool}{a:Addr}{xs ys:List V} (I:Inv X pins σ H s) (h:vI X.K H t a xs) (h':vI X.K H t a ys):xs=ys:=by
 cases t with
 | true=>exact I.tuple_inj h h'
 | false=>exact I.list_inj h h'
theorem Inv.turnedT {fp:List Addr}{h':Heap}{t':Nat}{T:Addr}{xs:List V}{its:List Value} (I:Inv X pins σ H s) (hf:∀ b∈fp,g9 X pins H b) (k:∀ b o,b∉fp->s.heap.get? b=some o->h'.get? b=some o)
  (hT:s.heap.objs.size<=T) (hv:aY xs its) (hz:xs.length<=sizeLine) (ht:IsTup h' T its.toArray):Inv X pins σ (upd H T (.tup xs)) { s with heap:=h',toks:=t' }:=by
 have hn:H T=none:=I.hok.fresh hT;have nT:∀ b u,H b=some u->b≠T:=λ b u e=>aN e hn;have nfp:∀ b u,H b=some u->b∉fp:=λ b u e hb=>by rw[(hf b hb).1] at e;cases e
 have nTh:∀ b o,s.heap.get? b=some o->b≠T:=λ b o e z=>by rw[z] at e;exact absurd (aak (aal e) hT) (abn _)
 refine I.step (g':=s.gens) (d':=s.drawn) (ch:=fp) (λ b hb=>?_) (λ b o _ _ hc e _=>k b o hc e) (λ b o _ _ hc e _=>⟨o.slots,k b o hc e⟩) (λ b o hc e n=>by rw[aJ (nTh b o e)];exact n)
  (λ b o hc e=>⟨o,k b o hc e⟩) (λ b ys e=>by rw[aJ (nT b _ e)];exact e) (λ b o u e=>by rw[aJ (nT b _ e)];exact e) (λ b ps e=>⟨#[],by rw[aJ (nT b _ e),e];simp⟩) (λ m hm=>?_) (λ b u e=>?_) I.bare
 ·obtain⟨_,f1,_,f3,f4,f5⟩:=hf b hb;exact⟨f3,f1,f4,f5⟩
 ·obtain⟨o,es,ep,ho,r⟩:=hm;exact⟨o,es,ep,k _ o (λ hb=>(hf _ hb).2.1 rfl) ho,r⟩
 ·by_cases hb:b=T
  ·subst hb;rw[aF] at e;cases e;exact⟨hz,its,hv,ht⟩
  ·rw[aJ hb] at e;refine (I.hok b u e).stay (λ c v hc q=>k c v ?_ q) (λ c q=>by rw[aJ (nT c _ q)];exact q) λ c ys q=>by rw[aJ (nT c _ q)];exact q
   rcases hc with z | z
   ·rw[z];exact nfp b u e
   ·exact nfp c _ z
theorem Inv.turnedL {fp:List Addr}{h':Heap}{t':Nat} (I:Inv X pins σ H s) (hf:∀ b∈fp,g9 X pins H b) (k:∀ b o,b∉fp->s.heap.get? b=some o->h'.get? b=some o):Inv X pins σ H { s with heap:=h',toks:=t' }:=by
 have nfp:∀ b u,H b=some u->b∉fp:=λ b u e hb=>by rw[(hf b hb).1] at e;cases e
 refine I.step (g':=s.gens) (d':=s.drawn) (ch:=fp) (λ b hb=>?_) (λ b o _ _ hc e _=>k b o hc e) (λ b o _ _ hc e _=>⟨o.slots,k b o hc e⟩) (λ b o hc e n=>n)
  (λ b o hc e=>⟨o,k b o hc e⟩) (λ b ys e=>e) (λ b o u e=>e) (λ b ps e=>⟨#[],by rw[e];simp⟩) (λ m hm=>?_) (λ b u e=>?_) I.bare
 ·obtain⟨_,f1,_,f3,f4,f5⟩:=hf b hb;exact⟨f3,f1,f4,f5⟩
 ·obtain⟨o,es,ep,ho,r⟩:=hm;exact⟨o,es,ep,k _ o (λ hb=>(hf _ hb).2.1 rfl) ho,r⟩
 ·refine (I.hok b u e).stay (λ c v hc q=>k c v ?_ q) (λ c q=>q) λ c ys q=>q;rcases hc with z | z
  ·rw[z];exact nfp b u e
  ·exact nfp c _ z
end
def xN (n:Nat) (m:Nat):List Addr:=(List.range m).map λ k=>(n+k:Nat)
theorem fG {n m:Nat}{b:Addr}:b∈xN n m↔∃ k,k < m/\b=n+k:=by
 unfold xN;rw[List.mem_map];constructor
 ·rintro⟨k,hk,e⟩;exact⟨k,aca.mp hk,e.symm⟩
 ·rintro⟨k,hk,e⟩;exact⟨k,aca.mpr hk,e.symm⟩
theorem m8 {n m:Nat}{b:Nat} (h:(b:Addr)∉xN n m) (hm:0 < m):b < n\/n+(m - 1) < b:=by
 by_cases h1:b < n
 ·exact .inl h1
 ·by_cases h2:n+(m - 1) < b
  ·exact .inr h2
  ·exact absurd (fG.mpr ⟨b - n,by omega,by show (b:Nat)=n+(b - n);omega⟩) h
def Ite (K:aaa) (t:Bool) (a:Addr):It:=
 ⟨λ i H=>∃ xs x,vI K H t a xs/\xs[i]? = some x,
  λ i H v H'=>∃ T x,H T=none/\v=.ref T/\(∀ xs,vI K H t a xs->xs[i]? = some x)/\H'=upd H T (.tup [.int i,x]),
  λ i H=>∃ xs,vI K H t a xs/\xs.length<=i⟩
def tne (n a:Nat) (t:Bool) (i:Nat) (h:Heap):Prop:=∃ f0 f1 old,lG f0/\dU h (n+1) n f0 f1 i old/\eQ h t n a i/\a < n
theorem qO {P:Program}{w:World}{K:aaa}{tg:Expr} (n a:Nat) (t:Bool):Turn P w K tg (Ite K t a) (xN n 2) (n+1) (tne n a t) where
 mem:=fG.mpr ⟨1,by decide,rfl⟩
 obj:=λ i h st b hb=>by
  obtain⟨f0,f1,old,hf,he,i1,_⟩:=st;obtain⟨k,hk,rfl⟩:=fG.mp hb;have hk':k=0\/k=1:=by omega
  rcases hk' with rfl | rfl
  ·exact i1.obj
  ·exact⟨_,he,λ v z=>by cases z⟩
 keep:=λ i h h' st k=>by
  obtain⟨f0,f1,old,hf,he,i1,l⟩:=st;have m:∀ j,j < 2->((n+j:Nat):Addr)∈xN n 2:=λ j hj=>fG.mpr ⟨j,hj,rfl⟩;exact⟨f0,f1,old,hf,k _ (m 1 (by decide)) _ he,i1.at λ o e=>k _ (m 0 (by decide)) _ e,l⟩
 item:=by
  intro X hP hw hK hc i pins s σ H E I hf st hg;subst hP hw hK;obtain⟨f0,f1,old,f,he,i1,l1⟩:=st;obtain⟨xs,x,q1,hx⟩:=hg;obtain⟨us,r1,p1,_⟩:=I.src q1;obtain⟨u,hu,ru⟩:=r1.get hx;refine iJ he (r9 f he i1 p1 l1 (by simpa using hu) λ T h' f0' f1' old' hT f' he' i1' hTp hk=>?_);refine⟨_,rfl,pE (s:={ s with heap:=h',toks:=s.toks+1 }) f' he' λ h'' f0'' f'' he'' hs=>?_⟩;replace hs:Heap.SameBut (n+1) h' h'':=hs;have hTn:n+1 < T:=aak (aal he) hT;have hTp':xX h'' T #[.int i s.toks,u]:=ex hs (by omega) hTp;have IT:Inv X pins σ (upd H T (.tup [.int i,x])) { s with heap:=h'',toks:=s.toks+1 }:=I.turnedT (fp:=xN n 2) hf (λ b o hb e=>ex (c:=b) hs (by have:=m8 (b:=b) hb (by decide);have:n+(2 - 1)=n+1:=rfl;omega) (hk b o (m8 (b:=b) hb (by decide)) e)) hT (its:=[.int i s.toks,u]) (.cons ⟨_,rfl⟩ (.cons ru .nil)) (by show 2<=sizeLine;decide) ⟨_,hTp',rfl,_,rfl⟩;have he2:dU h'' (n+1) n f0'' f1' ((i+1:Nat):Int) old':=by
   have:((i+1:Nat):Int)=(i:Int)+1:=by push_cast;rfl
   rw[this];exact he''
  refine⟨.ref T,upd H T (.tup [.int i,x]),IT,rfl,⟨T,x,I.hok.fresh hT,rfl,λ as q=>by rw[I.src_inj q q1];exact hx,rfl⟩,⟨f0'',f1',old',f'',he2,i1'.ext hs (by omega),l1⟩,λ b hb=>?_⟩
  ·obtain⟨j,hj,rfl⟩:=fG.mp hb;rw[aJ (show ((n+j:Nat):Addr)≠T from (show @Ne Nat (n+j) T by omega))];exact (hf _ hb).1
 done:=by
  intro X hP hw hK hc i pins s σ H E I hf st hg;subst hP hw hK;obtain⟨f0,f1,old,f,he,i1,l1⟩:=st;obtain⟨xs,q1,hend⟩:=hg;obtain⟨us,r1,p1,_⟩:=I.src q1;have e1:=r1.length;refine iJ he (tU (I.ok.hd hc) he i1 p1 (by simp;omega) λ h' e hk he=>?_);obtain⟨o,ho,hcl⟩:=he;exact⟨⟨e,o,rfl,ho,hcl⟩,rfl,I.turnedL (t':=s.toks) hf λ b o hb q=>hk b o (m8 (b:=b) hb (by decide)) q⟩
 self:=λ _ _ _ _ _ st h=>by
  obtain⟨f0,f1,old,f,he,_⟩:=st;exact iK he h
section
variable {X:Cx}{tg:Expr}
theorem rG:bootBuiltins "enumerate" = some (.type "enumerate"):=by decide +kernel
def vY (K:aaa) (ta:TA):TI:=λ σ H R=>ta σ H λ vs H1=>∃ t a,vs=[.ref a]/\(∃ xs,vI K H1 t a xs)/\R (Ite K t a) H1
theorem uJ {a:Expr}{ta:TA}{p pos:Pos} (hg:Gl X "enumerate") (hm:X.mg "enumerate" = none) (ha:PA X [a] ta) (hs:starEach [a] X.env=[(false,eval a X.env)]:=by rfl):PI X tg (.Call (.Name "enumerate" p) [a] [] pos) (vY X.K ta):=by
 intro pins s σ H R I h;refine Call_ (jW I hg hm rG (PyProof.Rows.callWith_type1 (cH (ha pos pins s σ H _ I h) λ us s1 ⟨vs,H1,I1,r1,q1⟩=>?_) hs rfl));obtain⟨t,a1,e,⟨xs,hq⟩,q⟩:=q1;subst e;cases r1 with
 | cons r rr=>
  cases rr;cases r;obtain⟨its,rv,p,hz⟩:=I1.src hq;refine rE p λ h' he i1 hk=>?_;refine iK (s:={ s1 with heap:=h' }) he ?_;refine⟨_,xN s1.heap.objs.size 2,tne s1.heap.objs.size a1 t,_,H1,rfl,I1.kept (t':=s1.toks) hk,qO _ _ _,⟨.none,false,.none,.inl rfl,he,i1,p.lt⟩,λ b hb=>?_,q⟩;obtain⟨k,_,rfl⟩:=fG.mp hb;exact I1.fpOk (Nat.le_add_right _ _) (I1.hok.fresh (Nat.le_add_right _ _))
end
section
variable {prog:Program}{A:Around}{E:Value->Shared->Prop}{s:Shared}{l:Addr}{xs:Array (Int×Tok)}
theorem vH {t:Bool}{vs:List Value}{bs:List Bool}{Q:Value->Shared->Prop} (hh:A.handled=none) (hl:eO s.heap t l vs.toArray) (hb:aY (bs.map V.bl) vs)
  (h:∀ h' tk,(∀ b o,s.heap.get? b=some o->h'.get? b=some o)->Q (.bool (bs.all id)) { s with heap:=h',toks:=tk }):wpAny (model prog w) A (call (.builtin "all") [.ref l]) Q E s:=by
 have hlt:l < s.heap.objs.size:=hl.lt;have hlen:=hb.length;rw[aai] at hlen;have key:∀ (P:Nat->Value->Prop),(∀ i v,P i v->vs[i]? = some v)->TruthOf prog w A.in1 P (λ i=>(bs[i]?).getD true):=λ P hP i v s' Q' E' hp hQ=>by
  have hv:=hP i v hp;have hi:i < vs.length:=(aaf.mp hv).1;have hb':(bs.map V.bl)[i]? = some (V.bl bs[i]):=by simp [show i < bs.length by omega]
  obtain⟨u,hu,ru⟩:=hb.get hb';rw[hv] at hu;cases hu;cases ru;have e:(bs[i]?).getD true=bs[i]:=by simp [show i < bs.length by omega]
  have hQ2:Q' ((bs[i]?).getD true) s':=hQ;rw[e] at hQ2;exact wpAny_truthy_bool hQ2
 have rng:((List.range vs.toArray.size).all λ i=>(bs[i]?).getD true)=bs.all id:=by
  rw[aac,<- hlen,Bool.eq_iff_iff,aaw,aaw];constructor
  ·intro hq b hb';obtain⟨i,hi,rfl⟩:=List.getElem_of_mem hb';have:=hq i (aca.mpr hi);simpa [hi] using this
  ·intro hq i hi;have hi':=aca.mp hi;have:=hq bs[i] (abv hi');simpa [hi'] using this
 have kept:∀ {h':Heap}{o:Obj},(∀ b x,b∉[s.heap.objs.size]->(s.heap.push o).get? b=some x->h'.get? b=some x)->∀ b x,s.heap.get? b=some x->h'.get? b=some x:=λ hk b x e=>
  hk b x (λ hm=>by rw[abc.mp hm] at e;exact abn _ (aal e)) (aad _ e)
 cases t with
 | true=>
  refine call_all_walk (wpAny_pyIter_tuple hl ?_);refine⟨s.heap.objs.size,[s.heap.objs.size,l],[s.heap.objs.size],vs.toArray.size,_,_,λ i=>(bs[i]?).getD true,rfl,Walks.tuple (A:=A.in1) hh _ l (aar hlt) vs.toArray,
   ⟨⟨_,aam _ rfl,rfl,rfl⟩,Heap.IsTuple.push hl _⟩,key _ (λ i v hp=>by simpa using hp),λ h' tk hk=>?_⟩
  rw[rng];exact h h' tk (kept hk)
 | false=>
  refine call_all_walk (wpAny_pyIter_list hl ?_);refine⟨s.heap.objs.size,[s.heap.objs.size,l],[s.heap.objs.size],vs.toArray.size,_,_,λ i=>(bs[i]?).getD true,rfl,Walks.list (A:=A.in1) hh _ l (aar hlt) vs.toArray,
   ⟨⟨_,aam _ rfl,rfl,rfl⟩,Heap.IsList.push hl _⟩,key _ (λ i v hp=>by simpa using hp),λ h' tk hk=>?_⟩
  rw[rng];exact h h' tk (kept hk)
end
section
variable {X:Cx}
def wQ (K:aaa):List V->Hp->VK->Prop:=λ xs H Q=>∃ (t:Bool) (p:Addr) (bs:List Bool),xs=[.ref p]/\vI K H t p (bs.map V.bl)/\Q (.bl (bs.all id)) H
theorem rF (hc:X.calm=true):dA X (.builtin "all") (wQ X.K):=by
 intro pins s σ H xs us Q I r h;obtain⟨t,p,bs,rfl,hq,q⟩:=h;obtain⟨u,rfl,ru⟩:=r.one;cases ru;obtain⟨its,rv,p1,hz⟩:=I.src hq;refine vH (I.ok.hd hc) p1 rv λ h' tk hk=>⟨.bl (bs.all id),H,I.kept hk,rfl,q⟩
end
theorem dZ:fillsNumberSlot (.type "tuple") "mul" = pure false:=
 PySem.fillsNumberSlot_seq (id := "tuple.__mul__") (r:=some (.builtin "tuple.__rmul__")) F.slot_tuple_mul.lookup (by decide +kernel) F.slot_tuple_rmul.lookup (by decide +kernel)
theorem gK:seqRepeat? (.type "tuple")=pure (some (.builtin "tuple.__mul__")):=by
 unfold seqRepeat?;rw[PySem.seqSlot_of (T := "tuple") (name := "__mul__") (id := "tuple.__mul__") F.slot_tuple_mul.lookup (by decide +kernel),PySem.seqSlot_of (T := "tuple") (name := "__rmul__") (id := "tuple.__rmul__") F.slot_tuple_rmul.lookup (by decide +kernel)];rfl
theorem eY (a:Int) (t:Tok) (l:Addr) (items:Array Value) (n:Nat) (dd:Option Addr) (sl:Array (Option Value)) :
  Meets (Builtin.«int.__rmul__» ⟨[.int a t,.ref l],[]⟩) (λ _ R s=>s.heap.get? l=some { cls:=.type "tuple",dict:=dd,data:=.seq items n,slots:=sl }/\R (.ok (.ret Value.notImplemented)) s):=
 .of_wp λ prog w A R s h=>by obtain⟨hp,g,d,tk,os⟩:=s;obtain⟨hl,h⟩:=h;wp_walk;exact⟨_,rfl,h⟩
theorem kH (l:Addr) (items:Array Value) (n:Nat) (u:Tok) (dd:Option Addr) (sl:Array (Option Value)) :
  Meets (Builtin.«tuple.__mul__» ⟨[.ref l,.int 1 u],[]⟩) (λ _ R s=>s.heap.get? l=some { cls:=.type "tuple",dict:=dd,data:=.seq items n,slots:=sl }/\R (.ok (.ret (.ref l))) s):=
 .of_wp λ prog w A R s h=>by
  obtain⟨hp,g,d,tk,os⟩:=s;obtain⟨hl,h⟩:=h;have c1:(items.isEmpty || (1:Int) == 1)=true:=by simp
  wp_walk
  exact⟨_,rfl,h⟩
theorem jD (l:Addr) (items:Array Value) (n:Nat) (x:Int) (u:Tok) (dd:Option Addr) (sl:Array (Option Value)) (c0:¬ (decide (x < -(2 ^ 63)) || decide (x ≥ 2 ^ 63))=true) (c1:¬ (items.isEmpty || x == 1)=true)
  (c2:¬ (decide (x<=0) || items.isEmpty)=true) (c3:¬ (items.size:Int) * x > (2 ^ 63 - 1) / 8) (c4:¬ Builtin.Tuple.tupleTooMany ((items.size:Int) * x)=true) (hsz:(List.foldl (λ x1 x2=>x1++x2) #[] (List.replicate x.toNat items)).size<=sizeLine) :
  Meets (Builtin.«tuple.__mul__» ⟨[.ref l,.int x u],[]⟩) (λ _ R s=>s.heap.get? l=some { cls:=.type "tuple",dict:=dd,data:=.seq items n,slots:=sl }/\
   R (.ok (.ret (.ref s.heap.objs.size))) { s with heap:=s.heap.push { cls:=.type "tuple",data:=.seq (List.foldl (λ x1 x2=>x1++x2) #[] (List.replicate x.toNat items)) } }):=
 .of_wp λ prog w A R s h=>by
  obtain⟨hp,g,d,tk,os⟩:=s;obtain⟨hl,h⟩:=h
  wp_walk
  rw[if_neg c0]
  wp_walk
  all_goals (try rw[if_neg c1])
  wp_walk
  all_goals (try rw[if_neg c2])
  wp_walk
  all_goals (try rw[if_neg c3])
  wp_walk
  all_goals (try rw[if_neg c4])
  wp_walk
  exact⟨_,rfl,h⟩
theorem aH.tup {K:aaa}{H H':Hp}{a:Addr}{xs:List V} (e:aH H H') (h:bU K H a xs):bU K H' a xs:=by
 rcases h with (h | ⟨o,h⟩) | h
 ·exact .inl (.inl (e _ _ h))
 ·exact .inl (.inr ⟨o,e _ _ h⟩)
 ·exact .inr h
theorem aH.new {H:Hp}{p:Addr}{o:HO} (h:H p=none):aH H (upd H p o):=λ b u e=>by rw[aJ (aN e h)];exact e
section
variable {X:Cx}
def vS (K:aaa):R2:=λ x y H Q=>∃ (l:Addr) (k:Int) (xs:List V),x=.ref l/\y=.int k/\bU K H l xs/\1<=k/\k < 1000000/\xs≠[]/\xs.length<=10/\
 ∀ p H',aH H H'->bU K H' p (List.replicate k.toNat xs).flatten->Q (.ref p) H'
theorem pV:dS X (binaryOp .Mult) (vS X.K):=by
 intro pins s σ H x y v u Q I rx ry h;obtain⟨l,k,xs,rfl,rfl,hq,h1,h2,hne,hl10,q⟩:=h;cases rx;obtain⟨t,rfl⟩:=ry;obtain⟨its,r,ht,z⟩:=I.tuple hq;have hlen:=r.length;obtain⟨⟨cls,dd,data,sl⟩,e,hc,n,hd⟩:=id ht;simp only at hc hd;subst hc hd;refine wpAny_binaryOp_repeat_ref (T := "tuple") (U := "int") (by decide) ⟨_,e,rfl⟩ (λ s'=>typeIs_int s' k t) dZ F.fills_int_mul F.slot_int_rmul gK F.slot_int_index.lookup
  (call_meets F.slot_int_rmul (typeIs_int s k t) F.entry_int_rmul (F.args_int_rmul_2 _ _) (eY k t l its.toArray n dd sl) ⟨e,rfl,⟨_,e,rfl⟩,?_⟩)
 by_cases hk:k=1
 ·subst hk;refine call_meets F.slot_tuple_mul ⟨_,e,rfl⟩ F.entry_tuple_mul (F.args_tuple_mul_2 _ _) (kH l its.toArray n t dd sl) ⟨e,?_⟩;refine⟨.ref l,H,I,rfl,q l H (aH.refl H) ?_⟩;have e1:(List.replicate (1:Int).toNat xs).flatten=xs:=by simp
  rw[e1];exact hq
 ·have hne':its≠[]:=λ z=>by rw[z] at hlen;exact hne (List.eq_nil_of_length_eq_zero hlen)
  have f0:List.foldl (λ x1 x2=>x1++x2) #[] (List.replicate k.toNat its.toArray)=(List.replicate k.toNat its).flatten.toArray:=by
   have:=kY its k.toNat [];rw[List.nil_append] at this;exact this
  have hemp:its.toArray.isEmpty=false:=by cases its with
   | nil=>exact absurd rfl hne'
   | cons a r=>rfl
  have hszN:k.toNat * its.length<=sizeLine:=by
   have a1:its.length<=10:=by omega
   have a2:k.toNat<=1000000:=by omega
   have:=Nat.mul_le_mul a2 a1;rw[sizeLine_eq];omega
  have hprod:((its.toArray.size:Nat):Int) * k<=16777216:=by
   have a1:((its.toArray.size:Nat):Int)<=10:=by rw[aac];omega
   have:=Int.mul_le_mul a1 (show k<=1000000 by omega) (by omega) (by omega);omega
  refine call_meets F.slot_tuple_mul ⟨_,e,rfl⟩ F.entry_tuple_mul (F.args_tuple_mul_2 _ _) (jD l its.toArray n k t dd sl (by simp;omega) (by rw[hemp];simp;exact hk) (by rw[hemp];simp;omega) (by omega) (by
    unfold Builtin.Tuple.tupleTooMany;rw[decide_eq_true_iff];rw[sizeLine_eq];omega) (by rw[f0,aac,q0];exact hszN)) ⟨e,?_⟩
  have I1:=I.laid (a:=s.heap.objs.size) (o:=.tup (List.replicate k.toNat xs).flatten) (h':=s.heap.push { cls:=.type "tuple",data:=.seq (List.foldl (λ x1 x2=>x1++x2) #[] (List.replicate k.toNat its.toArray)) }) (t':=s.toks)
   (λ _ _ q=>aad _ q) (aaj _) ⟨by rw[q0,hlen];exact hszN,(List.replicate k.toNat its).flatten,r.rep k.toNat,⟨_,aam _ rfl,rfl,0,by simp only [f0]⟩⟩
  exact⟨.ref _,_,I1,rfl,q _ _ (aH.new I.fresh) (bU.of aF)⟩
end
open MeetsSeq in
theorem o6 (l b:Addr) (items items2:Array Value) (n n2:Nat) (dd dd2:Option Addr) (sl sl2:Array (Option Value)) (hsz:items.size=items2.size) :
  Meets (Builtin.«tuple.__ne__» ⟨[.ref l,.ref b],[]⟩)
   (λ A R s=>s.heap.get? l=some { cls:=.type "tuple",dict:=dd,data:=.seq items n,slots:=sl }/\s.heap.get? b=some { cls:=.type "tuple",dict:=dd2,data:=.seq items2 n2,slots:=sl2 }/\
    (∀ j (h1:j < items.size) (h2:j < items2.size),SeqAt.EqAt A.in1 s items[j] items2[j] true)/\
    R (.ok (.ret (.bool false))) s):=
 .of_wp λ prog w A R s h=>by
  obtain⟨hp,g,d,tk,os⟩:=s;obtain⟨hl,hb,he,h⟩:=h;have f2:=AutoSeq1.sub_tuple_tuple;have hZ:(items.toList.zip items2.toList).length=min items.size items2.size:=by simp
  wp_walk using AutoSeq1.wpAny_loadPart' hl,AutoSeq1.wpAny_loadPart' hb,wpAny_forIn_list _ (λ rest b s'=>b.1=none/\s'=⟨hp,g,d,tk,os⟩/\∃ i,rest=(items.toList.zip items2.toList).drop i) _
  case turn=>
   rintro⟨y,x⟩ rest b s' ⟨hb',rfl,i,hz⟩;have hlt:i < (items.toList.zip items2.toList).length:=by
    rcases Nat.lt_or_ge i (items.toList.zip items2.toList).length with h' | h'
    ·exact h'
    ·rw[List.drop_of_length_le h'] at hz;cases hz
   have hm:i < min items.size items2.size:=hZ ▸ hlt;have h1:i < items.size:=aak hm (Nat.min_le_left _ _);have h2:i < items2.size:=aak hm (Nat.min_le_right _ _);rw[List.drop_eq_getElem_cons hlt] at hz;injection hz with hyx hrest;have hy:y=items[i]:=by have:=congrArg Prod.fst hyx;simpa using this
   have hx:x=items2[i]:=by have:=congrArg Prod.snd hyx;simpa using this
   subst hy hx;refine aab (he i h1 h2 prog w _ _ ?_)
   wp_walk
   exact⟨rfl,rfl,i+1,hrest⟩
  case fin=>
   rintro⟨b1,b2⟩ s' ⟨hb',rfl,i,hz⟩;simp only at hb';subst hb'
   wp_walk
   exact⟨_,rfl,by simpa [Builtin.Tuple.tupleCompareSizes,hsz] using h⟩
  case h=>
   exact⟨rfl,rfl,0,rfl⟩
inductive D where
 | non | bl (b:Bool) | int (i:Int) | str (x:Str) | tup (ds:List D)
mutual
def Is (K:aaa) (H:Hp):D->V->Prop
 | .non,v=>v=.non
 | .bl b,v=>v=.bl b
 | .int i,v=>v=.int i
 | .str x,v=>v=.str x
 | .tup ds,v=>∃ a xs,v=.ref a/\bU K H a xs/\IsL K H ds xs
def IsL (K:aaa) (H:Hp):List D->List V->Prop
 | [],xs=>xs=[]
 | d::ds,xs=>∃ x r,xs=x::r/\Is K H d x/\IsL K H ds r
end
def bW (K:aaa) (H H':Hp):Prop:=∀ a xs,bU K H a xs->bU K H' a xs
theorem bW.refl {K:aaa} (H:Hp):bW K H H:=λ _ _ h=>h
theorem bW.trans {K:aaa}{H H1 H2:Hp} (a:bW K H H1) (b:bW K H1 H2):bW K H H2:=λ c xs h=>b c xs (a c xs h)
theorem aH.ts {K:aaa}{H H':Hp} (e:aH H H'):bW K H H':=λ _ _ h=>e.tup h
mutual
theorem Is.mono {K:aaa}{H H':Hp} (t:bW K H H'):∀ (d:D) (v:V),Is K H d v->Is K H' d v
 | .non,_,h=>h
 | .bl _,_,h=>h
 | .int _,_,h=>h
 | .str _,_,h=>h
 | .tup ds,v,h=>by
  rw[Is] at h ⊢;obtain⟨a,xs,e,q,l⟩:=h;exact⟨a,xs,e,t a xs q,IsL.mono t ds xs l⟩
theorem IsL.mono {K:aaa}{H H':Hp} (t:bW K H H'):∀ (ds:List D) (xs:List V),IsL K H ds xs->IsL K H' ds xs
 | [],xs,h=>h
 | d::ds,xs,h=>by
  rw[IsL] at h ⊢;obtain⟨x,r,e,hx,hr⟩:=h;exact⟨x,r,e,Is.mono t d x hx,IsL.mono t ds r hr⟩
end
theorem IsL.length {K:aaa}{H:Hp}:∀ {ds:List D}{xs:List V},IsL K H ds xs->xs.length=ds.length
 | [],xs,h=>by rw[IsL] at h;subst h;rfl
 | d::ds,xs,h=>by
  rw[IsL] at h;obtain⟨x,r,rfl,_,hr⟩:=h;rw[aat,aat,IsL.length hr]
theorem IsL.get {K:aaa}{H:Hp}:∀ {ds:List D}{xs:List V}{i:Nat}{d:D},IsL K H ds xs->ds[i]? = some d->∃ x,xs[i]? = some x/\Is K H d x
 | [],_,_,_,_,e=>by simp at e
 | d::ds,xs,0,d',h,e=>by
  rw[IsL] at h;obtain⟨x,r,rfl,hx,hr⟩:=h;simp at e;subst e;exact⟨x,rfl,hx⟩
 | d::ds,xs,i+1,d',h,e=>by
  rw[IsL] at h;obtain⟨x,r,rfl,hx,hr⟩:=h;obtain⟨y,h1,h2⟩:=IsL.get hr (i:=i) (by simpa using e);exact⟨y,by simpa using h1,h2⟩
theorem IsL.get' {K:aaa}{H:Hp}{ds:List D}{xs:List V}{i:Nat}{x:V} (h:IsL K H ds xs) (e:xs[i]? = some x):∃ d,ds[i]? = some d/\Is K H d x:=by
 have hl:=h.length;have hi:i < ds.length:=by rw[<- hl];exact (aaf.mp e).1
 obtain⟨y,h1,h2⟩:=h.get (i:=i) (d:=ds[i]) (by simp [hi]);rw[e] at h1;cases h1;exact⟨ds[i],by simp [hi],h2⟩
theorem IsL.snoc {K:aaa}{H:Hp}{d:D}{x:V} (hd:Is K H d x):∀ {ds:List D}{xs:List V},IsL K H ds xs->IsL K H (ds++[d]) (xs++[x])
 | [],xs,h=>by
  rw[IsL] at h;subst h;show IsL K H [d] [x];rw[IsL];exact⟨x,[],rfl,hd,by rw[IsL]⟩
 | d'::ds,xs,h=>by
  rw[IsL] at h;obtain⟨y,r,rfl,hy,hr⟩:=h;show IsL K H (d'::(ds++[d])) (y::(r++[x]));rw[IsL];exact⟨y,r++[x],rfl,hy,IsL.snoc hd hr⟩
theorem IsL.of_ints {K:aaa}{H:Hp}:∀ (ns:List Int),IsL K H (ns.map D.int) (ns.map V.int)
 | []=>by rw[acb,acb,IsL]
 | n::ns=>by
  rw[abh,abh,IsL];exact⟨_,_,rfl,by rw[Is],IsL.of_ints ns⟩
theorem IsL.of_bools {K:aaa}{H:Hp}:∀ (ns:List Bool),IsL K H (ns.map D.bl) (ns.map V.bl)
 | []=>by rw[acb,acb,IsL]
 | n::ns=>by
  rw[abh,abh,IsL];exact⟨_,_,rfl,by rw[Is],IsL.of_bools ns⟩
mutual
def D.depth:D->Nat
 | .tup ds=>d2 ds+1
 | _=>0
def d2:List D->Nat
 | []=>0
 | d::ds=>max d.depth (d2 ds)
end
section
variable {X:Cx}{pins:List (Addr×Obj)}{σ:St}{H:Hp}{s:Shared}
mutual
theorem Is.eqAt (I:Inv X pins σ H s):∀ (d:D) (A:Around) (x y:V) (u v:Value),A.units+d.depth < cLine->Is X.K H d x->Is X.K H d y->bD x u->bD y v->SeqAt.EqAt A s u v true
 | .non,A,x,y,u,v,_,hx,hy,rx,ry=>by
  rw[Is] at hx hy;subst hx hy;cases rx;cases ry;exact SeqAt.EqAt.same _
 | .bl b,A,x,y,u,v,_,hx,hy,rx,ry=>by
  rw[Is] at hx hy;subst hx hy;cases rx;cases ry;exact SeqAt.EqAt.same _
 | .int i,A,x,y,u,v,_,hx,hy,rx,ry=>by
  rw[Is] at hx hy;subst hx hy;obtain⟨t,rfl⟩:=rx;obtain⟨t',rfl⟩:=ry;have:=SeqAt.EqAt.int_int (A:=A) (s:=s) i t i t';simpa using this
 | .str z,A,x,y,u,v,_,hx,hy,rx,ry=>by
  rw[Is] at hx hy;subst hx hy;obtain⟨t,rfl⟩:=rx;obtain⟨t',rfl⟩:=ry;have:=SeqAt.EqAt.str_str (A:=A) (s:=s) z t z t';simpa using this
 | .tup ds,A,x,y,u,v,hu,hx,hy,rx,ry=>by
  rw[Is] at hx hy;obtain⟨a,xs,rfl,q1,l1⟩:=hx;obtain⟨b,ys,rfl,q2,l2⟩:=hy;cases rx;cases ry
  by_cases hab:a=b
  ·subst hab;exact SeqAt.EqAt.same _
  ·obtain⟨us,r1,p1,_⟩:=I.tuple q1;obtain⟨vs,r2,p2,_⟩:=I.tuple q2;have hdep:D.depth (.tup ds)=d2 ds+1:=by rw[D.depth]
   rw[hdep] at hu;have e1:=r1.length;have e2:=r2.length;have e3:=l1.length;have e4:=l2.length;have hu2:A.in1.units+d2 ds < cLine:=by
    have:A.in1.units<=A.units+1:=by show A.units+1<=A.units+1;exact aaj _
    omega
   have all:=IsL.eqAt I ds A.in1 xs ys us vs hu2 l1 l2 r1 r2;have hsz:us.toArray.size=vs.toArray.size:=by simp;omega
   have:=SeqAt.RcAt.tuples (A:=A) (s:=s) (e:=λ _=>true) (show s.heap.IsTuple a us.toArray from p1) (show s.heap.IsTuple b vs.toArray from p2) (by omega) λ j h1 h2=>all j us.toArray[j] vs.toArray[j] (by simp) (by simp);have e5:((List.range (min us.toArray.size vs.toArray.size)).all (λ _=>true) && us.toArray.size == vs.toArray.size)=true:=by
    rw[hsz];simp
   rw[e5] at this;exact SeqAt.EqAt.of_refs hab this
theorem IsL.eqAt (I:Inv X pins σ H s):∀ (ds:List D) (A:Around) (xs ys:List V) (us vs:List Value),A.units+d2 ds < cLine->IsL X.K H ds xs->IsL X.K H ds ys->aY xs us->aY ys vs->∀ (j:Nat) (u v:Value),us[j]? = some u->vs[j]? = some v->SeqAt.EqAt A s u v true
 | [],A,xs,ys,us,vs,_,hx,hy,rx,ry,j,u,v,eu,ev=>by
  rw[IsL] at hx;subst hx;cases rx;simp at eu
 | d::ds,A,xs,ys,us,vs,hu,hx,hy,rx,ry,j,u,v,eu,ev=>by
  rw[IsL] at hx hy;obtain⟨x,xr,rfl,hx,hxr⟩:=hx;obtain⟨y,yr,rfl,hy,hyr⟩:=hy;have hd:d2 (d::ds)=max d.depth (d2 ds):=by rw[d2]
  rw[hd] at hu;cases rx with
  | cons rx rxr=>
   cases ry with
   | cons ry ryr=>
    cases j with
    | zero=>
     simp at eu ev;subst eu ev;exact Is.eqAt I d A x y _ _ (by omega) hx hy rx ry
    | succ j=>exact IsL.eqAt I ds A xr yr _ _ (by omega) hxr hyr rxr ryr j u v (by simpa using eu) (by simpa using ev)
end
end
section
variable {X:Cx}
def pS (K:aaa):R2:=λ x y H Q=>∃ ds,ds.length<=1000/\d2 ds<=20/\Is K H (.tup ds) x/\Is K H (.tup ds) y/\Q (.bl false) H
theorem qT (hu:X.A.units+64 < cLine):dS X (compareOp .NotEq) (pS X.K):=by
 intro pins s σ H x y v u Q I rx ry h;obtain⟨ds,hl,hdep,hx,hy,q⟩:=h;rw[Is] at hx hy;obtain⟨a,xs,rfl,q1,l1⟩:=hx;obtain⟨b,ys,rfl,q2,l2⟩:=hy;cases rx;cases ry;obtain⟨us,r1,p1,_⟩:=I.tuple q1;obtain⟨vs,r2,p2,_⟩:=I.tuple q2;have e1:=r1.length;have e2:=r2.length;have e3:=l1.length;have e4:=l2.length;obtain⟨⟨cls,dd,data,sl⟩,ho,hc,n,hd⟩:=id p1;obtain⟨⟨cls2,dd2,data2,sl2⟩,ho2,hc2,n2,hd2⟩:=id p2;simp only at hc hd hc2 hd2;subst hc hd hc2 hd2;have hin:∀ A:Around,A.in1.units=A.units+1:=λ A=>rfl;refine richCompare_meets_room (op:=.NotEq) ⟨_,ho,rfl⟩ ⟨_,ho2,rfl⟩ F.slot_tuple_ne F.entry_tuple_ne (F.args_tuple_ne_2 _ _) (o6 a b us.toArray vs.toArray n n2 dd dd2 sl sl2 (by simp;omega))
  ⟨ho,ho2,λ j h1 h2=>IsL.eqAt I ds _ xs ys us vs (by rw[hin];omega) l1 l2 r1 r2 j _ _ (by simp) (by simp),show Value.bool false≠Value.notImplemented/\EP X pins σ Q (.bool false) s from ⟨(λ x=>nomatch x),.bl false,H,I,rfl,q⟩⟩ (by omega)
def wP:V->List V->Hp->VK->Prop:=λ x vs H Q=>∃ (l:Addr) (xs:List V) (y:V) (j:Nat),x=.ref l/\vs=[y]/\H l=some (.lst xs)/\iO y=true/\xs.all iO=true/\j < xs.length/\(∀ z,xs[j]? = some z->w4 z y=true)/\(∀ i z,i < j->xs[i]? = some z->w4 z y=false)/\Q (.int j) H
theorem sY:MtM X "list.index" wP:=by
 intro pins s σ H x vs v us Q I rx rv h;obtain⟨l,xs,y,j,rfl,rfl,hH,fy,fx,hj,h1,h2,q⟩:=h;cases rx;obtain⟨u,rfl,ru⟩:=rv.one;obtain⟨z,its,n,r,hl,e⟩:=I.lstM hH;have key:∀ i (hi:i < its.length),∃ x,xs[i]? = some x/\bD x its[i]/\iO x=true:=λ i hi=>by
  have hx:xs[i]? = some xs[i]:=by simp [show i < xs.length by omega]
  obtain⟨w',h1,h2⟩:=r.get hx;have:its[i]? = some its[i]:=by simp [hi]
  rw[this] at h1;cases h1;exact⟨_,hx,h2,(aaw.mp fx) _ (abv _)⟩
 refine call_meets F.slot_list_index ⟨_,e,rfl⟩ F.entry_list_index (F.args_list_index_2 _ _)
  (SeqAt.list_indexAt l its.toArray n none #[] u (yV y) j (by rw[aac];omega) (by rw[sizeLine_eq] at z;omega) ?_ ?_) ⟨e,λ w' hw=>?_,⟨.int j,H,I.tok _,⟨_,rfl⟩,q⟩⟩
 ·obtain⟨x,hx,rx,fx'⟩:=key j (by omega);have:=pH (x:=y) rx fx';show yV y its[j]=true;rw[this];exact h1 x hx
 ·intro i hi hlt;have hi':i < its.length:=by simpa using hi
  obtain⟨x,hx,rx,fx'⟩:=key i hi';have:=pH (x:=y) rx fx';show yV y its[i]=false;rw[this];exact h2 i x hlt hx
 ·exact nH ru fy r fx w' (by simpa using hw)
end
structure Callee (P:Program) (w:World) (K:aaa) (mg:Str->Option Value) (base:Heap) (x:Str) (ps:List Str) (k:Nat) (sp:Sp) (f:Addr) (fd:FuncData):Prop where
 ok:FnOk P w K mg base fK k f fd ps sp
 mg:mg x=some (.ref f)
 kp:PySem.W.keepIn K (.ref f)=true
 bd:fE K fd ps []
theorem bY {X:Cx}{x:Str}{ps:List Str}{k n:Nat}{sp:Sp}{f:Addr}{fd:FuncData}{e:Expr}{es:List Expr}{t:TA}{p pos:Pos} (G:Callee X.prog X.w X.K X.mg X.base x ps k sp f fd) (hr:Room n X.A) (ha:PA X (e::es) t) (hg:Gl X x:=by rfl) (hle:k<=n:=by decide)
  (hdb:(x == ("__debug__" : Str))=false:=by decide) (he:starEach (e::es) X.env=(false,eval e X.env)::starEach es X.env:=by rfl) (hpl:(backTo pos (starEach es X.env)).any (·.1)=false:=by rfl) :
  PE X (.Call (.Name x p) (e::es) [] pos) (gB sp [] E0 t):=uM G.ok (hr.mono hle) hg G.mg G.kp G.bd .nil yI ha hdb he hpl
theorem aQ:bootBuiltins "isinstance" = some (.builtin "isinstance"):=by decide +kernel
def cO (t:Addr) (H H':Hp):Prop:=∀ b o,b≠t->H b=some o->H' b=some o
theorem cO.refl {t:Addr} (H:Hp):cO t H H:=λ _ _ _ h=>h
theorem cO.trans {t:Addr}{H H1 H2:Hp} (a:cO t H H1) (b:cO t H1 H2):cO t H H2:=λ c o hc h=>b c o hc (a c o hc h)
theorem aH.but {t:Addr}{H H':Hp} (a:aH H H'):cO t H H':=λ b o _ h=>a b o h
theorem cO.upd {t:Addr}{H:Hp}{o:HO}:cO t H (upd H t o):=λ b u hb h=>by rw[aJ hb];exact h
theorem cO.ts {K:aaa}{t:Addr}{H H':Hp} (a:cO t H H') (hm:pJ (H t)):bW K H H':=by
 intro b xs h;have ne:∀ {o:HO},H b=some o->¬ pJ (some o)->b≠t:=λ e n z=>by rw[<- z,e] at hm;exact n hm
 rcases h with (h | ⟨o,h⟩) | h
 ·exact .inl (.inl (a _ _ (ne h (λ z=>z)) h))
 ·exact .inl (.inr ⟨o,a _ _ (ne h (λ z=>z)) h⟩)
 ·exact .inr h
theorem cO.free {t l:Addr}{H H':Hp} (a:cO t H H') (hl:l≠t) (h:H' l=none):H l=none:=by
 cases q:H l with
 | none=>rfl
 | some o=>rw[a l o hl q] at h;cases h
theorem vG {af:Type}{xs:List af}{k:Int}{v:af} (h0:0<=k) (h:xs[k.toNat]? = some v):rN xs k=some v:=by
 obtain⟨j,rfl⟩:=Int.eq_ofNat_of_zero_le h0;exact dN (by simpa using h)
theorem Is.tupOf {K:aaa}{H:Hp}{ds:List D}{a:Addr}{xs:List V} (q:bU K H a xs) (l:IsL K H ds xs):Is K H (.tup ds) (.ref a):=by
 rw[Is];exact⟨a,xs,rfl,q,l⟩
theorem Is.un {K:aaa}{H:Hp}{ds:List D}{v:V} (h:Is K H (.tup ds) v):∃ a xs,v=.ref a/\bU K H a xs/\IsL K H ds xs:=by
 rw[Is] at h;exact h
theorem IsL.un {K:aaa}{H:Hp}{d:D}{ds:List D}{xs:List V} (h:IsL K H (d::ds) xs):∃ x r,xs=x::r/\Is K H d x/\IsL K H ds r:=by
 rw[IsL] at h;exact h
theorem IsL.un0 {K:aaa}{H:Hp}{xs:List V} (h:IsL K H [] xs):xs=[]:=by
 rw[IsL] at h;exact h
theorem IsL.cons {K:aaa}{H:Hp}{d:D}{ds:List D}{x:V}{xs:List V} (hd:Is K H d x) (h:IsL K H ds xs):IsL K H (d::ds) (x::xs):=by
 rw[IsL];exact⟨x,xs,rfl,hd,h⟩
theorem IsL.nil {K:aaa}{H:Hp}:IsL K H [] []:=by rw[IsL]
theorem Is.i {K:aaa}{H:Hp} (i:Int):Is K H (.int i) (.int i):=by rw[Is]
theorem Is.b {K:aaa}{H:Hp} (i:Bool):Is K H (.bl i) (.bl i):=by rw[Is]
theorem Is.s {K:aaa}{H:Hp} (i:Str):Is K H (.str i) (.str i):=by rw[Is]
theorem Is.n {K:aaa}{H:Hp}:Is K H .non .non:=by rw[Is]
theorem Is.ui {K:aaa}{H:Hp}{i:Int}{v:V} (h:Is K H (.int i) v):v=.int i:=by rw[Is] at h;exact h
theorem Is.ub {K:aaa}{H:Hp}{i:Bool}{v:V} (h:Is K H (.bl i) v):v=.bl i:=by rw[Is] at h;exact h
end L2
namespace Tw
open PySem L2
structure Vs where
 size:Int
 brim:Int
 outs:List (Option Int×Int)
 holds:Bool
 spill:Option Int
 acts:List (Str×Int)
abbrev yX:=Int×Int×Bool
structure Net where
 vs:List Vs
 sps:List yX
def rL:Option Int->D
 | none=>.non
 | some i=>.int i
def vO:Option Int->V
 | none=>.non
 | some i=>.int i
def nC (o:Option Int×Int):D:=.tup [rL o.1,.int o.2]
def nV (a:Str×Int):D:=.tup [.str a.1,.int a.2]
def rK (v:Vs):D:=.tup [.int v.size,.int v.brim,.tup (v.outs.map nC),.bl v.holds,rL v.spill,.tup (v.acts.map nV)]
def u5 (s:yX):D:=.tup [.int s.1,.int s.2.1,.bl s.2.2]
def hX (n:Net):D:=.tup [.tup (n.vs.map rK),.tup (n.sps.map u5)]
def stD (held coming:List Int) (doors:List Bool):D:=.tup [.tup (held.map D.int),.tup (coming.map D.int),.tup (doors.map D.bl)]
theorem Is.tgOf {K:aaa}{H:Hp} (t:Option Int):Is K H (rL t) (vO t):=by
 cases t with
 | none=>exact Is.n
 | some i=>exact Is.i i
structure OutOk (n:Nat) (o:Option Int×Int):Prop where
 tg:∀ t,o.1=some t->0<=t/\t < n
 lo:1<=o.2
 hi:o.2<=60
structure ActOk (m:Nat) (a:Str×Int):Prop where
 word:a.1 = "open" \/ a.1 = "shut" \/ a.1 = "turn"
 lo:0<=a.2
 hi:a.2 < m
structure VOk (n m:Nat) (v:Vs):Prop where
 size:1<=v.size
 ne:v.outs≠[]
 o3:v.outs.length<=3
 outs:∀ o∈v.outs,OutOk n o
 spill:∀ t,v.spill=some t->0<=t/\t < n
 a3:v.acts.length<=3
 acts:∀ a∈v.acts,ActOk m a
structure NetOk (net:Net):Prop where
 lo:1<=net.vs.length
 hi:net.vs.length<=12
 sp:net.sps.length<=12
 vs:∀ v∈net.vs,VOk net.vs.length net.sps.length v
 sps:∀ s∈net.sps,0<=s.1/\s.1 < net.vs.length
end Tw
namespace L2
open PySem PySem.Spec PyProof.Rows TwZ
section
variable {g:TG}{tc:TT}{te:TE}{fr:List (Option Nat)}{σ:St}{H1:Hp}{Q:Addr->Hp->Prop}
theorem pF {a:Addr}{xs:List V} (Pv:Addr->Nat->List V->St->Hp->Prop) (hq:∀ D i ys σ H,Pv D i ys σ H->bU K H a xs)
  (h0:∀ D,H1 D=none->Pv D 0 [] (u7 fr σ) (upd H1 D (.lst []))) (hstop:∀ D ys aa H',Pv D xs.length ys aa H'->Q D H')
  (hgo:∀ D i x ys aa H',xs[i]? = some x->Pv D i ys aa H'->g x aa H' λ ae H3=>tc ae H3 λ b H4=>
    if b=true then te ae H4 λ y H5=>H5 D=some (.lst ys)/\ys.length < sizeLine/\Pv D (i+1) (ys++[y]) ae (upd H5 D (.lst (ys++[y])))
    else Pv D (i+1) ys ae H4):i8 (xV K a) g tc te fr σ H1 Q:=by
 refine t6 (n:=xs.length) Pv h0 (λ D ys aa H' p=>⟨⟨xs,hq D _ ys aa H' p,aaj _⟩,hstop D ys aa H' p⟩) λ D i ys aa H' hi p=>⟨⟨xs,xs[i],hq D _ ys aa H' p,by simp [hi]⟩,λ x H2 y=>?_⟩;obtain⟨e,y⟩:=y;subst e;exact hgo D i x ys aa _ (y xs (hq D _ ys aa _ p)) p
theorem t3 {n:Nat} (Pv:Addr->Nat->List V->St->Hp->Prop)
  (h0:∀ D,H1 D=none->Pv D 0 [] (u7 fr σ) (upd H1 D (.lst []))) (hstop:∀ D ys aa H',Pv D n ys aa H'->Q D H')
  (hgo:∀ D i ys aa H',i < n->Pv D i ys aa H'->g (.int (i:Int)) aa H' λ ae H3=>tc ae H3 λ b H4=>
    if b=true then te ae H4 λ y H5=>H5 D=some (.lst ys)/\ys.length < sizeLine/\Pv D (i+1) (ys++[y]) ae (upd H5 D (.lst (ys++[y])))
    else Pv D (i+1) ys ae H4):i8 (xW 0 n) g tc te fr σ H1 Q:=by
 refine t6 (n:=n) Pv h0 (λ D ys aa H' p=>⟨aaj _,hstop D ys aa H' p⟩) λ D i ys aa H' hi p=>⟨hi,λ x H2 y=>?_⟩;obtain⟨e,y⟩:=y;subst e y;rw[Int.zero_add];exact hgo D i ys aa _ hi p
end
section
variable {g:TG}{tb:TS}{D:Ends}{σ:St}{H:Hp}
abbrev vK (J:It) (g:TG) (tb:TS) (D:Ends) (σ:St) (H:Hp):Prop:=
 ∃ W:Nat->Nat->St->Hp->Prop,(∃ m,W 0 m σ H)/\∀ i m σ H,W i m σ H->
   (J.stop i H/\D.nx σ H)\/(J.go i H/\∃ N:St->Hp->Prop,(∀ aa H',N aa H'->∃ m',m' < m/\W (i+1) m' aa H')/\∀ x H',J.yld i H x H'->g x σ H' λ ah H2=>tb { D with nx:=N,ct:=N,bk:=D.nx } ah H2)
theorem tT {t:Bool}{a:Addr}{xs:List V} (Pv:Nat->St->Hp->Prop) (hq:∀ i σ H,Pv i σ H->vI K H t a xs)
  (h0:Pv 0 σ H) (hstop:∀ σ H,Pv xs.length σ H->D.nx σ H)
  (hgo:∀ i x σ H T,xs[i]? = some x->Pv i σ H->H T=none->g (.ref T) σ (upd H T (.tup [.int (i:Int),x])) λ ah H2=>tb { D with nx:=Pv (i+1),ct:=Pv (i+1),bk:=D.nx } ah H2):vK (Ite K t a) g tb D σ H:=by
 refine vD (n:=xs.length) Pv h0 (λ σ H p=>?_) λ i σ H hi p=>?_
 ·exact⟨⟨xs,hq _ σ H p,aaj _⟩,hstop σ H p⟩
 ·refine⟨⟨xs,xs[i],hq _ σ H p,by simp [hi]⟩,?_⟩;rintro v H2 ⟨T,x,hT,rfl,e1,rfl⟩;exact hgo i x σ H T (e1 xs (hq _ σ H p)) p hT
end
theorem rO {σ:St}{H:Hp}{A B:Hp->Prop} (h:A H):rQ σ H λ b H4=>if b=true then A H4 else B H4:=by
 show if true=true then A H else B H
 rw[if_pos rfl];exact h
theorem jU {i:Nat}{v:V}{σ:St}{H:Hp}{A B:St->Hp->Prop} (h:A (σ.set i (some v)) H):cC i v σ H λ ae H3=>rQ ae H3 λ b H4=>if b=true then A ae H4 else B ae H4:=rO (σ:=σ.set i (some v)) (A:=A (σ.set i (some v))) (B:=B (σ.set i (some v))) h
theorem aH.put {H H':Hp}{p:Addr}{o:HO} (a:aH H H') (h:H p=none):aH H (upd H' p o):=λ b u e=>by rw[aJ (aN e h)];exact a b u e
theorem bW.put {K:aaa}{H H':Hp}{p:Addr}{o:HO} (a:bW K H H') (h:H' p=none\/pJ (H' p)):bW K H (upd H' p o):=a.trans (by
 rcases h with h | h
 ·exact (aH.new h).ts
 ·exact cO.ts cO.upd h)
def w8 (i j:Int):Prop:=0 < j/\j < 2 ^ 200
theorem sR {X:Cx}:dS X (binaryOp .FloorDiv) (rI w8 λ i j=>.int (i / j)):=yL λ i j _ _ _ _ _ hc q=>by
 have h1:(0:Int) < j:=hc.1;have h2:j < 2 ^ 200:=hc.2;refine floordiv_int (by omega) (by rw[Int.fdiv_eq_ediv_of_nonneg i (by omega)];exact q) (.inl (PyProof.noPylong_of_log2 ?_));have h0:j.natAbs≠0:=by omega
 have h3:j.natAbs < 2 ^ 200:=by omega
 have:=(Nat.log2_lt h0).mpr h3;omega
theorem eL:bootBuiltins "int" = some (.type "int"):=by decide +kernel
theorem bO:bootBuiltins "tuple" = some (.type "tuple"):=by decide +kernel
theorem qJ:bootBuiltins "list" = some (.type "list"):=by decide +kernel
theorem eM:bootBuiltins "bool" = some (.type "bool"):=by decide +kernel
section
variable {X:Cx}{tg:Expr}{pos:Pos}
theorem cQ {es:List Expr}{k:Nat}{t:w6}{n:Nat} (hK:X.K=K) (hc:X.calm=true) (h:zB X es t)
  (hn:(assignEach es X.env).length=n:=by rfl) (hst:(assignEach es X.env).findIdx? (·.1)=none:=by rfl):PG X (.Tuple es k pos) (yT K n t):=by
 subst hK;exact wU hc h hn hst
theorem uX (hK:X.K=K):u8 X (oI K):=by subst hK;exact xJ
def wO (K:aaa):List V->Hp->VK->Prop:=λ xs H Q=>∃ p ys,xs=[.ref p]/\(cG K H p ys\/bU K H p ys)/\Q (.int ys.length) H
theorem rB (hK:X.K=K):dA X (.builtin "len") (wO K):=by subst hK;exact mM
theorem fJ (hK:X.K=K) (hc:X.calm=true):dA X (.builtin "all") (wQ K):=by subst hK;exact rF hc
def wM (K:aaa):List V->Hp->VK->Prop:=λ xs H Q=>∃ p ys,xs=[.ref p]/\((cG K H p ys/\∀ l,H l=none->Q (.ref l) (upd H l (.tup ys)))\/(bU K H p ys/\Q (.ref p) H))
theorem eE (hK:X.K=K):dA X (.type "tuple") (wM K):=by subst hK;exact kL
def wN (K:aaa):List V->Hp->VK->Prop:=λ xs H Q=>∃ p ys,xs=[.ref p]/\(cG K H p ys\/bU K H p ys)/\∀ l,H l=none->Q (.ref l) (upd H l (.lst ys))
theorem kZ (hK:X.K=K):dA X (.type "list") (wN K):=by subst hK;exact mL
theorem sJ {l:Expr}{tl:TE} (hK:X.K=K) (hl:PE X l tl):PI X tg l (vX K tl):=by subst hK;exact uI hl
theorem cX {l:Expr}{tl:TE} (hK:X.K=K) (hl:PE X l tl):PI X tg l (xL K tl):=by subst hK;exact wT hl
theorem sK {a:Expr}{ta:TA}{p:Pos} (hK:X.K=K) (hg:Gl X "enumerate") (hm:X.mg "enumerate" = none) (ha:PA X [a] ta) (hs:starEach [a] X.env=[(false,eval a X.env)]:=by rfl):PI X tg (.Call (.Name "enumerate" p) [a] [] pos) (vY K ta):=by
 subst hK;exact uJ hg hm ha hs
theorem sO (hK:X.K=K):dS X (binaryOp .Mult) (vS K):=by subst hK;exact pV
theorem oP (hK:X.K=K) (hu:X.A.units+64 < cLine):dS X (compareOp .NotEq) (pS K):=by subst hK;exact qT hu
theorem hU {o e:Expr}{es:List Expr}{to:TE}{t:TA}{name:Str}{apos cpos:Pos}{T id:String}{r:V->List V->Hp->VK->Prop} (hK:X.K=K)
  (pa:PlainAttrs T) (slot:Slot T name id) (hty:typeOf (.builtin id)=pure (.type "method_descriptor")) (hm:MtR X id r) (ho:PE X o to) (ha:PA X (e::es) t)
  (hbase:attributeBase o name X.env (eval o X.env)=eval o X.env:=by rfl)
  (hfew:((backTo cpos (starEach (e::es) X.env)).all (λ x=>!x.1) && (backToKw cpos (keywordEach [] X.env)).all (λ x=>x.1.isSome)
   && decide ((e::es).length+([]:List Keyword).length+(if ([]:List Keyword).isEmpty then 0 else 1) < 30))=true:=by rfl)
  (hline:(apos.endLine == cpos.line)=true:=by rfl) (hs:starEach (e::es) X.env=(false,eval e X.env)::starEach es X.env:=by rfl) (hplain:(backTo cpos (starEach es X.env)).any (·.1)=false:=by rfl) :
  PE X (.Call (.Attribute o name apos) (e::es) [] cpos) (tBM K T r to t):=by subst hK;exact yH pa slot hty hm ho ha hbase hfew hline hs hplain
end
section
variable {X:Cx}{pos p:Pos}
theorem pL (i:Nat) {x:Str}{e:Expr}{te:TE}{pos':Pos} (hN:X.N.Nodup) (he:PE X e te) (hi:X.N[i]? = some x:=by rfl) (hx:xU X.env.scope x:=by exact Or.inl rfl) (hs:swapsWith e (some (.Name x pos')) pos.line X.env=pure false:=by rfl) (hf:X.fn x=true\/X.env.scope.names.lookup x=some .local:=by first | exact .inl rfl | exact .inr rfl | assumption) :
  PS X (.Assign [.Name x pos'] e pos) (eP te (cC i)):=oJ hN hi hx he hs hf
theorem gL (i:Nat) {x:Str} (hN:X.N.Nodup) (hi:X.N[i]? = some x:=by rfl) (hx:xU X.env.scope x:=by exact Or.inl rfl) (hf:X.fn x=true\/X.env.scope.names.lookup x=some .local:=by first | exact .inl rfl | exact .inr rfl | assumption):PG X (.Name x pos) (cC i):=lT hN hi hx hf
theorem gC (i:Nat) (N:List Str) {x:Str} (hN:N.Nodup:=by decide +kernel) (e:X.N=N:=by rfl) (hi:N[i]? = some x:=by rfl) (hx:xU X.env.scope x:=by exact Or.inl rfl) (hf:X.fn x=true\/X.env.scope.names.lookup x=some .local:=by exact Or.inr rfl):PG X (.Name x pos) (cC i):=lT (by rw[e];exact hN) (by rw[e];exact hi) hx hf
theorem px (K:aaa) {a b:Expr}{ta tb:TE} (ha:PE X a ta) (hb:PE X b tb) (hK:X.K=K:=by rfl) (hs:qK b:=by exact λ _ _=>rfl):PE X (.Subscript a b pos) (dX (oI K) ta tb):=yG (uX hK) ha hb hs
theorem iY (K:aaa) {a:Expr}{ta:TE} (hm:X.mg "len" = none) (ha:PE X a ta) (hK:X.K=K:=by rfl) (hg:Gl X "len" := by rfl) (hs:starEach [a] X.env=[(false,eval a X.env)]:=by rfl):PE X (.Call (.Name "len" p) [a] [] pos) (vQ (wO K) (bN ta eG)):=
 aL (rB hK) hg hm PySem.boot_len (aA ha aB hs) (by decide) (by decide) hs rfl
end
section
variable {X:Cx}
theorem lS {st:Stmt}:PS X st (λ _ _ _=>False):=λ _ _ _ _ _ _ h=>h.elim
theorem iX {o value:Expr}{f:Str}{pos pos':Pos}{ta tv:TE} (hK:X.K=K) (ha:PE X o ta) (hv:PE X value tv) (hs:swapsWith value (some (.Attribute o f pos')) pos.line X.env=pure false):PS X (.Assign [.Attribute o f pos'] value pos) (y9 K ta tv f):=by subst hK;exact wS ha hv hs
theorem sU (hK:X.K=K):dS X (binaryOp .Add) (vV K):=by subst hK;exact pX
theorem jC (l:Addr) (items:Array Value) (n:Nat) (x:Int) (u:Tok) (dd:Option Addr) (sl:Array (Option Value)) (c0:¬ (decide (x < -(2 ^ 63)) || decide (x ≥ 2 ^ 63))=true) (c1:¬ (items.isEmpty || x == 1)=true)
  (c2:(decide (x<=0) || items.isEmpty)=true) :
  Meets (Builtin.«tuple.__mul__» ⟨[.ref l,.int x u],[]⟩) (λ _ R s=>s.heap.get? l=some { cls:=.type "tuple",dict:=dd,data:=.seq items n,slots:=sl }/\
   R (.ok (.ret (.ref s.heap.objs.size))) { s with heap:=s.heap.push { cls:=.type "tuple",data:=.seq #[] } }):=
 .of_wp λ prog w A R s h=>by
  obtain⟨hp,g,d,tk,os⟩:=s;obtain⟨hl,h⟩:=h
  wp_walk
  rw[if_neg c0]
  wp_walk
  all_goals (try rw[if_neg c1])
  wp_walk
  all_goals (try rw[if_pos c2])
  wp_walk
  exact⟨_,rfl,h⟩
def vR (K:aaa):R2:=λ x y H Q=>∃ (l:Addr) (k:Int) (xs:List V),x=.ref l/\y=.int k/\bU K H l xs/\0<=k/\k < 1000000/\xs≠[]/\xs.length<=10/\
 ∀ p H',aH H H'->bU K H' p (List.replicate k.toNat xs).flatten->Q (.ref p) H'
theorem uO:dS X (binaryOp .Mult) (vR X.K):=by
 intro pins s σ H x y v u Q I rx ry h;obtain⟨l,k,xs,rfl,rfl,hq,h1,h2,hne,hl10,q⟩:=h
 by_cases hk:1<=k
 ·exact pV pins s σ H _ _ v u Q I rx ry ⟨l,k,xs,rfl,rfl,hq,hk,h2,hne,hl10,q⟩
 ·have hk0:k=0:=by omega
  subst hk0;cases rx;obtain⟨t,rfl⟩:=ry;obtain⟨its,r,ht,z⟩:=I.tuple hq;have hlen:=r.length;obtain⟨⟨cls,dd,data,sl⟩,e,hc,n,hd⟩:=id ht;simp only at hc hd;subst hc hd;refine wpAny_binaryOp_repeat_ref (T := "tuple") (U := "int") (by decide) ⟨_,e,rfl⟩ (λ s'=>typeIs_int s' 0 t) dZ F.fills_int_mul F.slot_int_rmul gK F.slot_int_index.lookup
   (call_meets F.slot_int_rmul (typeIs_int s 0 t) F.entry_int_rmul (F.args_int_rmul_2 _ _) (eY 0 t l its.toArray n dd sl) ⟨e,rfl,⟨_,e,rfl⟩,?_⟩)
  have hne':its≠[]:=λ z=>by rw[z] at hlen;exact hne (List.eq_nil_of_length_eq_zero hlen)
  have hemp:its.toArray.isEmpty=false:=by cases its with
   | nil=>exact absurd rfl hne'
   | cons a r=>rfl
  refine call_meets F.slot_tuple_mul ⟨_,e,rfl⟩ F.entry_tuple_mul (F.args_tuple_mul_2 _ _) (jC l its.toArray n 0 t dd sl (by decide) (by rw[hemp];decide) (by simp)) ⟨e,?_⟩;have I1:=I.laid (a:=s.heap.objs.size) (o:=.tup []) (h':=s.heap.push { cls:=.type "tuple",data:=.seq #[] }) (t':=s.toks)
   (λ _ _ q=>aad _ q) (aaj _) ⟨aay _,[],.nil,⟨_,aam _ rfl,rfl,0,rfl⟩⟩
  exact⟨.ref _,_,I1,rfl,q _ _ (aH.new I.fresh) (bU.of aF)⟩
theorem sN (hK:X.K=K):dS X (binaryOp .Mult) (vR K):=by subst hK;exact uO
end
section
variable {X:Cx}{pins:List (Addr×Obj)}{σ:St}{H:Hp}{s:Shared}
end
section
variable {H:Hp}
end
inductive G where
 | non
 | bl (b:Bool)
 | int (i:Int)
 | str (z:Str)
 | tup (gs:List G)
 | lst (gs:List G)
mutual
def aI (K:aaa) (H:Hp):G->V->Prop
 | .non,v=>v=.non
 | .bl b,v=>v=.bl b
 | .int i,v=>v=.int i
 | .str z,v=>v=.str z
 | .tup gs,v=>∃ a xs,v=.ref a/\bU K H a xs/\aO K H gs xs
 | .lst gs,v=>∃ a xs,v=.ref a/\cG K H a xs/\aO K H gs xs
def aO (K:aaa) (H:Hp):List G->List V->Prop
 | [],vs=>vs=[]
 | g::gs,vs=>∃ v r,vs=v::r/\aI K H g v/\aO K H gs r
end
mutual
def b9:G->G->Bool
 | .non,.non=>true
 | .bl a,.bl b=>a == b
 | .bl a,.int b=>(if a then 1 else 0) == b
 | .int a,.bl b=>a == (if b then 1 else 0)
 | .int a,.int b=>a == b
 | .str a,.str b=>a == b
 | .tup a,.tup b=>dG a b
 | .lst a,.lst b=>dG a b
 | _,_=>false
def dG:List G->List G->Bool
 | [],[]=>true
 | a::as,b::bs=>b9 a b && dG as bs
 | _,_=>false
end
mutual
def iC:G->Nat
 | .tup gs=>fB gs+1
 | .lst gs=>fB gs+1
 | _=>0
def fB:List G->Nat
 | []=>0
 | g::gs=>max (iC g) (fB gs)
end
mutual
theorem jZ:∀ g:G,b9 g g=true
 | .non=>by rw[b9]
 | .bl b=>by rw[b9];simp
 | .int i=>by rw[b9];simp
 | .str z=>by rw[b9];simp
 | .tup gs=>by rw[b9];exact iB gs
 | .lst gs=>by rw[b9];exact iB gs
theorem iB:∀ gs:List G,dG gs gs=true
 | []=>by rw[dG]
 | g::gs=>by rw[dG,jZ g,iB gs];rfl
end
theorem aO.length {K:aaa}{H:Hp}:∀ {gs:List G}{xs:List V},aO K H gs xs->xs.length=gs.length
 | [],_,h=>by rw[aO] at h;subst h;rfl
 | g::gs,_,h=>by rw[aO] at h;obtain⟨v,r,rfl,_,h⟩:=h;rw[aat,aat,aO.length h]
theorem aO.get {K:aaa}{H:Hp}:∀ {gs:List G}{xs:List V}{i:Nat}{g:G},aO K H gs xs->gs[i]? = some g->∃ x,xs[i]? = some x/\aI K H g x
 | [],_,_,_,_,e=>by simp at e
 | g::gs,_,0,g',h,e=>by rw[aO] at h;obtain⟨v,r,rfl,h1,_⟩:=h;simp at e;subst e;exact⟨v,by simp,h1⟩
 | g::gs,_,i+1,g',h,e=>by
  rw[aO] at h;obtain⟨v,r,rfl,_,h⟩:=h;obtain⟨x,h1,h2⟩:=aO.get h (i:=i) (by simpa using e);exact⟨x,by simpa using h1,h2⟩
theorem aO.get' {K:aaa}{H:Hp}{gs:List G}{xs:List V}{i:Nat}{x:V} (h:aO K H gs xs) (e:xs[i]? = some x):∃ g,gs[i]? = some g/\aI K H g x:=by
 have hi:=(aaf.mp e).1;rw[h.length] at hi;obtain⟨x',h1,h2⟩:=h.get (i:=i) (g:=gs[i]) (by simp [hi]);rw[e] at h1;cases h1;exact⟨gs[i],by simp [hi],h2⟩
theorem d5 {g:G}:∀ {gs:List G},g∈gs->iC g<=fB gs
 | [],h=>by cases h
 | a::gs,h=>by
  rw[fB];rcases aas.1 h with rfl | h
  ·omega
  ·have:=d5 h;omega
def yW (gs hs:List G) (j:Nat):Bool:=match gs[j]?,hs[j]? with
 | some g,some h=>b9 g h
 | _,_=>true
theorem eW (n:Nat) (e:Nat->Bool):(List.range (n+1)).all e=(e 0 && (List.range n).all λ j=>e (j+1)):=by
 rw[List.range_succ_eq_map,List.all_cons,List.all_map];rfl
theorem mR:∀ (gs hs:List G),gs.length=hs.length->(List.range gs.length).all (yW gs hs)=dG gs hs
 | [],[],_=>by rw[dG];rfl
 | [],_::_,h=>by simp at h
 | _::_,[],h=>by simp at h
 | g::gs,h::hs,hl=>by
  rw[aat,eW,dG,<- mR gs hs (by simpa using hl)];congr 1
theorem kD:∀ (gs hs:List G),((List.range (min gs.length hs.length)).all (yW gs hs) && gs.length == hs.length)=dG gs hs
 | [],[]=>by rw[dG];rfl
 | [],_::_=>by simp [dG]
 | _::_,[]=>by simp [dG]
 | g::gs,h::hs=>by
  have e1:min (g::gs).length (h::hs).length=min gs.length hs.length+1:=by rw[aat,aat];omega
  have e2:((g::gs).length == (h::hs).length)=(gs.length == hs.length):=by simp
  rw[e1,e2,eW,dG,<- kD gs hs,Bool.and_assoc];congr 1
theorem kA:∀ (gs hs:List G),gs.length≠hs.length->dG gs hs=false
 | [],[],h=>absurd rfl h
 | [],_::_,_=>by simp [dG]
 | _::_,[],_=>by simp [dG]
 | g::gs,h::hs,hl=>by rw[dG,kA gs hs (by simpa using hl),Bool.and_false]
theorem mD {h:Heap}{a:Addr}{xs ys:Array Value} (h1:h.IsTuple a xs) (h2:h.IsTuple a ys):xs=ys:=by
 obtain⟨o,e,_,n,d⟩:=h1;obtain⟨o',e',_,n',d'⟩:=h2;rw[e] at e';cases e';rw[d] at d';injection d'
theorem nM {h:Heap}{a:Addr}{xs ys:Array Value} (h1:h.IsList a xs) (h2:h.IsList a ys):xs=ys:=by
 obtain⟨o,e,_,n,d⟩:=h1;obtain⟨o',e',_,n',d'⟩:=h2;rw[e] at e';cases e';rw[d] at d';injection d'
section
variable {X:Cx}{pins:List (Addr×Obj)}{σ:St}{H:Hp}{s:Shared}
mutual
theorem pM (I:Inv X pins σ H s):∀ (g h:G) (x y:V) (u:Value),aI X.K H g x->aI X.K H h y->bD x u->bD y u->g=h
 | .non,h,x,y,u,hx,hy,rx,ry=>by
  rw[aI] at hx;subst hx;cases rx;cases h <;> rw[aI] at hy
  ·subst hy;cases ry
  ·subst hy;obtain⟨_,e⟩:=ry;cases e
  ·subst hy;obtain⟨_,e⟩:=ry;cases e
  ·obtain⟨_,_,rfl,_⟩:=hy;cases ry
  ·obtain⟨_,_,rfl,_⟩:=hy;cases ry
 | .bl b,h,x,y,u,hx,hy,rx,ry=>by
  rw[aI] at hx;subst hx;cases rx;cases h <;> rw[aI] at hy
  ·subst hy;cases ry
  ·subst hy;injection ry with e;rw[e]
  ·subst hy;obtain⟨_,e⟩:=ry;cases e
  ·subst hy;obtain⟨_,e⟩:=ry;cases e
  ·obtain⟨_,_,rfl,_⟩:=hy;cases ry
  ·obtain⟨_,_,rfl,_⟩:=hy;cases ry
 | .int b,h,x,y,u,hx,hy,rx,ry=>by
  rw[aI] at hx;subst hx;obtain⟨t,rfl⟩:=rx;cases h <;> rw[aI] at hy
  ·subst hy;cases ry
  ·subst hy;cases ry
  ·subst hy;obtain⟨_,e⟩:=ry;injection e with e;rw[e]
  ·subst hy;obtain⟨_,e⟩:=ry;cases e
  ·obtain⟨_,_,rfl,_⟩:=hy;cases ry
  ·obtain⟨_,_,rfl,_⟩:=hy;cases ry
 | .str b,h,x,y,u,hx,hy,rx,ry=>by
  rw[aI] at hx;subst hx;obtain⟨t,rfl⟩:=rx;cases h <;> rw[aI] at hy
  ·subst hy;cases ry
  ·subst hy;cases ry
  ·subst hy;obtain⟨_,e⟩:=ry;cases e
  ·subst hy;obtain⟨_,e⟩:=ry;injection e with e;rw[e]
  ·obtain⟨_,_,rfl,_⟩:=hy;cases ry
  ·obtain⟨_,_,rfl,_⟩:=hy;cases ry
 | .tup gs,h,x,y,u,hx,hy,rx,ry=>by
  rw[aI] at hx;obtain⟨a,xs,rfl,q1,l1⟩:=hx;cases rx;cases h <;> rw[aI] at hy
  ·subst hy;cases ry
  ·subst hy;cases ry
  ·subst hy;obtain⟨_,e⟩:=ry;cases e
  ·subst hy;obtain⟨_,e⟩:=ry;cases e
  ·obtain⟨b,ys,rfl,q2,l2⟩:=hy;cases ry;obtain⟨us,r1,p1,_⟩:=I.tuple q1;obtain⟨vs,r2,p2,_⟩:=I.tuple q2;have e:=mD p1 p2;have e':us=vs:=by simpa using e
   subst e';rw[o0 I gs _ xs ys us l1 l2 r1 r2]
  ·obtain⟨b,ys,rfl,q2,l2⟩:=hy;cases ry;obtain⟨us,r1,p1,_⟩:=I.tuple q1;obtain⟨vs,r2,p2,_⟩:=I.list q2;exact absurd rfl (SeqAt.ne_of_list_tuple p2.isList p1)
 | .lst gs,h,x,y,u,hx,hy,rx,ry=>by
  rw[aI] at hx;obtain⟨a,xs,rfl,q1,l1⟩:=hx;cases rx;cases h <;> rw[aI] at hy
  ·subst hy;cases ry
  ·subst hy;cases ry
  ·subst hy;obtain⟨_,e⟩:=ry;cases e
  ·subst hy;obtain⟨_,e⟩:=ry;cases e
  ·obtain⟨b,ys,rfl,q2,l2⟩:=hy;cases ry;obtain⟨us,r1,p1,_⟩:=I.list q1;obtain⟨vs,r2,p2,_⟩:=I.tuple q2;exact absurd rfl (SeqAt.ne_of_list_tuple p1.isList p2)
  ·obtain⟨b,ys,rfl,q2,l2⟩:=hy;cases ry;obtain⟨us,r1,p1,_⟩:=I.list q1;obtain⟨vs,r2,p2,_⟩:=I.list q2;have e:=nM p1.isList p2.isList;have e':us=vs:=by simpa using e
   subst e';rw[o0 I gs _ xs ys us l1 l2 r1 r2]
theorem o0 (I:Inv X pins σ H s):∀ (gs hs:List G) (xs ys:List V) (us:List Value),aO X.K H gs xs->aO X.K H hs ys->aY xs us->aY ys us->gs=hs
 | [],hs,xs,ys,us,h1,h2,r1,r2=>by
  rw[aO] at h1;subst h1;cases r1;cases r2;cases hs with
  | nil=>rfl
  | cons h hs=>rw[aO] at h2;obtain⟨_,_,e,_⟩:=h2;cases e
 | g::gs,hs,xs,ys,us,h1,h2,r1,r2=>by
  rw[aO] at h1;obtain⟨x,r,rfl,i1,l1⟩:=h1;cases r1 with
  | cons ra rb=>
   cases hs with
   | nil=>rw[aO] at h2;subst h2;cases r2
   | cons h hs=>
    rw[aO] at h2;obtain⟨y,r',rfl,i2,l2⟩:=h2;cases r2 with
    | cons ra' rb'=>rw[pM I g h _ _ _ i1 i2 ra ra',o0 I gs hs _ _ _ l1 l2 rb rb']
end
theorem qD {us:List Value}{j:Nat}{w:Value} (h1:j < us.toArray.size) (h:us[j]? = some w):us.toArray[j]=w:=by
 have:us[j]? = some us.toArray[j]:=by simp
 rw[this] at h;exact aav h
theorem jA {n:Nat}{gs hs:List G}{xs ys:List V}{us vs:List Value}{A:Around}
  (ih:∀ (g h:G) (x y:V) (u v:Value),g∈gs->aI X.K H g x->aI X.K H h y->bD x u->bD y v->SeqAt.EqAt A s u v (b9 g h))
  (l1:aO X.K H gs xs) (l2:aO X.K H hs ys) (r1:aY xs us) (r2:aY ys vs) (j:Nat) (h1:j < us.toArray.size) (h2:j < vs.toArray.size):SeqAt.EqAt A s us.toArray[j] vs.toArray[j] (yW gs hs j):=by
 have e1:=r1.length;have e2:=r2.length;have e3:=l1.length;have e4:=l2.length;have j1:j < gs.length:=by rw[<- e3,e1];simpa using h1
 have j2:j < hs.length:=by rw[<- e4,e2];simpa using h2
 obtain⟨x,gx,ix⟩:=l1.get (i:=j) (g:=gs[j]) (by simp);obtain⟨y,gy,iy⟩:=l2.get (i:=j) (g:=hs[j]) (by simp);obtain⟨w1,g1,t1⟩:=r1.get gx;obtain⟨w2,g2,t2⟩:=r2.get gy;rw[qD h1 g1,qD h2 g2];have:yW gs hs j=b9 gs[j] hs[j]:=by unfold yW;simp [j1,j2]
 rw[this];exact ih _ _ x y w1 w2 (abv j1) ix iy t1 t2
theorem nP (I:Inv X pins σ H s):∀ (n:Nat) (g h:G) (A:Around) (x y:V) (u v:Value),iC g<=n->A.units+n < cLine->aI X.K H g x->aI X.K H h y->bD x u->bD y v->SeqAt.EqAt A s u v (b9 g h)
 | n,.non,.non,A,x,y,u,v,hd,hu,hx,hy,rx,ry=>by
  rw[aI] at hx;subst hx;cases rx;rw[aI] at hy;subst hy;cases ry;rw[b9];exact SeqAt.EqAt.same _
 | n,.non,.bl gy,A,x,y,u,v,hd,hu,hx,hy,rx,ry=>by
  rw[aI] at hx;subst hx;cases rx;rw[aI] at hy;subst hy;cases ry;rw[show b9 (.non) (.bl gy)=false from by simp [b9]];exact SeqAt.EqAt.none_bool gy
 | n,.non,.int gy,A,x,y,u,v,hd,hu,hx,hy,rx,ry=>by
  rw[aI] at hx;subst hx;cases rx;rw[aI] at hy;subst hy;obtain⟨ty,rfl⟩:=ry;rw[show b9 (.non) (.int gy)=false from by simp [b9]];exact SeqAt.EqAt.none_int gy ty
 | n,.non,.str gy,A,x,y,u,v,hd,hu,hx,hy,rx,ry=>by
  rw[aI] at hx;subst hx;cases rx;rw[aI] at hy;subst hy;obtain⟨ty,rfl⟩:=ry;rw[show b9 (.non) (.str gy)=false from by simp [b9]];exact SeqAt.EqAt.none_str gy ty
 | n,.non,.tup gy,A,x,y,u,v,hd,hu,hx,hy,rx,ry=>by
  rw[aI] at hx;subst hx;cases rx;rw[aI] at hy;obtain⟨ay,xsy,rfl,qy,ly⟩:=hy;cases ry;obtain⟨usy,vy,py,_⟩:=I.tuple qy;rw[show b9 (.non) (.tup gy)=false from by simp [b9]];exact SeqAt.EqAt.none_tuple py (by omega)
 | n,.non,.lst gy,A,x,y,u,v,hd,hu,hx,hy,rx,ry=>by
  rw[aI] at hx;subst hx;cases rx;rw[aI] at hy;obtain⟨ay,xsy,rfl,qy,ly⟩:=hy;cases ry;obtain⟨usy,vy,py,_⟩:=I.list qy;rw[show b9 (.non) (.lst gy)=false from by simp [b9]];exact SeqAt.EqAt.none_list py.isList (by omega)
 | n,.bl gx,.non,A,x,y,u,v,hd,hu,hx,hy,rx,ry=>by
  rw[aI] at hx;subst hx;cases rx;rw[aI] at hy;subst hy;cases ry;rw[show b9 (.bl gx) (.non)=false from by simp [b9]];exact SeqAt.EqAt.bool_none gx
 | n,.bl gx,.bl gy,A,x,y,u,v,hd,hu,hx,hy,rx,ry=>by
  rw[aI] at hx;subst hx;cases rx;rw[aI] at hy;subst hy;cases ry;rw[b9];exact SeqAt.EqAt.bool_bool gx gy
 | n,.bl gx,.int gy,A,x,y,u,v,hd,hu,hx,hy,rx,ry=>by
  rw[aI] at hx;subst hx;cases rx;rw[aI] at hy;subst hy;obtain⟨ty,rfl⟩:=ry;rw[b9];exact SeqAt.EqAt.bool_int gx gy ty
 | n,.bl gx,.str gy,A,x,y,u,v,hd,hu,hx,hy,rx,ry=>by
  rw[aI] at hx;subst hx;cases rx;rw[aI] at hy;subst hy;obtain⟨ty,rfl⟩:=ry;rw[show b9 (.bl gx) (.str gy)=false from by simp [b9]];exact SeqAt.EqAt.bool_str gx gy ty
 | n,.bl gx,.tup gy,A,x,y,u,v,hd,hu,hx,hy,rx,ry=>by
  rw[aI] at hx;subst hx;cases rx;rw[aI] at hy;obtain⟨ay,xsy,rfl,qy,ly⟩:=hy;cases ry;obtain⟨usy,vy,py,_⟩:=I.tuple qy;rw[show b9 (.bl gx) (.tup gy)=false from by simp [b9]];exact SeqAt.EqAt.bool_tuple gx py (by omega)
 | n,.bl gx,.lst gy,A,x,y,u,v,hd,hu,hx,hy,rx,ry=>by
  rw[aI] at hx;subst hx;cases rx;rw[aI] at hy;obtain⟨ay,xsy,rfl,qy,ly⟩:=hy;cases ry;obtain⟨usy,vy,py,_⟩:=I.list qy;rw[show b9 (.bl gx) (.lst gy)=false from by simp [b9]];exact SeqAt.EqAt.bool_list gx py.isList (by omega)
 | n,.int gx,.non,A,x,y,u,v,hd,hu,hx,hy,rx,ry=>by
  rw[aI] at hx;subst hx;obtain⟨tx,rfl⟩:=rx;rw[aI] at hy;subst hy;cases ry;rw[show b9 (.int gx) (.non)=false from by simp [b9]];exact SeqAt.EqAt.int_none gx tx
 | n,.int gx,.bl gy,A,x,y,u,v,hd,hu,hx,hy,rx,ry=>by
  rw[aI] at hx;subst hx;obtain⟨tx,rfl⟩:=rx;rw[aI] at hy;subst hy;cases ry;rw[b9];exact SeqAt.EqAt.int_bool gx tx gy
 | n,.int gx,.int gy,A,x,y,u,v,hd,hu,hx,hy,rx,ry=>by
  rw[aI] at hx;subst hx;obtain⟨tx,rfl⟩:=rx;rw[aI] at hy;subst hy;obtain⟨ty,rfl⟩:=ry;rw[b9];exact SeqAt.EqAt.int_int gx tx gy ty
 | n,.int gx,.str gy,A,x,y,u,v,hd,hu,hx,hy,rx,ry=>by
  rw[aI] at hx;subst hx;obtain⟨tx,rfl⟩:=rx;rw[aI] at hy;subst hy;obtain⟨ty,rfl⟩:=ry;rw[show b9 (.int gx) (.str gy)=false from by simp [b9]];exact SeqAt.EqAt.int_str gx tx gy ty
 | n,.int gx,.tup gy,A,x,y,u,v,hd,hu,hx,hy,rx,ry=>by
  rw[aI] at hx;subst hx;obtain⟨tx,rfl⟩:=rx;rw[aI] at hy;obtain⟨ay,xsy,rfl,qy,ly⟩:=hy;cases ry;obtain⟨usy,vy,py,_⟩:=I.tuple qy;rw[show b9 (.int gx) (.tup gy)=false from by simp [b9]];exact SeqAt.EqAt.int_tuple gx tx py (by omega)
 | n,.int gx,.lst gy,A,x,y,u,v,hd,hu,hx,hy,rx,ry=>by
  rw[aI] at hx;subst hx;obtain⟨tx,rfl⟩:=rx;rw[aI] at hy;obtain⟨ay,xsy,rfl,qy,ly⟩:=hy;cases ry;obtain⟨usy,vy,py,_⟩:=I.list qy;rw[show b9 (.int gx) (.lst gy)=false from by simp [b9]];exact SeqAt.EqAt.int_list gx tx py.isList (by omega)
 | n,.str gx,.non,A,x,y,u,v,hd,hu,hx,hy,rx,ry=>by
  rw[aI] at hx;subst hx;obtain⟨tx,rfl⟩:=rx;rw[aI] at hy;subst hy;cases ry;rw[show b9 (.str gx) (.non)=false from by simp [b9]];exact SeqAt.EqAt.str_none gx tx
 | n,.str gx,.bl gy,A,x,y,u,v,hd,hu,hx,hy,rx,ry=>by
  rw[aI] at hx;subst hx;obtain⟨tx,rfl⟩:=rx;rw[aI] at hy;subst hy;cases ry;rw[show b9 (.str gx) (.bl gy)=false from by simp [b9]];exact SeqAt.EqAt.str_bool gx tx gy
 | n,.str gx,.int gy,A,x,y,u,v,hd,hu,hx,hy,rx,ry=>by
  rw[aI] at hx;subst hx;obtain⟨tx,rfl⟩:=rx;rw[aI] at hy;subst hy;obtain⟨ty,rfl⟩:=ry;rw[show b9 (.str gx) (.int gy)=false from by simp [b9]];exact SeqAt.EqAt.str_int gx tx gy ty
 | n,.str gx,.str gy,A,x,y,u,v,hd,hu,hx,hy,rx,ry=>by
  rw[aI] at hx;subst hx;obtain⟨tx,rfl⟩:=rx;rw[aI] at hy;subst hy;obtain⟨ty,rfl⟩:=ry;rw[b9];exact SeqAt.EqAt.str_str gx tx gy ty
 | n,.str gx,.tup gy,A,x,y,u,v,hd,hu,hx,hy,rx,ry=>by
  rw[aI] at hx;subst hx;obtain⟨tx,rfl⟩:=rx;rw[aI] at hy;obtain⟨ay,xsy,rfl,qy,ly⟩:=hy;cases ry;obtain⟨usy,vy,py,_⟩:=I.tuple qy;rw[show b9 (.str gx) (.tup gy)=false from by simp [b9]];exact SeqAt.EqAt.str_tuple gx tx py (by omega)
 | n,.str gx,.lst gy,A,x,y,u,v,hd,hu,hx,hy,rx,ry=>by
  rw[aI] at hx;subst hx;obtain⟨tx,rfl⟩:=rx;rw[aI] at hy;obtain⟨ay,xsy,rfl,qy,ly⟩:=hy;cases ry;obtain⟨usy,vy,py,_⟩:=I.list qy;rw[show b9 (.str gx) (.lst gy)=false from by simp [b9]];exact SeqAt.EqAt.str_list gx tx py.isList (by omega)
 | n,.tup gx,.non,A,x,y,u,v,hd,hu,hx,hy,rx,ry=>by
  rw[aI] at hx;obtain⟨ax,xsx,rfl,qx,lx⟩:=hx;cases rx;obtain⟨usx,vx,px,_⟩:=I.tuple qx;rw[aI] at hy;subst hy;cases ry;rw[show b9 (.tup gx) (.non)=false from by simp [b9]];exact SeqAt.EqAt.tuple_none px (by omega)
 | n,.tup gx,.bl gy,A,x,y,u,v,hd,hu,hx,hy,rx,ry=>by
  rw[aI] at hx;obtain⟨ax,xsx,rfl,qx,lx⟩:=hx;cases rx;obtain⟨usx,vx,px,_⟩:=I.tuple qx;rw[aI] at hy;subst hy;cases ry;rw[show b9 (.tup gx) (.bl gy)=false from by simp [b9]];exact SeqAt.EqAt.tuple_bool gy px (by omega)
 | n,.tup gx,.int gy,A,x,y,u,v,hd,hu,hx,hy,rx,ry=>by
  rw[aI] at hx;obtain⟨ax,xsx,rfl,qx,lx⟩:=hx;cases rx;obtain⟨usx,vx,px,_⟩:=I.tuple qx;rw[aI] at hy;subst hy;obtain⟨ty,rfl⟩:=ry;rw[show b9 (.tup gx) (.int gy)=false from by simp [b9]];exact SeqAt.EqAt.tuple_int gy ty px (by omega)
 | n,.tup gx,.str gy,A,x,y,u,v,hd,hu,hx,hy,rx,ry=>by
  rw[aI] at hx;obtain⟨ax,xsx,rfl,qx,lx⟩:=hx;cases rx;obtain⟨usx,vx,px,_⟩:=I.tuple qx;rw[aI] at hy;subst hy;obtain⟨ty,rfl⟩:=ry;rw[show b9 (.tup gx) (.str gy)=false from by simp [b9]];exact SeqAt.EqAt.tuple_str gy ty px (by omega)
 | 0,.tup gx,.tup gy,A,x,y,u,v,hd,_,_,_,_,_=>by rw[iC] at hd;omega
 | n+1,.tup gx,.tup gy,A,x,y,u,v,hd,hu,hx,hy,rx,ry=>by
  rw[aI] at hx;obtain⟨ax,xsx,rfl,qx,lx⟩:=hx;cases rx;obtain⟨usx,vx,px,_⟩:=I.tuple qx;rw[aI] at hy;obtain⟨ay,xsy,rfl,qy,ly⟩:=hy;cases ry;obtain⟨usy,vy,py,_⟩:=I.tuple qy
  by_cases hab:ax=ay
  ·subst hab;have e:=pM I (.tup gx) (.tup gy) (.ref ax) (.ref ax) _ (by rw[aI];exact⟨_,_,rfl,qx,lx⟩) (by rw[aI];exact⟨_,_,rfl,qy,ly⟩) rfl rfl;rw[e,jZ];exact SeqAt.EqAt.same _
  have e1:=vx.length;have e2:=vy.length;have e3:=lx.length;have e4:=ly.length;rw[show b9 (.tup gx) (.tup gy)=dG gx gy from by rw[b9],<- kD gx gy];have ex:gx.length=usx.toArray.size:=by rw[<- e3,e1,aac]
  have ey:gy.length=usy.toArray.size:=by rw[<- e4,e2,aac]
  rw[ex,ey];refine SeqAt.EqAt.of_refs hab ?_;exact SeqAt.RcAt.tuples px py (by omega) (λ j h1 h2=>jA (n:=0) (λ g h x y u v hm ix iy tx ty=>nP I n g h A.in1 x y u v (by have:=d5 hm;rw[iC] at hd;omega) (by show A.units+1+n < cLine;omega) ix iy tx ty) lx ly vx vy j h1 h2)
 | n,.tup gx,.lst gy,A,x,y,u,v,hd,hu,hx,hy,rx,ry=>by
  rw[aI] at hx;obtain⟨ax,xsx,rfl,qx,lx⟩:=hx;cases rx;obtain⟨usx,vx,px,_⟩:=I.tuple qx;rw[aI] at hy;obtain⟨ay,xsy,rfl,qy,ly⟩:=hy;cases ry;obtain⟨usy,vy,py,_⟩:=I.list qy;rw[show b9 (.tup gx) (.lst gy)=false from by simp [b9]];exact SeqAt.EqAt.tuple_list px py.isList (by omega)
 | n,.lst gx,.non,A,x,y,u,v,hd,hu,hx,hy,rx,ry=>by
  rw[aI] at hx;obtain⟨ax,xsx,rfl,qx,lx⟩:=hx;cases rx;obtain⟨usx,vx,px,_⟩:=I.list qx;rw[aI] at hy;subst hy;cases ry;rw[show b9 (.lst gx) (.non)=false from by simp [b9]];exact SeqAt.EqAt.list_none px.isList (by omega)
 | n,.lst gx,.bl gy,A,x,y,u,v,hd,hu,hx,hy,rx,ry=>by
  rw[aI] at hx;obtain⟨ax,xsx,rfl,qx,lx⟩:=hx;cases rx;obtain⟨usx,vx,px,_⟩:=I.list qx;rw[aI] at hy;subst hy;cases ry;rw[show b9 (.lst gx) (.bl gy)=false from by simp [b9]];exact SeqAt.EqAt.list_bool gy px.isList (by omega)
 | n,.lst gx,.int gy,A,x,y,u,v,hd,hu,hx,hy,rx,ry=>by
  rw[aI] at hx;obtain⟨ax,xsx,rfl,qx,lx⟩:=hx;cases rx;obtain⟨usx,vx,px,_⟩:=I.list qx;rw[aI] at hy;subst hy;obtain⟨ty,rfl⟩:=ry;rw[show b9 (.lst gx) (.int gy)=false from by simp [b9]];exact SeqAt.EqAt.list_int gy ty px.isList (by omega)
 | n,.lst gx,.str gy,A,x,y,u,v,hd,hu,hx,hy,rx,ry=>by
  rw[aI] at hx;obtain⟨ax,xsx,rfl,qx,lx⟩:=hx;cases rx;obtain⟨usx,vx,px,_⟩:=I.list qx;rw[aI] at hy;subst hy;obtain⟨ty,rfl⟩:=ry;rw[show b9 (.lst gx) (.str gy)=false from by simp [b9]];exact SeqAt.EqAt.list_str gy ty px.isList (by omega)
 | n,.lst gx,.tup gy,A,x,y,u,v,hd,hu,hx,hy,rx,ry=>by
  rw[aI] at hx;obtain⟨ax,xsx,rfl,qx,lx⟩:=hx;cases rx;obtain⟨usx,vx,px,_⟩:=I.list qx;rw[aI] at hy;obtain⟨ay,xsy,rfl,qy,ly⟩:=hy;cases ry;obtain⟨usy,vy,py,_⟩:=I.tuple qy;rw[show b9 (.lst gx) (.tup gy)=false from by simp [b9]];exact SeqAt.EqAt.list_tuple px.isList py (by omega)
 | 0,.lst gx,.lst gy,A,x,y,u,v,hd,_,_,_,_,_=>by rw[iC] at hd;omega
 | n+1,.lst gx,.lst gy,A,x,y,u,v,hd,hu,hx,hy,rx,ry=>by
  rw[aI] at hx;obtain⟨ax,xsx,rfl,qx,lx⟩:=hx;cases rx;obtain⟨usx,vx,px,_⟩:=I.list qx;rw[aI] at hy;obtain⟨ay,xsy,rfl,qy,ly⟩:=hy;cases ry;obtain⟨usy,vy,py,_⟩:=I.list qy
  by_cases hab:ax=ay
  ·subst hab;have e:=pM I (.lst gx) (.lst gy) (.ref ax) (.ref ax) _ (by rw[aI];exact⟨_,_,rfl,qx,lx⟩) (by rw[aI];exact⟨_,_,rfl,qy,ly⟩) rfl rfl;rw[e,jZ];exact SeqAt.EqAt.same _
  have e1:=vx.length;have e2:=vy.length;have e3:=lx.length;have e4:=ly.length;rw[show b9 (.lst gx) (.lst gy)=dG gx gy from by rw[b9]];have ex:gx.length=usx.toArray.size:=by rw[<- e3,e1,aac]
  have ey:gy.length=usy.toArray.size:=by rw[<- e4,e2,aac]
  by_cases hl:gx.length=gy.length
  ·rw[<- mR gx gy hl,ex];refine SeqAt.EqAt.of_refs hab ?_;exact SeqAt.RcAt.lists px.isList py.isList (by omega) (by omega) (λ j h1 h2=>jA (n:=0) (λ g h x y u v hm ix iy tx ty=>nP I n g h A.in1 x y u v (by have:=d5 hm;rw[iC] at hd;omega) (by show A.units+1+n < cLine;omega) ix iy tx ty) lx ly vx vy j h1 h2)
  ·rw[kA gx gy hl];refine SeqAt.EqAt.of_refs hab ?_;exact SeqAt.RcAt.lists_lengths px.isList py.isList (by rw[<- ex,<- ey];simpa using hl) (by omega)
theorem rcG (I:Inv X pins σ H s) {A:Around} (hu:A.units+40 < cLine):∀ (g h:G) (x y:V) (u v:Value),iC g<=30->aI X.K H g x->aI X.K H h y->bD x u->bD y v->SeqAt.RcAt A s u v (b9 g h)
 | .non,.non,x,y,u,v,hd,hx,hy,rx,ry=>by
  rw[aI] at hx;subst hx;cases rx;rw[aI] at hy;subst hy;cases ry;rw[b9];exact SeqAt.RcAt.none_none
 | .non,.bl gy,x,y,u,v,hd,hx,hy,rx,ry=>by
  rw[aI] at hx;subst hx;cases rx;rw[aI] at hy;subst hy;cases ry;rw[show b9 (.non) (.bl gy)=false from by simp [b9]];exact SeqAt.RcAt.none_bool gy
 | .non,.int gy,x,y,u,v,hd,hx,hy,rx,ry=>by
  rw[aI] at hx;subst hx;cases rx;rw[aI] at hy;subst hy;obtain⟨ty,rfl⟩:=ry;rw[show b9 (.non) (.int gy)=false from by simp [b9]];exact SeqAt.RcAt.none_int gy ty
 | .non,.str gy,x,y,u,v,hd,hx,hy,rx,ry=>by
  rw[aI] at hx;subst hx;cases rx;rw[aI] at hy;subst hy;obtain⟨ty,rfl⟩:=ry;rw[show b9 (.non) (.str gy)=false from by simp [b9]];exact SeqAt.RcAt.none_str gy ty
 | .non,.tup gy,x,y,u,v,hd,hx,hy,rx,ry=>by
  rw[aI] at hx;subst hx;cases rx;rw[aI] at hy;obtain⟨ay,xsy,rfl,qy,ly⟩:=hy;cases ry;obtain⟨usy,vy,py,_⟩:=I.tuple qy;rw[show b9 (.non) (.tup gy)=false from by simp [b9]];exact SeqAt.RcAt.none_tuple py (by omega)
 | .non,.lst gy,x,y,u,v,hd,hx,hy,rx,ry=>by
  rw[aI] at hx;subst hx;cases rx;rw[aI] at hy;obtain⟨ay,xsy,rfl,qy,ly⟩:=hy;cases ry;obtain⟨usy,vy,py,_⟩:=I.list qy;rw[show b9 (.non) (.lst gy)=false from by simp [b9]];exact SeqAt.RcAt.none_list py.isList (by omega)
 | .bl gx,.non,x,y,u,v,hd,hx,hy,rx,ry=>by
  rw[aI] at hx;subst hx;cases rx;rw[aI] at hy;subst hy;cases ry;rw[show b9 (.bl gx) (.non)=false from by simp [b9]];exact SeqAt.RcAt.bool_none gx
 | .bl gx,.bl gy,x,y,u,v,hd,hx,hy,rx,ry=>by
  rw[aI] at hx;subst hx;cases rx;rw[aI] at hy;subst hy;cases ry;rw[b9];exact SeqAt.RcAt.bool_bool gx gy
 | .bl gx,.int gy,x,y,u,v,hd,hx,hy,rx,ry=>by
  rw[aI] at hx;subst hx;cases rx;rw[aI] at hy;subst hy;obtain⟨ty,rfl⟩:=ry;rw[b9];exact SeqAt.RcAt.bool_int gx gy ty
 | .bl gx,.str gy,x,y,u,v,hd,hx,hy,rx,ry=>by
  rw[aI] at hx;subst hx;cases rx;rw[aI] at hy;subst hy;obtain⟨ty,rfl⟩:=ry;rw[show b9 (.bl gx) (.str gy)=false from by simp [b9]];exact SeqAt.RcAt.bool_str gx gy ty
 | .bl gx,.tup gy,x,y,u,v,hd,hx,hy,rx,ry=>by
  rw[aI] at hx;subst hx;cases rx;rw[aI] at hy;obtain⟨ay,xsy,rfl,qy,ly⟩:=hy;cases ry;obtain⟨usy,vy,py,_⟩:=I.tuple qy;rw[show b9 (.bl gx) (.tup gy)=false from by simp [b9]];exact SeqAt.RcAt.bool_tuple gx py (by omega)
 | .bl gx,.lst gy,x,y,u,v,hd,hx,hy,rx,ry=>by
  rw[aI] at hx;subst hx;cases rx;rw[aI] at hy;obtain⟨ay,xsy,rfl,qy,ly⟩:=hy;cases ry;obtain⟨usy,vy,py,_⟩:=I.list qy;rw[show b9 (.bl gx) (.lst gy)=false from by simp [b9]];exact SeqAt.RcAt.bool_list gx py.isList (by omega)
 | .int gx,.non,x,y,u,v,hd,hx,hy,rx,ry=>by
  rw[aI] at hx;subst hx;obtain⟨tx,rfl⟩:=rx;rw[aI] at hy;subst hy;cases ry;rw[show b9 (.int gx) (.non)=false from by simp [b9]];exact SeqAt.RcAt.int_none gx tx
 | .int gx,.bl gy,x,y,u,v,hd,hx,hy,rx,ry=>by
  rw[aI] at hx;subst hx;obtain⟨tx,rfl⟩:=rx;rw[aI] at hy;subst hy;cases ry;rw[b9];exact SeqAt.RcAt.int_bool gx tx gy
 | .int gx,.int gy,x,y,u,v,hd,hx,hy,rx,ry=>by
  rw[aI] at hx;subst hx;obtain⟨tx,rfl⟩:=rx;rw[aI] at hy;subst hy;obtain⟨ty,rfl⟩:=ry;rw[b9];exact SeqAt.RcAt.int_int gx tx gy ty
 | .int gx,.str gy,x,y,u,v,hd,hx,hy,rx,ry=>by
  rw[aI] at hx;subst hx;obtain⟨tx,rfl⟩:=rx;rw[aI] at hy;subst hy;obtain⟨ty,rfl⟩:=ry;rw[show b9 (.int gx) (.str gy)=false from by simp [b9]];exact SeqAt.RcAt.int_str gx tx gy ty
 | .int gx,.tup gy,x,y,u,v,hd,hx,hy,rx,ry=>by
  rw[aI] at hx;subst hx;obtain⟨tx,rfl⟩:=rx;rw[aI] at hy;obtain⟨ay,xsy,rfl,qy,ly⟩:=hy;cases ry;obtain⟨usy,vy,py,_⟩:=I.tuple qy;rw[show b9 (.int gx) (.tup gy)=false from by simp [b9]];exact SeqAt.RcAt.int_tuple gx tx py (by omega)
 | .int gx,.lst gy,x,y,u,v,hd,hx,hy,rx,ry=>by
  rw[aI] at hx;subst hx;obtain⟨tx,rfl⟩:=rx;rw[aI] at hy;obtain⟨ay,xsy,rfl,qy,ly⟩:=hy;cases ry;obtain⟨usy,vy,py,_⟩:=I.list qy;rw[show b9 (.int gx) (.lst gy)=false from by simp [b9]];exact SeqAt.RcAt.int_list gx tx py.isList (by omega)
 | .str gx,.non,x,y,u,v,hd,hx,hy,rx,ry=>by
  rw[aI] at hx;subst hx;obtain⟨tx,rfl⟩:=rx;rw[aI] at hy;subst hy;cases ry;rw[show b9 (.str gx) (.non)=false from by simp [b9]];exact SeqAt.RcAt.str_none gx tx
 | .str gx,.bl gy,x,y,u,v,hd,hx,hy,rx,ry=>by
  rw[aI] at hx;subst hx;obtain⟨tx,rfl⟩:=rx;rw[aI] at hy;subst hy;cases ry;rw[show b9 (.str gx) (.bl gy)=false from by simp [b9]];exact SeqAt.RcAt.str_bool gx tx gy
 | .str gx,.int gy,x,y,u,v,hd,hx,hy,rx,ry=>by
  rw[aI] at hx;subst hx;obtain⟨tx,rfl⟩:=rx;rw[aI] at hy;subst hy;obtain⟨ty,rfl⟩:=ry;rw[show b9 (.str gx) (.int gy)=false from by simp [b9]];exact SeqAt.RcAt.str_int gx tx gy ty
 | .str gx,.str gy,x,y,u,v,hd,hx,hy,rx,ry=>by
  rw[aI] at hx;subst hx;obtain⟨tx,rfl⟩:=rx;rw[aI] at hy;subst hy;obtain⟨ty,rfl⟩:=ry;rw[b9];exact SeqAt.RcAt.str_str gx tx gy ty
 | .str gx,.tup gy,x,y,u,v,hd,hx,hy,rx,ry=>by
  rw[aI] at hx;subst hx;obtain⟨tx,rfl⟩:=rx;rw[aI] at hy;obtain⟨ay,xsy,rfl,qy,ly⟩:=hy;cases ry;obtain⟨usy,vy,py,_⟩:=I.tuple qy;rw[show b9 (.str gx) (.tup gy)=false from by simp [b9]];exact SeqAt.RcAt.str_tuple gx tx py (by omega)
 | .str gx,.lst gy,x,y,u,v,hd,hx,hy,rx,ry=>by
  rw[aI] at hx;subst hx;obtain⟨tx,rfl⟩:=rx;rw[aI] at hy;obtain⟨ay,xsy,rfl,qy,ly⟩:=hy;cases ry;obtain⟨usy,vy,py,_⟩:=I.list qy;rw[show b9 (.str gx) (.lst gy)=false from by simp [b9]];exact SeqAt.RcAt.str_list gx tx py.isList (by omega)
 | .tup gx,.non,x,y,u,v,hd,hx,hy,rx,ry=>by
  rw[aI] at hx;obtain⟨ax,xsx,rfl,qx,lx⟩:=hx;cases rx;obtain⟨usx,vx,px,_⟩:=I.tuple qx;rw[aI] at hy;subst hy;cases ry;rw[show b9 (.tup gx) (.non)=false from by simp [b9]];exact SeqAt.RcAt.tuple_none px (by omega)
 | .tup gx,.bl gy,x,y,u,v,hd,hx,hy,rx,ry=>by
  rw[aI] at hx;obtain⟨ax,xsx,rfl,qx,lx⟩:=hx;cases rx;obtain⟨usx,vx,px,_⟩:=I.tuple qx;rw[aI] at hy;subst hy;cases ry;rw[show b9 (.tup gx) (.bl gy)=false from by simp [b9]];exact SeqAt.RcAt.tuple_bool gy px (by omega)
 | .tup gx,.int gy,x,y,u,v,hd,hx,hy,rx,ry=>by
  rw[aI] at hx;obtain⟨ax,xsx,rfl,qx,lx⟩:=hx;cases rx;obtain⟨usx,vx,px,_⟩:=I.tuple qx;rw[aI] at hy;subst hy;obtain⟨ty,rfl⟩:=ry;rw[show b9 (.tup gx) (.int gy)=false from by simp [b9]];exact SeqAt.RcAt.tuple_int gy ty px (by omega)
 | .tup gx,.str gy,x,y,u,v,hd,hx,hy,rx,ry=>by
  rw[aI] at hx;obtain⟨ax,xsx,rfl,qx,lx⟩:=hx;cases rx;obtain⟨usx,vx,px,_⟩:=I.tuple qx;rw[aI] at hy;subst hy;obtain⟨ty,rfl⟩:=ry;rw[show b9 (.tup gx) (.str gy)=false from by simp [b9]];exact SeqAt.RcAt.tuple_str gy ty px (by omega)
 | .tup gx,.tup gy,x,y,u,v,hd,hx,hy,rx,ry=>by
  rw[aI] at hx;obtain⟨ax,xsx,rfl,qx,lx⟩:=hx;cases rx;obtain⟨usx,vx,px,_⟩:=I.tuple qx;rw[aI] at hy;obtain⟨ay,xsy,rfl,qy,ly⟩:=hy;cases ry;obtain⟨usy,vy,py,_⟩:=I.tuple qy;have e1:=vx.length;have e2:=vy.length;have e3:=lx.length;have e4:=ly.length;rw[show b9 (.tup gx) (.tup gy)=dG gx gy from by rw[b9],<- kD gx gy];have ex:gx.length=usx.toArray.size:=by rw[<- e3,e1,aac]
  have ey:gy.length=usy.toArray.size:=by rw[<- e4,e2,aac]
  rw[ex,ey];exact SeqAt.RcAt.tuples px py (by omega) (λ j h1 h2=>jA (n:=0) (λ g h x y u v hm ix iy tx ty=>nP I 30 g h A.in1 x y u v (by have:=d5 hm;rw[iC] at hd;omega) (by show A.units+1+30 < cLine;omega) ix iy tx ty) lx ly vx vy j h1 h2)
 | .tup gx,.lst gy,x,y,u,v,hd,hx,hy,rx,ry=>by
  rw[aI] at hx;obtain⟨ax,xsx,rfl,qx,lx⟩:=hx;cases rx;obtain⟨usx,vx,px,_⟩:=I.tuple qx;rw[aI] at hy;obtain⟨ay,xsy,rfl,qy,ly⟩:=hy;cases ry;obtain⟨usy,vy,py,_⟩:=I.list qy;rw[show b9 (.tup gx) (.lst gy)=false from by simp [b9]];exact SeqAt.RcAt.tuple_list px py.isList (by omega)
 | .lst gx,.non,x,y,u,v,hd,hx,hy,rx,ry=>by
  rw[aI] at hx;obtain⟨ax,xsx,rfl,qx,lx⟩:=hx;cases rx;obtain⟨usx,vx,px,_⟩:=I.list qx;rw[aI] at hy;subst hy;cases ry;rw[show b9 (.lst gx) (.non)=false from by simp [b9]];exact SeqAt.RcAt.list_none px.isList (by omega)
 | .lst gx,.bl gy,x,y,u,v,hd,hx,hy,rx,ry=>by
  rw[aI] at hx;obtain⟨ax,xsx,rfl,qx,lx⟩:=hx;cases rx;obtain⟨usx,vx,px,_⟩:=I.list qx;rw[aI] at hy;subst hy;cases ry;rw[show b9 (.lst gx) (.bl gy)=false from by simp [b9]];exact SeqAt.RcAt.list_bool gy px.isList (by omega)
 | .lst gx,.int gy,x,y,u,v,hd,hx,hy,rx,ry=>by
  rw[aI] at hx;obtain⟨ax,xsx,rfl,qx,lx⟩:=hx;cases rx;obtain⟨usx,vx,px,_⟩:=I.list qx;rw[aI] at hy;subst hy;obtain⟨ty,rfl⟩:=ry;rw[show b9 (.lst gx) (.int gy)=false from by simp [b9]];exact SeqAt.RcAt.list_int gy ty px.isList (by omega)
 | .lst gx,.str gy,x,y,u,v,hd,hx,hy,rx,ry=>by
  rw[aI] at hx;obtain⟨ax,xsx,rfl,qx,lx⟩:=hx;cases rx;obtain⟨usx,vx,px,_⟩:=I.list qx;rw[aI] at hy;subst hy;obtain⟨ty,rfl⟩:=ry;rw[show b9 (.lst gx) (.str gy)=false from by simp [b9]];exact SeqAt.RcAt.list_str gy ty px.isList (by omega)
 | .lst gx,.tup gy,x,y,u,v,hd,hx,hy,rx,ry=>by
  rw[aI] at hx;obtain⟨ax,xsx,rfl,qx,lx⟩:=hx;cases rx;obtain⟨usx,vx,px,_⟩:=I.list qx;rw[aI] at hy;obtain⟨ay,xsy,rfl,qy,ly⟩:=hy;cases ry;obtain⟨usy,vy,py,_⟩:=I.tuple qy;rw[show b9 (.lst gx) (.tup gy)=false from by simp [b9]];exact SeqAt.RcAt.list_tuple px.isList py (by omega)
 | .lst gx,.lst gy,x,y,u,v,hd,hx,hy,rx,ry=>by
  rw[aI] at hx;obtain⟨ax,xsx,rfl,qx,lx⟩:=hx;cases rx;obtain⟨usx,vx,px,_⟩:=I.list qx;rw[aI] at hy;obtain⟨ay,xsy,rfl,qy,ly⟩:=hy;cases ry;obtain⟨usy,vy,py,_⟩:=I.list qy;have e1:=vx.length;have e2:=vy.length;have e3:=lx.length;have e4:=ly.length;rw[show b9 (.lst gx) (.lst gy)=dG gx gy from by rw[b9]];have ex:gx.length=usx.toArray.size:=by rw[<- e3,e1,aac]
  have ey:gy.length=usy.toArray.size:=by rw[<- e4,e2,aac]
  by_cases hl:gx.length=gy.length
  ·rw[<- mR gx gy hl,ex];exact SeqAt.RcAt.lists px.isList py.isList (by omega) (by omega) (λ j h1 h2=>jA (n:=0) (λ g h x y u v hm ix iy tx ty=>nP I 30 g h A.in1 x y u v (by have:=d5 hm;rw[iC] at hd;omega) (by show A.units+1+30 < cLine;omega) ix iy tx ty) lx ly vx vy j h1 h2)
  ·rw[kA gx gy hl];exact SeqAt.RcAt.lists_lengths px.isList py.isList (by rw[<- ex,<- ey];simpa using hl) (by omega)
def yE (K:aaa):R2:=λ x y H Q=>∃ g h,iC g<=30/\aI K H g x/\aI K H h y/\Q (.bl (b9 g h)) H
theorem wY (hu:X.A.units+64 < cLine):dS X (compareOp .Eq) (yE X.K):=by
 intro pins s σ H x y v u Q I rx ry h;obtain⟨g,h,hd,ix,iy,q⟩:=h;exact rcG I (by omega) g h x y v u hd ix iy rx ry X.prog X.w X.xe _ ⟨.bl _,H,I,rfl,q⟩
theorem pW {K:aaa} (hK:X.K=K) (hu:X.A.units+64 < cLine):dS X (compareOp .Eq) (yE K):=by subst hK;exact wY hu
def rM (h:G) (gs:List G):Bool:=gs.any λ g=>b9 g h
open Classical in
theorem mE (I:Inv X pins σ H s) {A:Around} (hu:A.units+40 < cLine) {h:G}{gs:List G}{x:V}{xs:List V}{u:Value}{us:List Value} (hd:fB gs<=30) (ix:aI X.K H h x) (l:aO X.K H gs xs) (rx:bD x u) (r:aY xs us) :
  ∃ e:Value->Bool,(∀ y∈us,SeqAt.EqAt A s y u (e y))/\us.any e=rM h gs:=by
 have e1:=r.length;have e2:=l.length;refine⟨λ y=>decide (∃ (i:Nat) (g:G),us[i]? = some y/\gs[i]? = some g/\b9 g h=true),?_,?_⟩
 ·intro y hy;obtain⟨i,hi,rfl⟩:=List.mem_iff_getElem.1 hy;have hig:i < gs.length:=by omega
  obtain⟨z,gz,iz⟩:=l.get (i:=i) (g:=gs[i]) (by simp [hig]);obtain⟨w,gw,tw⟩:=r.get gz;have ew:us[i]=w:=by
   have:us[i]? = some us[i]:=by simp
   rw[this] at gw;exact aav gw
  have key:decide (∃ (i':Nat) (g:G),us[i']? = some us[i]/\gs[i']? = some g/\b9 g h=true)=b9 gs[i] h:=by
   rw[Bool.eq_iff_iff,decide_eq_true_iff];constructor
   ·rintro⟨i',g,h1,h2,h3⟩;obtain⟨z',gz',iz'⟩:=l.get h2;obtain⟨w',gw',tw'⟩:=r.get gz';rw[h1,ew] at gw';cases gw';have:=pM I _ _ _ _ _ iz iz' tw tw';rw[this];exact h3
   ·intro h3;exact⟨i,gs[i],by simp,by simp [hig],h3⟩
  show SeqAt.EqAt A s us[i] u (decide _);rw[key,ew];exact nP I 30 _ _ A z x w u (by have:=d5 (abv hig);omega) (by omega) iz ix tw rx
 ·rw[Bool.eq_iff_iff,List.any_eq_true];unfold rM;rw[List.any_eq_true];constructor
  ·rintro⟨y,hy,hq⟩;obtain⟨i,g,h1,h2,h3⟩:=abz hq;exact⟨g,aaq h2,h3⟩
  ·rintro⟨g,hg,hq⟩;obtain⟨i,hi,rfl⟩:=List.mem_iff_getElem.1 hg;have hiu:i < us.length:=by omega
   exact⟨us[i],abv hiu,aax ⟨i,gs[i],by simp,by simp,hq⟩⟩
def uE (K:aaa) (neg:Bool):R2:=λ x y H Q=>∃ h p gs xs,y=.ref p/\(cG K H p xs\/bU K H p xs)/\fB gs<=30/\aI K H h x/\aO K H gs xs/\Q (.bl (if neg then !rM h gs else rM h gs)) H
theorem wX (hu:X.A.units+64 < cLine):dS X (compareOp .In) (uE X.K false):=by
 intro pins s σ H x y v u Q I rx ry hh;obtain⟨h,p,gs,xs,rfl,hq,hd,ix,l,q⟩:=hh;cases ry;have hin:X.A.in1.units=X.A.units+1:=rfl;rcases hq with hq | hq
 ·obtain⟨its,r,pl,hz⟩:=I.list hq;obtain⟨e,he,ea⟩:=mE I (A:=X.A.in1) (by omega) hd ix l rx r;refine SeqAt.in_listAt e pl.isList (λ w hw=>he w (by simpa using hw)) ⟨.bl _,H,I,rfl,?_⟩;rw[show its.toArray.any e=its.any e by simp,ea];exact q
 ·obtain⟨its,r,pl,hz⟩:=I.tuple hq;obtain⟨e,he,ea⟩:=mE I (A:=X.A.in1) (by omega) hd ix l rx r;refine SeqAt.in_tupleAt e pl (λ w hw=>he w (by simpa using hw)) ⟨.bl _,H,I,rfl,?_⟩;rw[show its.toArray.any e=its.any e by simp,ea];exact q
theorem uQ (hu:X.A.units+64 < cLine):dS X (compareOp .NotIn) (uE X.K true):=by
 intro pins s σ H x y v u Q I rx ry hh;obtain⟨h,p,gs,xs,rfl,hq,hd,ix,l,q⟩:=hh;cases ry;have hin:X.A.in1.units=X.A.units+1:=rfl;rcases hq with hq | hq
 ·obtain⟨its,r,pl,hz⟩:=I.list hq;obtain⟨e,he,ea⟩:=mE I (A:=X.A.in1) (by omega) hd ix l rx r;refine SeqAt.notIn_listAt e pl.isList (λ w hw=>he w (by simpa using hw)) ⟨.bl _,H,I,rfl,?_⟩;rw[show its.toArray.any e=its.any e by simp,ea];exact q
 ·obtain⟨its,r,pl,hz⟩:=I.tuple hq;obtain⟨e,he,ea⟩:=mE I (A:=X.A.in1) (by omega) hd ix l rx r;refine SeqAt.notIn_tupleAt e pl (λ w hw=>he w (by simpa using hw)) ⟨.bl _,H,I,rfl,?_⟩;rw[show its.toArray.any e=its.any e by simp,ea];exact q
theorem uR {K:aaa} (hK:X.K=K) (hu:X.A.units+64 < cLine):dS X (compareOp .In) (uE K false):=by subst hK;exact wX hu
theorem sP {K:aaa} (hK:X.K=K) (hu:X.A.units+64 < cLine):dS X (compareOp .NotIn) (uE K true):=by subst hK;exact uQ hu
end
section
variable {H:Hp}
mutual
def dB:D->G
 | .non=>.non
 | .bl b=>.bl b
 | .int i=>.int i
 | .str z=>.str z
 | .tup ds=>.tup (cK ds)
def cK:List D->List G
 | []=>[]
 | d::ds=>dB d::cK ds
end
mutual
theorem Is.g:∀ {d:D}{x:V},Is K H d x->aI K H (dB d) x
 | .non,x,h=>by rw[Is] at h;rw[dB,aI];exact h
 | .bl b,x,h=>by rw[Is] at h;rw[dB,aI];exact h
 | .int i,x,h=>by rw[Is] at h;rw[dB,aI];exact h
 | .str z,x,h=>by rw[Is] at h;rw[dB,aI];exact h
 | .tup ds,x,h=>by
  rw[Is] at h;rw[dB,aI];obtain⟨a,xs,e,q,l⟩:=h;exact⟨a,xs,e,q,IsL.g l⟩
theorem IsL.g:∀ {ds:List D}{xs:List V},IsL K H ds xs->aO K H (cK ds) xs
 | [],xs,h=>by rw[IsL] at h;rw[cK,aO];exact h
 | d::ds,xs,h=>by
  rw[IsL] at h;rw[cK,aO];obtain⟨x,r,e,h1,h2⟩:=h;exact⟨x,r,e,Is.g h1,IsL.g h2⟩
end
theorem jE:∀ ds:List D,cK ds=ds.map dB
 | []=>by rw[cK];rfl
 | d::ds=>by rw[cK,jE ds];rfl
theorem aO.nil:aO K H [] []:=by rw[aO]
theorem aO.cons {g:G}{gs:List G}{x:V}{xs:List V} (h1:aI K H g x) (h2:aO K H gs xs):aO K H (g::gs) (x::xs):=by rw[aO];exact⟨x,xs,rfl,h1,h2⟩
theorem aI.i (i:Int):aI K H (.int i) (.int i):=by rw[aI]
theorem aI.s (i:Str):aI K H (.str i) (.str i):=by rw[aI]
theorem aI.b (i:Bool):aI K H (.bl i) (.bl i):=by rw[aI]
theorem aI.n:aI K H .non .non:=by rw[aI]
theorem aI.t {a:Addr}{gs:List G}{xs:List V} (q:bU K H a xs) (l:aO K H gs xs):aI K H (.tup gs) (.ref a):=by rw[aI];exact⟨a,xs,rfl,q,l⟩
theorem aI.l {a:Addr}{gs:List G}{xs:List V} (q:cG K H a xs) (l:aO K H gs xs):aI K H (.lst gs) (.ref a):=by rw[aI];exact⟨a,xs,rfl,q,l⟩
theorem aO.ints:∀ ns:List Int,aO K H (ns.map G.int) (ns.map V.int)
 | []=>.nil
 | n::ns=>.cons (.i n) (aO.ints ns)
theorem kB:∀ ns:List Int,fB (ns.map G.int)=0
 | []=>by rw[acb,fB]
 | n::ns=>by rw[abh,fB,kB ns];simp [iC]
end
end L2
namespace L2
open PySem PySem.Spec PyProof.Rows TwZ Tw
def cE (t:Addr) (H:Hp):Hp:=λ b=>if b=t then none else H b
section
variable {H H':Hp}{t:Addr}
theorem cW:aH (cE t H) H:=λ b o e=>by
 unfold cE at e;split at e
 ·cases e
 ·exact e
theorem d8 (b:cO t H H'):aH (cE t H) (cE t H'):=λ c o e=>by
 unfold cE at e ⊢
 split at e
 ·cases e
 ·rename_i n;rw[if_neg n];exact b c o n e
theorem bJ (s:aH H H'):aH (cE t H) (cE t H'):=d8 λ c o _ e=>s c o e
theorem j6 {a:Addr}{o:HO} (h:H a=some o) (n:a≠t):cE t H a=some o:=by unfold cE;rw[if_neg n];exact h
theorem aH.lst {a:Addr}{xs:List V} (s:aH H H') (h:cG K H a xs):cG K H' a xs:=by
 rcases h with (h | ⟨o,h⟩) | h
 ·exact .inl (.inl (s _ _ h))
 ·exact .inl (.inr ⟨o,s _ _ h⟩)
 ·exact .inr h
mutual
theorem aI.same (s:aH H H'):∀ {g:G}{v:V},aI K H g v->aI K H' g v
 | .non,v,h=>by rw[aI] at h ⊢;exact h
 | .bl b,v,h=>by rw[aI] at h ⊢;exact h
 | .int i,v,h=>by rw[aI] at h ⊢;exact h
 | .str z,v,h=>by rw[aI] at h ⊢;exact h
 | .tup gs,v,h=>by
  rw[aI] at h ⊢;obtain⟨a,xs,e,q,l⟩:=h;exact⟨a,xs,e,s.tup q,aO.same s l⟩
 | .lst gs,v,h=>by
  rw[aI] at h ⊢;obtain⟨a,xs,e,q,l⟩:=h;exact⟨a,xs,e,s.lst q,aO.same s l⟩
theorem aO.same (s:aH H H'):∀ {gs:List G}{vs:List V},aO K H gs vs->aO K H' gs vs
 | [],vs,h=>by rw[aO] at h ⊢;exact h
 | g::gs,vs,h=>by
  rw[aO] at h ⊢;obtain⟨x,r,e,h1,h2⟩:=h;exact⟨x,r,e,aI.same s h1,aO.same s h2⟩
end
mutual
theorem aI.d:∀ {d:D}{x:V},aI K H (dB d) x->Is K H d x
 | .non,x,h=>by rw[dB,aI] at h;rw[Is];exact h
 | .bl b,x,h=>by rw[dB,aI] at h;rw[Is];exact h
 | .int i,x,h=>by rw[dB,aI] at h;rw[Is];exact h
 | .str z,x,h=>by rw[dB,aI] at h;rw[Is];exact h
 | .tup ds,x,h=>by
  rw[dB,aI] at h;rw[Is];obtain⟨a,xs,e,q,l⟩:=h;exact⟨a,xs,e,q,aO.d l⟩
theorem aO.d:∀ {ds:List D}{xs:List V},aO K H (cK ds) xs->IsL K H ds xs
 | [],xs,h=>by rw[cK,aO] at h;rw[IsL];exact h
 | d::ds,xs,h=>by
  rw[cK,aO] at h;rw[IsL];obtain⟨x,r,e,h1,h2⟩:=h;exact⟨x,r,e,aI.d h1,aO.d h2⟩
end
theorem aI.ut {gs:List G}{v:V} (h:aI K H (.tup gs) v):∃ a xs,v=.ref a/\bU K H a xs/\aO K H gs xs:=by rw[aI] at h;exact h
theorem aI.ul {gs:List G}{v:V} (h:aI K H (.lst gs) v):∃ a xs,v=.ref a/\cG K H a xs/\aO K H gs xs:=by rw[aI] at h;exact h
theorem aI.ui {i:Int}{v:V} (h:aI K H (.int i) v):v=.int i:=by rw[aI] at h;exact h
theorem aI.ub {i:Bool}{v:V} (h:aI K H (.bl i) v):v=.bl i:=by rw[aI] at h;exact h
theorem aI.us {i:Str}{v:V} (h:aI K H (.str i) v):v=.str i:=by rw[aI] at h;exact h
theorem aI.un {v:V} (h:aI K H .non v):v=.non:=by rw[aI] at h;exact h
theorem aO.un {g:G}{gs:List G}{xs:List V} (h:aO K H (g::gs) xs):∃ x r,xs=x::r/\aI K H g x/\aO K H gs r:=by rw[aO] at h;exact h
theorem aO.un0 {xs:List V} (h:aO K H [] xs):xs=[]:=by rw[aO] at h;exact h
theorem aO.app:∀ {gs hs:List G}{xs ys:List V},aO K H gs xs->aO K H hs ys->aO K H (gs++hs) (xs++ys)
 | [],hs,xs,ys,h,h'=>by have:=h.un0;subst this;exact h'
 | g::gs,hs,xs,ys,h,h'=>by
  obtain⟨x,r,rfl,h1,h2⟩:=h.un;exact .cons h1 (aO.app h2 h')
theorem aO.take:∀ (n:Nat) {gs:List G}{xs:List V},aO K H gs xs->aO K H (gs.take n) (xs.take n)
 | 0,gs,xs,h=>by rw[List.take_zero,List.take_zero];exact .nil
 | n+1,[],xs,h=>by have:=h.un0;subst this;rw[List.take_nil,List.take_nil];exact .nil
 | n+1,g::gs,xs,h=>by
  obtain⟨x,r,rfl,h1,h2⟩:=h.un;exact .cons h1 (aO.take n h2)
theorem aO.drop:∀ (n:Nat) {gs:List G}{xs:List V},aO K H gs xs->aO K H (gs.drop n) (xs.drop n)
 | 0,gs,xs,h=>h
 | n+1,[],xs,h=>by have:=h.un0;subst this;rw[List.drop_nil,List.drop_nil];exact .nil
 | n+1,g::gs,xs,h=>by
  obtain⟨x,r,rfl,h1,h2⟩:=h.un;exact aO.drop n h2
end
def fU:G->String
 | .non => "NoneType"
 | .bl _ => "bool"
 | .int _ => "int"
 | .str _ => "str"
 | .tup _ => "tuple"
 | .lst _ => "list"
def dF (g:G) (T:String):Bool:=fU g == T || (fU g == "bool" && T == "int")
def jX:List String:=["tuple","int","bool","str","list"]
theorem t9 (K:aaa) {A T:String}{b:Bool} (h:A=T/\b=true\/¬ ((Value.type A == Value.type T)=true)/\PySem.W.kitMeta T=true/\PySem.W.subIn K (.type A) (.type T)=some b):PySem.W.kitOne K (.type A) (.type T)=some b:=by
 unfold PySem.W.kitOne;rcases h with ⟨rfl,rfl⟩ | ⟨h1,h2,h3⟩
 ·rw[if_pos (by simp)]
 ·rw[if_neg h1];show (if PySem.W.kitMeta T=true then PySem.W.subIn K (.type A) (.type T) else none)=some b;rw[if_pos h2,h3]
theorem uW (K:aaa):∀ A∈["NoneType","bool","int","str","tuple","list"],∀ T∈jX,PySem.W.kitOne K (.type A) (.type T)=some (A == T || (A == "bool" && T == "int")):=by
 intro A hA T hT;simp only [jX,aas,abc,abj,or_false] at hA hT;rcases hA with rfl | rfl | rfl | rfl | rfl | rfl <;> rcases hT with rfl | rfl | rfl | rfl | rfl <;>
  first
   | exact t9 K (.inl ⟨rfl,by decide +kernel⟩)
   | exact t9 K (.inr ⟨by decide +kernel,by decide +kernel,rfl⟩)
theorem yP (K:aaa) (g:G) {T:String} (h:T∈jX):PySem.W.kitOne K (.type (fU g)) (.type T)=some (dF g T):=uW K _ (by cases g <;> simp [fU]) T h
def vU (K:aaa):List V->Hp->VK->Prop:=λ xs H Q=>∃ x T g,xs=[x,.ty T]/\T∈jX/\aI K H g x/\Q (.bl (dF g T)) H
section
variable {X:Cx}
theorem rD:dA X (.builtin "isinstance") (vU X.K):=by
 intro pins s σ H xs us Q I r h;obtain⟨x,T,g,rfl,hT,hg,q⟩:=h;obtain⟨u,v,rfl,ru,rv⟩:=r.two;cases rv;have e:=yP X.K g hT;cases g with
 | non=>rw[aI] at hg;subst hg;exact fH I ru .non e λ tk=>⟨.bl _,H,I.tok tk,rfl,q⟩
 | bl b=>rw[aI] at hg;subst hg;exact fH I ru (.bl b) e λ tk=>⟨.bl _,H,I.tok tk,rfl,q⟩
 | int b=>rw[aI] at hg;subst hg;exact fH I ru (.int b) e λ tk=>⟨.bl _,H,I.tok tk,rfl,q⟩
 | str b=>rw[aI] at hg;subst hg;exact fH I ru (.str b) e λ tk=>⟨.bl _,H,I.tok tk,rfl,q⟩
 | tup gs=>
  obtain⟨a,ys,rfl,hq,_⟩:=hg.ut;cases (show u=Value.ref a from ru);obtain⟨its,rv',⟨o,h1,h2,_⟩,_⟩:=I.tuple hq;exact PySem.W.kia_one PySem.W.kitx_tuple I.kIn ⟨o,h1,h2⟩ e (λ z=>nomatch z) λ tk=>⟨.bl _,H,I.tok tk,rfl,q⟩
 | lst gs=>
  obtain⟨a,ys,rfl,hq,_⟩:=hg.ul;cases (show u=Value.ref a from ru);obtain⟨its,rv',⟨o,n,h1,h2,_⟩,_⟩:=I.list hq;exact PySem.W.kia_one PySem.W.kitx_list I.kIn ⟨o,h1,h2⟩ e (λ z=>nomatch z) λ tk=>⟨.bl _,H,I.tok tk,rfl,q⟩
theorem aR {K:aaa} (hK:X.K=K):dA X (.builtin "isinstance") (vU K):=by subst hK;exact rD
end
end L2
namespace Tw
open PySem L2
def bP (i:Nat):Stmt:=PySem.Challenge.pw_tipwell_k01_what_is_a_net.main.body.getD i (.Pass ⟨0,0,0,0⟩)
structure Txt (mg:Str->Option Value):Prop where
 b_len:mg "len" = none
 b_sum:mg "sum" = none
 b_all:mg "all" = none
 b_max:mg "max" = none
 b_min:mg "min" = none
 b_int:mg "int" = none
 b_tuple:mg "tuple" = none
 b_list:mg "list" = none
 b_bool:mg "bool" = none
 b_range:mg "range" = none
 b_zip:mg "zip" = none
 b_enumerate:mg "enumerate" = none
 b_isinstance:mg "isinstance" = none
 b_divmod:mg "divmod" = none
 b_set:mg "set" = none
 b_sorted:mg "sorted" = none
theorem lJ {af:Type}{xs:List af}{i:Nat}{x:af} (h:xs[i]? = some x):xs.take (i+1)=xs.take i++[x]:=by
 rw[List.take_succ,h];rfl
theorem wG {H:Hp}{sps:List yX}{xs:List V}{i:Nat}{x:V} (l:IsL K H (sps.map u5) xs) (h:xs[i]? = some x) :
  ∃ s,sps[i]? = some s/\∃ a,x=.ref a/\bU K H a [.int s.1,.int s.2.1,.bl s.2.2]:=by
 obtain⟨d,hd,hx⟩:=l.get' h;rw[abe] at hd;cases e:sps[i]? with
 | none=>rw[e] at hd;cases hd
 | some o=>
  rw[e] at hd;cases hd;refine⟨o,rfl,?_⟩;obtain⟨a,ys,rfl,q,l⟩:=(show Is K H (.tup [.int o.1,.int o.2.1,.bl o.2.2]) x from hx).un;obtain⟨y,r,rfl,hy,l⟩:=l.un;obtain⟨z,r,rfl,hz,l⟩:=l.un;obtain⟨z2,r,rfl,hz2,l⟩:=l.un;have:=l.un0;subst this;rw[hy.ui,hz.ui,hz2.ub] at q;exact⟨a,rfl,q⟩
theorem y6 {H:Hp}{held coming:List Int}{doors:List Bool}{a b c d:Addr} (q:bU K H a [.ref b,.ref c,.ref d]) (q1:bU K H b (held.map V.int)) (q2:bU K H c (coming.map V.int)) (q3:bU K H d (doors.map V.bl)):Is K H (stD held coming doors) (.ref a):=
 Is.tupOf q (.cons (Is.tupOf q1 (IsL.of_ints _)) (.cons (Is.tupOf q2 (IsL.of_ints _)) (.cons (Is.tupOf q3 (IsL.of_bools _)) .nil)))
theorem oV {H:Hp}{net:Net}{x:V} (h:Is K H (hX net) x):∃ (a b c:Addr) (xs ys:List V),x=.ref a/\bU K H a [.ref b,.ref c]/\bU K H b xs/\IsL K H (net.vs.map rK) xs/\bU K H c ys/\IsL K H (net.sps.map u5) ys:=by
 obtain⟨a,zs,rfl,q,l⟩:=(show Is K H (.tup [.tup (net.vs.map rK),.tup (net.sps.map u5)]) x from h).un;obtain⟨x1,r,rfl,h1,l⟩:=l.un;obtain⟨x2,r,rfl,h2,l⟩:=l.un;have:=l.un0;subst this;obtain⟨b,xs,rfl,q1,l1⟩:=h1.un;obtain⟨c,ys,rfl,q2,l2⟩:=h2.un;exact⟨a,b,c,xs,ys,rfl,q,q1,l1,q2,l2⟩
def cB (H:Hp) (t sl:Addr):Prop:=∃ (ns:List Int) (pos cell:Int),H t=some (.lst [.ref sl,.int pos,.int cell])/\H sl=some (.lst (ns.map V.int))/\ns.length<=1000
theorem cB.mut {H:Hp}{t sl:Addr} (h:cB H t sl):pJ (H t):=by obtain⟨ns,pos,cell,e,_⟩:=h;rw[e];exact trivial
theorem cB.same {H H':Hp}{t sl:Addr} (h:cB H t sl) (s:aH H H'):cB H' t sl:=by
 obtain⟨ns,pos,cell,e,f,g⟩:=h;exact⟨ns,pos,cell,s _ _ e,s _ _ f,g⟩
def d0:Sp:=λ vs H Q _=>∃ (t sl:Addr) (many:Int),vs=[.ref t,.int many]/\cB H t sl/\0 < many/\many < 1000000/\
 ∀ (r:Int) H',cO t H H'->cB H' t sl->0<=r->r < many->Q (.int r) H'
def lM:Sp:=λ vs H Q _=>∃ (t sl:Addr) (many:Int),vs=[.ref t,.int many]/\cB H t sl/\0 < many/\many < 2 ^ 200/\
 ∀ (r:Int) H',cO t H H'->cB H' t sl->0<=r->r < many->Q (.int r) H'
abbrev lQ (K:aaa):TS:=fY (eP (dX (rI (λ _ j=>0 < j) λ i j=>.int (i % j)) (dX (oI K) (bZ 0) (tC (.int 2))) (bZ 1)) (cC 4)) (fY (eP (dX (rI w8 λ i j=>.int (i / j)) (dX (oI K) (bZ 0) (tC (.int 2))) (bZ 1)) (vC (bZ 0) (tC (.int 2)) pR)) (wD (bZ 4)))
abbrev rZ (K:aaa):TS:=fY (eP (dX (lR λ i j=>.int (i+j)) (dX (oI K) (bZ 0) (tC (.int 1))) (tC (.int 1))) (vC (bZ 0) (tC (.int 1)) pR)) (eP (bZ 3) (vC (bZ 0) (tC (.int 2)) pR))
abbrev sA (K:aaa):TS:=fY (eP (dX (rI (λ _ j=>0 < j) λ i j=>.int (i % j)) (dX (lR λ i j=>.int (i+j)) (bZ 3) (dX (rI nX λ i j=>.int (i * j)) (tC (.int 1000003)) (dX (oI K) (bZ 0) (tC (.int 1))))) (bZ 2)) (cC 3)) (fY (eP (dX (rI (λ _ j=>0 < j) λ i j=>.int (i % j)) (dX (lR λ i j=>.int (i+j)) (dX (lR λ i j=>.int (i+j)) (dX (rI nX λ i j=>.int (i * j)) (bZ 3) (bZ 3)) (dX (rI nX λ i j=>.int (i * j)) (tC (.int 1181783497276652981)) (bZ 3))) (tC (.int 2049848353892358983))) (bZ 2)) (cC 3)) (eP (dX (rI (λ _ j=>0 < j) λ i j=>.int (i % j)) (dX (lR λ i j=>.int (i+j)) (dX (rI nX λ i j=>.int (i * j)) (bZ 3) (bZ 3)) (tC (.int 1442695040888963407))) (bZ 2)) (cC 3)))
abbrev wL (K:aaa):TT:=tOr (mV (dX (lR λ i j=>.bl (decide (j<=i))) (dX (oI K) (bZ 0) (tC (.int 1))) (vQ (wO K) (bN (dX (oI K) (bZ 0) (tC (.int 0))) eG)))) (mV (dX (lR λ i j=>.bl (decide (i < j))) (bZ 3) (dX (rI xY λ i j=>.int (i ^ j.toNat)) (tC (.int 10)) (tC (.int 18)))))
abbrev dE (Q:VK):Ends:={ nx:=λ _ H'=>Q .non H',rt:=Q }
theorem gJ:FnScope ["tape","many","prime","cell","found"] ["tape","many"] (aK (bP 46)):={}
theorem fT {f:Addr}{fd:FuncData} (F:Fun K "_law_draw" "_law_draw" (bP 46) f fd) (T:Txt mg):FnOk P w K mg base fK 1 f fd ["tape","many"] lM:=by
 refine F.ok gJ (λ vs H Q E h=>?_) (λ cdv A outer s H vs Q E hr h=>?_)
 ·obtain⟨t,sl,many,rfl,_⟩:=h;rfl
 ·obtain⟨t,sl,many,rfl,⟨ns,pos,cell,ht,hsl,hns⟩,hm0,hm1,k⟩:=h;have sc:=gJ;refine⟨_,(aE (pL 2 sc.nd aD)
   (aE (bI (aW sQ (px K (pv 0) aD) (pv 1) (aZ _)) (aE (pL 3 sc.nd aD)
   (aE (bI (aW gP (iY K T.b_len (px K (pv 0) aD)) aD (aZ _)) (aG (pL 3 sc.nd (px K (px K (pv 0) aD) (aS hV (px K (pv 0) aD) (iY K T.b_len (px K (pv 0) aD)))))) aP)
   (aE (bI (PW.pt (cM (aW yJ (px K (pv 0) aD) (iY K T.b_len (px K (pv 0) aD)) (aZ _)) (cI (aW sQ (pv 3) (aS oO aD aD) (aZ _))))) (aE (pL 3 sc.nd (aS hV (aS cF (pv 3) (aS jN aD (px K (pv 0) aD))) (pv 2)))
   (aE (pL 3 sc.nd (aS hV (aS cF (aS cF (aS jN (pv 3) (pv 3)) (aS jN aD (pv 3))) aD) (pv 2)))
   (aG (pL 3 sc.nd (aS hV (aS cF (aS jN (pv 3) (pv 3)) aD) (pv 2)))))) aP)
   (aE (dQ (aS cF (px K (pv 0) aD) aD) (oM (pv 0) aD jK))
   (aG (dQ (pv 3) (oM (pv 0) aD jK))))))) aP)
   (aE (pL 4 sc.nd (aS hV (px K (pv 0) aD) (pv 1)))
   (aE (dQ (aS sR (px K (pv 0) aD) (pv 1)) (oM (pv 0) aD jK))
   (aG (aM (pv 4))))))),?_⟩
  have nst:sl≠t:=yM hsl ht (by intro z;injection z with z;cases ns <;> simp at z);have ix:∀ {H1:Hp}{p' c':Int}{Q:VK},H1 t=some (.lst [.ref sl,.int p',.int c'])->Q (.ref sl) H1->oI K (.ref t) (.int 0) H1 Q:=λ e q=>.inl ⟨t,_,0,_,rfl,rfl,cG.of e,rfl,q⟩;have ix1:∀ {H1:Hp}{p' c':Int}{Q:VK},H1 t=some (.lst [.ref sl,.int p',.int c'])->Q (.int p') H1->oI K (.ref t) (.int 1) H1 Q:=λ e q=>.inl ⟨t,_,1,_,rfl,rfl,cG.of e,rfl,q⟩;have ix2:∀ {H1:Hp}{p' c':Int}{Q:VK},H1 t=some (.lst [.ref sl,.int p',.int c'])->Q (.int c') H1->oI K (.ref t) (.int 2) H1 Q:=λ e q=>.inl ⟨t,_,2,_,rfl,rfl,cG.of e,rfl,q⟩;have tail:∀ (v3:Option V) (H1:Hp) (p' c':Int),cO t H H1->H1 t=some (.lst [.ref sl,.int p',.int c'])->lQ K (dE Q) [some (.ref t),some (.int many),some (.int 2305843009213693951),v3,none] H1:=by
   intro v3 H1 p' c' bt e;refine⟨_,rfl,ix2 e ⟨_,rfl,_,_,rfl,rfl,hm0,?_⟩⟩;refine⟨_,rfl,ix2 e ⟨_,rfl,_,_,rfl,rfl,⟨hm0,hm1⟩,_,rfl,t,_,2,2,rfl,rfl,e,rfl,_,rfl,?_⟩⟩;refine k _ _ (bt.trans cO.upd) ⟨ns,p',c' / many,aF,?_,hns⟩ (Int.emod_nonneg _ (by omega)) (Int.emod_lt_of_pos _ hm0);rw[aJ nst];exact bt sl _ nst hsl
  refine⟨_,rfl,ix2 ht ⟨_,rfl,_,_,rfl,rfl,_,rfl,?_⟩⟩;refine cV (λ _=>?_) (λ _=>tail none H pos cell (cO.refl H) ht);have mid:∀ (c':Int),rZ K { nx:=lQ K (dE Q),rt:=Q } [some (.ref t),some (.int many),some (.int 2305843009213693951),some (.int c'),none] H:=by
   intro c';refine⟨_,rfl,ix1 ht ⟨_,_,rfl,rfl,_,rfl,t,_,1,1,rfl,rfl,ht,rfl,?_⟩⟩;refine⟨_,rfl,_,rfl,t,_,2,2,rfl,rfl,aF,rfl,?_⟩;exact tail (some (.int c')) _ (pos+1) c' (cO.upd.trans cO.upd) aF
  have big:∀ (c':Int),fY (rR (wL K) (sA K) pO) (rZ K) { nx:=lQ K (dE Q),rt:=Q } [some (.ref t),some (.int many),some (.int 2305843009213693951),some (.int c'),none] H:=by
   intro c';have body:∀ σ,σ=[some (.ref t),some (.int many),some (.int 2305843009213693951),some (.int c'),none]->sA K { nx:=rZ K { nx:=lQ K (dE Q),rt:=Q },rt:=Q } σ H:=by
    rintro σ rfl;have prime:(0:Int) < 2305843009213693951:=by decide
    refine⟨_,rfl,_,rfl,ix1 ht ⟨_,_,rfl,rfl,.inl ⟨by decide,by decide⟩,_,_,rfl,rfl,_,rfl,_,_,rfl,rfl,prime,?_⟩⟩;have b1:=Int.emod_nonneg (c'+1000003 * pos) (show (2305843009213693951:Int)≠0 by decide);have b2:=Int.emod_lt_of_pos (c'+1000003 * pos) prime;generalize (c'+1000003 * pos) % 2305843009213693951=c1 at b1 b2;refine⟨_,rfl,_,rfl,_,_,rfl,rfl,.inl ⟨by omega,by omega⟩,_,rfl,_,_,rfl,rfl,.inl ⟨by decide,by decide⟩,_,_,rfl,rfl,_,_,rfl,rfl,_,rfl,_,_,rfl,rfl,prime,?_⟩;have b3:=Int.emod_nonneg (c1 * c1+1181783497276652981 * c1+2049848353892358983) (show (2305843009213693951:Int)≠0 by decide);have b4:=Int.emod_lt_of_pos (c1 * c1+1181783497276652981 * c1+2049848353892358983) prime;generalize (c1 * c1+1181783497276652981 * c1+2049848353892358983) % 2305843009213693951=c2 at b3 b4;refine⟨_,rfl,_,rfl,_,_,rfl,rfl,.inl ⟨by omega,by omega⟩,_,_,rfl,rfl,_,rfl,_,_,rfl,rfl,prime,?_⟩;exact mid _
   refine⟨_,rfl,ix1 ht ⟨_,rfl,ix ht ⟨sl,_,rfl,.inl (cG.of hsl),_,_,rfl,rfl,_,rfl,?_⟩⟩⟩;refine cV (λ _=>?_) (λ _=>?_)
   ·refine aU ?_;exact body _ rfl
   ·refine⟨_,rfl,_,_,rfl,rfl,⟨by decide,by decide,by decide⟩,_,_,rfl,rfl,_,rfl,?_⟩;refine cV (λ _=>body _ rfl) (λ _=>mid _)
  refine⟨_,rfl,ix ht ⟨sl,_,rfl,.inl (cG.of hsl),_,_,rfl,rfl,_,rfl,?_⟩⟩;refine cV (λ hlen=>?_) (λ _=>big 0);have hpos:0 < ns.length:=by have:=abz hlen;simpa using this
  refine⟨_,rfl,ix ht ⟨_,rfl,ix1 ht ⟨_,rfl,ix ht ⟨sl,_,rfl,.inl (cG.of hsl),_,_,rfl,rfl,(show (0:Int) < (((ns.map V.int).length:Nat):Int) by rw[aai];omega),?_⟩⟩⟩⟩;have m1:=Int.emod_nonneg pos (show (((ns.map V.int).length:Nat):Int)≠0 by rw[aai];omega);have m2:=Int.emod_lt_of_pos pos (show (0:Int) < (((ns.map V.int).length:Nat):Int) by rw[aai];omega);rw[aai] at m1 m2;have hix:(ns.map V.int)[(pos % ((ns.map V.int).length:Int)).toNat]? = some (.int (ns[(pos % (ns.length:Int)).toNat]'(by omega))):=by
   rw[aai,abe];simp [show (pos % (ns.length:Int)).toNat < ns.length by omega]
  refine .inl ⟨sl,_,_,_,rfl,rfl,cG.of hsl,vG (by rw[aai];exact m1) hix,?_⟩;exact big _
theorem m7 {f:Addr}{fd:FuncData} (F:Fun K "_law_draw" "_law_draw" (bP 46) f fd) (T:Txt mg):FnOk P w K mg base fK 1 f fd ["tape","many"] d0:=
 (fT F T).imp λ vs H Q E ⟨t,sl,many,e,tp,h0,h1,k⟩=>⟨t,sl,many,e,tp,h0,Int.lt_of_lt_of_le h1 (by decide),k⟩
structure Ext (t sl:Addr) (H H':Hp):Prop where
 bt:cO t H H'
 tp:cB H' t sl
theorem cB.some {H:Hp}{t sl:Addr} (h:cB H t sl):∃ o,H t=some o:=by obtain⟨ns,pos,cell,e,_⟩:=h;exact⟨_,e⟩
theorem cB.put {H:Hp}{t sl p:Addr}{o:HO} (h:cB H t sl) (h1:p≠t) (h2:p≠sl):cB (upd H p o) t sl:=by
 obtain⟨ns,pos,cell,e,f,g⟩:=h;exact⟨ns,pos,cell,by rw[aJ (Ne.symm h1)];exact e,by rw[aJ (Ne.symm h2)];exact f,g⟩
theorem cB.ne_sl {H:Hp}{t sl p:Addr} (h:cB H t sl) (hp:H p=none):p≠sl:=by
 obtain⟨ns,pos,cell,e,f,g⟩:=h;exact λ z=>by rw[z,f] at hp;cases hp
theorem Ext.new {t sl p:Addr}{H H':Hp}{o:HO} (e:Ext t sl H H') (hp:H' p=none):Ext t sl H (upd H' p o):=⟨e.bt.trans (aH.new hp).but,e.tp.same (aH.new hp)⟩
theorem Ext.ne {t sl p:Addr}{H H':Hp} (e:Ext t sl H H') (hp:H' p=none):p≠t:=by
 obtain⟨o,h⟩:=e.tp.some;intro z;rw[z,h] at hp;cases hp
theorem Ext.ts {K:aaa}{t sl:Addr}{H H':Hp} (e:Ext t sl H H') (tp:cB H t sl):bW K H H':=e.bt.ts tp.mut
def Gn (t sl:Addr) (σ:St) (H0:Hp) (P:V->Prop) (te:TE):Prop:=∀ H Q,Ext t sl H0 H->(∀ v H',Ext t sl H0 H'->cO t H H'->P v->Q v H')->te σ H Q
section
variable {t sl:Addr}{σ:St}{H0:Hp}{P:V->Prop}{a b c d:TE}
def cA (lo hi:Int):V->Prop:=λ v=>∃ i,v=.int i/\lo<=i/\i < hi
theorem Gn.imp {P':V->Prop} (h:Gn t sl σ H0 P a) (f:∀ v,P v->P' v):Gn t sl σ H0 P' a:=λ H Q e k=>h H Q e λ v H' e' b p=>k v H' e' b (f v p)
theorem jY {v:V} (h:P v):Gn t sl σ H0 P (tC v):=λ H Q e k=>k v H e (cO.refl H) h
theorem yS {i:Nat}{v:V} (ao:σ[i]? = some (some v)) (h:P v):Gn t sl σ H0 P (bZ i):=λ H Q e k=>⟨v,ao,k v H e (cO.refl H) h⟩
theorem d9 (ha:Gn t sl σ H0 P a) (hb:Gn t sl σ H0 P b) (hc:Gn t sl σ H0 (cA 0 2) c):Gn t sl σ H0 P (dX (oI K) (mW (bN a (bN b eG))) c):=by
 intro H Q e k;refine ha H _ e λ v1 H1 e1 b1 p1=>hb H1 _ e1 λ v2 H2 e2 b2 p2=>⟨(show 2<=sizeLine by decide),λ p hp=>hc _ _ (e2.new hp) λ v H3 e3 b3 ⟨i,hi,h0,h1⟩=>?_⟩;subst hi;have hl:=b3 p _ (e2.ne hp) aF;have hb:cO t H H3:=b1.trans (b2.trans ((aH.new hp).but.trans b3));rcases (show i=0\/i=1 by omega) with rfl | rfl
 ·exact .inl ⟨p,_,0,v1,rfl,rfl,cG.of hl,rfl,k v1 H3 e3 hb p1⟩
 ·exact .inl ⟨p,_,1,v2,rfl,rfl,cG.of hl,rfl,k v2 H3 e3 hb p2⟩
theorem nO (ha:Gn t sl σ H0 P a) (hb:Gn t sl σ H0 P b) (hd:Gn t sl σ H0 P d) (hc:Gn t sl σ H0 (cA 0 3) c):Gn t sl σ H0 P (dX (oI K) (mW (bN a (bN b (bN d eG)))) c):=by
 intro H Q e k;refine ha H _ e λ v1 H1 e1 b1 p1=>hb H1 _ e1 λ v2 H2 e2 b2 p2=>hd H2 _ e2 λ v4 H4 e4 b4 p4=>⟨(show 3<=sizeLine by decide),λ p hp=>hc _ _ (e4.new hp) λ v H3 e3 b3 ⟨i,hi,h0,h1⟩=>?_⟩;subst hi;have hl:=b3 p _ (e4.ne hp) aF;have hb:cO t H H3:=b1.trans (b2.trans (b4.trans ((aH.new hp).but.trans b3)));rcases (show i=0\/i=1\/i=2 by omega) with rfl | rfl | rfl
 ·exact .inl ⟨p,_,0,v1,rfl,rfl,cG.of hl,rfl,k v1 H3 e3 hb p1⟩
 ·exact .inl ⟨p,_,1,v2,rfl,rfl,cG.of hl,rfl,k v2 H3 e3 hb p2⟩
 ·exact .inl ⟨p,_,2,v4,rfl,rfl,cG.of hl,rfl,k v4 H3 e3 hb p4⟩
theorem mI {i:Nat}{lo hi:Int} (ao:σ[i]? = some (some (.ref t))) (hlo:0 < lo) (hhi:hi<=1000000) (ha:Gn t sl σ H0 (cA lo hi) a):Gn t sl σ H0 (λ v=>∃ r m,v=.int r/\0<=r/\r < m/\lo<=m/\m < hi) (gB d0 [] E0 (bN (bZ i) (bN a eG))):=by
 intro H Q e k;refine⟨_,ao,ha H _ e λ v H1 e1 b1 ⟨m,hm,h0,h1⟩=>?_⟩;subst hm;exact⟨t,sl,m,rfl,e1.tp,by omega,by omega,λ r H2 b2 t2 r0 r1=>k _ H2 ⟨e1.bt.trans b2,t2⟩ (b1.trans b2) ⟨r,m,rfl,r0,r1,h0,h1⟩⟩
theorem bK {i:Nat}{m:Int} (ao:σ[i]? = some (some (.ref t))) (h0:0 < m) (h1:m < 1000000):Gn t sl σ H0 (cA 0 m) (gB d0 [] E0 (bN (bZ i) (bN (tC (.int m)) eG))):=
 (mI (lo:=m) (hi:=m+1) ao h0 (by omega) (jY ⟨m,rfl,by omega,by omega⟩)).imp λ v ⟨r,m',e,a,b,c,d⟩=>⟨r,e,a,by omega⟩
theorem eZ {i j:Nat}{m:Int} (ao:σ[i]? = some (some (.ref t))) (hj:σ[j]? = some (some (.int m))) (h0:0 < m) (h1:m < 1000000):Gn t sl σ H0 (cA 0 m) (gB d0 [] E0 (bN (bZ i) (bN (bZ j) eG))):=
 (mI (lo:=m) (hi:=m+1) ao h0 (by omega) (yS hj ⟨m,rfl,by omega,by omega⟩)).imp λ v ⟨r,m',e,a,b,c,d⟩=>⟨r,e,a,by omega⟩
theorem mJ {x y l h:Int} (ha:Gn t sl σ H0 (cA x y) a) (hb:Gn t sl σ H0 (cA l h) b):Gn t sl σ H0 (cA (x+l) (y+h - 1)) (dX (lR λ i j=>.int (i+j)) a b):=by
 intro H Q e k;refine ha H _ e λ v1 H1 e1 b1 ⟨i,hi,i0,i1⟩=>hb H1 _ e1 λ v2 H2 e2 b2 ⟨j,hj,j0,j1⟩=>?_;subst hi hj;exact⟨i,j,rfl,rfl,k _ H2 e2 (b1.trans b2) ⟨_,rfl,by omega,by omega⟩⟩
theorem tR {y m:Int} (hm:0 < m) (hm2:m < 1000000) (ha:Gn t sl σ H0 (cA 0 y) a):Gn t sl σ H0 (λ v=>∃ i,v=.int (i / m)/\0<=i/\i < y) (dX (rI xZ λ i j=>.int (i / j)) a (tC (.int m))):=by
 intro H Q e k;refine ha H _ e λ v1 H1 e1 b1 ⟨i,hi,i0,i1⟩=>?_;subst hi;exact⟨i,m,rfl,rfl,⟨hm,by omega⟩,k _ H1 e1 b1 ⟨i,rfl,i0,i1⟩⟩
theorem pG {y c0:Int} (ha:Gn t sl σ H0 (cA 0 y) a):Gn t sl σ H0 (λ v=>∃ b:Bool,v=.bl b) (dX rEq a (tC (.int c0))):=by
 intro H Q e k;refine ha H _ e λ v1 H1 e1 b1 ⟨i,hi,i0,i1⟩=>?_;subst hi;exact⟨rfl,k _ H1 e1 b1 ⟨_,rfl⟩⟩
theorem xM {y c0:Int} (ha:Gn t sl σ H0 (cA 0 y) a):Gn t sl σ H0 (λ v=>∃ b:Bool,v=.bl b) (dX (lR λ i j=>.bl (decide (j < i))) a (tC (.int c0))):=by
 intro H Q e k;refine ha H _ e λ v1 H1 e1 b1 ⟨i,hi,i0,i1⟩=>?_;subst hi;exact⟨i,c0,rfl,rfl,k _ H1 e1 b1 ⟨_,rfl⟩⟩
abbrev sD:List V->Hp->VK->Prop:=λ xs H Q=>(∃ i,xs=[.int i]/\Q (.int i) H)\/∃ k,xs=[.bl k]/\Q (.int (if k then 1 else 0)) H
theorem tQ {i:Nat}{s:Bool} (ao:σ[i]? = some (some (.bl s))):Gn t sl σ H0 (cA 0 2) (vQ sD (bN (bZ i) eG)):=by
 intro H Q e k;refine⟨_,ao,.inr ⟨s,rfl,k _ H e (cO.refl H) ?_⟩⟩;cases s
 ·exact⟨0,rfl,by omega,by omega⟩
 ·exact⟨1,rfl,by omega,by omega⟩
theorem j7 {i:Nat}{s:Bool}{x y lo hi:Int} (ao:σ[i]? = some (some (.bl s))) (h1:lo<=x/\x < hi) (h2:lo<=y/\y < hi):Gn t sl σ H0 (cA lo hi) (dX (oI K) (mW (bN (tC (.int x)) (bN (tC (.int y)) eG))) (vQ sD (bN (bZ i) eG))):=
 d9 (jY ⟨x,rfl,h1.1,h1.2⟩) (jY ⟨y,rfl,h2.1,h2.2⟩) (tQ ao)
theorem j8 (ha:Gn t sl σ H0 (cA 0 4) a):Gn t sl σ H0 (cA 0 2) (dX (rI xZ λ i j=>.int (i / j)) a (tC (.int 3))):=
 (tR (by decide) (by decide) ha).imp λ v ⟨i,e,a,b⟩=>⟨i / 3,e,by omega,by omega⟩
theorem fW {lo hi lo' hi':Int} (h:Gn t sl σ H0 (cA lo hi) a) (h1:lo'<=lo) (h2:hi<=hi'):Gn t sl σ H0 (cA lo' hi') a:=h.imp λ v ⟨i,e,a,b⟩=>⟨i,e,by omega,by omega⟩
theorem fA {i:Nat}{lo hi:Int} (ao:σ[i]? = some (some (.ref t))) (hlo:0 < lo) (hhi:hi<=1000000) (ha:Gn t sl σ H0 (cA lo hi) a):Gn t sl σ H0 (cA 0 (hi - 1)) (gB d0 [] E0 (bN (bZ i) (bN a eG))):=
 (mI ao hlo hhi ha).imp λ v ⟨r,m,e,a,b,c,d⟩=>⟨r,e,a,by omega⟩
end
def oB (K:aaa):Sp:=λ args H Q _=>∃ (t sl:Addr) (n:Nat) (small:Bool),args=[.ref t,.int (n:Int),.bl small]/\cB H t sl/\1<=n/\n<=12/\
 ∀ (outs:List (Option Int×Int)) p H',Ext t sl H H'->outs≠[]->outs.length<=3->(∀ o∈outs,OutOk n o)->Is K H' (.tup (outs.map nC)) p->Q p H'
theorem gH:FnScope ["tape","many","small","outs","k","target","parts"] ["tape","many","small"] (aK (bP 54)):={}
theorem m4 {f fD:Addr}{fd fdD:FuncData} (F:Fun K "_law_outs" "_law_outs" (bP 54) f fd) (T:Txt mg) (G__law_draw:Callee P w K mg base "_law_draw" ["tape","many"] 1 d0 fD fdD):FnOk P w K mg base fK 2 f fd ["tape","many","small"] (oB K):=by
 refine F.ok gH (λ vs H Q E h=>?_) (λ cdv A outer s H vs Q E hr h=>?_)
 ·obtain⟨t,sl,n,small,rfl,_⟩:=h;rfl
 ·obtain⟨t,sl,n,small,rfl,tp,n1,n2,k⟩:=h;have sc:=gH;refine⟨_,(aE (pL 3 sc.nd (bB aB))
   (aE (d7 PassesOwn.never rfl (d4 rfl T.b_range (aA (aS cF aD (px K (bB (aA (bY G__law_draw hr (aA (pv 0) (aA aD aB))) (aA (bY G__law_draw hr (aA (pv 0) (aA aD aB))) aB))) (bY G__law_draw hr (aA (pv 0) (aA aD aB))))) aB)) (gL 4 sc.nd) (aE (pL 5 sc.nd (px K (bB (aA cS (aA (bY G__law_draw hr (aA (pv 0) (aA (pv 1) aB))) (aA (bY G__law_draw hr (aA (pv 0) (aA (pv 1) aB))) aB)))) (bY G__law_draw hr (aA (pv 0) (aA aD aB)))))
   (aE (pL 6 sc.nd (px K (bB (aA (bY G__law_draw hr (aA (pv 0) (aA aD aB))) (aA (bY G__law_draw hr (aA (pv 0) (aA (px K (bB (aA aD (aA aD aB))) (bX d6 rfl T.b_int eL (aA (pv 2) aB))) aB))) aB))) (aS gQ (bY G__law_draw hr (aA (pv 0) (aA aD aB))) aD)))
   (aG (gM (hU (K:=K) rfl abd abo abp eA (pv 3) (aA (bE (aA (pv 5) (aA (aS cF aD (pv 6)) aB))) aB)))))))
   (aG (aM (bX (eE (K:=K) rfl) rfl T.b_tuple bO (aA (pv 3) aB)))))),?_⟩
  refine⟨aay _,λ ol hol=>?_⟩;have e0:Ext t sl H (upd H ol (.lst [])):=Ext.new ⟨cO.refl H,tp⟩ hol;have no:ol≠t:=Ext.ne ⟨cO.refl H,tp⟩ hol;refine mJ (x:=1) (y:=2) (l:=0) (h:=3) (H0:=upd H ol (.lst [])) (t:=t) (sl:=sl) (jY ⟨1,rfl,by omega,by omega⟩)
   (d9 (fW (bK rfl (by decide) (by decide)) (Int.le_refl _) (by decide)) (bK rfl (by decide) (by decide)) (bK rfl (by decide) (by decide))) _ _ ⟨cO.refl _,e0.tp⟩ ?_
  rintro v H1 e1 _ ⟨m,rfl,m0,m1⟩;refine⟨m,rfl,by omega,by omega,?_⟩;refine eD (lo:=0) (n:=m.toNat) (λ i aa H'=>Ext t sl H H'/\∃ (outs:List (Option Int×Int)) (xs:List V),H' ol=some (.lst xs)/\IsL K H' (outs.map nC) xs/\outs.length=i/\(∀ o∈outs,OutOk n o)/\
   ∃ v4 v5 v6,aa=[some (.ref t),some (.int (n:Int)),some (.bl small),some (.ref ol),v4,v5,v6]) ?_ ?_ ?_
  ·exact⟨⟨e0.bt.trans e1.bt,e1.tp⟩,[],[],e1.bt ol _ no aF,.nil,rfl,λ o ho=>(nomatch ho),none,none,none,rfl⟩
  ·rintro i aa H2 hi ⟨e2,outs,xs,ho,hl,hlen,hok,v4,v5,v6,rfl⟩;refine nO (H0:=H2) (t:=t) (sl:=sl) (P:=λ v=>∃ o:Option Int,v=vO o/\∀ z,o=some z->0<=z/\z < n) (jY ⟨none,rfl,λ z h=>nomatch h⟩)
    ((eZ (m:=(n:Int)) rfl rfl (by omega) (by omega)).imp λ v ⟨r,e,a,b⟩=>⟨some r,e,λ z h=>by cases h;exact⟨a,by omega⟩⟩)
    ((eZ (m:=(n:Int)) rfl rfl (by omega) (by omega)).imp λ v ⟨r,e,a,b⟩=>⟨some r,e,λ z h=>by cases h;exact⟨a,by omega⟩⟩) (bK rfl (by decide) (by decide)) _ _ ⟨cO.refl _,e2.tp⟩ ?_
   rintro v H3 e3 _ ⟨tg,rfl,htg⟩;refine d9 (H0:=H3) (t:=t) (sl:=sl) (P:=cA 0 60) (fW (bK rfl (by decide) (by decide)) (Int.le_refl _) (by decide))
    (fW (fA (lo:=3) (hi:=61) rfl (by decide) (by decide) (j7 rfl ⟨by decide,by decide⟩ ⟨by decide,by decide⟩)) (Int.le_refl _) (by decide)) (j8 (bK rfl (by decide) (by decide))) _ _ ⟨cO.refl _,e3.tp⟩ ?_
   rintro v H4 e4 _ ⟨pt,rfl,p0,p1⟩;have ho4:H4 ol=some (.lst xs):=e4.bt ol _ no (e3.bt ol _ no ho);refine⟨_,rfl,.inl ⟨rfl,_,cG.of ho4⟩,_,rfl,_,rfl,_,_,rfl,rfl,(show 2<=sizeLine by decide),λ q hq=>?_⟩;have nq:ol≠q:=aN ho4 hq;have hxl:xs.length=outs.length:=by rw[hl.length,aai]
   have hm3:m.toNat<=3:=by omega
   refine⟨ol,xs,_,rfl,rfl,by rw[aJ nq];exact ho4,cR (by omega),?_⟩;have e5:Ext t sl H2 (upd H4 q (.tup [vO tg,.int (1+pt)])):=Ext.new ⟨e3.bt.trans e4.bt,e4.tp⟩ hq;have ts:bW K H2 (upd (upd H4 q (.tup [vO tg,.int (1+pt)])) ol (.lst (xs++[.ref q]))):=bW.put (e5.ts e2.tp) (.inr (by rw[aJ nq,ho4];exact trivial));refine⟨⟨λ b o hb e=>?_,?_⟩,outs++[(tg,1+pt)],xs++[.ref q],aF,?_,by simp [hlen],?_,_,_,_,rfl⟩
   ·rw[aJ (aN e hol)];exact e5.bt b o hb (e2.bt b o hb e)
   ·exact e5.tp.put no (cB.ne_sl tp hol)
   ·rw[abi];exact IsL.snoc (Is.tupOf (ds:=[rL tg,.int (1+pt)]) (bW.put (bW.refl _) (.inr (by rw[aJ nq,ho4];exact trivial)) _ _ (bU.of aF)) (.cons (Is.tgOf tg) (.cons (Is.i _) .nil))) (IsL.mono ts _ _ hl)
   ·intro o ho;rcases aau.mp ho with ho | ho
    ·exact hok o ho
    ·rw[abc.mp ho];exact⟨λ z hz=>htg z hz,by show 1<=1+pt;omega,by show 1+pt<=60;omega⟩
  ·rintro aa H2 ⟨e2,outs,xs,ho,hl,hlen,hok,v4,v5,v6,rfl⟩;refine⟨_,rfl,ol,_,rfl,.inl ⟨cG.of ho,λ l hlf=>?_⟩⟩;refine k outs _ _ (e2.new hlf) (λ z=>by rw[z] at hlen;simp at hlen;omega) (by omega) hok (Is.tupOf (bU.of aF) (IsL.mono (aH.new hlf).ts _ _ hl))
end Tw
namespace L2
theorem tK {c:TT}{a b:TS}{D:Ends}{σ:St}{H:Hp} (I:St->Hp->Prop) (h1:∀ D':Ends,(∀ aa H',I aa H'->D'.nx aa H')->rR c a b D' σ H) (h2:∀ aa H',I aa H'->D.nx aa H'):rR c a b D σ H:=h1 D h2
theorem lP {s R:TS}{D:Ends}{σ:St}{H:Hp} (I:St->Hp->Prop) (h1:∀ D':Ends,(∀ aa H',I aa H'->D'.nx aa H')->s D' σ H) (h2:∀ aa H',I aa H'->R D aa H'):fY s R D σ H:=h1 _ h2
end L2
namespace Tw
open PySem L2
section
variable {t sl:Addr}{σ:St}{H0:Hp}{P:V->Prop}{a b c d:TE}
theorem tJ {y c0:Int}{t' u':TS}{D':Ends}{H:Hp} (ha:Gn t sl σ H0 (cA 0 y) a) (e:Ext t sl H0 H) (k:∀ (b:Bool) H',Ext t sl H0 H'->cO t H H'->if b=true then t' D' σ H' else u' D' σ H'):rR (mV (dX rEq a (tC (.int c0)))) t' u' D' σ H:=
 pG ha H _ e λ v H' e' b ⟨c,hc⟩=>⟨c,hc,k c H' e' b⟩
theorem qZ {i:Nat}{s:Bool} (ao:σ[i]? = some (some (.bl s))) (ha:Gn t sl σ H0 (cA 0 2) a):Gn t sl σ H0 (cA 0 2) (dX (rI nX λ i j=>.int (i * j)) a (vQ sD (bN (vP (bZ i)) eG))):=by
 intro H Q e k;refine ha H _ e λ v1 H1 e1 b1 ⟨j,hj,j0,j1⟩=>⟨_,ao,s,rfl,.inr ⟨!s,rfl,?_⟩⟩;subst hj;refine⟨j,_,rfl,rfl,.inl ⟨by omega,by omega⟩,k _ H1 e1 b1 ?_⟩;cases s
 ·exact⟨j,by simp,j0,j1⟩
 ·exact⟨0,by simp,by omega,by omega⟩
theorem tP {j:Nat}{x y:Int} (hj:σ[j]? = some (some (.int y))):Gn t sl σ H0 (cA (x - y) (x - y+1)) (dX (lR λ i j=>.int (i - j)) (tC (.int x)) (bZ j)):=λ H Q e k=>
 ⟨_,hj,x,y,rfl,rfl,k _ H e (cO.refl H) ⟨_,rfl,by omega,by omega⟩⟩
theorem qC {j:Nat}{y l h:Int} (hj:σ[j]? = some (some (.int y))) (hb:Gn t sl σ H0 (cA l h) b):Gn t sl σ H0 (cA (y+l) (y+h)) (dX (lR λ i j=>.int (i+j)) (bZ j) b):=
 fW (mJ (x:=y) (y:=y+1) (yS hj ⟨y,rfl,by omega,by omega⟩) hb) (by omega) (by omega)
end
structure VFull (i:Nat) (v:Vs):Prop where
 sz:v.size<=60
 br:v.size<=v.brim
 bh:v.brim<=200
 sp:∀ t,v.spill=some t->(i:Int) < t
structure NetFull (net:Net):Prop where
 vs:∀ i v,net.vs[i]? = some v->VFull i v
 sps:∀ s∈net.sps,0<=s.2.1/\s.2.1<=60
def jG (K:aaa):Sp:=λ args H Q _=>∃ (t sl:Addr) (i n m:Nat) (small:Bool),args=[.ref t,.int (i:Int),.int (n:Int),.int (m:Int),.bl small]/\cB H t sl/\i < n/\n<=12/\m<=12/\
 ∀ (v:Vs) p H',Ext t sl H H'->VOk n m v->VFull i v->Is K H' (rK v) p->Q p H'
theorem eS:FnScope ["tape","number","many","spouts","small","size","brim","spill","acts","k"] ["tape","number","many","spouts","small"] (aK (bP 55)):={}
theorem jR {f fD fO:Addr}{fd fdD fdO:FuncData} (F:Fun K "_law_vessel" "_law_vessel" (bP 55) f fd) (T:Txt mg) (G__law_draw:Callee P w K mg base "_law_draw" ["tape","many"] 1 d0 fD fdD)
  (G__law_outs:Callee P w K mg base "_law_outs" ["tape","many","small"] 2 (oB K) fO fdO):FnOk P w K mg base fK 3 f fd ["tape","number","many","spouts","small"] (jG K):=by
 refine F.ok eS (λ vs H Q E h=>?_) (λ cdv A outer s H vs Q E hr h=>?_)
 ·obtain⟨t,sl,i,n,m,small,rfl,_⟩:=h;rfl
 ·obtain⟨t,sl,i,n,m,small,rfl,tp,hi,hn,hm,k⟩:=h;have sc:=eS;refine⟨_,(aE (pL 5 sc.nd (aS cF aD (px K (bB (aA (bY G__law_draw hr (aA (pv 0) (aA (px K (bB (aA aD (aA aD aB))) (bX d6 rfl T.b_int eL (aA (pv 4) aB))) aB))) (aA (bY G__law_draw hr (aA (pv 0) (aA (px K (bB (aA aD (aA aD aB))) (bX d6 rfl T.b_int eL (aA (pv 4) aB))) aB))) aB))) (aS gQ (bY G__law_draw hr (aA (pv 0) (aA aD aB))) aD))))
   (aE (pL 6 sc.nd (aS cF (pv 5) (px K (bB (aA aD (aA (bY G__law_draw hr (aA (pv 0) (aA (aS cU aD (pv 5)) aB))) aB))) (aS jN (bY G__law_draw hr (aA (pv 0) (aA aD aB))) (bX d6 rfl T.b_int eL (aA (oN (pv 4)) aB))))))
   (aE (bI (aW gR (bY G__law_draw hr (aA (pv 0) (aA aD aB))) aD (aZ _)) (aG (pL 6 sc.nd (aS cF (pv 5) (bY G__law_draw hr (aA (pv 0) (aA aD aB)))))) aP)
   (aE (pL 7 sc.nd cS)
   (aE (bI (PW.pt (dP (aW sQ (aS cF (pv 1) aD) (pv 2) (aZ _)) (dJ (aW gR (bY G__law_draw hr (aA (pv 0) (aA aD aB))) aD (aZ _))))) (aG (pL 7 sc.nd (aS cF (aS cF (pv 1) aD) (bY G__law_draw hr (aA (pv 0) (aA (aS cU (aS cU (pv 2) (pv 1)) aD) aB)))))) aP)
   (aE (pL 8 sc.nd (bB aB))
   (aE (bI (aW gP (pv 3) aD (aZ _)) (aG (d7 PassesOwn.never rfl (d4 rfl T.b_range (aA (aS gQ (bY G__law_draw hr (aA (pv 0) (aA aD aB))) aD) aB)) (gL 9 sc.nd) (aG (gM (hU (K:=K) rfl abd abo abp eA (pv 8) (aA (bE (aA (px K (bB (aA bQ (aA bQ (aA bQ aB)))) (bY G__law_draw hr (aA (pv 0) (aA aD aB)))) (aA (bY G__law_draw hr (aA (pv 0) (aA (pv 3) aB))) aB))) aB)))))) aP)
   (aG (aM (bE (aA (pv 5) (aA (pv 6) (aA (bY G__law_outs hr (aA (pv 0) (aA (pv 2) (aA (pv 4) aB)))) (aA (dL gR (bY G__law_draw hr (aA (pv 0) (aA aD aB))) aD (aZ _)) (aA (pv 7) (aA (bX (eE (K:=K) rfl) rfl T.b_tuple bO (aA (pv 8) aB)) aB)))))))))))))))),?_⟩
  refine mJ (t:=t) (sl:=sl) (H0:=H) (x:=1) (y:=2) (l:=0) (h:=60) (jY ⟨1,rfl,by omega,by omega⟩)
   (d9 (fW (fA (lo:=4) (hi:=10) rfl (by decide) (by decide) (j7 rfl ⟨by decide,by decide⟩ ⟨by decide,by decide⟩)) (Int.le_refl _) (by decide))
    (fW (fA (lo:=4) (hi:=61) rfl (by decide) (by decide) (j7 rfl ⟨by decide,by decide⟩ ⟨by decide,by decide⟩)) (Int.le_refl _) (by decide)) (j8 (bK rfl (by decide) (by decide)))) _ _ ⟨cO.refl _,tp⟩ ?_
  rintro v H1 e1 _ ⟨size,rfl,s0,s1⟩;refine qC (t:=t) (sl:=sl) (H0:=H) (y:=size) (l:=0) (h:=201 - size) rfl (d9 (jY ⟨0,rfl,by omega,by omega⟩)
   (fW (fA (lo:=201 - size) (hi:=201 - size+1) rfl (by omega) (by omega) (tP rfl)) (Int.le_refl _) (by omega)) (qZ rfl (bK rfl (by decide) (by decide)))) _ _ e1 ?_
  rintro v H2 e2 _ ⟨brim,rfl,br0,br1⟩;dsimp only [fY,eP,tC,cC];refine tK (λ aa H'=>Ext t sl H H'/\∃ brim,size<=brim/\brim<=200/\aa=[some (.ref t),some (.int (i:Int)),some (.int (n:Int)),some (.int (m:Int)),some (.bl small),some (.int size),some (.int brim),none,none,none]) (λ D' hD=>?_) ?_
  ·refine tJ (t:=t) (sl:=sl) (H0:=H) (bK rfl (by decide) (by decide)) e2 λ b H3 e3 _=>?_;cases b with
   | false=>exact aV (hD _ _ ⟨e3,brim,by omega,by omega,rfl⟩)
   | true=>
    refine aU ?_;refine qC (t:=t) (sl:=sl) (H0:=H) (y:=size) (l:=0) (h:=3) rfl (bK rfl (by decide) (by decide)) _ _ e3 ?_;rintro v H4 e4 _ ⟨b2,rfl,c0,c1⟩;exact hD _ _ ⟨e4,b2,by omega,by omega,rfl⟩
  rintro ae H3 ⟨e3,brim,hb1,hb2,rfl⟩;dsimp only [fY,eP,tC,cC];refine tK (λ aa H'=>Ext t sl H H'/\∃ sp:Option Int,(∀ z,sp=some z->(0<=z/\z < n)/\(i:Int) < z)/\aa=[some (.ref t),some (.int (i:Int)),some (.int (n:Int)),some (.int (m:Int)),some (.bl small),some (.int size),some (.int brim),some (vO sp),none,none]) (λ D' hD=>?_) ?_
  ·refine⟨_,rfl,_,_,rfl,rfl,_,rfl,_,_,rfl,rfl,_,rfl,?_⟩;refine cV (λ hlt=>?_) (λ _=>aV (hD _ _ ⟨e3,none,(λ z h=>nomatch h),rfl⟩));have hlt':(i:Int)+1 < n:=abz hlt;refine pG (t:=t) (sl:=sl) (H0:=H) (bK rfl (by decide) (by decide)) _ _ e3 ?_;rintro v H4 e4 _ ⟨b,rfl⟩;refine⟨b,rfl,?_⟩;cases b with
   | false=>exact aV (hD _ _ ⟨e4,none,(λ z h=>nomatch h),rfl⟩)
   | true=>
    refine aU ?_;refine⟨_,rfl,_,_,rfl,rfl,_,rfl,_,rfl,_,rfl,_,_,rfl,rfl,_,_,rfl,rfl,t,sl,(n:Int) - i - 1,rfl,e4.tp,by omega,by omega,λ r H5 b5 t5 r0 r1=>⟨_,_,rfl,rfl,?_⟩⟩;exact hD _ _ ⟨⟨e4.bt.trans b5,t5⟩,some ((i:Int)+1+r),λ z h=>by cases h;omega,rfl⟩
  rintro σ4 H4 ⟨e4,sp,hsp,rfl⟩;refine⟨aay _,λ al hal=>?_⟩;dsimp only [fY,eP,tC,cC];have fal:H al=none:=e4.bt.free (e4.ne hal) hal;have nal:al≠t:=e4.ne hal;refine tK (λ aa H'=>Ext t sl H H'/\∃ (acts:List (Str×Int)) (xs:List V),H' al=some (.lst xs)/\L2.IsL K H' (acts.map nV) xs/\acts.length<=3/\(∀ a∈acts,ActOk m a)/\
   ∃ v9,aa=[some (.ref t),some (.int (i:Int)),some (.int (n:Int)),some (.int (m:Int)),some (.bl small),some (.int size),some (.int brim),some (vO sp),some (.ref al),v9]) (λ D' hD=>?_) ?_
  ·refine⟨_,rfl,_,_,rfl,rfl,_,rfl,?_⟩;refine cV (λ hlt=>?_) (λ _=>hD _ _ ⟨e4.new hal,[],[],aF,.nil,by simp,λ a ha=>(nomatch ha),none,rfl⟩);have hm0:(0:Int) < m:=abz hlt;refine tR (t:=t) (sl:=sl) (H0:=H) (by decide) (by decide) (bK (m:=11) rfl (by decide) (by decide)) _ _ (e4.new hal) ?_;rintro v H5 e5 b5 ⟨c,rfl,c0,c1⟩;refine⟨_,rfl,by omega,by omega,?_⟩;refine eD (lo:=0) (n:=(c / 3).toNat) (λ j aa H'=>Ext t sl H H'/\∃ (acts:List (Str×Int)) (xs:List V),H' al=some (.lst xs)/\L2.IsL K H' (acts.map nV) xs/\acts.length=j/\(∀ a∈acts,ActOk m a)/\
    ∃ v9,aa=[some (.ref t),some (.int (i:Int)),some (.int (n:Int)),some (.int (m:Int)),some (.bl small),some (.int size),some (.int brim),some (vO sp),some (.ref al),v9]) ?_ ?_ ?_
   ·exact⟨e5,[],[],b5 al _ nal aF,.nil,rfl,λ a ha=>(nomatch ha),none,rfl⟩
   ·rintro j aa H6 hj ⟨e6,acts,xs,ha,hl,hlen,hok,v9,rfl⟩;refine⟨_,rfl,.inl ⟨rfl,_,cG.of ha⟩,?_⟩;refine nO (t:=t) (sl:=sl) (H0:=H) (P:=λ v=>∃ wd:Str,v=.str wd/\(wd = "open" \/ wd = "shut" \/ wd = "turn")) (jY ⟨_,rfl,.inl rfl⟩) (jY ⟨_,rfl,.inr (.inl rfl)⟩) (jY ⟨_,rfl,.inr (.inr rfl)⟩) (bK rfl (by decide) (by decide)) _ _ e6 ?_;rintro v H7 e7 b7 ⟨wd,rfl,hwd⟩;refine eZ (t:=t) (sl:=sl) (H0:=H) (m:=(m:Int)) rfl rfl hm0 (by omega) _ _ e7 ?_;rintro v H8 e8 b8 ⟨r,rfl,r0,r1⟩;refine⟨(show 2<=sizeLine by decide),λ q hq=>?_⟩;have ha8:H8 al=some (.lst xs):=b8 al _ nal (b7 al _ nal ha);have nq:al≠q:=aN ha8 hq;have hxl:xs.length=acts.length:=by rw[hl.length,aai]
    refine⟨al,xs,_,rfl,rfl,by rw[aJ nq];exact ha8,cR (by omega),?_⟩;have e9:Ext t sl H (upd H8 q (.tup [.str wd,.int r])):=e8.new hq;have mt:pJ (upd H8 q (.tup [.str wd,.int r]) al):=by rw[aJ nq,ha8];exact trivial
    have ts:bW K H6 (upd (upd H8 q (.tup [.str wd,.int r])) al (.lst (xs++[.ref q]))):=bW.put (((b7.trans b8).trans (aH.new hq).but).ts e6.tp.mut) (.inr mt);refine⟨⟨λ b o hb e=>?_,e9.tp.put nal (cB.ne_sl tp fal)⟩,acts++[(wd,r)],xs++[.ref q],aF,?_,by simp [hlen],?_,_,rfl⟩
    ·rw[aJ (aN e fal)];exact e9.bt b o hb e
    ·rw[abi];exact L2.IsL.snoc (Is.tupOf (ds:=[.str wd,.int r]) (bW.put (bW.refl _) (.inr mt) _ _ (bU.of aF)) (.cons (Is.s _) (.cons (Is.i _) .nil))) (L2.IsL.mono ts _ _ hl)
    ·intro a ha';rcases aau.mp ha' with ha' | ha'
     ·exact hok a ha'
     ·rw[abc.mp ha'];exact⟨hwd,r0,r1⟩
   ·rintro aa H6 ⟨e6,acts,xs,ha,hl,hlen,hok,v9,rfl⟩;exact hD _ _ ⟨e6,acts,xs,ha,hl,by omega,hok,v9,rfl⟩
  rintro ci H5 ⟨e5,acts,xs,ha,hl,hlen,hok,v9,rfl⟩;refine⟨_,rfl,_,rfl,_,rfl,_,rfl,_,rfl,t,sl,n,small,rfl,e5.tp,by omega,hn,λ outs p H6 e6 o1 o2 o3 hp=>?_⟩;refine pG (t:=t) (sl:=sl) (H0:=H) (bK rfl (by decide) (by decide)) _ _ ⟨e5.bt.trans e6.bt,e6.tp⟩ ?_;rintro v H7 e7 b7 ⟨b,rfl⟩;have ha7:H7 al=some (.lst xs):=b7 al _ nal (e6.bt al _ nal ha);have b57:cO t H5 H7:=e6.bt.trans b7;refine⟨_,rfl,_,rfl,al,_,rfl,.inl ⟨cG.of ha7,λ q hq=>⟨(show 6<=sizeLine by decide),λ r hr'=>?_⟩⟩⟩;have m1:=aH.new (o:=HO.tup xs) hq;have m2:aH (upd H7 q (.tup xs)) (upd (upd H7 q (.tup xs)) r (.tup [.int size,.int brim,p,.bl b,vO sp,.ref q])):=aH.new hr';refine k ⟨size,brim,outs,b,sp,acts⟩ _ _ ((e7.new hq).new hr') ⟨s0,o1,o2,o3,λ z h=>(hsp z h).1,hlen,hok⟩ ⟨by show size<=60;omega,hb1,hb2,λ z h=>(hsp z h).2⟩ ?_;refine Is.tupOf (bU.of aF) (.cons (Is.i _) (.cons (Is.i _) (.cons ?_ (.cons (Is.b _) (.cons (Is.tgOf _) (.cons ?_ .nil))))))
  ·exact Is.mono m2.ts _ _ (Is.mono m1.ts _ _ (Is.mono (b7.ts e6.tp.mut) _ _ hp))
  ·exact Is.mono m2.ts _ _ (Is.tupOf (bU.of aF) (L2.IsL.mono m1.ts _ _ (L2.IsL.mono (b57.ts e5.tp.mut) _ _ hl)))
def bM (lo hi:Int):G->Bool
 | .int n=>decide (lo<=n) && decide (n<=hi)
 | _=>false
def bA (lo hi:Int):G->Bool
 | .tup gs=>decide (lo<=(gs.length:Int)) && decide ((gs.length:Int)<=hi)
 | _=>false
def wB (lo hi:Int):G->Bool
 | .non=>true
 | g=>bM lo hi g
def u6:G->Bool
 | .bl _=>true
 | _=>false
def dO:List G:=[.str "open",.str "shut",.str "turn"]
def g6 (n:Int):G->Bool
 | .tup [t,p]=>wB 0 (n - 1) t && bM 1 60 p
 | _=>false
def fN (m:Int):G->Bool
 | .tup [w,s]=>rM w dO && bM 0 (m - 1) s
 | _=>false
def fZ (n:Int):G->Bool
 | .tup [t,f,d]=>bM 0 (n - 1) t && bM 0 60 f && u6 d
 | _=>false
def iQ (sz br:G):Bool:=match sz with
 | .int z=>bM z 200 br
 | _=>false
def gW:G->List G
 | .tup gs=>gs
 | _=>[]
def fL (i n m:Int):G->Bool
 | .tup [sz,br,os,ho,sp,ac]=>bM 1 60 sz && iQ sz br && bA 1 3 os && bA 0 3 ac && (gW os).all (g6 n) && u6 ho && wB (i+1) (n - 1) sp && (gW ac).all (fN m)
 | _=>false
def qM (n m:Int) (vs:List G):Bool:=vs.zipIdx.all λ p=>fL p.2 n m p.1
def dC:G->Bool
 | .tup [.tup vs,.tup ss]=>decide (1<=vs.length) && decide (vs.length<=12) && decide (ss.length<=12) && qM vs.length ss.length vs && ss.all (fZ vs.length)
 | _=>false
theorem gA {n m:Int}{vs:List G}:qM n m vs=true↔∀ (i:Nat) g,vs[i]? = some g->fL i n m g=true:=by
 unfold qM;rw[aaw];constructor
 ·intro h i g hg;exact h (g,i) (by rw[List.mem_zipIdx_iff_getElem?];exact hg)
 ·rintro h ⟨g,i⟩ hp;rw[List.mem_zipIdx_iff_getElem?] at hp;exact h i g hp
theorem jB {n m:Int}{vs:List G}{i:Nat}{g:G} (h:vs[i]? = some g) (e:fL i n m g=false):qM n m vs=false:=by
 cases q:qM n m vs with
 | false=>rfl
 | true=>rw[gA.mp q i g h] at e;cases e
theorem cZ {lo hi:Int}{g:G} (h:bM lo hi g=true):∃ n,g=.int n/\lo<=n/\n<=hi:=by
 cases g with
 | int n=>simp [bM] at h;exact⟨n,rfl,h⟩
 | _=>simp [bM] at h
theorem vN {lo hi:Int}{g:G} (h:wB lo hi g=true):∃ t,g=dB (rL t)/\∀ n,t=some n->lo<=n/\n<=hi:=by
 cases g with
 | non=>exact⟨none,by simp [rL,dB],λ n e=>(by cases e)⟩
 | int n=>simp [wB,bM] at h;exact⟨some n,by simp [rL,dB],λ n e=>by cases e;exact h⟩
 | _=>simp [wB,bM] at h
theorem tI {g:G} (h:u6 g=true):∃ b,g=.bl b:=by
 cases g with
 | bl b=>exact⟨b,rfl⟩
 | _=>simp [u6] at h
theorem wW {n:Nat}{g:G} (h:g6 n g=true):∃ o,g=dB (nC o)/\OutOk n o:=by
 unfold g6 at h
 split at h
 ·rename_i t p
  rw[Bool.and_eq_true] at h;obtain⟨t',rfl,h1⟩:=vN h.1;obtain⟨p',rfl,h2,h3⟩:=cZ h.2;exact⟨(t',p'),by simp [nC,dB,cK],⟨λ z e=>by have:=h1 z e;omega,h2,h3⟩⟩
 ·cases h
theorem u9 {g:G} (h:rM g dO=true):∃ z:Str,g=.str z/\(z = "open" \/ z = "shut" \/ z = "turn"):=by
 cases g with
 | str z=>
  simp [rM,dO,b9] at h;exact⟨z,rfl,h.imp Eq.symm (Or.imp Eq.symm Eq.symm)⟩
 | _=>simp [rM,dO,b9] at h
theorem xR {m:Nat}{g:G} (h:fN m g=true):∃ a,g=dB (nV a)/\ActOk m a:=by
 unfold fN at h
 split at h
 ·rename_i w s
  rw[Bool.and_eq_true] at h;obtain⟨z,rfl,h1⟩:=u9 h.1;obtain⟨p',rfl,h2,h3⟩:=cZ h.2;exact⟨(z,p'),by simp [nV,dB,cK],⟨h1,h2,by show p' < m;omega⟩⟩
 ·cases h
theorem wF {n:Nat}{g:G} (h:fZ n g=true):∃ s:yX,g=dB (u5 s)/\(0<=s.1/\s.1 < n)/\0<=s.2.1/\s.2.1<=60:=by
 unfold fZ at h
 split at h
 ·rw[Bool.and_eq_true,Bool.and_eq_true] at h;obtain⟨t,rfl,h1,h2⟩:=cZ h.1.1;obtain⟨f,rfl,h3,h4⟩:=cZ h.1.2;obtain⟨b,rfl⟩:=tI h.2;exact⟨(t,f,b),by simp [u5,dB,cK],⟨h1,by show t < n;omega⟩,h3,h4⟩
 ·cases h
theorem mP {af:Type}{f:af->L2.D}{R:af->Prop}{q:G->Bool} (hq:∀ g,q g=true->∃ a,g=dB (f a)/\R a):∀ (gs:List G),gs.all q=true->∃ as:List af,gs=cK (as.map f)/\∀ a∈as,R a
 | [],_=>⟨[],by simp [cK],λ a h=>(by cases h)⟩
 | g::gs,h=>by
  rw[List.all_cons,Bool.and_eq_true] at h;obtain⟨a,rfl,ra⟩:=hq g h.1;obtain⟨as,rfl,ras⟩:=mP hq gs h.2;exact⟨a::as,by rw[abh,cK],λ x hx=>by
   rcases aas.mp hx with rfl | hx
   ·exact ra
   ·exact ras x hx⟩
theorem dW (ds:List L2.D):(cK ds).length=ds.length:=by rw[jE,aai]
theorem w9 {i n m:Nat}{g:G} (h:fL i n m g=true):∃ v,g=dB (rK v)/\VOk n m v/\VFull i v:=by
 unfold fL at h
 split at h
 ·rename_i sz br os ho sp ac
  simp only [Bool.and_eq_true] at h;obtain⟨⟨⟨⟨⟨⟨⟨h1,h2⟩,h3⟩,h4⟩,h5⟩,h6⟩,h7⟩,h8⟩:=h;obtain⟨s,rfl,s1,s2⟩:=cZ h1;obtain⟨b,rfl,b1,b2⟩:=cZ (show bM s 200 br=true from h2);obtain⟨ho,rfl⟩:=tI h6;obtain⟨t,rfl,t1⟩:=vN h7;cases os with
  | tup os=>
   cases ac with
   | tup ac=>
    obtain⟨os,rfl,ro⟩:=mP (λ g=>wW) os h5;obtain⟨ac,rfl,ra⟩:=mP (λ g=>xR) ac h8;simp only [bA,Bool.and_eq_true,decide_eq_true_eq,dW,aai] at h3 h4;refine⟨⟨s,b,os,ho,t,ac⟩,by simp [rK,dB,cK],⟨s1,λ e=>?_,by show os.length<=3;omega,ro,λ z e=>by have:=t1 z e;omega,by show ac.length<=3;omega,ra⟩,⟨s2,b1,b2,λ z e=>by have:=t1 z e;omega⟩⟩;have:os=[]:=e;rw[this] at h3;simp at h3
   | _=>simp [bA] at h4
  | _=>simp [bA] at h3
 ·cases h
theorem pK {n m:Nat}:∀ (gs:List G) (k:Nat),(∀ (i:Nat) g,gs[i]? = some g->fL ((k+i:Nat):Int) n m g=true)->∃ vs:List Vs,gs=cK (vs.map rK)/\∀ (i:Nat) v,vs[i]? = some v->VOk n m v/\VFull (k+i) v
 | [],_,_=>⟨[],by simp [cK],λ i v h=>(by simp at h)⟩
 | g::gs,k,h=>by
  obtain⟨v,rfl,hv⟩:=w9 (h 0 g rfl);obtain⟨vs,rfl,hvs⟩:=pK gs (k+1) λ i g hg=>by rw[show k+1+i=k+(i+1) by omega];exact h (i+1) g (by simpa using hg)
  refine⟨v::vs,by rw[abh,cK],λ i u hu=>?_⟩;cases i with
  | zero=>simp at hu;subst hu;exact hv
  | succ i=>rw[show k+(i+1)=k+1+i by omega];exact hvs i u (by simpa using hu)
theorem uU {g:G} (h:dC g=true):∃ net,g=dB (hX net)/\NetOk net/\NetFull net:=by
 unfold dC at h
 split at h
 ·rename_i vs ss
  simp only [Bool.and_eq_true,decide_eq_true_eq] at h;obtain⟨⟨⟨⟨h1,h2⟩,h3⟩,h4⟩,h5⟩:=h;obtain⟨vs',rfl,hv⟩:=pK vs 0 λ i g hg=>by rw[Nat.zero_add];exact gA.mp h4 i g hg
  obtain⟨ss',rfl,hs⟩:=mP (λ g=>wF) ss h5;simp only [dW,aai] at h1 h2 h3 hv hs;refine⟨⟨vs',ss'⟩,by simp [hX,dB,cK],⟨h1,h2,h3,λ v hm=>?_,λ s hm=>(hs s hm).1⟩,⟨λ i v e=>by have:=(hv i v e).2;rwa [Nat.zero_add] at this,λ s hm=>(hs s hm).2⟩⟩;obtain⟨i,hi⟩:=abm.1 hm;exact (hv i v hi).1
 ·cases h
theorem Ext.put {t sl p:Addr}{H H':Hp}{o:HO} (e:Ext t sl H H') (tp:cB H t sl) (hp:H p=none):Ext t sl H (upd H' p o):=
 ⟨λ b u hb e1=>by rw[aJ (aN e1 hp)];exact e.bt b u hb e1,e.tp.put (λ z=>by obtain⟨o,h⟩:=tp.some;rw[z,h] at hp;cases hp) (cB.ne_sl tp hp)⟩
theorem Ext.trans {t sl:Addr}{H H1 H2:Hp} (a:Ext t sl H H1) (b:Ext t sl H1 H2):Ext t sl H H2:=⟨a.bt.trans b.bt,b.tp⟩
def oE (K:aaa):Sp:=λ args H Q _=>∃ (t sl:Addr) (most:Int) (small:Bool),args=[.ref t,.int most,.bl small]/\1<=most/\most<=12/\cB H t sl/\
 ∀ (net:Net) p H',Ext t sl H H'->NetOk net->NetFull net->(net.vs.length:Int)<=most->Is K H' (hX net) p->Q p H'
theorem iG:FnScope ["tape","most","small","many","spouts","vessels","found","k","flow"] ["tape","most","small"] (aK (bP 56)):={}
theorem m5 {f fD fV:Addr}{fd fdD fdV:FuncData} (F:Fun K "_law_net" "_law_net" (bP 56) f fd) (T:Txt mg) (G__law_draw:Callee P w K mg base "_law_draw" ["tape","many"] 1 d0 fD fdD)
  (G__law_vessel:Callee P w K mg base "_law_vessel" ["tape","number","many","spouts","small"] 3 (jG K) fV fdV):FnOk P w K mg base fK 4 f fd ["tape","most","small"] (oE K):=by
 refine F.ok iG (λ vs H Q E h=>?_) (λ cdv A outer s H vs Q E hr h=>?_)
 ·obtain⟨t,sl,most,small,rfl,_⟩:=h;rfl
 ·obtain⟨t,sl,most,small,rfl,mo1,mo2,tp,k⟩:=h;have sc:=iG;refine⟨_,(aE (oJ (i:=3) sc.nd rfl (Or.inr rfl) (aS cF aD (bY G__law_draw hr (aA (pv 0) (aA (pv 1) aB)))))
   (aE (oJ (i:=4) sc.nd rfl (Or.inr rfl) (px K (bB (aA (bY G__law_draw hr (aA (pv 0) (aA aD aB))) (aA (bY G__law_draw hr (aA (pv 0) (aA aD aB))) aB))) (aS gQ (bY G__law_draw hr (aA (pv 0) (aA aD aB))) aD)))
   (aE (qR (i:=5) sc.nd rfl rfl (λ _ _ h=>h) rfl (LcOk.mk (N':=["k","tape","many","spouts","small"]) (fr:=[none,some 0,some 3,some 4,some 2]) rfl ⟨rfl,rfl,rfl,rfl,trivial⟩ rfl rfl rfl rfl rfl ⟨⟨_,rfl,rfl,rfl,rfl⟩,⟨_,rfl,rfl,rfl,rfl⟩,⟨_,rfl,rfl,rfl,rfl⟩,⟨_,rfl,rfl,rfl,rfl⟩,trivial⟩) (d4 rfl T.b_range (aA (pv 3) aB)) (λ _ _ _=>(gC 0 ["k","tape","many","spouts","small"])) (λ _ _ _=>eH) (λ _ _ _=>(bY G__law_vessel hr (aA (pv 1) (aA (pv 0) (aA (pv 2) (aA (pv 3) (aA (pv 4) aB))))))))
   (aE (pL 6 sc.nd (bB aB))
   (aE (d7 PassesOwn.never rfl (d4 rfl T.b_range (aA (pv 4) aB)) (gL 7 sc.nd) (aE (pL 8 sc.nd (px K (bB (aA (bY G__law_draw hr (aA (pv 0) (aA aD aB))) (aA (bY G__law_draw hr (aA (pv 0) (aA (px K (bB (aA aD (aA aD aB))) (bX d6 rfl T.b_int eL (aA (pv 2) aB))) aB))) aB))) (aS gQ (bY G__law_draw hr (aA (pv 0) (aA aD aB))) aD)))
   (aG (gM (hU (K:=K) rfl abd abo abp eA (pv 6) (aA (bE (aA (bY G__law_draw hr (aA (pv 0) (aA (pv 3) aB))) (aA (pv 8) (aA (dL gP (bY G__law_draw hr (aA (pv 0) (aA aD aB))) aD (aZ _)) aB)))) aB))))))
   (aG (aM (bE (aA (bX (eE (K:=K) rfl) rfl T.b_tuple bO (aA (pv 5) aB)) (aA (bX (eE (K:=K) rfl) rfl T.b_tuple bO (aA (pv 6) aB)) aB)))))))))),?_⟩
  refine mJ (t:=t) (sl:=sl) (H0:=H) (x:=1) (y:=2) (l:=0) (h:=most) (jY ⟨1,rfl,by omega,by omega⟩) (eZ (m:=most) rfl rfl (by omega) (by omega)) _ _ ⟨cO.refl _,tp⟩ ?_;rintro v H1 e1 _ ⟨n',rfl,n0,n1⟩;obtain⟨n,rfl⟩:=Int.eq_ofNat_of_zero_le (show 0<=n' by omega);refine d9 (t:=t) (sl:=sl) (H0:=H) (P:=cA 0 13) (fW (bK rfl (by decide) (by decide)) (Int.le_refl _) (by decide)) (bK rfl (by decide) (by decide)) (j8 (bK rfl (by decide) (by decide))) _ _ e1 ?_;rintro v H2 e2 _ ⟨m',rfl,m0,m1⟩;obtain⟨m,rfl⟩:=Int.eq_ofNat_of_zero_le m0;refine⟨_,rfl,_,rfl,by omega,by omega,?_⟩;refine t3 (n:=n) (λ D i r aa H'=>H2 D=none/\Ext t sl H H'/\H' D=some (.lst r)/\∃ vs:List Vs,vs.length=i/\L2.IsL K H' (vs.map rK) r/\(∀ v∈vs,VOk n m v)/\(∀ i v,vs[i]? = some v->VFull i v)/\∃ v0,aa=[v0,some (.ref t),some (.int (n:Int)),some (.int (m:Int)),some (.bl small)])
   (λ D hD=>⟨hD,e2.new hD,aF,[],rfl,.nil,(λ v hv=>nomatch hv),(λ i v hv=>by simp at hv),none,rfl⟩) ?_ ?_
  rotate_left
  ·rintro D i r aa H3 hi ⟨hD,e3,hl,vs,hlen,hvl,hok,hfu,v0,rfl⟩;refine jU ?_;refine⟨_,rfl,_,rfl,_,rfl,_,rfl,_,rfl,t,sl,i,n,m,small,rfl,e3.tp,hi,by omega,by omega,λ v p H4 e4 vok vfu hp=>?_⟩;have nD:D≠t:=e2.ne hD;have fD:H D=none:=e2.bt.free nD hD;have hl4:H4 D=some (.lst r):=e4.bt D _ nD hl;have hrl:r.length=vs.length:=by rw[hvl.length,aai]
   have mt:pJ (H4 D):=by rw[hl4];exact trivial
   refine⟨hl4,cR (by omega),hD,(e3.trans e4).put tp fD,aF,vs++[v],by simp [hlen],?_,?_,?_,_,rfl⟩
   ·rw[abi];exact L2.IsL.snoc (Is.mono (bW.put (bW.refl _) (.inr mt)) _ _ hp) (L2.IsL.mono (bW.put (e4.bt.ts e3.tp.mut) (.inr mt)) _ _ hvl)
   ·intro u hu;rcases aau.mp hu with hu | hu
    ·exact hok u hu
    ·rw[abc.mp hu];exact vok
   ·intro j u hu;rcases Nat.lt_or_ge j vs.length with hj | hj
    ·rw[List.getElem?_append_left hj] at hu;exact hfu j u hu
    ·rw[List.getElem?_append_right hj] at hu;have e0:j - vs.length=0:=by
      rcases Nat.eq_zero_or_pos (j - vs.length) with h | h
      ·exact h
      ·rw[List.getElem?_eq_none (show [v].length<=j - vs.length from h)] at hu;cases hu
     rw[e0] at hu;have e1:j=i:=by omega
     cases hu;rw[e1];exact vfu
  rintro D r aa H3 ⟨hD,e3,hl,vs,hlen,hvl,hok,hfu,_⟩;have nD:D≠t:=e2.ne hD;have fD:H D=none:=e2.bt.free nD hD;refine⟨aay _,λ fl hfl=>?_⟩;have nf:fl≠t:=e3.ne hfl;have ff:H fl=none:=e3.bt.free nf hfl;have nDf:D≠fl:=aN hl hfl;refine⟨_,rfl,_,rfl,by omega,by omega,?_⟩;refine eD (lo:=0) (n:=m) (λ j aa H'=>Ext t sl H H'/\H' D=some (.lst r)/\L2.IsL K H' (vs.map rK) r/\∃ (sps:List yX) (xs:List V),H' fl=some (.lst xs)/\L2.IsL K H' (sps.map u5) xs/\sps.length=j/\(∀ s∈sps,(0<=s.1/\s.1 < n)/\0<=s.2.1/\s.2.1<=60)/\
   ∃ v7 v8,aa=[some (.ref t),some (.int most),some (.bl small),some (.int (n:Int)),some (.int (m:Int)),some (.ref D),some (.ref fl),v7,v8]) ?_ ?_ ?_
  ·exact⟨e3.new hfl,by rw[aJ nDf];exact hl,L2.IsL.mono (aH.new hfl).ts _ _ hvl,[],[],aF,.nil,rfl,(λ s hs=>nomatch hs),none,none,rfl⟩
  ·rintro j aa H4 hj ⟨e4,hl4,hv4,sps,xs,hf4,hs4,hslen,hsok,v7,v8,rfl⟩;refine d9 (t:=t) (sl:=sl) (H0:=H) (P:=cA 0 61) (fW (bK rfl (by decide) (by decide)) (Int.le_refl _) (by decide))
    (fW (fA (lo:=4) (hi:=62) rfl (by decide) (by decide) (j7 rfl ⟨by decide,by decide⟩ ⟨by decide,by decide⟩)) (Int.le_refl _) (by decide)) (j8 (bK rfl (by decide) (by decide))) _ _ e4 ?_
   rintro v H5 e5 b5 ⟨flow,rfl,fl0,fl1⟩;have hf5:H5 fl=some (.lst xs):=b5 fl _ nf hf4;refine⟨_,rfl,.inl ⟨rfl,_,cG.of hf5⟩,?_⟩;refine eZ (t:=t) (sl:=sl) (H0:=H) (m:=(n:Int)) rfl rfl (by omega) (by omega) _ _ e5 ?_;rintro v H6 e6 b6 ⟨tg,rfl,tg0,tg1⟩;refine⟨_,rfl,?_⟩;refine xM (t:=t) (sl:=sl) (H0:=H) (bK rfl (by decide) (by decide)) _ _ e6 ?_;rintro v H7 e7 b7 ⟨dr,rfl⟩;refine⟨(show 3<=sizeLine by decide),λ q hq=>?_⟩;have b47:cO t H4 H7:=b5.trans (b6.trans b7);have hf7:H7 fl=some (.lst xs):=b47 fl _ nf hf4;have hl7:H7 D=some (.lst r):=b47 D _ nD hl4;have nq:fl≠q:=aN hf7 hq;have nDq:D≠q:=aN hl7 hq;have hxl:xs.length=sps.length:=by rw[hs4.length,aai]
   refine⟨fl,xs,_,rfl,rfl,by rw[aJ nq];exact hf7,cR (by omega),?_⟩;have mt:pJ (upd H7 q (.tup [.int tg,.int flow,.bl dr]) fl):=by rw[aJ nq,hf7];exact trivial
   have ts:bW K H4 (upd (upd H7 q (.tup [.int tg,.int flow,.bl dr])) fl (.lst (xs++[.ref q]))):=bW.put ((b47.trans (aH.new hq).but).ts e4.tp.mut) (.inr mt);refine⟨(e7.new hq).put tp ff,by rw[aJ nDf,aJ nDq];exact hl7,L2.IsL.mono ts _ _ hv4,sps++[(tg,flow,dr)],xs++[.ref q],aF,?_,by simp [hslen],?_,_,_,rfl⟩
   ·rw[abi];exact L2.IsL.snoc (Is.tupOf (ds:=[.int tg,.int flow,.bl dr]) (bW.put (bW.refl _) (.inr mt) _ _ (bU.of aF)) (.cons (Is.i _) (.cons (Is.i _) (.cons (Is.b _) .nil)))) (L2.IsL.mono ts _ _ hs4)
   ·intro s hs;rcases aau.mp hs with hs | hs
    ·exact hsok s hs
    ·rw[abc.mp hs];exact⟨⟨tg0,tg1⟩,fl0,show flow<=60 by omega⟩
  ·rintro aa H4 ⟨e4,hl4,hv4,sps,xs,hf4,hs4,hslen,hsok,v7,v8,rfl⟩;refine⟨_,rfl,D,_,rfl,.inl ⟨cG.of hl4,λ q1 hq1=>⟨_,rfl,fl,_,rfl,.inl ⟨cG.of (aH.new hq1 _ _ hf4),λ q2 hq2=>⟨(show 2<=sizeLine by decide),λ q3 hq3=>?_⟩⟩⟩⟩⟩;have m1:aH H4 (upd H4 q1 (.tup r)):=aH.new hq1;have m2:aH (upd H4 q1 (.tup r)) (upd (upd H4 q1 (.tup r)) q2 (.tup xs)):=aH.new hq2;have m3:aH (upd (upd H4 q1 (.tup r)) q2 (.tup xs)) (upd (upd (upd H4 q1 (.tup r)) q2 (.tup xs)) q3 (.tup [.ref q1,.ref q2])):=aH.new hq3;refine k ⟨vs,sps⟩ _ _ (((e4.new hq1).new hq2).new hq3) ⟨by show 1<=vs.length;omega,by show vs.length<=12;omega,by show sps.length<=12;omega,λ v hv=>by rw[hlen,hslen];exact hok v hv,λ s hs=>by rw[hlen];exact (hsok s hs).1⟩ ⟨hfu,λ s hs=>(hsok s hs).2⟩ (by show (vs.length:Int)<=most;omega) ?_;refine Is.tupOf (bU.of aF) (.cons (Is.tupOf (m3.tup (m2.tup (bU.of aF))) ?_) (.cons (Is.tupOf (m3.tup (bU.of aF)) ?_) .nil))
   ·exact L2.IsL.mono m3.ts _ _ (L2.IsL.mono m2.ts _ _ (L2.IsL.mono m1.ts _ _ hv4))
   ·exact L2.IsL.mono m3.ts _ _ (L2.IsL.mono m2.ts _ _ (L2.IsL.mono m1.ts _ _ hs4))
theorem wK:∀ n:Nat,(List.replicate n [V.int 0]).flatten=(List.replicate n (0:Int)).map V.int
 | 0=>rfl
 | n+1=>by rw[List.replicate_succ,List.replicate_succ,List.flatten_cons,wK n,abh];rfl
def fP (n:Nat):List Int:=List.replicate n 0
def lL (K:aaa):Sp:=λ args H Q _=>∃ (x:V) (net:Net),args=[x]/\Is K H (hX net) x/\NetOk net/\
 ∀ p H',aH H H'->Is K H' (stD (fP net.vs.length) (fP net.vs.length) (net.sps.map (·.2.2))) p->Q p H'
theorem eR:FnScope ["net","vessels","spouts","empty"] ["net"] (aK (bP 30)):={}
theorem jP {f:Addr}{fd:FuncData} (F:Fun K "first_state" "first_state" (bP 30) f fd) (T:Txt mg):FnOk P w K mg base fK 1 f fd ["net"] (lL K):=by
 refine F.ok eR (λ vs H Q E h=>?_) (λ cdv A outer s H vs Q E hr h=>?_)
 ·obtain⟨x,net,rfl,_⟩:=h;rfl
 ·obtain⟨x,net,rfl,hx,nok,k⟩:=h;have sc:=eR;refine⟨_,(aE (dQ (pv 0) (cQ (K:=K) (n:=2) rfl rfl (aT (gL 1 sc.nd) (aT (gL 2 sc.nd) cP))))
   (aE (pL 3 sc.nd (aS (sO (K:=K) rfl) (bE (aA aD aB)) (iY K T.b_len (pv 1))))
   (aG (aM (bE (aA (pv 3) (aA (pv 3) (aA (bX (eE (K:=K) rfl) rfl T.b_tuple bO (aA (kU (λ _ _ h=>h) rfl (LcOk.mk (N':=["target","flow","door"]) (fr:=[none,none,none]) rfl trivial rfl rfl rfl rfl rfl trivial) (cX (K:=K) rfl (pv 2)) (λ _ _ _=>(cQ (K:=K) (n:=3) rfl rfl (aT (gC 0 ["target","flow","door"]) (aT (gC 1 ["target","flow","door"]) (aT (gC 2 ["target","flow","door"]) cP))))) (λ _ _ _=>eH) (λ _ _ _=>(pv 2))) aB)) aB)))))))),?_⟩
  obtain⟨a,b,c,xs,ys,rfl,q,q1,l1,q2,l2⟩:=oV hx;have exl:xs.length=net.vs.length:=by rw[l1.length,aai]
  have eyl:ys.length=net.sps.length:=by rw[l2.length,aai]
  have n1:=nok.lo;have n2:=nok.hi;have n3:=nok.sp;refine⟨_,rfl,a,_,rfl,q,rfl,_,_,rfl,_,_,rfl,rfl,?_⟩;refine⟨(show 1<=sizeLine by decide),λ z hz=>⟨_,rfl,b,xs,rfl,.inr ((aH.new hz).tup q1),z,_,[.int 0],rfl,rfl,bU.of aF,by omega,by omega,by simp,by simp,λ e H1 sm1 qe=>?_⟩⟩;have s1:aH H H1:=(aH.new hz).trans sm1;have en:((xs.length:Nat):Int).toNat=net.vs.length:=by rw[exl];simp
  rw[en,wK] at qe;refine⟨_,rfl,_,rfl,_,rfl,c,rfl,⟨_,s1.tup q2⟩,pF (K:=K) (a:=c) (xs:=ys) (λ D i r aa H'=>H1 D=none/\aH H1 H'/\H' D=some (.lst r)/\r=((net.sps.take i).map (·.2.2)).map V.bl/\∃ u v w,aa=[u,v,w])
   (λ D i r aa H' p=>p.2.1.tup (s1.tup q2)) (λ D hD=>⟨hD,aH.new hD,aF,by simp,none,none,none,rfl⟩) ?_ ?_⟩
  rotate_left
  ·rintro D i x r aa H2 hx ⟨hD,sm,hDl,rfl,u,v,w',rfl⟩;obtain⟨sp,hsi,sa,rfl,qs⟩:=wG l2 hx;have hil:=(aaf.mp hsi).1;refine⟨sa,_,rfl,sm.tup (s1.tup qs),rfl,_,_,rfl,_,_,rfl,_,_,rfl,rfl,?_⟩;refine rO ⟨_,rfl,hDl,cR (by simp;omega),hD,sm.put hD,aF,?_,_,_,_,rfl⟩;rw[lJ hsi];simp
  ·rintro D r aa H2 ⟨hD,sm,hDl,rfl,_⟩;rw[eyl,ace] at hDl;refine⟨D,_,rfl,.inl ⟨cG.of hDl,λ d hd=>⟨(show 3<=sizeLine by decide),λ r hr'=>?_⟩⟩⟩;have m1:aH H2 (upd H2 d (.tup ((net.sps.map (·.2.2)).map V.bl))):=aH.new hd;have m2:aH (upd H2 d (.tup ((net.sps.map (·.2.2)).map V.bl))) (upd (upd H2 d (.tup ((net.sps.map (·.2.2)).map V.bl))) r (.tup [.ref e,.ref e,.ref d])):=aH.new hr';refine k _ _ (((s1.trans sm).trans m1).trans m2) (y6 (bU.of aF) ?_ ?_ (m2.tup (bU.of aF)))
   ·exact m2.tup (m1.tup (sm.tup qe))
   ·exact m2.tup (m1.tup (sm.tup qe))
def pP (K:aaa):Sp:=λ vs H Q _=>∃ (a:Addr) (ns:List Int),vs=[.ref a]/\cG K H a (ns.map V.int)/\ns.length<=63/\∀ H',Q (.bl true) H'
end Tw
namespace L2
open PySem PySem.Spec PyProof.Rows TwZ
section
variable {X:Cx}
theorem bR {x:Str}{v:V}{pos:Pos} (hg:Gl X x) (h:∃ u,X.mg x=some u/\bD v u) (hd:(x == ("__debug__" : Str))=false:=by decide):PE X (.Name x pos) (tC v):=by
 obtain⟨u,e,r⟩:=h;exact uL hg e r hd
end
theorem xK {c A B:Prop} [Decidable c] (hc:c) (h:A):if decide c=true then A else B:=by
 rw[if_pos (aax hc)];exact h
end L2
namespace Tw
open PySem L2
structure TxtN (K:aaa) (mg:Str->Option Value) (aw:Addr):Prop where
 g_MOST_VESSELS:∃ u,mg "MOST_VESSELS" = some u/\bD (.int 12) u
 g_MOST_SPOUTS:∃ u,mg "MOST_SPOUTS" = some u/\bD (.int 12) u
 g_MOST_SIZE:∃ u,mg "MOST_SIZE" = some u/\bD (.int 60) u
 g_MOST_BRIM:∃ u,mg "MOST_BRIM" = some u/\bD (.int 200) u
 g_MOST_OUTS:∃ u,mg "MOST_OUTS" = some u/\bD (.int 3) u
 g_MOST_PARTS:∃ u,mg "MOST_PARTS" = some u/\bD (.int 60) u
 g_MOST_ACTS:∃ u,mg "MOST_ACTS" = some u/\bD (.int 3) u
 g_MOST_FLOW:∃ u,mg "MOST_FLOW" = some u/\bD (.int 60) u
 g_ACT_WORDS:∃ u,mg "ACT_WORDS" = some u/\bD (.ref aw) u
 words:∀ H,bU K H aw [.str "open",.str "shut",.str "turn"]
section
variable {aw:Addr}
theorem iE:FnScope ["thing","least","most"] ["thing","least","most"] (aK (bP 27)):={}
theorem iD:FnScope ["thing","least","most"] ["thing","least","most"] (aK (bP 28)):={}
theorem kR:FnScope ["thing","vessel_count","target","parts"] ["thing","vessel_count"] (aK (bP 23)):={}
theorem kT:FnScope ["thing","spout_count","word","spout"] ["thing","spout_count"] (aK (bP 24)):={}
theorem iF:FnScope ["thing","vessel_count","target","flow","door"] ["thing","vessel_count"] (aK (bP 25)):={}
theorem gE:FnScope ["thing","number","vessel_count","spout_count","size","brim","outs","holds","spill","acts"] ["thing","number","vessel_count","spout_count"] (aK (bP 22)):={}
theorem kS:FnScope ["thing","vessels","spouts","number","vessel"] ["thing"] (aK (bP 21)):={}
end
end Tw
namespace L2
open PySem PySem.Spec PyProof.Rows TwZ
theorem cJ.some {P:Program}{w:World}{H:Hp}{h:Heap}{a:Addr}{o:HO} (x:cJ P w H h a o):∃ ob,h.get? a=some ob:=by
 cases o with
 | lst xs=>obtain⟨_,_,_,_,e⟩:=x;exact⟨_,e⟩
 | tup xs=>obtain⟨_,_,_,ob,e,_⟩:=x;exact⟨_,e⟩
 | dK kvs=>obtain⟨_,_,_,_,o,_,_,e,_⟩:=x;exact⟨_,e⟩
 | dT kvs=>obtain⟨_,_,_,_,o,_,_,e,_⟩:=x;exact⟨_,e⟩
 | set S n=>obtain⟨o,_,_,_,e,_⟩:=x;exact⟨_,e⟩
 | ins C dx fs=>obtain⟨_,_,_,e,_⟩:=x;exact⟨_,e⟩
 | own y=>obtain⟨_,e⟩:=x;exact⟨_,e⟩
 | xd fs=>obtain⟨_,⟨_,_,_,e,_⟩,_⟩:=x;exact⟨_,e⟩
 | rng lo hi=>obtain⟨_,_,_,e⟩:=x;exact⟨_,e⟩
 | frz ob u=>obtain⟨e,_⟩:=x;exact⟨_,e⟩
 | tbl ps=>exact⟨_,(show h.get? a=Option.some _ from x)⟩
 | met f y=>exact⟨_,(show h.get? a=Option.some _ from x)⟩
 | ext cj=>obtain⟨_,⟨_,e⟩,_⟩:=x;exact⟨_,e⟩
structure Fly (P:Program) (w:World) (stack:List Env) (H:Hp) (h:Heap) (ea:Addr) (cls a0:Value) (H':Hp) (h' B:Heap):Prop where
 fl:Heap.FlyingW B stack ea cls a0 h'
 keep:∀ b o,h.get? b=some o->H b=none->b∉iU stack->B.get? b=some o
 slot:∀ b o,h.get? b=some o->H b=none->b∈iU stack->∃ sl,h'.get? b=some { o with slots:=sl }
 free:∀ b o,h.get? b=some o->H b=none->H' b=none
 there:∀ b o,h.get? b=some o->b∉iU stack->∃ o',B.get? b=some o'
 tups:∀ b xs,H b=some (.tup xs)->H' b=some (.tup xs)
 frzs:∀ b o u,H b=some (.frz o u)->H' b=some (.frz o u)
 tbls:∀ b ps,H b=some (.tbl ps)->∃ more,H' b=some (.tbl (ps++more))
 hok:iV P w H' B
def vL (P:Program) (w:World):rJ:=λ outer H s E e s'=>∃ (ea:Addr) (cls a0:Value) (H':Hp) (B:Heap),e=.ref ea/\s'.os=s.os/\AllBare s'.gens/\Fly P w outer H s.heap ea cls a0 H' s'.heap B/\E cls none H'
structure Leaves (X:Cx) (E:XK):Prop where
 stk:X.stack=X.env::X.outer
 fr:X.env.frame=some X.env.locals
 ex:X.ex=[]
 xe:∀ e s',wpAny (model X.prog X.w) X.A (leaving X.env e) (λ _ s''=>vL X.prog X.w X.outer X.H₀ X.s₀ E e s'') (λ e' s''=>vL X.prog X.w X.outer X.H₀ X.s₀ E e' s'') s'->X.xe e s'
section
variable {X:Cx}{pins:List (Addr×Obj)}{σ:St}{H H':Hp}{s s':Shared}{E:XK}
theorem uV {l:List Env}{b:Addr}{env:Env} (he:env∈l) (hf:env.frame=some b):b∈iU l:=List.mem_filterMap.mpr ⟨env,he,hf⟩
theorem mC {l:List Env}{b L:Addr}{env:Env} (hf:env.frame=some L) (h:b∈iU (env::l)):b=L\/b∈iU l:=by
 unfold iU at h ⊢;rw[List.filterMap_cons,hf] at h;exact aas.1 h
theorem sC {h':Heap}{ea:Addr}{cls:Value}{vs:List Value} (L:Leaves X E) (I:Inv X pins σ H s) (hx:Heap.MadeExcOf s.heap h' ea cls vs) (hE:E cls none H):X.xe (.ref ea) { s with heap:=h' }:=by
 refine L.xe _ _ ?_;have fr:X.A.frames=some (X.env::X.outer):=by rw[<- L.stk];exact I.ok.frames
 have hs:s.heap.FunFrames X.base (X.env::X.outer):=by rw[<- L.stk];exact I.stack
 have hfree:∀ b∈iU (X.env::X.outer),H b=none:=by rw[<- L.stk];exact I.stkFree
 have nex:∀ b:Addr,b∉X.ex:=λ b z=>by rw[L.ex] at z;cases z
 have out:∀ b o,X.s₀.heap.get? b=some o->b∉iU X.outer->b∉iU (X.env::X.outer):=λ b o e hb z=>by
  rcases mC L.fr z with z | z
  ·exact absurd (aak (aal e) I.ok.above) (by rw[z];exact abn _)
  ·exact hb z
 refine wpAny_leaves_madeW (base:=PySem.W.hideAll s.heap (iU (X.env::X.outer))) fr L.fr (λ b o q=>PySem.W.of_hideAll _ q) (PySem.W.funFrames_hide hs λ env he a hf=>uV he hf) hx λ h2 t x1 x2 x3 x4=>?_;refine⟨ea,cls,.ref t,H,_,rfl,I.os,I.bare,⟨x1,λ b o e n hb=>?_,λ b o e n hb=>?_,λ b o e n=>I.base.free b o e n (nex b),λ b o e hb=>?_,I.base.tups,I.base.frzs,I.base.tbls,λ a o e=>?_⟩,hE⟩
 ·exact PySem.W.hideAll_get _ (I.base.keep b o e n hb (nex b)) (out b o e hb)
 ·obtain⟨sl,e1⟩:=I.base.slot b o e n hb (nex b);obtain⟨_,o',ho',hd⟩:=I.ok.funs.mem hb;rw[e] at ho';cases ho';obtain⟨sl',e2⟩:=x4 b _ (hx.keeps _ _ e1) hd;exact⟨sl',e2⟩
 ·obtain⟨o',e1⟩:=I.base.there b o e (nex b);exact⟨o',PySem.W.hideAll_get _ e1 (out b o e hb)⟩
 ·refine (I.hok a o e).stay (λ b u hb q=>PySem.W.hideAll_get _ q λ z=>?_) (λ _ q=>q) λ _ _ q=>q;have:=hfree b z;rcases hb with rfl | hb
  ·rw[e] at this;cases this
  ·rw[hb] at this;cases this
def r8 (ea:Addr) (cls:Value):HO:=.ext λ h=>∃ o,h.get? ea=some o/\o.cls=cls
theorem Inv.caught {ea:Addr}{cls a0:Value}{B:Heap} (I:Inv X pins σ H s) (os:s'.os=s.os) (bare:AllBare s'.gens) (F:Fly X.prog X.w X.stack H s.heap ea cls a0 H' s'.heap B):H' ea=none/\Inv X pins σ (upd H' ea (r8 ea cls)) s':=by
 obtain⟨ob,hob,hcls⟩:=F.fl.there;obtain⟨oe,vs,hoe,_,hfd,_⟩:=F.fl.first
 have hea:H' ea=none:=by
  cases q:H' ea with
  | none=>rfl
  | some o=>
   obtain⟨o',e⟩:=(F.hok ea o q).some;rw[F.fl.2.1] at e;cases e
 have frne:∀ b∈iU X.stack,b≠ea:=λ b hb z=>by
  obtain⟨_,o',ho',hd⟩:=F.fl.2.2.1.mem hb;rw[z,hoe] at ho';cases ho';exact hd _ hfd
 have ne:∀ b o,s.heap.get? b=some o->b≠ea:=λ b o e z=>by
  by_cases hb:b∈iU X.stack
  ·exact frne b hb z
  ·obtain⟨o',e'⟩:=F.there b o e hb;rw[z,F.fl.2.1] at e';cases e'
 have kb:∀ b u,B.get? b=some u->s'.heap.get? b=some u:=F.fl.1;refine⟨hea,I.call' (ch:=[]) os ⟨λ b o e n hb _=>kb _ _ (F.keep b o e n hb),λ b o e n hb _=>F.slot b o e n hb,λ b o e n _=>?_,λ b o e _=>?_,λ b xs e=>?_,λ b o u e=>?_,λ b ps e=>?_⟩ (λ b u e=>?_) bare (λ b z=>absurd z (by simp))⟩
 ·rw[aJ (ne b o e)];exact F.free b o e n
 ·by_cases hb:b∈iU X.stack
  ·obtain⟨_,o',ho',_⟩:=F.fl.2.2.1.mem hb;exact⟨o',ho'⟩
  ·obtain⟨o',e'⟩:=F.there b o e hb;exact⟨o',kb _ _ e'⟩
 ·have:=F.tups b xs e;rw[aJ (aN this hea)];exact this
 ·have:=F.frzs b o u e;rw[aJ (aN this hea)];exact this
 ·obtain⟨m,e1⟩:=F.tbls b ps e;exact⟨m,by rw[aJ (aN e1 hea)];exact e1⟩
 ·by_cases hb:b=ea
  ·subst hb;rw[aF] at e;cases e;exact⟨⟨ob,hob,hcls⟩,⟨ob,hob⟩,λ h1 h2 ⟨o,e1,e2⟩ k=>⟨o,k _ e1,e2⟩⟩
  ·rw[aJ hb] at e;exact (F.hok b u e).stay (λ c v _ q=>kb c v q) (λ c q=>by rw[aJ (aN q hea)];exact q) λ c xs q=>by rw[aJ (aN q hea)];exact q
def wE (E:XK) (C:Addr) (t:TA):TS:=λ _ σ H=>t σ H λ vs H1=>vs.length<=100/\E (.ref C) none H1
theorem sG {x:Str}{C:Addr}{bm:List Value}{newId initId B:String}{np cpos pos:Pos}{cf:Expr}{rest:List Expr}{t:TA} (L:Leaves X E) (hc:X.calm=true) (hg:Gl X x) (O:PySem.W.excIn X.K C bm newId=true) (hm:PySem.W.nsIn X.K mainGlobals x=some (some (.ref C))) (FB:ExcBaseFacts B newId initId bm) (ha:PA X (cf::rest) t)
  (he:starEach (cf::rest) X.env=(false,eval cf X.env)::starEach rest X.env:=by rfl) (hplain:(backTo cpos (starEach rest X.env)).any (·.1)=false:=by rfl) (hd:(x == ("__debug__" : Str))=false:=by decide) :
  PS X (.Raise (some (.Call (.Name x np) (cf::rest) [] cpos)) none pos) (wE E C t):=by
 intro pins s σ H D I h;have G:X.mg x=some (.ref C):=aae I.ok.mod.kin I.ok.mod.glob hm;have ocl:OwnCls x C bm newId X.mg X.base:=by
  refine⟨G,?_⟩;have q:=O;unfold PySem.W.excIn at q
  split at q
  ·rename_i dd cd sl ho
   split at q
   ·rename_i C' bm' k0 k1 k2 k3 n k5 hm' hs
    simp only [Bool.and_eq_true,Bool.not_eq_true',beq_iff_eq] at q;obtain⟨⟨⟨⟨⟨rfl,rfl⟩,hdel⟩,ht⟩,hok⟩,hni⟩:=q;obtain⟨nm,bs,mro,ns,qn,hd',sn,sub,ab,col,del⟩:=cd;dsimp only at hm' hdel hok hni;subst hm' hdel;have hsl:sl = #[k0,k1,k2,k3,some (.builtin n),k5]:=by obtain⟨l⟩:=sl;simp only at hs;rw[hs]
    subst hsl;exact⟨bm',ns,nm,qn,bs,hd',sn,sub,ab,col,dd,k0,k1,k2,k3,k5,_,I.ok.mod.kin _ _ ho,.of_isNs (PySem.W.isNs_of_in I.ok.mod.kin hok),PySem.W.nsMap_none_of_in I.ok.mod.kin hok hni,PySem.W.tail_of_in I.ok.mod.kin ht⟩
   ·cases q
  ·cases q
 obtain⟨tl,N,nm,q,bs,hdct,sn,sub,ab,col,dd,k0,k1,k2,k3,k5,mN,hC,hN,hni,T⟩:=ocl.obj;refine wpAny_Raise_call_subT (C:=C) (nm:=nm) (q:=q) (N:=N) (bs:=bs) (bm:=tl) (hdct:=hdct) (sn:=sn) (sub:=sub) (ab:=ab) (col:=col) (dd:=dd) (k0:=k0) (k1:=k1) (k2:=k2) (k3:=k3) (k5:=k5) FB (mN:=mN) (T.hasType FB.hasBase) (I.ok.hd hc) (by rw[he];show (false || (backTo cpos (starEach rest X.env)).any (·.1))=false;rw[hplain];rfl) hni (gU I hg G ⟨rfl,?_⟩ hd);have ha':=ha cpos pins s σ H _ I h;rw[he] at ha' ⊢;refine Calls.evalArgs_plain (aba ha' (λ us bf ⟨vs,H1,I1,r1,hlen,hE⟩=>⟨rfl,?_,I1.bk _ _ hC,hN.keeps I1.bk,T.keeps I1.bk,λ h' e hme=>sC L I1 hme hE⟩) λ _ _ y=>y);have:=r1.length;show us.length<=sizeLine;rw[sizeLine_eq];omega
end
abbrev Cx.within (X:Cx) (pn:List (Addr×Obj)) (E:Value->Shared->Prop):Cx:={ X with pn:=pn,xe:=E }
abbrev Cx.caughtIn (X:Cx) (ea:Addr):Cx:={ X with A:=X.A.mark (some (.ref ea)),calm:=false,xe:=λ _ _=>False }
section
variable {X:Cx}{pins:List (Addr×Obj)}{σ:St}{H:Hp}{s:Shared}{pn:List (Addr×Obj)}{E:Value->Shared->Prop}{ea:Addr}
theorem Cx.Ok.within (ok:X.Ok):(X.within pn E).Ok:=
 ⟨ok.mod,ok.kind,ok.glob,ok.blt,ok.above,ok.inj,ok.has,ok.cab,ok.hd,ok.frames,ok.stk,ok.exf,ok.bs,ok.bsz,ok.noex,ok.exfs,ok.funs,ok.frf⟩
theorem Cx.Ok.unwithin (ok:(X.within pn E).Ok):X.Ok:=
 ⟨ok.mod,ok.kind,ok.glob,ok.blt,ok.above,ok.inj,ok.has,ok.cab,ok.hd,ok.frames,ok.stk,ok.exf,ok.bs,ok.bsz,ok.noex,ok.exfs,ok.funs,ok.frf⟩
theorem Inv.within (I:Inv X pins σ H s):Inv (X.within (X.pn++pins) E) [] σ H s:=
 ⟨I.ok.within,I.os,I.bare,I.base,I.loc,I.cell,I.free,I.freeC,λ p hp=>I.pin p (by simpa using hp),I.hok,I.len⟩
theorem Inv.unwithin {p2:List (Addr×Obj)} (I:Inv (X.within (X.pn++pins) E) p2 σ H s):Inv X pins σ H s:=
 ⟨I.ok.unwithin,I.os,I.bare,I.base,I.loc,I.cell,I.free,I.freeC,λ p hp=>I.pin p (abu _ hp),I.hok,I.len⟩
theorem Inv.mark (I:Inv X pins σ H s):Inv (X.caughtIn ea) pins σ H s:=
 ⟨⟨I.ok.mod,I.ok.kind,I.ok.glob,I.ok.blt,I.ok.above,I.ok.inj,I.ok.has,I.ok.cab,λ z=>Bool.noConfusion z,I.ok.frames,I.ok.stk,I.ok.exf,I.ok.bs,I.ok.bsz,I.ok.noex,I.ok.exfs,I.ok.funs,I.ok.frf⟩,I.os,I.bare,I.base,I.loc,I.cell,I.free,I.freeC,I.pin,I.hok,I.len⟩
theorem Inv.unmark (ok:X.Ok) (I:Inv (X.caughtIn ea) pins σ H s):Inv X pins σ H s:=
 ⟨ok,I.os,I.bare,I.base,I.loc,I.cell,I.free,I.freeC,I.pin,I.hok,I.len⟩
theorem sX {M:Model}{A:Around}{E:Value->Shared->Prop}{i:Nat}{n:Str}{pos:Pos}{Q:Unit->Shared->Prop} (I:Inv X pins σ H s) (hN:X.N.Nodup) (hi:X.N[i]? = some n) (hk:X.env.scope.names.lookup n=some .local)
  (h:∀ s',Inv X pins (σ.set i none) H s'->Q () s'):wpAny M A (do bindName X.env n .none;unbindBehindTheSuite X.env n pos) Q E s:=by
 obtain⟨m,hn,hl⟩:=id I.loc;have hcls:(X.env.scope.kind == .class || (X.env.scope.kind == .module && X.env.locals != X.env.globals))=false:=by rw[I.ok.kind];rfl
 have hlo:X.env.kindOf n=some .local:=hk;have bv:i < σ.length:=by rw[I.len];exact (aaf.mp hi).1
 refine aab (wpAny_bindName (wpAny_storeName_local hk hn (λ ag hn₁ ak=>?_) hcls));unfold unbindBehindTheSuite;refine wpAny_onRaise ?_;unfold unbindName;refine aab (wpAny_point (aab ?_));unfold deleteName;simp only [hlo,hcls];rw[if_neg (by decide)];refine aab (wpAny_nsDel_keeps hn₁ λ aq v hn₂ ap=>?_);simp only [if_true,Option.isSome_some,Bool.not_true,Bool.false_eq_true,if_false];have hs:=ak.trans ap;obtain⟨oL,_,_,hoL,_⟩:=id hn;have cne:=I.cne;refine aah (wpAny_point (h _ ⟨I.ok,I.os,I.bare,⟨λ b o e n hb hx=>?_,λ b o e n hb hx=>?_,I.base.free,λ b o e hx=>?_,I.base.tups,I.base.frzs,I.base.tbls⟩,⟨_,hn₂,λ j y v' e1 e2 e3=>?_⟩,λ y c e=>?_,I.free,I.freeC,λ p hp=>?_,λ b ob e=>?_,by simpa using I.len⟩))
 ·exact (hs.2 b (aar (aak (aal e) I.ok.above))).trans (I.base.keep b o e n hb hx)
 ·obtain⟨sl,e1⟩:=I.base.slot b o e n hb hx;exact⟨sl,(hs.2 b (aar (aak (aal e) I.ok.above))).trans e1⟩
 ·obtain⟨o',e1⟩:=I.base.there b o e hx;exact⟨o',(hs.2 b (aar (aak (aal e) I.ok.above))).trans e1⟩
 ·by_cases hj:j=i
  ·subst hj;rw[abx bv] at e2;cases e2
  ·rw[acf (Ne.symm hj)] at e2;obtain⟨u',r',q⟩:=hl j y v' e1 e2 e3;refine⟨u',r',?_⟩;rcases q with ⟨k,e⟩ | ⟨k,c,e,z⟩
   ·refine .inl ⟨k,?_⟩;have:y≠n:=λ e=>hj (jT hN e1 (e ▸ hi));simp [this,e]
   ·exact .inr ⟨k,c,e,z.sameBut hs (cne y c e)⟩
 ·obtain⟨w',z⟩:=I.cell y c e;exact⟨w',z.sameBut hs (cne y c e)⟩
 ·obtain⟨e,n,ne,nf,d⟩:=I.pin p hp;exact⟨(hs.2 p.1 ne).trans e,n,ne,nf,d⟩
 ·refine (I.hok b ob e).stay (λ c w' hc q=>(hs.2 c ?_).trans q) (λ _ q=>q) λ _ _ q=>q;rintro rfl;rcases hc with rfl | hc
  ·rw[I.free] at e;cases e
  ·rw[I.free] at hc;cases hc
def tTry (K:aaa) (E:XK) (CT:Addr) (k i:Nat) (tb ts:TS):TS:=λ D σ H=>tb D σ H/\
 ∀ (cls:Value) (H':Hp) (ea:Addr) (aa:St),E cls none H'->aa.length=k->H' ea=none->PySem.W.exmOne K cls (.ref CT)=some true/\
  ts { nx:=λ ah H2=>D.nx (ah.set i none) H2,rt:=λ _ _=>False } (aa.set i (some (.ref ea))) (upd H' ea (r8 ea cls))
theorem wR {EX:XK}{CT:Addr}{x n:Str}{i:Nat}{body suite:List Stmt}{cz:Stmt}{np hpos pos:Pos}{tb ts:TS} (hstk:X.stack=X.env::X.outer) (hfr:X.env.frame=some X.env.locals)
  (hb:∀ (pn:List (Addr×Obj)) (xe:Value->Shared->Prop),g8 (vL X.prog X.w) (X.within pn xe) EX->nY (X.within pn xe) body tb)
  (hg:Gl X x) (hm:X.mg x=some (.ref CT)) (hN:X.N.Nodup) (hi:X.N[i]? = some n) (hk:X.env.scope.names.lookup n=some .local)
  (hs:∀ ea:Addr,nY (X.caughtIn ea) (cz::suite) ts) (hd:(x == ("__debug__" : Str))=false:=by decide) :
  PS X (.Try body [.ExceptHandler (some (.Name x np)) (some n) (cz::suite) hpos] [] [] pos) (tTry X.K EX CT X.N.length i tb ts):=by
 intro pins s σ H D I h;obtain⟨h1,h2⟩:=h;refine wpAny_Try_except ?_;let XE:Value->Shared->Prop:=λ e s'=>∃ (σ:St) (H:Hp) (s:Shared) (ea:Addr) (cls a0:Value) (H':Hp) (B:Heap),e=.ref ea/\Inv X pins σ H s/\s'.os=s.os/\AllBare s'.gens/\Fly X.prog X.w X.stack H s.heap ea cls a0 H' s'.heap B/\EX cls none H';have hpass:g8 (vL X.prog X.w) (X.within (X.pn++pins) XE) EX:=by
  intro p2 σ H s e s' J hx;obtain⟨ea,cls,a0,H',B,rfl,os,bare,F,hE⟩:=hx;exact⟨σ,H,s,ea,cls,a0,H',B,rfl,J.unwithin,os,bare,F,hE⟩
 refine aba (hb (X.pn++pins) XE hpass [] s σ H D I.within h1) (λ f ad hf=>?_) λ e ad hx=>?_
 ·cases f with
  | next=>
   obtain⟨aa,H',J,q⟩:=hf;exact aP pins ad aa H' D J.unwithin q
  | brk=>obtain⟨aa,H',J,q⟩:=hf;exact⟨aa,H',J.unwithin,q⟩
  | cont=>obtain⟨aa,H',J,q⟩:=hf;exact⟨aa,H',J.unwithin,q⟩
  | ret u=>obtain⟨v,aa,H',J,r,q⟩:=hf;exact⟨v,aa,H',J.unwithin,r,q⟩
 ·obtain⟨aa,H0,s0,ea,cls,a0,H',B,rfl,J,os,bare,F,hE⟩:=hx;have fr:X.A.frames=some (X.env::X.outer):=by rw[<- hstk];exact I.ok.frames
  have again:∀ h',Heap.FlyingW B X.stack ea cls a0 h'->ad.heap.UpToSlots h'->Fly X.prog X.w X.stack H0 s0.heap ea cls a0 H' h' B:=λ h' fl sm=>
   ⟨fl,F.keep,λ b o e n hb=>by
    obtain⟨sl,e1⟩:=F.slot b o e n hb;obtain⟨_,o',ho',hd⟩:=J.stack.mem hb;rw[e] at ho';cases ho';obtain⟨sl',e2⟩:=sm b _ e1 hd;exact⟨sl',e2⟩,F.free,F.there,F.tups,F.frzs,F.tbls,F.hok⟩
  refine wpAny_looks_onW fr hfr (by rw[<- hstk];exact F.fl) λ bb cu cq=>?_;refine wpAny_landsW cu λ aj cg cr=>?_;have F5:=again aj (by rw[hstk];exact cg) (cq.trans cr);obtain⟨hea,J5⟩:=J.caught (s':={ ad with heap:=aj }) os bare F5;have hlen:aa.length=X.N.length:=J.len;obtain⟨hmat,hts⟩:=h2 cls H' ea aa hE hlen hea;refine wpAny_handleBy_cons (codeAny_handlers_test (gU (X:=X.caughtIn ea) J5.mark hg hm ?_ hd)) (by intro q;cases q);obtain⟨ob,hob,hobc⟩:=cg.there;have LT0:PySem.W.Looks (model X.prog X.w) aj (typeOf (.ref ea)) ob.cls:=(PySem.W.Looks.ld hob).andThen .now;have LT:PySem.W.Looks (model X.prog X.w) aj (typeOf (.ref ea)) cls:=by rw[<- hobc];exact LT0
  refine (PySem.W.exm_one (M:=model X.prog X.w) J5.kIn LT hmat).here ?_;refine codeAny_handlers_suite_as (lands_againW cg λ bq fl₆ sm₆=>?_);have F6:=again bq (by rw[hstk];exact fl₆) ((cq.trans cr).trans sm₆);obtain⟨_,J6⟩:=J.caught (s':={ ad with heap:=bq }) os bare F6;refine jF (X:=X.caughtIn ea) J6.mark hN hi (.inl hk) (v:=.ref ea) rfl (λ s7 J7=>?_) (.inr hk);refine aba (hs ea pins s7 _ _ _ J7 hts) (λ f s8 hf=>?_) λ _ _ z=>False.elim z;cases f with
  | next=>
   obtain⟨bc,H8,J8,q⟩:=hf;exact sX (J8.unmark I.ok) hN hi hk λ s9 J9=>⟨_,_,J9,q⟩
  | brk=>obtain⟨_,_,_,q⟩:=hf;exact False.elim q
  | cont=>obtain⟨_,_,_,q⟩:=hf;exact False.elim q
  | ret u=>obtain⟨_,_,_,_,_,q⟩:=hf;exact False.elim q
end
end L2
namespace L2
open PySem PySem.Spec PyProof.Rows TwZ PySem.Builtin PySem.Builtin.ObjectAttr PySem.Builtin.Getset_descriptor
structure ExcKit (K:aaa) (D:Addr):Prop where
 ga:PySem.W.findIn K (.ref D) "__getattribute__" = some (some (.builtin "BaseException.__getattribute__"))
 gt:PySem.W.findIn K (.ref D) "__getattr__" = some none
 ca:PySem.W.findIn K (.ref D) "__class__" = some (some (.builtin "object.__class__"))
 gg:PySem.W.specialIn K (.builtin "object.__class__") "__get__" = some (some (.builtin "getset_descriptor.__get__"))
 tk:PySem.W.takesIn K (.builtin "object.__class__")=some true
 mo:PySem.W.mroIn K D (.type "object")=some true
 mb:PySem.W.mroIn K D (.type "BaseException")=some true
def qL (x D:Addr) (h:Heap):Prop:=∃ o,h.get? x=some o/\o.cls=.ref D
theorem qL.ty {x D:Addr}{h:Heap} (p:qL x D h) (M:Model):PySem.W.Looks M h (typeOf (.ref x)) (.ref D):=by
 obtain⟨o,h1,h2⟩:=p;exact h2 ▸ (PySem.W.Looks.ld h1).andThen .now
section
variable {prog:Program}{x D:Addr}
theorem tW {M:Model}{A:Around}{E:Value->Shared->Prop}{s:Shared} (nameV:Value) {Q:Unit->Shared->Prop} (L0:PySem.W.Looks M s.heap (typeOf (.ref x)) (.ref D)) (LB:PySem.W.Looks M s.heap (isSubtype (.ref D) (.type "BaseException")) true) (hq:Q () s) :
  wpAny M A (checkBuiltinCall "BaseException.__getattribute__" ⟨[.ref x,nameV],[]⟩) Q E s:=by
 obtain⟨h,g,d,t,os⟩:=s;have hk:builtinKind "BaseException.__getattribute__" = some .slot:=by decide +kernel
 have hsplit:splitId "BaseException.__getattribute__" = some ("BaseException","__getattribute__"):=by decide +kernel
 have ha:=PySem.F.args_bexc_ga (.ref x) nameV;simp only [checkBuiltinCall,hk,hsplit];refine aab ?_;unfold isInstance
 repeat (first | with_reducible refine L0.at ?_ | with_reducible refine LB.at ?_ | wp_step)
 exact hq
theorem r6 {A:Around}{E:Value->Shared->Prop}{s:Shared}{Q:Option Value->Shared->Prop} (Z:ExcKit K D) (X:K.In s.heap) (p:qL x D s.heap) (hq:Q (some (.ref D)) { s with toks:=s.toks+1 }):wpAny (model prog w) A (getAttr? (.ref x) "__class__") Q E s:=by
 obtain⟨hh,g,d,t,os⟩:=s;have L0:=p.ty (model prog w);have L1:=PySem.W.looks_findIn (M:=model prog w) X Z.ga;have L2:=PySem.W.looks_findIn (M:=model prog w) X Z.gt;have L3:=PySem.W.looks_findIn (M:=model prog w) X Z.ca;have L4:PySem.W.Looks (model prog w) hh (getOf (some (.builtin "object.__class__"))) (some (.builtin "getset_descriptor.__get__")):=PySem.W.looks_specialIn X Z.gg;have L5:=PySem.W.looks_takesIn (M:=model prog w) X Z.tk;have L6:=PySem.W.looks_mroIn (M:=model prog w) X Z.mo;have LF:PySem.W.Looks (model prog w) hh (find (.ref x) (.ref D) "__class__") (.bind (.builtin "getset_descriptor.__get__") (.builtin "object.__class__")):=
  L3.andThen (L4.andThen ((show PySem.W.Looks (model prog w) hh (dataDescriptor? (some (.builtin "object.__class__")) (some (.builtin "getset_descriptor.__get__"))) (some (.builtin "getset_descriptor.__get__",.builtin "object.__class__")) from L5.andThen .now).andThen (PySem.W.Looks.tag .now)))
 have LB:=PySem.W.looks_mroIn (M:=model prog w) X Z.mb;have hk:builtinKind "BaseException.__getattribute__" = some .slot:=by decide +kernel
 have hsplit:splitId "BaseException.__getattribute__" = some ("BaseException","__getattribute__"):=by decide +kernel
 have hx2:(Value.builtin "BaseException.__getattribute__" == Value.builtin "object.__getattribute__")=false:=by decide +kernel
 unfold getAttr? getAttrBy? getAttrBy;refine aab (wpAny_mkText (aab (wpAny_attempt (abq (aab (L0.at (aab (L1.at ?_))))))));simp only [hx2,Bool.and_false,Bool.false_eq_true,if_false];unfold getAttrByItsOwn hookBefore;refine aab ?_;rw[show onTheHeap (Value.ref D)=true from rfl,if_pos rfl];refine L2.at (aab (wpAny_attempt (abq ?_)));unfold callGetattribute boundAndCalled;rw[if_neg (by decide)];refine aab (wpAny_of_eq (PySem.F.excAttr_ValueError.ga.bind (.ref x)) ?_);show wpAny _ _ (call (.builtin "BaseException.__getattribute__") [.ref x,.str "__class__" t]) _ _ _;refine wpAny_call (codeAny_call_builtin PySem.F.excAttr_ValueError.ga.plain PySem.F.entry_bexc_ga ?_);refine tW (.str "__class__" t) L0 LB ?_;unfold Builtin.«object.__getattribute__»;refine aab (aah ?_);refine aab (aah ?_);refine aab (L0.at (aab (LF.at ?_)));show wpAny _ _ (holding [.builtin "object.__class__"] (call (.builtin "getset_descriptor.__get__") [.builtin "object.__class__",.ref x,.ref D]) >>= ret) _ _ _;refine aab (abq (wpAny_call ?_));refine codeAny_call_builtin PySem.W.KF.slot_gs.plain PySem.W.KF.entry_gs (PySem.W.KF.slot_gs.check _ _ _ _ _ _ _ _ PySem.W.KF.type_class (PySem.W.KF.args_gs _ _ _) ?_);unfold Builtin.«getset_descriptor.__get__» descrGet;rw[PySem.W.dga_obj];refine aab (aah ?_);unfold descrGetter descrCheckInstance descrNameAndClass isInstance;simp only [PySem.W.KF.owner_class];repeat lk
 refine⟨Code.quiet_builtin _ (by decide +kernel),codeAny_builtin PySem.W.KF.entry_class ?_⟩;unfold Builtin.«object.__class__» shownTypeOf;repeat lk
 exact hq
theorem t8 (Z:ExcKit K D) (hcl:∃ c d cd sl,K.lookup D=some ⟨c,d,.cls cd,sl⟩):PySem.W.KitX K (.ref x) (.ref D) (qL x D) where
 ty:=λ M _ _ p=>p.ty M
 it:=λ _ _ X _=>by
  obtain⟨c',d',cd',sl',ho⟩:=hcl;intro A' Q' E' s' k q;unfold isType loadHead;exact aab (wpAny_loadPart (k _ _ (X _ _ ho)) (aah q))
 ne:=λ _ _ _ _ _ _ X htp=>by
  obtain⟨c',d',cd',sl',ho⟩:=hcl;refine Bool.eq_false_iff.mpr λ q=>?_;have e:=Value.ref.inj (beq_iff_eq.mp q);rw[<- e,X _ _ ho] at htp;cases htp
 ca:=λ X p k=>r6 Z X p k
end
def vT (K:aaa):List V->Hp->VK->Prop:=λ xs H Q=>∃ (ea D:Addr) (c:V) (cv:Value) (b:Bool),xs=[.ref ea,c]/\bD c cv/\H ea=some (r8 ea (.ref D))/\ExcKit K D/\(∃ c d cd sl,K.lookup D=some ⟨c,d,.cls cd,sl⟩)/\PySem.W.kitOne K (.ref D) cv=some b/\(∀ u,bD c u->u=cv)/\Q (.bl b) H
section
variable {X:Cx}
theorem rC:dA X (.builtin "isinstance") (vT X.K):=by
 intro pins s σ H xs us Q I r h;obtain⟨ea,D,c,cv,b,rfl,rc,he,Z,hcl,e,hu,q⟩:=h;obtain⟨u,v,rfl,ru,rv⟩:=r.two;cases (show u=Value.ref ea from ru);have:=hu v rv;subst this;obtain⟨p,_,_⟩:=(show cJ X.prog X.w H s.heap ea (r8 ea (.ref D)) from I.hok ea _ he);exact PySem.W.kia_one (t8 Z hcl) I.kIn p e (λ z=>nomatch z) λ tk=>⟨.bl b,H,I.tok tk,rfl,q⟩
theorem cD {K:aaa} (hK:X.K=K):dA X (.builtin "isinstance") (vT K):=by subst hK;exact rC
def uF:V->List V->Hp->VK->Prop:=λ x vs H Q=>∃ (l:Addr) (bs:List Bool),x=.ref l/\vs=[.bl true]/\H l=some (.lst (bs.map V.bl))/\Q (.int (bs.countP id:Nat)) H
theorem qV:MtM X "list.count" uF:=by
 intro pins s σ H x vs v us Q I rx rv h;obtain⟨l,bs,rfl,rfl,hH,q⟩:=h;cases rx;obtain⟨u,rfl,ru⟩:=rv.one;cases ru;obtain⟨z,its,n,r,hl,e⟩:=I.lstM hH;have key:∀ (bs:List Bool) (its:List Value),aY (bs.map V.bl) its->its=bs.map Value.bool:=by
  intro bs
  induction bs with
  | nil=>intro its r;cases r;rfl
  | cons b bs ih=>intro its r;cases r with | cons r1 r2=>cases r1;rw[ih _ r2];rfl
 have ek:=key bs its r;subst ek;refine call_meets F.slot_list_count ⟨_,e,rfl⟩ F.entry_list_count (F.args_list_count_2 _ _) (SeqAt.list_countAt l (bs.map Value.bool).toArray n none #[] (.bool true) (λ v=>match v with | .bool b=>b | _=>false)) ⟨e,λ y hy=>?_,?_⟩
 ·obtain⟨b,_,rfl⟩:=List.mem_map.1 (show y∈bs.map Value.bool by simpa using hy);cases b
  ·exact SeqAt.EqAt.bool_bool false true
  ·exact SeqAt.EqAt.same _
 ·have ec:(List.countP (λ v=>match v with | Value.bool b=>b | _=>false) (bs.map Value.bool).toArray.toList)=bs.countP id:=by
   rw[List.toList_toArray,List.countP_map];rfl
  rw[ec];exact⟨.int _,H,I.tok _,⟨_,rfl⟩,q⟩
def sE (K:aaa):R2:=λ x y H Q=>∃ a b xs ys,x=.ref a/\y=.ref b/\bU K H a xs/\bU K H b ys/\xs.length+ys.length<=sizeLine/\∀ p H',aH H H'->bU K H' p (xs++ys)->Q (.ref p) H'
theorem sT:dS X (binaryOp .Add) (sE X.K):=by
 intro pins s σ H x y v u Q I rx ry h;obtain⟨a,b,xs,ys,rfl,rfl,ha,hb,hz,q⟩:=h
 by_cases hx:xs=[]
 ·subst hx;cases rx;cases ry;obtain⟨its,r1,p1,_⟩:=I.tuple ha;obtain⟨its2,r2,p2,_⟩:=I.tuple hb;cases r1;obtain⟨⟨cls,dd,data,sl⟩,ho,hc,n,hd⟩:=id p1;obtain⟨⟨cls2,dd2,data2,sl2⟩,ho2,hc2,n2,hd2⟩:=id p2;simp only at hc hd hc2 hd2;subst hc hd hc2 hd2;exact concat_meets ⟨_,ho,rfl⟩ ⟨_,ho2,rfl⟩ noFill_tuple_add seq_tuple_add PySem.F.slot_tuple_add PySem.F.entry_tuple_add (PySem.F.args_tuple_add_2 _ _) (tuple_addW0 a b _ its2.toArray n n2 dd dd2 sl sl2 (by simp)) ⟨ho,ho2,⟨.ref b,H,I,rfl,q b H (aH.refl H) hb⟩⟩
 ·refine pX pins s σ H _ _ v u Q I rx ry ⟨a,b,xs,ys,rfl,rfl,ha,hb,hx,hz,λ e=>?_,λ _ p hp=>?_⟩
  ·subst e;exact q a H (aH.refl H) (by rw[List.append_nil];exact ha)
  ·exact q p _ (aH.new hp) (bU.of aF)
theorem fF (hK:X.K=K):dS X (binaryOp .Add) (sE K):=by subst hK;exact sT
theorem rT (hK:X.K=K):yY X (yA K):=by subst hK;exact uB
end
end L2
namespace Tw
open PySem L2
structure TxtS (mg:Str->Option Value):Prop where
 b_str:mg "str" = none
theorem tX:bootBuiltins "str" = some (.type "str"):=by decide +kernel
section
variable {aw:Addr}
theorem fQ:FnScope ["thing","low","high"] ["thing","low","high"] (aK (bP 52)):={}
theorem dI:FnScope ["thing","number","many","spouts","pair","target","parts","word","spout"] ["thing","number","many","spouts"] (aK (bP 58)):={}
theorem eV:FnScope ["thing","number","spout"] ["thing"] (aK (bP 57)):={}
end
theorem mY {n:Nat} (h:n<=10000000):n < sizeLine:=by rw[sizeLine_eq];omega
end Tw
namespace L2
open PySem PySem.Spec PyProof.Rows TwZ
theorem sV {X:Cx}:dS X (binaryOp .Add) (λ x y H Q=>∃ j,y=.int j/\((∃ i,x=.int i/\Q (.int (i+j)) H)\/∃ b:Bool,x=.bl b/\Q (.int ((if b=true then 1 else 0)+j)) H)):=by
 intro pins s σ H x y v u Q I rx ry h;obtain⟨j,rfl,⟨i,rfl,q⟩ | ⟨b,rfl,q⟩⟩:=h
 ·exact cF pins s σ H _ _ v u Q I rx ry ⟨i,j,rfl,rfl,q⟩
 ·obtain⟨t,rfl⟩:=ry;cases rx;exact PySem.IntBool.add_bool_int ⟨.int _,H,I.tok _,⟨_,rfl⟩,q⟩
end L2
namespace Tw
open PySem L2
section
variable {aw:Addr}
def g0 (K:aaa):Sp:=λ vs H Q _=>∃ (x:V) (g:G) (lo hi:Int),vs=[x,.int lo,.int hi]/\aI K H g x/\Q (.bl (bA lo hi g)) H
def cL (K:aaa):Sp:=λ vs H Q _=>∃ (x:V) (g:G) (lo hi:Int),vs=[x,.int lo,.int hi]/\aI K H g x/\Q (.bl (bM lo hi g)) H
def oC (K:aaa):Sp:=λ vs H Q _=>∃ (x:V) (g:G) (n:Int),vs=[x,.int n]/\aI K H g x/\Q (.bl (g6 n g)) H
def lN (K:aaa):Sp:=λ vs H Q _=>∃ (x:V) (g:G) (n:Int),vs=[x,.int n]/\aI K H g x/\Q (.bl (fN n g)) H
def o9 (K:aaa):Sp:=λ vs H Q _=>∃ (x:V) (g:G) (n:Int),vs=[x,.int n]/\aI K H g x/\Q (.bl (fZ n g)) H
def hG (K:aaa):Sp:=λ vs H Q _=>∃ (x:V) (g:G) (i n m:Int),vs=[x,.int i,.int n,.int m]/\aI K H g x/\∀ H',aH H H'->Q (.bl (fL i n m g)) H'
def g3 (K:aaa):Sp:=λ vs H Q _=>∃ (x:V) (g:G),vs=[x]/\aI K H g x/\∀ H',aH H H'->Q (.bl (dC g)) H'
theorem lW {f:Addr}{fd:FuncData} (F:Fun K "is_tuple" "is_tuple" (bP 27) f fd) (T:Txt mg):FnOk P w K mg base fK 1 f fd ["thing","least","most"] (g0 K):=by
 refine F.ok iE (λ vs H Q E h=>?_) (λ cdv A outer s H vs Q E hr h=>?_)
 ·obtain⟨x,g,lo,hi,rfl,_⟩:=h;rfl
 ·obtain⟨x,g,lo,hi,rfl,hg,k⟩:=h;have sc:=iE;refine⟨_,(aG (aM (cT (aL (aR (K:=K) rfl) rfl T.b_isinstance aQ (aA (pv 0) (aA (bG (v:=.ty "tuple") rfl T.b_tuple bO rfl) aB))) (dR (nA fS fS (pv 1) (iY K T.b_len (pv 0)) (pv 2)))))),?_⟩;refine⟨_,rfl,_,"tuple",g,rfl,by decide,hg,_,rfl,?_⟩;cases g with
  | tup gs=>
   refine aU ?_;obtain⟨a,xs,rfl,q,l⟩:=hg.ut;have el:=l.length;refine⟨_,rfl,_,rfl,a,xs,rfl,.inr q,_,_,rfl,rfl,_,rfl,?_⟩;rw[el];dsimp only [bA] at k;refine cV (λ h=>?_) (λ h=>?_)
   ·rw[h] at k;exact⟨_,rfl,_,_,rfl,rfl,k⟩
   ·rw[Bool.eq_false_iff.mpr h] at k;exact k
  | _=>exact aV k
theorem lV {f:Addr}{fd:FuncData} (F:Fun K "is_whole" "is_whole" (bP 28) f fd) (T:Txt mg):FnOk P w K mg base fK 1 f fd ["thing","least","most"] (cL K):=by
 refine F.ok iD (λ vs H Q E h=>?_) (λ cdv A outer s H vs Q E hr h=>?_)
 ·obtain⟨x,g,lo,hi,rfl,_⟩:=h;rfl
 ·obtain⟨x,g,lo,hi,rfl,hg,k⟩:=h;have sc:=iD;refine⟨_,(aG (aM (cT (aL (aR (K:=K) rfl) rfl T.b_isinstance aQ (aA (pv 0) (aA (bG (v:=.ty "int") rfl T.b_int eL rfl) aB))) (cT (oN (aL (aR (K:=K) rfl) rfl T.b_isinstance aQ (aA (pv 0) (aA (bG (v:=.ty "bool") rfl T.b_bool eM rfl) aB)))) (dR (nA fS fS (pv 1) (pv 0) (pv 2))))))),?_⟩;refine⟨_,rfl,_,"int",g,rfl,by decide,hg,_,rfl,?_⟩;cases g with
  | int n=>
   refine aU ?_;refine⟨_,rfl,_,"bool",.int n,rfl,by decide,hg,_,rfl,_,rfl,aU ?_⟩;obtain rfl:=hg.ui;refine⟨_,rfl,_,rfl,_,_,rfl,rfl,_,rfl,?_⟩;dsimp only [bM] at k;refine cV (λ h=>?_) (λ h=>?_)
   ·rw[h] at k;exact⟨_,rfl,_,_,rfl,rfl,k⟩
   ·rw[Bool.eq_false_iff.mpr h] at k;exact k
  | bl b=>
   refine aU ?_;exact⟨_,rfl,_,"bool",.bl b,rfl,by decide,hg,_,rfl,_,rfl,aV k⟩
  | _=>exact aV k
theorem jQ {f:Addr}{fd:FuncData} (F:Fun K "_law_whole" "_law_whole" (bP 52) f fd) (T:Txt mg):FnOk P w K mg base fK 1 f fd ["thing","low","high"] (cL K):=by
 refine F.ok fQ (λ vs H Q E h=>?_) (λ cdv A outer s H vs Q E hr h=>?_)
 ·obtain⟨x,g,lo,hi,rfl,_⟩:=h;rfl
 ·obtain⟨x,g,lo,hi,rfl,hg,k⟩:=h;have sc:=fQ;refine⟨_,(aG (aM (cT (aL (aR (K:=K) rfl) rfl T.b_isinstance aQ (aA (pv 0) (aA (bG (v:=.ty "int") rfl T.b_int eL rfl) aB))) (cT (oN (aL (aR (K:=K) rfl) rfl T.b_isinstance aQ (aA (pv 0) (aA (bG (v:=.ty "bool") rfl T.b_bool eM rfl) aB)))) (cT (dL fS (pv 1) (pv 0) (aZ _)) (dR (dL fS (pv 0) (pv 2) (aZ _)))))))),?_⟩;refine⟨_,rfl,_,"int",g,rfl,by decide,hg,_,rfl,?_⟩;cases g with
  | int n=>
   refine aU ?_;refine⟨_,rfl,_,"bool",.int n,rfl,by decide,hg,_,rfl,_,rfl,aU ?_⟩;obtain rfl:=hg.ui;refine⟨_,rfl,_,rfl,_,_,rfl,rfl,_,rfl,?_⟩;dsimp only [bM] at k;refine cV (λ h=>?_) (λ h=>?_)
   ·rw[h] at k;exact⟨_,rfl,_,rfl,_,_,rfl,rfl,k⟩
   ·rw[Bool.eq_false_iff.mpr h] at k;exact k
  | bl b=>
   refine aU ?_;exact⟨_,rfl,_,"bool",.bl b,rfl,by decide,hg,_,rfl,_,rfl,aV k⟩
  | _=>exact aV k
theorem h9 {g:G} (h:bA 2 2 g=true):∃ a b,g=.tup [a,b]:=by
 cases g with
 | tup gs=>
  simp only [bA,Bool.and_eq_true,decide_eq_true_eq] at h
  match gs,h with
  | [a,b],_=>exact⟨a,b,rfl⟩
  | [],h=>simp at h
  | [_],h=>simp at h
  | _::_::_::_,h=>simp at h;omega
 | _=>simp [bA] at h
theorem mU {g:G} (h:bA 3 3 g=true):∃ a b c,g=.tup [a,b,c]:=by
 cases g with
 | tup gs=>
  simp only [bA,Bool.and_eq_true,decide_eq_true_eq] at h
  match gs,h with
  | [a,b,c],_=>exact⟨a,b,c,rfl⟩
  | [],h=>simp at h
  | [_],h=>simp at h
  | [_,_],h=>simp at h
  | _::_::_::_::_,h=>simp at h;omega
 | _=>simp [bA] at h
theorem rW {g:G} (h:bA 6 6 g=true):∃ a b c d e f,g=.tup [a,b,c,d,e,f]:=by
 cases g with
 | tup gs=>
  simp only [bA,Bool.and_eq_true,decide_eq_true_eq] at h
  match gs,h with
  | [a,b,c,d,e,f],_=>exact⟨a,b,c,d,e,f,rfl⟩
  | [],h=>simp at h
  | [_],h=>simp at h
  | [_,_],h=>simp at h
  | [_,_,_],h=>simp at h
  | [_,_,_,_],h=>simp at h
  | [_,_,_,_,_],h=>simp at h
  | _::_::_::_::_::_::_::_,h=>simp at h;omega
 | _=>simp [bA] at h
theorem sM {n:Int}{g:G} (h:bA 2 2 g=false):g6 n g=false:=by
 unfold g6;split
 ·simp [bA] at h
 ·rfl
theorem u3 {n:Int}{g:G} (h:bA 2 2 g=false):fN n g=false:=by
 unfold fN;split
 ·simp [bA] at h
 ·rfl
theorem o7 {n:Int}{g:G} (h:bA 3 3 g=false):fZ n g=false:=by
 unfold fZ;split
 ·simp [bA] at h
 ·rfl
theorem rP {i n m:Int}{g:G} (h:bA 6 6 g=false):fL i n m g=false:=by
 unfold fL;split
 ·simp [bA] at h
 ·rfl
theorem j4 {H:Hp}{g:G}{x:V} (h:aI K H g x):(x=.non/\g=.non)\/(x≠.non/\g≠.non):=by
 cases g with
 | non=>exact .inl ⟨h.un,rfl⟩
 | bl b=>exact .inr ⟨by rw[h.ub];exact λ z=>(by cases z),λ z=>(by cases z)⟩
 | int b=>exact .inr ⟨by rw[h.ui];exact λ z=>(by cases z),λ z=>(by cases z)⟩
 | str b=>exact .inr ⟨by rw[h.us];exact λ z=>(by cases z),λ z=>(by cases z)⟩
 | tup gs=>obtain⟨a,xs,rfl,_⟩:=h.ut;exact .inr ⟨λ z=>(by cases z),λ z=>(by cases z)⟩
 | lst gs=>obtain⟨a,xs,rfl,_⟩:=h.ul;exact .inr ⟨λ z=>(by cases z),λ z=>(by cases z)⟩
theorem lI {lo hi:Int}{g:G} (h:g≠.non):wB lo hi g=bM lo hi g:=by
 cases g <;> first | exact absurd rfl h | rfl
theorem oR {f f1 f2:Addr}{fd fd1 fd2:FuncData} (F:Fun K "is_out" "is_out" (bP 23) f fd) (T:Txt mg) (U:TxtN K mg aw) (G_is_tuple:Callee P w K mg base "is_tuple" ["thing","least","most"] 1 (g0 K) f1 fd1)
  (G_is_whole:Callee P w K mg base "is_whole" ["thing","least","most"] 1 (cL K) f2 fd2):FnOk P w K mg base fK 2 f fd ["thing","vessel_count"] (oC K):=by
 refine F.ok kR (λ vs H Q E h=>?_) (λ cdv A outer s H vs Q E hr h=>?_)
 ·obtain⟨x,g,n,rfl,_⟩:=h;rfl
 ·obtain⟨x,g,n,rfl,hg,k⟩:=h;have sc:=kR;refine⟨_,(aE (bI (bC (aX (bY G_is_tuple hr (aA (pv 0) (aA aD (aA aD aB)))))) (aG (aM bV)) aP)
   (aE (dQ (pv 0) (cQ (K:=K) (n:=2) rfl rfl (aT (gL 2 sc.nd) (aT (gL 3 sc.nd) cP))))
   (aG (aM (cT (sL (dL lU (pv 2) cS (aZ _)) (dR (bY G_is_whole hr (aA (pv 2) (aA aD (aA (aS cU (pv 1) aD) aB)))))) (dR (bY G_is_whole hr (aA (pv 3) (aA aD (aA (bR rfl U.g_MOST_PARTS) aB)))))))))),?_⟩
  refine⟨_,rfl,x,g,2,2,rfl,hg,_,rfl,?_⟩;cases e:bA 2 2 g with
  | false=>refine aU ?_;rw[sM e] at k;exact k
  | true=>
   refine aV ?_;obtain⟨t,p,rfl⟩:=h9 e;obtain⟨a,xs,rfl,q,l⟩:=hg.ut;obtain⟨xt,r,rfl,ht,l⟩:=l.un;obtain⟨xp,r,rfl,hp,l⟩:=l.un;obtain rfl:=l.un0;refine⟨_,rfl,a,_,rfl,q,rfl,_,_,rfl,_,_,rfl,rfl,?_⟩;dsimp only [g6] at k;rcases j4 ht with ⟨rfl,rfl⟩ | ⟨n1,n2⟩
   ·refine⟨_,rfl,rfl,_,rfl,xK rfl ⟨_,rfl,aU ?_⟩⟩;exact⟨_,rfl,xp,p,1,60,rfl,hp,k⟩
   ·refine⟨_,rfl,rfl,_,rfl,?_⟩;rw[aao n1];refine aV ⟨_,rfl,_,rfl,_,_,rfl,rfl,xt,t,0,_,rfl,ht,_,rfl,?_⟩;rw[lI n2] at k;refine cV (λ h=>?_) (λ h=>?_)
    ·rw[h] at k;exact⟨_,rfl,xp,p,1,60,rfl,hp,k⟩
    ·rw[Bool.eq_false_iff.mpr h] at k;exact k
theorem oT {f f1 f2:Addr}{fd fd1 fd2:FuncData} (F:Fun K "is_act" "is_act" (bP 24) f fd) (T:Txt mg) (U:TxtN K mg aw) (G_is_tuple:Callee P w K mg base "is_tuple" ["thing","least","most"] 1 (g0 K) f1 fd1)
  (G_is_whole:Callee P w K mg base "is_whole" ["thing","least","most"] 1 (cL K) f2 fd2):FnOk P w K mg base fK 2 f fd ["thing","spout_count"] (lN K):=by
 refine F.ok kT (λ vs H Q E h=>?_) (λ cdv A outer s H vs Q E hr h=>?_)
 ·obtain⟨x,g,n,rfl,_⟩:=h;rfl
 ·obtain⟨x,g,n,rfl,hg,k⟩:=h;have sc:=kT;refine⟨_,(aE (bI (bC (aX (bY G_is_tuple hr (aA (pv 0) (aA aD (aA aD aB)))))) (aG (aM bV)) aP)
   (aE (dQ (pv 0) (cQ (K:=K) (n:=2) rfl rfl (aT (gL 2 sc.nd) (aT (gL 3 sc.nd) cP))))
   (aG (aM (cT (dL (uR (K:=K) rfl hr.units) (pv 2) (bR rfl U.g_ACT_WORDS) (by rfl)) (dR (bY G_is_whole hr (aA (pv 3) (aA aD (aA (aS cU (pv 1) aD) aB)))))))))),?_⟩
  refine⟨_,rfl,x,g,2,2,rfl,hg,_,rfl,?_⟩;cases e:bA 2 2 g with
  | false=>refine aU ?_;rw[u3 e] at k;exact k
  | true=>
   refine aV ?_;obtain⟨t,p,rfl⟩:=h9 e;obtain⟨a,xs,rfl,q,l⟩:=hg.ut;obtain⟨xt,r,rfl,ht,l⟩:=l.un;obtain⟨xp,r,rfl,hp,l⟩:=l.un;obtain rfl:=l.un0;refine⟨_,rfl,a,_,rfl,q,rfl,_,_,rfl,_,_,rfl,rfl,?_⟩;dsimp only [fN] at k;refine⟨_,rfl,t,aw,dO,_,rfl,.inr (U.words H),by decide,ht,.cons (.s _) (.cons (.s _) (.cons (.s _) .nil)),_,rfl,?_⟩;refine cV (λ h=>?_) (λ h=>?_)
   ·have h:rM t dO=true:=h;rw[h] at k;exact⟨_,rfl,_,rfl,_,_,rfl,rfl,xp,p,0,_,rfl,hp,k⟩
   ·have h:rM t dO=false:=Bool.eq_false_iff.mpr h;rw[h] at k;exact k
theorem lX {f f1 f2:Addr}{fd fd1 fd2:FuncData} (F:Fun K "is_spout" "is_spout" (bP 25) f fd) (T:Txt mg) (U:TxtN K mg aw) (G_is_tuple:Callee P w K mg base "is_tuple" ["thing","least","most"] 1 (g0 K) f1 fd1)
  (G_is_whole:Callee P w K mg base "is_whole" ["thing","least","most"] 1 (cL K) f2 fd2):FnOk P w K mg base fK 2 f fd ["thing","vessel_count"] (o9 K):=by
 refine F.ok iF (λ vs H Q E h=>?_) (λ cdv A outer s H vs Q E hr h=>?_)
 ·obtain⟨x,g,n,rfl,_⟩:=h;rfl
 ·obtain⟨x,g,n,rfl,hg,k⟩:=h;have sc:=iF;refine⟨_,(aE (bI (bC (aX (bY G_is_tuple hr (aA (pv 0) (aA aD (aA aD aB)))))) (aG (aM bV)) aP)
   (aE (dQ (pv 0) (cQ (K:=K) (n:=3) rfl rfl (aT (gL 2 sc.nd) (aT (gL 3 sc.nd) (aT (gL 4 sc.nd) cP)))))
   (aG (aM (cT (bY G_is_whole hr (aA (pv 2) (aA aD (aA (aS cU (pv 1) aD) aB)))) (cT (bY G_is_whole hr (aA (pv 3) (aA aD (aA (bR rfl U.g_MOST_FLOW) aB)))) (dR (aL (aR (K:=K) rfl) rfl T.b_isinstance aQ (aA (pv 4) (aA (bG (v:=.ty "bool") rfl T.b_bool eM rfl) aB)))))))))),?_⟩
  refine⟨_,rfl,x,g,3,3,rfl,hg,_,rfl,?_⟩;cases e:bA 3 3 g with
  | false=>refine aU ?_;rw[o7 e] at k;exact k
  | true=>
   refine aV ?_;obtain⟨t,p,d,rfl⟩:=mU e;obtain⟨a,xs,rfl,q,l⟩:=hg.ut;obtain⟨xt,r,rfl,ht,l⟩:=l.un;obtain⟨xp,r,rfl,hp,l⟩:=l.un;obtain⟨xd,r,rfl,hd,l⟩:=l.un;obtain rfl:=l.un0;refine⟨_,rfl,a,_,rfl,q,rfl,_,_,rfl,_,_,rfl,_,_,rfl,rfl,?_⟩;dsimp only [fZ] at k;refine⟨_,rfl,_,rfl,_,_,rfl,rfl,xt,t,0,_,rfl,ht,_,rfl,cV (λ h=>?_) (λ h=>?_)⟩
   ·rw[h,Bool.true_and] at k;refine⟨_,rfl,xp,p,0,60,rfl,hp,_,rfl,cV (λ h=>?_) (λ h=>?_)⟩
    ·rw[h,Bool.true_and] at k;refine⟨_,rfl,_,"bool",d,rfl,by decide,hd,?_⟩;rw[show dF d "bool" = u6 d by cases d <;> rfl];exact k
    ·rw[Bool.eq_false_iff.mpr h] at k;exact k
   ·rw[Bool.eq_false_iff.mpr h] at k;exact k
theorem iZ {te:TE}{H:Hp}{fr:List (Option Nat)}{σ:St}{ra:Addr}{xs:List V}{gs:List G}{q:G->Bool}{rest:List (Option V)}{Q:Addr->Hp->Prop} (hv:bU K H ra xs) (hl:aO K H gs xs) (hf:u7 fr σ=none::rest)
  (hn:gs.length<=1000) (ht:∀ x g H' (Q:V->Hp->Prop),aH H H'->aI K H' g x->Q (.bl (q g)) H'->te (some x::rest) H' Q) (k:∀ D H',aH H H'->H' D=some (.lst ((gs.map q).map V.bl))->Q D H'):i8 (xV K ra) (cC 0) rQ te fr σ H Q:=by
 have hlen:=hl.length;refine pF (K:=K) (a:=ra) (xs:=xs) (λ D i ys aa H'=>H D=none/\aH H H'/\H' D=some (.lst ys)/\ys=(((gs.take i).map q).map V.bl)/\∃ u,aa=u::rest)
  (λ D i r aa H' p=>p.2.1.tup hv) (λ D hD=>⟨hD,aH.new hD,aF,rfl,none,hf⟩) ?_ ?_
 ·rintro D r aa H3 ⟨hDn,sm,hDl,rfl,_⟩;rw[hlen,ace] at hDl;exact k D H3 sm hDl
 ·rintro D i y r aa H3 hy ⟨hDn,sm,hDl,rfl,u,rfl⟩;have hi:=(aaf.mp hy).1;obtain⟨g,hg,ig⟩:=hl.get' hy;refine jU ?_;refine ht y g H3 _ sm (aI.same sm ig) ⟨hDl,mY (by rw[aai,aai,abb];omega),hDn,sm.put hDn,aF,?_,_,rfl⟩;rw[List.take_add_one,hg,abi,abi];rfl
theorem mQ (gs:List G) (q:G->Bool):(gs.map q).all id=gs.all q:=by rw[List.all_map];rfl
theorem kJ {f f1 f2 f3 f4:Addr}{fd fd1 fd2 fd3 fd4:FuncData} (F:Fun K "is_vessel" "is_vessel" (bP 22) f fd) (T:Txt mg) (U:TxtN K mg aw) (G_is_tuple:Callee P w K mg base "is_tuple" ["thing","least","most"] 1 (g0 K) f1 fd1)
  (G_is_whole:Callee P w K mg base "is_whole" ["thing","least","most"] 1 (cL K) f2 fd2) (G_is_out:Callee P w K mg base "is_out" ["thing","vessel_count"] 2 (oC K) f3 fd3) (G_is_act:Callee P w K mg base "is_act" ["thing","spout_count"] 2 (lN K) f4 fd4):FnOk P w K mg base fK 3 f fd ["thing","number","vessel_count","spout_count"] (hG K):=by
 refine F.ok gE (λ vs H Q E h=>?_) (λ cdv A outer s H vs Q E hr h=>?_)
 ·obtain⟨x,g,i,n,m,rfl,_⟩:=h;rfl
 ·obtain⟨x,g,i,n,m,rfl,hg,k⟩:=h;have sc:=gE;refine⟨_,(aE (bI (bC (aX (bY G_is_tuple hr (aA (pv 0) (aA aD (aA aD aB)))))) (aG (aM bV)) aP)
   (aE (dQ (pv 0) (cQ (K:=K) (n:=6) rfl rfl (aT (gL 4 sc.nd) (aT (gL 5 sc.nd) (aT (gL 6 sc.nd) (aT (gL 7 sc.nd) (aT (gL 8 sc.nd) (aT (gL 9 sc.nd) cP))))))))
   (aE (bI (PW.pt (cM (bC (aX (bY G_is_whole hr (aA (pv 4) (aA aD (aA (bR rfl U.g_MOST_SIZE) aB)))))) (cI (bC (aX (bY G_is_whole hr (aA (pv 5) (aA (pv 4) (aA (bR rfl U.g_MOST_BRIM) aB))))))))) (aG (aM bV)) aP)
   (aE (bI (PW.pt (cM (bC (aX (bY G_is_tuple hr (aA (pv 6) (aA aD (aA (bR rfl U.g_MOST_OUTS) aB)))))) (cI (bC (aX (bY G_is_tuple hr (aA (pv 9) (aA aD (aA (bR rfl U.g_MOST_ACTS) aB))))))))) (aG (aM bV)) aP)
   (aG (aM (cT (aL (fJ (K:=K) rfl rfl) rfl T.b_all PyProof.Rows.boot_all (aA (kU (λ _ _ h=>h) rfl (LcOk.mk (N':=["out","vessel_count"]) (fr:=[none,some 2]) rfl ⟨rfl,trivial⟩ rfl rfl rfl rfl rfl ⟨⟨_,rfl,rfl,rfl,rfl⟩,trivial⟩) (cX (K:=K) rfl (pv 6)) (λ _ _ _=>(gC 0 ["out","vessel_count"])) (λ _ _ _=>eH) (λ _ _ _=>(bY G_is_out hr (aA (pv 0) (aA (pv 1) aB))))) aB)) (cT (aL (aR (K:=K) rfl) rfl T.b_isinstance aQ (aA (pv 7) (aA (bG (v:=.ty "bool") rfl T.b_bool eM rfl) aB))) (cT (sL (dL lU (pv 8) cS (aZ _)) (dR (bY G_is_whole hr (aA (pv 8) (aA (aS cF (pv 1) aD) (aA (aS cU (pv 2) aD) aB)))))) (dR (aL (fJ (K:=K) rfl rfl) rfl T.b_all PyProof.Rows.boot_all (aA (kU (λ _ _ h=>h) rfl (LcOk.mk (N':=["act","spout_count"]) (fr:=[none,some 3]) rfl ⟨rfl,trivial⟩ rfl rfl rfl rfl rfl ⟨⟨_,rfl,rfl,rfl,rfl⟩,trivial⟩) (cX (K:=K) rfl (pv 9)) (λ _ _ _=>(gC 0 ["act","spout_count"])) (λ _ _ _=>eH) (λ _ _ _=>(bY G_is_act hr (aA (pv 0) (aA (pv 1) aB))))) aB)))))))))))),?_⟩
  refine⟨_,rfl,x,g,6,6,rfl,hg,_,rfl,?_⟩;cases e:bA 6 6 g with
  | false=>refine aU ?_;have k:=k H (aH.refl _);rw[rP e] at k;exact k
  | true=>
   refine aV ?_;obtain⟨sz,br,os,ho,sp,ac,rfl⟩:=rW e;obtain⟨a,xs,rfl,q,l⟩:=hg.ut;obtain⟨x1,r,rfl,i1,l⟩:=l.un;obtain⟨x2,r,rfl,i2,l⟩:=l.un;obtain⟨x3,r,rfl,i3,l⟩:=l.un;obtain⟨x4,r,rfl,i4,l⟩:=l.un;obtain⟨x5,r,rfl,i5,l⟩:=l.un;obtain⟨x6,r,rfl,i6,l⟩:=l.un;obtain rfl:=l.un0;refine⟨_,rfl,a,_,rfl,q,rfl,_,_,rfl,_,_,rfl,_,_,rfl,_,_,rfl,_,_,rfl,_,_,rfl,rfl,?_⟩;dsimp only [fL] at k;have kF:∀ b:Bool,b=false->(∀ H',aH H H'->Q (.bl b) H')->Q (.bl false) H:=λ b e k=>by rw[e] at k;exact k H (aH.refl _)
   refine⟨_,rfl,x1,sz,1,60,rfl,i1,_,rfl,?_⟩;cases e1:bM 1 60 sz with
   | false=>refine aU (aU ?_);exact kF _ (by rw[e1];rfl) k
   | true=>
   refine aV ?_;obtain⟨z,rfl,_⟩:=cZ e1;obtain rfl:=i1.ui;refine⟨_,rfl,_,rfl,x2,br,z,200,rfl,i2,_,rfl,?_⟩;cases e2:bM z 200 br with
   | false=>refine aU ?_;exact kF _ (by rw[e1,show iQ (.int z) br=false from e2];rfl) k
   | true=>
   refine aV ?_;refine⟨_,rfl,x3,os,1,3,rfl,i3,_,rfl,?_⟩;cases e3:bA 1 3 os with
   | false=>refine aU (aU ?_);exact kF _ (by rw[e1,show iQ (.int z) br=true from e2,e3];rfl) k
   | true=>
   refine aV ?_;refine⟨_,rfl,x6,ac,0,3,rfl,i6,_,rfl,?_⟩;cases e4:bA 0 3 ac with
   | false=>refine aU ?_;exact kF _ (by rw[e1,show iQ (.int z) br=true from e2,e3,e4];rfl) k
   | true=>
   refine aV ?_;rw[e1,show iQ (.int z) br=true from e2,e3,e4] at k;simp only [Bool.true_and] at k;cases os with
   | tup os=>
    cases ac with
    | tup ac=>
     obtain⟨oa,oxs,rfl,qo,lo⟩:=i3.ut;obtain⟨ca,cxs,rfl,qc,lc⟩:=i6.ut;simp only [bA,Bool.and_eq_true,decide_eq_true_eq] at e3 e4;dsimp only [gW] at k;refine⟨_,rfl,oa,rfl,⟨_,qo⟩,iZ (q:=g6 n) (rest:=[some (.int n)]) qo lo rfl (by omega) (λ x g H' Q' s' ig k'=>⟨_,rfl,_,rfl,x,g,n,rfl,ig,k'⟩) λ D1 H1 s1 hD1=>?_⟩;refine⟨false,D1,_,rfl,cG.of hD1,_,rfl,?_⟩;rw[mQ];refine cV (λ h=>?_) (λ h=>?_);rotate_left
     ·rw[Bool.eq_false_iff.mpr h] at k;exact k _ s1
     rw[h] at k;simp only [Bool.true_and] at k;refine⟨_,rfl,_,"bool",ho,rfl,by decide,aI.same s1 i4,_,rfl,?_⟩;rw[show dF ho "bool" = u6 ho by cases ho <;> rfl];refine cV (λ h=>?_) (λ h=>?_);rotate_left
     ·rw[Bool.eq_false_iff.mpr h] at k;exact k _ s1
     rw[h] at k;simp only [Bool.true_and] at k;have fin:∀ H2,aH H H2->(∀ H',aH H H'->Q (.bl (ac.all (fN m))) H')->vQ (wQ K) (bN (tLC (xL K (bZ 9)) [none,some 3] (cC 0) rQ (gB (lN K) [] E0 (bN (bZ 0) (bN (bZ 1) eG)))) eG) [some (.ref a),some (.int i),some (.int n),some (.int m),some (.int z),some x2,some (.ref oa),some x4,some x5,some (.ref ca)] H2 Q:=λ H2 s2 k2=>by
      refine⟨_,rfl,ca,rfl,⟨_,s2.tup qc⟩,iZ (q:=fN m) (rest:=[some (.int m)]) (s2.tup qc) (aO.same s2 lc) rfl (by omega) (λ x g H' Q' s' ig k'=>⟨_,rfl,_,rfl,x,g,m,rfl,ig,k'⟩) λ D2 H3 s3 hD2=>?_⟩;refine⟨false,D2,_,rfl,cG.of hD2,?_⟩;rw[mQ];exact k2 _ (s2.trans s3)
     rcases j4 i5 with ⟨rfl,rfl⟩ | ⟨n1,n2⟩
     ·refine⟨_,rfl,rfl,_,rfl,xK rfl ⟨_,rfl,aU ?_⟩⟩;exact fin _ s1 k
     ·refine⟨_,rfl,rfl,_,rfl,?_⟩;rw[aao n1];refine aV ⟨_,rfl,_,rfl,_,_,rfl,rfl,_,rfl,_,_,rfl,rfl,x5,sp,i+1,n - 1,rfl,aI.same s1 i5,_,rfl,?_⟩;rw[lI n2] at k;refine cV (λ h=>?_) (λ h=>?_)
      ·rw[h] at k;exact fin _ s1 k
      ·rw[Bool.eq_false_iff.mpr h] at k;exact k _ s1
    | _=>simp [bA] at e4
   | _=>simp [bA] at e3
theorem pY {g:G} (h:bA 2 2 g=false):dC g=false:=by
 unfold dC;split
 ·simp [bA] at h
 ·rfl
theorem m9 {a b:G}:dC (.tup [a,b])=(bA 1 12 a && bA 0 12 b && qM (gW a).length (gW b).length (gW a) && (gW b).all (fZ (gW a).length)):=by
 cases a with
 | tup vs=>
  cases b with
  | tup ss=>
   simp only [dC,bA,gW];rw[show decide ((1:Int)<=(vs.length:Int))=decide (1<=vs.length) by congr 1;simp;omega,show decide ((vs.length:Int)<=12)=decide (vs.length<=12) by congr 1;simp;omega,show decide ((0:Int)<=(ss.length:Int))=true by simp,show decide ((ss.length:Int)<=12)=decide (ss.length<=12) by congr 1;simp;omega,Bool.true_and]
  | _=>simp [dC,bA]
 | _=>simp [dC,bA]
theorem oS {f f1 f2 f3:Addr}{fd fd1 fd2 fd3:FuncData} (F:Fun K "is_net" "is_net" (bP 21) f fd) (T:Txt mg) (U:TxtN K mg aw) (G_is_tuple:Callee P w K mg base "is_tuple" ["thing","least","most"] 1 (g0 K) f1 fd1)
  (G_is_vessel:Callee P w K mg base "is_vessel" ["thing","number","vessel_count","spout_count"] 3 (hG K) f2 fd2) (G_is_spout:Callee P w K mg base "is_spout" ["thing","vessel_count"] 2 (o9 K) f3 fd3):FnOk P w K mg base fK 4 f fd ["thing"] (g3 K):=by
 refine F.ok kS (λ vs H Q E h=>?_) (λ cdv A outer s H vs Q E hr h=>?_)
 ·obtain⟨x,g,rfl,_⟩:=h;rfl
 ·obtain⟨x,g,rfl,hg,k⟩:=h;have sc:=kS;refine⟨_,(aE (bI (bC (aX (bY G_is_tuple hr (aA (pv 0) (aA aD (aA aD aB)))))) (aG (aM bV)) aP)
   (aE (dQ (pv 0) (cQ (K:=K) (n:=2) rfl rfl (aT (lT (i:=1) sc.nd rfl (Or.inr rfl)) (aT (gL 2 sc.nd) cP))))
   (aE (bI (PW.pt (cM (bC (aX (bY G_is_tuple hr (aA (pv 1) (aA aD (aA (bR rfl U.g_MOST_VESSELS) aB)))))) (cI (bC (aX (bY G_is_tuple hr (aA (pv 2) (aA aD (aA (bR rfl U.g_MOST_SPOUTS) aB))))))))) (aG (aM bV)) aP)
   (aE (d7 PassesOwn.never rfl (sK (K:=K) rfl rfl T.b_enumerate (aA (pv 1) aB)) (cQ (K:=K) (n:=2) rfl rfl (aT (gL 3 sc.nd) (aT (gL 4 sc.nd) cP))) (aG (bI (bC (aX (bY G_is_vessel hr (aA (pv 4) (aA (pv 3) (aA (iY K T.b_len (pv 1)) (aA (iY K T.b_len (pv 2)) aB))))))) (aG (aM bV)) aP)))
   (aG (aM (aL (fJ (K:=K) rfl rfl) rfl T.b_all PyProof.Rows.boot_all (aA (kU (λ _ _ h=>h) rfl (LcOk.mk (N':=["spout","vessels"]) (fr:=[none,some 1]) rfl ⟨rfl,trivial⟩ rfl rfl rfl rfl rfl ⟨⟨_,rfl,rfl,rfl,rfl⟩,trivial⟩) (cX (K:=K) rfl (pv 2)) (λ _ _ _=>(gC 0 ["spout","vessels"])) (λ _ _ _=>eH) (λ _ _ _=>(bY G_is_spout hr (aA (pv 0) (aA (iY K T.b_len (pv 1)) aB))))) aB)))))))),?_⟩
  refine⟨_,rfl,x,g,2,2,rfl,hg,_,rfl,?_⟩;cases e:bA 2 2 g with
  | false=>refine aU ?_;have k:=k H (aH.refl _);rw[pY e] at k;exact k
  | true=>
   refine aV ?_;obtain⟨vs,ss,rfl⟩:=h9 e;obtain⟨a,xs,rfl,q,l⟩:=hg.ut;obtain⟨x1,r,rfl,i1,l⟩:=l.un;obtain⟨x2,r,rfl,i2,l⟩:=l.un;obtain rfl:=l.un0;refine⟨_,rfl,a,_,rfl,q,rfl,_,_,rfl,_,_,rfl,rfl,?_⟩;rw[m9] at k;refine⟨_,rfl,x1,vs,1,12,rfl,i1,_,rfl,?_⟩;cases e1:bA 1 12 vs with
   | false=>refine aU (aU ?_);rw[e1] at k;exact k H (aH.refl _)
   | true=>
   refine aV ?_;refine⟨_,rfl,x2,ss,0,12,rfl,i2,_,rfl,?_⟩;cases e2:bA 0 12 ss with
   | false=>refine aU ?_;rw[e1,e2] at k;exact k H (aH.refl _)
   | true=>
   refine aV ?_;rw[e1,e2] at k;simp only [Bool.true_and] at k;cases vs with
   | tup vs=>
    cases ss with
    | tup ss=>
     obtain⟨va,vxs,rfl,qv,lv⟩:=i1.ut;obtain⟨sa,sxs,rfl,qs,ls⟩:=i2.ut;simp only [bA,Bool.and_eq_true,decide_eq_true_eq] at e1 e2;dsimp only [gW] at k;have evl:=lv.length;have esl:=ls.length;refine⟨_,rfl,true,va,rfl,⟨_,qv⟩,tT (K:=K) (xs:=vxs) (λ i aa H'=>aH H H'/\(∀ (j:Nat) g,j < i->vs[j]? = some g->fL j vs.length ss.length g=true)/\∃ v3 v4,aa=[some (.ref a),some (.ref va),some (.ref sa),v3,v4]) (λ i aa H' h=>h.1.tup qv) ⟨aH.refl _,λ j g h=>absurd h (abt _),_,_,rfl⟩ ?_ ?_⟩
     ·rintro aa H1 ⟨s1,hall,v3,v4,rfl⟩;rw[gA.mpr λ i g hg=>hall i g (by have:=(aaf.mp hg).1;omega) hg] at k;simp only [Bool.true_and] at k;refine⟨_,rfl,sa,rfl,⟨_,s1.tup qs⟩,iZ (q:=fZ vs.length) (rest:=[some (.ref va)]) (s1.tup qs) (aO.same s1 ls) rfl (by omega) (λ x g H' Q' s' ig k'=>⟨_,rfl,_,rfl,va,vxs,rfl,.inr ((s1.trans s').tup qv),x,g,_,rfl,ig,by rw[evl];exact k'⟩) λ D2 H3 s3 hD2=>?_⟩;refine⟨false,D2,_,rfl,cG.of hD2,?_⟩;rw[mQ];exact k _ (s1.trans s3)
     ·rintro i xi aa H1 Tt hxi ⟨s1,hall,v3,v4,rfl⟩ hTt;obtain⟨g,hg,ig⟩:=lv.get' hxi;have s2:=aH.new (o:=HO.tup [.int (i:Int),xi]) hTt;refine⟨Tt,_,rfl,bU.of aF,rfl,_,_,rfl,_,_,rfl,rfl,?_⟩;generalize upd H1 Tt (HO.tup [.int (i:Int),xi])=H2 at s2 ⊢;have s12:=s1.trans s2;refine⟨_,rfl,_,rfl,_,rfl,va,vxs,rfl,.inr (s12.tup qv),_,rfl,sa,sxs,rfl,.inr (s12.tup qs),xi,g,i,_,_,rfl,aI.same s12 ig,λ H3 s3=>⟨_,rfl,?_⟩⟩;rw[evl,esl];cases e:fL i vs.length ss.length g with
      | false=>
       refine aU ?_;rw[jB hg e] at k;exact k _ (s12.trans s3)
      | true=>
       refine aV ?_;refine⟨s12.trans s3,λ j g' hj hg'=>?_,_,_,rfl⟩;rcases (show j < i\/j=i by omega) with z | rfl
       ·exact hall j g' z hg'
       ·rw[hg] at hg';cases hg';exact e
    | _=>simp [bA] at e2
   | _=>simp [bA] at e1
theorem uA {i n m:Int}{sz br os ho sp ac:G}:fL i n m (.tup [sz,br,os,ho,sp,ac])=(bM 1 60 sz && iQ sz br && bA 1 3 os && bA 0 3 ac && (gW os).all (g6 n) && u6 ho && wB (i+1) (n - 1) sp && (gW ac).all (fN m)):=rfl
theorem j3 (g:G):dF g "tuple" = (match g with | .tup _=>true | _=>false):=by cases g <;> rfl
theorem nK (g:G):dF g "bool" = u6 g:=by cases g <;> rfl
theorem vA (g:G):dF g "str" = (match g with | .str _=>true | _=>false):=by cases g <;> rfl
theorem kC {q:G->Bool}{gs:List G}{g:G} (h:g∈gs) (e:q g=false):gs.all q=false:=by
 cases z:gs.all q with
 | false=>rfl
 | true=>rw[aaw.mp z g h] at e;cases e
theorem g7 {f f1:Addr}{fd fd1:FuncData} (F:Fun K "_law_is_vessel" "_law_is_vessel" (bP 58) f fd) (T:Txt mg) (TS:TxtS mg) (G__law_whole:Callee P w K mg base "_law_whole" ["thing","low","high"] 1 (cL K) f1 fd1) :
  FnOk P w K mg base fK 2 f fd ["thing","number","many","spouts"] (hG K):=by
 refine F.ok dI (λ vs H Q E h=>?_) (λ cdv A outer s H vs Q E hr h=>?_)
 ·obtain⟨x,g,i,n,m,rfl,_⟩:=h;rfl
 ·obtain⟨x,g,i,n,m,rfl,hg,k⟩:=h;have sc:=dI;refine⟨_,(aE (bI (PW.pt (cM (bC (aX (aL (aR (K:=K) rfl) rfl T.b_isinstance aQ (aA (pv 0) (aA (bG (v:=.ty "tuple") rfl T.b_tuple bO rfl) aB))))) (cM (aW kW (iY K T.b_len (pv 0)) aD (aZ _)) (cI (bC (aX (bY G__law_whole hr (aA (px K (pv 0) aD) (aA aD (aA aD aB)))))))))) (aG (aM bV)) aP)
   (aE (bI (PW.pt (cM (bC (aX (bY G__law_whole hr (aA (px K (pv 0) aD) (aA (px K (pv 0) aD) (aA aD aB)))))) (cI (bC (aX (aL (aR (K:=K) rfl) rfl T.b_isinstance aQ (aA (px K (pv 0) aD) (aA (bG (v:=.ty "bool") rfl T.b_bool eM rfl) aB)))))))) (aG (aM bV)) aP)
   (aE (bI (PW.pt (cM (bC (aX (aL (aR (K:=K) rfl) rfl T.b_isinstance aQ (aA (px K (pv 0) aD) (aA (bG (v:=.ty "tuple") rfl T.b_tuple bO rfl) aB))))) (cI (bC (n6 fS fS aD (iY K T.b_len (px K (pv 0) aD)) aD))))) (aG (aM bV)) aP)
   (aE (bI (PW.pt (cM (bC (aX (aL (aR (K:=K) rfl) rfl T.b_isinstance aQ (aA (px K (pv 0) aD) (aA (bG (v:=.ty "tuple") rfl T.b_tuple bO rfl) aB))))) (cI (aW gP (iY K T.b_len (px K (pv 0) aD)) aD (aZ _))))) (aG (aM bV)) aP)
   (aE (d7 PassesOwn.never rfl (cX (K:=K) rfl (aS (fF (K:=K) rfl) (px K (pv 0) aD) (px K (pv 0) aD))) (gL 4 sc.nd) (aG (bI (PW.pt (cM (bC (aX (aL (aR (K:=K) rfl) rfl T.b_isinstance aQ (aA (pv 4) (aA (bG (v:=.ty "tuple") rfl T.b_tuple bO rfl) aB))))) (cI (aW kW (iY K T.b_len (pv 4)) aD (aZ _))))) (aG (aM bV)) aP)))
   (aE (d7 PassesOwn.never rfl (cX (K:=K) rfl (px K (pv 0) aD)) (cQ (K:=K) (n:=2) rfl rfl (aT (gL 5 sc.nd) (aT (gL 6 sc.nd) cP))) (aG (bI (PW.pt (cM (PW.pt (dP (aW uP (pv 5) cS (aZ _)) (dJ (bC (aX (bY G__law_whole hr (aA (pv 5) (aA aD (aA (aS cU (pv 2) aD) aB))))))))) (cI (bC (aX (bY G__law_whole hr (aA (pv 6) (aA aD (aA aD aB))))))))) (aG (aM bV)) aP)))
   (aE (d7 PassesOwn.never rfl (cX (K:=K) rfl (px K (pv 0) aD)) (cQ (K:=K) (n:=2) rfl rfl (aT (gL 7 sc.nd) (aT (gL 8 sc.nd) cP))) (aG (bI (PW.pt (cM (bC (aX (aL (aR (K:=K) rfl) rfl T.b_isinstance aQ (aA (pv 7) (aA (bG (v:=.ty "str") rfl TS.b_str tX rfl) aB))))) (cM (aW (sP (K:=K) rfl hr.units) (pv 7) (bB (aA bQ (aA bQ (aA bQ aB)))) (by rfl)) (cI (bC (aX (bY G__law_whole hr (aA (pv 8) (aA aD (aA (aS cU (pv 3) aD) aB)))))))))) (aG (aM bV)) aP)))
   (aG (aM (sL (dL lU (px K (pv 0) aD) cS (aZ _)) (dR (bY G__law_whole hr (aA (px K (pv 0) aD) (aA (aS cF (pv 1) aD) (aA (aS cU (pv 2) aD) aB))))))))))))))),?_⟩
  have kF:fL i n m g=false->∀ H',aH H H'->Q (.bl false) H':=λ e H' s=>by have:=k H' s;rw[e] at this;exact this
  refine⟨_,rfl,x,"tuple",g,rfl,by decide,hg,_,rfl,?_⟩;cases e0:dF g "tuple" with
  | false=>exact aU (aU (kF (by cases g <;> first | rfl | (simp [dF,fU] at e0)) _ (aH.refl _)))
  | true=>
  refine aV ?_;cases g with
  | tup gs=>
   obtain⟨a,xs,rfl,q,l⟩:=hg.ut;have el:=l.length;refine⟨_,rfl,a,xs,rfl,.inr q,rfl,_,rfl,?_⟩
   by_cases h6:gs.length=6
   rotate_left
   ·rw[show (!decide (V.int (xs.length:Int)=V.int 6))=true by rw[el];simp;omega];refine aU (aU ?_);exact kF (rP (by simp [bA];omega)) _ (aH.refl _)
   rw[show (!decide (V.int (xs.length:Int)=V.int 6))=false by rw[el,h6];simp];refine aV ?_;obtain⟨sz,br,os,ho,sp,ac,e⟩:=rW (g:=.tup gs) (by simp [bA,h6]);injection e with e;subst e;obtain⟨x1,r,rfl,i1,l⟩:=l.un;obtain⟨x2,r,rfl,i2,l⟩:=l.un;obtain⟨x3,r,rfl,i3,l⟩:=l.un;obtain⟨x4,r,rfl,i4,l⟩:=l.un;obtain⟨x5,r,rfl,i5,l⟩:=l.un;obtain⟨x6,r,rfl,i6,l⟩:=l.un;obtain rfl:=l.un0;rw[uA] at kF k;refine⟨_,rfl,.inr (.inl ⟨a,_,0,_,rfl,rfl,q,rfl,x1,sz,1,60,rfl,i1,_,rfl,?_⟩)⟩;cases e1:bM 1 60 sz with
   | false=>exact aU (kF (by rw[e1];rfl) _ (aH.refl _))
   | true=>
   refine aV ?_;obtain⟨z,rfl,_⟩:=cZ e1;obtain rfl:=i1.ui;refine⟨_,rfl,.inr (.inl ⟨a,_,1,_,rfl,rfl,q,rfl,_,rfl,.inr (.inl ⟨a,_,0,_,rfl,rfl,q,rfl,x2,br,z,200,rfl,i2,_,rfl,?_⟩)⟩)⟩;cases e2:bM z 200 br with
   | false=>exact aU (aU (kF (by rw[show iQ (.int z) br=false from e2];simp) _ (aH.refl _)))
   | true=>
   refine aV ?_;refine⟨_,rfl,.inr (.inl ⟨a,_,3,_,rfl,rfl,q,rfl,x4,"bool",ho,rfl,by decide,i4,_,rfl,?_⟩)⟩;rw[nK];cases e3:u6 ho with
   | false=>exact aU (kF (by rw[e3];simp) _ (aH.refl _))
   | true=>
   refine aV ?_;refine⟨_,rfl,.inr (.inl ⟨a,_,2,_,rfl,rfl,q,rfl,x3,"tuple",os,rfl,by decide,i3,_,rfl,?_⟩)⟩;rw[j3];cases os with
   | tup os=>
    refine aV ?_;obtain⟨oa,oxs,rfl,qo,lo⟩:=i3.ut;have eol:=lo.length;refine⟨_,rfl,.inr (.inl ⟨a,_,2,_,rfl,rfl,q,rfl,oa,oxs,rfl,.inr qo,_,_,rfl,rfl,_,rfl,?_⟩)⟩;rw[eol]
    by_cases ho1:(1:Int)<=os.length
    rotate_left
    ·rw[aao ho1];exact aV ⟨_,rfl,aU (kF (by simp [bA,ho1]) _ (aH.refl _))⟩
    rw[aax ho1];refine aU ⟨_,_,rfl,rfl,_,rfl,?_⟩
    by_cases ho3:(os.length:Int)<=3
    rotate_left
    ·rw[aao ho3];exact aU (kF (by simp [bA,ho3]) _ (aH.refl _))
    rw[aax ho3];refine aV ?_;refine⟨_,rfl,.inr (.inl ⟨a,_,5,_,rfl,rfl,q,rfl,x6,"tuple",ac,rfl,by decide,i6,_,rfl,?_⟩)⟩;rw[j3];cases ac with
    | tup ac=>
     refine aV ?_;obtain⟨ca,cxs,rfl,qc,lc⟩:=i6.ut;have ecl:=lc.length;refine⟨_,rfl,.inr (.inl ⟨a,_,5,_,rfl,rfl,q,rfl,ca,cxs,rfl,.inr qc,_,_,rfl,rfl,_,rfl,?_⟩)⟩;rw[ecl]
     by_cases hc3:(3:Int) < ac.length
     ·rw[aax hc3];exact aU (kF (by simp [bA];omega) _ (aH.refl _))
     rw[aao hc3];refine aV ?_;have eT:bA 1 3 (.tup os)=true/\bA 0 3 (.tup ac)=true:=by simp [bA];omega
     rw[e1,show iQ (.int z) br=true from e2,eT.1,eT.2,e3] at k kF;simp only [Bool.true_and,Bool.and_true,gW] at k kF;clear e1 e2 e3 eT;refine⟨_,rfl,.inr (.inl ⟨a,_,2,_,rfl,rfl,q,rfl,_,rfl,.inr (.inl ⟨a,_,5,_,rfl,rfl,q,rfl,oa,ca,oxs,cxs,rfl,rfl,qo,qc,by rw[sizeLine_eq];omega,λ pa H1 s1 qp=>?_⟩)⟩)⟩;have lp:=aO.same s1 (lo.app lc);refine⟨pa,rfl,⟨_,qp⟩,j9 (K:=K) (a:=pa) (xs:=oxs++cxs) (λ t aa H'=>H1=H'/\(∀ (j:Nat) g,j < t->(os++ac)[j]? = some g->bA 2 2 g=true)/\∃ v4,aa=[some (.ref a),some (.int i),some (.int n),some (.int m),v4,none,none,none,none]) ⟨rfl,λ j g h=>absurd h (abt _),_,rfl⟩ (λ t aa H' _ h=>by rw[<- h.1];exact qp) ?_ ?_⟩
     ·rintro t y aa _ hy ⟨rfl,hall,v4,rfl⟩;obtain⟨g,hg,ig⟩:=lp.get' hy;dsimp only [cC];have bad:bA 2 2 g=false->Q (.bl false) H1:=λ e=>kF (by
       rcases aau.mp (aaq hg) with hm | hm
       ·rw[kC hm (sM e)];rfl
       ·rw[kC hm (u3 e)];simp) _ s1
      refine⟨_,rfl,y,"tuple",g,rfl,by decide,ig,_,rfl,?_⟩;rw[j3];cases g with
      | tup gs=>
       refine aV ?_;obtain⟨ga,gxs,rfl,qg,lg⟩:=ig.ut;have egl:=lg.length;refine⟨_,rfl,ga,gxs,rfl,.inr qg,rfl,_,rfl,?_⟩
       by_cases h2:gs.length=2
       ·rw[show (!decide (V.int (gxs.length:Int)=V.int 2))=false by rw[egl,h2];simp];refine aV ⟨rfl,λ j g' hj hg'=>?_,_,rfl⟩;rcases (show j < t\/j=t by omega) with z | rfl
        ·exact hall j g' z hg'
        ·rw[hg] at hg';cases hg';simp [bA,h2]
       ·rw[show (!decide (V.int (gxs.length:Int)=V.int 2))=true by rw[egl];simp;omega];exact aU (bad (by simp [bA];omega))
      | _=>exact aU (aU (bad rfl))
     ·rintro aa _ ⟨rfl,hall,v4,rfl⟩;have hal:∀ g∈os++ac,bA 2 2 g=true:=λ g hg=>by
       obtain⟨j,hj⟩:=abm.1 hg;exact hall j g (by have:=(aaf.mp hj).1;rw[aaz] at this ⊢;omega) hj
      clear hall lp qp;have lo1:=aO.same s1 lo;have lc1:=aO.same s1 lc;refine⟨_,rfl,.inr (.inl ⟨a,_,2,_,rfl,rfl,s1.tup q,rfl,oa,rfl,⟨_,s1.tup qo⟩,j9 (K:=K) (a:=oa) (xs:=oxs) (λ t aa H'=>H1=H'/\(∀ (j:Nat) g,j < t->os[j]? = some g->g6 n g=true)/\∃ v5 v6,aa=[some (.ref a),some (.int i),some (.int n),some (.int m),v4,v5,v6,none,none]) ⟨rfl,λ j g h=>absurd h (abt _),_,_,rfl⟩ (λ t aa H' _ h=>by rw[<- h.1];exact s1.tup qo) ?_ ?_⟩)⟩
      ·rintro t y aa _ hy ⟨rfl,hall,v5,v6,rfl⟩;obtain⟨g,hg,ig⟩:=lo1.get' hy;obtain⟨tg,pt,rfl⟩:=h9 (hal g (abu _ (aaq hg)));obtain⟨ga,gxs,rfl,qg,lg⟩:=ig.ut;obtain⟨xt,r,rfl,ht,lg⟩:=lg.un;obtain⟨xp,r,rfl,hp,lg⟩:=lg.un;obtain rfl:=lg.un0;refine⟨ga,_,rfl,qg,rfl,_,_,rfl,_,_,rfl,rfl,?_⟩;have bad:g6 n (.tup [tg,pt])=false->Q (.bl false) H1:=λ e=>kF (by rw[kC (aaq hg) e];rfl) _ s1;have good:g6 n (.tup [tg,pt])=true->H1=H1/\(∀ (j:Nat) g,j < t+1->os[j]? = some g->g6 n g=true)/\∃ v5 v6,[some (V.ref a),some (.int i),some (.int n),some (.int m),v4,some xt,some xp,none,none]=[some (.ref a),some (.int i),some (.int n),some (.int m),v4,v5,v6,none,none]:=λ e=>by
        refine⟨rfl,λ j g' hj hg'=>?_,_,_,rfl⟩;rcases (show j < t\/j=t by omega) with z | rfl
        ·exact hall j g' z hg'
        ·rw[hg] at hg';cases hg';exact e
       dsimp only [g6] at bad good;rcases j4 ht with ⟨rfl,rfl⟩ | ⟨n1,n2⟩
       ·refine⟨_,rfl,rfl,_,rfl,?_⟩;rw[aax rfl];refine aV (aV ?_);refine⟨_,rfl,xp,pt,1,60,rfl,hp,_,rfl,?_⟩;cases e:bM 1 60 pt with
        | false=>exact aU (bad (by rw[e];simp))
        | true=>exact aV (good (by rw[e];rfl))
       ·refine⟨_,rfl,rfl,_,rfl,?_⟩;rw[aao n1];rw[lI n2] at bad good;refine aU ⟨_,rfl,_,rfl,_,_,rfl,rfl,xt,tg,0,_,rfl,ht,_,rfl,?_⟩;cases e':bM 0 (n - 1) tg with
        | false=>exact aU (aU (bad (by rw[e'];rfl)))
        | true=>
         refine aV ⟨_,rfl,xp,pt,1,60,rfl,hp,_,rfl,?_⟩;cases e:bM 1 60 pt with
         | false=>exact aU (bad (by rw[e];simp))
         | true=>exact aV (good (by rw[e',e];rfl))
      ·rintro aa _ ⟨rfl,hall,v5,v6,rfl⟩;have hos:os.all (g6 n)=true:=aaw.mpr λ g hg=>by
        obtain⟨j,hj⟩:=abm.1 hg;exact hall j g (by have:=(aaf.mp hj).1;omega) hj
       rw[hos] at k kF;simp only [Bool.true_and] at k kF;refine⟨_,rfl,.inr (.inl ⟨a,_,5,_,rfl,rfl,s1.tup q,rfl,ca,rfl,⟨_,s1.tup qc⟩,j9 (K:=K) (a:=ca) (xs:=cxs) (λ t aa H'=>aH H1 H'/\(∀ (j:Nat) g,j < t->ac[j]? = some g->fN m g=true)/\∃ v7 v8,aa=[some (.ref a),some (.int i),some (.int n),some (.int m),v4,v5,v6,v7,v8]) ⟨aH.refl _,λ j g h=>absurd h (abt _),_,_,rfl⟩ (λ t aa H' _ h=>(s1.trans h.1).tup qc) ?_ ?_⟩)⟩
       ·rintro t y aa H2 hy ⟨s2,hall,v7,v8,rfl⟩;obtain⟨g,hg,ig⟩:=(aO.same s2 lc1).get' hy;obtain⟨tg,pt,rfl⟩:=h9 (hal g (aap _ (aaq hg)));obtain⟨ga,gxs,rfl,qg,lg⟩:=ig.ut;obtain⟨xt,r,rfl,ht,lg⟩:=lg.un;obtain⟨xp,r,rfl,hp,lg⟩:=lg.un;obtain rfl:=lg.un0;refine⟨ga,_,rfl,qg,rfl,_,_,rfl,_,_,rfl,rfl,?_⟩;have bad:fN m (.tup [tg,pt])=false->∀ H3,aH H2 H3->Q (.bl false) H3:=λ e H3 s3=>kF (by rw[kC (aaq hg) e];simp) _ ((s1.trans s2).trans s3);have good:fN m (.tup [tg,pt])=true->∀ H3,aH H2 H3->aH H1 H3/\(∀ (j:Nat) g,j < t+1->ac[j]? = some g->fN m g=true)/\∃ v7 v8,[some (V.ref a),some (.int i),some (.int n),some (.int m),v4,v5,v6,some xt,some xp]=[some (.ref a),some (.int i),some (.int n),some (.int m),v4,v5,v6,v7,v8]:=λ e H3 s3=>by
         refine⟨s2.trans s3,λ j g' hj hg'=>?_,_,_,rfl⟩;rcases (show j < t\/j=t by omega) with z | rfl
         ·exact hall j g' z hg'
         ·rw[hg] at hg';cases hg';exact e
        dsimp only [fN] at bad good;refine⟨_,rfl,xt,"str",tg,rfl,by decide,ht,_,rfl,?_⟩;rw[vA];cases tg with
        | str zz=>
         refine aV ?_;refine⟨_,rfl,(show 3<=sizeLine by decide),λ wl hwl=>?_⟩;have s3:=aH.new (o:=HO.lst [.str "open",.str "shut",.str "turn"]) hwl;refine⟨.str zz,wl,dO,_,rfl,.inl (cG.of aF),by decide,aI.same s3 ht,.cons (.s _) (.cons (.s _) (.cons (.s _) .nil)),_,rfl,?_⟩;generalize upd H2 wl _=H3 at s3 ⊢;cases e:rM (.str zz) dO with
         | false=>exact aU (aU (bad (by rw[e];rfl) _ s3))
         | true=>
          refine aV ⟨_,rfl,_,rfl,_,_,rfl,rfl,xp,pt,0,_,rfl,aI.same s3 hp,_,rfl,?_⟩;cases e':bM 0 (m - 1) pt with
          | false=>exact aU (bad (by rw[e'];simp) _ s3)
          | true=>exact aV (good (by rw[e,e'];rfl) _ s3)
        | _=>exact aU (aU (bad (by simp [rM,dO,b9]) _ (aH.refl _)))
       ·rintro aa H2 ⟨s2,hall,v7,v8,rfl⟩;have hac:ac.all (fN m)=true:=aaw.mpr λ g hg=>by
         obtain⟨j,hj⟩:=abm.1 hg;exact hall j g (by have:=(aaf.mp hj).1;omega) hj
        rw[hac] at k;simp only [Bool.and_true] at k;have s12:=s1.trans s2;rcases j4 i5 with ⟨rfl,rfl⟩ | ⟨n1,n2⟩
        ·refine⟨_,rfl,.inr (.inl ⟨a,_,4,_,rfl,rfl,s12.tup q,rfl,rfl,_,rfl,xK rfl ?_⟩)⟩;exact k _ s12
        ·refine⟨_,rfl,.inr (.inl ⟨a,_,4,_,rfl,rfl,s12.tup q,rfl,rfl,_,rfl,?_⟩)⟩;rw[aao n1];rw[lI n2] at k;exact aV ⟨_,rfl,.inr (.inl ⟨a,_,4,_,rfl,rfl,s12.tup q,rfl,_,rfl,_,_,rfl,rfl,_,rfl,_,_,rfl,rfl,x5,sp,_,_,rfl,aI.same s12 i5,k _ s12⟩)⟩
    | _=>exact aU (aU (kF (by simp [bA]) _ (aH.refl _)))
   | _=>exact aU (aU (kF (by simp [bA]) _ (aH.refl _)))
  | _=>simp [dF,fU] at e0
theorem eB {g:G} (h:dF g "tuple" = true):∃ gs,g=.tup gs:=by
 rw[j3] at h;cases g with
 | tup gs=>exact⟨gs,rfl⟩
 | _=>cases h
theorem iS {f f1 f2:Addr}{fd fd1 fd2:FuncData} (F:Fun K "_law_is_net" "_law_is_net" (bP 57) f fd) (T:Txt mg) (G__law_whole:Callee P w K mg base "_law_whole" ["thing","low","high"] 1 (cL K) f1 fd1)
  (G__law_is_vessel:Callee P w K mg base "_law_is_vessel" ["thing","number","many","spouts"] 2 (hG K) f2 fd2):FnOk P w K mg base fK 3 f fd ["thing"] (g3 K):=by
 refine F.ok eV (λ vs H Q E h=>?_) (λ cdv A outer s H vs Q E hr h=>?_)
 ·obtain⟨x,g,rfl,_⟩:=h;rfl
 ·obtain⟨x,g,rfl,hg,k⟩:=h;have sc:=eV;refine⟨_,(aE (bI (PW.pt (cM (bC (aX (aL (aR (K:=K) rfl) rfl T.b_isinstance aQ (aA (pv 0) (aA (bG (v:=.ty "tuple") rfl T.b_tuple bO rfl) aB))))) (cM (aW kW (iY K T.b_len (pv 0)) aD (aZ _)) (cI (bC (aX (aL (fJ (K:=K) rfl rfl) rfl T.b_all PyProof.Rows.boot_all (aA (kU (λ _ _ h=>h) rfl (LcOk.mk (N':=["part"]) (fr:=[none]) rfl trivial rfl rfl rfl rfl rfl trivial) (cX (K:=K) rfl (pv 0)) (λ _ _ _=>(gC 0 ["part"])) (λ _ _ _=>eH) (λ _ _ _=>(aL (aR (K:=K) rfl) rfl T.b_isinstance aQ (aA (pv 0) (aA (bG (v:=.ty "tuple") rfl T.b_tuple bO rfl) aB))))) aB)))))))) (aG (aM bV)) aP)
   (aE (bI (PW.pt (cM (bC (n6 fS fS aD (iY K T.b_len (px K (pv 0) aD)) aD)) (cI (aW gP (iY K T.b_len (px K (pv 0) aD)) aD (aZ _))))) (aG (aM bV)) aP)
   (aE (d7 PassesOwn.never rfl (d4 rfl T.b_range (aA (iY K T.b_len (px K (pv 0) aD)) aB)) (gL 1 sc.nd) (aG (bI (bC (aX (bY G__law_is_vessel hr (aA (px K (px K (pv 0) aD) (pv 1)) (aA (pv 1) (aA (iY K T.b_len (px K (pv 0) aD)) (aA (iY K T.b_len (px K (pv 0) aD)) aB))))))) (aG (aM bV)) aP)))
   (aE (d7 PassesOwn.never rfl (cX (K:=K) rfl (px K (pv 0) aD)) (gL 2 sc.nd) (aE (bI (PW.pt (cM (bC (aX (aL (aR (K:=K) rfl) rfl T.b_isinstance aQ (aA (pv 2) (aA (bG (v:=.ty "tuple") rfl T.b_tuple bO rfl) aB))))) (cM (aW kW (iY K T.b_len (pv 2)) aD (aZ _)) (cI (bC (aX (aL (aR (K:=K) rfl) rfl T.b_isinstance aQ (aA (px K (pv 2) aD) (aA (bG (v:=.ty "bool") rfl T.b_bool eM rfl) aB))))))))) (aG (aM bV)) aP)
   (aG (bI (PW.pt (cM (bC (aX (bY G__law_whole hr (aA (px K (pv 2) aD) (aA aD (aA (aS cU (iY K T.b_len (px K (pv 0) aD)) aD) aB)))))) (cI (bC (aX (bY G__law_whole hr (aA (px K (pv 2) aD) (aA aD (aA aD aB))))))))) (aG (aM bV)) aP))))
   (aG (aM bV)))))),?_⟩
  have kF:dC g=false->∀ H',aH H H'->Q (.bl false) H':=λ e H' s=>by have:=k H' s;rw[e] at this;exact this
  refine⟨_,rfl,x,"tuple",g,rfl,by decide,hg,_,rfl,?_⟩;cases e0:dF g "tuple" with
  | false=>exact aU (aU (kF (by cases g <;> first | rfl | (simp [dF,fU] at e0)) _ (aH.refl _)))
  | true=>
  refine aV ?_;obtain⟨gs,rfl⟩:=eB e0;obtain⟨a,xs,rfl,q,l⟩:=hg.ut;have el:=l.length;refine⟨_,rfl,a,xs,rfl,.inr q,rfl,_,rfl,?_⟩
  by_cases h2:gs.length=2
  rotate_left
  ·rw[show (!decide (V.int (xs.length:Int)=V.int 2))=true by rw[el];simp;omega];refine aU (aU ?_);exact kF (pY (by simp [bA];omega)) _ (aH.refl _)
  rw[show (!decide (V.int (xs.length:Int)=V.int 2))=false by rw[el,h2];simp];refine aV ?_;refine⟨_,rfl,a,rfl,⟨_,q⟩,iZ (q:=λ g=>dF g "tuple") (rest:=[]) q l rfl (by omega) (λ x g H' Q' s' ig k'=>⟨_,rfl,x,"tuple",g,rfl,by decide,ig,k'⟩) λ D1 H1 s1 hD1=>?_⟩;refine⟨false,D1,_,rfl,cG.of hD1,_,rfl,?_⟩;rw[mQ];obtain⟨vs,ss,e⟩:=h9 (g:=.tup gs) (by simp [bA,h2]);injection e with e;subst e;obtain⟨x1,r,rfl,i1,l⟩:=l.un;obtain⟨x2,r,rfl,i2,l⟩:=l.un;obtain rfl:=l.un0;clear h2 el e0;cases e1:([vs,ss].all λ g=>dF g "tuple") with
  | false=>
   refine aU (kF ?_ _ s1);rw[m9];cases vs with
   | tup vs=>
    cases ss with
    | tup ss=>simp [dF,fU] at e1
    | _=>simp [bA]
   | _=>simp [bA]
  | true=>
  refine aV ?_;simp only [List.all_cons,List.all_nil,Bool.and_true,Bool.and_eq_true] at e1;obtain⟨vs,rfl⟩:=eB e1.1;obtain⟨ss,rfl⟩:=eB e1.2;rw[m9] at k kF;have q1:=s1.tup q;have i11:=aI.same s1 i1;have i21:=aI.same s1 i2;obtain⟨va,vxs,rfl,qv,lv⟩:=i11.ut;obtain⟨sa,sxs,rfl,qs,ls⟩:=i21.ut;have evl:=lv.length;have esl:=ls.length;refine⟨_,rfl,.inr (.inl ⟨a,_,0,_,rfl,rfl,q1,rfl,va,vxs,rfl,.inr qv,_,_,rfl,rfl,_,rfl,?_⟩)⟩;rw[evl]
  by_cases h1:(1:Int)<=vs.length
  rotate_left
  ·rw[aao h1];exact aV ⟨_,rfl,aU (kF (by simp [bA,h1]) _ s1)⟩
  rw[aax h1];refine aU ⟨_,_,rfl,rfl,_,rfl,?_⟩
  by_cases h12:(vs.length:Int)<=12
  rotate_left
  ·rw[aao h12];exact aU (aU (kF (by simp [bA,h12]) _ s1))
  rw[aax h12];refine aV ⟨_,rfl,.inr (.inl ⟨a,_,1,_,rfl,rfl,q1,rfl,sa,sxs,rfl,.inr qs,_,_,rfl,rfl,_,rfl,?_⟩)⟩;rw[esl]
  by_cases h3:(12:Int) < ss.length
  ·rw[aax h3];exact aU (kF (by simp [bA];omega) _ s1)
  rw[aao h3];refine aV ?_;have eT:bA 1 12 (.tup vs)=true/\bA 0 12 (.tup ss)=true:=by simp [bA];omega
  rw[eT.1,eT.2] at k kF;simp only [Bool.true_and,gW] at k kF;refine⟨_,rfl,.inr (.inl ⟨a,_,0,_,rfl,rfl,q1,rfl,va,vxs,rfl,.inr qv,_,rfl,by omega,by omega,?_⟩)⟩;rw[show ((vxs.length:Nat):Int).toNat=vxs.length from by simp];refine eD (lo:=0) (n:=vxs.length) (λ i aa H'=>aH H1 H'/\(∀ (j:Nat) g,j < i->vs[j]? = some g->fL j vs.length ss.length g=true)/\∃ v1,aa=[some (.ref a),v1,none]) ⟨aH.refl _,λ j g h=>absurd h (abt _),_,rfl⟩ ?_ ?_
  ·rintro i aa H2 hi ⟨s2,hall,v1,rfl⟩;rw[Int.zero_add];dsimp only [cC];obtain⟨g,hg⟩:∃ g,vs[i]? = some g:=⟨_,abw (by omega)⟩;obtain⟨y,hy,ig⟩:=lv.get hg;have q2:=s2.tup q1;refine⟨_,rfl,.inr (.inl ⟨a,_,0,_,rfl,rfl,q2,rfl,_,rfl,.inr (.inl ⟨va,vxs,(i:Int),y,rfl,rfl,s2.tup qv,dN hy,_,rfl,_,rfl,.inr (.inl ⟨a,_,0,_,rfl,rfl,q2,rfl,va,vxs,rfl,.inr (s2.tup qv),_,rfl,.inr (.inl ⟨a,_,1,_,rfl,rfl,q2,rfl,sa,sxs,rfl,.inr (s2.tup qs),y,g,i,_,_,rfl,aI.same s2 ig,λ H3 s3=>⟨_,rfl,?_⟩⟩)⟩)⟩)⟩)⟩;rw[evl,esl];cases e:fL i vs.length ss.length g with
   | false=>exact aU (kF (by rw[jB hg e];rfl) _ ((s1.trans s2).trans s3))
   | true=>
    refine aV ⟨s2.trans s3,λ j g' hj hg'=>?_,_,rfl⟩;rcases (show j < i\/j=i by omega) with z | rfl
    ·exact hall j g' z hg'
    ·rw[hg] at hg';cases hg';exact e
  ·rintro aa H2 ⟨s2,hall,v1,rfl⟩;rw[gA.mpr λ i g hg=>hall i g (by have:=(aaf.mp hg).1;omega) hg] at k kF;simp only [Bool.true_and] at k kF;have s12:=s1.trans s2;have q2:=s2.tup q1;refine⟨_,rfl,.inr (.inl ⟨a,_,1,_,rfl,rfl,q2,rfl,sa,rfl,⟨_,s2.tup qs⟩,j9 (K:=K) (a:=sa) (xs:=sxs) (λ t aa H'=>H2=H'/\(∀ (j:Nat) g,j < t->ss[j]? = some g->fZ vs.length g=true)/\∃ v2,aa=[some (.ref a),v1,v2]) ⟨rfl,λ j g h=>absurd h (abt _),_,rfl⟩ (λ t aa H' _ h=>by rw[<- h.1];exact s2.tup qs) ?_ ?_⟩)⟩
   ·rintro t y aa _ hy ⟨rfl,hall,v2,rfl⟩;dsimp only [cC];obtain⟨g,hg,ig⟩:=(aO.same s2 ls).get' hy;have bad:fZ vs.length g=false->Q (.bl false) H2:=λ e=>kF (kC (aaq hg) e) _ s12;have good:fZ vs.length g=true->H2=H2/\(∀ (j:Nat) g,j < t+1->ss[j]? = some g->fZ vs.length g=true)/\∃ v2,[some (V.ref a),v1,some y]=[some (.ref a),v1,v2]:=λ e=>by
     refine⟨rfl,λ j g' hj hg'=>?_,_,rfl⟩;rcases (show j < t\/j=t by omega) with z | rfl
     ·exact hall j g' z hg'
     ·rw[hg] at hg';cases hg';exact e
    refine⟨_,rfl,y,"tuple",g,rfl,by decide,ig,_,rfl,?_⟩;cases e0:dF g "tuple" with
    | false=>exact aU (aU (bad (o7 (by cases g <;> first | rfl | (simp [dF,fU] at e0)))))
    | true=>
    refine aV ?_;obtain⟨gs,rfl⟩:=eB e0;obtain⟨ga,gxs,rfl,qg,lg⟩:=ig.ut;have egl:=lg.length;refine⟨_,rfl,ga,gxs,rfl,.inr qg,rfl,_,rfl,?_⟩
    by_cases h3:gs.length=3
    rotate_left
    ·rw[show (!decide (V.int (gxs.length:Int)=V.int 3))=true by rw[egl];simp;omega];exact aU (aU (bad (o7 (by simp [bA];omega))))
    rw[show (!decide (V.int (gxs.length:Int)=V.int 3))=false by rw[egl,h3];simp];refine aV ?_;obtain⟨tg,fl,dr,e⟩:=mU (g:=.tup gs) (by simp [bA,h3]);injection e with e;subst e;obtain⟨xt,r,rfl,ht,lg⟩:=lg.un;obtain⟨xp,r,rfl,hp,lg⟩:=lg.un;obtain⟨xd,r,rfl,hd,lg⟩:=lg.un;obtain rfl:=lg.un0;dsimp only [fZ] at bad good;refine⟨_,rfl,.inr (.inl ⟨ga,_,2,_,rfl,rfl,qg,rfl,xd,"bool",dr,rfl,by decide,hd,_,rfl,?_⟩)⟩;rw[nK];cases e3:u6 dr with
    | false=>exact aU (bad (by rw[e3];simp))
    | true=>
    refine aV ?_;refine⟨_,rfl,.inr (.inl ⟨ga,_,0,_,rfl,rfl,qg,rfl,_,rfl,.inr (.inl ⟨a,_,0,_,rfl,rfl,q2,rfl,va,vxs,rfl,.inr (s2.tup qv),_,_,rfl,rfl,xt,tg,0,_,rfl,ht,_,rfl,?_⟩)⟩)⟩;rw[evl];cases e4:bM 0 ((vs.length:Int) - 1) tg with
    | false=>exact aU (aU (bad (by rw[e4];rfl)))
    | true=>
    refine aV ⟨_,rfl,.inr (.inl ⟨ga,_,1,_,rfl,rfl,qg,rfl,xp,fl,0,60,rfl,hp,_,rfl,?_⟩)⟩;cases e5:bM 0 60 fl with
    | false=>exact aU (bad (by rw[e5];simp))
    | true=>exact aV (good (by rw[e3,e4,e5];rfl))
   ·rintro aa _ ⟨rfl,hall,v2,rfl⟩;have hss:ss.all (fZ vs.length)=true:=aaw.mpr λ g hg=>by
     obtain⟨j,hj⟩:=abm.1 hg;exact hall j g (by have:=(aaf.mp hj).1;omega) hj
    rw[hss] at k;exact k _ s12
end
end Tw
namespace L2
open PySem PySem.Spec PyProof.Rows TwZ
section
variable {g:TG}{tc:TT}{te:TE}{fr:List (Option Nat)}{σ:St}{H1:Hp}{Q:Addr->Hp->Prop}
end
end L2
namespace Tw
open PySem L2
structure Mom where
 tick:Int
 held:List Int
 coming:List Int
 doors:List Bool
 poured:List Int
 came:Int
 ground:Int
def yN (m:Mom):L2.D:=.tup [.int m.tick,stD m.held m.coming m.doors,.tup (m.poured.map L2.D.int),.int m.came,.int m.ground]
def yO (net:Net):Mom:=⟨0,fP net.vs.length,fP net.vs.length,net.sps.map (·.2.2),fP net.vs.length,0,0⟩
theorem nZ {n:Nat} (h:1<=n):(0:Int)::fP (n - 1)=fP n:=by
 obtain⟨k,rfl⟩:∃ k,n=k+1:=⟨n - 1,by omega⟩;simp [fP,List.replicate_succ]
structure RunTx (K:aaa) (C:Addr):Prop where
 cls:Cls K C
 net:fC K C "net"
 rows:fC K C "rows"
 moments:fC K C "moments"
 tips:fC K C "tip_ticks"
section
variable {r dx R M T:Addr}{H H':Hp}{S:RunS}{fp:List Addr}{np mv:V}{ts:List Addr}{rs ms:List V}
theorem x0 {m:Mom}{a po:Addr}{st:V} (q:bU K H a [.int m.tick,st,.ref po,.int m.came,.int m.ground]) (hs:Is K H (stD m.held m.coming m.doors) st) (hp:bU K H po (m.poured.map V.int)):Is K H (yN m) (.ref a):=
 Is.tupOf q (.cons (Is.i _) (.cons hs (.cons (Is.tupOf hp (IsL.of_ints _)) (.cons (Is.i _) (.cons (Is.i _) .nil)))))
end
def hJ (K:aaa):Sp:=λ vs H Q _=>∃ (x:V) (net:Net) (v:Int),vs=[x,.int v]/\Is K H (hX net) x/\NetOk net/\∀ p H',aH H H'->bU K H' p ((v::fP (net.vs.length - 1)).map V.int)->Q (.ref p) H'
theorem jL:FnScope ["net","amount","vessels","spouts"] ["net","amount"] (aK (bP 31)):={}
theorem oQ {f:Addr}{fd:FuncData} (F:Fun K "pouring" "pouring" (bP 31) f fd) (T:Txt mg):FnOk P w K mg base fK 1 f fd ["net","amount"] (hJ K):=by
 refine F.ok jL (λ vs H Q E h=>?_) (λ cdv A outer s H vs Q E hr h=>?_)
 ·obtain⟨x,net,v,rfl,_⟩:=h;rfl
 ·obtain⟨x,net,v,rfl,hx,nok,k⟩:=h;have sc:=jL;refine⟨_,(aE (dQ (pv 0) (cQ (K:=K) (n:=2) rfl rfl (aT (gL 2 sc.nd) (aT (gL 3 sc.nd) cP))))
   (aG (aM (aS (sU (K:=K) rfl) (bE (aA (pv 1) aB)) (aS (sN (K:=K) rfl) (bE (aA aD aB)) (aS cU (iY K T.b_len (pv 2)) aD)))))),?_⟩
  obtain⟨a,b,c,xs,ys,rfl,q,q1,l1,q2,l2⟩:=oV hx;have exl:xs.length=net.vs.length:=by rw[l1.length,aai]
  have n1:=nok.lo;have n2:=nok.hi;refine⟨_,rfl,a,_,rfl,q,rfl,_,_,rfl,_,_,rfl,rfl,?_⟩;refine⟨_,rfl,(show 1<=sizeLine by decide),λ y hy=>⟨(show 1<=sizeLine by decide),λ z hz=>?_⟩⟩;have m1:=aH.new (o:=HO.tup [.int v]) hy;have m2:=aH.new (o:=HO.tup [.int 0]) hz;refine⟨_,rfl,b,xs,rfl,.inr (m2.tup (m1.tup q1)),_,_,rfl,rfl,z,_,[.int 0],rfl,rfl,bU.of aF,by omega,by omega,by simp,by simp,λ e H1 sm1 qe=>?_⟩;have en:(((xs.length:Nat):Int) - 1).toNat=net.vs.length - 1:=by rw[exl];omega
  rw[en,wK] at qe;refine⟨y,e,[.int v],_,rfl,rfl,sm1.tup (m2.tup (bU.of aF)),qe,by simp,cR (by simp;omega) |> Nat.le_of_lt,λ he=>?_,λ _ p hp=>?_⟩
  ·refine k _ _ ((m1.trans m2).trans sm1) ?_;have e0:fP (net.vs.length - 1)=[]:=List.map_eq_nil_iff.mp he;rw[e0];exact sm1.tup (m2.tup (bU.of aF))
  ·exact k _ _ (((m1.trans m2).trans sm1).trans (aH.new hp)) (bU.of aF)
end Tw
namespace L2
open PySem PySem.Spec PyProof.Rows TwZ
theorem Fun.okR {x qual:Str}{st:Stmt}{f:Addr}{fd:FuncData}{N ps:List Str}{k:Nat}{sp:Sp} (F:Fun K x qual st f fd) (S:FnScope N ps (aK st)) (len:∀ vs H Q E,sp vs H Q E->vs.length=ps.length)
  (hbody:∀ (cdv:Value) (A:Around) (outer:List Env) (s:Shared) (H:Hp) (vs:List V) (Q:VK) (E:XK),Room k (A.deeper (envOfC qual (aK st) s.heap.objs.size f cdv))->sp vs H Q E->
   Leaves (nQ (vL P w) P w K mg base N qual (aK st) f cdv A outer s H E) E->
   ∃ t,nY (nQ (vL P w) P w K mg base N qual (aK st) f cdv A outer s H E) (dM st) t/\t { nx:=λ _ H'=>Q .non H',rt:=Q } (gD N vs) H):FnOk P w K mg base (vL P w) (k+1) f fd ps sp:=by
 obtain⟨oc,od,kV,doc,pm,an,cdv,ct,osl,rfl,lk,hcd⟩:=F.ex;exact vZ lk hcd S len λ A outer s H vs Q E hr hsp=>hbody cdv A outer s H vs Q E hr hsp ⟨rfl,rfl,rfl,λ _ _ h=>h⟩
structure ExC (K:aaa) (x:Str) (C:Addr):Prop where
 ns:PySem.W.nsIn K mainGlobals x=some (some (.ref C))
 exc:PySem.W.excIn K C [.type "ValueError",.type "Exception",.type "BaseException",.type "object"] "ValueError.__new__" = true
theorem uN {X:Cx}{a1 a2 a3 a4 a5 a6 a7 a8:Str}{k1 k2 k3 k4 k5 k6 k7 k8:Nat}{p1 p2 p3 p4 p5 p6 p7 p8:Pos} :
  PA X [.Constant (.str a1) k1 p1,.Constant (.str a2) k2 p2,.Constant (.str a3) k3 p3,.Constant (.str a4) k4 p4,.Constant (.str a5) k5 p5,.Constant (.str a6) k6 p6,.Constant (.str a7) k7 p7,.Constant (.str a8) k8 p8]
   (bN (tC (.str a1)) (bN (tC (.str a2)) (bN (tC (.str a3)) (bN (tC (.str a4)) (bN (tC (.str a5)) (bN (tC (.str a6)) (bN (tC (.str a7)) (bN (tC (.str a8)) eG)))))))):=
 have h8:=aA (X:=X) (bQ (x:=a8)) aB;have h7:=aA (bQ (x:=a7)) h8;have h6:=aA (bQ (x:=a6)) h7;have h5:=aA (bQ (x:=a5)) h6;have h4:=aA (bQ (x:=a4)) h5;have h3:=aA (bQ (x:=a3)) h4;have h2:=aA (bQ (x:=a2)) h3
 aA (bQ (x:=a1)) h2
theorem kM:bootBuiltins "ValueError" = some (.type "ValueError"):=by decide +kernel
end L2
namespace Tw
open PySem L2
theorem rA (i:Str):(L2.D.str i).depth=0:=by rw[L2.D.depth] <;> intros <;> (first | rfl | (intro z;cases z) | (rename_i z;cases z))
structure TxtW (mg:Str->Option Value) (c_TipError c_NoNet c_NoVessel c_TooLong c_TooMany c_TooMuch c_Nothing c_NoText c_NoRow:Addr):Prop where
 m_TipError:mg "TipError" = some (.ref c_TipError)
 m_NoNet:mg "NoNet" = some (.ref c_NoNet)
 m_NoVessel:mg "NoVessel" = some (.ref c_NoVessel)
 m_TooLong:mg "TooLong" = some (.ref c_TooLong)
 m_TooMany:mg "TooMany" = some (.ref c_TooMany)
 m_TooMuch:mg "TooMuch" = some (.ref c_TooMuch)
 m_Nothing:mg "Nothing" = some (.ref c_Nothing)
 m_NoText:mg "NoText" = some (.ref c_NoText)
 m_NoRow:mg "NoRow" = some (.ref c_NoRow)
 b_ValueError:mg "ValueError" = none
structure KindOf (K:aaa) (c_NoNet c_NoVessel c_TooLong c_TooMany c_TooMuch c_Nothing c_NoText c_NoRow:Addr) (D:Addr) (bs:List Bool):Prop where
 kit:ExcKit K D
 cl:∃ c d cd sl,K.lookup D=some ⟨c,d,.cls cd,sl⟩
 val:PySem.W.kitOne K (.ref D) (.type "ValueError")=some true
 ks:∃ b0 b1 b2 b3 b4 b5 b6 b7,bs=[b0,b1,b2,b3,b4,b5,b6,b7]/\PySem.W.kitOne K (.ref D) (.ref c_NoNet)=some b0/\PySem.W.kitOne K (.ref D) (.ref c_NoVessel)=some b1/\PySem.W.kitOne K (.ref D) (.ref c_TooLong)=some b2/\
  PySem.W.kitOne K (.ref D) (.ref c_TooMany)=some b3/\PySem.W.kitOne K (.ref D) (.ref c_TooMuch)=some b4/\PySem.W.kitOne K (.ref D) (.ref c_Nothing)=some b5/\PySem.W.kitOne K (.ref D) (.ref c_NoText)=some b6/\PySem.W.kitOne K (.ref D) (.ref c_NoRow)=some b7
def vM:List Str:=["net","vessel","long","many","much","nothing","text","row"]
def o8 (K:aaa) (c_NoNet c_NoVessel c_TooLong c_TooMany c_TooMuch c_Nothing c_NoText c_NoRow:Addr):Sp:=λ vs H Q _=>∃ (ea D:Addr) (bs:List Bool) (j:Nat) (wd:Str),vs=[.ref ea]/\H ea=some (r8 ea (.ref D))/\
 KindOf K c_NoNet c_NoVessel c_TooLong c_TooMany c_TooMuch c_Nothing c_NoText c_NoRow D bs/\bs.countP id=1/\bs[j]? = some true/\(∀ i b,i < j->bs[i]? = some b->b=false)/\vM[j]? = some wd/\∀ p H',aH H H'->bU K H' p [.str wd]->Q (.ref p) H'
theorem gF:FnScope ["error","kinds"] ["error"] (aK (bP 53)):={}
theorem lY {f:Addr}{fd:FuncData} (F:Fun K "_law_word" "_law_word" (bP 53) f fd) (T:Txt mg) (W:TxtW mg c_TipError c_NoNet c_NoVessel c_TooLong c_TooMany c_TooMuch c_Nothing c_NoText c_NoRow) :
  FnOk P w K mg base fK 1 f fd ["error"] (o8 K c_NoNet c_NoVessel c_TooLong c_TooMany c_TooMuch c_Nothing c_NoText c_NoRow):=by
 refine F.ok gF (λ vs H Q E h=>?_) (λ cdv A outer s H vs Q E hr h=>?_)
 ·obtain⟨ea,D,bs,j,wd,rfl,_⟩:=h;rfl
 ·obtain⟨ea,D,bs,j,wd,rfl,he,kd,hc,hj,hlt,hw,k⟩:=h;have sc:=gF;refine⟨_,(aE (pL 1 sc.nd (bB (aA (aL (cD (K:=K) rfl) rfl T.b_isinstance aQ (aA (pv 0) (aA (bR (v:=.ref c_NoNet) rfl ⟨_,W.m_NoNet,rfl⟩) aB))) (aA (aL (cD (K:=K) rfl) rfl T.b_isinstance aQ (aA (pv 0) (aA (bR (v:=.ref c_NoVessel) rfl ⟨_,W.m_NoVessel,rfl⟩) aB))) (aA (aL (cD (K:=K) rfl) rfl T.b_isinstance aQ (aA (pv 0) (aA (bR (v:=.ref c_TooLong) rfl ⟨_,W.m_TooLong,rfl⟩) aB))) aB)))))
   (aE (pL 1 sc.nd (aS jO (pv 1) (bB (aA (aL (cD (K:=K) rfl) rfl T.b_isinstance aQ (aA (pv 0) (aA (bR (v:=.ref c_TooMany) rfl ⟨_,W.m_TooMany,rfl⟩) aB))) (aA (aL (cD (K:=K) rfl) rfl T.b_isinstance aQ (aA (pv 0) (aA (bR (v:=.ref c_TooMuch) rfl ⟨_,W.m_TooMuch,rfl⟩) aB))) (aA (aL (cD (K:=K) rfl) rfl T.b_isinstance aQ (aA (pv 0) (aA (bR (v:=.ref c_Nothing) rfl ⟨_,W.m_Nothing,rfl⟩) aB))) aB))))))
   (aE (pL 1 sc.nd (aS jO (pv 1) (bB (aA (aL (cD (K:=K) rfl) rfl T.b_isinstance aQ (aA (pv 0) (aA (bR (v:=.ref c_NoText) rfl ⟨_,W.m_NoText,rfl⟩) aB))) (aA (aL (cD (K:=K) rfl) rfl T.b_isinstance aQ (aA (pv 0) (aA (bR (v:=.ref c_NoRow) rfl ⟨_,W.m_NoRow,rfl⟩) aB))) aB)))))
   (aE (bI (PW.pt (cM (bC (aX (aL (cD (K:=K) rfl) rfl T.b_isinstance aQ (aA (pv 0) (aA (bG (v:=.ty "ValueError") rfl W.b_ValueError kM rfl) aB))))) (cI (aW kW (hU (K:=K) rfl abd PySem.F.slot_list_count PySem.F.type_list_count qV (pv 1) (aA bV aB)) aD (aZ _))))) (aG (aM (bE (aA bQ aB)))) aP)
   (aG (aM (bE (aA (px K (bB uN) (hU (K:=K) rfl abd PySem.F.slot_list_index PySem.F.type_list_index sY (pv 1) (aA bV aB))) aB)))))))),?_⟩
  obtain⟨b0,b1,b2,b3,b4,b5,b6,b7,rfl,k0,k1,k2,k3,k4,k5,k6,k7⟩:=kd.ks;refine⟨_,rfl,ea,D,_,_,b0,rfl,rfl,he,kd.kit,kd.cl,k0,λ u h=>h,?_⟩;refine⟨_,rfl,ea,D,_,_,b1,rfl,rfl,he,kd.kit,kd.cl,k1,λ u h=>h,?_⟩;refine⟨_,rfl,ea,D,_,_,b2,rfl,rfl,he,kd.kit,kd.cl,k2,λ u h=>h,(show 3<=sizeLine by decide),λ l1 h1=>?_⟩;have he1:=aH.new (o:=HO.lst [.bl b0,.bl b1,.bl b2]) h1 _ _ he;refine⟨_,rfl,_,rfl,ea,D,_,_,b3,rfl,rfl,he1,kd.kit,kd.cl,k3,λ u h=>h,?_⟩;refine⟨_,rfl,ea,D,_,_,b4,rfl,rfl,he1,kd.kit,kd.cl,k4,λ u h=>h,?_⟩;refine⟨_,rfl,ea,D,_,_,b5,rfl,rfl,he1,kd.kit,kd.cl,k5,λ u h=>h,(show 3<=sizeLine by decide),λ l2 h2=>?_⟩;have s2:=aH.new (o:=HO.lst [.bl b3,.bl b4,.bl b5]) h2;refine⟨l1,l2,_,_,rfl,rfl,s2 _ _ aF,aF,(show 6<=sizeLine by decide),λ l3 h3=>?_⟩;have s3:=aH.new (o:=HO.lst ([.bl b0,.bl b1,.bl b2]++[.bl b3,.bl b4,.bl b5])) h3;have he3:=s3 _ _ (s2 _ _ he1);refine⟨_,rfl,_,rfl,ea,D,_,_,b6,rfl,rfl,he3,kd.kit,kd.cl,k6,λ u h=>h,?_⟩;refine⟨_,rfl,ea,D,_,_,b7,rfl,rfl,he3,kd.kit,kd.cl,k7,λ u h=>h,(show 2<=sizeLine by decide),λ l4 h4=>?_⟩;have s4:=aH.new (o:=HO.lst [.bl b6,.bl b7]) h4;refine⟨l3,l4,_,_,rfl,rfl,s4 _ _ aF,aF,(show 8<=sizeLine by decide),λ l5 h5=>?_⟩;have s5:=aH.new (o:=HO.lst ([.bl b0,.bl b1,.bl b2]++[.bl b3,.bl b4,.bl b5]++[.bl b6,.bl b7])) h5;have sH:aH H _:=((((aH.new h1).trans s2).trans s3).trans s4).trans s5;have he5:=s5 _ _ (s4 _ _ he3);refine⟨_,rfl,ea,D,_,_,true,rfl,rfl,he5,kd.kit,kd.cl,kd.val,λ u h=>h,_,rfl,aV ?_⟩;refine⟨_,rfl,.inl ⟨rfl,_,cG.of aF⟩,l5,[b0,b1,b2,b3,b4,b5,b6,b7],rfl,rfl,aF,rfl,_,rfl,yQ (by rw[hc];rfl) ?_⟩;refine⟨(show 8<=sizeLine by decide),λ l6 h6=>?_⟩;have s6:=aH.new (o:=HO.lst [.str "net",.str "vessel",.str "long",.str "many",.str "much",.str "nothing",.str "text",.str "row"]) h6;have hj8:j < 8:=(aaf.mp hj).1;refine⟨_,rfl,.inl ⟨rfl,_,cG.of (s6 _ _ aF)⟩,l5,_,_,j,rfl,rfl,s6 _ _ aF,rfl,rfl,hj8,λ z hz=>?_,λ i z hi hz=>?_,?_⟩
  ·have:([b0,b1,b2,b3,b4,b5,b6,b7].map V.bl)[j]? = some z:=hz;rw[abe,hj] at this;cases this;rfl
  ·have:([b0,b1,b2,b3,b4,b5,b6,b7].map V.bl)[i]? = some z:=hz;rw[abe] at this;obtain⟨b,hb,rfl⟩:=Option.map_eq_some_iff.mp this;rw[hlt i b hi hb];rfl
  ·refine .inl ⟨l6,_,(j:Int),_,rfl,rfl,cG.of aF,dN (show (vM.map V.str)[j]? = some (.str wd) by rw[abe,hw];rfl),(show 1<=sizeLine by decide),λ p hp=>?_⟩;exact k p _ ((sH.trans s6).trans (aH.new hp)) (bU.of aF)
end Tw
namespace L2
open PySem PySem.Spec PyProof.Rows TwZ
section
variable {prog:Program}
end
noncomputable instance decD:DecidableEq D:=λ a b=>Classical.propDecidable (a=b)
section
variable {prog:Program}
end
section
variable {X:Cx}{pins:List (Addr×Obj)}{σ:St}{H:Hp}{s:Shared}
end
section
variable {H H':Hp}{a:Addr}{S:D}{kvs:List (D×V)}
end
section
variable {X:Cx}{pins:List (Addr×Obj)}{σ:St}{H:Hp}{s:Shared}{a:Addr}{S:D}{kvs:List (D×V)}
end
end L2
namespace Tw
open PySem L2
section
variable {af:Type}(dD:af->L2.D)(nxt:af->Int->af)(fin:af->Int->Bool)(most lim:Nat)
variable {dD nxt fin most lim}
end
end Tw
namespace HT
open PySem PySem.Spec PyProof.Rows L2
section
variable {prog:Program}{A:Around}{E:Value->Shared->Prop}{s:Shared}
theorem getItem_tuple_whole {t sl:Addr}{items:Array Value}{vl vu:Value}{lo hi:Option Int}{Q:Value->Shared->Prop} (ht:IsTup s.heap t items) (hs:s.heap.IsSliceOf sl vl vu .none) (pl:IsPart vl lo) (pu:IsPart vu hi)
  (hw:sIx items.size 0 lo=0/\sIx items.size items.size hi=items.size) (h:Q (.ref t) s):wpAny (model prog w) A (getItem (.ref t) (.ref sl)) Q E s:=by
 obtain⟨os,hos,hcs,hds⟩:=id hs;have hTs:s.TypeIs (.ref sl) "slice" := ⟨os,hos,hcs⟩;unfold getItem
 try with_reducible refine abq ?_
 first | refine aab (aah ?_) | skip
 refine aab (wpAny_sequenceKey ht.typeIs (by decide) ?_);refine aab (wpAny_callSpecial?_slot (name:=Str.ofString "__getitem__") ht.typeIs PyProof.Rows.slot_tuple_getitem
  (wpAny_call_entry PyProof.Rows.slot_tuple_getitem ht.typeIs entry_tuple_getitem ?_ (args_tuple_getitem _ _)))
 show wpAny _ _ (Builtin.Tuple.tupleItemsOf (.ref t) >>= _) _ _ s;refine aab (tupleItemsOf_ ht ?_);refine aab (wpAny_typeOf hTs ?_);rw[if_pos (by decide)];refine aab (dY hs pl pu ?_);have hyes:(((sIx items.size 0 lo:Nat):Int) == 0 && (1:Int) == 1 && (sIx items.size items.size hi - sIx items.size 0 lo) == items.size)=true:=by
  rw[hw.1,hw.2];simp
 show wpAny _ _ (if (((sIx items.size 0 lo:Nat):Int) == 0 && (1:Int) == 1 && (sIx items.size items.size hi - sIx items.size 0 lo) == items.size)=true then _ else _) _ _ s;rw[if_pos hyes];refine aab ?_;refine aab (m:=Builtin.Tuple.tupleIsExact (.ref t)) ?_;unfold Builtin.Tuple.tupleIsExact;refine aab (wpAny_typeOf ht.typeIs (aah ?_));refine aah ?_;rw[if_pos (by decide)];refine aab (wpAny_rule ?_);refine aah ?_;refine⟨_,rfl,aah ?_⟩;exact h
end
end HT
namespace L2
open PySem
section
variable {X:Cx}
def n4 (K:aaa):V->Option Int->Option Int->Hp->VK->Prop:=λ x lo hi H Q=>∃ a xs,x=.ref a/\bU K H a xs/\
 ((HT.sIx xs.length 0 lo=0/\HT.sIx xs.length xs.length hi=xs.length)->Q (.ref a) H)/\
 (¬ (HT.sIx xs.length 0 lo=0/\HT.sIx xs.length xs.length hi=xs.length)->∀ p,H p=none->Q (.ref p) (upd H p (.tup (gZ xs lo hi))))
theorem iW (hK:X.K=K):yY X (n4 K):=by
 subst hK;intro pins s σ H x v vl vu lo hi sl Q I rx hs pl pu h;obtain⟨a,xs,rfl,hx,q1,q2⟩:=h
 by_cases hw:HT.sIx xs.length 0 lo=0/\HT.sIx xs.length xs.length hi=xs.length
 ·have q1:=q1 hw;cases rx;obtain⟨its,r,ht,hz⟩:=I.tuple hx;have hlen:its.toArray.size=xs.length:=by rw[aac];exact r.length.symm
  refine⟨"tuple",_,PyProof.Rows.slot_tuple_getitem.lookup,ht.typeIs,?_⟩;exact HT.getItem_tuple_whole ht hs pl pu (by rw[hlen];exact hw) ⟨.ref a,H,I,rfl,q1⟩
 ·exact wH pins s σ H _ v vl vu lo hi sl Q I rx hs pl pu ⟨a,xs,rfl,hx,hw,q2 hw⟩
end
end L2
namespace Tw
open PySem L2
theorem mZ {K:aaa}{H:Hp}{a:Addr}{xs:List V}{n:Nat}{Q:VK} (q:bU K H a xs) (k:∀ b H',aH H H'->bU K H' b (xs.take n)->Q (.ref b) H'):n4 K (.ref a) none (some (n:Int)) H Q:=by
 refine⟨a,xs,rfl,q,λ h=>?_,λ h p hp=>?_⟩
 ·have h2:=h.2;rw[HT.sIx_nat] at h2;have e:xs.take n=xs:=aby (by omega);exact k a H (aH.refl H) (by rw[e];exact q)
 ·have e:gZ xs none (some (n:Int))=xs.take n:=by
   unfold gZ;rw[HT.sIx_none,HT.sIx_nat,List.drop_zero,Nat.sub_zero];rcases Nat.le_total n xs.length with h | h
   ·rw[Nat.min_eq_left h]
   ·rw[Nat.min_eq_right h,ace,aby h]
  rw[e];exact k p _ (aH.new hp) (bU.of aF)
theorem nR (xs:List V) (n:Nat):gZ xs (some (n:Int)) none=xs.drop n:=by
 unfold gZ;rw[HT.sIx_none,HT.sIx_nat];rcases Nat.le_total n xs.length with h | h
 ·rw[Nat.min_eq_left h,aby (by rw[List.length_drop];omega)]
 ·rw[Nat.min_eq_right h,Nat.sub_self,List.take_zero,List.drop_of_length_le h]
end Tw
namespace HT
open PySem PySem.Spec PyProof.Rows L2
section
variable {prog:Program}{A:Around}{E:Value->Shared->Prop}{s:Shared}
end
end HT
namespace L2
open PySem PySem.Spec PyProof.Rows
section
variable {X:Cx}{e st:Expr}{te:TE}{pos p2:Pos}
end
end L2
namespace Tw
open PySem L2
theorem rV {K:aaa}{H:Hp}{a:Addr}{xs:List V}{n:Nat}{Q:VK} (q:bU K H a xs) (k:∀ b H',aH H H'->bU K H' b (xs.drop n)->Q (.ref b) H'):n4 K (.ref a) (some (n:Int)) none H Q:=by
 refine⟨a,xs,rfl,q,λ h=>?_,λ h p hp=>?_⟩
 ·have h1:=h.1;rw[HT.sIx_nat] at h1;have e:xs.drop n=xs:=by
   rcases Nat.eq_zero_or_pos n with c | c
   ·rw[c];rfl
   ·have:xs=[]:=List.length_eq_zero_iff.mp (by omega);rw[this];simp
  exact k a H (aH.refl H) (by rw[e];exact q)
 ·rw[nR];exact k p _ (aH.new hp) (bU.of aF)
theorem qP {K:aaa}{H:Hp}{a:Addr}{xs:List V}{z:Int}{Q:VK} (n:Nat) (hz:z=(n:Int)) (q:bU K H a xs) (k:∀ b H',aH H H'->bU K H' b (xs.drop n)->Q (.ref b) H'):n4 K (.ref a) (some z) none H Q:=by
 subst hz;exact rV q k
def fX (w:Nat):Nat->G->Prop
 | 0,.tup _=>False
 | d+1,.tup gs=>gs.length<=w/\∀ g∈gs,fX w d g
 | _,_=>True
theorem fX.tup {w d:Nat}{gs:List G} (h:fX w d (.tup gs)):∃ e,d=e+1/\gs.length<=w/\∀ g∈gs,fX w e g:=by
 cases d with
 | zero=>exact h.elim
 | succ e=>exact⟨e,rfl,h⟩
theorem fX.mono:∀ {w w' d d':Nat}{g:G},fX w d g->w<=w'->d<=d'->fX w' d' g
 | w,w',d,d',.tup gs,h,hw,hd=>by
  obtain⟨e,rfl,h1,h2⟩:=h.tup;obtain⟨e',rfl⟩:∃ e',d'=e'+1:=⟨d' - 1,by omega⟩;exact⟨by omega,λ g hg=>(h2 g hg).mono hw (by omega)⟩
 | _,_,_,d',.non,_,_,_=>by cases d' <;> trivial
 | _,_,_,d',.bl _,_,_,_=>by cases d' <;> trivial
 | _,_,_,d',.int _,_,_,_=>by cases d' <;> trivial
 | _,_,_,d',.str _,_,_,_=>by cases d' <;> trivial
 | _,_,_,d',.lst _,_,_,_=>by cases d' <;> trivial
def eC:G->List Nat->Option G
 | g,[]=>some g
 | .tup gs,n::ns=>match gs[n]? with
  | some g=>eC g ns
  | none=>none
 | _,_::_=>none
theorem gY {g h:G}{n:Nat}{ns:List Nat} (e:eC g (n::ns)=some h):∃ gs g',g=.tup gs/\gs[n]? = some g'/\eC g' ns=some h:=by
 cases g with
 | tup gs=>
  rw[eC] at e
  split at e
  ·rename_i g' hg
   exact⟨gs,g',rfl,hg,e⟩
  ·cases e
 | _=>simp [eC] at e
theorem nN:∀ {ns:List Nat}{g:G}{gs:List G}{n:Nat}{h:G},eC g ns=some (.tup gs)->gs[n]? = some h->eC g (ns++[n])=some h
 | [],g,gs,n,h,e,e'=>by
  rw[eC] at e;cases e;rw[List.nil_append,eC,e'];rfl
 | k::ns,g,gs,n,h,e,e'=>by
  obtain⟨ks,g',rfl,h1,h2⟩:=gY e;rw[List.cons_append,eC,h1];exact nN h2 e'
theorem mH:∀ {ns:List Nat}{w d:Nat}{g h:G},fX w d g->eC g ns=some h->fX w (d - ns.length) h/\ns.length<=d
 | [],w,d,g,h,b,e=>by rw[eC] at e;cases e;exact⟨b,aay _⟩
 | n::ns,w,d,g,h,b,e=>by
  obtain⟨gs,g',rfl,h1,h2⟩:=gY e;obtain⟨e,rfl,h3,h4⟩:=b.tup;obtain⟨q1,q2⟩:=mH (h4 g' (aaq h1)) h2;rw[aat,show e+1 - (ns.length+1)=e - ns.length by omega];exact⟨q1,by omega⟩
def kX (n:Nat):V:=.int (n:Int)
section
variable {aw:Addr}
theorem mF {t:Addr}{H:Hp}{q:List V} (h:H t=some (.lst q)):bW K H (cE t H):=cO.ts (t:=t) (λ b o n e=>j6 e n) (by rw[h];exact trivial)
def oA (K:aaa):Sp:=λ vs H Q _=>∃ (t sl:Addr) (x:V) (g:G) (wd d:Nat),vs=[.ref t,x]/\cB H t sl/\aI K (cE t H) g x/\fX wd d g/\wd<=1000/\d<=1000/\
 ∀ pl ns g' H',Ext t sl H H'->H' pl=some (.lst (ns.map kX))->pl≠t->eC g ns=some g'->ns.length<=d->Q (.ref pl) H'
theorem gG:FnScope ["tape","thing","path"] ["tape","thing"] (aK (bP 49)):={}
theorem lZ {f f1:Addr}{fd fd1:FuncData} (F:Fun K "_law_path" "_law_path" (bP 49) f fd) (T:Txt mg) (G__law_draw:Callee P w K mg base "_law_draw" ["tape","many"] 1 d0 f1 fd1):FnOk P w K mg base fK 2 f fd ["tape","thing"] (oA K):=by
 refine F.ok gG (λ vs H Q E h=>?_) (λ cdv A outer s H vs Q E hr h=>?_)
 ·obtain⟨t,sl,x,g,wd,d,rfl,_⟩:=h;rfl
 ·obtain⟨t,sl,x,g,wd,d,rfl,tp,hg,hb,hw,hd,k⟩:=h;have sc:=gG;refine⟨_,(aE (pL 2 sc.nd (bB aB))
   (aE (sF PassesOwn.never (PW.pt (dP (aX (aL (aR (K:=K) rfl) rfl T.b_isinstance aQ (aA (pv 1) (aA (bG (v:=.ty "tuple") rfl T.b_tuple bO rfl) aB)))) (dP (aW gP (iY K T.b_len (pv 1)) aD (aZ _)) (dJ (aW gP (bY G__law_draw hr (aA (pv 0) (aA aD aB))) aD (aZ _)))))) (aE (gM (hU (K:=K) rfl abd abo abp eA (pv 2) (aA (bY G__law_draw hr (aA (pv 0) (aA (iY K T.b_len (pv 1)) aB))) aB)))
   (aG (pL 1 sc.nd (px K (pv 1) (px K (pv 2) (pT lH aD)))))))
   (aG (aM (pv 2))))),?_⟩
  refine⟨aay _,λ pl hpl=>?_⟩;have npt:pl≠t:=λ z=>by obtain⟨o,e⟩:=tp.some;rw[<- z,hpl] at e;cases e
  have nps:pl≠sl:=tp.ne_sl hpl;refine⟨λ m aa H'=>∃ (ns:List Nat) (g':G) (x':V),m=d - ns.length/\cB H' t sl/\cO t H H'/\H' pl=some (.lst (ns.map kX))/\eC g ns=some g'/\aI K (cE t H) g' x'/\aa=[some (.ref t),some x',some (.ref pl)],
   ⟨_,[],g,x,rfl,tp.same (aH.new hpl),(aH.new hpl).but,aF,by rw[eC],hg,rfl⟩,?_⟩
  rintro m aa H1 ⟨ns,g',x',rfl,tp1,b1,hl1,hgot,hg',rfl⟩;obtain⟨hb',hle⟩:=mH hb hgot;have sS:∀ {H'},cO t H H'->aH (cE t H) H':=λ b c o e=>by
   unfold cE at e
   split at e
   ·cases e
   ·rename_i n;exact b c o n e
  refine⟨_,rfl,x',"tuple",g',rfl,by decide,aI.same (sS b1) hg',_,rfl,?_⟩;have fin:∀ H2,cB H2 t sl->cO t H H2->H2 pl=some (.lst (ns.map kX))->Q (.ref pl) H2:=λ H2 t2 b2 l2=>k pl ns g' H2 ⟨b2,t2⟩ l2 npt hgot hle;cases e0:dF g' "tuple" with
  | false=>exact aV (aV ⟨_,rfl,fin _ tp1 b1 hl1⟩)
  | true=>
  refine aU ?_;obtain⟨gs,rfl⟩:=eB e0;obtain⟨a,xs,rfl,q,l⟩:=hg'.ut;have el:=l.length;have q1:=(sS b1).tup q;refine⟨_,rfl,a,xs,rfl,.inr q1,_,_,rfl,rfl,_,rfl,?_⟩
  by_cases h0:(0:Int) < xs.length
  rotate_left
  ·rw[aao h0];exact aV (aV ⟨_,rfl,fin _ tp1 b1 hl1⟩)
  rw[aax h0];refine aU ?_;refine⟨_,rfl,t,sl,8,rfl,tp1,by decide,by decide,λ r H2 b2 tp2 r0 r1=>⟨_,_,rfl,rfl,_,rfl,?_⟩⟩;have hl2:=b2 _ _ npt hl1
  by_cases hr0:(0:Int) < r
  rotate_left
  ·rw[aao hr0];exact aV ⟨_,rfl,fin _ tp2 (b1.trans b2) hl2⟩
  rw[aax hr0];refine aU ?_;obtain⟨e,he,hlw,hbs⟩:=hb'.tup;refine⟨λ aa H'=>∃ (ns':List Nat) (g':G) (x':V),ns'.length=ns.length+1/\cB H' t sl/\cO t H H'/\H' pl=some (.lst (ns'.map kX))/\eC g ns'=some g'/\aI K (cE t H) g' x'/\aa=[some (.ref t),some x',some (.ref pl)],λ aa H' ⟨ns',g',x',h1,h2⟩=>⟨d - ns'.length,by omega,ns',g',x',rfl,h2⟩,?_⟩;have q2:=(sS (b1.trans b2)).tup q;refine⟨_,rfl,.inl ⟨rfl,_,cG.of hl2⟩,_,rfl,_,rfl,a,xs,rfl,.inr q2,t,sl,_,rfl,tp2,h0,by omega,λ r H3 b3 tp3 r0 r1=>?_⟩;have hl3:=b3 _ _ npt hl2;obtain⟨n,rfl⟩:=Int.eq_ofNat_of_zero_le r0;obtain⟨g2,hg2⟩:∃ g2,gs[n]? = some g2:=⟨_,abw (by omega)⟩;obtain⟨y,hy,iy⟩:=l.get hg2;refine⟨pl,_,_,rfl,rfl,hl3,mY (by rw[aai];omega),?_⟩;have b13:=(b1.trans b2).trans b3;have hl4:upd H3 pl (.lst (ns.map kX++[.int (n:Int)])) pl=some (.lst ((ns++[n]).map kX)):=by rw[aF,abi];rfl
  have fpl:H pl=none:=hpl;have b4:cO t H (upd H3 pl (.lst (ns.map kX++[.int (n:Int)]))):=λ c o hc e=>by rw[aJ (aN e fpl)];exact b13 c o hc e
  have tp4:=tp3.put (o:=HO.lst (ns.map kX++[.int (n:Int)])) npt nps;generalize upd H3 pl (.lst (ns.map kX++[.int (n:Int)]))=H4 at hl4 b4 tp4 ⊢;refine⟨_,rfl,_,rfl,1,rfl,.inl ⟨pl,_,-1,kX n,rfl,rfl,cG.of hl4,?_,.inr (.inl ⟨a,xs,(n:Int),y,rfl,rfl,(sS b4).tup q,dN hy,ns++[n],g2,y,by simp,tp4,b4,hl4,nN hgot hg2,iy,rfl⟩)⟩⟩;rw[abi];exact tZ _ _
def oG (K:aaa):Sp:=λ vs H Q _=>∃ (S:Hp) (pl:Addr) (x:V) (g g':G) (ns:List Nat),vs=[x,.ref pl]/\aH S H/\aI K S g x/\H pl=some (.lst (ns.map kX))/\eC g ns=some g'/\∀ y,aI K S g' y->Q y H
theorem iH:FnScope ["thing","path","step"] ["thing","path"] (aK (bP 50)):={}
theorem nE {f:Addr}{fd:FuncData} (F:Fun K "_law_got" "_law_got" (bP 50) f fd) (T:Txt mg):FnOk P w K mg base fK 1 f fd ["thing","path"] (oG K):=by
 refine F.ok iH (λ vs H Q E h=>?_) (λ cdv A outer s H vs Q E hr h=>?_)
 ·obtain⟨S,pl,x,g,g',ns,rfl,_⟩:=h;rfl
 ·obtain⟨S,pl,x,g,g',ns,rfl,sS,hg,hl,hgot,k⟩:=h;have sc:=iH;refine⟨_,(aE (d7 PassesOwn.never rfl (sJ (K:=K) rfl (pv 1)) (gL 2 sc.nd) (aG (pL 0 sc.nd (px K (pv 0) (pv 2)))))
   (aG (aM (pv 0)))),?_⟩
  refine⟨_,rfl,pl,rfl,⟨_,cG.of hl⟩,tS (K:=K) (a:=pl) (xs:=ns.map kX) (λ i aa H'=>H=H'/\∃ g1 x1 v2,aI K S g1 x1/\eC g1 (ns.drop i)=some g'/\aa=[some x1,some (.ref pl),v2]) ⟨rfl,g,x,_,hg,hgot,rfl⟩ (λ i aa H' _ h=>by rw[<- h.1];exact cG.of hl) ?_ ?_⟩
  ·rintro i u aa _ hu ⟨rfl,g1,x1,v2,hg1,hgot1,rfl⟩;rw[abe] at hu;obtain⟨n,hn,rfl⟩:=Option.map_eq_some_iff.mp hu;have hi:=(aaf.mp hn).1;rw[List.drop_eq_getElem_cons hi,(aaf.mp hn).2] at hgot1;obtain⟨gs,g2,rfl,h1,h2⟩:=gY hgot1;obtain⟨a,xs,rfl,q,l⟩:=hg1.ut;obtain⟨y,hy,iy⟩:=l.get h1;dsimp only [cC];exact⟨_,rfl,_,rfl,.inr (.inl ⟨a,xs,(n:Int),y,rfl,rfl,sS.tup q,dN hy,rfl,g2,y,_,iy,h2,rfl⟩)⟩
  ·rintro aa _ ⟨rfl,g1,x1,v2,hg1,hgot1,rfl⟩;rw[aai,List.drop_length,eC] at hgot1;cases hgot1;exact⟨_,rfl,k x1 hg1⟩
def jI (n:Nat) (K:aaa):Sp:=λ vs H Q _=>∃ (t pl:Addr) (x y:V) (g o h:G) (ns:List Nat) (wd d e:Nat),vs=[x,.ref pl,y]/\(∃ q,H t=some (.lst q))/\aI K (cE t H) g x/\aI K (cE t H) o y/\H pl=some (.lst (ns.map kX))/\eC g ns=some h/\ns.length<=n/\fX wd d g/\fX wd e o/\wd<=1000/\
 ∀ p g' H',aH H H'->aI K (cE t H') g' p->fX wd (d+e) g'->Q p H'
theorem dH:FnScope ["thing","path","other","at","inner"] ["thing","path","other"] (aK (bP 48)):={}
theorem iL {f:Addr}{fd:FuncData} (F:Fun K "_law_put" "_law_put" (bP 48) f fd) (T:Txt mg) (hmg:mg "_law_put" = some (.ref f)) (hkp:PySem.W.keepIn K (.ref f)=true) (hbd:fE K fd ["thing","path","other"] []) :
  ∀ n,FnOk P w K mg base fK (n+1) f fd ["thing","path","other"] (jI n K)
 | 0=>by
  refine F.ok dH (λ vs H Q E h=>?_) (λ cdv A outer s H vs Q E hr h=>?_)
  ·obtain⟨t,pl,x,y,g,o,h,ns,wd,d,e,rfl,_⟩:=h;rfl
  ·obtain⟨t,pl,x,y,g,o,h,ns,wd,d,e,rfl,ht,hg,ho,hl,hgot,hn,bg,bo,hw,k⟩:=h;have sc:=dH;have hns:ns=[]:=List.eq_nil_of_length_eq_zero (by omega);subst hns;refine⟨_,(aE (bI (aW (pW (K:=K) rfl hr.units) (pv 1) (bB aB) (aZ _)) (aG (aM (pv 2))) aP)
   (aE lS
   (aE lS
   (aG lS)))),?_⟩
   refine⟨_,rfl,aay _,λ p hp=>?_⟩;have s1:=aH.new (o:=HO.lst []) hp;refine⟨.lst [],.lst [],by decide,aI.l (cG.of (s1 _ _ hl)) .nil,aI.l (cG.of aF) .nil,_,rfl,aU ?_⟩;exact⟨_,rfl,k y o _ s1 (aI.same (bJ s1) ho) (bo.mono (aaj _) (by omega))⟩
 | n+1=>by
  have G__law_put:Callee P w K mg base "_law_put" ["thing","path","other"] (n+1) (jI n K) f fd:=⟨iL F T hmg hkp hbd n,hmg,hkp,hbd⟩;refine F.ok dH (λ vs H Q E h=>?_) (λ cdv A outer s H vs Q E hr h=>?_)
  ·obtain⟨t,pl,x,y,g,o,h,ns,wd,d,e,rfl,_⟩:=h;rfl
  ·obtain⟨t,pl,x,y,g,o,h,ns,wd,d,e,rfl,ht,hg,ho,hl,hgot,hn,bg,bo,hw,k⟩:=h;have sc:=dH;refine⟨_,(aE (bI (aW (pW (K:=K) rfl hr.units) (pv 1) (bB aB) (aZ _)) (aG (aM (pv 2))) aP)
   (aE (pL 3 sc.nd (px K (pv 1) aD))
   (aE (pL 4 sc.nd (bY G__law_put hr (aA (px K (pv 0) (pv 3)) (aA (eX (rT (K:=K) rfl) (pv 1) (gN aD) gO) (aA (pv 2) aB))) (hle:=aaj _)))
   (aG (aM (aS (fF (K:=K) rfl) (aS (fF (K:=K) rfl) (eX (iW (K:=K) rfl) (pv 0) gO (gN (pv 3))) (bE (aA (pv 4) aB))) (eX (iW (K:=K) rfl) (pv 0) (gN (aS cF (pv 3) aD)) gO))))))),?_⟩
   refine⟨_,rfl,aay _,λ p hp=>?_⟩;have s1:=aH.new (o:=HO.lst []) hp;have hl1:=s1 _ _ hl;have hp1:upd H p (.lst []) p=some (.lst []):=aF;generalize upd H p (.lst [])=H1 at s1 hl1 hp1 ⊢;have hg1:=aI.same (bJ (t:=t) s1) hg;have ho1:=aI.same (bJ (t:=t) s1) ho;have nI:aI K H1 (.lst (ns.map λ (n:Nat)=>G.int (n:Int))) (.ref pl):=aI.l (cG.of hl1) (by
    have:=aO.ints (K:=K) (H:=H1) (ns.map λ (n:Nat)=>(n:Int));rw[List.map_map,List.map_map] at this;exact this)
   refine⟨_,.lst [],by rw[iC];have:fB (ns.map λ (n:Nat)=>G.int (n:Int))=0:=(by have:=kB (ns.map λ (n:Nat)=>(n:Int));rw[List.map_map] at this;exact this);omega,nI,aI.l (cG.of hp1) .nil,_,rfl,?_⟩;cases ns with
   | nil=>
    refine aU ?_;exact⟨_,rfl,k y o _ s1 ho1 (bo.mono (aaj _) (by omega))⟩
   | cons m ns=>
    refine aV ?_;obtain⟨gs,g2,rfl,h1,h2⟩:=gY hgot;obtain⟨d',rfl,hlw,hbs⟩:=bg.tup;obtain⟨a,xs,rfl,q,l⟩:=hg1.ut;obtain⟨z,hz,iz⟩:=l.get h1;have el:=l.length;have hml:=(aaf.mp hz).1;have sh:aH (cE t H1) H1:=cW;refine⟨_,rfl,.inl ⟨pl,_,0,kX m,rfl,rfl,cG.of hl1,dN (j:=0) rfl,?_⟩⟩;refine⟨_,rfl,_,rfl,.inr (.inl ⟨a,xs,(m:Int),z,rfl,rfl,sh.tup q,dN hz,_,rfl,1,rfl,pl,_,rfl,cG.of hl1,λ p2 hp2=>?_⟩)⟩;have s2:=aH.new (o:=HO.lst (gZ ((m::ns).map kX) (some 1) none)) hp2;have hp22:upd H1 p2 (.lst (gZ ((m::ns).map kX) (some 1) none)) p2=some (.lst (ns.map kX)):=by
     rw[aF,show (some (1:Int))=some ((1:Nat):Int) from rfl,nR];rfl
    generalize upd H1 p2 (.lst (gZ ((m::ns).map kX) (some 1) none))=H2 at s2 hp22 ⊢;obtain⟨tq,htq⟩:=ht;have sh2:=bJ (t:=t) s2;refine⟨_,rfl,t,p2,z,y,g2,o,h,ns,wd,d',e,rfl,⟨tq,s2 _ _ (s1 _ _ htq)⟩,aI.same sh2 iz,aI.same sh2 ho1,hp22,h2,by simp at hn;omega,hbs g2 (aaq h1),bo,hw,λ pi gi H3 s3 hgi bgi=>?_⟩;have sh3:=sh2.trans (bJ (t:=t) s3);have q3:bU K H3 a xs:=(cW (t:=t)).tup (sh3.tup q);refine⟨_,rfl,_,rfl,(m:Int),rfl,mZ q3 λ b4 H4 s4 q4=>?_⟩;refine⟨_,rfl,(show 1<=sizeLine by decide),λ p5 hp5=>?_⟩;have s5:=aH.new (o:=HO.tup [pi]) hp5;have q5:bU K (upd H4 p5 (.tup [pi])) p5 [pi]:=bU.of aF;generalize upd H4 p5 (.tup [pi])=H5 at s5 q5 ⊢;refine⟨b4,p5,_,_,rfl,rfl,s5.tup q4,q5,by rw[abb,sizeLine_eq];simp;omega,λ p6 H6 s6 q6=>?_⟩;refine⟨_,rfl,_,rfl,_,_,rfl,rfl,_,rfl,?_⟩;dsimp only [pN];refine qP (m+1) (by simp) (((s4.trans s5).trans s6).tup q3) λ b7 H7 s7 q7=>?_;refine⟨p6,b7,_,_,rfl,rfl,s7.tup q6,q7,by simp only [aaz,abb,List.length_drop,acd,sizeLine_eq];omega,λ p8 H8 s8 q8=>?_⟩;have s38:=(((s4.trans s5).trans s6).trans s7).trans s8;have s28:=s3.trans s38;have sh8:aH (cE t H1) (cE t H8):=bJ (s2.trans s28);have q9:bU K (cE t H8) p8 ((xs.take m++[pi])++xs.drop (m+1)):=mF ((s2.trans s28) _ _ (s1 _ _ htq)) _ _ q8;have l9:=aO.same sh8 l;have i9:=aI.same (bJ (t:=t) s38) hgi;refine k _ _ H8 ((s1.trans s2).trans s28) (aI.t q9 (((aO.take m l9).app (.cons i9 .nil)).app (aO.drop (m+1) l9))) ?_;rw[show d'+1+e=(d'+e)+1 by omega];refine⟨by simp only [aaz,abb,List.length_drop,acd];omega,λ g hm=>?_⟩;rcases aau.mp hm with hm | hm
    ·rcases aau.mp hm with hm | hm
     ·exact (hbs g (List.mem_of_mem_take hm)).mono (aaj _) (by omega)
     ·rw[abc.mp hm];exact bgi
    ·exact (hbs g (List.mem_of_mem_drop hm)).mono (aaj _) (by omega)
theorem kK {f:Addr}{fd:FuncData} (F:Fun K "_law_put" "_law_put" (bP 48) f fd) (T:Txt mg) (hmg:mg "_law_put" = some (.ref f)) (hkp:PySem.W.keepIn K (.ref f)=true) (hbd:fE K fd ["thing","path","other"] []):FnOk P w K mg base fK 16 f fd ["thing","path","other"] (jI 15 K):=iL F T hmg hkp hbd 15
end
section
variable {aw t:Addr}
structure MkG (K:aaa) (t:Addr) (g:G) (te:TE):Prop where
 h:∀ σ H (Q:V->Hp->Prop),(∃ q,H t=some (.lst q))->(∀ v H',aH H H'->aI K (cE t H') g v->Q v H')->te σ H Q
structure MkGL (K:aaa) (t:Addr) (gs:List G) (ta:TA):Prop where
 h:∀ σ H (Q:List V->Hp->Prop),(∃ q,H t=some (.lst q))->(∀ vs H',aH H H'->aO K (cE t H') gs vs->Q vs H')->ta σ H Q
theorem xB {i:Int}:MkG K t (.int i) (tC (.int i)):=⟨λ σ H Q _ k=>k _ H (aH.refl _) (.i _)⟩
theorem xC {i:Bool}:MkG K t (.bl i) (tC (.bl i)):=⟨λ σ H Q _ k=>k _ H (aH.refl _) (.b _)⟩
theorem x9 {i:Str}:MkG K t (.str i) (tC (.str i)):=⟨λ σ H Q _ k=>k _ H (aH.refl _) (.s _)⟩
theorem xA:MkG K t .non (tC .non):=⟨λ σ H Q _ k=>k _ H (aH.refl _) .n⟩
theorem oZ {i:Int}:MkG K t (.int (-i)) (tUn (rU λ i=>.int (-i)) (tC (.int i))):=⟨λ σ H Q _ k=>⟨i,rfl,k _ H (aH.refl _) (.i _)⟩⟩
theorem oY:MkGL K t [] eG:=⟨λ σ H Q _ k=>k _ H (aH.refl _) .nil⟩
theorem mB {te:TE}{ta:TA}{g:G}{gs:List G} (h1:MkG K t g te) (h2:MkGL K t gs ta):MkGL K t (g::gs) (bN te ta):=⟨λ σ H Q ⟨q,ht⟩ k=>h1.h σ H _ ⟨q,ht⟩ λ v H1 s1 i1=>h2.h σ H1 _ ⟨q,s1 _ _ ht⟩ λ vs H2 s2 i2=>k _ H2 (s1.trans s2) (.cons (aI.same (bJ s2) i1) i2)⟩
theorem oW {ta:TA}{gs:List G} (h:MkGL K t gs ta) (hl:gs.length<=100):MkG K t (.tup gs) (y0 ta):=⟨λ σ H Q ⟨q,ht⟩ k=>h.h σ H _ ⟨q,ht⟩ λ vs H1 s1 i1=>⟨by rw[i1.length,sizeLine_eq];omega,λ p hp=>by
 have s2:=aH.new (o:=HO.tup vs) hp;have np:p≠t:=λ z=>by rw[z,s1 _ _ ht] at hp;cases hp
 exact k _ _ (s1.trans s2) (aI.t (bU.of (j6 aF np)) (aO.same (bJ s2) i1))⟩⟩
theorem oX {ta:TA}{gs:List G}{σ:St}{H:Hp}{Q:V->Hp->Prop} (h:MkGL K t gs ta) (hl:gs.length<=100) (ht:∃ q,H t=some (.lst q)) (k:∀ l xs H',aH H H'->H' l=some (.lst xs)->l≠t->aO K (cE t H') gs xs->Q (.ref l) H'):mW ta σ H Q:=by
 obtain⟨q,ht⟩:=ht;refine h.h σ H _ ⟨q,ht⟩ λ vs H1 s1 i1=>⟨by rw[i1.length,sizeLine_eq];omega,λ p hp=>?_⟩;have s2:=aH.new (o:=HO.lst vs) hp;have np:p≠t:=λ z=>by rw[z,s1 _ _ ht] at hp;cases hp
 exact k _ _ _ (s1.trans s2) aF np (aO.same (bJ s2) i1)
theorem p9 {ta:TA}{gs:List G} (h:MkGL K t gs ta) (hl:gs.length<=100):MkG K t (.lst gs) (mW ta):=⟨λ σ H Q ht k=>oX h hl ht λ l xs H' s e n i=>k _ _ s (aI.l (cG.of (j6 e n)) i)⟩
theorem x8 {ta:TA}{gs:List G}{i:Nat}{R:TS}{D:Ends}{σ:St}{H:Hp} (h:MkGL K t gs ta) (hl:gs.length<=100) (ht:∃ q,H t=some (.lst q)) (k:∀ l xs H',aH H H'->H' l=some (.lst xs)->l≠t->aO K (cE t H') gs xs->R D (σ.set i (some (.ref l))) H'):fY (eP (mW ta) (cC i)) R D σ H:=by
 dsimp only [fY,eP,cC];exact oX (K:=K) (t:=t) h hl ht λ l xs H' s e n i=>k l xs H' s e n i
theorem sZ {ta:TA}{gs hs:List G}{i:Nat}{R:TS}{D:Ends}{σ:St}{H:Hp}{l:Addr}{xs:List V} (ao:σ[i]? = some (some (.ref l))) (hx:H l=some (.lst xs)) (gx:aO K (cE t H) hs xs) (h:MkGL K t gs ta) (hl:gs.length<=100) (hl2:hs.length<=100) (ht:∃ q,H t=some (.lst q))
  (k:∀ l xs H',aH H H'->H' l=some (.lst xs)->l≠t->aO K (cE t H') (hs++gs) xs->R D (σ.set i (some (.ref l))) H'):fY (eP (dX yF (bZ i) (mW ta)) (cC i)) R D σ H:=by
 refine⟨_,ao,oX h hl ht λ l2 xs2 H2 s2 hl2' n2 i2=>⟨l,l2,xs,xs2,rfl,rfl,s2 _ _ hx,hl2',by rw[gx.length,i2.length,sizeLine_eq];omega,λ l3 hl3=>?_⟩⟩;obtain⟨q,ht⟩:=ht;have n3:l3≠t:=λ z=>by rw[z,s2 _ _ ht] at hl3;cases hl3
 have s3:=aH.new (o:=HO.lst (xs++xs2)) hl3;exact k l3 _ _ (s2.trans s3) aF n3 ((aO.same (bJ (t:=t) (s2.trans s3)) gx).app (aO.same (bJ (t:=t) s3) i2))
theorem nS:xY 10 30:=⟨by decide,by decide,by decide⟩
theorem pU:(0:Int) < 10 ^ (30:Int).toNat/\(10:Int) ^ (30:Int).toNat < 2 ^ 200:=by decide
def rH:List G:=[.non,.bl true,.bl false,.int (-1),.int 0,.int 1,.int 12,.int 13,.int 60,.int 61,.int 200,.int 201,.str "",.str "open",.str "shut",.str "turn",.str "halt",.lst [],.tup []]
def lF:List G:=[.tup [.int 0],.tup [.int 0,.int 1],.tup [.non,.int 1],.tup [.int 1,.bl true],.tup [.str "open",.int 0],.lst [.str "open",.int 0],.tup [.tup [.int 0,.int 1]],.tup [.tup [.non,.int 1],.tup [.int 0,.int 2]]]
def lE:List G:=[.tup [.int 0,.int 1,.bl true],.tup [.int 0,.int 0,.int 0],.tup [.int 1,.int 1,.tup [.tup [.non,.int 1]],.bl true,.non,.tup []]]
theorem xQ:∀ g∈rH++lF++lE,fX 12 3 g:=by
 intro g hg;simp only [rH,lF,lE,aau,aas,abj,or_false] at hg;rcases hg with (hg | hg) | hg
 ·rcases hg with h | h | h | h | h | h | h | h | h | h | h | h | h | h | h | h | h | h | h <;> subst h <;> simp [fX]
 ·rcases hg with h | h | h | h | h | h | h | h <;> subst h <;> simp [fX]
 ·rcases hg with h | h | h <;> subst h <;> simp [fX]
def mX (K:aaa):Sp:=λ vs H Q _=>∃ (t sl:Addr),vs=[.ref t]/\cB H t sl/\∀ p g H',Ext t sl H H'->aI K (cE t H') g p->fX 12 3 g->Q p H'
theorem iI:FnScope ["tape","some"] ["tape"] (aK (bP 47)):={}
theorem cB.l {H:Hp}{t sl:Addr} (h:cB H t sl):∃ q,H t=Option.some (HO.lst q):=by obtain⟨ns,pos,cell,e,_⟩:=h;exact⟨_,e⟩
theorem nF {f f1:Addr}{fd fd1:FuncData} (F:Fun K "_law_any" "_law_any" (bP 47) f fd) (T:Txt mg) (G__law_draw:Callee P w K mg base "_law_draw" ["tape","many"] 1 lM f1 fd1):FnOk P w K mg base fK 2 f fd ["tape"] (mX K):=by
 refine F.ok iI (λ vs H Q E h=>?_) (λ cdv A outer s H vs Q E hr h=>?_)
 ·obtain⟨t,sl,rfl,_⟩:=h;rfl
 ·obtain⟨t,sl,rfl,tp,k⟩:=h;have sc:=iI;refine⟨_,(aE (pL 1 sc.nd (@bB _ _ _ _ (@aA _ _ _ _ _ cS (@aA _ _ _ _ _ bV (@aA _ _ _ _ _ bV (@aA _ _ _ _ _ (pT lH aD) (@aA _ _ _ _ _ aD (@aA _ _ _ _ _ aD (@aA _ _ _ _ _ aD (@aA _ _ _ _ _ aD (@aA _ _ _ _ _ aD (@aA _ _ _ _ _ aD (@aA _ _ _ _ _ aD (@aA _ _ _ _ _ aD (@aA _ _ _ _ _ bQ (@aA _ _ _ _ _ bQ (@aA _ _ _ _ _ bQ (@aA _ _ _ _ _ bQ (@aA _ _ _ _ _ bQ (@aA _ _ _ _ _ (@bB _ _ _ _ aB) (@aA _ _ _ _ _ (@bE _ _ _ _ _ aB) aB rfl) rfl) rfl) rfl) rfl) rfl) rfl) rfl) rfl) rfl) rfl) rfl) rfl) rfl) rfl) rfl) rfl) rfl) rfl)))
   (aE (pL 1 sc.nd (aS jO (pv 1) (@bB _ _ _ _ (@aA _ _ _ _ _ (@bE _ _ _ _ _ (@aA _ _ _ _ _ aD aB rfl)) (@aA _ _ _ _ _ (@bE _ _ _ _ _ (@aA _ _ _ _ _ aD (@aA _ _ _ _ _ aD aB rfl) rfl)) (@aA _ _ _ _ _ (@bE _ _ _ _ _ (@aA _ _ _ _ _ cS (@aA _ _ _ _ _ aD aB rfl) rfl)) (@aA _ _ _ _ _ (@bE _ _ _ _ _ (@aA _ _ _ _ _ aD (@aA _ _ _ _ _ bV aB rfl) rfl)) (@aA _ _ _ _ _ (@bE _ _ _ _ _ (@aA _ _ _ _ _ bQ (@aA _ _ _ _ _ aD aB rfl) rfl)) (@aA _ _ _ _ _ (@bB _ _ _ _ (@aA _ _ _ _ _ bQ (@aA _ _ _ _ _ aD aB rfl) rfl)) (@aA _ _ _ _ _ (@bE _ _ _ _ _ (@aA _ _ _ _ _ (@bE _ _ _ _ _ (@aA _ _ _ _ _ aD (@aA _ _ _ _ _ aD aB rfl) rfl)) aB rfl)) (@aA _ _ _ _ _ (@bE _ _ _ _ _ (@aA _ _ _ _ _ (@bE _ _ _ _ _ (@aA _ _ _ _ _ cS (@aA _ _ _ _ _ aD aB rfl) rfl)) (@aA _ _ _ _ _ (@bE _ _ _ _ _ (@aA _ _ _ _ _ aD (@aA _ _ _ _ _ aD aB rfl) rfl)) aB rfl) rfl)) aB rfl) rfl) rfl) rfl) rfl) rfl) rfl) rfl))))
   (aE (pL 1 sc.nd (aS jO (pv 1) (@bB _ _ _ _ (@aA _ _ _ _ _ (@bE _ _ _ _ _ (@aA _ _ _ _ _ aD (@aA _ _ _ _ _ aD (@aA _ _ _ _ _ bV aB rfl) rfl) rfl)) (@aA _ _ _ _ _ (@bE _ _ _ _ _ (@aA _ _ _ _ _ aD (@aA _ _ _ _ _ aD (@aA _ _ _ _ _ aD aB rfl) rfl) rfl)) (@aA _ _ _ _ _ (@bE _ _ _ _ _ (@aA _ _ _ _ _ aD (@aA _ _ _ _ _ aD (@aA _ _ _ _ _ (@bE _ _ _ _ _ (@aA _ _ _ _ _ (@bE _ _ _ _ _ (@aA _ _ _ _ _ cS (@aA _ _ _ _ _ aD aB rfl) rfl)) aB rfl)) (@aA _ _ _ _ _ bV (@aA _ _ _ _ _ cS (@aA _ _ _ _ _ (@bE _ _ _ _ _ aB) aB rfl) rfl) rfl) rfl) rfl) rfl)) aB rfl) rfl) rfl))))
   (aG (aM (px K (aS jO (pv 1) (@bB _ _ _ _ (@aA _ _ _ _ _ (bY G__law_draw hr (@aA _ _ _ _ _ (pv 0) (@aA _ _ _ _ _ (aS oO aD aD) aB rfl) rfl)) (@aA _ _ _ _ _ (aS cU aD (bY G__law_draw hr (@aA _ _ _ _ _ (pv 0) (@aA _ _ _ _ _ (aS oO aD aD) aB rfl) rfl))) aB rfl) rfl))) (bY G__law_draw hr (@aA _ _ _ _ _ (pv 0) (@aA _ _ _ _ _ aD aB rfl) rfl)))))))),?_⟩
  refine x8 (K:=K) (t:=t) (gs:=rH) ?hh (by decide) tp.l λ l1 xs1 H1 s1 hl1 n1 i1=>?_
  case hh=>unfold rH;repeat (first | exact oY | exact xB | exact xC | exact x9 | exact xA | exact oZ | refine mB ?_ ?_ | refine oW ?_ (by decide) | refine p9 ?_ (by decide))
  have tp1:=tp.same s1;refine sZ (K:=K) (t:=t) (gs:=lF) rfl hl1 i1 ?hh (by decide) (by decide) tp1.l λ l2 xs2 H2 s2 hl2 n2 i2=>?_
  case hh=>unfold lF;repeat (first | exact oY | exact xB | exact xC | exact x9 | exact xA | exact oZ | refine mB ?_ ?_ | refine oW ?_ (by decide) | refine p9 ?_ (by decide))
  have tp2:=tp1.same s2;refine sZ (K:=K) (t:=t) (gs:=lE) rfl hl2 i2 ?hh (by decide) (by decide) tp2.l λ l5 xs5 H5 s5 hl55 n5 i5=>?_
  case hh=>unfold lE;repeat (first | exact oY | exact xB | exact xC | exact x9 | exact xA | exact oZ | refine mB ?_ ?_ | refine oW ?_ (by decide) | refine p9 ?_ (by decide))
  have tp5:=tp2.same s5;have s05:=(s1.trans s2).trans s5;clear s1 s2 s5 hl1 hl2 i1 i2 tp1 tp2;refine⟨_,rfl,_,rfl,10,30,rfl,rfl,nS,t,sl,_,rfl,tp5,pU.1,pU.2,λ r1 H6 b6 tp6 a1 a2=>?_⟩;refine⟨_,rfl,10,30,rfl,rfl,nS,t,sl,_,rfl,tp6,pU.1,pU.2,λ r2 H7 b7 tp7 c1 c2=>⟨_,_,rfl,rfl,(show 2<=sizeLine by decide),λ l8 hl8=>?_⟩⟩;have hl57:=b7 _ _ n5 (b6 _ _ n5 hl55);have i7:=aO.same (d8 (t:=t) (b6.trans b7)) i5;have n8:l8≠t:=λ z=>by obtain⟨q,e⟩:=tp7.l;rw[z,e] at hl8;cases hl8
  have s8:=aH.new (o:=HO.lst [.int r1,.int (0 - r2)]) hl8;have hl88:upd H7 l8 (.lst [.int r1,.int (0 - r2)]) l8=some (.lst [.int r1,.int (0 - r2)]):=aF;have tp8:=tp7.same s8;generalize upd H7 l8 (.lst [.int r1,.int (0 - r2)])=H8 at s8 hl88 tp8 ⊢;have e5:=i5.length;refine⟨l5,l8,_,_,rfl,rfl,s8 _ _ hl57,hl88,by rw[e5];show 30+2<=sizeLine;decide,λ l9 hl9=>?_⟩;have n9:l9≠t:=λ z=>by obtain⟨q,e⟩:=tp8.l;rw[z,e] at hl9;cases hl9
  have s9:=aH.new (o:=HO.lst (xs5++[.int r1,.int (0 - r2)])) hl9;have hl99:upd H8 l9 (.lst (xs5++[.int r1,.int (0 - r2)])) l9=some (.lst (xs5++[.int r1,.int (0 - r2)])):=aF;have i9:=(aO.same (bJ (t:=t) (s8.trans s9)) i7).app (.cons (.i r1) (.cons (.i (0 - r2)) .nil));have tp9:=tp8.same s9;generalize upd H8 l9 (.lst (xs5++[.int r1,.int (0 - r2)]))=H9 at s9 hl99 i9 tp9 ⊢;refine⟨_,rfl,t,sl,32,rfl,tp9,by decide,by decide,λ r H10 b10 tp10 r0 r1'=>?_⟩;obtain⟨n,rfl⟩:=Int.eq_ofNat_of_zero_le r0;have e9:=i9.length;have el:(rH++lF++lE++[G.int r1,.int (0 - r2)]).length=32:=rfl;obtain⟨g,hg⟩:∃ g,(rH++lF++lE++[G.int r1,.int (0 - r2)])[n]? = some g:=⟨_,abw (by omega)⟩;obtain⟨y,hy,iy⟩:=i9.get hg;refine .inl ⟨l9,_,(n:Int),y,rfl,rfl,cG.of (b10 _ _ n9 hl99),dN hy,?_⟩;refine k y g H10 ⟨(((s05.but.trans (b6.trans b7)).trans s8.but).trans s9.but).trans b10,tp10⟩ (aI.same (d8 b10) iy) ?_;rcases aau.mp (aaq hg) with hm | hm
  ·exact xQ g hm
  ·simp only [aas,abj,or_false] at hm;rcases hm with rfl | rfl <;> trivial
theorem uC {H:Hp}{a:Addr}{xs:List V}{lo hi:Option Int}{Q:VK} (q:bU K H a xs) (k:∀ b H' i j,aH H H'->bU K H' b ((xs.drop i).take j)->Q (.ref b) H'):n4 K (.ref a) lo hi H Q:=by
 refine⟨a,xs,rfl,q,λ h=>?_,λ h p hp=>?_⟩
 ·exact k a H 0 xs.length (aH.refl H) (by rw[List.drop_zero,ace];exact q)
 ·exact k p _ _ _ (aH.new hp) (bU.of aF)
theorem vB {g:G} (h:dF g "int" = true):(∃ i,g=.int i)\/∃ b,g=.bl b:=by
 cases g with
 | int i=>exact .inl ⟨i,rfl⟩
 | bl b=>exact .inr ⟨b,rfl⟩
 | _=>simp [dF,fU] at h
theorem fX.flat {w d:Nat}{g:G} (h:∀ gs,g≠.tup gs):fX w d g:=by
 cases g with
 | tup gs=>exact absurd rfl (h gs)
 | _=>cases d <;> trivial
def jH (K:aaa):Sp:=λ vs H Q _=>∃ (t sl:Addr) (x:V) (g:G) (wd d:Nat),vs=[.ref t,x]/\cB H t sl/\aI K (cE t H) g x/\fX wd d g/\12<=wd/\wd<=900/\d<=15/\
 ∀ p g' H',Ext t sl H H'->aI K (cE t H') g' p->fX (wd+1) (d+(d+3)) g'->Q p H'
theorem eU:FnScope ["tape","thing","path","here","way"] ["tape","thing"] (aK (bP 51)):={}
theorem jS {f f1 f2 f3 f4 f5:Addr}{fd fd1 fd2 fd3 fd4 fd5:FuncData} (F:Fun K "_law_spoilt" "_law_spoilt" (bP 51) f fd) (T:Txt mg) (G__law_draw:Callee P w K mg base "_law_draw" ["tape","many"] 1 d0 f1 fd1)
  (G__law_path:Callee P w K mg base "_law_path" ["tape","thing"] 2 (oA K) f2 fd2) (G__law_got:Callee P w K mg base "_law_got" ["thing","path"] 1 (oG K) f3 fd3) (G__law_put:Callee P w K mg base "_law_put" ["thing","path","other"] 16 (jI 15 K) f4 fd4)
  (G__law_any:Callee P w K mg base "_law_any" ["tape"] 2 (mX K) f5 fd5):FnOk P w K mg base fK 17 f fd ["tape","thing"] (jH K):=by
 refine F.ok eU (λ vs H Q E h=>?_) (λ cdv A outer s H vs Q E hr h=>?_)
 ·obtain⟨t,sl,x,g,wd,d,rfl,_⟩:=h;rfl
 ·obtain⟨t,sl,x,g,wd,d,rfl,tp,hg,hb,w1,w2,hd,k⟩:=h;have sc:=eU;refine⟨_,(aE (pL 2 sc.nd (bY G__law_path hr (aA (pv 0) (aA (pv 1) aB))))
   (aE (pL 3 sc.nd (bY G__law_got hr (aA (pv 1) (aA (pv 2) aB))))
   (aE (pL 4 sc.nd (bY G__law_draw hr (aA (pv 0) (aA aD aB))))
   (aE (bI (PW.pt (dP (aX (aL (aR (K:=K) rfl) rfl T.b_isinstance aQ (aA (pv 3) (aA (bG (v:=.ty "tuple") rfl T.b_tuple bO rfl) aB)))) (dJ (aW gR (pv 4) aD (aZ _))))) (aG (aM (bY G__law_put hr (aA (pv 1) (aA (pv 2) (aA (bX (kZ (K:=K) rfl) rfl T.b_list qJ (aA (pv 3) aB)) aB)))))) aP)
   (aE (bI (PW.pt (dP (aX (aL (aR (K:=K) rfl) rfl T.b_isinstance aQ (aA (pv 3) (aA (bG (v:=.ty "tuple") rfl T.b_tuple bO rfl) aB)))) (dJ (aW gR (pv 4) aD (aZ _))))) (aG (aM (bY G__law_put hr (aA (pv 1) (aA (pv 2) (aA (eX (iW (K:=K) rfl) (pv 3) gO (gN (pT lH aD))) aB)))))) aP)
   (aE (bI (PW.pt (dP (aX (aL (aR (K:=K) rfl) rfl T.b_isinstance aQ (aA (pv 3) (aA (bG (v:=.ty "tuple") rfl T.b_tuple bO rfl) aB)))) (dP (aW gR (pv 4) aD (aZ _)) (dJ (aW gP (iY K T.b_len (pv 3)) aD (aZ _)))))) (aG (aM (bY G__law_put hr (aA (pv 1) (aA (pv 2) (aA (aS (fF (K:=K) rfl) (pv 3) (eX (iW (K:=K) rfl) (pv 3) gO (gN aD))) aB)))))) aP)
   (aE (bI (PW.pt (dP (aW gR (pv 4) aD (aZ _)) (dJ (aX (aL (aR (K:=K) rfl) rfl T.b_isinstance aQ (aA (pv 3) (aA (bG (v:=.ty "int") rfl T.b_int eL rfl) aB))))))) (aG (aM (bY G__law_put hr (aA (pv 1) (aA (pv 2) (aA (aS sV (pv 3) (px K (bB (aA aD (aA (pT lH aD) (aA aD (aA aD aB))))) (bY G__law_draw hr (aA (pv 0) (aA aD aB))))) aB)))))) aP)
   (aG (aM (bY G__law_put hr (aA (pv 1) (aA (pv 2) (aA (bY G__law_any hr (aA (pv 0) aB)) aB))))))))))))),?_⟩
  refine⟨_,rfl,_,rfl,t,sl,x,g,wd,d,rfl,tp,hg,hb,by omega,by omega,λ pl ns g1 H1 e1 hl1 n1 hgot hle=>?_⟩;have hg1:=aI.same (d8 e1.bt) hg;refine⟨_,rfl,_,rfl,cE t H1,pl,x,g,g1,ns,rfl,cW,hg1,hl1,hgot,λ y iy=>?_⟩;refine⟨_,rfl,t,sl,5,rfl,e1.tp,by decide,by decide,λ r H2 b2 t2 r0 r1=>?_⟩;have iy2:=aI.same (d8 b2) iy;have b12:=e1.bt.trans b2;have hl2:=b2 _ _ n1 hl1;have hb1:=(mH hb hgot).1;clear hl1 iy hg1;have fin:∀ (o:G) (yo:V) (Hn:Hp),cB Hn t sl->cO t H Hn->Hn pl=some (.lst (ns.map kX))->aI K (cE t Hn) o yo->fX (wd+1) (d+3) o->jI 15 K [x,.ref pl,yo] Hn Q E0:=λ o yo Hn tn bn ln ho bo=>
   ⟨t,pl,x,yo,g,o,g1,ns,wd+1,d,d+3,rfl,tn.l,aI.same (d8 bn) hg,ho,ln,hgot,by omega,hb.mono (by omega) (aaj _),bo,by omega,λ p g' H' s' hg' bg'=>k p g' H' ⟨bn.trans s'.but,tn.same s'⟩ hg' bg'⟩
  have tl2:=t2.l;obtain⟨tq,htq⟩:=tl2;have toh:∀ {b:Addr}{xs:List V}{H':Hp},aH H2 H'->bU K H' b xs->bU K (cE t H') b xs:=λ s q=>mF (s _ _ htq) _ _ q;have hI:=λ T (hT:T∈jX)=>aI.same (cW (t:=t)) iy2;refine⟨_,rfl,y,"tuple",g1,rfl,by decide,hI "tuple" (by decide),_,rfl,?_⟩;have way5:∀ Hn,cB Hn t sl->cO t H Hn->Hn pl=some (.lst (ns.map kX))->wD (gB (jI 15 K) [] E0 (bN (bZ 1) (bN (bZ 2) (bN (gB (mX K) [] E0 (bN (bZ 0) eG)) eG)))) { nx:=λ _ H'=>Q .non H',rt:=Q } [some (.ref t),some x,some (.ref pl),some y,some (.int r)] Hn:=λ Hn tn bn ln=>by
   refine⟨_,rfl,_,rfl,_,rfl,t,sl,rfl,tn,λ p go H' e' ho bo=>?_⟩;exact fin go p H' e'.tp (bn.trans e'.bt) (e'.bt _ _ n1 ln) ho (bo.mono (by omega) (by omega))
  cases eT:dF g1 "tuple" with
  | false=>
   refine aV (aV ?_);refine⟨_,rfl,y,"tuple",g1,rfl,by decide,hI "tuple" (by decide),_,rfl,?_⟩;rw[eT];refine aV (aV ?_);refine⟨_,rfl,y,"tuple",g1,rfl,by decide,hI "tuple" (by decide),_,rfl,?_⟩;rw[eT];refine aV (aV ?_);refine⟨_,rfl,rfl,_,rfl,cV (λ h4=>?_) (λ h4=>?_)⟩;rotate_left
   ·exact aV (way5 _ t2 b12 hl2)
   refine⟨_,rfl,y,"int",g1,rfl,by decide,hI "int" (by decide),_,rfl,cV (λ hi=>?_) (λ hi=>?_)⟩;rotate_left
   ·exact way5 _ t2 b12 hl2
   refine⟨_,rfl,_,rfl,_,rfl,1,rfl,(show 4<=sizeLine by decide),λ l3 hl3=>?_⟩;have s3:=aH.new (o:=HO.lst [.int 1,.int (-1),.int 60,.int 200]) hl3;have n3:l3≠t:=λ z=>by rw[z,htq] at hl3;cases hl3
   refine⟨_,rfl,t,sl,4,rfl,t2.same s3,by decide,by decide,λ r4 H4 b4 t4 a0 a1=>?_⟩;have hl4:H4 l3=some (.lst [.int 1,.int (-1),.int 60,.int 200]):=b4 _ _ n3 aF;obtain⟨j,hj⟩:∃ j:Int,rN [V.int 1,.int (-1),.int 60,.int 200] r4=some (.int j):=by
    rcases (show r4=0\/r4=1\/r4=2\/r4=3 by omega) with e | e | e | e <;> subst e <;> exact⟨_,rfl⟩
   have b4':=(b12.trans s3.but).trans b4;have ln4:=b4 _ _ n1 (s3 _ _ hl2);refine .inl ⟨l3,_,r4,_,rfl,rfl,cG.of hl4,hj,j,rfl,?_⟩;rcases vB hi with ⟨i,rfl⟩ | ⟨b,rfl⟩
   ·obtain rfl:=iy2.ui;exact .inl ⟨i,rfl,fin (.int (i+j)) _ H4 t4 b4' ln4 (.i _) (fX.flat λ gs z=>(by cases z))⟩
   ·obtain rfl:=iy2.ub;exact .inr ⟨b,rfl,fin (.int ((if b=true then 1 else 0)+j)) _ H4 t4 b4' ln4 (.i _) (fX.flat λ gs z=>(by cases z))⟩
  | true=>
   obtain⟨gs,rfl⟩:=eB eT;obtain⟨a,xs,rfl,q,l⟩:=iy2.ut;have q2:bU K H2 a xs:=(cW (t:=t)).tup q;obtain⟨d',hd',hlw,hbs⟩:=hb1.tup;have el:=l.length;refine aU ⟨_,rfl,rfl,_,rfl,cV (λ h1=>?_) (λ h1=>?_)⟩
   ·
    refine⟨_,rfl,_,rfl,_,rfl,a,xs,rfl,.inr q2,λ l3 hl3=>?_⟩;have s3:=aH.new (o:=HO.lst xs) hl3;have n3:l3≠t:=λ z=>by rw[z,htq] at hl3;cases hl3
    exact fin (.lst gs) _ _ (t2.same s3) (b12.trans s3.but) (s3 _ _ hl2) (aI.l (cG.of (j6 aF n3)) (aO.same (bJ s3) l)) (fX.flat λ gs z=>(by cases z))
   refine⟨_,rfl,.ref a,"tuple",.tup gs,rfl,by decide,hI "tuple" (by decide),_,rfl,aU ⟨_,rfl,rfl,_,rfl,cV (λ h2=>?_) (λ h2=>?_)⟩⟩
   ·
    refine⟨_,rfl,_,rfl,_,rfl,1,rfl,_,rfl,uC q2 λ b3 H3 i j s3 q3=>?_⟩;refine fin (.tup ((gs.drop i).take j)) _ H3 (t2.same s3) (b12.trans s3.but) (s3 _ _ hl2) (aI.t (toh s3 q3) (aO.take j (aO.drop i (aO.same (bJ s3) l)))) ?_;rw[show d+3=(d+2)+1 by omega];exact⟨by rw[abb,List.length_drop];omega,λ g hm=>(hbs g (List.mem_of_mem_drop (List.mem_of_mem_take hm))).mono (by omega) (by omega)⟩
   refine⟨_,rfl,.ref a,"tuple",.tup gs,rfl,by decide,hI "tuple" (by decide),_,rfl,aU ⟨_,rfl,rfl,_,rfl,cV (λ h3=>?_) (λ h3=>?_)⟩⟩
   ·refine⟨_,rfl,a,xs,rfl,.inr q2,_,_,rfl,rfl,_,rfl,cV (λ h4=>?_) (λ h4=>?_)⟩
    ·
     refine⟨_,rfl,_,rfl,_,rfl,_,rfl,1,rfl,mZ (n:=1) q2 λ b3 H3 s3 q3=>?_⟩;refine⟨a,b3,xs,_,rfl,rfl,s3.tup q2,q3,by rw[abb,sizeLine_eq];omega,λ p4 H4 s4 q4=>?_⟩;have s34:=s3.trans s4;refine fin (.tup (gs++gs.take 1)) _ H4 (t2.same s34) (b12.trans s34.but) (s34 _ _ hl2) (aI.t (toh s34 q4) ((aO.same (bJ s34) l).app (aO.take 1 (aO.same (bJ s34) l)))) ?_;rw[show d+3=(d+2)+1 by omega];refine⟨by rw[aaz,abb];omega,λ g hm=>?_⟩;rcases aau.mp hm with hm | hm
     ·exact (hbs g hm).mono (by omega) (by omega)
     ·exact (hbs g (List.mem_of_mem_take hm)).mono (by omega) (by omega)
    ·
     have:r=3:=by simpa using h3
     refine⟨_,rfl,rfl,_,rfl,?_⟩;rw[this];exact aV (aV (this ▸ way5 _ t2 b12 hl2))
   ·refine aV ?_;refine⟨_,rfl,rfl,_,rfl,cV (λ h4=>?_) (λ h4=>?_)⟩
    ·refine⟨_,rfl,.ref a,"int",.tup gs,rfl,by decide,hI "int" (by decide),_,rfl,aV ?_⟩;exact way5 _ t2 b12 hl2
    ·exact aV (way5 _ t2 b12 hl2)
end
def g4 (K:aaa):Sp:=λ vs H Q _=>∃ (x:V) (net:Net),vs=[x]/\Is K H (hX net) x/\NetOk net/\∀ p H',aH H H'->Is K H' (yN (yO net)) (.ref p)->Q (.ref p) H'
theorem eN:FnScope ["net"] ["net"] (aK (bP 40)):={}
theorem iR {f f1 f2:Addr}{fd fd1 fd2:FuncData} (F:Fun K "first_moment" "first_moment" (bP 40) f fd) (T:Txt mg)
  (G_first_state:Callee P w K mg base "first_state" ["net"] 1 (lL K) f1 fd1) (G_pouring:Callee P w K mg base "pouring" ["net","amount"] 1 (hJ K) f2 fd2):FnOk P w K mg base fK 2 f fd ["net"] (g4 K):=by
 refine F.ok eN (λ vs H Q E h=>?_) (λ cdv A outer s H vs Q E hr h=>?_)
 ·obtain⟨x,net,rfl,_⟩:=h;rfl
 ·obtain⟨x,net,rfl,hx,nok,k⟩:=h;have sc:=eN;refine⟨_,(aG (aM (bE (aA aD (aA (bY G_first_state hr (aA (pv 0) aB)) (aA (bY G_pouring hr (aA (pv 0) (aA aD aB))) (aA aD (aA aD aB)))))))),?_⟩;refine⟨_,rfl,x,net,rfl,hx,nok,λ st H4 sm4 hst=>⟨_,rfl,x,net,0,rfl,Is.mono sm4.ts _ _ hx,nok,λ z H5 sm5 qz=>⟨(show 5<=sizeLine by decide),λ p hp=>?_⟩⟩⟩;rw[nZ nok.lo] at qz;have sp:aH H5 (upd H5 p (.tup [.int 0,st,.ref z,.int 0,.int 0])):=aH.new hp;exact k p _ ((sm4.trans sm5).trans sp) (x0 (m:=yO net) (bU.of aF) (Is.mono sp.ts _ _ (Is.mono sm5.ts _ _ hst)) (sp.tup qz))
theorem pQ:FnScope ["self","net"] ["self","net"] (aK (j5 (bP 44) 0)):={}
end Tw
namespace L2
open PySem PySem.Spec PyProof.Rows TwZ
section
variable {X:Cx}
theorem uH {st:Stmt}{t:TS} (h:∀ pn:List (Addr×Obj),PS (X.within pn λ _ _=>False) st t):PS X st t:=by
 intro pins s σ H D I h1;refine aba (h (X.pn++pins) [] s σ H D I.within h1) (λ f ad hf=>?_) λ _ _ z=>z.elim;cases f with
 | next=>obtain⟨aa,H',J,q⟩:=hf;exact⟨aa,H',J.unwithin,q⟩
 | brk=>obtain⟨aa,H',J,q⟩:=hf;exact⟨aa,H',J.unwithin,q⟩
 | cont=>obtain⟨aa,H',J,q⟩:=hf;exact⟨aa,H',J.unwithin,q⟩
 | ret u=>obtain⟨v,aa,H',J,r,q⟩:=hf;exact⟨v,aa,H',J.unwithin,r,q⟩
end
end L2
namespace Tw
open PySem L2
structure MkCalR (P:Program) (w:World) (K:aaa) (mg:Str->Option Value) (base:Heap) (C:Addr) (x:Str) (ps:List Str) (k:Nat) (sp:Sp) (f:Addr) (fd:FuncData):Prop where
 make:Mk K C f
 ok:FnOk P w K mg base (vL P w) k f fd ps sp
 mg:mg x=some (.ref C)
 bd:fE K fd ps []
section
variable {aw t:Addr}
def lK (K:aaa) (C cN:Addr):Sp:=λ vs H Q E=>∃ (r dx:Addr) (x:V) (g:G),vs=[.ref r,x]/\H r=some (.ins C dx [])/\aI K H g x/\(dC g=false->∀ H',aH H H'->E (.ref cN) none H')/\(dC g=true->∀ H',cO r H H'->Q .non H')
theorem sW {f f1 f2:Addr}{fd fd1 fd2:FuncData} (F:Fun K "__init__" "Run.__init__" (j5 (bP 44) 0) f fd) (T:Txt mg) (tx:RunTx K C) (XC_NoNet:ExC K "NoNet" c_NoNet)
  (G_is_net:Callee P w K mg base "is_net" ["thing"] 4 (g3 K) f1 fd1) (G_first_moment:Callee P w K mg base "first_moment" ["net"] 2 (g4 K) f2 fd2) :
  FnOk P w K mg base (vL P w) 5 f fd ["self","net"] (lK K C c_NoNet):=by
 refine F.okR pQ (λ vs H Q E h=>?_) (λ cdv A outer s H vs Q E hr h L=>?_)
 ·obtain⟨r,dx,x,g,rfl,_⟩:=h;rfl
 ·obtain⟨r,dx,x,g,rfl,hi,hg,kE,kQ⟩:=h;have sc:=pQ;refine⟨_,(aE (bI (bC (aX (bY G_is_net hr (aA (pv 1) aB)))) (aG (sG L rfl rfl XC_NoNet.exc XC_NoNet.ns PySem.F.excBase_ValueError (aA bQ aB))) aP)
   (aE (iX (K:=K) rfl (pv 0) (pv 1) rfl)
   (aE (iX (K:=K) rfl (pv 0) (bB aB) rfl)
   (aE (iX (K:=K) rfl (pv 0) (bB (aA (bY G_first_moment hr (aA (pv 1) aB)) aB)) rfl)
   (aG (uH λ pn=>(iX (K:=K) rfl (pv 0) (kU (λ _ _ h=>h) rfl (LcOk.mk (N':=["vessel"]) (fr:=[none]) rfl trivial rfl rfl rfl rfl rfl trivial) (cX (K:=K) rfl (px K (pv 1) aD)) (λ _ _ _=>(gC 0 ["vessel"])) (λ _ _ _=>eH) (λ _ _ _=>(bB aB))) rfl))))))),?_⟩
  refine⟨_,rfl,x,g,rfl,hg,λ H1 sm1=>⟨_,rfl,?_⟩⟩;cases e:dC g with
  | false=>
   refine aU ?_;exact⟨(show 1<=100 by decide),kE e H1 sm1⟩
  | true=>
   refine aV ?_;have k:=kQ e;obtain⟨net,rfl,nok,nfu⟩:=uU e;have hx1:=(aI.same sm1 hg).d;refine⟨_,rfl,_,rfl,r,C,dx,[],rfl,sm1 _ _ hi,tx.cls,tx.net,by decide,?_⟩;have mu1:pJ (H1 r):=by rw[sm1 _ _ hi];exact trivial
   have i2:upd H1 r (.ins C dx (bL "net" x [])) r=some (.ins C dx (bL "net" x [])):=aF;have b2:cO r H (upd H1 r (.ins C dx (bL "net" x []))):=sm1.but.trans cO.upd;have hx2:Is K (upd H1 r (.ins C dx (bL "net" x []))) (hX net) x:=Is.mono (cO.ts cO.upd mu1) _ _ hx1;generalize upd H1 r (.ins C dx (bL "net" x []))=H2 at i2 b2 hx2;refine⟨aay _,λ R hR=>⟨_,rfl,r,C,dx,_,rfl,aH.new hR _ _ i2,tx.cls,tx.rows,(show 1 < 1000 by decide),?_⟩⟩;have nRr:R≠r:=λ z=>by rw[z,i2] at hR;cases hR
   have fR:H R=none:=b2.free nRr hR;have mu2:pJ (upd H2 R (.lst []) r):=by rw[aH.new hR _ _ i2];exact trivial
   have i3:upd (upd H2 R (.lst [])) r (.ins C dx (bL "rows" (.ref R) (bL "net" x []))) r=some (.ins C dx (bL "rows" (.ref R) (bL "net" x []))):=aF;have b3:cO r H (upd (upd H2 R (.lst [])) r (.ins C dx (bL "rows" (.ref R) (bL "net" x [])))):=(b2.trans (aH.new hR).but).trans cO.upd;have hx3:Is K (upd (upd H2 R (.lst [])) r (.ins C dx (bL "rows" (.ref R) (bL "net" x [])))) (hX net) x:=Is.mono (cO.ts cO.upd mu2) _ _ (Is.mono (aH.new hR).ts _ _ hx2);have hR3:upd (upd H2 R (.lst [])) r (.ins C dx (bL "rows" (.ref R) (bL "net" x []))) R=some (.lst []):=by rw[aJ nRr];exact aF
   generalize upd (upd H2 R (.lst [])) r (.ins C dx (bL "rows" (.ref R) (bL "net" x [])))=H3 at i3 b3 hx3 hR3;refine⟨_,rfl,x,net,rfl,hx3,nok,λ p H6 s36 cm=>⟨(show 1<=sizeLine by decide),λ M hM=>⟨_,rfl,r,C,dx,bL "rows" (.ref R) (bL "net" x []),rfl,aH.new hM _ _ (s36 _ _ i3),tx.cls,tx.moments,(show 2 < 1000 by decide),?_⟩⟩⟩;have i6:=s36 _ _ i3;have nMr:M≠r:=λ z=>by rw[z,i6] at hM;cases hM
   have nMR:M≠R:=λ z=>by rw[z,s36 _ _ hR3] at hM;cases hM
   have fM:H M=none:=(b3.trans s36.but).free nMr hM;have mu6:pJ (upd H6 M (.lst [.ref p]) r):=by rw[aH.new hM _ _ i6];exact trivial
   have ts7:bW K H6 (upd (upd H6 M (.lst [.ref p])) r (.ins C dx (bL "moments" (.ref M) (bL "rows" (.ref R) (bL "net" x []))))):=(aH.new hM).ts.trans (cO.ts cO.upd mu6);have i7:upd (upd H6 M (.lst [.ref p])) r (.ins C dx (bL "moments" (.ref M) (bL "rows" (.ref R) (bL "net" x [])))) r=some (.ins C dx (bL "moments" (.ref M) (bL "rows" (.ref R) (bL "net" x [])))):=aF;have b7:cO r H (upd (upd H6 M (.lst [.ref p])) r (.ins C dx (bL "moments" (.ref M) (bL "rows" (.ref R) (bL "net" x []))))):=((b3.trans s36.but).trans (aH.new hM).but).trans cO.upd;have hM7:upd (upd H6 M (.lst [.ref p])) r (.ins C dx (bL "moments" (.ref M) (bL "rows" (.ref R) (bL "net" x [])))) M=some (.lst [.ref p]):=by rw[aJ nMr];exact aF
   have hR7:upd (upd H6 M (.lst [.ref p])) r (.ins C dx (bL "moments" (.ref M) (bL "rows" (.ref R) (bL "net" x [])))) R=some (.lst []):=by rw[aJ nRr];exact aH.new hM _ _ (s36 _ _ hR3)
   have hx7:=Is.mono ts7 _ _ (Is.mono s36.ts _ _ hx3);have cm7:=Is.mono ts7 _ _ cm;generalize upd (upd H6 M (.lst [.ref p])) r (.ins C dx (bL "moments" (.ref M) (bL "rows" (.ref R) (bL "net" x []))))=H7 at i7 b7 hM7 hR7 hx7 cm7;obtain⟨a,b,c,xs,ys,rfl,q,q1,l1,q2,l2⟩:=oV hx7;have exl:xs.length=net.vs.length:=by rw[l1.length,aai]
   have n2:=nok.hi;refine⟨_,rfl,.inr (.inl ⟨a,_,0,_,rfl,rfl,q,rfl,b,rfl,⟨_,q1⟩,pF (K:=K) (a:=b) (xs:=xs) (λ D i rr aa H'=>H7 D=none/\aH H7 H'/\H' D=some (.lst rr)/\(∃ ts:List Addr,rr=ts.map V.ref/\ts.length=i/\(D::ts).Nodup/\∀ t∈ts,H7 t=none/\H' t=some (.lst []))/\∃ u,aa=[u])
    (λ D i rr aa H' p=>p.2.1.tup q1) (λ D hD=>⟨hD,aH.new hD,aF,⟨[],rfl,rfl,by simp,λ t ht=>(nomatch ht)⟩,none,rfl⟩) ?_ ?_⟩)⟩
   rotate_left
   ·rintro D i v rr aa H8 hv ⟨hD,sm,hDl,⟨ts,rfl,hts,hnd,hall⟩,u,rfl⟩;have hil:=(aaf.mp hv).1;refine jU ?_;refine⟨aay _,λ t ht=>⟨aH.new ht _ _ hDl,cR (by simp;omega),hD,(sm.trans (aH.new ht)).put hD,aF,⟨ts++[t],by rw[abi];rfl,by simp [hts],?_,?_⟩,_,rfl⟩⟩
    ·have nDt:D≠t:=λ z=>by rw[<- z,hDl] at ht;cases ht
     have nts:t∉ts:=λ z=>by rw[(hall t z).2] at ht;cases ht
     rw[abr] at hnd ⊢;refine⟨λ z=>?_,?_⟩
     ·rcases aau.1 z with z | z
      ·exact hnd.1 z
      ·exact nDt (by simpa using z)
     ·rw[List.nodup_append];exact⟨hnd.2,by simp,λ a ha b hb=>by rw[abc] at hb;subst hb;exact λ z=>nts (z ▸ ha)⟩
    ·intro t' ht';have nDt:t≠D:=λ z=>by rw[z,hDl] at ht;cases ht
     rcases aau.1 ht' with z | z
     ·have h1:=hall t' z;have ne1:t'≠D:=λ z2=>by rw[abr] at hnd;exact hnd.1 (z2 ▸ z)
      exact⟨h1.1,by rw[aJ ne1];exact aH.new ht _ _ h1.2⟩
     ·have:t'=t:=by simpa using z
      subst this;exact⟨sm.free ht,by rw[aJ nDt];exact aF⟩
   ·rintro D rr aa H8 ⟨hD,sm,hDl,⟨ts,rfl,hts,hnd,hall⟩,_⟩;refine⟨_,rfl,r,C,dx,_,rfl,sm _ _ i7,tx.cls,tx.tips,(show 3 < 1000 by decide),?_⟩;have nDr:D≠r:=λ z=>by rw[z,i7] at hD;cases hD
    have nDR:D≠R:=λ z=>by rw[z,hR7] at hD;cases hD
    have nDM:D≠M:=λ z=>by rw[z,hM7] at hD;cases hD
    have ntr:∀ t∈ts,t≠r:=λ t ht z=>by have:=(hall t ht).1;rw[z,i7] at this;cases this
    have ntR:∀ t∈ts,t≠R:=λ t ht z=>by have:=(hall t ht).1;rw[z,hR7] at this;cases this
    have ntM:∀ t∈ts,t≠M:=λ t ht z=>by have:=(hall t ht).1;rw[z,hM7] at this;cases this
    have mu8:pJ (H8 r):=by rw[sm _ _ i7];exact trivial
    have ts8:bW K H7 (upd H8 r (.ins C dx (bL "tip_ticks" (.ref D) (bL "moments" (.ref M) (bL "rows" (.ref R) (bL "net" (.ref a) [])))))):=sm.ts.trans (cO.ts cO.upd mu8);exact k _ ((b7.trans sm.but).trans cO.upd)
def oF (K:aaa):Sp:=λ vs H Q _=>∃ (x:V) (g:G),vs=[x]/\aI K H g x/\∀ p H',aH H H'->bU K H' p [.str (if dC g=true then "made" else "net")]->Q (.ref p) H'
theorem gI:FnScope ["thing","error","e"] ["thing"] (aK (bP 59)):={}
theorem m6 {f f1 f2:Addr}{fd fd1 fd2:FuncData} (F:Fun K "_law_made" "_law_made" (bP 59) f fd) (T:Txt mg) (W:TxtW mg c_TipError c_NoNet c_NoVessel c_TooLong c_TooMany c_TooMuch c_Nothing c_NoText c_NoRow)
  (kdY:KindOf K c_NoNet c_NoVessel c_TooLong c_TooMany c_TooMuch c_Nothing c_NoText c_NoRow c_NoNet [true,false,false,false,false,false,false,false]) (hmY:PySem.W.exmOne K (.ref c_NoNet) (.ref c_TipError)=some true)
  (G_Run:MkCalR P w K mg base C "Run" ["self","net"] 5 (lK K C c_NoNet) f1 fd1)
  (G__law_word:Callee P w K mg base "_law_word" ["error"] 1 (o8 K c_NoNet c_NoVessel c_TooLong c_TooMany c_TooMuch c_Nothing c_NoText c_NoRow) f2 fd2) :
  FnOk P w K mg base fK 7 f fd ["thing"] (oF K):=by
 refine F.ok gI (λ vs H Q E h=>?_) (λ cdv A outer s H vs Q E hr h=>?_)
 ·obtain⟨x,g,rfl,_⟩:=h;rfl
 ·obtain⟨x,g,rfl,hg,k⟩:=h;have sc:=gI;let EX:XK:=λ cls _ H'=>aH H H'/\cls=.ref c_NoNet/\dC g=false;refine⟨_,(aE (pL 1 sc.nd cS)
   (aE (wR (EX:=EX) rfl rfl (λ pn xe hx=>(aG (gM (uK G_Run.make G_Run.ok (hr.mono (by decide)) rfl G_Run.mg G_Run.bd .nil hx (aA (pv 0) aB))))) rfl W.m_TipError sc.nd (i:=2) rfl rfl (λ ea=>(aG (pL 1 sc.nd (pv 2)))))
   (aE (bI (aW lU (pv 1) cS (aZ _)) (aG (aM (bE (aA bQ aB)))) aP)
   (aG (aM (bY G__law_word hr (aA (pv 1) aB))))))),?_⟩
  dsimp only [fY,eP,cC,tC];refine⟨?_,?_⟩
  ·refine⟨_,rfl,λ r dx hr1 hdx ndr=>?_⟩;have s1:aH H (upd (upd H dx (.own r)) r (.ins C dx [])):=λ b o e=>by rw[aJ (aN e hr1),aJ (aN e hdx)];exact e
   refine⟨r,dx,x,g,rfl,aF,aI.same s1 hg,λ e H1 sH=>⟨s1.trans sH,rfl,e⟩,λ e H1 bH=>⟨rfl,?_⟩⟩;have s2:aH H H1:=λ b o eb=>bH b o (aN eb hr1) (s1 b o eb);refine⟨_,rfl,rfl,_,rfl,aU ?_⟩;refine⟨(show 1<=sizeLine by decide),λ p hp=>k p _ (s2.trans (aH.new hp)) ?_⟩;rw[if_pos e];exact bU.of aF
  ·rintro cls H' ea aa ⟨sH,rfl,eF⟩ hlen hea;obtain⟨u0,u1,u2,rfl⟩:∃ u0 u1 u2,aa=[u0,u1,u2]:=by
    match aa,hlen with
    | [u0,u1,u2],_=>exact⟨_,_,_,rfl⟩
   have s1:=aH.new (o:=r8 ea (.ref c_NoNet)) hea;refine⟨hmY,⟨_,rfl,?_⟩⟩;refine⟨_,rfl,rfl,_,rfl,aV ?_⟩;refine⟨_,rfl,ea,c_NoNet,_,0,"net",rfl,aF,kdY,rfl,rfl,λ i b hi hb=>by omega,rfl,λ p H2 sm2 qp=>k p H2 (sH.trans (s1.trans sm2)) ?_⟩;rw[if_neg (by rw[eF];exact aag)];exact qp
end
theorem gT {af:Type}{f:af->L2.D}{l:List af}{g:G} (h:g∈cK (l.map f)):∃ a∈l,g=dB (f a):=by
 rw[jE,List.map_map] at h;obtain⟨a,ha,e⟩:=List.mem_map.mp h;exact⟨a,ha,e.symm⟩
theorem tY {w d:Nat} (o:Option Int):fX w d (dB (rL o)):=by
 cases o with
 | none=>exact fX.flat λ gs z=>by simp [rL,dB] at z
 | some i=>exact fX.flat λ gs z=>by simp [rL,dB] at z
theorem vF {net:Net} (nok:NetOk net):fX 12 5 (dB (hX net)):=by
 have e:dB (hX net)=.tup [.tup (cK (net.vs.map rK)),.tup (cK (net.sps.map u5))]:=by simp [hX,dB,cK]
 rw[e];refine⟨by simp,λ g hg=>?_⟩;simp only [aas,abj,or_false] at hg;rcases hg with rfl | rfl
 ·refine⟨by rw[dW,aai];exact nok.hi,λ g hg=>?_⟩;obtain⟨v,hv,rfl⟩:=gT hg;have ok:=nok.vs v hv;have ev:dB (rK v)=.tup [.int v.size,.int v.brim,.tup (cK (v.outs.map nC)),.bl v.holds,dB (rL v.spill),.tup (cK (v.acts.map nV))]:=by simp [rK,dB,cK]
  rw[ev];refine⟨by simp,λ g hg=>?_⟩;simp only [aas,abj,or_false] at hg;rcases hg with rfl | rfl | rfl | rfl | rfl | rfl
  ·trivial
  ·trivial
  ·refine⟨by rw[dW,aai];have:=ok.o3;omega,λ g hg=>?_⟩;obtain⟨o,_,rfl⟩:=gT hg;rw[show dB (nC o)=.tup [dB (rL o.1),.int o.2] by simp [nC,dB,cK]];refine⟨by simp,λ g hg=>?_⟩;simp only [aas,abj,or_false] at hg;rcases hg with rfl | rfl
   ·exact tY _
   ·trivial
  ·trivial
  ·exact tY _
  ·refine⟨by rw[dW,aai];have:=ok.a3;omega,λ g hg=>?_⟩;obtain⟨o,_,rfl⟩:=gT hg;rw[show dB (nV o)=.tup [.str o.1,.int o.2] by simp [nV,dB,cK]];refine⟨by simp,λ g hg=>?_⟩;simp only [aas,abj,or_false] at hg;rcases hg with rfl | rfl <;> trivial
 ·refine⟨by rw[dW,aai];exact nok.sp,λ g hg=>?_⟩;obtain⟨v,hv,rfl⟩:=gT hg;rw[show dB (u5 v)=.tup [.int v.1,.int v.2.1,.bl v.2.2] by simp [u5,dB,cK]];refine⟨by simp,λ g hg=>?_⟩;simp only [aas,abj,or_false] at hg;rcases hg with rfl | rfl | rfl <;> trivial
section
variable {aw:Addr}
theorem rX:FnScope ["script","tape","turn","thing","way","due","found"] ["script"] (aK (bP 60)):={}
theorem wZ {f f1 f2 f3 f4 f5 f6 f7:Addr}{fd fd1 fd2 fd3 fd4 fd5 fd6 fd7:FuncData} (F:Fun K "law" "law" (bP 60) f fd) (T:Txt mg)
  (G__law_draw:Callee P w K mg base "_law_draw" ["tape","many"] 1 d0 f1 fd1)
  (G__law_net:Callee P w K mg base "_law_net" ["tape","most","small"] 4 (oE K) f2 fd2)
  (G__law_spoilt:Callee P w K mg base "_law_spoilt" ["tape","thing"] 17 (jH K) f3 fd3)
  (G__law_any:Callee P w K mg base "_law_any" ["tape"] 2 (mX K) f4 fd4)
  (G__law_is_net:Callee P w K mg base "_law_is_net" ["thing"] 3 (g3 K) f5 fd5)
  (G_is_net:Callee P w K mg base "is_net" ["thing"] 4 (g3 K) f6 fd6)
  (G__law_made:Callee P w K mg base "_law_made" ["thing"] 7 (oF K) f7 fd7):FnOk P w K mg base fK 18 f fd ["script"] (pP K):=by
 refine F.ok rX (λ vs H Q E h=>?_) (λ cdv A outer s H vs Q E hr h=>?_)
 ·obtain⟨a,ns,rfl,_⟩:=h;rfl
 ·obtain⟨a,ns,rfl,hS,hlen,k⟩:=h;have sc:=rX;refine⟨_,(aE (pL 1 sc.nd (bB (aA (bX (kZ (K:=K) rfl) rfl T.b_list qJ (aA (pv 0) aB)) (aA aD (aA aD aB)))))
   (aE (d7 PassesOwn.never rfl (d4 rfl T.b_range (aA aD aB)) (gL 2 sc.nd) (aE (pL 3 sc.nd (bY G__law_net hr (aA (pv 1) (aA (px K (bB (aA aD (aA aD aB))) (aS hV (pv 2) aD)) (aA bV aB)))))
   (aE (pL 4 sc.nd (bY G__law_draw hr (aA (pv 1) (aA aD aB))))
   (aE (bI (aW gP (pv 4) aD (aZ _)) (aG (pL 3 sc.nd (bY G__law_spoilt hr (aA (pv 1) (aA (pv 3) aB))))) aP)
   (aE (bI (PW.pt (dP (aW gR (pv 4) aD (aZ _)) (dJ (aX (aL (aR (K:=K) rfl) rfl T.b_isinstance aQ (aA (pv 3) (aA (bG (v:=.ty "tuple") rfl T.b_tuple bO rfl) aB))))))) (aG (pL 3 sc.nd (bY G__law_spoilt hr (aA (pv 1) (aA (pv 3) aB))))) aP)
   (aE (bI (aW gR (pv 4) aD (aZ _)) (aG (pL 3 sc.nd (bY G__law_any hr (aA (pv 1) aB)))) aP)
   (aE (pL 5 sc.nd (bY G__law_is_net hr (aA (pv 3) aB)))
   (aE (pL 6 sc.nd (bY G_is_net hr (aA (pv 3) aB)))
   (aE (bI (PW.pt (cM (bC (aX (aL (aR (K:=K) rfl) rfl T.b_isinstance aQ (aA (pv 6) (aA (bG (v:=.ty "bool") rfl T.b_bool eM rfl) aB))))) (cI (aW kW (pv 6) (pv 5) (aZ _))))) (aG (aM bV)) aP)
   (aG (bI (aW (oP (K:=K) rfl hr.units) (bY G__law_made hr (aA (pv 3) aB)) (px K (bB (aA (bE (aA bQ aB)) (aA (bE (aA bQ aB)) aB))) (bX d6 rfl T.b_int eL (aA (pv 5) aB))) (aZ _)) (aG (aM bV)) aP)))))))))))
   (aG (aM bV)))),?_⟩
  refine⟨_,rfl,a,_,rfl,.inl hS,λ sl hsl=>⟨(show 3<=sizeLine by decide),λ t ht=>?_⟩⟩;have nst:sl≠t:=aN (show upd H sl (.lst (ns.map V.int)) sl=_ from aF) ht;have tp0:cB (upd (upd H sl (.lst (ns.map V.int))) t (.lst [.ref sl,.int 0,.int 0])) t sl:=⟨ns,0,0,aF,by rw[aJ nst];exact aF,by omega⟩;generalize upd (upd H sl (.lst (ns.map V.int))) t (.lst [.ref sl,.int 0,.int 0])=H0 at tp0;refine⟨10,rfl,by decide,by decide,?_⟩;refine eD (lo:=0) (n:=10) (λ i aa H'=>cB H' t sl/\∃ v2 v3 v4 v5 v6,aa=[some (.ref a),some (.ref t),v2,v3,v4,v5,v6]) ⟨tp0,_,_,_,_,_,rfl⟩ ?_ ?_;rotate_left
  ·rintro aa H' _;exact k _
  rintro turn aa H1 _ ⟨tp1,v2,v3,v4,v5,v6,rfl⟩;dsimp only [cC,pO];refine lP (λ aa H'=>cB H' t sl/\∃ (x:V) (g:G),aI K (cE t H') g x/\fX 12 5 g/\aa=[some (.ref a),some (.ref t),some (.int (0+(turn:Int))),some x,v4,v5,v6]) (λ D' hD=>?_) ?_
  ·refine⟨_,rfl,(show 2<=sizeLine by decide),λ l hl=>?_⟩;have s2:=aH.new (o:=HO.lst [.int 4,.int 12]) hl;obtain⟨m,hm,m1,m2⟩:∃ m:Int,rN [V.int 4,.int 12] ((0+(turn:Int)) % 2)=some (.int m)/\1<=m/\m<=12:=by
    rcases (show (0+(turn:Int)) % 2=0\/(0+(turn:Int)) % 2=1 by omega) with e | e <;> rw[e]
    ·exact⟨4,rfl,by decide,by decide⟩
    ·exact⟨12,rfl,by decide,by decide⟩
   refine⟨_,rfl,_,_,rfl,rfl,(show (0:Int) < 2 by decide),.inl ⟨l,_,_,_,rfl,rfl,cG.of aF,hm,t,sl,m,false,rfl,m1,m2,tp1.same s2,λ net x H2 e2 nok nfu nl hx=>?_⟩⟩;obtain⟨q,hq⟩:=e2.tp.l;exact hD _ _ ⟨e2.tp,x,dB (hX net),(Is.mono (mF hq) _ _ hx).g,vF nok,rfl⟩
  clear tp1;rintro aa H1 ⟨tp1,x,g,hg,bg,rfl⟩;refine⟨_,rfl,t,sl,8,rfl,tp1,by decide,by decide,λ way H2 b2 tp2 r0 r1=>?_⟩;have hg2:=aI.same (d8 b2) hg;clear hg tp1;dsimp only [cC,pO];refine lP (λ aa H'=>cB H' t sl/\∃ (x:V) (g:G) (wd d:Nat),aI K (cE t H') g x/\fX wd d g/\12<=wd/\wd<=900/\d<=15/\aa=[some (.ref a),some (.ref t),some (.int (0+(turn:Int))),some x,some (.int way),v5,v6]) (λ D' hD=>?_) ?_
  ·refine⟨_,rfl,_,_,rfl,rfl,_,rfl,cV (λ h=>?_) (λ h=>?_)⟩
   ·refine⟨_,rfl,_,rfl,t,sl,x,g,12,5,rfl,tp2,hg2,bg,by decide,by decide,by decide,λ p g' H' e' hg' bg'=>hD _ _ ⟨e'.tp,p,g',13,13,hg',bg',by decide,by decide,by decide,rfl⟩⟩
   ·exact hD _ _ ⟨tp2,x,g,12,5,hg2,bg,by decide,by decide,by decide,rfl⟩
  clear tp2 hg2 bg;rintro aa H3 ⟨tp3,x,g,wd,d,hg3,bg,w1,w2,hd,rfl⟩;refine lP (λ aa H'=>cB H' t sl/\∃ (x:V) (g:G),aI K (cE t H') g x/\aa=[some (.ref a),some (.ref t),some (.int (0+(turn:Int))),some x,some (.int way),v5,v6]) (λ D' hD=>?_) ?_
  ·refine⟨_,rfl,rfl,_,rfl,cV (λ h=>?_) (λ h=>?_)⟩
   ·refine⟨_,rfl,x,"tuple",g,rfl,by decide,aI.same cW hg3,_,rfl,cV (λ h=>?_) (λ h=>?_)⟩
    ·exact⟨_,rfl,_,rfl,t,sl,x,g,wd,d,rfl,tp3,hg3,bg,w1,w2,hd,λ p g' H' e' hg' bg'=>hD _ _ ⟨e'.tp,p,g',hg',rfl⟩⟩
    ·exact hD _ _ ⟨tp3,x,g,hg3,rfl⟩
   ·exact aV (hD _ _ ⟨tp3,x,g,hg3,rfl⟩)
  clear tp3 hg3 bg w1 w2 hd;rintro aa H4 ⟨tp4,x,g,hg4,rfl⟩;refine lP (λ aa H'=>cB H' t sl/\∃ (x:V) (g:G),aI K (cE t H') g x/\aa=[some (.ref a),some (.ref t),some (.int (0+(turn:Int))),some x,some (.int way),v5,v6]) (λ D' hD=>?_) ?_
  ·refine⟨_,rfl,rfl,_,rfl,cV (λ h=>?_) (λ h=>?_)⟩
   ·exact⟨_,rfl,t,sl,rfl,tp4,λ p g' H' e' hg' bg'=>hD _ _ ⟨e'.tp,p,g',hg',rfl⟩⟩
   ·exact hD _ _ ⟨tp4,x,g,hg4,rfl⟩
  clear tp4 hg4;rintro aa H5 ⟨tp5,x,g,hg5,rfl⟩;have hg5:=aI.same cW hg5;refine⟨_,rfl,x,g,rfl,hg5,λ H6 s6=>?_⟩;refine⟨_,rfl,x,g,rfl,aI.same s6 hg5,λ H7 s7=>?_⟩;have s57:=s6.trans s7;refine⟨_,rfl,_,"bool",.bl (dC g),rfl,by decide,.b _,_,rfl,aV ?_⟩;refine⟨_,rfl,_,rfl,rfl,_,rfl,?_⟩;rw[show (!decide (V.bl (dC g)=V.bl (dC g)))=false by simp];refine aV ?_;refine⟨_,rfl,x,g,rfl,aI.same s57 hg5,λ p H8 s8 qp=>?_⟩;refine⟨(show 1<=sizeLine by decide),λ p1 hp1=>⟨(show 1<=sizeLine by decide),λ p2 hp2=>⟨(show 2<=sizeLine by decide),λ l9 hl9=>?_⟩⟩⟩;have s9:=aH.new (o:=HO.tup [.str "net"]) hp1;have q1:bU K (upd H8 p1 (.tup [.str "net"])) p1 [.str "net"]:=bU.of aF;generalize upd H8 p1 (.tup [.str "net"])=H9 at s9 q1 hp2 hl9 ⊢;have s10:=aH.new (o:=HO.tup [.str "made"]) hp2;have q2:bU K (upd H9 p2 (.tup [.str "made"])) p2 [.str "made"]:=bU.of aF;generalize upd H9 p2 (.tup [.str "made"])=H10 at s10 q2 hl9 ⊢;have s11:=aH.new (o:=HO.lst [.ref p1,.ref p2]) hl9;have qp11:=((s9.trans s10).trans s11).tup qp;have q11:=(s10.trans s11).tup q1;have q21:=s11.tup q2;have l11:upd H10 l9 (.lst [.ref p1,.ref p2]) l9=some (.lst [.ref p1,.ref p2]):=aF;have s511:=s57.trans (s8.trans ((s9.trans s10).trans s11));generalize upd H10 l9 (.lst [.ref p1,.ref p2])=H11 at s11 qp11 q11 q21 l11 s511 ⊢;have fin:cB H11 t sl/\∃ v2 v3 v4 v5' v6',[some (V.ref a),some (.ref t),some (.int (0+(turn:Int))),some x,some (.int way),some (.bl (dC g)),some (.bl (dC g))]=[some (.ref a),some (.ref t),v2,v3,v4,v5',v6']:=⟨tp5.same s511,_,_,_,_,_,rfl⟩;have dp:∀ z:Str,d2 [L2.D.str z]<=20:=λ z=>by rw[d2,d2,rA];decide
  refine⟨_,rfl,.inr ⟨dC g,rfl,?_⟩⟩;cases e:dC g with
  | true=>
   rw[e,if_pos rfl] at qp11;exact .inl ⟨l9,_,1,.ref p2,rfl,rfl,cG.of l11,rfl,[.str "made"],(show 1<=1000 by decide),dp _,Is.tupOf qp11 (.cons (Is.s _) .nil),Is.tupOf q21 (.cons (Is.s _) .nil),_,rfl,aV (e ▸ fin)⟩
  | false=>
   rw[e,if_neg (by decide)] at qp11;exact .inl ⟨l9,_,0,.ref p1,rfl,rfl,cG.of l11,rfl,[.str "net"],(show 1<=1000 by decide),dp _,Is.tupOf qp11 (.cons (Is.s _) .nil),Is.tupOf q11 (.cons (Is.s _) .nil),_,rfl,aV (e ▸ fin)⟩
end
theorem eK {af:Type}{p:List af->Prop} (h:∀ a0,p [a0]):∀ us:List af,us.length=1->p us
 | [a0],_=>h a0
theorem cY {af:Type}{p:List af->Prop} (h:∀ a0 a1,p [a0,a1]):∀ us:List af,us.length=2->p us
 | [a0,a1],_=>h a0 a1
theorem eJ {af:Type}{p:List af->Prop} (h:∀ a0 a1 a2,p [a0,a1,a2]):∀ us:List af,us.length=3->p us
 | [a0,a1,a2],_=>h a0 a1 a2
theorem qI {af:Type}{p:List af->Prop} (h:∀ a0 a1 a2 a3,p [a0,a1,a2,a3]):∀ us:List af,us.length=4->p us
 | [a0,a1,a2,a3],_=>h a0 a1 a2 a3
theorem vE {af:Type}{p:List af->Prop} (h:∀ a0 a1 a2 a3 a4,p [a0,a1,a2,a3,a4]):∀ us:List af,us.length=5->p us
 | [a0,a1,a2,a3,a4],_=>h a0 a1 a2 a3 a4
abbrev Na (K:aaa) (x:Str) (f:Addr):Prop:=PySem.W.nsIn K mainGlobals x=some (some (.ref f))
abbrev Nn (K:aaa) (x:Str):Prop:=PySem.W.nsIn K mainGlobals x=some none
abbrev Kp (K:aaa) (f:Addr):Prop:=PySem.W.keepIn K (.ref f)=true
abbrev Cd (K:aaa) (c:Value) (q:Str):Prop:=PySem.W.codeIn K c q=true
abbrev Lk (K:aaa) (f:Addr) (m q:Str) (s:Stmt) (oc:Value) (od:Option Addr) (kV dc pm:Value) (an:Option Addr) (cd ct:Value) (sl:Array (Option Value)):Prop:=K.lookup f=some ⟨oc,od,.func (PySem.W.fnOf m q (fI s) (dM s) (aK s) .none kV dc pm an cd ct),sl⟩
theorem all_mk {l:PySem.W.OpenLaw}{w:World}{K:aaa}{h:Heap}{mg:Str->Option Value}{fa f0 f1 f2 f3 f4 f5 f6 f7 f8 f9 f10 f11 f12 f13 f14 f15 f16 f17 f18 f19 f20 f21 f22 f23 f24 f25 C aw c_TipError c_NoNet c_NoVessel c_TooLong c_TooMany c_TooMuch c_Nothing c_NoText c_NoRow:Addr} (X:K.In h) (G:h.Ns mainGlobals mg) (hfa:mg "law" = some (.ref fa))
  {od0 an0 od1 an1 od2 an2 od3 an3 od4 an4 od5 an5 od6 an6 od7 an7 od8 an8 od9 an9 od10 an10 od11 an11 od12 an12 od13 an13 od14 an14 od15 an15 od16 an16 od17 an17 od18 an18 od19 an19 od20 an20 od21 an21 od22 an22 od23 an23 od24 an24 od25 an25:Option Addr}{sl0 sl1 sl2 sl3 sl4 sl5 sl6 sl7 sl8 sl9 sl10 sl11 sl12 sl13 sl14 sl15 sl16 sl17 sl18 sl19 sl20 sl21 sl22 sl23 sl24 sl25:Array (Option Value)}{oc0 kV0 dc0 pm0 ct0 cd0 oc1 kV1 dc1 pm1 ct1 cd1 oc2 kV2 dc2 pm2 ct2 cd2 oc3 kV3 dc3 pm3 ct3 cd3 oc4 kV4 dc4 pm4 ct4 cd4 oc5 kV5 dc5 pm5 ct5 cd5 oc6 kV6 dc6 pm6 ct6 cd6 oc7 kV7 dc7 pm7 ct7 cd7 oc8 kV8 dc8 pm8 ct8 cd8 oc9 kV9 dc9 pm9 ct9 cd9 oc10 kV10 dc10 pm10 ct10 cd10 oc11 kV11 dc11 pm11 ct11 cd11 oc12 kV12 dc12 pm12 ct12 cd12 oc13 kV13 dc13 pm13 ct13 cd13 oc14 kV14 dc14 pm14 ct14 cd14 oc15 kV15 dc15 pm15 ct15 cd15 oc16 kV16 dc16 pm16 ct16 cd16 oc17 kV17 dc17 pm17 ct17 cd17 oc18 kV18 dc18 pm18 ct18 cd18 oc19 kV19 dc19 pm19 ct19 cd19 oc20 kV20 dc20 pm20 ct20 cd20 oc21 kV21 dc21 pm21 ct21 cd21 oc22 kV22 dc22 pm22 ct22 cd22 oc23 kV23 dc23 pm23 ct23 cd23 oc24 kV24 dc24 pm24 ct24 cd24 oc25 kV25 dc25 pm25 ct25 cd25:Value}
  {tk0 tk1 tk2 tk3 tk4 tk5 tk6 tk7 tw1 tw2 tw3:Tok}{odw:Option Addr}{nw:Nat}{slw:Array (Option Value)}
  (aC:Na K "Run" C)
  {qcT:Value}{qdT:Option Addr}{qkT:ClassData}{qsT:Array (Option Value)}
  (a0:Na K "_law_draw" f0)
  (l0:Lk K f0 "_law_draw" "_law_draw" (bP 46) oc0 od0 kV0 dc0 pm0 an0 cd0 ct0 sl0)
  (c0:Cd K cd0 "_law_draw")
  (k0:Kp K f0)
  (a1:Na K "_law_outs" f1)
  (l1:Lk K f1 "_law_outs" "_law_outs" (bP 54) oc1 od1 kV1 dc1 pm1 an1 cd1 ct1 sl1)
  (c1:Cd K cd1 "_law_outs")
  (k1:Kp K f1)
  (a2:Na K "_law_vessel" f2)
  (l2:Lk K f2 "_law_vessel" "_law_vessel" (bP 55) oc2 od2 kV2 dc2 pm2 an2 cd2 ct2 sl2)
  (c2:Cd K cd2 "_law_vessel")
  (k2:Kp K f2)
  (a3:Na K "_law_net" f3)
  (l3:Lk K f3 "_law_net" "_law_net" (bP 56) oc3 od3 kV3 dc3 pm3 an3 cd3 ct3 sl3)
  (c3:Cd K cd3 "_law_net")
  (k3:Kp K f3)
  (a4:Na K "_law_path" f4)
  (l4:Lk K f4 "_law_path" "_law_path" (bP 49) oc4 od4 kV4 dc4 pm4 an4 cd4 ct4 sl4)
  (c4:Cd K cd4 "_law_path")
  (k4:Kp K f4)
  (a5:Na K "_law_got" f5)
  (l5:Lk K f5 "_law_got" "_law_got" (bP 50) oc5 od5 kV5 dc5 pm5 an5 cd5 ct5 sl5)
  (c5:Cd K cd5 "_law_got")
  (k5:Kp K f5)
  (a6:Na K "_law_put" f6)
  (l6:Lk K f6 "_law_put" "_law_put" (bP 48) oc6 od6 kV6 dc6 pm6 an6 cd6 ct6 sl6)
  (c6:Cd K cd6 "_law_put")
  (k6:Kp K f6)
  (a7:Na K "_law_any" f7)
  (l7:Lk K f7 "_law_any" "_law_any" (bP 47) oc7 od7 kV7 dc7 pm7 an7 cd7 ct7 sl7)
  (c7:Cd K cd7 "_law_any")
  (k7:Kp K f7)
  (a8:Na K "_law_spoilt" f8)
  (l8:Lk K f8 "_law_spoilt" "_law_spoilt" (bP 51) oc8 od8 kV8 dc8 pm8 an8 cd8 ct8 sl8)
  (c8:Cd K cd8 "_law_spoilt")
  (k8:Kp K f8)
  (a9:Na K "_law_whole" f9)
  (l9:Lk K f9 "_law_whole" "_law_whole" (bP 52) oc9 od9 kV9 dc9 pm9 an9 cd9 ct9 sl9)
  (c9:Cd K cd9 "_law_whole")
  (k9:Kp K f9)
  (a10:Na K "_law_is_vessel" f10)
  (l10:Lk K f10 "_law_is_vessel" "_law_is_vessel" (bP 58) oc10 od10 kV10 dc10 pm10 an10 cd10 ct10 sl10)
  (c10:Cd K cd10 "_law_is_vessel")
  (k10:Kp K f10)
  (a11:Na K "_law_is_net" f11)
  (l11:Lk K f11 "_law_is_net" "_law_is_net" (bP 57) oc11 od11 kV11 dc11 pm11 an11 cd11 ct11 sl11)
  (c11:Cd K cd11 "_law_is_net")
  (k11:Kp K f11)
  (a12:Na K "is_tuple" f12)
  (l12:Lk K f12 "is_tuple" "is_tuple" (bP 27) oc12 od12 kV12 dc12 pm12 an12 cd12 ct12 sl12)
  (c12:Cd K cd12 "is_tuple")
  (k12:Kp K f12)
  (a13:Na K "is_whole" f13)
  (l13:Lk K f13 "is_whole" "is_whole" (bP 28) oc13 od13 kV13 dc13 pm13 an13 cd13 ct13 sl13)
  (c13:Cd K cd13 "is_whole")
  (k13:Kp K f13)
  (a14:Na K "is_out" f14)
  (l14:Lk K f14 "is_out" "is_out" (bP 23) oc14 od14 kV14 dc14 pm14 an14 cd14 ct14 sl14)
  (c14:Cd K cd14 "is_out")
  (k14:Kp K f14)
  (a15:Na K "is_act" f15)
  (l15:Lk K f15 "is_act" "is_act" (bP 24) oc15 od15 kV15 dc15 pm15 an15 cd15 ct15 sl15)
  (c15:Cd K cd15 "is_act")
  (k15:Kp K f15)
  (a16:Na K "is_vessel" f16)
  (l16:Lk K f16 "is_vessel" "is_vessel" (bP 22) oc16 od16 kV16 dc16 pm16 an16 cd16 ct16 sl16)
  (c16:Cd K cd16 "is_vessel")
  (k16:Kp K f16)
  (a17:Na K "is_spout" f17)
  (l17:Lk K f17 "is_spout" "is_spout" (bP 25) oc17 od17 kV17 dc17 pm17 an17 cd17 ct17 sl17)
  (c17:Cd K cd17 "is_spout")
  (k17:Kp K f17)
  (a18:Na K "is_net" f18)
  (l18:Lk K f18 "is_net" "is_net" (bP 21) oc18 od18 kV18 dc18 pm18 an18 cd18 ct18 sl18)
  (c18:Cd K cd18 "is_net")
  (k18:Kp K f18)
  (a19:Na K "first_state" f19)
  (l19:Lk K f19 "first_state" "first_state" (bP 30) oc19 od19 kV19 dc19 pm19 an19 cd19 ct19 sl19)
  (c19:Cd K cd19 "first_state")
  (k19:Kp K f19)
  (a20:Na K "pouring" f20)
  (l20:Lk K f20 "pouring" "pouring" (bP 31) oc20 od20 kV20 dc20 pm20 an20 cd20 ct20 sl20)
  (c20:Cd K cd20 "pouring")
  (k20:Kp K f20)
  (a21:Na K "first_moment" f21)
  (l21:Lk K f21 "first_moment" "first_moment" (bP 40) oc21 od21 kV21 dc21 pm21 an21 cd21 ct21 sl21)
  (c21:Cd K cd21 "first_moment")
  (k21:Kp K f21)
  (a22:PySem.W.findIn K (.ref C) "__init__" = some (some (.ref f22)))
  (i22:PySem.W.isFn K (.ref f22)=true)
  (l22:Lk K f22 "__init__" "Run.__init__" (j5 (bP 44) 0) oc22 od22 kV22 dc22 pm22 an22 cd22 ct22 sl22)
  (c22:Cd K cd22 "Run.__init__")
  (k22:Kp K f22)
  (a23:Na K "_law_word" f23)
  (l23:Lk K f23 "_law_word" "_law_word" (bP 53) oc23 od23 kV23 dc23 pm23 an23 cd23 ct23 sl23)
  (c23:Cd K cd23 "_law_word")
  (k23:Kp K f23)
  (a24:Na K "_law_made" f24)
  (l24:Lk K f24 "_law_made" "_law_made" (bP 59) oc24 od24 kV24 dc24 pm24 an24 cd24 ct24 sl24)
  (c24:Cd K cd24 "_law_made")
  (k24:Kp K f24)
  (a25:Na K "law" f25)
  (l25:Lk K f25 "law" "law" (bP 60) oc25 od25 kV25 dc25 pm25 an25 cd25 ct25 sl25)
  (c25:Cd K cd25 "law")
  (k25:Kp K f25)
  (pg:PySem.W.plainGet K C Str.empty=true)
  (hd:PySem.W.hasDictIn K C=true)
  (po:PySem.W.plainOver K C=true)
  (sa:PySem.W.findIn K (.ref C) "__setattr__" = some (some (.builtin "object.__setattr__")))
  (mk:PySem.W.makesIn K C=true)
  (kc:Kp K C)
  (n0:PySem.W.findIn K (.ref C) "net" = some none)
  (n1:PySem.W.findIn K (.ref C) "rows" = some none)
  (n2:PySem.W.findIn K (.ref C) "moments" = some none)
  (n3:PySem.W.findIn K (.ref C) "tip_ticks" = some none)
  (mc0:PySem.W.nsIn K mainGlobals "MOST_VESSELS" = some (some (.int 12 tk0)))
  (mc1:PySem.W.nsIn K mainGlobals "MOST_SPOUTS" = some (some (.int 12 tk1)))
  (mc2:PySem.W.nsIn K mainGlobals "MOST_SIZE" = some (some (.int 60 tk2)))
  (mc3:PySem.W.nsIn K mainGlobals "MOST_BRIM" = some (some (.int 200 tk3)))
  (mc4:PySem.W.nsIn K mainGlobals "MOST_OUTS" = some (some (.int 3 tk4)))
  (mc5:PySem.W.nsIn K mainGlobals "MOST_PARTS" = some (some (.int 60 tk5)))
  (mc6:PySem.W.nsIn K mainGlobals "MOST_ACTS" = some (some (.int 3 tk6)))
  (mc7:PySem.W.nsIn K mainGlobals "MOST_FLOW" = some (some (.int 60 tk7)))
  (mcw:Na K "ACT_WORDS" aw)
  (mlw:K.lookup aw=some ⟨.type "tuple",odw,.seq #[.str "open" tw1,.str "shut" tw2,.str "turn" tw3] nw,slw⟩)
  (zS:Nn K "str")
  (xcTipError:Na K "TipError" c_TipError)
  (xcNoNet:Na K "NoNet" c_NoNet)
  (xcNoVessel:Na K "NoVessel" c_NoVessel)
  (xcTooLong:Na K "TooLong" c_TooLong)
  (xcTooMany:Na K "TooMany" c_TooMany)
  (xcTooMuch:Na K "TooMuch" c_TooMuch)
  (xcNothing:Na K "Nothing" c_Nothing)
  (xcNoText:Na K "NoText" c_NoText)
  (xcNoRow:Na K "NoRow" c_NoRow)
  (xv:Nn K "ValueError")
  (gaT:PySem.W.findIn K (.ref c_NoNet) "__getattribute__" = some (some (.builtin "BaseException.__getattribute__")))
  (gtT:PySem.W.findIn K (.ref c_NoNet) "__getattr__" = some none)
  (caT:PySem.W.findIn K (.ref c_NoNet) "__class__" = some (some (.builtin "object.__class__")))
  (gg:PySem.W.specialIn K (.builtin "object.__class__") "__get__" = some (some (.builtin "getset_descriptor.__get__")))
  (tk:PySem.W.takesIn K (.builtin "object.__class__")=some true)
  (moT:PySem.W.mroIn K c_NoNet (.type "object")=some true)
  (mbT:PySem.W.mroIn K c_NoNet (.type "BaseException")=some true)
  (clT:K.lookup c_NoNet=some ⟨qcT,qdT,.cls qkT,qsT⟩)
  (z0:Nn K "len")
  (z1:Nn K "sum")
  (z2:Nn K "all")
  (z3:Nn K "max")
  (z4:Nn K "min")
  (z5:Nn K "int")
  (z6:Nn K "tuple")
  (z7:Nn K "list")
  (z8:Nn K "bool")
  (z9:Nn K "range")
  (z10:Nn K "zip")
  (z11:Nn K "enumerate")
  (z12:Nn K "isinstance")
  (z13:Nn K "divmod")
  (z14:Nn K "set")
  (z15:Nn K "sorted")
  (exT:PySem.W.excIn K c_NoNet [.type "ValueError",.type "Exception",.type "BaseException",.type "object"] "ValueError.__new__" = true)
  (vaT:PySem.W.kitOne K (.ref c_NoNet) (.type "ValueError")=some true)
  (kkT0:PySem.W.kitOne K (.ref c_NoNet) (.ref c_NoNet)=some true)
  (kkT1:PySem.W.kitOne K (.ref c_NoNet) (.ref c_NoVessel)=some false)
  (kkT2:PySem.W.kitOne K (.ref c_NoNet) (.ref c_TooLong)=some false)
  (kkT3:PySem.W.kitOne K (.ref c_NoNet) (.ref c_TooMany)=some false)
  (kkT4:PySem.W.kitOne K (.ref c_NoNet) (.ref c_TooMuch)=some false)
  (kkT5:PySem.W.kitOne K (.ref c_NoNet) (.ref c_Nothing)=some false)
  (kkT6:PySem.W.kitOne K (.ref c_NoNet) (.ref c_NoText)=some false)
  (kkT7:PySem.W.kitOne K (.ref c_NoNet) (.ref c_NoRow)=some false)
  (hmTh:PySem.W.exmOne K (.ref c_NoNet) (.ref c_TipError)=some true) :
  ∃ fd:FuncData,(∀ (s:Shared) (v:Value),BindsTo s fd ⟨[v],[]⟩ [("script",v)])/\∀ base:Heap,K.In base->base.Ns mainGlobals mg->FnOk l.prog w K mg base fK 18 fa fd ["script"] (pP K):=by
 have e:=hfa.symm.trans (aae X G a25);cases e;have T:Txt mg:=⟨aan X G z0,aan X G z1,aan X G z2,aan X G z3,aan X G z4,aan X G z5,aan X G z6,aan X G z7,aan X G z8,aan X G z9,aan X G z10,aan X G z11,aan X G z12,aan X G z13,aan X G z14,aan X G z15⟩;have U:TxtN K mg aw:=⟨⟨_,aae X G mc0,_,rfl⟩,⟨_,aae X G mc1,_,rfl⟩,⟨_,aae X G mc2,_,rfl⟩,⟨_,aae X G mc3,_,rfl⟩,⟨_,aae X G mc4,_,rfl⟩,⟨_,aae X G mc5,_,rfl⟩,⟨_,aae X G mc6,_,rfl⟩,⟨_,aae X G mc7,_,rfl⟩,⟨_,aae X G mcw,rfl⟩,λ H=>.inr ⟨_,_,_,mlw,rfl,rfl,by show 3<=sizeLine;decide,.cons ⟨_,rfl⟩ (.cons ⟨_,rfl⟩ (.cons ⟨_,rfl⟩ .nil))⟩⟩;have TS:TxtS mg:=⟨aan X G zS⟩;have W:TxtW mg c_TipError c_NoNet c_NoVessel c_TooLong c_TooMany c_TooMuch c_Nothing c_NoText c_NoRow:=⟨aae X G xcTipError,aae X G xcNoNet,aae X G xcNoVessel,aae X G xcTooLong,aae X G xcTooMany,aae X G xcTooMuch,aae X G xcNothing,aae X G xcNoText,aae X G xcNoRow,aan X G xv⟩;have XC_NoNet:ExC K "NoNet" c_NoNet:=⟨xcNoNet,exT⟩;have kdT:KindOf K c_NoNet c_NoVessel c_TooLong c_TooMany c_TooMuch c_Nothing c_NoText c_NoRow c_NoNet [true,false,false,false,false,false,false,false]:=⟨⟨gaT,gtT,caT,gg,tk,moT,mbT⟩,⟨_,_,_,_,clT⟩,vaT,⟨_,_,_,_,_,_,_,_,rfl,kkT0,kkT1,kkT2,kkT3,kkT4,kkT5,kkT6,kkT7⟩⟩;have hmT:=hmTh;have tx:RunTx K C:=⟨⟨pg,hd,po,sa⟩,n0,n1,n2,n3⟩;have F0:=bT (st:=(bP 46)) l0 c0 k0;have F1:=bT (st:=(bP 54)) l1 c1 k1;have F2:=bT (st:=(bP 55)) l2 c2 k2;have F3:=bT (st:=(bP 56)) l3 c3 k3;have F4:=bT (st:=(bP 49)) l4 c4 k4;have F5:=bT (st:=(bP 50)) l5 c5 k5;have F6:=bT (st:=(bP 48)) l6 c6 k6;have F7:=bT (st:=(bP 47)) l7 c7 k7;have F8:=bT (st:=(bP 51)) l8 c8 k8;have F9:=bT (st:=(bP 52)) l9 c9 k9;have F10:=bT (st:=(bP 58)) l10 c10 k10;have F11:=bT (st:=(bP 57)) l11 c11 k11;have F12:=bT (st:=(bP 27)) l12 c12 k12;have F13:=bT (st:=(bP 28)) l13 c13 k13;have F14:=bT (st:=(bP 23)) l14 c14 k14;have F15:=bT (st:=(bP 24)) l15 c15 k15;have F16:=bT (st:=(bP 22)) l16 c16 k16;have F17:=bT (st:=(bP 25)) l17 c17 k17;have F18:=bT (st:=(bP 21)) l18 c18 k18;have F19:=bT (st:=(bP 30)) l19 c19 k19;have F20:=bT (st:=(bP 31)) l20 c20 k20;have F21:=bT (st:=(bP 40)) l21 c21 k21;have F22:=bT (st:=(j5 (bP 44) 0)) l22 c22 k22;have F23:=bT (st:=(bP 53)) l23 c23 k23;have F24:=bT (st:=(bP 59)) l24 c24 k24;have F25:=bT (st:=(bP 60)) l25 c25 k25;refine⟨PySem.W.fnOf "law" "law" (fI (bP 60)) (dM (bP 60)) (aK (bP 60)) .none kV25 dc25 pm25 an25 cd25 ct25,λ s v=>.of_eq rfl,λ base _ _=>?_⟩;have CB0:Callee l.prog w K mg base "_law_draw" ["tape","many"] 1 lM f0 _:=⟨fT F0 T,aae X G a0,k0,F0.binds λ _ _ _ _ _ _=>cY λ _ _=>rfl⟩;have C0:Callee l.prog w K mg base "_law_draw" ["tape","many"] 1 d0 f0 _:=⟨m7 F0 T,aae X G a0,k0,F0.binds λ _ _ _ _ _ _=>cY λ _ _=>rfl⟩;have C1:Callee l.prog w K mg base "_law_outs" ["tape","many","small"] 2 (oB K) f1 _:=⟨m4 F1 T C0,aae X G a1,k1,F1.binds λ _ _ _ _ _ _=>eJ λ _ _ _=>rfl⟩;have C2:Callee l.prog w K mg base "_law_vessel" ["tape","number","many","spouts","small"] 3 (jG K) f2 _:=⟨jR F2 T C0 C1,aae X G a2,k2,F2.binds λ _ _ _ _ _ _=>vE λ _ _ _ _ _=>rfl⟩;have C3:Callee l.prog w K mg base "_law_net" ["tape","most","small"] 4 (oE K) f3 _:=⟨m5 F3 T C0 C2,aae X G a3,k3,F3.binds λ _ _ _ _ _ _=>eJ λ _ _ _=>rfl⟩;have C4:Callee l.prog w K mg base "_law_path" ["tape","thing"] 2 (oA K) f4 _:=⟨lZ F4 T C0,aae X G a4,k4,F4.binds λ _ _ _ _ _ _=>cY λ _ _=>rfl⟩;have C5:Callee l.prog w K mg base "_law_got" ["thing","path"] 1 (oG K) f5 _:=⟨nE F5 T,aae X G a5,k5,F5.binds λ _ _ _ _ _ _=>cY λ _ _=>rfl⟩;have C6:Callee l.prog w K mg base "_law_put" ["thing","path","other"] 16 (jI 15 K) f6 _:=⟨kK F6 T (aae X G a6) k6 (F6.binds λ _ _ _ _ _ _=>eJ λ _ _ _=>rfl),aae X G a6,k6,F6.binds λ _ _ _ _ _ _=>eJ λ _ _ _=>rfl⟩;have C7:Callee l.prog w K mg base "_law_any" ["tape"] 2 (mX K) f7 _:=⟨nF F7 T CB0,aae X G a7,k7,F7.binds λ _ _ _ _ _ _=>eK λ _=>rfl⟩;have C8:Callee l.prog w K mg base "_law_spoilt" ["tape","thing"] 17 (jH K) f8 _:=⟨jS F8 T C0 C4 C5 C6 C7,aae X G a8,k8,F8.binds λ _ _ _ _ _ _=>cY λ _ _=>rfl⟩;have C9:Callee l.prog w K mg base "_law_whole" ["thing","low","high"] 1 (cL K) f9 _:=⟨jQ F9 T,aae X G a9,k9,F9.binds λ _ _ _ _ _ _=>eJ λ _ _ _=>rfl⟩;have C10:Callee l.prog w K mg base "_law_is_vessel" ["thing","number","many","spouts"] 2 (hG K) f10 _:=⟨g7 F10 T TS C9,aae X G a10,k10,F10.binds λ _ _ _ _ _ _=>qI λ _ _ _ _=>rfl⟩;have C11:Callee l.prog w K mg base "_law_is_net" ["thing"] 3 (g3 K) f11 _:=⟨iS F11 T C9 C10,aae X G a11,k11,F11.binds λ _ _ _ _ _ _=>eK λ _=>rfl⟩;have C12:Callee l.prog w K mg base "is_tuple" ["thing","least","most"] 1 (g0 K) f12 _:=⟨lW F12 T,aae X G a12,k12,F12.binds λ _ _ _ _ _ _=>eJ λ _ _ _=>rfl⟩;have C13:Callee l.prog w K mg base "is_whole" ["thing","least","most"] 1 (cL K) f13 _:=⟨lV F13 T,aae X G a13,k13,F13.binds λ _ _ _ _ _ _=>eJ λ _ _ _=>rfl⟩;have C14:Callee l.prog w K mg base "is_out" ["thing","vessel_count"] 2 (oC K) f14 _:=⟨oR F14 T U C12 C13,aae X G a14,k14,F14.binds λ _ _ _ _ _ _=>cY λ _ _=>rfl⟩;have C15:Callee l.prog w K mg base "is_act" ["thing","spout_count"] 2 (lN K) f15 _:=⟨oT F15 T U C12 C13,aae X G a15,k15,F15.binds λ _ _ _ _ _ _=>cY λ _ _=>rfl⟩;have C16:Callee l.prog w K mg base "is_vessel" ["thing","number","vessel_count","spout_count"] 3 (hG K) f16 _:=⟨kJ F16 T U C12 C13 C14 C15,aae X G a16,k16,F16.binds λ _ _ _ _ _ _=>qI λ _ _ _ _=>rfl⟩;have C17:Callee l.prog w K mg base "is_spout" ["thing","vessel_count"] 2 (o9 K) f17 _:=⟨lX F17 T U C12 C13,aae X G a17,k17,F17.binds λ _ _ _ _ _ _=>cY λ _ _=>rfl⟩;have C18:Callee l.prog w K mg base "is_net" ["thing"] 4 (g3 K) f18 _:=⟨oS F18 T U C12 C16 C17,aae X G a18,k18,F18.binds λ _ _ _ _ _ _=>eK λ _=>rfl⟩;have C19:Callee l.prog w K mg base "first_state" ["net"] 1 (lL K) f19 _:=⟨jP F19 T,aae X G a19,k19,F19.binds λ _ _ _ _ _ _=>eK λ _=>rfl⟩;have C20:Callee l.prog w K mg base "pouring" ["net","amount"] 1 (hJ K) f20 _:=⟨oQ F20 T,aae X G a20,k20,F20.binds λ _ _ _ _ _ _=>cY λ _ _=>rfl⟩;have C21:Callee l.prog w K mg base "first_moment" ["net"] 2 (g4 K) f21 _:=⟨iR F21 T C19 C20,aae X G a21,k21,F21.binds λ _ _ _ _ _ _=>eK λ _=>rfl⟩;have C22:MkCalR l.prog w K mg base C "Run" ["self","net"] 5 (lK K C c_NoNet) f22 _:=⟨⟨mk,a22,i22,kc⟩,sW F22 T tx XC_NoNet C18 C21,aae X G aC,F22.binds λ _ _ _ _ _ _=>cY λ _ _=>rfl⟩;have C23:Callee l.prog w K mg base "_law_word" ["error"] 1 (o8 K c_NoNet c_NoVessel c_TooLong c_TooMany c_TooMuch c_Nothing c_NoText c_NoRow) f23 _:=⟨lY F23 T W,aae X G a23,k23,F23.binds λ _ _ _ _ _ _=>eK λ _=>rfl⟩;have C24:Callee l.prog w K mg base "_law_made" ["thing"] 7 (oF K) f24 _:=⟨m6 F24 T W kdT hmT C22 C23,aae X G a24,k24,F24.binds λ _ _ _ _ _ _=>eK λ _=>rfl⟩;exact wZ F25 T C0 C3 C8 C7 C11 C18 C24
theorem walk {l:PySem.W.OpenLaw}{q:Program}{loose:List Str}{XP:(Str->Option Value)->Heap->Prop}{YP:World->Heap->Prop}{d:DefRec}{K:Params->aaa} (hn:l.most=some 63) (hdf:d.params.defaults=[])
  (hY:∀ (w:World) (h:Heap),YP w h->(K w.params).In h)
  (F:∀ (w:World) (mg:Str->Option Value) (fa:Addr) (h:Heap),(K w.params).In h->h.Ns mainGlobals mg->mg d.name=some (.ref fa)->
   ∃ fd:FuncData,(∀ (s:Shared) (u:Value),BindsTo s fd ⟨[u],[]⟩ [("script",u)])/\∀ base:Heap,(K w.params).In base->base.Ns mainGlobals mg->FnOk l.prog w (K w.params) mg base fK 18 fa fd ["script"] (pP (K w.params))) :
  PySem.W.WalkO q loose XP YP l.row.toRowW d [] (λ f vs=>PySem.call f vs):=
 L2.walk_of (n:=63) (k:=18) (x := "script") (CX:=λ _=>fK) (sp:=λ w=>pP (K w.params)) hn (by decide) hdf ⟨rfl,by decide,by decide⟩ hY F (λ _ _ a ns hl _ hS=>⟨a,ns,rfl,hS,hl,λ _=>rfl⟩) λ _ _ _ _ _ z=>z
end Tw
def PySem.W.Fast.tw16635050978571313076:Nat:=0
theorem PySem.W.Fast.te16635050978571313076:PySem.W.Fast.tw16635050978571313076=PySem.W.Fast.tw16635050978571313076:=rfl
def PySem.W.Fast.tw2549741467860428967:PySem.Program:=PySem.Challenge.pw_tipwell_k01_what_is_a_net
theorem PySem.W.Fast.te2549741467860428967:PySem.Challenge.pw_tipwell_k01_what_is_a_net=PySem.W.Fast.tw2549741467860428967:=rfl
namespace PySem.W.Fast
def tw11713725454155066817:=0
def tw11335376504056270272:=0
def tw7799097275294217472:=0
def tw12978091699450148085:=0
def tw11064935265256766852:=0
def tw1794664836240563501:=0
def tw13842144247023676852:=0
def tw17636963371629994270:=0
def tw4456601916414326103:=0
def tw14072519717142745576:=0
def tw15787162889454666069:=0
def tw762184126500387314:=0
def tw17421966169188046097:=0
def tw10428000134117589191:=0
def tw2857660862480654773:=0
def tw4152312465150023565:=0
def tw11875686460202246665:=0
def tw6634974691112296501:=0
def tw50642433860108464:=0
def tw15882990140145606554:=0
def tw7451308950955339898:=0
def tw16051812191263017888:=0
def tw9554330376739170134:=0
def tw14101284147305986130:=0
def tw10585172974407314699:=0
def tw8996150764668318913:=0
def tw15380725415100409608:=0
def tw10974295415518916681:=0
def tw3998637604501702164:=0
def tw10570395173985094170:=0
def tw17807599253268276324:=0
def tw1250401787109545689:=0
def tw189924335911410357:=0
def tw4627231099234335433:=0
def tw3289161808497767352:=0
def tw6241448306897529324:=0
def tw18147090790278307867:=0
def tw261431511776979635:=0
def tw14583129282285076002:=0
def tw5709629422536572566:=0
def tw9607565759141808779:=0
def tw5381340345630494256:=0
def tw7293883407699748910:=0
def tw2107886034686250002:=0
def tw17657118000489165893:=0
def tw2313664481836341430:=0
def tw4662836723835104256:=0
def tw8777276874701814375:=0
def tw1782141206255067240:=0
def tw11314916853638298171:=0
def tw8317812500080243908:=0
def tw7379169743408565576:=0
def tw955849265227854671:=0
def tw16764731882465637828:=0
def tw17176294133039542185:=0
def tw7257444541645740112:=0
def tw5026237249462156015:=0
def tw18411019967124484084:=0
def tw6051055322359104565:=0
def tw15552837296902693602:=0
def tw4142850732417173830:=0
def tw9566229349706460553:=0
def tw676351312847153655:=0
def tw9210021620112804416:=0
def tw459829409262149790:=0
def tw2687560981238396834:=0
def tw5382761025975192385:=0
def tw9431062688495714218:=0
def tw7682413461680513383:=0
def tw4196110195958317970:=0
def tw3063975629490605225:=0
def tw17698411744510519209:=0
def tw15781711399762997486:=0
def tw7722810613593096984:=0
def tw18201401113726383249:=0
def tw3155782215297350075:=0
def tw16492930756850022610:=0
def tw8486543232439523485:=0
def tw2080486493641479372:=0
def tw8089300098533077312:=0
def tw18043493760340048312:=0
def tw14106700269966604080:=0
def tw14116309502045430480:=0
def tw12240631832335066685:=0
def tw17276653203924885884:=0
def tw1879746797138153477:=0
def tw10565559528042820720:=0
def tw5990590796632025262:=0
def tw17062472417882604988:=0
def tw14434216306308104483:=0
def tw1352444436883840813:=0
def tw5574027133492045513:=0
def tw5140470092155485399:=0
def tw7379312256937406916:=0
def tw13176179166079456639:=0
def tw1304827695044840913:=0
def tw13271169103552752457:=0
def tw1809302445655877529:=0
def tw7094218928840581527:=0
def tw13486110625958469234:=0
def tw7689275079922458526:=0
def tw15482292171322587812:=0
def tw7528174911802763675:=0
def tw12528837009636205012:=0
def tw16418594970405440842:=0
def tw4049770769480990250:=0
def tw150760047330960633:=0
def tw10248460287123891644:=0
def tw18235579685005384330:=0
def tw9662288708170991689:=0
def tw630858398649919694:=0
def tw8117625321873572533:=0
def tw15246504177745781903:=0
end PySem.W.Fast
open PySem PySem.W PyProof.Rows
set_option maxRecDepth 100000 in
set_option maxHeartbeats 0 in
theorem PySem.Challenge.cw_tipwell_k01_what_is_a_net_holds : PySem.Challenge.rw_tipwell_k01_what_is_a_net.Holds := by
 w_on;o_law;k_head;(case hw=>w_witness2)
 k_fill
 refine Tw.walk (l:=PySem.Challenge.rw_tipwell_k01_what_is_a_net) rfl rfl (λ w h Y=>by first | exact PySem.W.kIn_of Y | exact PySem.W.km_in_of Y) ?F
 case F=>
  intro w mg fa h KX G hmg;refine' Tw.all_mk KX G hmg ?_ ?_ ?_ ?_ ?_ ?_ ?_ ?_ ?_ ?_ ?_ ?_ ?_ ?_ ?_ ?_ ?_ ?_ ?_ ?_ ?_ ?_ ?_ ?_ ?_ ?_ ?_ ?_ ?_ ?_ ?_ ?_ ?_ ?_ ?_ ?_ ?_ ?_ ?_ ?_ ?_ ?_ ?_ ?_ ?_ ?_ ?_ ?_ ?_ ?_ ?_ ?_ ?_ ?_ ?_ ?_ ?_ ?_ ?_ ?_ ?_ ?_ ?_ ?_ ?_ ?_ ?_ ?_ ?_ ?_ ?_ ?_ ?_ ?_ ?_ ?_ ?_ ?_ ?_ ?_ ?_ ?_ ?_ ?_ ?_ ?_ ?_ ?_ ?_ ?_ ?_ ?_ ?_ ?_ ?_ ?_ ?_ ?_ ?_ ?_ ?_ ?_ ?_ ?_ ?_ ?_ ?_ ?_ ?_ ?_ ?_ ?_ ?_ ?_ ?_ ?_ ?_ ?_ ?_ ?_ ?_ ?_ ?_ ?_ ?_ ?_ ?_ ?_ ?_ ?_ ?_ ?_ ?_ ?_ ?_ ?_ ?_ ?_ ?_ ?_ ?_ ?_ ?_ ?_ ?_ ?_ ?_ ?_ ?_ ?_ ?_ ?_ ?_ ?_ ?_ ?_ ?_ ?_ ?_ ?_ ?_ ?exT ?vaT ?kkT0 ?kkT1 ?kkT2 ?kkT3 ?kkT4 ?kkT5 ?kkT6 ?kkT7 ?hmTh
  all_goals (try delta Tw.Na)
  all_goals (try delta Tw.Nn)
  all_goals (try delta Tw.Kp)
  all_goals (try delta Tw.Cd)
  all_goals (try delta Tw.Lk)
  all_goals try k_is
  (case exT=>k_exc)
  (case vaT=>kit_is)
  (case kkT0=>kit_is)
  (case kkT1=>kit_is)
  (case kkT2=>kit_is)
  (case kkT3=>kit_is)
  (case kkT4=>kit_is)
  (case kkT5=>kit_is)
  (case kkT6=>kit_is)
  (case kkT7=>kit_is)
  (case hmTh=>kts_exm)
#print axioms PySem.Challenge.cw_tipwell_k01_what_is_a_net_holds