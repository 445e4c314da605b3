import PyProof.Rows.All
import Wide.All
import OpenK.AllK
import Wide.FinOn
import Lean
import PyProof.EqAt
import PyProof.EqKinds
import PyProof.TupleCall
import PyProof.FactsAll.NoneType
import PyProof.ZipIter
import PyProof.EnumMake
import KE.KUnpack
import KE.KTryMore
import PyProof.NsDelKeeps
import PyProof.TupleKey
import PyProof.FactsAll.bool_1
import PyProof.NeKinds
import PyProof.ListRange
import PyProof.FactsAll.tuple_0
import PyProof.FactsAll.tuple_2
import KE.RegKIsAll
import KE.RegKTryMore
import PySem.Challenge.RW_tipwell_k33_whole_rounds_side_by_side
set_option Elab.async false
set_option linter.all false
set_option maxRecDepth 100000
namespace L2
open PySem PySem.Spec PyProof.Rows
noncomputable abbrev eU:=Sum Int (Option Str)
noncomputable def DD:Value->Bool
 | .none=>true
 | _=>false
theorem vS {v:Value} (h:DD v=true):v=Value.none:=by
 cases v <;> simp_all [DD]
noncomputable def sW:eU->Value->Bool
 | .inl k,v=>Value.isInt k v
 | .inr (some x),v=>Value.isStrOf x v
 | .inr none,v=>DD v
noncomputable def mY:Int:=0xFCA86420
noncomputable def keyH (w:World):eU->Int
 | .inl k=>hashInt k
 | .inr (some x)=>hashStr w x
 | .inr none=>mY
theorem cQ:∀ {k:eU}{v:Value},sW k v=true->(∃ i t,k=Sum.inl i/\v=Value.int i t)\/(∃ x t,k=Sum.inr (some x)/\v=Value.str x t)\/(k=Sum.inr none/\v=Value.none)
 | .inl i,v,h=>by
  obtain⟨t,e⟩:=Value.isInt_shape (k:=i) (v:=v) h
  exact .inl ⟨i,t,rfl,e⟩
 | .inr (some x),v,h=>by
  obtain⟨t,e⟩:=Value.isStrOf_shape (x:=x) (v:=v) h
  exact .inr (.inl ⟨x,t,rfl,e⟩)
 | .inr none,v,h=>.inr (.inr ⟨rfl,vS h⟩)
theorem AO (i:Int) (t:Tok):sW (.inl i) (.int i t)=true:=by simp [sW,Value.isInt]
theorem AN (x:Str) (t:Tok):sW (.inr (some x)) (.str x t)=true:=by simp [sW,Value.isStrOf]
theorem IH (a b:Int):decide ((Sum.inl a:eU)=Sum.inl b)=(a == b):=by
 by_cases e:a=b
 ·subst e;simp
 ·have h:¬ (Sum.inl a:eU)=Sum.inl b:=λ q=>e (Sum.inl.inj q)
  rw[decide_eq_false h]
  exact (beq_eq_false_iff_ne.mpr e).symm
theorem IF (a b:Str):decide ((Sum.inr (some a):eU)=Sum.inr (some b))=decide (a=b):=by
 by_cases e:a=b
 ·subst e;simp
 ·have h:¬ (Sum.inr (some a):eU)=Sum.inr (some b):=λ q=>e (Option.some.inj (Sum.inr.inj q))
  rw[decide_eq_false h,decide_eq_false e]
theorem D7 (i:Int) (o:Option Str):decide ((Sum.inl i:eU)=Sum.inr o)=false:=decide_eq_false (λ q=>nomatch q)
theorem D8 (i:Int) (o:Option Str):decide ((Sum.inr o:eU)=Sum.inl i)=false:=decide_eq_false (λ q=>nomatch q)
theorem IE (x:Str):decide ((Sum.inr (some x):eU)=Sum.inr none)=false:=decide_eq_false (λ q=>nomatch (Sum.inr.inj q))
theorem IG (x:Str):decide ((Sum.inr none:eU)=Sum.inr (some x))=false:=decide_eq_false (λ q=>nomatch (Sum.inr.inj q))
theorem DI {prog:Program}{w:World}{A:Around}{E:Value->Shared->Prop}{s:Shared}{Q:Int->Shared->Prop} (h:Q mY { s with toks:=s.toks+1 }) :
  wpAny (model prog w) A (pyHash .none) Q E s:=by
 have hT:s.TypeIs .none "NoneType" := rfl
 unfold pyHash
 have hv:[Value.none].any Value.onHeap=false:=rfl
 refine wpAny_bind ?_
 rw[cRoomFor,if_neg (by rw[hv];exact Bool.false_ne_true)];refine wpAny_pure ?_
 refine wpAny_bind (wpAny_specialOf hT F.slot_NoneType_hash.lookup ?_)
 show wpAny _ _ (if (some (Value.builtin "NoneType.__hash__") == some Value.none)=true then _ else _) Q E s
 rw[if_neg (by rw[beq_builtin_none];exact Bool.false_ne_true)]
 refine wpAny_bind (wpAny_specialOf hT F.slot_NoneType_hash.lookup ?_)
 show wpAny _ _ (callSpecialIfBoundUnlessNone? .none "__hash__" _ >>= _) Q E s
 refine wpAny_bind (wpAny_callSpecialIfBoundUnlessNone?_slot hT F.slot_NoneType_hash
  (wpAny_call_entry F.slot_NoneType_hash hT F.entry_NoneType_hash
   (show wpAny _ _ (do ret (<- mkInt mY)) _ _ s from wpAny_ret_mkInt ?_) (F.args_NoneType_hash_1 _)))
 show wpAny _ _ (if (decide (-(2:Int) ^ 63<=mY) && decide (mY < 2 ^ 63))=true then _ else _) Q E _
 rw[if_pos (by decide)]
 exact wpAny_pure h
noncomputable def cZ (prog:Program) (w:World):PySem.KeyKind prog w eU where
 is:=sW
 hash:=keyH w
 inj:=λ v a b ha hb=>by
  rcases cQ ha with ⟨i,t,rfl,rfl⟩ | ⟨x,t,rfl,rfl⟩ | ⟨rfl,rfl⟩
  ·rcases cQ hb with ⟨j,u,rfl,e⟩ | ⟨y,u,rfl,e⟩ | ⟨rfl,e⟩
   ·injection e with e1 _;rw[e1]
   ·exact nomatch e
   ·exact nomatch e
  ·rcases cQ hb with ⟨j,u,rfl,e⟩ | ⟨y,u,rfl,e⟩ | ⟨rfl,e⟩
   ·exact nomatch e
   ·injection e with e1 _;rw[e1]
   ·exact nomatch e
  ·rcases cQ hb with ⟨j,u,rfl,e⟩ | ⟨y,u,rfl,e⟩ | ⟨rfl,e⟩
   ·exact nomatch e
   ·exact nomatch e
   ·rfl
 byValue:=λ k v h=>by
  rcases cQ h with ⟨i,t,rfl,rfl⟩ | ⟨x,t,rfl,rfl⟩ | ⟨rfl,rfl⟩ <;> rfl
 pyHash:=λ hv h=>by
  rcases cQ hv with ⟨i,t,rfl,rfl⟩ | ⟨x,t,rfl,rfl⟩ | ⟨rfl,rfl⟩
  ·exact wpAny_pyHash_int h
  ·exact wpAny_pyHash_str h
  ·exact DI h
 eqBool:=λ hu hv h=>by
  rcases cQ hu with ⟨i,t,rfl,rfl⟩ | ⟨x,t,rfl,rfl⟩ | ⟨rfl,rfl⟩
  ·rcases cQ hv with ⟨j,u,rfl,rfl⟩ | ⟨y,u,rfl,rfl⟩ | ⟨rfl,rfl⟩
   ·rw[IH] at h;exact wpAny_eqBool_int h
   ·rw[D7] at h;exact SeqAt.EqAt.int_str i t y u _ _ _ _ h
   ·rw[D7] at h;exact SeqAt.EqAt.int_none i t _ _ _ _ h
  ·rcases cQ hv with ⟨j,u,rfl,rfl⟩ | ⟨y,u,rfl,rfl⟩ | ⟨rfl,rfl⟩
   ·rw[D8] at h;exact SeqAt.EqAt.str_int x t j u _ _ _ _ h
   ·rw[IF] at h;exact wpAny_eqBool_str h
   ·rw[IE] at h;exact SeqAt.EqAt.str_none x t _ _ _ _ h
  ·rcases cQ hv with ⟨j,u,rfl,rfl⟩ | ⟨y,u,rfl,rfl⟩ | ⟨rfl,rfl⟩
   ·rw[D8] at h;exact SeqAt.EqAt.none_int j u _ _ _ _ h
   ·rw[IG] at h;exact SeqAt.EqAt.none_str y u _ _ _ _ h
   ·rw[decide_eq_true rfl] at h;exact SeqAt.EqAt.same Value.none _ _ _ _ h
 «strs»:=λ k x t v h=>by
  rcases cQ h with ⟨i,u,rfl,e⟩ | ⟨y,u,rfl,e⟩ | ⟨rfl,e⟩
  ·exact nomatch e
  ·injection e with e1 _
   subst e1
   cases v <;> rfl
  ·exact nomatch e
theorem vP (prog:Program) (w:World) (i:Int) (t:Tok):(cZ prog w).is (.inl i) (.int i t)=true:=AO i t
theorem vO (prog:Program) (w:World) (x:Str) (t:Tok):(cZ prog w).is (.inr (some x)) (.str x t)=true:=AN x t
end L2
namespace L2
open PySem PySem.Spec PyProof.Rows
inductive V where
 | non | bl (b:Bool) | int (i:Int) | str (x:Str) | byt (b:Array UInt8) | flt (b:UInt64) | ref (a:Addr) | ty (n:String)
 deriving DecidableEq
noncomputable def bL:V->Value->Prop
 | .non,u=>u=Value.none
 | .bl b,u=>u=Value.bool b
 | .int i,u=>∃ t,u=Value.int i t
 | .str x,u=>∃ t,u=Value.str x t
 | .byt b,u=>∃ t,u=Value.bytes b t
 | .flt b,u=>∃ t,u=Value.float b t
 | .ref a,u=>u=Value.ref a
 | .ty n,u=>u=Value.type n
noncomputable abbrev bY:List V->List Value->Prop:=Paired bL
theorem bY.length {xs:List V}{us:List Value} (r:bY xs us):xs.length=us.length:=Paired.length r
theorem bY.get:∀ {xs:List V}{us:List Value}{i:Nat}{x:V},bY xs us->xs[i]? = some x->∃ u,us[i]? = some u/\bL x u
 | _,_,_,_,.nil,e=>by simp at e
 | _,_,0,_,.cons r _,e=>by simp at e;subst e;exact⟨_,rfl,r⟩
 | _,_,i+1,x,.cons _ t,e=>by
  obtain⟨u,h1,h2⟩:=bY.get (i:=i) (x:=x) t (by simpa using e)
  exact⟨u,by simpa using h1,h2⟩
theorem bY.set {x:V}{u:Value} (r:bL x u):∀ {xs:List V}{us:List Value} (i:Nat),bY xs us->bY (xs.set i x) (us.set i u)
 | _,_,_,.nil=>.nil
 | _,_,0,.cons _ t=>.cons r t
 | _,_,i+1,.cons q t=>.cons q (bY.set r i t)
theorem bY.append:∀ {xs ys:List V}{us ws:List Value},bY xs us->bY ys ws->bY (xs++ys) (us++ws)
 | _,_,_,_,.nil,s=>s
 | _,_,_,_,.cons r t,s=>.cons r (bY.append t s)
theorem bY.take:∀ {xs:List V}{us:List Value} (n:Nat),bY xs us->bY (xs.take n) (us.take n)
 | _,_,0,_=>.nil
 | _,_,_+1,.nil=>.nil
 | _,_,n+1,.cons r t=>.cons r (bY.take n t)
theorem bY.drop:∀ {xs:List V}{us:List Value} (n:Nat),bY xs us->bY (xs.drop n) (us.drop n)
 | _,_,0,r=>r
 | _,_,_+1,.nil=>.nil
 | _,_,n+1,.cons _ t=>bY.drop n t
noncomputable def lX:Option V->Option Value->Prop
 | some v,some u=>bL v u
 | none,none=>True
 | _,_=>False
noncomputable def KV {az:Type}:List (az×V)->List (az×Value)->Prop:=Paired λ (p:az×V) (q:az×Value)=>p.1=q.1/\bL p.2 q.2
noncomputable def kV:eU->V
 | .inl i=>.int i
 | .inr (some x)=>.str x
 | .inr none=>.non
inductive HO where
 | lst (xs:List V)
 | tup (xs:List V)
 | dK (kvs:List (eU×V)) | dT (kvs:List (List eU×V))
 | set (S:Int->Bool) (n:Nat)
 | ins (C dx:Addr) (fs:List (Str×V))
 | own (x:Addr)
 | xd (fs:List (Str×V))
 | met (f x:Addr)
 | rng (lo hi:Int)
 | frz (o:Obj) (u:HO)
 | tbl (ps:Array Value)
 | ext (dz:Heap->Prop)
noncomputable abbrev Hp:=Addr->Option HO
noncomputable def upd (H:Hp) (a:Addr) (o:HO):Hp:=λ b=>if b=a then some o else H b
theorem aB {H:Hp}{a:Addr}{o:HO}:upd H a o a=some o:=by unfold upd;rw[if_pos rfl]
theorem aO {H:Hp}{a b:Addr}{o:HO} (h:b≠a):upd H a o b=H b:=by unfold upd;rw[if_neg h]
theorem GM {H:Hp}{a b:Addr}{o u:HO} (h:H a=some o) (h':H b=some u) (d:o≠u):a≠b:=by
 intro e;subst e;rw[h] at h';exact d (Option.some.inj h')
theorem aN {H:Hp}{a b:Addr}{o:HO} (h:H a=some o) (h':H b=none):a≠b:=by
 intro e;subst e;rw[h] at h';cases h'
section
variable (P:Program) (w:World)
noncomputable def d4 (H:Hp) (h:Heap) (a:Addr):HO->Prop
 | .lst xs=>xs.length<=sizeLine/\∃ (its:List Value) (n:Nat),bY xs its/\h.get? a=some { cls:=.type "list",data:=.seq its.toArray n }
 | .tup xs=>xs.length<=sizeLine/\∃ its:List Value,bY xs its/\IsTup h a its.toArray
 | .dK kvs=>kvs.length<=sizeLine/\(a == sysModules)=false/\∃ vs,KV kvs vs/\h.DictOf (cZ P w) a vs
 | .dT kvs=>kvs.length<=sizeLine/\(a == sysModules)=false/\∃ xs:List (List eU×Addr×Value),
   Paired (λ (p:List eU×V) (q:List eU×Addr×Value)=>p.1=q.1/\H q.2.1=some (.tup (p.1.map kV))/\bL p.2 q.2.2) kvs xs/\
   ∃ o es ep,h.get? a=some o/\o.ExactDict/\o.data=.dict es ep/\es.toList=xs.map (entryOfKey (tupleKind (cZ P w)))/\(xs.map (·.1)).Nodup
 | .set S n=>h.SetOf (intKind P w) a S n
 | .ins C dx fs=>H dx=some (.own a)/\fs.length<=1000/\dx≠a/\h.get? a=some (PySem.W.instObj C dx)/\
   ∃ mA,h.Ns1 dx mA/\(∀ f,lX (fs.lookup f) (mA f))/\PySem.Within mA (fs.map (·.1))
 | .own _=>∃ o,h.get? a=some o
 | .xd fs=>∃ mA,h.Ns1 a mA/\∀ f,lX (fs.lookup f) (mA f)
 | .rng lo hi=>∃ t u v,h.get? a=some { cls:=.type "range",data:=.fields #[.int lo t,.int hi u,.int 1 v] }
 | .frz o u=>h.get? a=some o/\d4 H h a u
 | .tbl ps=>h.get? a=some { cls:=.none,data:=.fields ps }
 | .met f x=>h.get? a=some (PySem.W.methodObj (.ref f) (.ref x))
 | .ext dz=>dz h/\(∃ o,h.get? a=some o)/\∀ h1 h2:Heap,dz h1->(∀ o,h1.get? a=some o->h2.get? a=some o)->dz h2
noncomputable def lK (H:Hp) (h:Heap):Prop:=∀ a o,H a=some o->d4 P w H h a o
end
section
variable {P:Program}{w:World}{H H':Hp}{h h':Heap}{a:Addr}{o:HO}
theorem d4.lt (x:d4 P w H h a o):a < h.objs.size:=by
 cases o with
 | lst xs=>obtain⟨_,_,_,_,e⟩:=x;exact Heap.lt_size e
 | tup xs=>obtain⟨_,_,_,p⟩:=x;exact p.lt
 | dK kvs=>obtain⟨_,_,_,_,o,_,_,e,_⟩:=x;exact Heap.lt_size e
 | dT kvs=>obtain⟨_,_,_,_,o,_,_,e,_⟩:=x;exact Heap.lt_size e
 | set S n=>obtain⟨o,_,_,_,e,_⟩:=x;exact Heap.lt_size e
 | ins C dx fs=>obtain⟨_,_,_,e,_⟩:=x;exact Heap.lt_size e
 | own y=>obtain⟨_,e⟩:=x;exact Heap.lt_size e
 | xd fs=>obtain⟨_,⟨_,_,_,e,_⟩,_⟩:=x;exact Heap.lt_size e
 | rng lo hi=>obtain⟨_,_,_,e⟩:=x;exact Heap.lt_size e
 | frz ob u=>obtain⟨e,_⟩:=x;exact Heap.lt_size e
 | tbl ps=>exact Heap.lt_size (show h.get? a=some _ from x)
 | met f y=>exact Heap.lt_size (show h.get? a=some _ from x)
 | ext dz=>obtain⟨_,⟨_,e⟩,_⟩:=x;exact Heap.lt_size e
theorem Paired.mapP {aq db:Type}{F G:aq->db->Prop}:∀ {fb:List aq}{fc:List db},Paired F fb fc->(∀ a b,F a b->G a b)->Paired G fb fc
 | _,_,.nil,_=>.nil
 | _,_,.cons r t,f=>.cons (f _ _ r) (Paired.mapP t f)
theorem d4.stay (x:d4 P w H h a o) (k:∀ b u,(b=a\/H b=some (.own a))->h.get? b=some u->h'.get? b=some u)
  (ho:∀ b,H b=some (.own a)->H' b=some (.own a)) (ht:∀ b xs,H b=some (.tup xs)->H' b=some (.tup xs)):d4 P w H' h' a o:=by
 induction o with
 | lst xs=>obtain⟨z,its,n,r,e⟩:=x;exact⟨z,its,n,r,k _ _ (.inl rfl) e⟩
 | tup xs=>obtain⟨z,its,r,ob,e,c⟩:=x;exact⟨z,its,r,ob,k _ _ (.inl rfl) e,c⟩
 | dK kvs=>obtain⟨z,y,vs,r,ob,es,ep,e,c⟩:=x;exact⟨z,y,vs,r,ob,es,ep,k _ _ (.inl rfl) e,c⟩
 | dT kvs=>
  obtain⟨z,y,xs,r,ob,es,ep,e,c⟩:=x
  exact⟨z,y,xs,Paired.mapP r λ p q z=>⟨z.1,ht _ _ z.2.1,z.2.2⟩,ob,es,ep,k _ _ (.inl rfl) e,c⟩
 | set S n=>obtain⟨ob,es,ep,t,e,c⟩:=x;exact⟨ob,es,ep,t,k _ _ (.inl rfl) e,c⟩
 | ins C dx fs=>
  obtain⟨d,z,ne,e,mA,⟨od,es,ep,e2,c⟩,r⟩:=x
  exact⟨ho _ d,z,ne,k _ _ (.inl rfl) e,mA,⟨od,es,ep,k _ _ (.inr d) e2,c⟩,r⟩
 | own y=>obtain⟨ob,e⟩:=x;exact⟨ob,k _ _ (.inl rfl) e⟩
 | xd fs=>obtain⟨mA,⟨od,es,ep,e,c⟩,r⟩:=x;exact⟨mA,⟨od,es,ep,k _ _ (.inl rfl) e,c⟩,r⟩
 | rng lo hi=>obtain⟨t,u,v,e⟩:=x;exact⟨t,u,v,k _ _ (.inl rfl) e⟩
 | frz ob u ih=>obtain⟨e,q⟩:=x;exact⟨k _ _ (.inl rfl) e,ih q⟩
 | tbl ps=>
  have e:h.get? a=some { cls:=.none,data:=.fields ps }:=x
  show h'.get? a=some { cls:=.none,data:=.fields ps }
  exact k a _ (.inl rfl) e
 | met f y=>
  have e:h.get? a=some (PySem.W.methodObj (.ref f) (.ref y)):=x
  show h'.get? a=some (PySem.W.methodObj (.ref f) (.ref y))
  exact k a _ (.inl rfl) e
 | ext dz=>obtain⟨p,⟨o,e⟩,st⟩:=x;exact⟨st _ _ p λ o q=>k _ _ (.inl rfl) q,⟨o,k _ _ (.inl rfl) e⟩,st⟩
theorem lK.lt (x:lK P w H h) (e:H a=some o):a < h.objs.size:=(x a o e).lt
theorem lK.fresh (x:lK P w H h) (e:h.objs.size<=a):H a=none:=by
 cases q:H a with
 | none=>rfl
 | some u=>exact absurd (Nat.lt_of_lt_of_le (x.lt q) e) (Nat.lt_irrefl _)
theorem lK.kept (x:lK P w H h) (k:∀ b u,h.get? b=some u->h'.get? b=some u):lK P w H h':=λ a o e=>
 (x a o e).stay (λ b u _ q=>k b u q) (λ _ q=>q) λ _ _ q=>q
theorem lK.laid (x:lK P w H h) (k:∀ b u,h.get? b=some u->h'.get? b=some u) (hp:h.objs.size<=a) (new:d4 P w (upd H a o) h' a o):lK P w (upd H a o) h':=λ b u e=>by
 have hn:=x.fresh hp
 by_cases hb:b=a
 ·subst hb;rw[aB] at e;cases e;exact new
 ·rw[aO hb] at e
  exact (x b u e).stay (λ c v _ q=>k c v q) (λ c q=>by rw[aO (aN q hn)];exact q) λ c xs q=>by rw[aO (aN q hn)];exact q
end
noncomputable def Rd (H:Hp) (a:Addr) (u:HO):Prop:=H a=some u\/∃ o,H a=some (.frz o u)
theorem Rd.ok {P:Program}{w:World}{H:Hp}{h:Heap}{a:Addr}{u:HO} (r:Rd H a u) (x:lK P w H h):d4 P w H h a u:=by
 rcases r with r | ⟨o,r⟩
 ·exact x a u r
 ·obtain⟨_,q⟩:=x a _ r
  exact q
noncomputable def iY:Option HO->Prop
 | some (.lst _)=>True
 | some (.dK _)=>True
 | some (.dT _)=>True
 | some (.set _ _)=>True
 | some (.ins _ _ _)=>True
 | some (.ext _)=>True
 | _=>False
section
variable {P:Program}{w:World}{H:Hp}{h h':Heap}{x e:Addr}{o':HO}
theorem lK.write (ok:lK P w H h) (mu:iY (H x)) (he:e=x\/H e=some (.own x)) (k:∀ b u,b≠e->h.get? b=some u->h'.get? b=some u) (heo:∃ u,h'.get? e=some u)
  (new:d4 P w (upd H x o') h' x o'):lK P w (upd H x o') h':=λ b u q=>by
 have nown:∀ c y,H c=some (.own y)->c≠x:=λ c y r z=>by subst z;rw[r] at mu;exact mu
 have ntup:∀ c xs,H c=some (.tup xs)->c≠x:=λ c xs r z=>by subst z;rw[r] at mu;exact mu
 by_cases hb:b=x
 ·subst hb;rw[aB] at q;cases q;exact new
 ·rw[aO hb] at q
  by_cases hbe:b=e
  ·have q':H b=some (.own x):=by
    rcases he with z | z
    ·exact absurd (hbe.trans z) hb
    ·rw[hbe];exact z
   rw[q] at q';cases q'
   obtain⟨v,hv⟩:=heo
   exact⟨v,by rw[hbe];exact hv⟩
  ·refine (ok b u q).stay (λ c v hc r=>k c v ?_ r) (λ c r=>by rw[aO (nown c b r)];exact r) λ c xs r=>by rw[aO (ntup c xs r)];exact r
   rcases hc with rfl | hc
   ·exact hbe
   ·rintro rfl
    rcases he with z | z
    ·exact nown c b hc z
    ·rw[hc] at z;cases z;exact hb rfl
end
structure Un (fs ex:List Addr) (H H':Hp) (h h':Heap):Prop where
 keep:∀ b o,h.get? b=some o->H b=none->b∉fs->b∉ex->h'.get? b=some o
 slot:∀ b o,h.get? b=some o->H b=none->b∈fs->b∉ex->∃ sl,h'.get? b=some { o with slots:=sl }
 free:∀ b o,h.get? b=some o->H b=none->b∉ex->H' b=none
 there:∀ b o,h.get? b=some o->b∉ex->∃ o',h'.get? b=some o'
 tups:∀ b xs,H b=some (.tup xs)->H' b=some (.tup xs)
 frzs:∀ b o u,H b=some (.frz o u)->H' b=some (.frz o u)
 tbls:∀ b ps,H b=some (.tbl ps)->∃ more,H' b=some (.tbl (ps++more))
section
variable {fs fs' ex ex':List Addr}{H H1 H2:Hp}{h h1 h2 h':Heap}{a x e:Addr}{o:HO}
theorem Un.any (u:Un fs ex H H1 h h1) {b:Addr}{ob:Obj} (q:h.get? b=some ob) (n:H b=none) (hx:b∉ex):∃ sl,h1.get? b=some { ob with slots:=sl }:=by
 by_cases hb:b∈fs
 ·exact u.slot b ob q n hb hx
 ·exact⟨ob.slots,u.keep b ob q n hb hx⟩
theorem Un.kept (k:∀ b u,h.get? b=some u->h'.get? b=some u):Un fs ex H H h h':=
 ⟨λ b ob q _ _ _=>k b ob q,λ b ob q _ _ _=>⟨ob.slots,k b ob q⟩,λ _ _ _ n _=>n,λ b ob q _=>⟨ob,k b ob q⟩,λ _ _ q=>q,λ _ _ _ q=>q,λ _ ps q=>⟨#[],by rw[q];simp⟩⟩
theorem Un.refl:Un fs ex H H h h:=Un.kept λ _ _ q=>q
theorem Un.laid (k:∀ b u,h.get? b=some u->h'.get? b=some u) (hp:h.objs.size<=a) (hn:H a=none):Un fs ex H (upd H a o) h h' where
 keep:=λ b u q _ _ _=>k b u q
 slot:=λ b u q _ _ _=>⟨u.slots,k b u q⟩
 free:=λ b u q n _=>by rw[aO (Nat.ne_of_lt (Nat.lt_of_lt_of_le (Heap.lt_size q) hp))];exact n
 there:=λ b u q _=>⟨u,k b u q⟩
 tups:=λ b xs q=>by rw[aO (aN q hn)];exact q
 frzs:=λ b u xs q=>by rw[aO (aN q hn)];exact q
 tbls:=λ b ps q=>⟨#[],by rw[aO (aN q hn),q];simp⟩
theorem Un.write (mu:iY (H x)) (he:e=x\/H e=some (.own x)) (k:∀ b u,b≠e->h.get? b=some u->h'.get? b=some u) (heo:∃ u,h'.get? e=some u):Un fs ex H (upd H x o) h h':=by
 have hx:∀ b,H b=none->b≠x:=λ b n z=>by subst z;rw[n] at mu;exact mu
 have hb:∀ b,H b=none->b≠e:=λ b n z=>by
  subst z
  rcases he with r | r
  ·exact hx b n r
  ·rw[n] at r;cases r
 have hm:∀ b u,H b=some u->¬ iY (some u)->b≠x:=λ b u q nm z=>by subst z;rw[q] at mu;exact nm mu
 refine⟨λ b u q n _ _=>k b u (hb b n) q,λ b u q n _ _=>⟨u.slots,k b u (hb b n) q⟩,λ b u q n _=>by rw[aO (hx b n)];exact n,λ b u q _=>?_,
  λ b xs q=>by rw[aO (hm b _ q λ z=>z)];exact q,λ b u xs q=>by rw[aO (hm b _ q λ z=>z)];exact q,λ b ps q=>⟨#[],by rw[aO (hm b _ q λ z=>z),q];simp⟩⟩
 by_cases hbe:b=e
 ·subst hbe;exact heo
 ·exact⟨u,k b u hbe q⟩
end
noncomputable def trk (h:Heap) (H:Hp):List Addr:=(List.range h.objs.size).filter λ a=>(H a).isSome
noncomputable def uH (h:Heap) (H:Hp):Heap:=PySem.W.hideAll h (trk h H)
theorem AS (h:Heap) (H:Hp):(uH h H).objs.size=h.objs.size:=PySem.W.hideAll_size _ _
theorem DH {h:Heap}{H:Hp}{b:Addr}{o:Obj} (e:h.get? b=some o) (n:H b=none):(uH h H).get? b=some o:=
 PySem.W.hideAll_get _ e λ hm=>by
  have q:(H b).isSome=true:=(List.mem_filter.mp hm).2
  rw[n] at q;simp at q
theorem FN {h:Heap}{H:Hp}{b:Addr}{o:Obj} (e:(uH h H).get? b=some o):h.get? b=some o/\H b=none:=by
 have e':h.get? b=some o:=PySem.W.of_hideAll (trk h H) e
 refine⟨e',?_⟩
 cases q:H b with
 | none=>rfl
 | some x=>
  have hm:b∈trk h H:=List.mem_filter.mpr ⟨List.mem_range.mpr (Heap.lt_size e'),by simp [q]⟩
  have z:(uH h H).get? b=none:=PySem.W.hideAll_none (trk h H) hm
  rw[z] at e;cases e
end L2
namespace L2
open PySem PySem.Spec PyProof.Rows
structure Mod (K:PySem.W.Frag) (mg:Str->Option Value) (base:Heap):Prop where
 kin:K.In base
 glob:base.Ns mainGlobals mg
 blt:∃ mb,base.Ns builtinsNs mb/\∀ x:Str,x ≠ "__name__" -> mb x=bootBuiltins x
 nolimit:base.NoLimit
structure Cx where
 prog:Program
 w:World
 K:PySem.W.Frag
 mg:Str->Option Value
 base:Heap
 A:Around
 N:List Str
 s₀:Shared
 H₀:Hp
 env:Env
 outer:List Env
 stack:List Env
 ex:List Addr
 fn:Str->Bool
 calm:Bool
 pn:List (Addr×Obj)
 xe:Value->Shared->Prop
noncomputable def mB (l:List Env):List Addr:=l.filterMap (·.frame)
noncomputable abbrev Cx.fs (X:Cx):List Addr:=mB X.outer
noncomputable def Vis (sc:Scope) (x:Str):Prop:=sc.names.lookup x=some .local\/sc.names.lookup x=some .cell\/sc.names.lookup x=some .free
noncomputable def KY (sc:Scope) (x:Str):Prop:=sc.names.lookup x=some .local\/sc.names.lookup x=some .cell
noncomputable def Look (env:Env) (h:Heap) (m:Str->Option Value) (x:Str) (u:Value):Prop:=
 (env.kindOf x=some .local/\m x=some u)\/((env.kindOf x=some .cell\/env.kindOf x=some .free)/\∃ c,env.cells.lookup x=some c/\h.IsCell c (some u))
structure Cx.Ok (X:Cx):Prop where
 mod:Mod X.K X.mg X.base
 kind:X.env.scope.kind=.function
 glob:X.env.globals=mainGlobals
 blt:X.env.builtins=builtinsNs
 above:X.s₀.heap.objs.size<=X.env.locals
 inj:∀ x y c,X.env.cells.lookup x=some c->X.env.cells.lookup y=some c->x=y
 has:∀ x,(X.env.kindOf x=some .cell\/X.env.kindOf x=some .free)->∃ c,X.env.cells.lookup x=some c
 cab:∀ x c,X.fn x=true->X.env.cells.lookup x=some c->X.s₀.heap.objs.size<=c
 hd:X.calm=true->X.A.handled=none
 frames:X.A.frames=some X.stack
 stk:X.stack=X.outer\/(X.stack=X.env::X.outer/\X.env.frame=some X.env.locals)
 exf:∀ b∈X.ex,b≠X.env.locals/\∀ x c,X.env.cells.lookup x=some c->c≠b
 bs:∀ b o,X.base.get? b=some o->X.s₀.heap.get? b=some o/\X.H₀ b=none
 bsz:X.base.objs.size<=X.s₀.heap.objs.size
 noex:∀ b o,X.base.get? b=some o->b∉X.ex
 exfs:∀ b∈X.ex,b∉X.fs
 funs:X.s₀.heap.FunFrames X.base X.outer
 frf:∀ b∈X.fs,X.H₀ b=none
structure Inv (X:Cx) (pins:List (Addr×Obj)) (σ:List (Option V)) (H:Hp) (s:Shared):Prop where
 ok:X.Ok
 os:s.os=X.s₀.os
 bare:AllBare s.gens
 base:Un X.fs X.ex X.H₀ H X.s₀.heap s.heap
 loc:∃ m,s.heap.Ns X.env.locals m/\∀ (i:Nat) (x:Str) (v:V),X.N[i]? = some x->σ[i]? = some (some v)->Vis X.env.scope x->∃ u,bL v u/\Look X.env s.heap m x u
 cell:∀ x c,X.env.cells.lookup x=some c->∃ v,s.heap.IsCell c v
 free:H X.env.locals=none
 freeC:∀ x c,X.env.cells.lookup x=some c->H c=none
 pin:∀ p∈X.pn++pins,s.heap.get? p.1=some p.2/\H p.1=none/\p.1≠X.env.locals/\p.1∉X.fs/\∀ v,p.2.data≠.cell v
 hok:lK X.prog X.w H s.heap
 len:σ.length=X.N.length
section
variable {X:Cx}{pins:List (Addr×Obj)}{σ:List (Option V)}{H H':Hp}{s:Shared}{h':Heap}
theorem Cx.Ok.nofr (ok:X.Ok) {b:Addr}{o:Obj} (e:X.base.get? b=some o):b∉X.fs:=λ hb=>by
 have:=(ok.funs.mem hb).1
 rw[e] at this;cases this
theorem Inv.bs (I:Inv X pins σ H s):∀ b o,X.base.get? b=some o->s.heap.get? b=some o/\H b=none:=λ b o e=>
 ⟨I.base.keep b o (I.ok.bs b o e).1 (I.ok.bs b o e).2 (I.ok.nofr e) (I.ok.noex b o e),I.base.free b o (I.ok.bs b o e).1 (I.ok.bs b o e).2 (I.ok.noex b o e)⟩
theorem Inv.bk (I:Inv X pins σ H s):∀ b o,X.base.get? b=some o->s.heap.get? b=some o:=λ b o e=>(I.bs b o e).1
theorem Inv.mod (I:Inv X pins σ H s):Mod X.K X.mg X.base:=I.ok.mod
theorem Inv.kIn (I:Inv X pins σ H s):X.K.In s.heap:=I.ok.mod.kin.keeps I.bk
theorem Inv.lt (I:Inv X pins σ H s):X.env.locals < s.heap.objs.size:=let ⟨_,hn,_⟩:=I.loc;hn.lt
theorem Inv.sz (I:Inv X pins σ H s):X.s₀.heap.objs.size<=s.heap.objs.size:=Nat.le_trans I.ok.above (Nat.le_of_lt I.lt)
theorem Inv.nofs (I:Inv X pins σ H s) {a:Addr} (h:s.heap.objs.size<=a):a∉X.fs:=λ hb=>by
 obtain⟨_,o,ho,_⟩:=I.ok.funs.mem hb
 exact absurd (Nat.lt_of_lt_of_le (Heap.lt_size ho) (Nat.le_trans I.sz h)) (Nat.lt_irrefl _)
theorem Inv.cne (I:Inv X pins σ H s):∀ x c,X.env.cells.lookup x=some c->c≠X.env.locals:=λ x c e z=>by
 obtain⟨v,o,ho,hd⟩:=I.cell x c e
 obtain⟨m,⟨o',es,ep,ho',hd',_⟩,_⟩:=I.loc
 rw[z,ho'] at ho;cases ho;rw[hd'] at hd;cases hd
theorem Inv.funs (I:Inv X pins σ H s):s.heap.FunFrames X.base X.outer:=by
 have all:∀ (l:List Env),(∀ b∈mB l,b∈X.fs)->X.s₀.heap.FunFrames X.base l->s.heap.FunFrames X.base l:=by
  intro l
  induction l with
  | nil=>intro _ _;trivial
  | cons env r ih=>
   intro hs hl
   obtain⟨hk,⟨L,o,hf,hn,ho,hd⟩,hr⟩:=hl
   have hL:L∈X.fs:=hs L (by unfold mB;rw[List.filterMap_cons,hf];exact List.mem_cons_self)
   obtain⟨sl,e⟩:=I.base.slot L o ho (I.ok.frf L hL) hL λ z=>I.ok.exfs L z hL
   exact⟨hk,⟨L,_,hf,hn,e,hd⟩,ih (λ b hb=>hs b (by unfold mB;rw[List.filterMap_cons,hf];exact List.mem_cons_of_mem _ hb)) hr⟩
 exact all X.outer (λ _ hb=>hb) I.ok.funs
theorem Inv.stack (I:Inv X pins σ H s):s.heap.FunFrames X.base X.stack:=by
 rcases I.ok.stk with e | ⟨e,hf⟩
 ·rw[e];exact I.funs
 ·rw[e]
  obtain⟨m,hn,_⟩:=I.loc
  refine .cons (by rw[I.ok.kind];decide) hf hn ?_ I.funs
  exact Heap.get?_none_of_le (Nat.le_trans I.ok.bsz I.ok.above)
theorem Inv.stkSub (I:Inv X pins σ H s):∀ b∈mB X.stack,b∈X.env.locals::X.fs:=λ b hb=>by
 rcases I.ok.stk with e | ⟨e,hf⟩
 ·rw[e] at hb;exact List.mem_cons_of_mem _ hb
 ·rw[e] at hb
  unfold mB at hb
  rw[List.filterMap_cons,hf] at hb
  exact hb
theorem Inv.stkFree (I:Inv X pins σ H s):∀ b∈mB X.stack,H b=none:=λ b hb=>by
 rcases List.mem_cons.mp (I.stkSub b hb) with e | hb
 ·rw[e];exact I.free
 ·obtain⟨_,o,ho,_⟩:=I.ok.funs.mem hb
  exact I.base.free b o ho (I.ok.frf b hb) λ z=>I.ok.exfs b z hb
theorem Inv.step {g':Array GenState}{t':Nat}{d':Drawn}{ch:List Addr} (I:Inv X pins σ H s)
  (hch:∀ b∈ch,(b∈X.ex\/X.s₀.heap.objs.size<=b)/\b≠X.env.locals/\(∀ x c,X.env.cells.lookup x=some c->c≠b)/\∀ p∈X.pn++pins,p.1≠b)
  (keep:∀ b o,b≠X.env.locals->b∉X.fs->b∉ch->s.heap.get? b=some o->H b=none->h'.get? b=some o)
  (slot:∀ b o,b≠X.env.locals->b∈X.fs->b∉ch->s.heap.get? b=some o->H b=none->∃ sl,h'.get? b=some { o with slots:=sl }) (free:∀ b o,b∉ch->s.heap.get? b=some o->H b=none->H' b=none)
  (there:∀ b o,b∉ch->s.heap.get? b=some o->∃ o',h'.get? b=some o')
  (tups:∀ b xs,H b=some (.tup xs)->H' b=some (.tup xs)) (frzs:∀ b o u,H b=some (.frz o u)->H' b=some (.frz o u)) (tbls:∀ b ps,H b=some (.tbl ps)->∃ more,H' b=some (.tbl (ps++more)))
  (ns:∀ m,s.heap.Ns X.env.locals m->h'.Ns X.env.locals m) (hok:lK X.prog X.w H' h') (hg:AllBare g') :
  Inv X pins σ H' { s with heap:=h',gens:=g',drawn:=d',toks:=t' }:=by
 have neL:∀ b o,X.s₀.heap.get? b=some o->b≠X.env.locals:=λ b o e=>Nat.ne_of_lt (Nat.lt_of_lt_of_le (Heap.lt_size e) I.ok.above)
 have neC:∀ b o,X.s₀.heap.get? b=some o->b∉X.ex->b∉ch:=λ b o e hx hb=>by
  rcases (hch b hb).1 with z | z
  ·exact hx z
  ·exact absurd (Nat.lt_of_lt_of_le (Heap.lt_size e) z) (Nat.lt_irrefl _)
 have cellK:∀ x c,X.env.cells.lookup x=some c->∀ v,s.heap.IsCell c v->h'.IsCell c v:=λ x c e v ⟨o,ho,hd⟩=>by
  have nch:c∉ch:=λ z=>(hch c z).2.2.1 x c e rfl
  by_cases hc:c∈X.fs
  ·obtain⟨sl,q⟩:=slot c o (I.cne x c e) hc nch ho (I.freeC x c e)
   exact⟨_,q,hd⟩
  ·exact⟨o,keep c o (I.cne x c e) hc nch ho (I.freeC x c e),hd⟩
 refine⟨I.ok,I.os,hg,⟨λ b o e n hb hx=>?_,λ b o e n hb hx=>?_,λ b o e n hx=>?_,λ b o e hx=>?_,λ b xs e=>tups b xs (I.base.tups b xs e),λ b o xs e=>frzs b o xs (I.base.frzs b o xs e),λ b ps e=>?_⟩,?_,λ x c e=>?_,?_,λ x c e=>?_,λ p hp=>?_,hok,I.len⟩
 ·exact keep b o (neL b o e) hb (neC b o e hx) (I.base.keep b o e n hb hx) (I.base.free b o e n hx)
 ·obtain⟨sl,e1⟩:=I.base.slot b o e n hb hx
  obtain⟨sl',e2⟩:=slot b _ (neL b o e) hb (neC b o e hx) e1 (I.base.free b o e n hx)
  exact⟨sl',e2⟩
 ·obtain⟨o',e1⟩:=I.base.there b o e hx
  exact free b o' (neC b o e hx) e1 (I.base.free b o e n hx)
 ·obtain⟨o',e1⟩:=I.base.there b o e hx
  exact there b o' (neC b o e hx) e1
 ·obtain⟨m1,e1⟩:=I.base.tbls b ps e
  obtain⟨m2,e2⟩:=tbls b _ e1
  exact⟨m1++m2,by rw[e2,Array.append_assoc]⟩
 ·obtain⟨m,hn,hl⟩:=I.loc
  refine⟨m,ns m hn,λ i x v e1 e2 e3=>?_⟩
  obtain⟨u,r,l⟩:=hl i x v e1 e2 e3
  refine⟨u,r,?_⟩
  rcases l with l | ⟨k,c,e,z⟩
  ·exact .inl l
  ·exact .inr ⟨k,c,e,cellK x c e _ z⟩
 ·obtain⟨v,z⟩:=I.cell x c e
  exact⟨v,cellK x c e v z⟩
 ·obtain⟨m,⟨o,_,_,ho,_⟩,_⟩:=I.loc
  exact free _ o (λ z=>(hch _ z).2.1 rfl) ho I.free
 ·obtain⟨v,o,ho,hd⟩:=I.cell x c e
  exact free c o (λ z=>(hch c z).2.2.1 x c e rfl) ho (I.freeC x c e)
 ·obtain⟨e,n,ne,nf,d⟩:=I.pin p hp
  have nch:p.1∉ch:=λ z=>(hch p.1 z).2.2.2 p hp rfl
  exact⟨keep p.1 p.2 ne nf nch e n,free p.1 p.2 nch e n,ne,nf,d⟩
theorem Inv.un {t':Nat} (I:Inv X pins σ H s) (u:Un X.fs [] H H' s.heap h') (hok:lK X.prog X.w H' h'):Inv X pins σ H' { s with heap:=h',toks:=t' }:=by
 obtain⟨m,⟨o,es,ep,ho,r⟩,_⟩:=id I.loc
 obtain⟨sl,hL⟩:=u.any ho I.free (by simp)
 exact I.step (g':=s.gens) (d':=s.drawn) (ch:=[]) (λ _ z=>nomatch z) (λ b o _ hb _ e n=>u.keep b o e n hb (by simp)) (λ b o _ hb _ e n=>u.slot b o e n hb (by simp)) (λ b o _ e n=>u.free b o e n (by simp)) (λ b o _ e=>u.there b o e (by simp)) u.tups u.frzs u.tbls (λ m' hm=>by
  obtain⟨o',es',ep',ho',r'⟩:=hm
  rw[ho] at ho';cases ho'
  exact⟨_,es',ep',hL,r'⟩) hok I.bare
theorem Inv.call {g':Array GenState}{t':Nat}{d':Drawn}{ch:List Addr} (I:Inv X pins σ H s) (u:Un (mB X.stack) ch H H' s.heap h') (hok:lK X.prog X.w H' h') (hg:AllBare g')
  (hch:∀ b∈ch,(b∈X.ex\/X.s₀.heap.objs.size<=b)/\b≠X.env.locals/\(∀ x c,X.env.cells.lookup x=some c->c≠b)/\∀ p∈X.pn++pins,p.1≠b) :
  Inv X pins σ H' { s with heap:=h',gens:=g',drawn:=d',toks:=t' }:=by
 obtain⟨m,⟨o,es,ep,ho,r⟩,_⟩:=id I.loc
 obtain⟨sl,hL⟩:=u.any ho I.free λ z=>(hch _ z).2.1 rfl
 exact I.step (ch:=ch) hch (λ b o hL hb hc e n=>u.keep b o e n (λ z=>(List.mem_cons.mp (I.stkSub b z)).elim hL hb) hc) (λ b o _ _ hc e n=>u.any e n hc) (λ b o hc e n=>u.free b o e n hc) (λ b o hc e=>u.there b o e hc) u.tups u.frzs u.tbls (λ m' hm=>by
  obtain⟨o',es',ep',ho',r'⟩:=hm
  rw[ho] at ho';cases ho'
  exact⟨_,es',ep',hL,r'⟩) hok hg
theorem Inv.turned {t':Nat}{it:Addr} (I:Inv X pins σ H s) (k:∀ b o,b≠it->s.heap.get? b=some o->h'.get? b=some o) (hn:H it=none) (hL:it≠X.env.locals)
  (h1:it∈X.ex\/X.s₀.heap.objs.size<=it) (h2:∀ x c,X.env.cells.lookup x=some c->c≠it) (h3:∀ p∈X.pn++pins,p.1≠it):Inv X pins σ H { s with heap:=h',toks:=t' }:=by
 have nit:∀ b u,H b=some u->b≠it:=λ b u e z=>by rw[z,hn] at e;cases e
 refine I.step (g':=s.gens) (d':=s.drawn) (ch:=[it]) (λ b hb=>?_) (λ b o _ _ hc e _=>k b o (λ z=>hc (by simp [z])) e) (λ b o _ _ hc e _=>⟨o.slots,k b o (λ z=>hc (by simp [z])) e⟩) (λ _ _ _ _ n=>n)
  (λ b o hc e=>⟨o,k b o (λ z=>hc (by simp [z])) e⟩) (λ _ _ e=>e) (λ _ _ _ e=>e) (λ b ps e=>⟨#[],by rw[e];simp⟩) (λ m hm=>?_) (λ b u e=>?_) I.bare
 ·have e:b=it:=by simpa using hb
  subst e
  exact⟨h1,hL,h2,h3⟩
 ·obtain⟨o,es,ep,ho,r⟩:=hm
  exact⟨o,es,ep,k _ o (Ne.symm hL) ho,r⟩
 ·refine (I.hok b u e).stay (λ c v hc q=>k c v ?_ q) (λ _ q=>q) λ _ _ q=>q
  rcases hc with z | z
  ·rw[z];exact nit b u e
  ·exact nit c _ z
theorem Inv.tok (I:Inv X pins σ H s) (t:Nat):Inv X pins σ H { s with toks:=t }:=I.un (h':=s.heap) (t':=t) Un.refl I.hok
theorem Inv.kept {t':Nat} (I:Inv X pins σ H s) (k:∀ b u,s.heap.get? b=some u->h'.get? b=some u):Inv X pins σ H { s with heap:=h',toks:=t' }:=I.un (Un.kept k) (I.hok.kept k)
theorem Inv.laid {a:Addr}{o:HO}{t':Nat} (I:Inv X pins σ H s) (k:∀ b u,s.heap.get? b=some u->h'.get? b=some u) (hp:s.heap.objs.size<=a) (new:d4 X.prog X.w (upd H a o) h' a o) :
  Inv X pins σ (upd H a o) { s with heap:=h',toks:=t' }:=I.un (Un.laid k hp (I.hok.fresh hp)) (I.hok.laid k hp new)
theorem Inv.write {x e:Addr}{o:HO}{t':Nat} (I:Inv X pins σ H s) (mu:iY (H x)) (he:e=x\/H e=some (.own x)) (k:∀ b u,b≠e->s.heap.get? b=some u->h'.get? b=some u) (heo:∃ u,h'.get? e=some u)
  (new:d4 X.prog X.w (upd H x o) h' x o):Inv X pins σ (upd H x o) { s with heap:=h',toks:=t' }:=I.un (Un.write mu he k heo) (I.hok.write mu he k heo new)
theorem Inv.pins_of {pins':List (Addr×Obj)} (I:Inv X pins σ H s) (h:∀ p∈pins',s.heap.get? p.1=some p.2/\H p.1=none/\p.1≠X.env.locals/\p.1∉X.fs/\∀ v,p.2.data≠.cell v):Inv X pins' σ H s:=
 ⟨I.ok,I.os,I.bare,I.base,I.loc,I.cell,I.free,I.freeC,λ p hp=>(List.mem_append.mp hp).elim (λ z=>I.pin p (List.mem_append_left _ z)) (h p),I.hok,I.len⟩
theorem vN {N:List Str} (hN:N.Nodup) {i j:Nat}{x:Str} (a:N[i]? = some x) (b:N[j]? = some x):i=j:=by
 obtain⟨h1,e1⟩:=List.getElem?_eq_some_iff.mp a
 obtain⟨h2,e2⟩:=List.getElem?_eq_some_iff.mp b
 exact (List.getElem_inj hN).mp (e1.trans e2.symm)
theorem nC {M:Model}{A:Around}{E:Value->Shared->Prop}{i:Nat}{x:Str}{v:V}{u:Value}{Q:Unit->Shared->Prop} (I:Inv X pins σ H s) (hN:X.N.Nodup) (hi:X.N[i]? = some x) (hx:KY X.env.scope x) (r:bL v u)
  (h:∀ s',Inv X pins (σ.set i (some v)) H s'->(∃ a,Heap.SameBut a s.heap s'.heap/\(a=X.env.locals\/X.env.cells.lookup x=some a))->Q () s') (hf:X.fn x=true\/X.env.scope.names.lookup x=some .local:=by first | exact .inl rfl | exact .inr rfl | assumption):wpAny M A (storeName X.env x u) Q E s:=by
 obtain⟨m,hn,hl⟩:=id I.loc
 have hcls:(X.env.scope.kind == .class || (X.env.scope.kind == .module && X.env.locals != X.env.globals))=false:=by rw[I.ok.kind];rfl
 have fe:i < σ.length:=by rw[I.len];exact (List.getElem?_eq_some_iff.mp hi).1
 have cne:=I.cne
 have tracked:∀ {a:Addr}{h':Heap},(∃ o,s.heap.get? a=some o/\H a=none)->Heap.SameBut a s.heap h'->lK X.prog X.w H h':=λ {a h'} ha hs b ob e=>by
  obtain⟨_,_,hfree⟩:=ha
  refine (I.hok b ob e).stay (λ c w' hc q=>(hs.2 c ?_).trans q) (λ _ q=>q) λ _ _ q=>q
  rintro rfl
  rcases hc with rfl | hc
  ·rw[hfree] at e;cases e
  ·rw[hfree] at hc;cases hc
 rcases hx with hk | hk
 ·refine wpAny_storeName_local hk hn (λ h' hn' hs=>?_) hcls
  obtain⟨oL,_,_,hoL,_⟩:=id hn
  refine h _ ⟨I.ok,I.os,I.bare,⟨λ b o e n hb hx=>?_,λ b o e n hb hx=>?_,I.base.free,λ b o e hx=>?_,I.base.tups,I.base.frzs,I.base.tbls⟩,⟨_,hn',λ j y v' e1 e2 e3=>?_⟩,λ y c e=>?_,I.free,I.freeC,λ p hp=>?_,tracked ⟨oL,hoL,I.free⟩ hs,by simpa using I.len⟩ ⟨_,hs,.inl rfl⟩
  ·exact (hs.2 b (Nat.ne_of_lt (Nat.lt_of_lt_of_le (Heap.lt_size e) I.ok.above))).trans (I.base.keep b o e n hb hx)
  ·obtain⟨sl,e1⟩:=I.base.slot b o e n hb hx
   exact⟨sl,(hs.2 b (Nat.ne_of_lt (Nat.lt_of_lt_of_le (Heap.lt_size e) I.ok.above))).trans e1⟩
  ·obtain⟨o',e1⟩:=I.base.there b o e hx
   exact⟨o',(hs.2 b (Nat.ne_of_lt (Nat.lt_of_lt_of_le (Heap.lt_size e) I.ok.above))).trans e1⟩
  ·by_cases hj:j=i
   ·subst hj
    rw[hi] at e1;cases e1
    rw[List.getElem?_set_self fe] at e2
    cases e2
    exact⟨u,r,.inl ⟨hk,by simp⟩⟩
   ·rw[List.getElem?_set_ne (Ne.symm hj)] at e2
    obtain⟨u',r',q⟩:=hl j y v' e1 e2 e3
    refine⟨u',r',?_⟩
    rcases q with ⟨k,e⟩ | ⟨k,c,e,z⟩
    ·refine .inl ⟨k,?_⟩
     have:y≠x:=λ e=>hj (vN hN e1 (e ▸ hi))
     simp [this,e]
    ·exact .inr ⟨k,c,e,z.sameBut hs (cne y c e)⟩
  ·obtain⟨w',z⟩:=I.cell y c e
   exact⟨w',z.sameBut hs (cne y c e)⟩
  ·obtain⟨e,n,ne,nf,d⟩:=I.pin p hp
   exact⟨(hs.2 p.1 ne).trans e,n,ne,nf,d⟩
 ·have hfn:X.fn x=true:=by
   rcases hf with z | z
   ·exact z
   ·rw[z] at hk;cases hk
  obtain⟨c,hc⟩:=I.ok.has x (.inl hk)
  obtain⟨w',z⟩:=I.cell x c hc
  refine wpAny_storeName_cell I.ok.kind hk hc z (λ h' hc' hs=>?_)
  obtain⟨oc,hoc,hocd⟩:=id z
  refine h { s with heap:=h' } ⟨I.ok,I.os,I.bare,⟨λ b o e n hb hx=>?_,λ b o e n hb hx=>?_,I.base.free,λ b o e hx=>?_,I.base.tups,I.base.frzs,I.base.tbls⟩,⟨m,hn.sameBut hs (Ne.symm (cne x c hc)),λ j y v' e1 e2 e3=>?_⟩,λ y c' e=>?_,I.free,I.freeC,λ p hp=>?_,tracked ⟨oc,hoc,I.freeC x c hc⟩ hs,by simpa using I.len⟩ ⟨c,hs,.inr hc⟩
  ·exact (hs.2 b (Nat.ne_of_lt (Nat.lt_of_lt_of_le (Heap.lt_size e) (I.ok.cab x c hfn hc)))).trans (I.base.keep b o e n hb hx)
  ·obtain⟨sl,e1⟩:=I.base.slot b o e n hb hx
   exact⟨sl,(hs.2 b (Nat.ne_of_lt (Nat.lt_of_lt_of_le (Heap.lt_size e) (I.ok.cab x c hfn hc)))).trans e1⟩
  ·obtain⟨o',e1⟩:=I.base.there b o e hx
   exact⟨o',(hs.2 b (Nat.ne_of_lt (Nat.lt_of_lt_of_le (Heap.lt_size e) (I.ok.cab x c hfn hc)))).trans e1⟩
  ·by_cases hj:j=i
   ·subst hj
    rw[hi] at e1;cases e1
    rw[List.getElem?_set_self fe] at e2
    cases e2
    exact⟨u,r,.inr ⟨.inl hk,c,hc,hc'⟩⟩
   ·rw[List.getElem?_set_ne (Ne.symm hj)] at e2
    obtain⟨u',r',q⟩:=hl j y v' e1 e2 e3
    refine⟨u',r',?_⟩
    rcases q with q | ⟨k,c',e,z'⟩
    ·exact .inl q
    ·refine .inr ⟨k,c',e,z'.sameBut hs ?_⟩
     rintro rfl
     exact hj (vN hN e1 (I.ok.inj _ _ _ e hc ▸ hi))
  ·by_cases hcc:c'=c
   ·subst hcc;exact⟨_,hc'⟩
   ·obtain⟨w2,z2⟩:=I.cell y c' e
    exact⟨w2,z2.sameBut hs hcc⟩
  ·obtain⟨e,n,ne,nf,d⟩:=I.pin p hp
   refine⟨(hs.2 p.1 ?_).trans e,n,ne,nf,d⟩
   intro q
   rw[q,hoc] at e
   have q':oc=p.2:=Option.some.inj e
   exact d w' (by rw[<- q'];exact hocd)
theorem jE {M:Model}{A:Around}{E:Value->Shared->Prop}{i:Nat}{x:Str}{v:V}{u:Value}{Q:Unit->Shared->Prop} (I:Inv X pins σ H s) (hN:X.N.Nodup) (hi:X.N[i]? = some x) (hx:KY X.env.scope x) (r:bL v u)
  (h:∀ s',Inv X pins (σ.set i (some v)) H s'->Q () s') (hf:X.fn x=true\/X.env.scope.names.lookup x=some .local:=by first | exact .inl rfl | exact .inr rfl | assumption):wpAny M A (storeName X.env x u) Q E s:=
 nC I hN hi hx r (λ s' I' _=>h s' I') hf
theorem Inv.call' {s':Shared}{ch:List Addr} (I:Inv X pins σ H s) (ho:s'.os=s.os) (u:Un (mB X.stack) ch H H' s.heap s'.heap) (hok:lK X.prog X.w H' s'.heap) (hg:AllBare s'.gens)
  (hch:∀ b∈ch,(b∈X.ex\/X.s₀.heap.objs.size<=b)/\b≠X.env.locals/\(∀ x c,X.env.cells.lookup x=some c->c≠b)/\∀ p∈X.pn++pins,p.1≠b):Inv X pins σ H' s':=by
 obtain⟨h',g',d',t',o'⟩:=s'
 have e:o'=s.os:=ho
 subst e
 exact I.call (g':=g') (t':=t') (d':=d') u hok hg hch
end
noncomputable abbrev XK:=Value->Option Addr->Hp->Prop
noncomputable abbrev St:=List (Option V)
noncomputable abbrev VK:=V->Hp->Prop
noncomputable abbrev TE:=St->Hp->VK->Prop
noncomputable abbrev TT:=St->Hp->(Bool->Hp->Prop)->Prop
noncomputable abbrev TA:=St->Hp->(List V->Hp->Prop)->Prop
structure Ends where
 nx:St->Hp->Prop
 rt:VK
 bk:St->Hp->Prop:=λ _ _=>False
 ct:St->Hp->Prop:=λ _ _=>False
noncomputable abbrev TS:=Ends->St->Hp->Prop
noncomputable def EP (X:Cx) (pins:List (Addr×Obj)) (σ:St) (Q:VK) (u:Value) (s':Shared):Prop:=∃ v H',Inv X pins σ H' s'/\bL v u/\Q v H'
noncomputable def TP (X:Cx) (pins:List (Addr×Obj)) (σ:St) (Q:Bool->Hp->Prop) (b:Bool) (s':Shared):Prop:=∃ H',Inv X pins σ H' s'/\Q b H'
noncomputable def AP (X:Cx) (pins:List (Addr×Obj)) (σ:St) (Q:List V->Hp->Prop) (us:List Value) (s':Shared):Prop:=∃ vs H',Inv X pins σ H' s'/\bY vs us/\Q vs H'
noncomputable def SP (X:Cx) (pins:List (Addr×Obj)) (D:Ends) (f:Flow) (s':Shared):Prop:=
 match f with
 | .next=>∃ Z H',Inv X pins Z H' s'/\D.nx Z H'
 | .brk=>∃ Z H',Inv X pins Z H' s'/\D.bk Z H'
 | .cont=>∃ Z H',Inv X pins Z H' s'/\D.ct Z H'
 | .ret u=>∃ v Z H',Inv X pins Z H' s'/\bL v u/\D.rt v H'
noncomputable def PE (X:Cx) (e:Expr) (t:TE):Prop:=
 ∀ (pins:List (Addr×Obj)) (s:Shared) (σ:St) (H:Hp) (Q:VK),Inv X pins σ H s->t σ H Q->wpAny (model X.prog X.w) X.A (eval e X.env) (EP X pins σ Q) X.xe s
noncomputable def PT (X:Cx) (e:Expr) (t:TT):Prop:=
 ∀ (pins:List (Addr×Obj)) (s:Shared) (σ:St) (H:Hp) (Q:Bool->Hp->Prop),Inv X pins σ H s->t σ H Q->wpAny (model X.prog X.w) X.A (isTrue e X.env (eval e X.env)) (TP X pins σ Q) X.xe s
noncomputable def PW (X:Cx) (e:Expr) (t:TT):Prop:=
 ∀ (whole:Sem Value) (pins:List (Addr×Obj)) (s:Shared) (σ:St) (H:Hp) (Q:Bool->Hp->Prop),Inv X pins σ H s->t σ H Q->wpAny (model X.prog X.w) X.A (isTrue e X.env whole) (TP X pins σ Q) X.xe s
theorem PW.pt {X:Cx}{e:Expr}{t:TT} (h:PW X e t):PT X e t:=h _
noncomputable def PA (X:Cx) (es:List Expr) (t:TA):Prop:=
 ∀ (pos:Pos) (pins:List (Addr×Obj)) (s:Shared) (σ:St) (H:Hp) (Q:List V->Hp->Prop),Inv X pins σ H s->t σ H Q->wpAny (model X.prog X.w) X.A (spliced (backTo pos (starEach es X.env))) (AP X pins σ Q) X.xe s
noncomputable def PS (X:Cx) (st:Stmt) (t:TS):Prop:=
 ∀ (pins:List (Addr×Obj)) (s:Shared) (σ:St) (H:Hp) (D:Ends),Inv X pins σ H s->t D σ H->wpAny (model X.prog X.w) X.A (exec st X.env) (SP X pins D) X.xe s
noncomputable def wL (X:Cx) (st:List Stmt) (t:TS):Prop:=
 ∀ (pins:List (Addr×Obj)) (s:Shared) (σ:St) (H:Hp) (D:Ends),Inv X pins σ H s->t D σ H->wpAny (model X.prog X.w) X.A (execs st X.env) (SP X pins D) X.xe s
theorem cX {aq:Type}{t:Sem aq}{Q Q':aq->Shared->Prop}{M:Model}{A:Around}{E:Value->Shared->Prop}{s:Shared} (h:wpAny M A t Q E s) (hQ:∀ a s,Q a s->Q' a s):wpAny M A t Q' E s:=wpAny_mono h hQ λ _ _ x=>x
end L2
namespace L2
open PySem PySem.Spec PyProof.Rows
section
variable {X:Cx}
noncomputable def dP (i:Nat):TE:=λ σ H Q=>∃ v,σ[i]? = some (some v)/\Q v H
noncomputable def tC (v:V):TE:=λ _ H Q=>Q v H
theorem HU {i:Nat}{x:Str}{pos:Pos} (hN:X.N[i]? = some x) (hv:Vis X.env.scope x) (hd:(x == ("__debug__" : Str))=false:=by decide) (hcd:(x == ("__classdict__" : Str))=false:=by decide):PE X (.Name x pos) (dP i):=by
 intro pins s σ H Q I h
 obtain⟨v,e,h⟩:=h
 obtain⟨m,hn,hl⟩:=I.loc
 obtain⟨u,r,l⟩:=hl i x v hN e hv
 have fin:EP X pins σ Q u s:=⟨v,H,I,r,h⟩
 rcases l with ⟨hk,hm⟩ | ⟨hk,c,hc,hcell⟩
 ·exact wpAny_Name (wpAny_loadName_local I.ok.kind hk hn hm fin) hd
 ·rcases hk with hk | hk
  ·exact wpAny_Name (wpAny_loadName_cell I.ok.kind hk hc hcell fin) hd
  ·exact wpAny_Name (wpAny_loadName_free I.ok.kind hk hc hcell fin hcd) hd
theorem aG {i j pos}:PE X (.Constant (.int i) j pos) (tC (.int i)):=λ _ _ _ H _ I h=>wpAny_Constant_int ⟨.int i,H,I.tok _,⟨_,rfl⟩,h⟩
theorem mQ {b j pos}:PE X (.Constant (.bool b) j pos) (tC (.bl b)):=λ _ _ _ H _ I h=>Constant_bool ⟨.bl b,H,I,rfl,h⟩
theorem fU {j pos}:PE X (.Constant .none j pos) (tC .non):=λ _ _ _ H _ I h=>Constant_none ⟨.non,H,I,rfl,h⟩
theorem gW {x j pos}:PE X (.Constant (.str x) j pos) (tC (.str x)):=λ _ _ _ H _ I h=>Calls.Constant_str ⟨.str x,H,I.tok _,⟨_,rfl⟩,h⟩
noncomputable def Gl (X:Cx) (x:Str):Prop:=X.env.kindOf x=some .globalImplicit
theorem oP {E:Value->Shared->Prop}{pins:List (Addr×Obj)}{s:Shared}{σ:St}{H:Hp}{x:Str}{u:Value}{pos:Pos}{Q:Value->Shared->Prop} (I:Inv X pins σ H s) (hg:Gl X x) (hm:X.mg x=some u) (h:Q u s)
  (hd:(x == ("__debug__" : Str))=false:=by decide):wpAny (model X.prog X.w) X.A (eval (.Name x pos) X.env) Q E s:=
 Calls.Name_function_global I.ok.kind hg (Calls.loadGlobal_global (by rw[I.ok.glob];exact I.mod.glob.keeps I.bk) hm h) hd
theorem lS {E:Value->Shared->Prop}{pins:List (Addr×Obj)}{s:Shared}{σ:St}{H:Hp}{x:Str}{u:Value}{pos:Pos}{Q:Value->Shared->Prop} (I:Inv X pins σ H s) (hg:Gl X x) (hm:X.mg x=none) (hv:bootBuiltins x=some u) (h:Q u s)
  (hn:x ≠ "__name__" := by decide) (hd:(x == ("__debug__" : Str))=false:=by decide):wpAny (model X.prog X.w) X.A (eval (.Name x pos) X.env) Q E s:=by
 obtain⟨mb,h1,h2⟩:=I.mod.blt
 exact Calls.Name_function_global I.ok.kind hg (Calls.loadGlobal_builtin (by rw[I.ok.glob];exact I.mod.glob.keeps I.bk) hm (by rw[I.ok.blt];exact h1.keeps I.bk) ((h2 x hn).trans hv) h) hd
theorem FF {x:Str}{v:V}{u:Value}{pos:Pos} (hg:Gl X x) (hm:X.mg x=some u) (r:bL v u) (hd:(x == ("__debug__" : Str))=false:=by decide):PE X (.Name x pos) (tC v):=
 λ _ _ _ H _ I h=>oP I hg hm ⟨v,H,I,r,h⟩ hd
theorem yR {x:Str}{v:V}{u:Value}{pos:Pos} (hg:Gl X x) (hm:X.mg x=none) (hv:bootBuiltins x=some u) (r:bL v u) (hn:x ≠ "__name__" := by decide) (hd:(x == ("__debug__" : Str))=false:=by decide):PE X (.Name x pos) (tC v):=
 λ _ _ _ H _ I h=>lS I hg hm hv ⟨v,H,I,r,h⟩ hn hd
variable {a b:Expr}{ta tb:TE}{pos:Pos}
noncomputable def PC (X:Cx) (op:CmpOp) (a b:Expr) (t:TE):Prop:=
 ∀ (pins:List (Addr×Obj)) (s:Shared) (σ:St) (H:Hp) (Q:VK),Inv X pins σ H s->t σ H Q->
  wpAny (model X.prog X.w) X.A (eval a X.env) (λ v ag=>wpAny (model X.prog X.w) X.A (eval b X.env) (λ u bj=>wpAny (model X.prog X.w) X.A (compareOp op v u) (EP X pins σ Q) X.xe bj) X.xe ag) X.xe s
noncomputable def tB (t:TE):TT:=λ σ H Q=>t σ H λ x H1=>∃ c,x=.bl c/\Q c H1
theorem HP {op:CmpOp}{t:TE} (h:PC X op a b t) (h1:behindInMarks op b=false:=by first | exact nobehind _ (by decide) (by decide) | rfl):PT X (.Compare a [op] [b] pos) (tB t):=by
 intro pins s σ H Q I hw
 refine wpAny_isTrue_Compare1 (cX (h pins s σ H _ I hw) λ v s1 h1=>cX h1 λ u s2 h2=>cX h2 λ c s3 ⟨x,H1,I1,r1,q1⟩=>?_) h1
 obtain⟨d,rfl,q⟩:=q1
 cases r1
 exact wpAny_truthy_bool ⟨H1,I1,q⟩
theorem lN {e:Expr}{t:TE} (h:PE X e t) (he:∀ whole,isTrue e X.env whole=(do let v <- whole;standAt e.pos;holding [v] (truthy v)):=by intro _;rfl):PT X e (tB t):=by
 intro pins s σ H Q I hw
 refine isTrue_plain (cX (h pins s σ H _ I hw) λ v s1 ⟨x,H1,I1,r1,q1⟩=>?_) (he _)
 obtain⟨d,rfl,q⟩:=q1
 cases r1
 exact wpAny_truthy_bool ⟨H1,I1,q⟩
variable {tA tB':TT}{rest:List Expr}
noncomputable def tAnd (t u:TT):TT:=λ σ H Q=>t σ H λ c H1=>if c=true then u σ H1 Q else Q false H1
noncomputable def tOr (t u:TT):TT:=λ σ H Q=>t σ H λ c H1=>if c=true then Q true H1 else u σ H1 Q
noncomputable def tNot (t:TT):TT:=λ σ H Q=>t σ H λ c H1=>Q (!c) H1
theorem yM (ha:PT X a tA):PW X (.BoolOp .And [a] pos) tA:=by
 intro wh pins s σ H Q I h
 refine isTrue_and (cX (ha pins s σ H Q I h) λ c s1 e=>?_)
 cases c with
 | true=>exact isTrue_and_nil e
 | false=>exact e
theorem xA (ha:PT X a tA):PW X (.BoolOp .Or [a] pos) tA:=by
 intro wh pins s σ H Q I h
 refine isTrue_or (cX (ha pins s σ H Q I h) λ c s1 e=>?_)
 cases c with
 | false=>exact isTrue_or_nil e
 | true=>exact e
theorem CK (ha:PT X a tA) (hb:PW X (.BoolOp .And (b::rest) pos) tB'):PW X (.BoolOp .And (a::b::rest) pos) (tAnd tA tB'):=by
 intro wh pins s σ H Q I h
 refine isTrue_and (cX (ha pins s σ H _ I h) λ c s1 ⟨H1,I1,q1⟩=>?_)
 cases c with
 | true=>exact hb wh pins s1 σ H1 Q I1 q1
 | false=>exact⟨H1,I1,q1⟩
theorem CJ (ha:PT X a tA) (hb:PW X (.BoolOp .Or (b::rest) pos) tB'):PW X (.BoolOp .Or (a::b::rest) pos) (tOr tA tB'):=by
 intro wh pins s σ H Q I h
 refine isTrue_or (cX (ha pins s σ H _ I h) λ c s1 ⟨H1,I1,q1⟩=>?_)
 cases c with
 | true=>exact⟨H1,I1,q1⟩
 | false=>exact hb wh pins s1 σ H1 Q I1 q1
theorem CM (ha:PT X a tA):PT X (.UnaryOp .Not a pos) (tNot tA):=by
 intro pins s σ H Q I h
 exact isTrue_not (ha pins s σ H (λ c H1=>Q (!c) H1) I h)
noncomputable def JL (ta tb:TE):TE:=λ σ H Q=>ta σ H λ x H1=>∃ c,x=.bl c/\if c=true then tb σ H1 Q else Q (.bl false) H1
noncomputable def tOrV (ta tb:TE):TE:=λ σ H Q=>ta σ H λ x H1=>∃ c,x=.bl c/\if c=true then Q (.bl true) H1 else tb σ H1 Q
noncomputable def G9 (ta:TE):TE:=λ σ H Q=>ta σ H λ x H1=>∃ c,x=.bl c/\Q (.bl (!c)) H1
theorem xD {op}{t:TE} (h:PE X a t):PE X (.BoolOp op [a] pos) t:=λ pins s σ H Q I hw=>BoolOp_one (h pins s σ H Q I hw)
theorem xE (ha:PE X a ta) (hb:PE X (.BoolOp .And (b::rest) pos) tb):PE X (.BoolOp .And (a::b::rest) pos) (JL ta tb):=by
 intro pins s σ H Q I h
 refine BoolOp_and (cX (ha pins s σ H _ I h) λ v s1 ⟨x,H1,I1,r1,q1⟩=>?_)
 obtain⟨c,rfl,q1⟩:=q1
 cases r1
 refine wpAny_truthy_bool ?_
 cases c with
 | true=>exact hb pins s1 σ H1 Q I1 q1
 | false=>exact⟨.bl false,H1,I1,rfl,q1⟩
theorem JZ (ha:PE X a ta) (hb:PE X (.BoolOp .Or (b::rest) pos) tb):PE X (.BoolOp .Or (a::b::rest) pos) (tOrV ta tb):=by
 intro pins s σ H Q I h
 refine BoolOp_or (cX (ha pins s σ H _ I h) λ v s1 ⟨x,H1,I1,r1,q1⟩=>?_)
 obtain⟨c,rfl,q1⟩:=q1
 cases r1
 refine wpAny_truthy_bool ?_
 cases c with
 | false=>exact hb pins s1 σ H1 Q I1 q1
 | true=>exact⟨.bl true,H1,I1,rfl,q1⟩
theorem u8 (ha:PE X a ta):PE X (.UnaryOp .Not a pos) (G9 ta):=by
 intro pins s σ H Q I h
 refine UnaryOp_ (cX (ha pins s σ H _ I h) λ v s1 ⟨x,H1,I1,r1,q1⟩=>?_)
 obtain⟨c,rfl,q1⟩:=q1
 cases r1
 exact not_of (wpAny_truthy_bool ⟨.bl (!c),H1,I1,rfl,q1⟩)
noncomputable def tIf (t:TT) (ta tb:TE):TE:=λ σ H Q=>t σ H λ c H1=>if c=true then ta σ H1 Q else tb σ H1 Q
theorem CU {c:Expr} (hc:PT X c tA) (ha:PE X a ta) (hb:PE X b tb):PE X (.IfExp c a b pos) (tIf tA ta tb):=by
 intro pins s σ H Q I h
 refine wpAny_IfExp (cX (hc pins s σ H _ I h) λ d s1 ⟨H1,I1,q1⟩=>?_)
 cases d with
 | true=>exact ha pins s1 σ H1 Q I1 q1
 | false=>exact hb pins s1 σ H1 Q I1 q1
end
end L2
namespace L2
open PySem PySem.Spec PyProof.Rows
noncomputable def bR (K:PySem.W.Frag) (H:Hp) (a:Addr) (xs:List V):Prop:=
 Rd H a (.lst xs)\/
  ∃ (o:Obj) (its:Array Value) (n:Nat),K.lookup a=some o/\o.cls=.type "list" /\ o.dict=none/\o.data=.seq its n/\its.size<=sizeLine/\bY xs its.toList
noncomputable def bO (K:PySem.W.Frag) (H:Hp) (a:Addr) (xs:List V):Prop:=
 Rd H a (.tup xs)\/
  ∃ (o:Obj) (its:Array Value) (n:Nat),K.lookup a=some o/\o.cls=.type "tuple" /\ o.data=.seq its n/\its.size<=sizeLine/\bY xs its.toList
noncomputable def absV:Value->Option V
 | .none=>some .non
 | .bool b=>some (.bl b)
 | .int i _=>some (.int i)
 | .str x _=>some (.str x)
 | .bytes b _=>some (.byt b)
 | .float b _=>some (.flt b)
 | .ref a=>some (.ref a)
 | .type n=>some (.ty n)
 | _=>none
theorem bL.abs {x:V}{u:Value} (r:bL x u):absV u=some x:=by
 cases x with
 | non=>cases r;rfl
 | bl _=>cases r;rfl
 | int _=>obtain⟨t,rfl⟩:=r;rfl
 | str _=>obtain⟨t,rfl⟩:=r;rfl
 | byt _=>obtain⟨t,rfl⟩:=r;rfl
 | flt _=>obtain⟨t,rfl⟩:=r;rfl
 | ref _=>cases r;rfl
 | ty _=>cases r;rfl
theorem bL.inj {x y:V}{u:Value} (r:bL x u) (q:bL y u):x=y:=Option.some.inj (r.abs.symm.trans q.abs)
theorem bY.inj:∀ {xs ys:List V}{us:List Value},bY xs us->bY ys us->xs=ys
 | _,_,_,.nil,.nil=>rfl
 | _,_,_,.cons r t,.cons r' t'=>by rw[r.inj r',bY.inj t t']
section
variable {X:Cx}{pins:List (Addr×Obj)}{σ:St}{H:Hp}{s:Shared}{a:Addr}{xs ys:List V}
theorem bR.of {K:PySem.W.Frag} (h:H a=some (.lst xs)):bR K H a xs:=.inl (.inl h)
theorem bO.of {K:PySem.W.Frag} (h:H a=some (.tup xs)):bO K H a xs:=.inl (.inl h)
theorem Inv.list (I:Inv X pins σ H s) (h:bR X.K H a xs):∃ its:List Value,bY xs its/\PlainL s.heap a its.toArray/\xs.length<=sizeLine:=by
 rcases h with h | ⟨o,its,n,hk,hc,hd,hs,hz,r⟩
 ·obtain⟨z,its,n,r,e⟩:=h.ok I.hok
  exact⟨its,r,⟨_,n,e,rfl,rfl,rfl⟩,z⟩
 ·refine⟨its.toList,r,⟨o,n,I.kIn a o hk,hc,hd,by simpa using hs⟩,?_⟩
  have e:=r.length
  simp only [Array.length_toList] at e
  omega
theorem Inv.tuple (I:Inv X pins σ H s) (h:bO X.K H a xs):∃ its:List Value,bY xs its/\IsTup s.heap a its.toArray/\xs.length<=sizeLine:=by
 rcases h with h | ⟨o,its,n,hk,hc,hs,hz,r⟩
 ·obtain⟨z,its,r,p⟩:=h.ok I.hok
  exact⟨its,r,p,z⟩
 ·refine⟨its.toList,r,⟨o,I.kIn a o hk,hc,n,by simpa using hs⟩,?_⟩
  have e:=r.length
  simp only [Array.length_toList] at e
  omega
theorem Inv.list_inj (I:Inv X pins σ H s) (h:bR X.K H a xs) (h':bR X.K H a ys):xs=ys:=by
 obtain⟨its,r,⟨o,n,e,_,_,d⟩,_⟩:=I.list h
 obtain⟨its',r',⟨o',n',e',_,_,d'⟩,_⟩:=I.list h'
 rw[e] at e';cases e'
 rw[d] at d'
 injection d' with d1 _
 have:its=its':=by simpa using congrArg Array.toList d1
 subst this
 exact r.inj r'
theorem Inv.tuple_inj (I:Inv X pins σ H s) (h:bO X.K H a xs) (h':bO X.K H a ys):xs=ys:=by
 obtain⟨its,r,⟨o,e,_,n,d⟩,_⟩:=I.tuple h
 obtain⟨its',r',⟨o',e',_,n',d'⟩,_⟩:=I.tuple h'
 rw[e] at e';cases e'
 rw[d] at d'
 injection d' with d1 _
 have:its=its':=by simpa using congrArg Array.toList d1
 subst this
 exact r.inj r'
end
noncomputable abbrev Cx.wish (X:Cx) (E:Value->Shared->Prop):Cx:={ X with xe:=E }
noncomputable abbrev Cx.nox (X:Cx):Cx:=X.wish λ _ _=>False
theorem Cx.Ok.wish {X:Cx} (ok:X.Ok) (E:Value->Shared->Prop):(X.wish E).Ok:=
 ⟨ok.mod,ok.kind,ok.glob,ok.blt,ok.above,ok.inj,ok.has,ok.cab,ok.hd,ok.frames,ok.stk,ok.exf,ok.bs,ok.bsz,ok.noex,ok.exfs,ok.funs,ok.frf⟩
theorem Cx.Ok.unwish {X:Cx}{E:Value->Shared->Prop} (ok:(X.wish E).Ok):X.Ok:=
 ⟨ok.mod,ok.kind,ok.glob,ok.blt,ok.above,ok.inj,ok.has,ok.cab,ok.hd,ok.frames,ok.stk,ok.exf,ok.bs,ok.bsz,ok.noex,ok.exfs,ok.funs,ok.frf⟩
section
variable {X:Cx}{pins:List (Addr×Obj)}{σ:St}{H:Hp}{s:Shared}{E:Value->Shared->Prop}
theorem Inv.wish (I:Inv X pins σ H s) (E:Value->Shared->Prop):Inv (X.wish E) pins σ H s:=⟨I.ok.wish E,I.os,I.bare,I.base,I.loc,I.cell,I.free,I.freeC,I.pin,I.hok,I.len⟩
theorem Inv.unwish (I:Inv (X.wish E) pins σ H s):Inv X pins σ H s:=⟨I.ok.unwish,I.os,I.bare,I.base,I.loc,I.cell,I.free,I.freeC,I.pin,I.hok,I.len⟩
theorem SP.unwish {D:Ends}{f:Flow}{s':Shared} (h:SP (X.wish E) pins D f s'):SP X pins D f s':=by
 cases f with
 | next=>obtain⟨Z,H',I,q⟩:=h;exact⟨Z,H',I.unwish,q⟩
 | brk=>obtain⟨Z,H',I,q⟩:=h;exact⟨Z,H',I.unwish,q⟩
 | cont=>obtain⟨Z,H',I,q⟩:=h;exact⟨Z,H',I.unwish,q⟩
 | ret u=>obtain⟨v,Z,H',I,r,q⟩:=h;exact⟨v,Z,H',I.unwish,r,q⟩
theorem wL.nox {st:List Stmt}{t:TS} (h:wL X.nox st t):wL X st t:=λ pins s σ H D I hw=>
 wpAny_mono (h pins s σ H D (I.wish _) hw) (λ _ _ q=>q.unwish) λ _ _ z=>False.elim z
end
section
variable {X:Cx}{st:Stmt}{rest:List Stmt}{t u:TS}{e:Expr}{te:TE}{pos:Pos}
noncomputable def GA:TS:=λ D σ H=>D.nx σ H
noncomputable def i7 (t u:TS):TS:=λ D σ H=>t { D with nx:=u D } σ H
theorem cS:wL X [] GA:=λ _ _ σ H _ I h=>wpAny_execs_nil ⟨σ,H,I,h⟩
theorem aD (h1:PS X st t) (h2:wL X rest u):wL X (st::rest) (i7 t u):=by
 intro pins s σ H D I h
 refine wpAny_execs_cons (cX (h1 pins s σ H { D with nx:=u D } I h) λ f s1 q=>?_)
 cases f with
 | next=>
  obtain⟨Z,H',I',q⟩:=q
  exact h2 pins s1 Z H' D I' q
 | ret v=>exact q
 | brk=>exact q
 | cont=>exact q
theorem aM (h1:PS X st t):wL X [st] t:=by
 intro pins s σ H D I h
 refine wpAny_execs_cons (cX (h1 pins s σ H D I h) λ f s1 q=>?_)
 cases f with
 | next=>exact wpAny_execs_nil q
 | ret v=>exact q
 | brk=>exact q
 | cont=>exact q
theorem Inv.quiet {pins:List (Addr×Obj)}{σ:St}{H:Hp}{s:Shared} (I:Inv X pins σ H s):interactive X.env=false:=by simp [interactive,I.ok.kind]
noncomputable def JI (te:TE):TS:=λ D σ H=>te σ H λ _ H1=>D.nx σ H1
theorem dM (he:PE X e te) (hs:swapsWith e none pos.line X.env=pure false:=by rfl):PS X (.Expr e pos) (JI te):=by
 intro pins s σ H D I h
 exact wpAny_Expr_any (cX (he pins s σ H _ I h) λ v s1 ⟨x,H1,I1,r1,q1⟩=>⟨σ,H1,I1,q1⟩) I.quiet hs
noncomputable def JG (te:TE):TS:=λ D σ H=>te σ H D.rt
theorem bX (he:PE X e te):PS X (.Return (some e) pos) (JG te):=by
 intro pins s σ H D I h
 exact wpAny_Return_some (cX (he pins s σ H _ I h) λ v s1 ⟨x,H1,I1,r1,q1⟩=>⟨x,σ,H1,I1,r1,q1⟩)
noncomputable def A7 (c:TT) (t u:TS):TS:=λ D σ H=>c σ H λ b H1=>if b=true then t D σ H1 else u D σ H1
theorem fC {c:Expr}{a b:List Stmt}{tc:TT} (hc:PT X c tc) (ha:wL X a t) (hb:wL X b u):PS X (.If c a b pos) (A7 tc t u):=by
 intro pins s σ H D I h
 refine wpAny_If (cX (hc pins s σ H _ I h) λ d s1 ⟨H1,I1,q1⟩=>?_)
 cases d with
 | true=>exact ha pins s1 σ H1 D I1 q1
 | false=>exact hb pins s1 σ H1 D I1 q1
end
noncomputable abbrev TG:=V->St->Hp->(St->Hp->Prop)->Prop
noncomputable abbrev GU:=List V->St->Hp->(St->Hp->Prop)->Prop
noncomputable def PG (X:Cx) (target:Expr) (t:TG):Prop:=
 ∀ (pins:List (Addr×Obj)) (s:Shared) (σ:St) (H:Hp) (v:V) (u:Value) (Q:St->Hp->Prop),Inv X pins σ H s->bL v u->t v σ H Q->
  wpAny (model X.prog X.w) X.A (assign target X.env u) (λ _ s'=>∃ Z H',Inv X pins Z H' s'/\Q Z H') X.xe s
noncomputable def KU (X:Cx) (ts:List Expr) (t:GU):Prop:=
 ∀ (pins:List (Addr×Obj)) (s:Shared) (σ:St) (H:Hp) (vs:List V) (us:List Value) (Q:St->Hp->Prop),Inv X pins σ H s->bY vs us->t vs σ H Q->
  wpAny (model X.prog X.w) X.A (assignInOrder ((assignEach ts X.env).map (·.2)) us) (λ _ s'=>∃ Z H',Inv X pins Z H' s'/\Q Z H') X.xe s
noncomputable abbrev EA:=V->V->V->Hp->(Hp->Prop)->Prop
noncomputable def IY (X:Cx) (t:EA):Prop:=
 ∀ (pins:List (Addr×Obj)) (s:Shared) (σ:St) (H:Hp) (o i v:V) (ov iv u:Value) (Q:Hp->Prop),Inv X pins σ H s->bL o ov->bL i iv->bL v u->t o i v H Q->
  wpAny (model X.prog X.w) X.A (setItem ov iv u) (λ _ s'=>∃ H',Inv X pins σ H' s'/\Q H') X.xe s
noncomputable abbrev J4:=V->V->Hp->VK->Prop
noncomputable def PIp (X:Cx) (op:Operator) (t:J4):Prop:=
 ∀ (pins:List (Addr×Obj)) (s:Shared) (σ:St) (H:Hp) (x y:V) (v u:Value) (Q:VK),Inv X pins σ H s->bL x v->bL y u->t x y H Q->
  wpAny (model X.prog X.w) X.A (inplaceOp op v u) (EP X pins σ Q) X.xe s
section
variable {X:Cx}{pos:Pos}
noncomputable def fX (i:Nat):TG:=λ v σ H Q=>Q (σ.set i (some v)) H
theorem aE {i:Nat}{x:Str} (hN:X.N.Nodup) (hi:X.N[i]? = some x) (hx:KY X.env.scope x) (hf:X.fn x=true\/X.env.scope.names.lookup x=some .local:=by first | exact .inl rfl | exact .inr rfl | assumption):PG X (.Name x pos) (fX i):=by
 intro pins s σ H v u Q I r h
 exact wpAny_assign_Name (jE I hN hi hx r (λ s' I'=>⟨_,H,I',h⟩) hf)
noncomputable def gNil:GU:=λ vs σ H Q=>vs=[]/\Q σ H
noncomputable def KN (t:TG) (u:GU):GU:=λ vs σ H Q=>∃ v r,vs=v::r/\t v σ H λ Z H'=>u r Z H' Q
theorem bA:KU X [] gNil:=by
 intro pins s σ H vs us Q I r h
 obtain⟨e,h⟩:=h
 subst e
 cases r
 exact assignInOrder_nil ⟨σ,H,I,h⟩
theorem aF {e:Expr}{es:List Expr}{t:TG}{u:GU} (h1:PG X e t) (h2:KU X es u)
  (hs:(assignEach (e::es) X.env).map (·.2)=assign e X.env::(assignEach es X.env).map (·.2):=by rfl):KU X (e::es) (KN t u):=by
 intro pins s σ H vs us Q I r h
 obtain⟨v,vr,e1,h⟩:=h
 subst e1
 cases r with
 | cons r rr=>
  rw[hs]
  refine assignInOrder_cons (cX (h1 pins s σ H _ _ _ I r h) λ _ s1 ⟨cz,H1,I1,q1⟩=>?_)
  exact h2 pins s1 cz H1 _ _ Q I1 rr q1
noncomputable def KM (K:PySem.W.Frag) (n:Nat) (t:GU):TG:=λ v σ H Q=>∃ a xs,v=.ref a/\bO K H a xs/\xs.length=n/\t xs σ H Q
theorem HS {es:List Expr}{k:Nat}{t:GU}{n:Nat} (hc:X.calm=true) (h:KU X es t)
  (hn:(assignEach es X.env).length=n:=by rfl) (hst:(assignEach es X.env).findIdx? (·.1)=none:=by rfl):PG X (.Tuple es k pos) (KM X.K n t):=by
 intro pins s σ H v u Q I r hw
 obtain⟨a,xs,e1,hq,hl,hw⟩:=hw
 subst e1
 cases r
 obtain⟨its,rv,ht,hz⟩:=I.tuple hq
 refine assign_Tuple_tuple (I.ok.hd hc) ht (by simp [hn,<- hl,rv.length]) hst λ h' hx=>?_
 have I1:Inv X pins σ H { s with heap:=h' }:=I.kept (t':=s.toks) λ b o e=>hx b o (Nat.ne_of_lt (Heap.lt_size e)) e
 exact h pins _ σ H xs _ Q I1 (by simpa using rv) hw
noncomputable def DQ (to ti:TE) (t:EA):TG:=λ v σ H Q=>to σ H λ o H1=>ti σ H1 λ i H2=>t o i v H2 λ H3=>Q σ H3
theorem jO {o i:Expr}{to ti:TE}{t:EA} (ho:PE X o to) (hi:PE X i ti) (hs:IY X t)
  (ha:∀ v,assign (.Subscript o i pos) X.env v=(do
   let ov <- holding [v] (eval o X.env)
   let iv <- holding [v,ov] (eval i X.env)
   standAt pos
   holding [v,ov,iv] (setItem ov iv v)
   release [v,ov,iv] []):=by intro _;rfl):PG X (.Subscript o i pos) (DQ to ti t):=by
 intro pins s σ H v u Q I r h
 rw[ha]
 refine wpAny_bind (wpAny_holding (cX (ho pins s σ H _ I h) λ ov s1 ⟨x,H1,I1,r1,q1⟩=>?_))
 refine wpAny_bind (wpAny_holding (cX (hi pins s1 σ H1 _ I1 q1) λ iv s2 ⟨y,H2,I2,r2,q2⟩=>?_))
 refine wpAny_bind (wpAny_standAt (wpAny_bind (wpAny_holding (cX (hs pins s2 σ H2 x y v ov iv u _ I2 r1 r2 r q2) λ _ s3 ⟨H3,I3,q3⟩=>?_))))
 exact wpAny_release ⟨σ,H3,I3,q3⟩
noncomputable def iJ (te:TE) (g:TG):TS:=λ D σ H=>te σ H λ x H1=>g x σ H1 D.nx
theorem cI {tg e:Expr}{te:TE}{g:TG} (he:PE X e te) (hg:PG X tg g) (hs:swapsWithSole [tg] e pos.line X.env=pure false:=by rfl) (hw:swappedStores [tg] e X.env=pure none:=by rfl)
  (h1:(assignEach [tg] X.env).map (·.2)=[assign tg X.env]:=by rfl):PS X (.Assign [tg] e pos) (iJ te g):=by
 intro pins s σ H D I h
 refine wpAny_Assign_stores (cX (he pins s σ H _ I h) λ v s1 ⟨x,H1,I1,r1,q1⟩=>?_) hs hw
 rw[h1]
 exact cX (hg pins s1 σ H1 x v _ I1 r1 q1) λ _ s2 q=>q
theorem aS {i:Nat}{x:Str}{e:Expr}{te:TE}{pos':Pos} (hN:X.N.Nodup) (hi:X.N[i]? = some x) (hx:KY X.env.scope x) (he:PE X e te) (hs:swapsWith e (some (.Name x pos')) pos.line X.env=pure false:=by rfl) (hf:X.fn x=true\/X.env.scope.names.lookup x=some .local:=by first | exact .inl rfl | exact .inr rfl | assumption) :
  PS X (.Assign [.Name x pos'] e pos) (iJ te (fX i)):=by
 intro pins s σ H D I h
 refine wpAny_Assign_Name (cX (he pins s σ H _ I h) λ v s1 ⟨y,H1,I1,r1,q1⟩=>?_) hs
 exact jE I1 hN hi hx r1 (λ s2 I2=>⟨_,H1,I2,q1⟩) hf
noncomputable def tPar (i j:Nat) (ta:TA):TS:=λ D σ H=>ta σ H λ vs H1=>∃ v w,vs=[v,w]/\D.nx ((σ.set i (some v)).set j (some w)) H1
theorem xB {i j:Nat}{x y:Str}{a b:Expr}{ta:TA}{px py pt:Pos}{kt k2 pt2} (hc:X.calm=true) (hN:X.N.Nodup) (hi:X.N[i]? = some x) (hj:X.N[j]? = some y) (hij:i≠j)
  (hx:X.env.scope.names.lookup x=some .local) (hy:X.env.scope.names.lookup y=some .local) (ha:PA X [a,b] ta)
  (hw:swappedStores [.Tuple [.Name x px,.Name y py] kt pt] (.Tuple [a,b] k2 pt2) X.env=pure (some [x,y]))
  (hs:swapsWithSole [.Tuple [.Name x px,.Name y py] kt pt] (.Tuple [a,b] k2 pt2) pos.line X.env=pure false:=by rfl) :
  PS X (.Assign [.Tuple [.Name x px,.Name y py] kt pt] (.Tuple [a,b] k2 pt2) pos) (tPar i j ta):=by
 intro pins s σ H D I h
 rw[exec_Assign_arm]
 refine wpAny_bind (wpAny_standAt ?_)
 rw[hs]
 refine wpAny_bind (wpAny_pure ?_)
 rw[if_neg (by decide)]
 refine wpAny_bind (Tuple_ (cX (ha _ pins s σ H _ I h) λ us s1 ⟨vs,H1,I1,r1,q1⟩=>?_))
 obtain⟨v,w,e1,q1⟩:=q1
 subst e1
 obtain⟨u1,u2,rfl,rv,rw'⟩:∃ u1 u2,us=[u1,u2]/\bL v u1/\bL w u2:=by
  cases r1 with
  | cons p q=>
   cases q with
   | cons p' q'=>
    cases q'
    exact⟨_,_,rfl,p,p'⟩
 refine wpAny_newObj_type ?_ (by show 2<=sizeLine;decide)
 have I2:Inv X pins σ H1 { s1 with heap:=s1.heap.push { cls:=.type "tuple",data:=.seq [u1,u2].toArray } }:=I1.kept (t':=s1.toks) λ b o e=>Heap.get?_push_of_some _ e
 rw[hw]
 refine wpAny_bind (wpAny_pure ?_)
 show wpAny (model X.prog X.w) X.A (do rule "assign.swapped-stores";let items <- unpackItems (.ref s1.heap.objs.size) 2 none;assignInOrder [λ v=>bindName X.env y v,λ v=>bindName X.env x v] items.reverse;pure Flow.next) _ _ _
 refine wpAny_bind (wpAny_rule (wpAny_bind (unpackItems_tuple (items:=#[u1,u2]) (I.ok.hd hc) (IsTup.new s1.heap _) λ h' hx'=>?_)))
 have I3:=I2.kept (h':=h') (t':=s1.toks) λ b o e=>hx' b o (Nat.ne_of_lt (Heap.lt_size e)) e
 show wpAny _ _ (assignInOrder [λ v=>bindName X.env y v,λ v=>bindName X.env x v] [u2,u1] >>= λ _=>pure Flow.next) _ _ _
 refine wpAny_bind (assignInOrder_cons (wpAny_bindName (jE I3 hN hj (.inl hy) rw' (λ s2 I4=>?_) (.inr hy))))
 refine assignInOrder_cons (wpAny_bindName (jE I4 hN hi (.inl hx) rv (λ s3 I5=>assignInOrder_nil (wpAny_pure ?_)) (.inr hx)))
 rw[List.set_comm _ _ (Ne.symm hij)] at I5
 exact⟨_,H1,I5,q1⟩
noncomputable def tAug (i:Nat) (te:TE) (ti:J4):TS:=λ D σ H=>∃ x,σ[i]? = some (some x)/\te σ H λ y H1=>ti x y H1 λ z H2=>D.nx (σ.set i (some z)) H2
theorem HQ {i:Nat}{x:Str}{e:Expr}{te:TE}{op:Operator}{ti:J4}{pos':Pos} (hN:X.N.Nodup) (hi:X.N[i]? = some x) (hx:KY X.env.scope x) (he:PE X e te) (ho:PIp X op ti) (hf:X.fn x=true\/X.env.scope.names.lookup x=some .local:=by first | exact .inl rfl | exact .inr rfl | assumption) :
  PS X (.AugAssign (.Name x pos') op e pos) (tAug i te ti):=by
 intro pins s σ H D I h
 obtain⟨v,e1,h⟩:=h
 obtain⟨m,hn,hl⟩:=I.loc
 have vis:Vis X.env.scope x:=by rcases hx with k | k;exact .inl k;exact .inr (.inl k)
 obtain⟨u,r,l⟩:=hl i x v hi e1 vis
 refine wpAny_AugAssign_Name ?_
 have go:wpAny (model X.prog X.w) X.A (eval e X.env) (λ w bj=>wpAny (model X.prog X.w) X.A (inplaceOp op u w) (λ r bg=>wpAny (model X.prog X.w) X.A (storeName X.env x r) (λ _=>SP X pins D .next) X.xe bg) X.xe bj) X.xe s:=by
  refine cX (he pins s σ H _ I h) λ w s1 ⟨y,H1,I1,r1,q1⟩=>?_
  refine cX (ho pins s1 σ H1 v y u w _ I1 r r1 q1) λ z s2 ⟨zv,H2,I2,r2,q2⟩=>?_
  exact jE I2 hN hi hx r2 (λ s3 I3=>⟨_,H2,I3,q2⟩) hf
 rcases l with ⟨hk,hm⟩ | ⟨hk,c,hc,hcell⟩
 ·exact wpAny_loadName_local I.ok.kind hk hn hm go
 ·rcases hk with hk | hk
  ·exact wpAny_loadName_cell I.ok.kind hk hc hcell go
  ·rcases hx with k | k
   ·have:X.env.scope.names.lookup x=some .free:=hk
    rw[k] at this;cases this
   ·have:X.env.scope.names.lookup x=some .free:=hk
    rw[k] at this;cases this
noncomputable def JK (to ti te:TE) (tget:V->V->Hp->VK->Prop) (tip:J4) (tset:EA):TS:=λ D σ H=>to σ H λ o H1=>ti σ H1 λ i H2=>tget o i H2 λ x H3=>te σ H3 λ y H4=>tip x y H4 λ z H5=>tset o i z H5 λ H6=>D.nx σ H6
noncomputable def IZ (X:Cx) (t:V->V->Hp->VK->Prop):Prop:=
 ∀ (pins:List (Addr×Obj)) (s:Shared) (σ:St) (H:Hp) (o i:V) (ov iv:Value) (Q:VK),Inv X pins σ H s->bL o ov->bL i iv->t o i H Q->
  wpAny (model X.prog X.w) X.A (getItem ov iv) (EP X pins σ Q) X.xe s
theorem EZ {o i e:Expr}{to ti te:TE}{tget:V->V->Hp->VK->Prop}{tip:J4}{tset:EA}{op:Operator}{tpos:Pos} (ho:PE X o to) (hi:PE X i ti) (hg:IZ X tget) (he:PE X e te) (hp:PIp X op tip) (hs:IY X tset)
  (ha:∀ ov iv new,augStore i ov iv new=(do holding [new,ov,iv] (setItem ov iv new);release [new,ov,iv] [];pure .next):=by intros;rfl):PS X (.AugAssign (.Subscript o i tpos) op e pos) (JK to ti te tget tip tset):=by
 intro pins s σ H D I h
 refine wpAny_AugAssign_SubscriptAny (cX (ho pins s σ H _ I h) λ ov s1 ⟨x1,H1,I1,r1,q1⟩=>?_) ha
 refine cX (hi pins s1 σ H1 _ I1 q1) λ iv s2 ⟨x2,H2,I2,r2,q2⟩=>?_
 refine cX (hg pins s2 σ H2 x1 x2 ov iv _ I2 r1 r2 q2) λ old s3 ⟨x3,H3,I3,r3,q3⟩=>?_
 refine cX (he pins s3 σ H3 _ I3 q3) λ v s4 ⟨x4,H4,I4,r4,q4⟩=>?_
 refine cX (hp pins s4 σ H4 x3 x4 old v _ I4 r3 r4 q4) λ new s5 ⟨x5,H5,I5,r5,q5⟩=>?_
 exact cX (hs pins s5 σ H5 x1 x2 x5 ov iv new _ I5 r1 r2 r5 q5) λ _ s6 ⟨H6,I6,q6⟩=>⟨σ,H6,I6,q6⟩
noncomputable def ipI (f:Int->Int->Int):J4:=λ x y H Q=>∃ i j,x=.int i/\y=.int j/\Q (.int (f i j)) H
theorem IM:PIp X .Add (ipI λ i j=>i+j):=by
 intro pins s σ H x y v u Q I r1 r2 h
 obtain⟨i,j,e1,e2,q⟩:=h
 subst e1;subst e2
 obtain⟨t,rfl⟩:=r1
 obtain⟨t',rfl⟩:=r2
 exact iadd_int ⟨.int _,H,I.tok _,⟨_,rfl⟩,q⟩
theorem IL:PIp X .Sub (ipI λ i j=>i - j):=by
 intro pins s σ H x y v u Q I r1 r2 h
 obtain⟨i,j,e1,e2,q⟩:=h
 subst e1;subst e2
 obtain⟨t,rfl⟩:=r1
 obtain⟨t',rfl⟩:=r2
 exact isub_int ⟨.int _,H,I.tok _,⟨_,rfl⟩,q⟩
end
section
variable {X:Cx}{pos:Pos}
noncomputable def GY (c:TT) (tb:TS):TS:=λ D σ H=>∃ W:Nat->St->Hp->Prop,(∃ m,W m σ H)/\∀ m σ H,W m σ H->
 c σ H λ b H1=>if b=true then ∃ N:St->Hp->Prop,(∀ Z H',N Z H'->∃ m',m' < m/\W m' Z H')/\tb { D with nx:=N,ct:=N,bk:=D.nx } σ H1 else D.nx σ H1
theorem CN {c:Expr}{body:List Stmt}{tc:TT}{tb:TS} (hp:PassesOwn (model X.prog X.w) X.A X.env X.xe) (hc:PT X c tc) (hb:wL X body tb):PS X (.While c body [] pos) (GY tc tb):=by
 intro pins s σ H D I h
 obtain⟨W,⟨m0,w0⟩,turn⟩:=h
 refine wpAny_While (codeAny_whileLoop (λ n s'=>∃ Z H',Inv X pins Z H' s'/\W n Z H') ?_ m0 ⟨σ,H,I,w0⟩)
 rintro n s1 ⟨cz,H1,I1,w1⟩
 refine wpAny_passesOwn hp (cX (hc pins s1 cz H1 _ I1 (turn n cz H1 w1)) λ b s2 ⟨H2,I2,q2⟩=>?_)
 cases b with
 | true=>
  obtain⟨N,hN,q2⟩:=q2
  rw[if_pos rfl]
  refine wpAny_passesOwn hp (cX (hb pins s2 cz H2 _ I2 q2) λ f s3 q3=>?_)
  cases f with
  | next=>
   obtain⟨ai,H3,I3,n3⟩:=q3
   obtain⟨m',hm,w3⟩:=hN ai H3 n3
   exact⟨m',hm,ai,H3,I3,w3⟩
  | cont=>
   obtain⟨ai,H3,I3,n3⟩:=q3
   obtain⟨m',hm,w3⟩:=hN ai H3 n3
   exact⟨m',hm,ai,H3,I3,w3⟩
  | brk=>exact q3
  | ret v=>exact q3
 | false=>
  rw[if_neg Bool.false_ne_true]
  exact wpAny_execs_nil ⟨cz,H2,I2,q2⟩
end
structure It where
 go:Nat->Hp->Prop
 yld:Nat->Hp->V->Hp->Prop
 stop:Nat->Hp->Prop
noncomputable def gN (X:Cx) (pins:List (Addr×Obj)) (H:Hp) (b:Addr):Prop:=
 H b=none/\b≠X.env.locals/\b∉X.fs/\(b∈X.ex\/X.s₀.heap.objs.size<=b)/\(∀ x c,X.env.cells.lookup x=some c->c≠b)/\∀ p∈X.pn++pins,p.1≠b
theorem Inv.fpOk {X:Cx}{pins:List (Addr×Obj)}{σ:St}{H H':Hp}{s:Shared}{b:Addr} (I:Inv X pins σ H s) (hb:s.heap.objs.size<=b) (hn:H' b=none):gN X pins H' b:=by
 refine⟨hn,Nat.ne_of_gt (Nat.lt_of_lt_of_le I.lt hb),I.nofs hb,.inr (Nat.le_trans I.sz hb),λ x c e z=>?_,λ p hp z=>?_⟩
 ·obtain⟨v,q⟩:=I.cell x c e
  exact absurd (Nat.lt_of_lt_of_le q.lt (by rw[z];exact hb)) (Nat.lt_irrefl _)
 ·exact absurd (Nat.lt_of_lt_of_le (Heap.lt_size (I.pin p hp).1) (by rw[z];exact hb)) (Nat.lt_irrefl _)
structure Turn (P:Program) (w:World) (K:PySem.W.Frag) (tg:Expr) (J:It) (fp:List Addr) (it:Addr) (tn:Nat->Heap->Prop):Prop where
 mem:it∈fp
 obj:∀ i h,tn i h->∀ b∈fp,∃ o,h.get? b=some o/\∀ v,o.data≠.cell v
 keep:∀ i h h',tn i h->(∀ b∈fp,∀ o,h.get? b=some o->h'.get? b=some o)->tn i h'
 item:∀ (X:Cx),X.prog=P->X.w=w->X.K=K->X.calm=true->∀ (i:Nat) (pins:List (Addr×Obj)) (s:Shared) (σ:St) (H:Hp) (E:Value->Shared->Prop),Inv X pins σ H s->(∀ b∈fp,gN X pins H b)->tn i s.heap->J.go i H->
  wpAny (model P w) X.A (pyNext (.ref it)) (λ r s1=>∃ u,r=some u/\
   wpAny (model P w) X.A (letOwnedTupleGo tg (.ref it) u) (λ _ s2=>∃ x H',Inv X pins σ H' s2/\bL x u/\J.yld i H x H'/\tn (i+1) s2.heap/\∀ b∈fp,H' b=none) E s1) E s
 done:∀ (X:Cx),X.prog=P->X.w=w->X.K=K->X.calm=true->∀ (i:Nat) (pins:List (Addr×Obj)) (s:Shared) (σ:St) (H:Hp) (E:Value->Shared->Prop),Inv X pins σ H s->(∀ b∈fp,gN X pins H b)->tn i s.heap->J.stop i H->
  wpAny (model P w) X.A (pyNext (.ref it)) (λ r s1=>r=none/\Inv X pins σ H s1) E s
 self:∀ (A:Around) (i:Nat) (s:Shared) (Q:Value->Shared->Prop) (E:Value->Shared->Prop),tn i s.heap->Q (.ref it) s->wpAny (model P w) A (pyIter (.ref it)) Q E s
noncomputable abbrev TI:=St->Hp->(It->Hp->Prop)->Prop
noncomputable def PIE (X:Cx) (pins:List (Addr×Obj)) (σ:St) (tg:Expr) (R:It->Hp->Prop) (itv:Value) (s2:Shared):Prop:=
 ∃ (it:Addr) (fp:List Addr) (tn:Nat->Heap->Prop) (J:It) (H':Hp),itv=.ref it/\Inv X pins σ H' s2/\Turn X.prog X.w X.K tg J fp it tn/\tn 0 s2.heap/\(∀ b∈fp,gN X pins H' b)/\R J H'
noncomputable def PI (X:Cx) (tg iter:Expr) (wi:TI):Prop:=
 ∀ (pins:List (Addr×Obj)) (s:Shared) (σ:St) (H:Hp) (R:It->Hp->Prop),Inv X pins σ H s->wi σ H R->
  wpAny (model X.prog X.w) X.A (eval iter X.env) (λ v s1=>wpAny (model X.prog X.w) X.A (pyIter v) (PIE X pins σ tg R) X.xe s1) X.xe s
theorem zG {M:Model}{A:Around}{E:Value->Shared->Prop}{s:Shared}{tg:Expr}{it:Addr}{u:Value}{o:Obj}{n:String}{vs:Array Value}{Q:Unit->Shared->Prop} (ho:s.heap.get? it=some o) (hc:o.cls=.type n) (hd:o.data=.fields vs)
  (hn:["enumerate","zip","dict_itemiterator","dict_reverseitemiterator","odict_iterator","itertools.zip_longest","itertools.pairwise"].contains n=false) (hQ:Q () s):wpAny M A (letOwnedTupleGo tg (.ref it) u) Q E s:=by
 unfold letOwnedTupleGo
 cases tg <;> first
  | exact wpAny_pure hQ
  | (cases u <;> first
    | exact wpAny_pure hQ
    | (refine wpAny_bind (wpAny_load ho ?_)
       rw[hc,hd]
       show wpAny M A (if (["enumerate","zip","dict_itemiterator","dict_reverseitemiterator","odict_iterator","itertools.zip_longest","itertools.pairwise"].contains n && vs[0]? == some (rawInt _))=true then _ else _) Q E s
       rw[if_neg (by intro h;rw[hn,Bool.false_and] at h;cases h)]
       exact wpAny_pure hQ))
noncomputable def JA (K:PySem.W.Frag) (a:Addr):It:=
 ⟨λ i H=>∃ xs x,bR K H a xs/\xs[i]? = some x,λ i H x H'=>H'=H/\∀ xs,bR K H a xs->xs[i]? = some x,λ i H=>∃ xs,bR K H a xs/\xs.length<=i⟩
noncomputable def J9 (K:PySem.W.Frag) (a:Addr):It:=
 ⟨λ i H=>∃ xs x,bO K H a xs/\xs[i]? = some x,λ i H x H'=>H'=H/\∀ xs,bO K H a xs->xs[i]? = some x,λ i H=>∃ xs,bO K H a xs/\xs.length<=i⟩
noncomputable def G7 (lo:Int) (n:Nat):It:=⟨λ i _=>i < n,λ i H x H'=>H'=H/\x=.int (lo+i),λ i _=>n<=i⟩
theorem A3 {P:Program}{w:World}{K:PySem.W.Frag}{tg:Expr} (a it:Addr):Turn P w K tg (JA K a) [it] it (λ i h=>h.IsListIter it a i) where
 mem:=by simp
 obj:=λ i h st b hb=>by
  have e:b=it:=by simpa using hb
  subst e
  obtain⟨o,e,c,d⟩:=st
  exact⟨o,e,λ v z=>by rw[d] at z;cases z⟩
 keep:=λ i h h' st k=>st.at λ o e=>k it (by simp) o e
 item:=by
  intro X hP hw hK hc i pins s σ H E I hf st hg
  subst hP hw hK
  obtain⟨xs,x,hq,hx⟩:=hg
  obtain⟨its,rv,p,hz⟩:=I.list hq
  obtain⟨u,hu,ru⟩:=rv.get hx
  obtain⟨f0,f1,f2,f3,f4,f5⟩:=hf it (by simp)
  refine wpAny_pyNext_list_item st p.isList (x:=u) (by simpa using hu) λ h' st' sb=>?_
  have I1:Inv X pins σ H { s with heap:=h' }:=I.turned (t':=s.toks) (λ b o hb e=>(sb.2 b hb).trans e) f0 f1 f3 f4 f5
  obtain⟨o,e,c,d⟩:=id st'
  exact⟨u,rfl,zG (s:={ s with heap:=h' }) e c d (by decide) ⟨x,H,I1,ru,⟨rfl,λ ys hy=>by rw[I.list_inj hy hq];exact hx⟩,st',λ b hb=>(hf b hb).1⟩⟩
 done:=by
  intro X hP hw hK hc i pins s σ H E I hf st hg
  subst hP hw hK
  obtain⟨xs,hq,hx⟩:=hg
  obtain⟨its,rv,p,hz⟩:=I.list hq
  obtain⟨f0,f1,f2,f3,f4,f5⟩:=hf it (by simp)
  have hl:=rv.length
  exact wpAny_pyNext_list_end (I.ok.hd hc) st p.isList (by simp;omega) λ h' eb=>⟨rfl,I.turned (t':=s.toks) (λ b o hb e=>eb b o hb e) f0 f1 f3 f4 f5⟩
 self:=λ _ _ _ _ _ st h=>wpAny_pyIter_listiter st h
theorem wO {P:Program}{w:World}{K:PySem.W.Frag}{tg:Expr} (a it:Addr):Turn P w K tg (J9 K a) [it] it (λ i h=>h.IsTupleIter it a i) where
 mem:=by simp
 obj:=λ i h st b hb=>by
  have e:b=it:=by simpa using hb
  subst e
  obtain⟨o,e,c,d⟩:=st
  exact⟨o,e,λ v z=>by rw[d] at z;cases z⟩
 keep:=λ i h h' st k=>st.at λ o e=>k it (by simp) o e
 item:=by
  intro X hP hw hK hc i pins s σ H E I hf st hg
  subst hP hw hK
  obtain⟨xs,x,hq,hx⟩:=hg
  obtain⟨its,rv,p,hz⟩:=I.tuple hq
  obtain⟨u,hu,ru⟩:=rv.get hx
  obtain⟨f0,f1,f2,f3,f4,f5⟩:=hf it (by simp)
  refine wpAny_pyNext_tuple_item st (show s.heap.IsTuple a its.toArray from p) (x:=u) (by simpa using hu) λ h' st' sb=>?_
  have I1:Inv X pins σ H { s with heap:=h' }:=I.turned (t':=s.toks) (λ b o hb e=>(sb.2 b hb).trans e) f0 f1 f3 f4 f5
  obtain⟨o,e,c,d⟩:=id st'
  exact⟨u,rfl,zG (s:={ s with heap:=h' }) e c d (by decide) ⟨x,H,I1,ru,⟨rfl,λ ys hy=>by rw[I.tuple_inj hy hq];exact hx⟩,st',λ b hb=>(hf b hb).1⟩⟩
 done:=by
  intro X hP hw hK hc i pins s σ H E I hf st hg
  subst hP hw hK
  obtain⟨xs,hq,hx⟩:=hg
  obtain⟨its,rv,p,hz⟩:=I.tuple hq
  obtain⟨f0,f1,f2,f3,f4,f5⟩:=hf it (by simp)
  have hl:=rv.length
  exact wpAny_pyNext_tuple_end (I.ok.hd hc) st (show s.heap.IsTuple a its.toArray from p) (by simp;omega) λ h' eb=>⟨rfl,I.turned (t':=s.toks) (λ b o hb e=>eb b o hb e) f0 f1 f3 f4 f5⟩
 self:=λ _ _ _ _ _ st h=>wpAny_pyIter_tupleiter st h
theorem wP {P:Program}{w:World}{K:PySem.W.Frag}{tg:Expr} (it:Addr) (lo:Int) (n:Nat):Turn P w K tg (G7 lo n) [it] it (λ i h=>IsRangeIter h it (lo+(i:Nat) * 1) ((n:Int) - (i:Nat)) 1) where
 mem:=by simp
 obj:=λ i h st b hb=>by
  have e:b=it:=by simpa using hb
  subst e
  exact⟨_,st,λ v z=>by
   have z':Data.fields _=Data.cell v:=z
   cases z'⟩
 keep:=λ i h h' st k=>k it (by simp) _ st
 item:=by
  intro X hP hw hK hc i pins s σ H E I hf st hg
  subst hP hw hK
  obtain⟨f0,f1,f2,f3,f4,f5⟩:=hf it (by simp)
  have W:=Walks.range (prog:=X.prog) (w:=X.w) (I.ok.hd hc) it lo 1 n
  refine W.item i s _ _ hg st λ v h' tk hv st' kk=>?_
  obtain⟨t,rfl⟩:=hv
  have I1:Inv X pins σ H { s with heap:=h',toks:=tk }:=I.turned (λ b o hb e=>kk b o (by simpa using hb) e) f0 f1 f3 f4 f5
  refine⟨_,rfl,zG (s:={ s with heap:=h',toks:=tk }) (n := "range_iterator") st' rfl rfl (by decide) ⟨.int (lo+i),H,I1,⟨t,?_⟩,⟨rfl,rfl⟩,st',λ b hb=>(hf b hb).1⟩⟩
  rw[Int.mul_one]
 done:=by
  intro X hP hw hK hc i pins s σ H E I hf st hg
  subst hP hw hK
  obtain⟨f0,f1,f2,f3,f4,f5⟩:=hf it (by simp)
  exact wpAny_pyNext_range_end (I.ok.hd hc) st (by have:n<=i:=hg;omega) λ h' eb=>⟨rfl,I.turned (t':=s.toks) (λ b o hb e=>eb b o hb e) f0 f1 f3 f4 f5⟩
 self:=λ _ _ _ _ _ st h=>wpAny_pyIter_rangeiter st h
end L2
namespace L2
open PySem PySem.Spec PyProof.Rows
section
variable {X:Cx}{tg:Expr}
noncomputable def GP (K:PySem.W.Frag) (tl:TE):TI:=λ σ H R=>tl σ H λ x H1=>∃ a,x=.ref a/\(∃ xs,bR K H1 a xs)/\R (JA K a) H1
noncomputable def KI (K:PySem.W.Frag) (tl:TE):TI:=λ σ H R=>tl σ H λ x H1=>∃ a,x=.ref a/\(∃ xs,bO K H1 a xs)/\R (J9 K a) H1
theorem FD {l:Expr}{tl:TE} (hl:PE X l tl):PI X tg l (GP X.K tl):=by
 intro pins s σ H R I h
 refine cX (hl pins s σ H _ I h) λ v s1 ⟨x,H1,I1,r1,q1⟩=>?_
 obtain⟨a,e,⟨xs,hq⟩,q⟩:=q1
 subst e
 cases r1
 obtain⟨its,rv,p,hz⟩:=I1.list hq
 refine wpAny_pyIter_list p.isList ?_
 refine⟨s1.heap.objs.size,[s1.heap.objs.size],_,_,H1,rfl,I1.kept (t':=s1.toks) λ b o e=>Heap.get?_push_of_some _ e,A3 a _,⟨_,Heap.get?_push_size _ rfl,rfl,rfl⟩,λ b hb=>?_,q⟩
 have e:b=s1.heap.objs.size:=by simpa using hb
 subst e
 exact I1.fpOk (Nat.le_refl _) (I1.hok.fresh (Nat.le_refl _))
theorem HR {l:Expr}{tl:TE} (hl:PE X l tl):PI X tg l (KI X.K tl):=by
 intro pins s σ H R I h
 refine cX (hl pins s σ H _ I h) λ v s1 ⟨x,H1,I1,r1,q1⟩=>?_
 obtain⟨a,e,⟨xs,hq⟩,q⟩:=q1
 subst e
 cases r1
 obtain⟨its,rv,p,hz⟩:=I1.tuple hq
 refine wpAny_pyIter_tuple (show s1.heap.IsTuple a its.toArray from p) ?_
 refine⟨s1.heap.objs.size,[s1.heap.objs.size],_,_,H1,rfl,I1.kept (t':=s1.toks) λ b o e=>Heap.get?_push_of_some _ e,wO a _,⟨_,Heap.get?_push_size _ rfl,rfl,rfl⟩,λ b hb=>?_,q⟩
 have e:b=s1.heap.objs.size:=by simpa using hb
 subst e
 exact I1.fpOk (Nat.le_refl _) (I1.hok.fresh (Nat.le_refl _))
theorem CF {pins:List (Addr×Obj)}{σ:St}{H:Hp}{s:Shared}{R:It->Hp->Prop}{E:Value->Shared->Prop}{lo hi:Int}{t u v:Tok}{tk:Nat} (I:Inv X pins σ H s) (h1 : -(2 ^ 62)<=lo) (h2:lo < 2 ^ 62) (h3 : -(2 ^ 62)<=hi) (h4:hi < 2 ^ 62)
  (q:R (G7 lo (hi - lo).toNat) H):wpAny (model X.prog X.w) X.A (pyIter (.ref s.heap.objs.size)) (PIE X pins σ tg R) E { s with heap:=s.heap.push { cls:=.type "range",data:=.fields #[.int lo t,.int hi u,.int 1 v] },toks:=tk }:=by
 refine wpAny_pyIter_range (IsRange.new ..) (small_one h1 h2 h3 h4) ?_
 have I1:Inv X pins σ H { s with heap:=s.heap.push { cls:=.type "range",data:=.fields #[.int lo t,.int hi u,.int 1 v] },toks:=tk }:=I.kept λ b o e=>Heap.get?_push_of_some _ e
 refine⟨(s.heap.push { cls:=.type "range",data:=.fields #[.int lo t,.int hi u,.int 1 v] }).objs.size,[(s.heap.push { cls:=.type "range",data:=.fields #[.int lo t,.int hi u,.int 1 v] }).objs.size],_,_,H,rfl,
  I1.kept (t':=tk) λ b o e=>Heap.get?_push_of_some _ e,wP _ lo (hi - lo).toNat,?_,λ b hb=>?_,q⟩
 ·have e1:lo+((0:Nat):Int) * 1=lo:=by simp
  have e2:(((hi - lo).toNat:Nat):Int) - ((0:Nat):Int)=Builtin.Range.rangeSize lo hi 1:=by rw[rangeSize_one];split <;> omega
  show IsRangeIter _ _ (lo+((0:Nat):Int) * 1) ((((hi - lo).toNat:Nat):Int) - ((0:Nat):Int)) 1
  rw[e1,e2]
  exact Heap.get?_push_size _ rfl
 ·have e:b=(s.heap.push { cls:=.type "range",data:=.fields #[.int lo t,.int hi u,.int 1 v] }).objs.size:=by simpa using hb
  subst e
  exact I1.fpOk (Nat.le_refl _) (I1.hok.fresh (Nat.le_refl _))
noncomputable def KJ (ta:TA):TI:=λ σ H R=>ta σ H λ vs H1=>∃ j:Int,vs=[.int j]/\-(2 ^ 62)<=j/\j < 2 ^ 62/\R (G7 0 j.toNat) H1
theorem bT {a:Expr}{ta:TA}{p pos:Pos} (hg:Gl X "range") (hm:X.mg "range" = none) (ha:PA X [a] ta) (hs:starEach [a] X.env=[(false,eval a X.env)]:=by rfl):PI X tg (.Call (.Name "range" p) [a] [] pos) (KJ ta):=by
 intro pins s σ H R I h
 refine Call_ (lS I hg hm boot_range (PyProof.Rows.callWith_type1 (cX (ha pos pins s σ H _ I h) λ us s1 ⟨vs,H1,I1,r1,q1⟩=>?_) hs rfl))
 obtain⟨j,e,q1,q2,q⟩:=q1
 subst e
 cases r1 with
 | cons r rr=>
  cases rr
  obtain⟨t,rfl⟩:=r
  exact call_range_1 (CF I1 (by omega) (by omega) q1 q2 (by simpa using q))
noncomputable def HA (wi:TI) (g:TG) (tb:TS):TS:=λ D σ H=>wi σ H λ J H1=>∃ W:Nat->Nat->St->Hp->Prop,(∃ m,W 0 m σ H1)/\∀ i m σ H,W i m σ H->
 (J.stop i H/\D.nx σ H)\/(J.go i H/\∃ N:St->Hp->Prop,(∀ Z H',N Z H'->∃ m',m' < m/\W (i+1) m' Z H')/\∀ x H',J.yld i H x H'->g x σ H' λ ba H2=>tb { D with nx:=N,ct:=N,bk:=D.nx } ba H2)
noncomputable def lO (fp:List Addr) (h:Heap):List (Addr×Obj):=fp.filterMap λ b=>(h.get? b).map λ o=>(b,o)
theorem eN {fp:List Addr}{h:Heap}{b:Addr}{o:Obj} (hb:b∈fp) (e:h.get? b=some o):(b,o)∈lO fp h:=List.mem_filterMap.mpr ⟨b,hb,by rw[e];rfl⟩
theorem AJ {fp:List Addr}{h:Heap}{p:Addr×Obj} (hp:p∈lO fp h):p.1∈fp/\h.get? p.1=some p.2:=by
 obtain⟨b,hb,e⟩:=List.mem_filterMap.mp hp
 cases q:h.get? b with
 | none=>rw[q] at e;cases e
 | some o=>
  rw[q] at e
  have e':(b,o)=p:=Option.some.inj e
  subst e'
  exact⟨hb,q⟩
theorem Inv.pinned {pins:List (Addr×Obj)}{σ:St}{H:Hp}{s:Shared}{fp:List Addr} (I:Inv X pins σ H s) (hf:∀ b∈fp,gN X pins H b) (ho:∀ b∈fp,∃ o,s.heap.get? b=some o/\∀ v,o.data≠.cell v):Inv X (pins++lO fp s.heap) σ H s:=
 I.pins_of λ p hp=>(List.mem_append.mp hp).elim (λ z=>I.pin p (List.mem_append_right _ z)) λ z=>by
  obtain⟨hb,e⟩:=AJ z
  obtain⟨f0,f1,f2,_⟩:=hf p.1 hb
  obtain⟨o,e',d⟩:=ho p.1 hb
  rw[e] at e';cases e'
  exact⟨e,f0,f1,f2,d⟩
theorem Inv.unpinned {pins pl:List (Addr×Obj)}{σ:St}{H:Hp}{s:Shared} (I:Inv X (pins++pl) σ H s):Inv X pins σ H s:=I.pins_of λ p hp=>I.pin p (List.mem_append_right _ (List.mem_append_left _ hp))
theorem dQ {iter:Expr}{body:List Stmt}{wi:TI}{g:TG}{tb:TS}{pos:Pos} (hp:PassesOwn (model X.prog X.w) X.A X.env X.xe) (hc:X.calm=true) (hi:PI X tg iter wi) (hg:PG X tg g) (hb:wL X body tb)
  (hs:∀ x,foldedSetIterable iter X.env x=pure x:=by intro _;rfl):PS X (.For tg iter body [] pos) (HA wi g tb):=by
 intro pins s σ H D I h
 refine wpAny_For (cX (hi pins s σ H _ I h) λ v s1 h1=>cX h1 λ itv s2 h2=>?_) hs
 obtain⟨it,fp,tn,J,H2,e,I2,T,st2,f2,W,⟨m0,w0⟩,turn⟩:=h2
 subst e
 have stat:∀ {H':Hp},(∀ b∈fp,H' b=none)->∀ b∈fp,gN X pins H' b:=λ hn b hb=>⟨hn b hb,(f2 b hb).2⟩
 refine codeAny_forLoop_any (λ n s'=>∃ i Z H',Inv X pins Z H' s'/\tn i s'.heap/\(∀ b∈fp,H' b=none)/\W i n Z H') ?_ m0 ⟨0,σ,H2,I2,st2,λ b hb=>(f2 b hb).1,w0⟩
 rintro n s3 ⟨i,ai,H3,I3,st3,fr3,w3⟩
 rcases turn i n ai H3 w3 with ⟨stop,qn⟩ | ⟨go,N,hN,step⟩
 ·refine wpAny_passesOwn hp (cX (T.done X rfl rfl rfl hc i pins s3 ai H3 X.xe I3 (stat fr3) st3 stop) λ r s4 ⟨hr,I4⟩=>?_)
  subst hr
  exact wpAny_execs_nil ⟨ai,H3,I4,qn⟩
 ·refine wpAny_passesOwn hp (cX (T.item X rfl rfl rfl hc i pins s3 ai H3 X.xe I3 (stat fr3) st3 go) λ r s4 ⟨u,hr,h4⟩=>?_)
  subst hr
  refine wpAny_passesOwn hp (cX h4 λ _ s5 ⟨x,H5,I5,r5,y5,st5,fr5⟩=>?_)
  have I5':=I5.pinned (stat fr5) (T.obj _ _ st5)
  refine wpAny_passesOwn hp (cX (hg _ s5 ai H5 x u _ I5' r5 (step x H5 y5)) λ _ s6 ⟨σ6,H6,I6,q6⟩=>?_)
  refine wpAny_passesOwn hp (cX (hb _ s6 σ6 H6 _ I6 q6) λ f s7 q7=>?_)
  have again:∀ {ck:St}{H7:Hp},Inv X (pins++lO fp s5.heap) ck H7 s7->N ck H7->∃ m,m < n/\∃ i Z H',Inv X pins Z H' s7/\tn i s7.heap/\(∀ b∈fp,H' b=none)/\W i m Z H':=λ {ck H7} I7 n7=>by
   obtain⟨m',hm,w7⟩:=hN ck H7 n7
   refine⟨m',hm,i+1,ck,H7,I7.unpinned,T.keep _ _ _ st5 λ b hb o e=>(I7.pin (b,o) (List.mem_append_right _ (List.mem_append_right _ (eN hb e)))).1,λ b hb=>?_,w7⟩
   obtain⟨o,e,d⟩:=T.obj _ _ st5 b hb
   exact (I7.pin (b,o) (List.mem_append_right _ (List.mem_append_right _ (eN hb e)))).2.1
  cases f with
  | next=>obtain⟨ck,H7,I7,n7⟩:=q7;exact again I7 n7
  | cont=>obtain⟨ck,H7,I7,n7⟩:=q7;exact again I7 n7
  | brk=>obtain⟨ck,H7,I7,q7⟩:=q7;exact⟨ck,H7,I7.unpinned,q7⟩
  | ret v=>obtain⟨x7,ck,H7,I7,r7,q7⟩:=q7;exact⟨x7,ck,H7,I7.unpinned,r7,q7⟩
end
theorem vX {K:PySem.W.Frag}{a:Addr}{xs:List V}{g:TG}{tb:TS}{D:Ends}{σ:St}{H:Hp} (Pv:Nat->St->Hp->Prop) (h0:Pv 0 σ H) (hl:∀ i σ H,i<=xs.length->Pv i σ H->bR K H a xs)
  (hs:∀ i x σ H,xs[i]? = some x->Pv i σ H->g x σ H λ ba H2=>tb { D with nx:=Pv (i+1),ct:=Pv (i+1),bk:=D.nx } ba H2) (hd:∀ σ H,Pv xs.length σ H->D.nx σ H) :
  ∃ W:Nat->Nat->St->Hp->Prop,(∃ m,W 0 m σ H)/\∀ i m σ H,W i m σ H->
   ((JA K a).stop i H/\D.nx σ H)\/((JA K a).go i H/\∃ N:St->Hp->Prop,(∀ Z H',N Z H'->∃ m',m' < m/\W (i+1) m' Z H')/\∀ x H',(JA K a).yld i H x H'->g x σ H' λ ba H2=>tb { D with nx:=N,ct:=N,bk:=D.nx } ba H2):=by
 refine⟨λ i m σ H=>m=xs.length - i/\i<=xs.length/\Pv i σ H,⟨xs.length,by simp,Nat.zero_le _,h0⟩,?_⟩
 rintro i m σ H ⟨rfl,hi,p⟩
 have q:=hl i σ H hi p
 by_cases hlt:i < xs.length
 ·refine .inr ⟨⟨xs,xs[i],q,by simp [hlt]⟩,Pv (i+1),λ Z H' p'=>⟨xs.length - (i+1),by omega,rfl,hlt,p'⟩,λ x H' y=>?_⟩
  obtain⟨e,y⟩:=y
  subst e
  exact hs i x σ _ (y xs q) p
 ·have e:i=xs.length:=by omega
  subst e
  exact .inl ⟨⟨xs,q,Nat.le_refl _⟩,hd σ H p⟩
theorem oS {K:PySem.W.Frag}{a:Addr}{xs:List V}{g:TG}{tb:TS}{D:Ends}{σ:St}{H:Hp} (Pv:Nat->St->Hp->Prop) (h0:Pv 0 σ H) (hl:∀ i σ H,i<=xs.length->Pv i σ H->bO K H a xs)
  (hs:∀ i x σ H,xs[i]? = some x->Pv i σ H->g x σ H λ ba H2=>tb { D with nx:=Pv (i+1),ct:=Pv (i+1),bk:=D.nx } ba H2) (hd:∀ σ H,Pv xs.length σ H->D.nx σ H) :
  ∃ W:Nat->Nat->St->Hp->Prop,(∃ m,W 0 m σ H)/\∀ i m σ H,W i m σ H->
   ((J9 K a).stop i H/\D.nx σ H)\/((J9 K a).go i H/\∃ N:St->Hp->Prop,(∀ Z H',N Z H'->∃ m',m' < m/\W (i+1) m' Z H')/\∀ x H',(J9 K a).yld i H x H'->g x σ H' λ ba H2=>tb { D with nx:=N,ct:=N,bk:=D.nx } ba H2):=by
 refine⟨λ i m σ H=>m=xs.length - i/\i<=xs.length/\Pv i σ H,⟨xs.length,by simp,Nat.zero_le _,h0⟩,?_⟩
 rintro i m σ H ⟨rfl,hi,p⟩
 have q:=hl i σ H hi p
 by_cases hlt:i < xs.length
 ·refine .inr ⟨⟨xs,xs[i],q,by simp [hlt]⟩,Pv (i+1),λ Z H' p'=>⟨xs.length - (i+1),by omega,rfl,hlt,p'⟩,λ x H' y=>?_⟩
  obtain⟨e,y⟩:=y
  subst e
  exact hs i x σ _ (y xs q) p
 ·have e:i=xs.length:=by omega
  subst e
  exact .inl ⟨⟨xs,q,Nat.le_refl _⟩,hd σ H p⟩
theorem dR {lo:Int}{n:Nat}{g:TG}{tb:TS}{D:Ends}{σ:St}{H:Hp} (Pv:Nat->St->Hp->Prop) (h0:Pv 0 σ H)
  (hs:∀ i σ H,i < n->Pv i σ H->g (.int (lo+i)) σ H λ ba H2=>tb { D with nx:=Pv (i+1),ct:=Pv (i+1),bk:=D.nx } ba H2) (hd:∀ σ H,Pv n σ H->D.nx σ H) :
  ∃ W:Nat->Nat->St->Hp->Prop,(∃ m,W 0 m σ H)/\∀ i m σ H,W i m σ H->
   ((G7 lo n).stop i H/\D.nx σ H)\/((G7 lo n).go i H/\∃ N:St->Hp->Prop,(∀ Z H',N Z H'->∃ m',m' < m/\W (i+1) m' Z H')/\∀ x H',(G7 lo n).yld i H x H'->g x σ H' λ ba H2=>tb { D with nx:=N,ct:=N,bk:=D.nx } ba H2):=by
 refine⟨λ i m σ H=>m=n - i/\i<=n/\Pv i σ H,⟨n,by simp,Nat.zero_le _,h0⟩,?_⟩
 rintro i m σ H ⟨rfl,hi,p⟩
 by_cases hlt:i < n
 ·refine .inr ⟨hlt,Pv (i+1),λ Z H' p'=>⟨n - (i+1),by omega,rfl,hlt,p'⟩,λ x H' y=>?_⟩
  obtain⟨e,y⟩:=y
  subst e y
  exact hs i σ _ hlt p
 ·have e:i=n:=by omega
  subst e
  exact .inl ⟨Nat.le_refl _,hd σ H p⟩
end L2
namespace L2
open PySem PySem.Spec PyProof.Rows
noncomputable abbrev R2:=V->V->Hp->VK->Prop
noncomputable def iU (X:Cx) (f:Value->Value->Sem Value) (r:R2):Prop:=
 ∀ (pins:List (Addr×Obj)) (s:Shared) (σ:St) (H:Hp) (x y:V) (v u:Value) (Q:VK),Inv X pins σ H s->bL x v->bL y u->r x y H Q->
  wpAny (model X.prog X.w) X.A (f v u) (EP X pins σ Q) X.xe s
noncomputable def UnR (X:Cx) (f:Value->Sem Value) (r:V->Hp->VK->Prop):Prop:=
 ∀ (pins:List (Addr×Obj)) (s:Shared) (σ:St) (H:Hp) (x:V) (v:Value) (Q:VK),Inv X pins σ H s->bL x v->r x H Q->
  wpAny (model X.prog X.w) X.A (f v) (EP X pins σ Q) X.xe s
noncomputable def g7 (X:Cx) (f:Value) (r:List V->Hp->VK->Prop):Prop:=
 ∀ (pins:List (Addr×Obj)) (s:Shared) (σ:St) (H:Hp) (xs:List V) (us:List Value) (Q:VK),Inv X pins σ H s->bY xs us->r xs H Q->
  wpAny (model X.prog X.w) X.A (call f us) (EP X pins σ Q) X.xe s
noncomputable def iG (r:R2) (ta tb:TE):TE:=λ σ H Q=>ta σ H λ x H1=>tb σ H1 λ y H2=>r x y H2 Q
noncomputable def tUn (r:V->Hp->VK->Prop) (ta:TE):TE:=λ σ H Q=>ta σ H λ x H1=>r x H1 Q
noncomputable def rI (C:Int->Int->Prop) (g:Int->Int->V):R2:=λ x y H Q=>∃ i j,x=.int i/\y=.int j/\C i j/\Q (g i j) H
noncomputable def sQ (g:Int->Int->V):R2:=λ x y H Q=>∃ i j,x=.int i/\y=.int j/\Q (g i j) H
noncomputable def rU (g:Int->V):V->Hp->VK->Prop:=λ x H Q=>∃ i,x=.int i/\Q (g i) H
section
variable {X:Cx}{a b c:Expr}{ta tb tc:TE}{pos:Pos}
theorem IW (ha:PE X a ta) (hb:PE X b tb) {pins:List (Addr×Obj)}{s:Shared}{σ:St}{H:Hp}{R:V->V->Hp->Prop} (I:Inv X pins σ H s)
  (h:ta σ H λ x H1=>tb σ H1 λ y H2=>R x y H2) {Q:Value->Shared->Prop}{f:Value->Value->Sem Value}
  (hf:∀ v u s2 x y H2,Inv X pins σ H2 s2->bL x v->bL y u->R x y H2->wpAny (model X.prog X.w) X.A (f v u) Q X.xe s2) :
  wpAny (model X.prog X.w) X.A (eval a X.env) (λ v ag=>wpAny (model X.prog X.w) X.A (eval b X.env) (λ u bj=>wpAny (model X.prog X.w) X.A (f v u) Q X.xe bj) X.xe ag) X.xe s:=by
 refine cX (ha pins s σ H _ I h) λ v s1 ⟨x,H1,I1,r1,q1⟩=>?_
 refine cX (hb pins s1 σ H1 _ I1 q1) λ u s2 ⟨y,H2,I2,r2,q2⟩=>?_
 exact hf v u s2 x y H2 I2 r1 r2 q2
theorem aW {op:Operator}{r:R2} (ho:iU X (binaryOp op) r) (ha:PE X a ta) (hb:PE X b tb):PE X (.BinOp a op b pos) (iG r ta tb):=by
 intro pins s σ H Q I h
 exact wpAny_BinOp (IW ha hb I h λ v u s2 x y H2 I2 rx ry q=>ho pins s2 σ H2 x y v u Q I2 rx ry q)
theorem GH {op:UnaryOp}{r:V->Hp->VK->Prop} (ho:UnR X (unaryOp op) r) (ha:PE X a ta):PE X (.UnaryOp op a pos) (tUn r ta):=by
 intro pins s σ H Q I h
 exact UnaryOp_ (cX (ha pins s σ H _ I h) λ v s1 ⟨x,H1,I1,r1,q1⟩=>ho pins s1 σ H1 x v Q I1 r1 q1)
theorem KC {f:Value->Value->Sem Value}{C:Int->Int->Prop}{g:Int->Int->Int}
  (rule:∀ (i j:Int) (t u:Tok) (s:Shared) (Q:Value->Shared->Prop) (E:Value->Shared->Prop),C i j->Q (.int (g i j) s.toks) { s with toks:=s.toks+1 }->wpAny (model X.prog X.w) X.A (f (.int i t) (.int j u)) Q E s) :
  iU X f (rI C λ i j=>.int (g i j)):=by
 intro pins s σ H x y v u Q I rx ry h
 obtain⟨i,j,rfl,rfl,hc,q⟩:=h
 obtain⟨t,rfl⟩:=rx
 obtain⟨t',rfl⟩:=ry
 exact rule i j t t' s _ _ hc ⟨.int (g i j),H,I.tok _,⟨_,rfl⟩,q⟩
theorem KB {f:Value->Value->Sem Value}{g:Int->Int->Int}
  (rule:∀ (i j:Int) (t u:Tok) (s:Shared) (Q:Value->Shared->Prop) (E:Value->Shared->Prop),Q (.int (g i j) s.toks) { s with toks:=s.toks+1 }->wpAny (model X.prog X.w) X.A (f (.int i t) (.int j u)) Q E s) :
  iU X f (sQ λ i j=>.int (g i j)):=by
 intro pins s σ H x y v u Q I rx ry h
 obtain⟨i,j,rfl,rfl,q⟩:=h
 obtain⟨t,rfl⟩:=rx
 obtain⟨t',rfl⟩:=ry
 exact rule i j t t' s _ _ ⟨.int (g i j),H,I.tok _,⟨_,rfl⟩,q⟩
theorem FJ {f:Value->Value->Sem Value}{g:Int->Int->Bool}
  (rule:∀ (i j:Int) (t u:Tok) (s:Shared) (Q:Value->Shared->Prop) (E:Value->Shared->Prop),Q (.bool (g i j)) s->wpAny (model X.prog X.w) X.A (f (.int i t) (.int j u)) Q E s) :
  iU X f (sQ λ i j=>.bl (g i j)):=by
 intro pins s σ H x y v u Q I rx ry h
 obtain⟨i,j,rfl,rfl,q⟩:=h
 obtain⟨t,rfl⟩:=rx
 obtain⟨t',rfl⟩:=ry
 exact rule i j t t' s _ _ ⟨.bl (g i j),H,I,rfl,q⟩
noncomputable def G8 (i j:Int):Prop:=0 < j/\j < 1073741824
noncomputable def L0 (i j:Int):Prop:=0<=j/\j<=1000000/\i.natAbs < 2 ^ 64
noncomputable def wJ (i j:Int):Prop:=(-(2 ^ 64) < i/\i < 2 ^ 64)\/(-(2 ^ 64) < j/\j < 2 ^ 64)
theorem wJ.ok {i j:Int} (h:wJ i j):IntMulOk i j:=by
 rcases h with ⟨h1,h2⟩ | ⟨h1,h2⟩
 ·exact .of_left (intBits_le_64 h1 h2)
 ·exact .of_right (intBits_le_64 h1 h2)
theorem cO:iU X (binaryOp .Add) (sQ λ i j=>.int (i+j)):=KB λ _ _ _ _ _ _ _ q=>add_int q
theorem gX:iU X (binaryOp .Sub) (sQ λ i j=>.int (i - j)):=KB λ _ _ _ _ _ _ _ q=>sub_int q
theorem gE:iU X (binaryOp .Mult) (rI wJ λ i j=>.int (i * j)):=KC λ _ _ _ _ _ _ _ hc q=>mul_int q hc.ok
theorem gS:iU X (binaryOp .FloorDiv) (rI G8 λ i j=>.int (i / j)):=KC λ i j _ _ _ _ _ hc q=>by
 have h1:(0:Int) < j:=hc.1
 have h2:j < 1073741824:=hc.2
 exact floordiv_int (by omega) (by rw[Int.fdiv_eq_ediv_of_nonneg i (by omega)];exact q) (.inl (PyProof.noPylong_small (by omega)))
theorem lQ:iU X (binaryOp .Mod) (rI (λ _ j=>0 < j) λ i j=>.int (i % j)):=KC λ i j _ _ _ _ _ hc q=>by
 have h1:(0:Int) < j:=hc
 exact mod_int' (by omega) (by rw[Int.fmod_eq_emod_of_nonneg i (by omega)];exact q)
theorem CY:iU X (binaryOp .Pow) (rI L0 λ i j=>.int (i ^ j.toNat)):=KC λ _ _ _ _ _ _ _ hc q=>pow_int_small hc.1 hc.2.1 hc.2.2 q
theorem unI {f:Value->Sem Value}{g:Int->Int}
  (rule:∀ (i:Int) (t:Tok) (s:Shared) (Q:Value->Shared->Prop) (E:Value->Shared->Prop),Q (.int (g i) s.toks) { s with toks:=s.toks+1 }->wpAny (model X.prog X.w) X.A (f (.int i t)) Q E s) :
  UnR X f (rU λ i=>.int (g i)):=by
 intro pins s σ H x v Q I rx h
 obtain⟨i,rfl,q⟩:=h
 obtain⟨t,rfl⟩:=rx
 exact rule i t s _ _ ⟨.int (g i),H,I.tok _,⟨_,rfl⟩,q⟩
theorem BM:UnR X (unaryOp .USub) (rU λ i=>.int (-i)):=unI λ _ _ _ _ _ q=>neg_int q
end
noncomputable def ES:V->V->Bool
 | .non,.non=>true | .non,.int _=>true | .int _,.non=>true | .non,.bl _=>true | .bl _,.non=>true | .non,.str _=>true | .str _,.non=>true
 | .int _,.int _=>true | .bl _,.bl _=>true | .str _,.str _=>true | .byt _,.byt _=>true
 | .int _,.str _=>true | .str _,.int _=>true | .bl _,.str _=>true | .str _,.bl _=>true
 | _,_=>false
noncomputable def rEq:R2:=λ x y H Q=>ES x y=true/\Q (.bl (decide (x=y))) H
noncomputable def rNe:R2:=λ x y H Q=>ES x y=true/\Q (.bl (!decide (x=y))) H
theorem zP {i j:Int}:decide (V.int i=V.int j)=(i == j):=by
 rw[Bool.eq_iff_iff]
 simp
theorem E1 {i j:Bool}:decide (V.bl i=V.bl j)=(i == j):=by
 rw[Bool.eq_iff_iff]
 simp
theorem zO {i j:Str}:decide (V.str i=V.str j)=(i == j):=by
 rw[Bool.eq_iff_iff]
 simp
theorem zQ {i j:Array UInt8}:decide (V.byt i=V.byt j)=(i.toList == j.toList):=by
 rw[Bool.eq_iff_iff]
 cases i
 cases j
 simp
section
variable {X:Cx}{a b c:Expr}{ta tb tc:TE}{pos:Pos}
theorem cJ {pins:List (Addr×Obj)}{σ:St}{H:Hp}{s:Shared}{Q:VK}{k k':Bool} (I:Inv X pins σ H s) (q:Q (.bl k) H) (e:k=k'):EP X pins σ Q (.bool k') s:=by
 subst e
 exact⟨.bl k,H,I,rfl,q⟩
theorem sT:iU X (compareOp .Eq) rEq:=by
 intro pins s σ H x y v u Q I rx ry h
 obtain⟨hs,q⟩:=h
 cases x with
 | non=>
  cases rx
  cases y with
  | non=>cases ry;exact PySem.EqNone.eq_none_none (cJ I q (by simp))
  | bl j=>cases ry;exact PySem.EqNone.eq_none_bool (cJ I q (by simp))
  | int j=>obtain⟨t',rfl⟩:=ry;exact PySem.EqNone.eq_none_int (cJ I q (by simp))
  | str j=>obtain⟨t',rfl⟩:=ry;exact PySem.EqNone.eq_none_str (cJ I q (by simp))
  | _=>exact absurd (show false=true from hs) Bool.false_ne_true
 | bl i=>
  cases rx
  cases y with
  | non=>cases ry;exact PySem.EqNone.eq_bool_none (cJ I q (by simp))
  | bl j=>cases ry;exact eq_bool (cJ I q E1)
  | str j=>obtain⟨t',rfl⟩:=ry;exact PySem.EqMixed.eq_bool_str (cJ I q (by simp))
  | _=>exact absurd (show false=true from hs) Bool.false_ne_true
 | int i=>
  obtain⟨t,rfl⟩:=rx
  cases y with
  | non=>cases ry;exact PySem.EqNone.eq_int_none (cJ I q (by simp))
  | int j=>obtain⟨t',rfl⟩:=ry;exact eq_int (cJ I q zP)
  | str j=>obtain⟨t',rfl⟩:=ry;exact PySem.EqMixed.eq_int_str (cJ I q (by simp))
  | _=>exact absurd (show false=true from hs) Bool.false_ne_true
 | str i=>
  obtain⟨t,rfl⟩:=rx
  cases y with
  | non=>cases ry;exact PySem.EqNone.eq_str_none (cJ I q (by simp))
  | bl j=>cases ry;exact PySem.EqMixed.eq_str_bool (cJ I q (by simp))
  | int j=>obtain⟨t',rfl⟩:=ry;exact PySem.EqMixed.eq_str_int (cJ I q (by simp))
  | str j=>obtain⟨t',rfl⟩:=ry;exact eq_str (cJ I q zO)
  | _=>exact absurd (show false=true from hs) Bool.false_ne_true
 | byt i=>
  obtain⟨t,rfl⟩:=rx
  cases y with
  | byt j=>obtain⟨t',rfl⟩:=ry;exact PySem.W.eq_bytes (cJ I q zQ)
  | _=>exact absurd (show false=true from hs) Bool.false_ne_true
 | _=>cases y <;> exact absurd (show false=true from hs) Bool.false_ne_true
theorem GJ:iU X (compareOp .NotEq) rNe:=by
 intro pins s σ H x y v u Q I rx ry h
 obtain⟨hs,q⟩:=h
 cases x with
 | non=>
  cases rx
  cases y with
  | non=>cases ry;exact PySem.EqNone.ne_none_none (cJ I q (by simp))
  | bl j=>cases ry;exact PySem.EqNone.ne_none_bool (cJ I q (by simp))
  | int j=>obtain⟨t',rfl⟩:=ry;exact PySem.EqNone.ne_none_int (cJ I q (by simp))
  | str j=>obtain⟨t',rfl⟩:=ry;exact PySem.EqNone.ne_none_str (cJ I q (by simp))
  | _=>exact absurd (show false=true from hs) Bool.false_ne_true
 | bl i=>
  cases rx
  cases y with
  | non=>cases ry;exact PySem.EqNone.ne_bool_none (cJ I q (by simp))
  | bl j=>cases ry;exact ne_bool (cJ I q (congrArg not E1))
  | str j=>obtain⟨t',rfl⟩:=ry;exact PySem.EqMixed.ne_bool_str (cJ I q (by simp))
  | _=>exact absurd (show false=true from hs) Bool.false_ne_true
 | int i=>
  obtain⟨t,rfl⟩:=rx
  cases y with
  | non=>cases ry;exact PySem.EqNone.ne_int_none (cJ I q (by simp))
  | int j=>obtain⟨t',rfl⟩:=ry;exact ne_int (cJ I q (congrArg not zP))
  | str j=>obtain⟨t',rfl⟩:=ry;exact PySem.EqMixed.ne_int_str (cJ I q (by simp))
  | _=>exact absurd (show false=true from hs) Bool.false_ne_true
 | str i=>
  obtain⟨t,rfl⟩:=rx
  cases y with
  | non=>cases ry;exact PySem.EqNone.ne_str_none (cJ I q (by simp))
  | bl j=>cases ry;exact PySem.EqMixed.ne_str_bool (cJ I q (by simp))
  | int j=>obtain⟨t',rfl⟩:=ry;exact PySem.EqMixed.ne_str_int (cJ I q (by simp))
  | str j=>obtain⟨t',rfl⟩:=ry;exact ne_str (cJ I q (congrArg not zO))
  | _=>exact absurd (show false=true from hs) Bool.false_ne_true
 | byt i=>
  obtain⟨t,rfl⟩:=rx
  cases y with
  | byt j=>obtain⟨t',rfl⟩:=ry;exact PySem.W.ne_bytes (cJ I q (congrArg not zQ))
  | _=>exact absurd (show false=true from hs) Bool.false_ne_true
 | _=>cases y <;> exact absurd (show false=true from hs) Bool.false_ne_true
theorem vL:iU X (compareOp .Lt) (sQ λ i j=>.bl (decide (i < j))):=FJ λ _ _ _ _ _ _ _ q=>lt_int q
theorem GK:iU X (compareOp .LtE) (sQ λ i j=>.bl (decide (i<=j))):=FJ λ _ _ _ _ _ _ _ q=>le_int q
theorem mS:iU X (compareOp .Gt) (sQ λ i j=>.bl (decide (j < i))):=FJ λ _ _ _ _ _ _ _ q=>gt_int q
theorem GL:iU X (compareOp .GtE) (sQ λ i j=>.bl (decide (j<=i))):=FJ λ _ _ _ _ _ _ _ q=>ge_int q
theorem xF:iU X (compareOp .Is) (λ x y H Q=>y=.non/\Q (.bl (decide (x=.non))) H):=by
 intro pins s σ H x y v u Q I rx ry h
 obtain⟨rfl,q⟩:=h
 cases ry
 refine is_none_gen (cJ I q ?_)
 cases x <;> first
  | (cases rx;rfl)
  | (obtain⟨t,rfl⟩:=rx;rfl)
theorem cP (b:Expr) {op:CmpOp} (h:op≠.In:=by decide) (h2:op≠.NotIn:=by decide):behindInMarks op b=false:=by
 have e1:(op == CmpOp.In)=false:=by cases op <;> first | rfl | exact absurd rfl h
 have e2:(op == CmpOp.NotIn)=false:=by cases op <;> first | rfl | exact absurd rfl h2
 cases b <;> simp [behindInMarks,e1,e2]
theorem iO {op:CmpOp}{r:R2} (ho:iU X (compareOp op) r) (ha:PE X a ta) (hb:PE X b tb) (hm:behindInMarks op b=false):PE X (.Compare a [op] [b] pos) (iG r ta tb):=by
 intro pins s σ H Q I h
 exact wpAny_Compare1 (IW ha hb I h λ v u s2 x y H2 I2 rx ry q=>ho pins s2 σ H2 x y v u Q I2 rx ry q) hm
noncomputable def yE (t:TE):TT:=λ σ H Q=>t σ H λ x H'=>∃ k,x=.bl k/\Q k H'
theorem cH {op:CmpOp}{r:R2} (ho:iU X (compareOp op) r) (ha:PE X a ta) (hb:PE X b tb) (hm:behindInMarks op b=false):PT X (.Compare a [op] [b] pos) (yE (iG r ta tb)):=by
 intro pins s σ H Q I h
 refine wpAny_isTrue_Compare1 (cX (ha pins s σ H _ I h) λ v s1 ⟨x,H1,I1,r1,q1⟩=>cX (hb pins s1 σ H1 _ I1 q1) λ u s2 ⟨y,H2,I2,r2,q2⟩=>
  cX (ho pins s2 σ H2 x y v u _ I2 r1 r2 q2) λ c s3 ⟨z,H3,I3,r3,k,e,q3⟩=>?_) hm
 subst e
 cases r3
 exact wpAny_truthy_bool ⟨H3,I3,q3⟩
noncomputable def HE (r r':R2) (ta tb tc:TE):TE:=λ σ H Q=>ta σ H λ x H1=>tb σ H1 λ y H2=>r x y H2 λ z H3=>∃ k,z=.bl k/\
 (if k=true then tc σ H3 λ w' H4=>r' y w' H4 Q else Q (.bl false) H3)
theorem CV {op op':CmpOp}{r r':R2} (ho:iU X (compareOp op) r) (ho':iU X (compareOp op') r') (ha:PE X a ta) (hb:PE X b tb) (hc:PE X c tc)
  (hm:lastMarks [op,op'] [b,c]=false:=by with_unfolding_all rfl):PE X (.Compare a [op,op'] [b,c] pos) (HE r r' ta tb tc):=by
 intro pins s σ H Q I h
 refine Compare_chain (cX (ha pins s σ H _ I h) λ v s1 ⟨x,H1,I1,r1,q1⟩=>chain_link (cX (hb pins s1 σ H1 _ I1 q1) λ u s2 ⟨y,H2,I2,r2,q2⟩=>
  cX (ho pins s2 σ H2 x y v u _ I2 r1 r2 q2) λ d s3 ⟨z,H3,I3,r3,k,e,q3⟩=>?_)) hm
 subst e
 cases r3
 refine wpAny_truthy_bool ?_
 cases k with
 | false=>exact ite_ff ⟨.bl false,H3,I3,rfl,q3⟩
 | true=>exact ite_tt (chain_last (cX (hc pins s3 σ H3 _ I3 q3) λ w' s4 ⟨z',H4,I4,r4,q4⟩=>ho' pins s4 σ H4 y z' u w' Q I4 r2 r4 q4))
theorem qN:(sizeLine:Nat) < 2 ^ 63:=by rw[sizeLine_eq];decide
theorem oY {x:V}{us:List Value} (r:bY [x] us):∃ u,us=[u]/\bL x u:=by
 cases r with
 | cons r1 r2=>cases r2;exact⟨_,rfl,r1⟩
theorem yA {x y:V}{us:List Value} (r:bY [x,y] us):∃ u w',us=[u,w']/\bL x u/\bL y w':=by
 cases r with
 | cons r1 r2=>
  cases r2 with
  | cons r3 r4=>cases r4;exact⟨_,_,rfl,r1,r3⟩
theorem iD (hc:X.calm=true):g7 X (.builtin "max") (λ xs H Q=>∃ i j,xs=[.int i,.int j]/\Q (.int (if j > i then j else i)) H):=by
 intro pins s σ H xs us Q I r h
 obtain⟨i,j,rfl,q⟩:=h
 obtain⟨u,w',rfl,⟨t,rfl⟩,⟨t',rfl⟩⟩:=yA r
 refine max_two_ints (I.ok.hd hc) λ h' tk k=>⟨_,H,I.kept k,?_,q⟩
 by_cases hj:j > i
 ·rw[if_pos hj,if_pos hj];exact⟨_,rfl⟩
 ·rw[if_neg hj,if_neg hj];exact⟨_,rfl⟩
theorem B7 (hc:X.calm=true):g7 X (.builtin "min") (λ xs H Q=>∃ i j,xs=[.int i,.int j]/\Q (.int (if j < i then j else i)) H):=by
 intro pins s σ H xs us Q I r h
 obtain⟨i,j,rfl,q⟩:=h
 obtain⟨u,w',rfl,⟨t,rfl⟩,⟨t',rfl⟩⟩:=yA r
 refine min_two_ints (I.ok.hd hc) λ h' tk k=>⟨_,H,I.kept k,?_,q⟩
 by_cases hj:j < i
 ·rw[if_pos hj,if_pos hj];exact⟨_,rfl⟩
 ·rw[if_neg hj,if_neg hj];exact⟨_,rfl⟩
theorem iE:g7 X (.type "int") (λ xs H Q=>(∃ i,xs=[.int i]/\Q (.int i) H)\/∃ k,xs=[.bl k]/\Q (.int (if k then 1 else 0)) H):=by
 intro pins s σ H xs us Q I r h
 rcases h with ⟨i,rfl,q⟩ | ⟨k,rfl,q⟩
 ·obtain⟨u,rfl,t,rfl⟩:=oY r
  exact call_int_int ⟨.int i,H,I,⟨_,rfl⟩,q⟩
 ·obtain⟨u,rfl,r1⟩:=oY r
  cases r1
  exact call_int_bool ⟨.int (if k then 1 else 0),H,I.tok _,⟨_,rfl⟩,q⟩
theorem wC:g7 X (.builtin "divmod") (λ xs H Q=>∃ i j,xs=[.int i,.int j]/\G8 i j/\∀ p,H p=none->Q (.ref p) (upd H p (.tup [.int (i / j),.int (i % j)]))):=by
 intro pins s σ H xs us Q I r h
 obtain⟨i,j,rfl,⟨h1,h2⟩,q⟩:=h
 obtain⟨u,w',rfl,⟨t,rfl⟩,⟨t',rfl⟩⟩:=yA r
 refine divmod_int (by omega) ?_ (.inl (PyProof.noPylong_small (by omega)))
 rw[Int.fdiv_eq_ediv_of_nonneg i (by omega),Int.fmod_eq_emod_of_nonneg i (by omega)]
 have hn:H s.heap.objs.size=none:=I.hok.fresh (Nat.le_refl _)
 refine⟨.ref s.heap.objs.size,_,?_,rfl,q _ hn⟩
 refine I.laid (λ b o e=>Heap.get?_push_of_some _ e) (Nat.le_refl _) ⟨by simp only [List.length_cons,List.length_nil];rw[sizeLine_eq];decide,[.int (i / j) s.toks,.int (i % j) (s.toks+1)],.cons ⟨_,rfl⟩ (.cons ⟨_,rfl⟩ .nil),?_⟩
 exact⟨_,Heap.get?_push_size s.heap rfl,rfl,0,rfl⟩
end
end L2
namespace L2
open PySem PySem.Spec PyProof.Rows
structure ObjM (h:Heap) (x dx C:Addr) (mA:Str->Option Value):Prop where
 obj:h.get? x=some (PySem.W.instObj C dx)
 ns:h.Ns1 dx mA
 ne:dx≠x
theorem AL {h:Heap}{dx:Addr}{mA:Str->Option Value} (n:h.Ns1 dx mA):∃ od,h.get? dx=some od/\∀ name,PySem.W.lookIn name od=some (mA name):=by
 obtain⟨o,es,ep,ho,hd,hk,_,hm⟩:=n
 refine⟨o,ho,λ name=>?_⟩
 have e:=hm name
 unfold nsFind findBy at e
 rw[<- Array.find?_toList] at e
 unfold PySem.W.lookIn
 rw[hd]
 dsimp only
 split
 ·rename_i y q
  rw[q] at e
  exact congrArg some e
 ·rename_i q
  rw[q] at e
  have a:es.toList.any (·.refKey)=false:=by
   rw[List.any_eq_false]
   intro y hy
   obtain⟨z,t,hkey⟩:=hk y (Array.mem_toList_iff.mp hy)
   simp [DictEntry.refKey,hkey]
  have a':¬ es.toList.any (·.refKey)=true:=by rw[a];exact Bool.false_ne_true
  rw[if_neg a']
  exact congrArg some e
theorem ObjM.look {h:Heap}{x dx C:Addr}{mA:Str->Option Value} (I:ObjM h x dx C mA):∃ od,PySem.W.InstAt h x (PySem.W.instObj C dx) C (some od)/\∀ name,PySem.W.lookIn name od=some (mA name):=
 let ⟨od,ho,hl⟩:=AL I.ns
 ⟨od,⟨I.obj,rfl,rfl,ho⟩,hl⟩
section
variable {prog:Program}{w:World}{A:Around}{E:Value->Shared->Prop}{s:Shared}{K:PySem.W.Frag}{x dx C f:Addr}{mA:Str->Option Value}{name:Str}{v:Value}
end
theorem lX.some_of {v:V}{o:Option Value} (r:lX (some v) o):∃ u,o=some u/\bL v u:=by
 cases o with
 | none=>exact (show False from r).elim
 | some u=>exact⟨u,rfl,r⟩
section
variable {P:Program}{w:World}{H H':Hp}{h h':Heap}{a C dx:Addr}{fs fs':List (Str×V)}
theorem FU (hok:lK P w H h) (e:H a=some (.ins C dx fs)):∃ mA,ObjM h a dx C mA/\(∀ f,lX (fs.lookup f) (mA f))/\PySem.Within mA (fs.map (·.1))/\fs.length<=1000/\H dx=some (.own a):=by
 obtain⟨d,z,ne,ob,mA,n,r,q⟩:=(show d4 P w H h a (.ins C dx fs) from hok a _ e)
 exact⟨mA,⟨ob,n,ne⟩,r,q,z,d⟩
end
structure Cls (K:PySem.W.Frag) (C:Addr):Prop where
 pg:PySem.W.plainGet K C Str.empty=true
 hd:PySem.W.hasDictIn K C=true
 po:PySem.W.plainOver K C=true
 sa:PySem.W.findIn K (.ref C) "__setattr__" = some (some (.builtin "object.__setattr__"))
theorem Cls.get {K:PySem.W.Frag}{C:Addr} (c:Cls K C) (f:Str):PySem.W.plainGet K C f=true:=c.pg
section
variable {X:Cx}{pins:List (Addr×Obj)}{σ:St}{H:Hp}{s:Shared}{a C dx:Addr}{fs:List (Str×V)}{f:Str}{v:V}{A:Around}{E:Value->Shared->Prop}
end
section
variable {X:Cx}{o e value:Expr}{f:Str}{pos pos' tpos:Pos}{ta tv:TE}
end
section
variable {X:Cx}{pins:List (Addr×Obj)}{σ:St}{H:Hp}{s:Shared}{A:Around}{E:Value->Shared->Prop}{Q:Value->Shared->Prop}{c:Value}{b:Bool}
inductive TyOf (K:PySem.W.Frag) (H:Hp):V->Value->Prop where
 | non:TyOf K H .non (.type "NoneType")
 | bl (x:Bool):TyOf K H (.bl x) (.type "bool")
 | int (i:Int):TyOf K H (.int i) (.type "int")
 | str (x:Str):TyOf K H (.str x) (.type "str")
 | flt (x:UInt64):TyOf K H (.flt x) (.type "float")
 | lst {a:Addr}{xs:List V} (e:H a=some (.lst xs)):TyOf K H (.ref a) (.type "list")
 | frz {a:Addr}{o:Obj}{xs:List V} (e:H a=some (.frz o (.lst xs))):TyOf K H (.ref a) (.type "list")
 | tup {a:Addr}{xs:List V} (e:H a=some (.tup xs)):TyOf K H (.ref a) (.type "tuple")
 | dK {a:Addr}{kvs:List (eU×V)} (e:H a=some (.dK kvs)):TyOf K H (.ref a) (.type "dict")
 | dT {a:Addr}{kvs:List (List eU×V)} (e:H a=some (.dT kvs)):TyOf K H (.ref a) (.type "dict")
 | ins {a C dx:Addr}{fs:List (Str×V)} (e:H a=some (.ins C dx fs)) (cl:Cls K C) (ha:PySem.W.findIn K (.ref C) "__class__" = some (some (.builtin "object.__class__")))
   (hn:PySem.W.specialIn K (.builtin "object.__class__") "__get__" = some (some (.builtin "getset_descriptor.__get__"))) (htk:PySem.W.takesIn K (.builtin "object.__class__")=some true)
   (hm:PySem.W.mroIn K C (.type "object")=some true):TyOf K H (.ref a) (.ref C)
theorem AQ {x:V}{u t:Value} (I:Inv X pins σ H s) (rx:bL x u) (ty:TyOf X.K H x t) (e:PySem.W.kitOne X.K t c=some b) (h:∀ tk,Q (.bool b) { s with toks:=tk }) :
  wpAny (model X.prog X.w) A (call (.builtin "isinstance") [u,c]) Q E s:=by
 cases ty with
 | non=>cases (show u=Value.none from rx);exact PySem.W.kia_one PySem.W.kitx_none I.kIn True.intro e (λ z=>nomatch z) h
 | bl y=>cases (show u=Value.bool y from rx);exact PySem.W.kia_one PySem.W.kitx_bool I.kIn True.intro e (λ z=>nomatch z) h
 | int i=>obtain⟨t,q⟩:=(show ∃ t,u=Value.int i t from rx);cases q;exact PySem.W.kia_one PySem.W.kitx_int I.kIn True.intro e (λ z=>nomatch z) h
 | str y=>obtain⟨t,q⟩:=(show ∃ t,u=Value.str y t from rx);cases q;exact PySem.W.kia_one PySem.W.kitx_str I.kIn True.intro e (λ z=>nomatch z) h
 | flt y=>obtain⟨t,q⟩:=(show ∃ t,u=Value.float y t from rx);cases q;exact PySem.W.kia_one PySem.W.kitx_float I.kIn True.intro e (λ z=>nomatch z) h
 | @lst a xs ea=>
  cases (show u=Value.ref a from rx)
  obtain⟨_,_,n,_,h1⟩:=(show d4 X.prog X.w H s.heap a (.lst xs) from I.hok a _ ea)
  exact PySem.W.kia_one PySem.W.kitx_list I.kIn ⟨_,h1,rfl⟩ e (λ z=>nomatch z) h
 | @frz a ob xs ea=>
  cases (show u=Value.ref a from rx)
  obtain⟨_,_,_,n,_,h1⟩:=(show d4 X.prog X.w H s.heap a (.frz ob (.lst xs)) from I.hok a _ ea)
  exact PySem.W.kia_one PySem.W.kitx_list I.kIn ⟨_,h1,rfl⟩ e (λ z=>nomatch z) h
 | @tup a xs ea=>
  cases (show u=Value.ref a from rx)
  obtain⟨_,_,_,p⟩:=(show d4 X.prog X.w H s.heap a (.tup xs) from I.hok a _ ea)
  obtain⟨o,h1,h2,_⟩:=p
  exact PySem.W.kia_one PySem.W.kitx_tuple I.kIn ⟨o,h1,h2⟩ e (λ z=>nomatch z) h
 | @dK a kvs ea=>
  cases (show u=Value.ref a from rx)
  obtain⟨_,_,vs,_,p⟩:=(show d4 X.prog X.w H s.heap a (.dK kvs) from I.hok a _ ea)
  obtain⟨o,es,ep,h1,h2,_⟩:=p
  exact PySem.W.kia_one PySem.W.kitx_dict I.kIn ⟨o,h1,h2.1⟩ e (λ z=>nomatch z) h
 | @dT a kvs ea=>
  cases (show u=Value.ref a from rx)
  obtain⟨_,_,xs,_,o,es,ep,h1,h2,_⟩:=(show d4 X.prog X.w H s.heap a (.dT kvs) from I.hok a _ ea)
  exact PySem.W.kia_one PySem.W.kitx_dict I.kIn ⟨o,h1,h2.1⟩ e (λ z=>nomatch z) h
 | @ins a C dx fs ea cl ha hn htk hm=>
  cases (show u=Value.ref a from rx)
  obtain⟨mA,O,_⟩:=FU I.hok ea
  obtain⟨od,J,_⟩:=O.look
  exact PySem.W.kia_one (PySem.W.kitx_own (cl.get _) cl.hd ha hn htk hm) I.kIn J e (λ z=>nomatch z) h
end
end L2
namespace L2
open PySem PySem.Spec PyProof.Rows
structure Room (k:Nat) (A:Around):Prop where
 hd:A.handled=none
 dp:A.depth+3 * k+5 < recursionLimit
 un:A.units+16 * k+200 < cLine
theorem Room.mono {j k:Nat}{A:Around} (r:Room k A) (h:j<=k):Room j A:=⟨r.hd,by have:=r.dp;omega,by have:=r.un;omega⟩
theorem Room.deeper {k:Nat}{A:Around} (r:Room (k+1) A) (env:Env):Room k (A.deeper env):=
 ⟨r.hd,by have:=r.dp;show A.depth+1+3 * k+5 < _;omega,by have:=r.un;show A.units+3+16 * k+200 < _;omega⟩
theorem Room.depth {k:Nat}{A:Around} (r:Room k A):A.depth < recursionLimit:=by have:=r.dp;omega
theorem Room.units {k:Nat}{A:Around} (r:Room k A):A.units+64 < cLine:=by have:=r.un;omega
noncomputable def oG:TA:=λ _ H Q=>Q [] H
noncomputable def fH (ta:TE) (tr:TA):TA:=λ σ H Q=>ta σ H λ x H1=>tr σ H1 λ xs H2=>Q (x::xs) H2
section
variable {X:Cx}{e:Expr}{es:List Expr}{te:TE}{t:TA}{pos:Pos}
theorem aC:PA X [] oG:=λ _ _ _ _ H Q I h=>Calls.spliced_nil ⟨[],H,I,.nil,h⟩
theorem aA (ha:PE X e te) (hr:PA X es t) (hs:starEach (e::es) X.env=(false,eval e X.env)::starEach es X.env:=by rfl):PA X (e::es) (fH te t):=by
 intro pos pins s σ H Q I h
 rw[hs]
 show wpAny _ _ (spliced ((false,eval e X.env)::backTo pos (starEach es X.env))) _ _ s
 refine Calls.spliced_cons (cX (ha pins s σ H _ I h) λ u s1 ⟨x,H1,I1,r1,q1⟩=>?_)
 exact cX (hr pos pins s1 σ H1 _ I1 q1) λ us s2 ⟨xs,H2,I2,r2,q2⟩=>⟨x::xs,H2,I2,.cons r1 r2,q2⟩
noncomputable def tTup (t:TA):TE:=λ σ H Q=>t σ H λ xs H1=>xs.length<=sizeLine/\∀ p,H1 p=none->Q (.ref p) (upd H1 p (.tup xs))
noncomputable def EL (t:TA):TE:=λ σ H Q=>t σ H λ xs H1=>xs.length<=sizeLine/\∀ p,H1 p=none->Q (.ref p) (upd H1 p (.lst xs))
theorem bK {x1} (h:PA X es t):PE X (.Tuple es x1 pos) (tTup t):=by
 intro pins s σ H Q I hq
 refine wpAny_Tuple_spliced (cX (h pos pins s σ H _ I hq) λ us s1 ⟨xs,H1,I1,r,z,q⟩=>⟨by rw[<- r.length];exact z,?_⟩)
 have hf:H1 s1.heap.objs.size=none:=I1.hok.fresh (Nat.le_refl _)
 refine⟨.ref s1.heap.objs.size,upd H1 s1.heap.objs.size (.tup xs),I1.laid (t':=s1.toks) (λ b u e=>Heap.get?_push_of_some _ e) (Nat.le_refl _) ?_,rfl,q _ hf⟩
 exact⟨z,us,r,⟨_,Heap.get?_push_size _ rfl,rfl,_,rfl⟩⟩
theorem cK (h:PA X es t):PE X (.List es pos) (EL t):=by
 intro pins s σ H Q I hq
 refine wpAny_List_spliced (cX (h pos pins s σ H _ I hq) λ us s1 ⟨xs,H1,I1,r,z,q⟩=>⟨by rw[<- r.length];exact z,?_⟩)
 have hf:H1 s1.heap.objs.size=none:=I1.hok.fresh (Nat.le_refl _)
 refine⟨.ref s1.heap.objs.size,upd H1 s1.heap.objs.size (.lst xs),I1.laid (t':=s1.toks) (λ b u e=>Heap.get?_push_of_some _ e) (Nat.le_refl _) ?_,rfl,q _ hf⟩
 exact⟨z,us,0,r,Heap.get?_push_size _ rfl⟩
end
noncomputable abbrev Sp:=List V->Hp->VK->XK->Prop
noncomputable abbrev BE:=List Env->Hp->Shared->XK->Value->Shared->Prop
structure Env0 (P:Program) (w:World) (K:PySem.W.Frag) (mg:Str->Option Value) (base:Heap) (A:Around) (outer:List Env) (s:Shared) (H:Hp):Prop where
 frames:A.frames=some outer
 mod:Mod K mg base
 bs:∀ b o,base.get? b=some o->s.heap.get? b=some o/\H b=none
 bsz:base.objs.size<=s.heap.objs.size
 funs:s.heap.FunFrames base outer
 frf:∀ b∈mB outer,H b=none
 hok:lK P w H s.heap
 bare:AllBare s.gens
noncomputable def CE (outer:List Env) (P:Program) (w:World) (H:Hp) (s:Shared) (Q:VK) (u:Value) (s':Shared):Prop:=
 ∃ v H',s'.os=s.os/\AllBare s'.gens/\Un (mB outer) [] H H' s.heap s'.heap/\lK P w H' s'.heap/\bL v u/\Q v H'
noncomputable def CR (CX:BE) (outer:List Env) (P:Program) (w:World) (H:Hp) (s:Shared) (Q:VK) (E:XK) (r:Result) (s':Shared):Prop:=
 match r with
 | .ok (.ret u)=>CE outer P w H s Q u s'
 | .ok _=>False
 | .error e=>CX outer H s E e s'
structure FnOk (P:Program) (w:World) (K:PySem.W.Frag) (mg:Str->Option Value) (base:Heap) (CX:BE) (k:Nat) (f:Addr) (fd:FuncData) (ps:List Str) (sp:Sp):Prop where
 len:∀ vs H Q E,sp vs H Q E->vs.length=ps.length
 run:∀ (A:Around) (outer:List Env) (s:Shared) (H:Hp) (args:Args) (us:List Value) (vs:List V) (Q:VK) (E:XK),Room k A->Env0 P w K mg base A outer s H->BindsTo s fd args (ps.zip us)->bY vs us->sp vs H Q E->
  codeAny (model P w) A (.call (.ref f) args) (CR CX outer P w H s Q E) s
theorem FnOk.imp {P:Program}{w:World}{K:PySem.W.Frag}{mg:Str->Option Value}{base:Heap}{CX:BE}{k:Nat}{f:Addr}{fd:FuncData}{ps:List Str}{sp sp':Sp} (F:FnOk P w K mg base CX k f fd ps sp)
  (h:∀ vs H Q E,sp' vs H Q E->sp vs H Q E):FnOk P w K mg base CX k f fd ps sp':=
 ⟨λ vs H Q E q=>F.len vs H Q E (h _ _ _ _ q),λ A outer s H args us vs Q E hr he hb hv hs=>F.run A outer s H args us vs Q E hr he hb hv (h _ _ _ _ hs)⟩
section
variable {X:Cx}{pins:List (Addr×Obj)}{σ:St}{H:Hp}{s s':Shared}
theorem Inv.env0 (I:Inv X pins σ H s):Env0 X.prog X.w X.K X.mg X.base X.A X.stack s H:=
 ⟨I.ok.frames,I.ok.mod,I.bs,Nat.le_trans I.ok.bsz I.sz,I.stack,I.stkFree,I.hok,I.bare⟩
theorem Inv.after {Q:VK}{u:Value} (I:Inv X pins σ H s) (h:CE X.stack X.prog X.w H s Q u s'):EP X pins σ Q u s':=by
 obtain⟨v,H',os,bare,un,hok,r,q⟩:=h
 obtain⟨hh,g,d,t,os'⟩:=s'
 obtain rfl:os'=s.os:=os
 exact⟨v,H',I.call (h':=hh) (g':=g) (d':=d) (t':=t) (ch:=[]) un hok bare (λ b z=>absurd z (by simp)),r,q⟩
end
noncomputable def sE (sp:Sp) (dvs:List V) (E:XK) (t:TA):TE:=λ σ H Q=>t σ H λ vs H1=>sp (vs++dvs) H1 Q E
noncomputable def rC (K:PySem.W.Frag) (fd:FuncData) (ps:List Str) (ds:List Value):Prop:=
 ∀ (s:Shared) (us:List Value),K.In s.heap->(us++ds).length=ps.length->BindsTo s fd ⟨us,[]⟩ (ps.zip (us++ds))
theorem rC.all {K:PySem.W.Frag}{fd:FuncData}{ps:List Str} (h:∀ us:List Value,us.length=ps.length->bindArgs fd ⟨us,[]⟩=pure (ps.zip us)):rC K fd ps []:=λ s us _ hl=>by
 rw[List.append_nil] at hl ⊢
 exact .of_eq (h us hl)
noncomputable def lY (CX:BE) (X:Cx) (E:XK):Prop:=∀ (pins:List (Addr×Obj)) (σ:St) (H:Hp) (s:Shared) (e:Value) (s':Shared),Inv X pins σ H s->CX X.stack H s E e s'->X.xe e s'
section
variable {X:Cx}{CX:BE}{k:Nat}{f C:Addr}{fd:FuncData}{ps:List Str}{sp:Sp}{dvs:List V}{ds:List Value}{E:XK}{x m:Str}{p pos apos:Pos}{e o:Expr}{es:List Expr}{ta:TE}{t:TA}
theorem HI {pins:List (Addr×Obj)}{σ:St}{H:Hp}{s:Shared}{Q:VK}{us:List Value}{vs:List V} (F:FnOk X.prog X.w X.K X.mg X.base CX k f fd ps sp) (hr:Room k X.A) (hb:rC X.K fd ps ds) (hd:bY dvs ds) (hx:lY CX X E)
  (I:Inv X pins σ H s) (r:bY vs us) (h:sp (vs++dvs) H Q E):wpAny (model X.prog X.w) X.A (call (.ref f) us) (EP X pins σ Q) X.xe s:=by
 have r2:bY (vs++dvs) (us++ds):=r.append hd
 have hl:(us++ds).length=ps.length:=by rw[<- r2.length];exact F.len _ _ _ _ h
 refine wpAny_call (codeAny_mono (F.run X.A X.stack s H ⟨us,[]⟩ (us++ds) (vs++dvs) Q E hr I.env0 (hb s us I.kIn hl) r2 h) λ r s' hq=>?_)
 cases r with
 | error e=>exact hx pins σ H s e s' I hq
 | ok fl=>
  cases fl with
  | ret u=>exact I.after hq
  | next=>exact False.elim hq
  | brk=>exact False.elim hq
  | cont=>exact False.elim hq
theorem fW (F:FnOk X.prog X.w X.K X.mg X.base CX k f fd ps sp) (hr:Room k X.A) (hg:Gl X x) (hm:X.mg x=some (.ref f)) (hk:PySem.W.keepIn X.K (.ref f)=true) (hb:rC X.K fd ps ds) (hd:bY dvs ds) (hx:lY CX X E)
  (ha:PA X (e::es) t) (hdb:(x == ("__debug__" : Str))=false:=by decide) (he:starEach (e::es) X.env=(false,eval e X.env)::starEach es X.env:=by rfl) (hpl:(backTo pos (starEach es X.env)).any (·.1)=false:=by rfl) :
  PE X (.Call (.Name x p) (e::es) [] pos) (sE sp dvs E t):=by
 intro pins s σ H Q I h
 refine wpAny_Call_Name_kw (oP I hg hm ?_ hdb)
 refine PySem.W.callWith_K (h₀:=X.base) I.ok.mod.kin hk (cX (ha pos pins s σ H _ I h) λ us s1 ⟨vs,H1,I1,r,q⟩=>⟨I1.kIn,?_⟩) he hpl
 exact HI F hr hb hd hx I1 r q
end
section
variable {X:Cx}{CX:BE}{k:Nat}{f C:Addr}{fd:FuncData}{ps ks:List Str}{sp:Sp}{E:XK}{x m:Str}{p pos apos kpos:Pos}{e o:Expr}{es:List Expr}{kws:List Keyword}{te ta:TE}{t tk:TA}{nm:Option Str}
variable {g:List Value->List Value->List Value}{gV:List V->List V->List V}
end
structure FnScope (N P:List Str) (sc:Scope):Prop where
 kind:sc.kind=.function
 co:sc.isCoroutine=false
 gen:sc.isGenerator=false
 nd:N.Nodup
 pre:N.take P.length=P
 par:∀ x∈P,sc.names.lookup x=some .local\/sc.names.lookup x=some .cell
 nofree:∀ y∈sc.names,y.2≠.free
theorem tH {kindOf:Str->Option NameKind}{x:Str}:∀ {binds:List (Str×Value)}{m:Str->Option Value},(∀ v,(x,v)∉binds)->bindL kindOf binds m x=m x
 | [],_,_=>rfl
 | (n,v)::r,m,h=>by
  unfold bindL
  rw[tH λ w hw=>h w (List.mem_cons_of_mem _ hw)]
  split
  ·have:x≠n:=by rintro rfl;exact h v List.mem_cons_self
   simp [this]
  ·rfl
theorem tJ {kindOf:Str->Option NameKind}{x:Str}:∀ {binds:List (Str×Value)}{m:Str->Option Value},(∀ v,(x,v)∉binds)->bindC kindOf binds m x=m x
 | [],_,_=>rfl
 | (n,v)::r,m,h=>by
  unfold bindC
  rw[tJ λ w hw=>h w (List.mem_cons_of_mem _ hw)]
  split
  ·rfl
  ·have:x≠n:=by rintro rfl;exact h v List.mem_cons_self
   simp [this]
theorem tI {kindOf:Str->Option NameKind}{x:Str}{v:Value}:∀ {P:List Str}{vs:List Value}{i:Nat}{m:Str->Option Value},P.Nodup->P[i]? = some x->vs[i]? = some v->kindOf x=some .local->
  bindL kindOf (P.zip vs) m x=some v
 | [],_,_,_,_,h,_,_=>by simp at h
 | _::_,[],_,_,_,_,h,_=>by simp at h
 | p::P,w::vs,0,m,nd,h1,h2,hk=>by
  simp at h1 h2;subst h1;subst h2
  show bindL kindOf ((p,w)::P.zip vs) m p=_
  unfold bindL
  rw[tH λ v hv=>(List.nodup_cons.mp nd).1 (List.of_mem_zip hv).1,if_pos hk]
  simp
 | p::P,w::vs,i+1,m,nd,h1,h2,hk=>by
  show bindL kindOf ((p,w)::P.zip vs) m x=_
  unfold bindL
  exact tI (i:=i) (List.nodup_cons.mp nd).2 (by simpa using h1) (by simpa using h2) hk
theorem tK {kindOf:Str->Option NameKind}{x:Str}{v:Value}:∀ {P:List Str}{vs:List Value}{i:Nat}{m:Str->Option Value},P.Nodup->P[i]? = some x->vs[i]? = some v->kindOf x≠some .local->
  bindC kindOf (P.zip vs) m x=some v
 | [],_,_,_,_,h,_,_=>by simp at h
 | _::_,[],_,_,_,_,h,_=>by simp at h
 | p::P,w::vs,0,m,nd,h1,h2,hk=>by
  simp at h1 h2;subst h1;subst h2
  show bindC kindOf ((p,w)::P.zip vs) m p=_
  unfold bindC
  rw[tJ λ v hv=>(List.nodup_cons.mp nd).1 (List.of_mem_zip hv).1,if_neg hk]
  simp
 | p::P,w::vs,i+1,m,nd,h1,h2,hk=>by
  show bindC kindOf ((p,w)::P.zip vs) m x=_
  unfold bindC
  exact tK (i:=i) (List.nodup_cons.mp nd).2 (by simpa using h1) (by simpa using h2) hk
noncomputable def mF (N:List Str) (vs:List V):St:=vs.map some++List.replicate (N.length - vs.length) none
noncomputable def w9 (CX:BE) (P:Program) (w:World) (K:PySem.W.Frag) (mg:Str->Option Value) (base:Heap) (N:List Str) (qual:Str) (scope:Scope) (f:Addr) (cd:Value) (A:Around) (outer:List Env) (s:Shared) (H:Hp) (E:XK):Cx where
 prog:=P
 w:=w
 K:=K
 mg:=mg
 base:=base
 A:=A.deeper (envOfC qual scope s.heap.objs.size f cd)
 N:=N
 s₀:=s
 H₀:=H
 env:=envOfC qual scope s.heap.objs.size f cd
 outer:=outer
 stack:=envOfC qual scope s.heap.objs.size f cd::outer
 ex:=[]
 calm:=true
 fn:=λ _=>true
 pn:=[]
 xe:=λ e s'=>wpAny (model P w) (A.deeper (envOfC qual scope s.heap.objs.size f cd)) (leaving (envOfC qual scope s.heap.objs.size f cd) e) (λ _ s''=>CX outer H s E e s'') (λ e' s''=>CX outer H s E e' s'') s'
theorem wB {sc:Scope}{n:Nat}{x:Str} (h:sc.names.lookup x=some .cell):∃ c,(cellsFrom n sc.names []).lookup x=some c:=by
 have q:=PySem.W.cellsFrom_some sc.names n [] (.inl h)
 exact Option.isSome_iff_exists.mp q
theorem AR {CX:BE}{P:Program}{w:World}{K:PySem.W.Frag}{mg:Str->Option Value}{base:Heap}{N ps:List Str}{qual:Str}{scope:Scope}{f:Addr}{cd:Value}{A:Around}{outer:List Env}{s s1:Shared}{H:Hp}{E:XK}{us:List Value}{vs:List V}
  (S:FnScope N ps scope) (hd:A.handled=none) (e0:Env0 P w K mg base A outer s H) (hl:vs.length=ps.length) (r:bY vs us)
  (x:InCallC s s.heap.objs.size (bindL (envOfC qual scope s.heap.objs.size f cd).kindOf (ps.zip us) λ _=>none) (cellsFrom (s.heap.objs.size+1) scope.names []) (bindC (envOfC qual scope s.heap.objs.size f cd).kindOf (ps.zip us) λ _=>none) s1) :
  Inv (w9 CX P w K mg base N qual scope f cd A outer s H E) [] (mF N vs) H s1:=by
 have hpl:ps.length<=N.length:=by have:=congrArg List.length S.pre;rw[List.length_take] at this;omega
 obtain⟨h1,tk,rfl,hk⟩:=x.done
 have noA:∀ b:Addr,b∉(w9 CX P w K mg base N qual scope f cd A outer s H E).ex:=λ b z=>absurd (show b∈([]:List Addr) from z) (by simp)
 refine⟨⟨e0.mod,S.kind,rfl,rfl,Nat.le_refl _,λ y z c h1 h2=>?_,λ y hy=>?_,λ y c _ h=>?_,λ _=>hd,Around.frames_deeper e0.frames,.inr ⟨rfl,rfl⟩,λ b z=>absurd z (noA b),e0.bs,e0.bsz,λ b _ _=>noA b,λ b z=>absurd z (noA b),e0.funs,e0.frf⟩,
  rfl,e0.bare,Un.kept hk,⟨_,x.toInCall.ns,λ i y v h1 h2 h3=>?_⟩,λ y c h=>⟨_,x.cell y c h⟩,e0.hok.fresh (Nat.le_refl _),λ y c h=>?_,λ p hp=>absurd (show p∈([]:List (Addr×Obj)) from hp) (by simp),e0.hok.kept hk,?_⟩
 ·exact name_of_addr x.apart (PySem.mem_of_lookup h1) (PySem.mem_of_lookup h2)
 ·have hy:scope.names.lookup y=some .cell\/scope.names.lookup y=some .free:=hy
  rcases hy with hy | hy
  ·exact wB hy
  ·exact absurd rfl (S.nofree _ (PySem.mem_of_lookup hy))
 ·exact Nat.le_of_lt (x.above y c (PySem.mem_of_lookup h))
 ·have hi:i < vs.length:=by
   unfold mF at h2
   by_cases hi:i < vs.length
   ·exact hi
   ·rw[List.getElem?_append_right (by simpa using hi)] at h2
    rw[List.getElem?_replicate] at h2
    split at h2 <;> cases h2
  have ha:vs[i]? = some v:=by
   unfold mF at h2
   rw[List.getElem?_append_left (by simpa using hi),List.getElem?_map] at h2
   cases e:vs[i]? with
   | none=>rw[e] at h2;cases h2
   | some a=>rw[e] at h2;cases h2;rfl
  obtain⟨u,hu,rv⟩:=r.get ha
  have hp:ps[i]? = some y:=by
   rw[<- S.pre,List.getElem?_take_of_lt (by omega)];exact h1
  have ndP:ps.Nodup:=by rw[<- S.pre];exact S.nd.sublist (List.take_sublist _ _)
  refine⟨u,rv,?_⟩
  rcases S.par y (List.mem_of_getElem? hp) with k | k
  ·exact .inl ⟨k,tI ndP hp hu k⟩
  ·obtain⟨c,e⟩:=wB (n:=s.heap.objs.size+1) k
   refine .inr ⟨.inl k,c,e,?_⟩
   have q:=x.cell y c e
   rw[tK ndP hp hu (by show scope.names.lookup y≠_;rw[k];decide)] at q
   exact q
 ·exact e0.hok.fresh (Nat.le_of_lt (x.above y c (PySem.mem_of_lookup h)))
 ·unfold mF
  show _=N.length
  rw[List.length_append,List.length_map,List.length_replicate]
  omega
theorem GR {CX:BE}{P:Program}{w:World}{K:PySem.W.Frag}{mg:Str->Option Value}{base:Heap}{k:Nat}{f:Addr}{name qual:Str}{params:Arguments}{body:List Stmt}{scope:Scope}{dV kV doc pm cdv ct oc:Value}{an od:Option Addr}
  {osl:Array (Option Value)}{N ps:List Str}{sp:Sp} (lk:K.lookup f=some ⟨oc,od,.func (PySem.W.fnOf name qual params body scope dV kV doc pm an cdv ct),osl⟩) (hcd:PySem.W.codeIn K cdv qual=true) (S:FnScope N ps scope)
  (len:∀ vs H Q E,sp vs H Q E->vs.length=ps.length)
  (hbody:∀ (A:Around) (outer:List Env) (s:Shared) (H:Hp) (vs:List V) (Q:VK) (E:XK),Room k (A.deeper (envOfC qual scope s.heap.objs.size f cdv))->sp vs H Q E->
   ∃ t,wL (w9 CX P w K mg base N qual scope f cdv A outer s H E) body t/\t { nx:=λ _ H'=>Q .non H',rt:=Q } (mF N vs) H) :
  FnOk P w K mg base CX (k+1) f (PySem.W.fnOf name qual params body scope dV kV doc pm an cdv ct) ps sp:=by
 refine⟨len,λ A outer s H args us vs Q E hr e0 hb r hsp=>?_⟩
 have hl:=len _ _ _ _ hsp
 have KX:K.In s.heap:=e0.mod.kin.keeps λ b o e=>(e0.bs b o e).1
 have lim:s.heap.NoLimit:=e0.mod.nolimit.keeps λ b o e=>(e0.bs b o e).1
 have hkind:∀ y∈ps.zip us,scope.names.lookup y.1=some .local\/(scope.names.lookup y.1=some .cell/\((cellsFrom (s.heap.objs.size+1) scope.names []).lookup y.1).isSome=true):=λ ⟨n,v⟩ hy=>by
  rcases S.par n (List.of_mem_zip hy).1 with q | q
  ·exact .inl q
  ·exact .inr ⟨q,PySem.W.cellsFrom_some _ _ _ (.inl q)⟩
 refine codeAny_call_function hr.depth (KX _ _ lk) rfl S.co S.gen rfl (PySem.W.codeRec_of KX hcd) (hb _ _ _ _ ?_)
 refine wpAny_newFunctionEnv_cells S.kind hkind λ env he s1 x=>?_
 subst he
 refine⟨lim.keeps x.toInCall.keep,codeAny_func ?_⟩
 obtain⟨t,ht,hq⟩:=hbody A outer s H vs Q E (hr.deeper _) hsp
 have I:Inv (w9 CX P w K mg base N qual scope f cdv A outer s H E) [] (mF N vs) H s1:=AR S hr.hd e0 hl r x
 refine wpAny_mono (ht [] s1 (mF N vs) H _ I hq) (λ fl s' hs=>?_) λ e s' hs=>hs
 have fin:∀ {Z:St}{H':Hp}{v:V}{u:Value},Inv (w9 CX P w K mg base N qual scope f cdv A outer s H E) [] Z H' s'->bL v u->Q v H'->CE outer P w H s Q u s':=
  λ {Z H' v u} J rv q=>⟨v,H',J.os,J.bare,J.base,J.hok,rv,q⟩
 cases fl with
 | ret u=>
  obtain⟨v,Z,H',J,rv,q⟩:=hs
  exact fin J rv q
 | next=>
  obtain⟨Z,H',J,q⟩:=hs
  exact fin (v:=V.non) (u:=Value.none) J rfl q
 | brk=>
  obtain⟨_,_,_,q⟩:=hs
  exact False.elim q
 | cont=>
  obtain⟨_,_,_,q⟩:=hs
  exact False.elim q
end L2
namespace L2
open PySem PySem.Spec PyProof.Rows
section
variable {X:Cx}{x:Str}{p pos:Pos}{e:Expr}{es:List Expr}{t:TA}{id T:String}{r:List V->Hp->VK->Prop}
noncomputable def J3 (r:List V->Hp->VK->Prop) (t:TA):TE:=λ σ H Q=>t σ H λ vs H1=>r vs H1 Q
theorem aR (hc:g7 X (.builtin id) r) (hg:Gl X x) (hm:X.mg x=none) (hv:bootBuiltins x=some (.builtin id)) (ha:PA X (e::es) t) (hn:x ≠ "__name__" := by decide) (hdb:(x == ("__debug__" : Str))=false:=by decide)
  (he:starEach (e::es) X.env=(false,eval e X.env)::starEach es X.env:=by rfl) (hpl:(backTo pos (starEach es X.env)).any (·.1)=false:=by rfl):PE X (.Call (.Name x p) (e::es) [] pos) (J3 r t):=by
 intro pins s σ H Q I h
 refine wpAny_Call_Name_kw (lS I hg hm hv ?_ hn hdb)
 exact PyProof.Rows.callWith_builtin1 (cX (ha pos pins s σ H _ I h) λ us s1 ⟨vs,H1,I1,r1,q1⟩=>hc pins s1 σ H1 vs us Q I1 r1 q1) he hpl
theorem bC (hc:g7 X (.type T) r) (hg:Gl X x) (hm:X.mg x=none) (hv:bootBuiltins x=some (.type T)) (ha:PA X (e::es) t) (hn:x ≠ "__name__" := by decide) (hdb:(x == ("__debug__" : Str))=false:=by decide)
  (he:starEach (e::es) X.env=(false,eval e X.env)::starEach es X.env:=by rfl) (hpl:(backTo pos (starEach es X.env)).any (·.1)=false:=by rfl):PE X (.Call (.Name x p) (e::es) [] pos) (J3 r t):=by
 intro pins s σ H Q I h
 refine wpAny_Call_Name_kw (lS I hg hm hv ?_ hn hdb)
 exact PyProof.Rows.callWith_type1 (cX (ha pos pins s σ H _ I h) λ us s1 ⟨vs,H1,I1,r1,q1⟩=>hc pins s1 σ H1 vs us Q I1 r1 q1) he hpl
end
end L2
namespace HT
open PySem PyProof.Rows
section
open PySem.SeqAt
open PySem.AutoSeq1 (wpAny_loadPart')
open PySem.MeetsSeq PySem.MeetsSeq2 PySem.MeetsSeq3
end
section
variable {prog:Program}{w:World}{A:Around}{E:Value->Shared->Prop}{s:Shared}
theorem cat_tup {t b:Addr}{vs ws:List Value}{Q:Value->Shared->Prop} (ht:IsTup s.heap t vs.toArray) (hb:IsTup s.heap b ws.toArray) (hv:vs≠[])
  (h1:ws=[]->Q (.ref t) s) (h2:ws≠[]->Q (.ref s.heap.objs.size) { s with heap:=s.heap.push { cls:=.type "tuple",data:=.seq (vs++ws).toArray } })
  (hsz:vs.length+ws.length<=sizeLine):wpAny (model prog w) A (binaryOp .Add (.ref t) (.ref b)) Q E s:=by
 obtain⟨⟨cls,dd,data,sl⟩,ho,hc,n,hd⟩:=id ht
 obtain⟨⟨cls2,dd2,data2,sl2⟩,ho2,hc2,n2,hd2⟩:=id hb
 simp only at hc hd hc2 hd2
 subst hc hd hc2 hd2
 have e:vs.toArray++ws.toArray=(vs++ws).toArray:=by simp
 by_cases hw:ws=[]
 ·exact concat_meets ⟨_,ho,rfl⟩ ⟨_,ho2,rfl⟩ noFill_tuple_add seq_tuple_add PySem.F.slot_tuple_add PySem.F.entry_tuple_add (PySem.F.args_tuple_add_2 _ _)
   (tuple_addW1 t b vs.toArray ws.toArray n n2 dd dd2 sl sl2 (by simpa using hv) (by simp [hw])) ⟨ho,ho2,h1 hw⟩
 ·refine concat_meets ⟨_,ho,rfl⟩ ⟨_,ho2,rfl⟩ noFill_tuple_add seq_tuple_add PySem.F.slot_tuple_add PySem.F.entry_tuple_add (PySem.F.args_tuple_add_2 _ _)
   (tuple_addW2 t b vs.toArray ws.toArray n n2 dd dd2 sl sl2 (by simpa using hv) (by simpa using hw) (by rw[List.size_toArray,List.size_toArray];exact hsz)) ⟨ho,ho2,?_⟩
  rw[e]
  exact h2 hw
noncomputable def sIx (n d:Nat):Option Int->Nat
 | none=>d
 | some v=>if v < 0 then (v+(n:Int)).toNat else min v.toNat n
theorem sIx_none (n d:Nat):sIx n d none=d:=rfl
theorem sIx_nat (n d k:Nat):sIx n d (some (k:Int))=min k n:=by
 show (if (k:Int) < 0 then ((k:Int)+(n:Int)).toNat else min (k:Int).toNat n)=min k n
 rw[if_neg (by omega),Int.toNat_natCast]
theorem HH (n d:Nat) (hd:d<=n) (o:Option Int):sIx n d o<=n:=by
 cases o with
 | none=>exact hd
 | some v=>
  show (if v < 0 then (v+(n:Int)).toNat else min v.toNat n)<=n
  by_cases hv:v < 0
  ·rw[if_pos hv];omega
  ·rw[if_neg hv];exact Nat.min_le_right _ _
theorem zT (v:Int) (n d:Nat):(if v < 0 then max (v+(n:Int)) 0 else min v (n:Int))=((sIx n d (some v):Nat):Int):=by
 show (if v < 0 then max (v+(n:Int)) 0 else min v (n:Int))=(((if v < 0 then (v+(n:Int)).toNat else min v.toNat n):Nat):Int)
 by_cases hv:v < 0
 ·simp only [if_pos hv];omega
 ·simp only [if_neg hv];omega
theorem y8 (lo hi:Option Int) (n:Nat):Builtin.Slice.sliceAdjust lo hi 1 (n:Int)=(((sIx n 0 lo:Nat):Int),((sIx n n hi:Nat):Int)):=by
 have h1:¬ ((1:Int) < 0):=by omega
 unfold Builtin.Slice.sliceAdjust
 simp only [h1,if_false]
 refine Prod.ext ?_ ?_
 ·cases lo with
  | none=>rfl
  | some v=>exact zT v n 0
 ·cases hi with
  | none=>rfl
  | some v=>exact zT v n n
theorem xC (i j:Nat):Builtin.Slice.slicePlaces (i:Int) (j:Int) 1=j - i:=by
 unfold Builtin.Slice.slicePlaces
 have h1:(1:Int) > 0:=by omega
 simp only [h1,if_true,Int.ediv_one]
 split <;> omega
theorem pN {v:Value}{o:Option Int}{Q:Option Int->Shared->Prop} (p:IsPart v o) (h:Q o s):wpAny (model prog w) A (Builtin.Slice.slicePartIndex v) Q E s:=by
 cases p with
 | none=>exact slicePart_none h
 | int i t=>exact slicePart_int h
theorem i8 {sl:Addr}{vl vu:Value}{lo hi:Option Int}{n:Nat}{Q:Int×Int×Nat->Shared->Prop} (hs:s.heap.IsSliceOf sl vl vu .none) (pl:IsPart vl lo) (pu:IsPart vu hi)
  (h:Q (((sIx n 0 lo:Nat):Int),1,sIx n n hi - sIx n 0 lo) s):wpAny (model prog w) A (Builtin.Slice.sliceApplied (.ref sl) (pure (n:Int))) Q E s:=by
 obtain⟨os,hos,hcs,hds⟩:=id hs
 unfold Builtin.Slice.sliceApplied Builtin.Slice.sliceFields
 refine wpAny_bind (wpAny_bind (wpAny_field hos hds (x:=vl) rfl (wpAny_bind (wpAny_field hos hds (x:=vu) rfl (wpAny_bind (wpAny_field hos hds (x:=.none) rfl (wpAny_pure ?_)))))))
 refine wpAny_bind (slicePart_none ?_)
 show wpAny _ _ (if ((1:Int) == 0)=true then _ else _) _ _ s
 rw[if_neg (by decide)]
 refine wpAny_bind (pN pl (wpAny_bind (pN pu (wpAny_bind (wpAny_pure ?_)))))
 show wpAny _ _ (match Builtin.Slice.sliceAdjust lo hi 1 (n:Int) with | (lo,hi)=>pure (lo,(1:Int),Builtin.Slice.slicePlaces lo hi 1)) _ _ s
 rw[y8 lo hi n]
 show wpAny _ _ (pure (((sIx n 0 lo:Nat):Int),(1:Int),Builtin.Slice.slicePlaces ((sIx n 0 lo:Nat):Int) ((sIx n n hi:Nat):Int) 1)) _ _ s
 rw[xC]
 exact wpAny_pure h
theorem CP (xs:Array Value) (i k:Nat):((List.range k).filterMap λ (m:Nat)=>xs[((i:Int)+(m:Int) * 1).toNat]?).toArray=((xs.toList.drop i).take k).toArray:=by
 have e:(λ (m:Nat)=>xs[((i:Int)+(m:Int) * 1).toNat]?)=λ m=>xs[i+m]?:=by
  funext m
  have:((i:Int)+(m:Int) * 1).toNat=i+m:=by omega
  rw[this]
 rw[e]
 have:=pick_run xs i k
 rw[List.filterMap_map] at this
 have e2:((λ x=>xs[x]?) ∘ λ x=>i+x)=λ m=>xs[i+m]?:=rfl
 rw[e2] at this
 rw[this]
theorem getItem_tuple_cut {t sl:Addr}{items:Array Value}{vl vu:Value}{lo hi:Option Int}{Q:Value->Shared->Prop} (ht:IsTup s.heap t items) (hs:s.heap.IsSliceOf sl vl vu .none) (pl:IsPart vl lo) (pu:IsPart vu hi)
  (hw:¬ (sIx items.size 0 lo=0/\sIx items.size items.size hi=items.size))
  (h:Q (.ref s.heap.objs.size) { s with heap:=s.heap.push { cls:=.type "tuple",data:=.seq ((items.toList.drop (sIx items.size 0 lo)).take (sIx items.size items.size hi - sIx items.size 0 lo)).toArray } })
  (hsz:items.size<=sizeLine):wpAny (model prog w) A (getItem (.ref t) (.ref sl)) Q E s:=by
 have htake:sizeOk (.seq ((items.toList.drop (sIx items.size 0 lo)).take (sIx items.size items.size hi - sIx items.size 0 lo)).toArray):=by
  show ((items.toList.drop (sIx items.size 0 lo)).take (sIx items.size items.size hi - sIx items.size 0 lo)).toArray.size<=sizeLine
  rw[List.size_toArray,List.length_take,List.length_drop,Array.length_toList]
  omega
 have hj:sIx items.size items.size hi<=items.size:=HH _ _ (Nat.le_refl _) hi
 obtain⟨os,hos,hcs,hds⟩:=id hs
 have hTs:s.TypeIs (.ref sl) "slice" := ⟨os,hos,hcs⟩
 unfold getItem
 try with_reducible refine wpAny_holding ?_
 first | refine wpAny_bind (wpAny_pure ?_) | skip
 refine wpAny_bind (wpAny_sequenceKey ht.typeIs (by decide) ?_)
 refine wpAny_bind (wpAny_callSpecial?_slot (name:=Str.ofString "__getitem__") ht.typeIs PyProof.Rows.slot_tuple_getitem
  (wpAny_call_entry PyProof.Rows.slot_tuple_getitem ht.typeIs entry_tuple_getitem ?_ (args_tuple_getitem _ _)))
 show wpAny _ _ (Builtin.Tuple.tupleItemsOf (.ref t) >>= _) _ _ s
 refine wpAny_bind (tupleItemsOf_ ht ?_)
 refine wpAny_bind (wpAny_typeOf hTs ?_)
 rw[if_pos (by decide)]
 refine wpAny_bind (i8 hs pl pu ?_)
 have hno:¬ ((((sIx items.size 0 lo:Nat):Int) == 0 && (1:Int) == 1 && (sIx items.size items.size hi - sIx items.size 0 lo) == items.size)=true):=by
  intro q
  rw[Bool.and_eq_true,Bool.and_eq_true] at q
  have q1:((sIx items.size 0 lo:Nat):Int)=0:=eq_of_beq q.1.1
  have q2:sIx items.size items.size hi - sIx items.size 0 lo=items.size:=eq_of_beq q.2
  exact hw ⟨by omega,by omega⟩
 show wpAny _ _ (if (((sIx items.size 0 lo:Nat):Int) == 0 && (1:Int) == 1 && (sIx items.size items.size hi - sIx items.size 0 lo) == items.size)=true then _ else _) _ _ s
 rw[if_neg hno,CP]
 first
  | exact wpAny_bind (m:=Builtin.Tuple.tupleExact _) (wpAny_newObj_type (wpAny_pure ⟨_,rfl,wpAny_pure h⟩) htake)
  | exact wpAny_bind (m:=Builtin.Tuple.tupleExact _) (wpAny_newObj_type (wpAny_bind (wpAny_pure (wpAny_pure ⟨_,rfl,wpAny_pure h⟩))) htake)
  | exact wpAny_bind (wpAny_bind (m:=Builtin.Tuple.tupleExact _) (wpAny_newObj_type (wpAny_pure (wpAny_pure ⟨_,rfl,wpAny_pure h⟩)) htake))
  | exact wpAny_bind (wpAny_bind (m:=Builtin.Tuple.tupleExact _) (wpAny_newObj_type (wpAny_pure ⟨_,rfl,wpAny_pure h⟩) htake))
end
end HT
namespace L2
open PySem PySem.Spec PyProof.Rows
noncomputable abbrev TO:=St->Hp->(Option Int->Hp->Prop)->Prop
noncomputable def PO (X:Cx) (e:Option Expr) (t:TO):Prop:=
 ∀ (pins:List (Addr×Obj)) (s:Shared) (σ:St) (H:Hp) (Q:Option Int->Hp->Prop),Inv X pins σ H s->t σ H Q->
  wpAny (model X.prog X.w) X.A (evalPart e X.env) (λ u s'=>∃ o H',Inv X pins σ H' s'/\IsPart u o/\Q o H') X.xe s
noncomputable def EK:TO:=λ _ H Q=>Q none H
noncomputable def JH (t:TE):TO:=λ σ H Q=>t σ H λ x H1=>∃ i,x=.int i/\Q (some i) H1
theorem xR {ns:List Int}:∀ {us:List Value},bY (ns.map V.int) us->IntsAre us ns:=by
 induction ns with
 | nil=>intro us r;rw[List.map_nil] at r;cases r;exact .nil
 | cons n ns ih=>
  intro us r
  rw[List.map_cons] at r
  cases r with
  | cons r1 r2=>
   obtain⟨t,e⟩:=r1
   subst e
   exact .cons n t (ih r2)
section
variable {X:Cx}{e:Expr}{te:TE}{lo hi:Option Expr}{tl th:TO}{pos p2:Pos}
theorem gQ:PO X none EK:=by
 intro pins s σ H Q I h
 rw[evalPart_none]
 exact wpAny_pure ⟨none,H,I,.none,h⟩
theorem gP (h:PE X e te):PO X (some e) (JH te):=by
 intro pins s σ H Q I hw
 rw[evalPart_some]
 refine cX (h pins s σ H _ I hw) λ u s1 ⟨x,H1,I1,r1,q1⟩=>?_
 obtain⟨i,rfl,q⟩:=q1
 obtain⟨t,rfl⟩:=r1
 exact⟨some i,H1,I1,.int i t,q⟩
noncomputable def KS (X:Cx) (r:V->Option Int->Option Int->Hp->VK->Prop):Prop:=
 ∀ (pins:List (Addr×Obj)) (s:Shared) (σ:St) (H:Hp) (x:V) (v vl vu:Value) (lo hi:Option Int) (sl:Addr) (Q:VK),Inv X pins σ H s->bL x v->s.heap.IsSliceOf sl vl vu .none->IsPart vl lo->IsPart vu hi->r x lo hi H Q->
  ∃ T id,typeLookup (.type T) "__getitem__" = pure (some (.builtin id))/\s.TypeIs v T/\wpAny (model X.prog X.w) X.A (getItem v (.ref sl)) (EP X pins σ Q) X.xe s
noncomputable def tSl (r:V->Option Int->Option Int->Hp->VK->Prop) (te:TE) (tl th:TO):TE:=λ σ H Q=>te σ H λ x H1=>tl σ H1 λ l H2=>th σ H2 λ u H3=>r x l u H3 Q
theorem fT {r:V->Option Int->Option Int->Hp->VK->Prop} (hr:KS X r) (he:PE X e te) (hl:PO X lo tl) (hu:PO X hi th):PE X (.Subscript e (.Slice lo hi none p2) pos) (tSl r te tl th):=by
 intro pins s σ H Q I h
 refine Subscript_ (cX (he pins s σ H _ I h) λ v s1 ⟨x,H1,I1,r1,q1⟩=>?_)
 refine wpAny_Slice (cX (hl pins s1 σ H1 _ I1 q1) λ vl s2 ⟨l,H2,I2,pl,q2⟩=>cX (hu pins s2 σ H2 _ I2 q2) λ vu s3 ⟨u,H3,I3,pu,q3⟩=>?_)
 rw[evalPart_none]
 refine wpAny_pure ?_
 have I4:Inv X pins σ H3 { s3 with heap:=s3.heap.push { cls:=.type "slice",data:=.fields #[vl,vu,.none] } }:=I3.kept (t':=s3.toks) λ b ob q=>Heap.get?_push_of_some _ q
 obtain⟨T,id,hT,ht,hg⟩:=hr pins { s3 with heap:=s3.heap.push { cls:=.type "slice",data:=.fields #[vl,vu,.none] } } σ H3 x v vl vu l u s3.heap.objs.size Q I4 r1 (Heap.IsSliceOf.new ..) pl pu q3
 show wpAny (model X.prog X.w) X.A (subscriptTail e (.Slice lo hi none p2) v (.ref s3.heap.objs.size)) (EP X pins σ Q) X.xe { s3 with heap:=s3.heap.push { cls:=.type "slice",data:=.fields #[vl,vu,.none] } }
 exact tail_any (ops:=[.ref s3.heap.objs.size,v]) ht hT hg (by with_unfolding_all rfl)
noncomputable def kS (xs:List V) (lo hi:Option Int):List V:=(xs.drop (HT.sIx xs.length 0 lo)).take (HT.sIx xs.length xs.length hi - HT.sIx xs.length 0 lo)
theorem oC (xs:List V) (lo hi:Option Int):(kS xs lo hi).length<=xs.length:=by
 unfold kS
 rw[List.length_take,List.length_drop]
 omega
noncomputable def rSlT (K:PySem.W.Frag):V->Option Int->Option Int->Hp->VK->Prop:=λ x lo hi H Q=>∃ a xs,x=.ref a/\bO K H a xs/\
 ¬ (HT.sIx xs.length 0 lo=0/\HT.sIx xs.length xs.length hi=xs.length)/\∀ p,H p=none->Q (.ref p) (upd H p (.tup (kS xs lo hi)))
theorem HF:KS X (rSlT X.K):=by
 intro pins s σ H x v vl vu lo hi sl Q I rx hs pl pu h
 obtain⟨a,xs,rfl,hx,hw,q⟩:=h
 cases rx
 obtain⟨its,r,ht,hz⟩:=I.tuple hx
 have hlen:its.toArray.size=xs.length:=by rw[List.size_toArray];exact r.length.symm
 refine⟨"tuple",_,PyProof.Rows.slot_tuple_getitem.lookup,ht.typeIs,?_⟩
 refine HT.getItem_tuple_cut ht hs pl pu (by rw[hlen];exact hw) ?_ (by rw[hlen];exact hz)
 rw[hlen]
 refine⟨.ref s.heap.objs.size,_,I.laid (t':=s.toks) (o:=.tup (kS xs lo hi)) (λ b ob q=>Heap.get?_push_of_some _ q) (Nat.le_refl _) ?_,rfl,q _ (I.hok.fresh (Nat.le_refl _))⟩
 exact⟨Nat.le_trans (oC xs lo hi) hz,_,(r.drop (HT.sIx xs.length 0 lo)).take (HT.sIx xs.length xs.length hi - HT.sIx xs.length 0 lo),IsTup.new _ _⟩
noncomputable def GG (K:PySem.W.Frag):R2:=λ x y H Q=>∃ a b xs ys,x=.ref a/\y=.ref b/\bO K H a xs/\bO K H b ys/\xs≠[]/\xs.length+ys.length<=sizeLine/\
 (ys=[]->Q (.ref a) H)/\(ys≠[]->∀ p,H p=none->Q (.ref p) (upd H p (.tup (xs++ys))))
theorem bY.nil_iff {xs:List V}{us:List Value} (r:bY xs us):us=[]↔xs=[]:=by
 cases r with
 | nil=>simp
 | cons _ _=>simp
theorem yU:iU X (binaryOp .Add) (GG X.K):=by
 intro pins s σ H x y v u Q I rx ry h
 obtain⟨a,b,xs,ys,rfl,rfl,ha,hb,hx,hz,q1,q2⟩:=h
 cases rx
 cases ry
 obtain⟨its,r1,p1,_⟩:=I.tuple ha
 obtain⟨its2,r2,p2,_⟩:=I.tuple hb
 refine HT.cat_tup p1 p2 (λ z=>hx (r1.nil_iff.mp z)) (λ z=>⟨.ref a,H,I,rfl,q1 (r2.nil_iff.mp z)⟩) (λ z=>?_) (by rw[<- r1.length,<- r2.length];exact hz)
 refine⟨.ref s.heap.objs.size,_,I.laid (t':=s.toks) (o:=.tup (xs++ys)) (λ b ob q=>Heap.get?_push_of_some _ q) (Nat.le_refl _) ?_,rfl,q2 (λ w=>z (r2.nil_iff.mpr w)) _ (I.hok.fresh (Nat.le_refl _))⟩
 exact⟨by rw[List.length_append];exact hz,_,r1.append r2,IsTup.new _ _⟩
end
end L2
namespace L2
open PySem PySem.Spec PyProof.Rows
noncomputable def DC (n:Nat) (i:Int):Option Nat:=if 0<=i then (if i < n then some i.toNat else none) else if -(n:Int)<=i then some (i+n).toNat else none
noncomputable def y6 {aq:Type} (xs:List aq) (i:Int):Option aq:=(DC xs.length i).bind λ j=>xs[j]?
theorem yX {n:Nat}{i:Int}{j:Nat} (h:DC n i=some j):seqIndex? i n=some j/\j < n/\-(n:Int)<=i/\i < n:=by
 unfold DC at h
 by_cases h0:0<=i
 ·rw[if_pos h0] at h
  by_cases h1:i < n
  ·rw[if_pos h1] at h
   have e:i.toNat=j:=Option.some.inj h
   exact⟨by rw[seqIndex_of h0 h1,e],by omega,by omega,h1⟩
  ·rw[if_neg h1] at h;cases h
 ·rw[if_neg h0] at h
  by_cases h1 : -(n:Int)<=i
  ·rw[if_pos h1] at h
   have e:(i+n).toNat=j:=Option.some.inj h
   exact⟨by rw[seqIndex_neg (by omega) h1,e],by omega,h1,by omega⟩
  ·rw[if_neg h1] at h;cases h
theorem uS {aq:Type}{xs:List aq}{i:Int}{v:aq} (h:y6 xs i=some v):∃ j,seqIndex? i xs.length=some j/\xs[j]? = some v/\j < xs.length/\-(xs.length:Int)<=i/\i < xs.length:=by
 unfold y6 at h
 cases e:DC xs.length i with
 | none=>rw[e] at h;cases h
 | some j=>
  rw[e] at h
  obtain⟨h1,h2,h3,h4⟩:=yX e
  exact⟨j,h1,h,h2,h3,h4⟩
theorem dW {aq:Type}{xs:List aq}{j:Nat}{v:aq} (h:xs[j]? = some v):y6 xs (j:Int)=some v:=by
 have hj:j < xs.length:=(List.getElem?_eq_some_iff.mp h).1
 have e:DC xs.length (j:Int)=some j:=by
  unfold DC
  rw[if_pos (by omega),if_pos (by omega)];simp
 unfold y6;rw[e];exact h
theorem E9 {aq:Type} (xs:List aq) (v:aq):y6 (xs++[v]) (-1)=some v:=by
 have hl:(xs++[v]).length=xs.length+1:=by simp
 have e:DC (xs++[v]).length (-1)=some xs.length:=by
  unfold DC
  rw[hl,if_neg (by decide),if_pos (by omega)]
  congr 1
  omega
 unfold y6
 rw[e]
 show (xs++[v])[xs.length]? = some v
 simp
noncomputable def G4 (b:Expr):Prop:=∀ o i,subscripted b false o i=operate [o,i] (getItem o i)
noncomputable def BH (X:Cx) (r:R2):Prop:=
 ∀ (value slice:Expr) (pins:List (Addr×Obj)) (s:Shared) (σ:St) (H:Hp) (x y:V) (v u:Value) (Q:VK),Inv X pins σ H s->bL x v->bL y u->r x y H Q->
  subscripted slice false v u=operate [v,u] (getItem v u)->wpAny (model X.prog X.w) X.A (subscriptTail value slice v u) (EP X pins σ Q) X.xe s
noncomputable def MtR (X:Cx) (id:String) (r:V->List V->Hp->VK->Prop):Prop:=
 ∀ (pins:List (Addr×Obj)) (s:Shared) (σ:St) (H:Hp) (x:V) (xs:List V) (v:Value) (us:List Value) (Q:VK),Inv X pins σ H s->bL x v->bY xs us->r x xs H Q->
  wpAny (model X.prog X.w) X.A (call (.builtin id) (v::us)) (EP X pins σ Q) X.xe s
section
variable {X:Cx}{a b:Expr}{ta tb:TE}{pos:Pos}
theorem BH.or {r r':R2} (h:BH X r) (h':BH X r'):BH X (λ x y H Q=>r x y H Q\/r' x y H Q):=by
 intro value slice pins s σ H x y v u Q I rx ry q hs
 rcases q with q | q
 ·exact h value slice pins s σ H x y v u Q I rx ry q hs
 ·exact h' value slice pins s σ H x y v u Q I rx ry q hs
theorem aQ {r:R2} (hr:BH X r) (ha:PE X a ta) (hb:PE X b tb) (hs:G4 b):PE X (.Subscript a b pos) (iG r ta tb):=by
 intro pins s σ H Q I h
 exact Subscript_ (IW ha hb I h λ v u s2 x y H2 I2 rx ry q=>hr a b pins s2 σ H2 x y v u Q I2 rx ry q (hs _ _))
noncomputable def JU (K:PySem.W.Frag):R2:=λ x y H Q=>∃ p xs i v,x=.ref p/\y=.int i/\bR K H p xs/\y6 xs i=some v/\Q v H
noncomputable def JS (K:PySem.W.Frag):R2:=λ x y H Q=>∃ p xs i v,x=.ref p/\y=.int i/\bO K H p xs/\y6 xs i=some v/\Q v H
noncomputable def JT:R2:=λ x y H Q=>∃ z i c,x=.str z/\y=.int i/\z.length<=sizeLine/\y6 z.cps.toList i=some c/\Q (.str ⟨#[c]⟩) H
theorem FT:BH X (JU X.K):=by
 intro value slice pins s σ H x y v u Q I rx ry h hs
 obtain⟨p,xs,i,z,rfl,rfl,hq,he,q⟩:=h
 cases rx
 obtain⟨t,rfl⟩:=ry
 obtain⟨its,r,pl,hz⟩:=I.list hq
 obtain⟨j,h1,h2,h3,h4,h5⟩:=uS he
 obtain⟨w,ew,rw'⟩:=r.get h2
 have hl:=r.length
 have hn:=qN
 have fin:EP X pins σ Q w s:=⟨z,H,I,rw',q⟩
 by_cases h0:0<=i
 ·have hj:i.toNat=j:=by
   rw[seqIndex_of h0 h5] at h1
   exact Option.some.inj h1
  exact item_listR pl.isList h0 (by omega) (by rw[hj];simpa using ew) fin hs
 ·have hj:(i+(its.toArray.size:Int)).toNat=j:=by
   rw[seqIndex_neg (by omega) h4] at h1
   rw[List.size_toArray,<- hl]
   exact Option.some.inj h1
  exact subscriptTail_builtinR (x:=w) pl.isList.typeIs slot_list_getitem.lookup
   (wpAny_getItem_list_neg (Q:=λ r s'=>r=w/\EP X pins σ Q r s') pl.isList (by omega) (by rw[List.size_toArray] <;> omega) (by omega) (by rw[hj];simpa using ew) ⟨rfl,fin⟩) hs
theorem II:BH X (JS X.K):=by
 intro value slice pins s σ H x y v u Q I rx ry h hs
 obtain⟨p,xs,i,z,rfl,rfl,hq,he,q⟩:=h
 cases rx
 obtain⟨t,rfl⟩:=ry
 obtain⟨its,r,pl,hz⟩:=I.tuple hq
 obtain⟨j,h1,h2,h3,h4,h5⟩:=uS he
 obtain⟨w,ew,rw'⟩:=r.get h2
 have hl:=r.length
 have hn:=qN
 have fin:EP X pins σ Q w s:=⟨z,H,I,rw',q⟩
 exact subscriptTail_builtinR (x:=w) pl.typeIs slot_tuple_getitem.lookup
  (getItem_tuple (j:=j) (Q:=λ r s'=>r=w/\EP X pins σ Q r s') pl (by omega) (by omega) (by rw[List.size_toArray,<- hl];exact h1) (by simpa using ew) ⟨rfl,fin⟩) hs
theorem IJ:BH X JT:=by
 intro value slice pins s σ H x y v u Q I rx ry h hs
 obtain⟨z,i,c,rfl,rfl,hz,he,q⟩:=h
 obtain⟨t,rfl⟩:=rx
 obtain⟨t',rfl⟩:=ry
 obtain⟨j,h1,h2,h3,h4,h5⟩:=uS he
 have hl:z.cps.toList.length=z.length:=by simp [Str.length]
 rw[hl] at h1 h4 h5
 have hn:=qN
 exact tail_any (typeIs_str s z t) slot_str_getitem.lookup (getItem_str (c:=c) (by
  have e1:decide (i < -(2 ^ 63:Int))=false:=decide_eq_false (by omega)
  have e2:decide (i ≥ 2 ^ 63)=false:=decide_eq_false (by omega)
  rw[e1,e2,Bool.or_false]) (by rw[h1];simpa using h2) ⟨.str ⟨#[c]⟩,H,I.tok _,⟨_,rfl⟩,q⟩) hs
noncomputable def x9 (K:PySem.W.Frag):R2:=λ x y H Q=>JU K x y H Q\/JS K x y H Q\/JT x y H Q
theorem IK:BH X (x9 X.K):=FT.or (II.or IJ)
theorem xO (its:List Value) (n j:Nat) (u:Value):Obj.mapSeq (·.setIfInBounds j u) { cls:=.type "list",data:=.seq its.toArray n }={ cls:=.type "list",data:=.seq (its.set j u).toArray n }:=by
 simp [Obj.mapSeq]
theorem Inv.lst {pins:List (Addr×Obj)}{σ:St}{H:Hp}{s:Shared}{p:Addr}{xs:List V} (I:Inv X pins σ H s) (h:H p=some (.lst xs)) :
  ∃ (its:List Value) (n:Nat),bY xs its/\s.heap.get? p=some { cls:=.type "list",data:=.seq its.toArray n }/\xs.length<=sizeLine:=by
 obtain⟨z,its,n,r,e⟩:=I.hok p _ h
 exact⟨its,n,r,e,z⟩
theorem Inv.lstUpd {pins:List (Addr×Obj)}{σ:St}{H:Hp}{s:Shared}{p:Addr}{xs ys:List V}{its its':List Value}{n n':Nat}{f:Obj->Obj} (I:Inv X pins σ H s) (h:H p=some (.lst xs))
  (ho:s.heap.get? p=some { cls:=.type "list",data:=.seq its.toArray n }) (hf:f { cls:=.type "list",data:=.seq its.toArray n }={ cls:=.type "list",data:=.seq its'.toArray n' }) (r:bY ys its') (hz:ys.length<=sizeLine) (t:Nat) :
  Inv X pins σ (upd H p (.lst ys)) { s with heap:=s.heap.update p f,toks:=t }:=by
 have e:(s.heap.update p f).get? p=some { cls:=.type "list",data:=.seq its'.toArray n' }:=by
  rw[Heap.get?_update_self f ho (by rw[hf] <;> rfl),hf]
 refine I.write (x:=p) (e:=p) (by rw[h];trivial) (.inl rfl) (λ b u hb q=>(Heap.get?_update_other _ _ (Ne.symm hb)).trans q) ⟨_,e⟩ ?_
 exact⟨hz,its',n',r,e⟩
noncomputable def vG:V->V->V->Hp->(Hp->Prop)->Prop:=λ o i v H Q=>∃ p xs k j,o=.ref p/\i=.int k/\H p=some (.lst xs)/\DC xs.length k=some j/\Q (upd H p (.lst (xs.set j v)))
theorem fR:IY X vG:=by
 intro pins s σ H o i v ov iv u Q I ro ri rv h
 obtain⟨p,xs,k,j,rfl,rfl,hp,hj,q⟩:=h
 cases ro
 obtain⟨t,rfl⟩:=ri
 obtain⟨its,n,r,ho,hz⟩:=I.lst hp
 obtain⟨h1,h2,h3,h4⟩:=yX hj
 have hl:=r.length
 have hn:=qN
 have I':Inv X pins σ (upd H p (.lst (xs.set j v))) { s with heap:=s.heap.update p (Obj.mapSeq (·.setIfInBounds j u)) }:=
  I.lstUpd hp ho (xO its n j u) (r.set rv j) (by rw[List.length_set];exact hz) s.toks
 by_cases h0:0<=k
 ·have hk:k.toNat=j:=by
   rw[seqIndex_of h0 h4] at h1
   exact Option.some.inj h1
  exact PySem.W.ki_setAt ho h0 (by omega) (by rw[List.size_toArray,<- hl];exact h4) (by rw[hk];exact⟨_,I',q⟩)
 ·have hk:(k+(its.toArray.size:Int)).toNat=j:=by
   rw[seqIndex_neg (by omega) h3] at h1
   rw[List.size_toArray,<- hl]
   exact Option.some.inj h1
  exact PySem.W.ki_setBack ho (by omega) (by rw[List.size_toArray,<- hl];exact h3) (by omega) (by rw[hk];exact⟨_,I',q⟩)
theorem u5 (lo hi:Option Int) (n:Nat):(sliceBounds lo hi none n).1=((HT.sIx n 0 lo:Nat):Int)/\(sliceBounds lo hi none n).2.1=((HT.sIx n n hi:Nat):Int)/\(sliceBounds lo hi none n).2.2=1:=by
 refine⟨?_,?_,rfl⟩
 ·cases lo with
  | none=>simp [sliceBounds,HT.sIx]
  | some i=>
   simp only [sliceBounds,HT.sIx,Option.getD_none,show (1:Int) > 0 by decide,if_true]
   by_cases h:i < 0
   ·simp only [h,if_true] <;> omega
   ·simp only [h,if_false] <;> omega
 ·cases hi with
  | none=>simp [sliceBounds,HT.sIx]
  | some i=>
   simp only [sliceBounds,HT.sIx,Option.getD_none,show (1:Int) > 0 by decide,if_true]
   by_cases h:i < 0
   ·simp only [h,if_true] <;> omega
   ·simp only [h,if_false] <;> omega
theorem rH (its:List Value) (lo hi:Option Int):slicePick its.toArray lo hi none=((its.drop (HT.sIx its.length 0 lo)).take (HT.sIx its.length its.length hi - HT.sIx its.length 0 lo)).toArray:=by
 obtain⟨h1,h2,h3⟩:=u5 lo hi its.toArray.size
 unfold slicePick
 rw[h1,h2,h3]
 simp only [sliceRange_one,pick_run,List.size_toArray] <;> rfl
noncomputable def JP (K:PySem.W.Frag):V->Option Int->Option Int->Hp->VK->Prop:=λ x lo hi H Q=>∃ a xs,x=.ref a/\bR K H a xs/\∀ p,H p=none->Q (.ref p) (upd H p (.lst (kS xs lo hi)))
theorem EQ:KS X (JP X.K):=by
 intro pins s σ H x v vl vu lo hi sl Q I rx hs pl pu h
 obtain⟨a,xs,rfl,hx,q⟩:=h
 cases rx
 obtain⟨its,r,ht,hz⟩:=I.list hx
 have hlen:=r.length
 refine⟨"list",_,slot_list_getitem.lookup,ht.isList.typeIs,?_⟩
 refine wpAny_getItem_list_slice ht.isList hs pl pu .none (by simp) ?_ (by rw[List.size_toArray] <;> omega)
 rw[rH,<- hlen]
 refine⟨.ref s.heap.objs.size,_,I.laid (t':=s.toks) (o:=.lst (kS xs lo hi)) (λ b ob q=>Heap.get?_push_of_some _ q) (Nat.le_refl _) ?_,rfl,q _ (I.hok.fresh (Nat.le_refl _))⟩
 exact⟨Nat.le_trans (oC xs lo hi) hz,_,0,(r.drop (HT.sIx xs.length 0 lo)).take (HT.sIx xs.length xs.length hi - HT.sIx xs.length 0 lo),Heap.get?_push_size _ rfl⟩
noncomputable def gZ:V->Bool
 | .non=>true
 | .bl _=>true
 | .int _=>true
 | .str _=>true
 | _=>false
noncomputable def w4:V->V->Bool
 | .non,.non=>true
 | .bl a,.bl b=>a == b
 | .bl a,.int b=>(if a then 1 else 0) == b
 | .int a,.bl b=>a == (if b then 1 else 0)
 | .int a,.int b=>a == b
 | .str a,.str b=>a == b
 | _,_=>false
theorem IO {A:Around}{s:Shared}{y x:V}{u v:Value} (ry:bL y u) (rx:bL x v) (fy:gZ y=true) (fx:gZ x=true):SeqAt.EqAt A s u v (w4 y x):=by
 cases y with
 | non=>
  cases ry
  cases x with
  | non=>cases rx;exact SeqAt.EqAt.same _
  | bl b=>cases rx;exact SeqAt.EqAt.none_bool b
  | int b=>obtain⟨t,rfl⟩:=rx;exact SeqAt.EqAt.none_int b t
  | str b=>obtain⟨t,rfl⟩:=rx;exact SeqAt.EqAt.none_str b t
  | _=>exact absurd (show false=true from fx) Bool.false_ne_true
 | bl a=>
  cases ry
  cases x with
  | non=>cases rx;exact SeqAt.EqAt.bool_none a
  | bl b=>cases rx;exact SeqAt.EqAt.bool_bool a b
  | int b=>obtain⟨t,rfl⟩:=rx;exact SeqAt.EqAt.bool_int a b t
  | str b=>obtain⟨t,rfl⟩:=rx;exact SeqAt.EqAt.bool_str a b t
  | _=>exact absurd (show false=true from fx) Bool.false_ne_true
 | int a=>
  obtain⟨t',rfl⟩:=ry
  cases x with
  | non=>cases rx;exact SeqAt.EqAt.int_none a t'
  | bl b=>cases rx;exact SeqAt.EqAt.int_bool a t' b
  | int b=>obtain⟨t,rfl⟩:=rx;exact SeqAt.EqAt.int_int a t' b t
  | str b=>obtain⟨t,rfl⟩:=rx;exact SeqAt.EqAt.int_str a t' b t
  | _=>exact absurd (show false=true from fx) Bool.false_ne_true
 | str a=>
  obtain⟨t',rfl⟩:=ry
  cases x with
  | non=>cases rx;exact SeqAt.EqAt.str_none a t'
  | bl b=>cases rx;exact SeqAt.EqAt.str_bool a t' b
  | int b=>obtain⟨t,rfl⟩:=rx;exact SeqAt.EqAt.str_int a t' b t
  | str b=>obtain⟨t,rfl⟩:=rx;exact SeqAt.EqAt.str_str a t' b t
  | _=>exact absurd (show false=true from fx) Bool.false_ne_true
 | _=>exact absurd (show false=true from fy) Bool.false_ne_true
noncomputable def zL (x:V) (u:Value):Bool:=match u with
 | .none=>w4 .non x
 | .bool b=>w4 (.bl b) x
 | .int i _=>w4 (.int i) x
 | .str z _=>w4 (.str z) x
 | _=>false
theorem qV {x y:V}{u:Value} (r:bL y u) (f:gZ y=true):zL x u=w4 y x:=by
 cases y with
 | non=>cases r;rfl
 | bl b=>cases r;rfl
 | int i=>obtain⟨t,rfl⟩:=r;rfl
 | str z=>obtain⟨t,rfl⟩:=r;rfl
 | _=>exact absurd (show false=true from f) Bool.false_ne_true
theorem uT {x:V}:∀ {xs:List V}{us:List Value},bY xs us->xs.all gZ=true->us.any (zL x)=xs.any λ y=>w4 y x
 | _,_,.nil,_=>rfl
 | y::xs,u::us,.cons r t,f=>by
  rw[List.all_cons,Bool.and_eq_true] at f
  rw[List.any_cons,List.any_cons,qV r f.1,uT t f.2]
theorem jR {A:Around}{s:Shared}{x:V}{v:Value} (rx:bL x v) (fx:gZ x=true):∀ {xs:List V}{us:List Value},bY xs us->xs.all gZ=true->∀ u∈us,SeqAt.EqAt A s u v (zL x u)
 | _,_,.nil,_=>λ u hu=>by cases hu
 | y::xs,u::us,.cons r t,f=>λ u' hu=>by
  rw[List.all_cons,Bool.and_eq_true] at f
  rcases List.mem_cons.mp hu with rfl | hu
  ·rw[qV r f.1];exact IO r rx f.1 fx
  ·exact jR rx fx t f.2 u' hu
noncomputable def inV (x:V) (xs:List V):Bool:=xs.any λ y=>w4 y x
noncomputable def rIn (K:PySem.W.Frag) (neg:Bool):R2:=λ x y H Q=>∃ p xs,y=.ref p/\(bR K H p xs\/bO K H p xs)/\gZ x=true/\xs.all gZ=true/\Q (.bl (if neg then !inV x xs else inV x xs)) H
theorem AF:iU X (compareOp .In) (rIn X.K false):=by
 intro pins s σ H x y v u Q I rx ry h
 obtain⟨p,xs,rfl,hq,fx,fs,q⟩:=h
 cases ry
 rcases hq with hq | hq
 ·obtain⟨its,r,pl,hz⟩:=I.list hq
  refine SeqAt.in_listAt (zL x) pl.isList (λ w hw=>jR rx fx r fs w (by simpa using hw)) ⟨.bl _,H,I,rfl,?_⟩
  rw[show its.toArray.any (zL x)=its.any (zL x) by simp,uT r fs]
  exact q
 ·obtain⟨its,r,pl,hz⟩:=I.tuple hq
  refine SeqAt.in_tupleAt (zL x) pl (λ w hw=>jR rx fx r fs w (by simpa using hw)) ⟨.bl _,H,I,rfl,?_⟩
  rw[show its.toArray.any (zL x)=its.any (zL x) by simp,uT r fs]
  exact q
theorem uQ:g7 X (.builtin "len") (λ xs H Q=>∃ p ys,xs=[.ref p]/\(bR X.K H p ys\/bO X.K H p ys)/\Q (.int ys.length) H):=by
 intro pins s σ H xs us Q I r h
 obtain⟨p,ys,rfl,hq,q⟩:=h
 obtain⟨u,rfl,rx⟩:=oY r
 cases rx
 have hn:=qN
 rcases hq with hq | hq
 ·obtain⟨its,r',pl,hz⟩:=I.list hq
  have hlen:=r'.length
  exact Calls.call_len_list pl.isList (by simp only [List.size_toArray] <;> omega) ⟨.int ys.length,H,I.tok _,⟨s.toks+1,by rw[List.size_toArray,hlen]⟩,q⟩
 ·obtain⟨its,r',pl,hz⟩:=I.tuple hq
  have hlen:=r'.length
  exact len_tuple pl (by simp only [List.size_toArray] <;> omega) ⟨.int ys.length,H,I.tok _,⟨s.toks+1,by rw[List.size_toArray,hlen]⟩,q⟩
theorem uP:g7 X (.type "list") (λ xs H Q=>∃ p ys,xs=[.ref p]/\(bR X.K H p ys\/bO X.K H p ys)/\∀ l,H l=none->Q (.ref l) (upd H l (.lst ys))):=by
 intro pins s σ H xs us Q I r h
 obtain⟨p,ys,rfl,hq,q⟩:=h
 obtain⟨u,rfl,rx⟩:=oY r
 cases rx
 have fin:∀ (its:List Value),bY ys its->ys.length<=sizeLine->∀ (h':Heap) (c':Nat),(∀ b o',s.heap.get? b=some o'->h'.get? b=some o')->
   h'.get? s.heap.objs.size=some { cls:=.type "list",dict:=none,data:=.seq its.toArray c',slots:=#[] }->EP X pins σ Q (.ref s.heap.objs.size) { s with heap:=h' }:=λ its r' hz h' c' kp e=>
  ⟨.ref s.heap.objs.size,_,I.laid (t':=s.toks) kp (Nat.le_refl _) (show d4 X.prog X.w _ h' _ (.lst ys) from ⟨hz,its,c',r',e⟩),rfl,q _ (I.hok.fresh (Nat.le_refl _))⟩
 rcases hq with hq | hq
 ·obtain⟨its,r',pl,hz⟩:=I.list hq
  have hlen:=r'.length
  obtain⟨o,ho,hc,n,hd⟩:=pl.isList
  exact call_list_seq p (.inl rfl) ho hc hd (λ h' c' kp e=>fin its r' hz h' c' kp e) (by simp only [List.size_toArray] <;> omega)
 ·obtain⟨its,r',pl,hz⟩:=I.tuple hq
  have hlen:=r'.length
  obtain⟨o,ho,hc,n,hd⟩:=pl
  exact call_list_seq p (.inr rfl) ho hc hd (λ h' c' kp e=>fin its r' hz h' c' kp e) (by simp only [List.size_toArray] <;> omega)
theorem rS:g7 X (.type "tuple") (λ xs H Q=>∃ p ys,xs=[.ref p]/\((bR X.K H p ys/\∀ l,H l=none->Q (.ref l) (upd H l (.tup ys)))\/(bO X.K H p ys/\Q (.ref p) H))):=by
 intro pins s σ H xs us Q I r h
 obtain⟨p,ys,rfl,h⟩:=h
 obtain⟨u,rfl,rx⟩:=oY r
 cases rx
 rcases h with ⟨hq,q⟩ | ⟨hq,q⟩
 ·obtain⟨its,r',pl,hz⟩:=I.list hq
  have hlen:=r'.length
  refine call_tuple_list pl.isList (λ h' kp=>?_) (by simp only [List.size_toArray] <;> omega)
  have I1:Inv X pins σ H { s with heap:=h' }:=I.kept (t':=s.toks) kp
  have I2:Inv X pins σ (upd H h'.objs.size (.tup ys)) { s with heap:=h'.push { cls:=.type "tuple",data:=.seq its.toArray } }:=
   I1.laid (t':=s.toks) (λ b o e=>Heap.get?_push_of_some _ e) (Nat.le_refl _) (show d4 X.prog X.w _ _ _ (.tup ys) from ⟨hz,its,r',IsTup.new _ _⟩)
  exact⟨.ref h'.objs.size,_,I2,rfl,q _ (I1.hok.fresh (Nat.le_refl _))⟩
 ·obtain⟨its,r',pl,hz⟩:=I.tuple hq
  exact call_tuple_same pl ⟨.ref p,H,I,rfl,q⟩
noncomputable def tyV (K:PySem.W.Frag) (T:String) (x:V) (H:Hp):Prop:=match x with
 | .str _=>T = "str"
 | .int _=>T = "int"
 | .ref p=>(T = "list" /\ ∃ xs,bR K H p xs)\/(T = "tuple" /\ ∃ o,K.lookup p=some o/\o.cls=.type "tuple" /\ o.dict=none)\/
   (T = "dict" /\ ((∃ kvs,H p=some (.dK kvs))\/∃ kvs,H p=some (.dT kvs)))\/(T = "set" /\ ∃ S n,H p=some (.set S n))
 | _=>False
theorem GX {pins:List (Addr×Obj)}{σ:St}{H:Hp}{s:Shared}{T:String}{x:V}{v:Value} (I:Inv X pins σ H s) (r:bL x v) (ty:tyV X.K T x H) :
  s.TypeIs v T/\∀ a,v=.ref a->∃ ob,s.heap.get? a=some ob/\ob.dict=none:=by
 cases x with
 | str z=>
  obtain⟨t,rfl⟩:=r
  cases (show T = "str" from ty)
  exact⟨typeIs_str s z t,λ _ e=>nomatch e⟩
 | int i=>
  obtain⟨t,rfl⟩:=r
  cases (show T = "int" from ty)
  exact⟨typeIs_int s i t,λ _ e=>nomatch e⟩
 | ref p=>
  cases r
  rcases ty with ⟨rfl,xs,hq⟩ | ⟨rfl,o,hk,hc,hd⟩ | ⟨rfl,hk⟩ | ⟨rfl,S,n,hk⟩
  ·obtain⟨its,_,pl,_⟩:=I.list hq
   refine⟨pl.isList.typeIs,λ a e=>?_⟩
   cases e
   obtain⟨o,n,e,c,hd,_⟩:=pl
   exact⟨o,e,hd⟩
  ·refine⟨⟨o,I.kIn p o hk,hc⟩,λ a e=>?_⟩
   cases e
   exact⟨o,I.kIn _ o hk,hd⟩
  ·have z:∃ o,s.heap.get? p=some o/\o.ExactDict:=by
    rcases hk with ⟨kvs,hk⟩ | ⟨kvs,hk⟩
    ·obtain⟨_,_,_,_,o,_,_,e,ex,_⟩:=I.hok p _ hk
     exact⟨o,e,ex⟩
    ·obtain⟨_,_,_,_,o,_,_,e,ex,_⟩:=I.hok p _ hk
     exact⟨o,e,ex⟩
   obtain⟨o,e,ex⟩:=z
   refine⟨⟨o,e,ex.1⟩,λ a e2=>?_⟩
   cases e2
   exact⟨o,e,ex.2.1⟩
  ·obtain⟨o,_,_,_,e,ex,_⟩:=I.hok p _ hk
   refine⟨⟨o,e,ex.1⟩,λ a e2=>?_⟩
   cases e2
   exact⟨o,e,ex.2.1⟩
 | _=>exact False.elim ty
noncomputable def tBM (K:PySem.W.Frag) (T:String) (r:V->List V->Hp->VK->Prop) (to:TE) (t:TA):TE:=λ σ H Q=>to σ H λ x H1=>tyV K T x H1/\t σ H1 λ xs H2=>r x xs H2 Q
variable {o e:Expr}{es:List Expr}{to:TE}{t:TA}{name:Str}{apos cpos:Pos}{T id:String}{r:V->List V->Hp->VK->Prop}
theorem K0 (pa:PlainAttrs T) (slot:Slot T name id) (hty:typeOf (.builtin id)=pure (.type "method_descriptor")) (hm:MtR X id r) (ho:PE X o to) (ha:PA X (e::es) t)
  (hbase:attributeBase o name X.env (eval o X.env)=eval o X.env:=by rfl)
  (hfew:((backTo cpos (starEach (e::es) X.env)).all (λ x=>!x.1) && (backToKw cpos (keywordEach [] X.env)).all (λ x=>x.1.isSome)
   && decide ((e::es).length+([]:List Keyword).length+(if ([]:List Keyword).isEmpty then 0 else 1) < 30))=true:=by rfl)
  (hline:(apos.endLine == cpos.line)=true:=by rfl) (hs:starEach (e::es) X.env=(false,eval e X.env)::starEach es X.env:=by rfl) (hplain:(backTo cpos (starEach es X.env)).any (·.1)=false:=by rfl) :
  PE X (.Call (.Attribute o name apos) (e::es) [] cpos) (tBM X.K T r to t):=by
 intro pins s σ H Q I h
 refine wpAny_Call_method_late hbase hfew hline rfl (cX (ho pins s σ H _ I h) λ v s1 ⟨x,H1,I1,r1,ty,q1⟩=>?_)
 obtain⟨h1,h2⟩:=GX I1 r1 ty
 refine⟨T,id,pa,slot,hty,h1,h2,?_⟩
 have hA:=ha cpos pins s1 σ H1 _ I1 q1
 rw[hs] at hA ⊢
 refine Calls.callWith_builtin (by show (false || (backTo cpos (starEach es X.env)).any (·.1))=false;rw[hplain] <;> rfl) (Calls.evalArgs_plain ?_)
 exact cX hA λ us s2 ⟨vs,H2,I2,r2,q2⟩=>hm pins s2 σ H2 x vs v us Q I2 r1 r2 q2
end
end L2
namespace L2
open PySem PySem.Spec PyProof.Rows
noncomputable def MtM (X:Cx) (id:String) (r:V->List V->Hp->VK->Prop):Prop:=
 ∀ (pins:List (Addr×Obj)) (s:Shared) (σ:St) (H:Hp) (x:V) (xs:List V) (v:Value) (us:List Value) (Q:VK),Inv X pins σ H s->bL x v->bY xs us->r x xs H Q->
  wpAny (model X.prog X.w) X.A (call (.builtin id) (v::us)) (EP X pins σ Q) X.xe s
theorem bY.one {x:V}{us:List Value} (h:bY [x] us):∃ u,us=[u]/\bL x u:=oY h
theorem bY.two {x y:V}{us:List Value} (h:bY [x,y] us):∃ u v,us=[u,v]/\bL x u/\bL y v:=yA h
theorem bY.rep {xs:List V}{us:List Value} (h:bY xs us):∀ k:Nat,bY (List.replicate k xs).flatten (List.replicate k us).flatten
 | 0=>.nil
 | k+1=>by
  rw[List.replicate_succ,List.replicate_succ,List.flatten_cons,List.flatten_cons]
  exact bY.append h (bY.rep h k)
theorem sZ (its:List Value):∀ (k:Nat) (acc:List Value),
  List.foldl (λ x1 x2=>x1++x2) acc.toArray (List.replicate k its.toArray)=(acc++(List.replicate k its).flatten).toArray
 | 0,acc=>by simp
 | k+1,acc=>by
  have e:acc.toArray++its.toArray=(acc++its).toArray:=by simp
  have e2:(acc++its)++(List.replicate k its).flatten=acc++(List.replicate (k+1) its).flatten:=by
   rw[List.replicate_succ,List.flatten_cons,List.append_assoc]
  rw[<- e2,<- sZ its k (acc++its),<- e,List.replicate_succ,List.foldl_cons]
section
variable {X:Cx}{pins:List (Addr×Obj)}{σ:St}{H:Hp}{s:Shared}{l b:Addr}{xs ys zs:List V}
theorem Inv.lset {its its':List Value}{n:Nat}{f:Array Value->Array Value}{t':Nat} (I:Inv X pins σ H s) (hH:H l=some (.lst xs))
  (e:s.heap.get? l=some { cls:=.type "list",data:=.seq its.toArray n }) (hf:f its.toArray=its'.toArray) (hv:bY ys its') (hz:ys.length<=sizeLine) :
  Inv X pins σ (upd H l (.lst ys)) { s with heap:=s.heap.update l (Obj.mapSeq f),toks:=t' }:=by
 have q:=PySem.IsL.update e f
 rw[hf] at q
 refine I.write (x:=l) (e:=l) (by rw[hH];exact trivial) (.inl rfl) (λ b' u hb hu=>(Heap.get?_update_other s.heap (Obj.mapSeq f) (Ne.symm hb)).trans hu) ⟨_,q⟩ ?_
 exact⟨hz,its',_,hv,q⟩
theorem Inv.lnew {its:List Value}{t':Nat} (I:Inv X pins σ H s) (hv:bY ys its) (hz:ys.length<=sizeLine) :
  Inv X pins σ (upd H s.heap.objs.size (.lst ys)) { s with heap:=s.heap.push { cls:=.type "list",data:=.seq its.toArray },toks:=t' }:=
 I.laid (λ _ _ q=>Heap.get?_push_of_some _ q) (Nat.le_refl _) ⟨hz,its,0,hv,Heap.get?_push_size _ rfl⟩
theorem Inv.fresh (I:Inv X pins σ H s):H s.heap.objs.size=none:=I.hok.fresh (Nat.le_refl _)
theorem Inv.lstM (I:Inv X pins σ H s) (hH:H l=some (.lst xs)):xs.length<=sizeLine/\∃ (its:List Value) (n:Nat),bY xs its/\xs.length=its.length/\s.heap.get? l=some { cls:=.type "list",data:=.seq its.toArray n }:=by
 obtain⟨z,its,n,r,e⟩:=I.hok l _ hH
 exact⟨z,its,n,r,r.length,e⟩
end
section
variable {X:Cx}
noncomputable def EV:V->List V->Hp->VK->Prop:=λ x vs H Q=>∃ l xs y,x=.ref l/\vs=[y]/\H l=some (.lst xs)/\xs.length < sizeLine/\Q .non (upd H l (.lst (xs++[y])))
theorem cY:MtM X "list.append" EV:=by
 intro pins s σ H x vs v us Q I rx rv h
 obtain⟨l,xs,y,rfl,rfl,hH,hz,q⟩:=h
 cases rx
 obtain⟨u,rfl,ru⟩:=rv.one
 obtain⟨z,its,n,r,hl,e⟩:=I.lstM hH
 refine call_meets F.slot_list_append ⟨_,e,rfl⟩ F.entry_list_append (F.args_list_append_2 _ _) (PySem.list_append l its.toArray n u (by rw[List.size_toArray];omega)) ⟨e,?_⟩
 refine⟨.non,_,I.lset (its':=its++[u]) hH e (by simp) (r.append (.cons ru .nil)) ?_,rfl,q⟩
 rw[List.length_append,List.length_singleton]
 omega
noncomputable def rCat:R2:=λ x y H Q=>∃ l b xs zs,x=.ref l/\y=.ref b/\H l=some (.lst xs)/\H b=some (.lst zs)/\xs.length+zs.length<=sizeLine/\∀ p,H p=none->Q (.ref p) (upd H p (.lst (xs++zs)))
theorem xG:iU X (binaryOp .Add) rCat:=by
 intro pins s σ H x y v u Q I rx ry h
 obtain⟨l,b,xs,zs,rfl,rfl,hH,hB,hz,q⟩:=h
 cases rx
 cases ry
 obtain⟨z,its,n,r,hl,e⟩:=I.lstM hH
 obtain⟨z2,its2,n2,r2,hl2,e2⟩:=I.lstM hB
 refine PySem.P.add_list e e2 ?_ (by rw[List.size_toArray,List.size_toArray];omega)
 have ea:its.toArray++its2.toArray=(its++its2).toArray:=by simp
 rw[ea]
 exact⟨.ref _,_,I.lnew (t':=s.toks) (r.append r2) (by rw[List.length_append];omega),rfl,q _ I.fresh⟩
theorem yV {aq:Type} (xs:List aq) (k:Nat):(List.replicate k xs).flatten.length=k * xs.length:=by
 induction k with
 | zero=>simp
 | succ k ih=>rw[List.replicate_succ,List.flatten_cons,List.length_append,ih,Nat.succ_mul,Nat.add_comm]
end
section
variable {prog:Program}{w:World}{A:Around}{E:Value->Shared->Prop}{s:Shared}
end
section
variable {X:Cx}
end
end L2
namespace L2
open PySem PySem.Spec PyProof.Rows
section
variable {az:Type} [DecidableEq az]
noncomputable def dH (kvs:List (az×V)) (k:az):Option V:=(kvs.find? λ kv=>decide (kv.1=k)).map (·.2)
noncomputable def fN (kvs:List (az×V)) (k:az) (v:V):List (az×V):=
 if (kvs.any λ kv=>decide (kv.1=k))=true then kvs.map (λ kv=>if kv.1=k then (kv.1,v) else kv) else kvs++[(k,v)]
theorem dO {p:az×V}{r:List (az×V)}{k:az} (e:p.1=k):dH (p::r) k=some p.2:=by simp [dH,List.find?_cons,e]
theorem dC {p:az×V}{r:List (az×V)}{k:az} (e:¬ p.1=k):dH (p::r) k=dH r k:=by simp [dH,List.find?_cons,e]
theorem i4 (k:az):∀ kvs:List (az×V),(kvs.any λ kv=>decide (kv.1=k))=(dH kvs k).isSome
 | []=>rfl
 | p::r=>by
  rw[List.any_cons]
  by_cases e:p.1=k
  ·simp only [dO e,decide_eq_true e,Bool.true_or,Option.isSome_some]
  ·rw[dC e,decide_eq_false e,Bool.false_or];exact i4 k r
theorem uX (k j:az) (y:V):∀ kvs:List (az×V),dH (kvs.map λ kv=>if kv.1=k then (kv.1,y) else kv) j=(dH kvs j).map λ x=>if j=k then y else x
 | []=>rfl
 | p::r=>by
  have ih:=uX k j y r
  rw[List.map_cons]
  by_cases h:p.1=k
  ·rw[if_pos h]
   by_cases e:p.1=j
   ·rw[dO (p:=(p.1,y)) e,dO e,Option.map_some,if_pos (e.symm.trans h)]
   ·rw[dC (p:=(p.1,y)) e,dC e,ih]
  ·rw[if_neg h]
   by_cases e:p.1=j
   ·rw[dO (p:=p) e,dO e,Option.map_some,if_neg (λ z=>h (e.trans z))]
   ·rw[dC (p:=p) e,dC e,ih]
theorem rZ (k j:az) (y:V):∀ kvs:List (az×V),dH kvs k=none->dH (kvs++[(k,y)]) j=if j=k then some y else dH kvs j
 | [],_=>by
  by_cases e:k=j
  ·rw[if_pos e.symm];exact dO (p:=(k,y)) e
  ·rw[if_neg (λ z=>e z.symm)];exact dC (p:=(k,y)) e
 | p::r,hn=>by
  rw[List.cons_append]
  have hk:¬ p.1=k:=λ z=>by rw[dO z] at hn;cases hn
  rw[dC hk] at hn
  have ih:=rZ k j y r hn
  by_cases e:p.1=j
  ·rw[dO e,dO e,if_neg (λ z=>hk (e.trans z))]
  ·rw[dC e,dC e,ih]
theorem j8 (kvs:List (az×V)) (k j:az) (y:V):dH (fN kvs k y) j=if j=k then some y else dH kvs j:=by
 unfold fN
 by_cases a:(kvs.any λ kv=>decide (kv.1=k))=true
 ·rw[if_pos a,uX]
  rw[i4] at a
  by_cases e:j=k
  ·obtain⟨x,hx⟩:=Option.isSome_iff_exists.mp a
   rw[if_pos e,e,hx,Option.map_some,if_pos rfl]
  ·rw[if_neg e]
   cases dH kvs j with
   | none=>rfl
   | some x=>rw[Option.map_some,if_neg e]
 ·rw[if_neg a]
  refine rZ k j y kvs ?_
  rw[i4] at a
  cases q:dH kvs k with
  | none=>rfl
  | some x=>rw[q] at a;exact (a rfl).elim
theorem fK (kvs:List (az×V)) (k:az) (v:V):(fN kvs k v).length<=kvs.length+1:=by
 unfold fN
 split
 ·rw[List.length_map];omega
 ·rw[List.length_append,List.length_cons,List.length_nil];omega
theorem CL {kvs:List (az×V)}{k:az} (v:V) (h:dH kvs k=none):fN kvs k v=kvs++[(k,v)]:=by
 unfold fN
 rw[i4,h]
 exact if_neg (by decide)
theorem lX.isSome_eq {o:Option V}{u:Option Value} (r:lX o u):o.isSome=u.isSome:=by
 cases o with
 | none=>cases u with
  | none=>rfl
  | some _=>exact (show False from r).elim
 | some _=>cases u with
  | none=>exact (show False from r).elim
  | some _=>rfl
theorem lX.getD {o:Option V}{u:Option Value}{d:V}{d':Value} (r:lX o u) (rd:bL d d'):bL (o.getD d) (u.getD d'):=by
 cases o with
 | none=>cases u with
  | none=>exact rd
  | some _=>exact (show False from r).elim
 | some _=>cases u with
  | none=>exact (show False from r).elim
  | some _=>exact r
theorem KV.val {kvs:List (az×V)}{vs:List (az×Value)} (r:KV kvs vs) (k:az):lX (dH kvs k) (valueAt vs k):=by
 unfold KV at r
 induction r with
 | nil=>exact True.intro
 | @cons p q ps qs h t ih=>
  obtain⟨h1,h2⟩:=h
  by_cases e:p.1=k
  ·have e':q.1=k:=h1.symm.trans e
   have b:valueAt (q::qs) k=some q.2:=by simp [valueAt,List.find?_cons,e']
   rw[dO e,b];exact h2
  ·have e':¬ q.1=k:=λ z=>e (h1.trans z)
   have b:valueAt (q::qs) k=valueAt qs k:=by simp [valueAt,List.find?_cons,e']
   rw[dC e,b];exact ih
theorem KV.any {kvs:List (az×V)}{vs:List (az×Value)} (r:KV kvs vs) (k:az):(kvs.any λ kv=>decide (kv.1=k))=vs.any λ kv=>decide (kv.1=k):=by
 unfold KV at r
 induction r with
 | nil=>rfl
 | cons h t ih=>rw[List.any_cons,List.any_cons,ih,h.1]
theorem KV.repl {kvs:List (az×V)}{vs:List (az×Value)} (r:KV kvs vs) (k:az) {y:V}{u:Value} (ry:bL y u) :
  KV (kvs.map λ kv=>if kv.1=k then (kv.1,y) else kv) (vs.map λ kv=>if kv.1=k then (kv.1,u) else kv):=by
 unfold KV at r ⊢
 induction r with
 | nil=>exact .nil
 | @cons p q ps qs h t ih=>
  rw[List.map_cons,List.map_cons]
  refine .cons ?_ ih
  obtain⟨h1,h2⟩:=h
  by_cases e:p.1=k
  ·rw[if_pos e,if_pos (h1.symm.trans e)];exact⟨h1,ry⟩
  ·rw[if_neg e,if_neg (λ z=>e (h1.trans z))];exact⟨h1,h2⟩
theorem KV.put {kvs:List (az×V)}{vs:List (az×Value)} (r:KV kvs vs) (k:az) {y:V}{u:Value} (ry:bL y u):KV (fN kvs k y) (stored vs k u):=by
 unfold fN stored
 rw[r.any k]
 by_cases e:(vs.any λ kv=>decide (kv.1=k))=true
 ·rw[if_pos e,if_pos e];exact r.repl k ry
 ·rw[if_neg e,if_neg e];exact Paired.snoc r ⟨rfl,ry⟩
theorem KV.length {kvs:List (az×V)}{vs:List (az×Value)} (r:KV kvs vs):kvs.length=vs.length:=Paired.length r
end
theorem qO {P:Program}{w:World}{k:eU}{u:Value} (r:bL (kV k) u):(cZ P w).is k u=true:=by
 cases k with
 | inl i=>obtain⟨t,e⟩:=(show ∃ t,u=Value.int i t from r);subst e;exact vP P w i t
 | inr z=>cases z with
  | some x=>obtain⟨t,e⟩:=(show ∃ t,u=Value.str x t from r);subst e;exact vO P w x t
  | none=>obtain rfl:=(show u=Value.none from r);rfl
theorem sX {P:Program}{w:World}:∀ {ks:List eU}{us:List Value},bY (ks.map kV) us->ItemsAre (cZ P w) ks us
 | [],_,r=>by rw[List.map_nil] at r;cases r;exact .nil
 | k::ks,_,r=>by
  rw[List.map_cons] at r
  cases r with
  | cons h t=>exact .cons (qO h) (sX t)
noncomputable abbrev KT (H:Hp):List (List eU×V)->List (List eU×Addr×Value)->Prop:=Paired λ p q=>p.1=q.1/\H q.2.1=some (.tup (p.1.map kV))/\bL p.2 q.2.2
theorem KT.val {H:Hp}{kvs:List (List eU×V)}{xs:List (List eU×Addr×Value)} (r:KT H kvs xs) (k:List eU):lX (dH kvs k) ((atKey xs k).map (·.2)):=by
 induction r with
 | nil=>exact True.intro
 | @cons p q ps qs h t ih=>
  obtain⟨h1,_,h2⟩:=h
  by_cases e:p.1=k
  ·have e':q.1=k:=h1.symm.trans e
   have b:atKey (q::qs) k=some q.2:=by simp [atKey,List.find?_cons,e']
   rw[dO e,b];exact h2
  ·have e':¬ q.1=k:=λ z=>e (h1.trans z)
   have b:atKey (q::qs) k=atKey qs k:=by simp [atKey,List.find?_cons,e']
   rw[dC e,b];exact ih
theorem KT.repl {H:Hp}{kvs:List (List eU×V)}{xs:List (List eU×Addr×Value)} (r:KT H kvs xs) (k:List eU) {y:V}{u:Value} (ry:bL y u) :
  KT H (kvs.map λ kv=>if kv.1=k then (kv.1,y) else kv) (xs.map (putAt k u)):=by
 induction r with
 | nil=>exact .nil
 | @cons p q ps qs h t ih=>
  rw[List.map_cons,List.map_cons]
  refine .cons ?_ ih
  obtain⟨h1,h2,h3⟩:=h
  unfold putAt
  by_cases e:p.1=k
  ·rw[if_pos e,if_pos (h1.symm.trans e)];exact⟨h1,h2,ry⟩
  ·rw[if_neg e,if_neg (λ z=>e (h1.trans z))];exact⟨h1,h2,h3⟩
theorem KT.put {H:Hp}{kvs:List (List eU×V)}{xs:List (List eU×Addr×Value)} (r:KT H kvs xs) (k:List eU) {b:Addr}{y:V}{u:Value} (hb:H b=some (.tup (k.map kV))) (ry:bL y u) :
  KT H (fN kvs k y) (storedH xs k b u):=by
 have e:(kvs.any λ kv=>decide (kv.1=k))=(atKey xs k).isSome:=by
  rw[i4,(r.val k).isSome_eq,Option.isSome_map]
 unfold fN storedH
 rw[e]
 by_cases q:(atKey xs k).isSome=true
 ·rw[if_pos q,if_pos q];exact r.repl k ry
 ·rw[if_neg q,if_neg q];exact Paired.snoc r ⟨rfl,hb,ry⟩
theorem KT.keeps {H H':Hp}{kvs:List (List eU×V)}{xs:List (List eU×Addr×Value)} (r:KT H kvs xs) (ht:∀ b ys,H b=some (.tup ys)->H' b=some (.tup ys)):KT H' kvs xs:=
 Paired.mapP r λ _ _ z=>⟨z.1,ht _ _ z.2.1,z.2.2⟩
section
variable {P:Program}{w:World}{H:Hp}{h:Heap}{a:Addr}
theorem GB {u:HO} (ok:lK P w H h) (e:Rd H a u):d4 P w H h a u:=e.ok ok
theorem qX {kvs:List (eU×V)} (ok:lK P w H h) (e:Rd H a (.dK kvs)):kvs.length<=sizeLine/\(a == sysModules)=false/\∃ vs,KV kvs vs/\h.DictOf (cZ P w) a vs:=
 show d4 P w H h a (.dK kvs) from GB ok e
theorem zM {kvs:List (eU×V)} (ok:lK P w H h) (e:H a=some (.dK kvs)):kvs.length<=sizeLine/\(a == sysModules)=false/\∃ vs,KV kvs vs/\h.DictOf (cZ P w) a vs:=qX ok (.inl e)
theorem nJ {ks:List eU} (ok:lK P w H h) (e:H a=some (.tup (ks.map kV))):(tupleKind (cZ P w)).is h ks a:=by
 obtain⟨_,its,r,o,h1,h2,n,h3⟩:=(show d4 P w H h a (.tup (ks.map kV)) from ok a _ e)
 exact⟨o,its.toArray,n,h1,h2,h3,by simpa using sX r⟩
theorem qW {kvs:List (List eU×V)} (ok:lK P w H h) (e:Rd H a (.dT kvs)):kvs.length<=sizeLine/\(a == sysModules)=false/\
  ∃ xs,KT H kvs xs/\h.DictOfH (tupleKind (cZ P w)) a xs:=by
 obtain⟨z,y,xs,r,o,es,ep,h1,h2,h3,h4,h5⟩:=(show d4 P w H h a (.dT kvs) from GB ok e)
 refine⟨z,y,xs,r,o,es,ep,h1,h2,h3,h4,λ x hx=>?_,h5⟩
 have all:∀ {l:List (List eU×V)}{m:List (List eU×Addr×Value)},KT H l m->∀ x∈m,(tupleKind (cZ P w)).is h x.1 x.2.1:=by
  intro l m q
  induction q with
  | nil=>intro x hx;exact nomatch hx
  | @cons p q ps qs hq t ih=>
   intro x hx
   rcases List.mem_cons.mp hx with e | hx
   ·subst e
    exact nJ ok (by rw[<- hq.1];exact hq.2.1)
   ·exact ih x hx
 exact all r x hx
theorem KQ {kvs:List (List eU×V)} (ok:lK P w H h) (e:H a=some (.dT kvs)):kvs.length<=sizeLine/\(a == sysModules)=false/\
  ∃ xs,KT H kvs xs/\h.DictOfH (tupleKind (cZ P w)) a xs:=qW ok (.inl e)
end
noncomputable def kT (H:Hp) (a:Addr) (y:V) (r:Option V):Prop:=
 (∃ kvs k,Rd H a (.dK kvs)/\y=kV k/\r=dH kvs k)\/∃ kvs k b,Rd H a (.dT kvs)/\y=.ref b/\H b=some (.tup (k.map kV))/\r=dH kvs k
noncomputable def EE (H:Hp) (a:Addr) (y v:V) (H':Hp):Prop:=
 (∃ kvs k,H a=some (.dK kvs)/\y=kV k/\kvs.length < sizeLine/\H'=upd H a (.dK (fN kvs k v)))\/
 ∃ kvs k b,H a=some (.dT kvs)/\y=.ref b/\H b=some (.tup (k.map kV))/\kvs.length < sizeLine/\H'=upd H a (.dT (fN kvs k v))
theorem kT.k {H:Hp}{a:Addr}{kvs:List (eU×V)}{k:eU} (e:H a=some (.dK kvs)):kT H a (kV k) (dH kvs k):=.inl ⟨kvs,k,.inl e,rfl,rfl⟩
theorem EE.k {H:Hp}{a:Addr}{kvs:List (eU×V)}{k:eU}{v:V} (e:H a=some (.dK kvs)) (hl:kvs.length < sizeLine):EE H a (kV k) v (upd H a (.dK (fN kvs k v))):=.inl ⟨kvs,k,e,rfl,hl,rfl⟩
section
variable {X:Cx}{pins:List (Addr×Obj)}{σ:St}{H:Hp}{s:Shared}{a:Addr}{y v:V}{u r:Value}{o:Option V}{A:Around}{E:Value->Shared->Prop}
theorem Inv.big (I:Inv X pins σ H s):sysModules < s.heap.objs.size:=by
 have h:mainGlobals < s.heap.objs.size:=(I.mod.glob.keeps I.bk).lt
 exact Nat.lt_trans (by decide) h
theorem AZ {Q:Value->Shared->Prop} (hu:A.units+1 < cLine) (I:Inv X pins σ H s) (g:kT H a y (some v)) (ry:bL y u) (h:∀ w' s',Inv X pins σ H s'->bL v w'->Q w' s') :
  wpAny (model X.prog X.w) A (getItem (.ref a) u) Q E s:=by
 rcases g with ⟨kvs,k,e,ey,l⟩ | ⟨kvs,k,b,e,ey,eb,l⟩
 ·subst ey
  obtain⟨z,hd,vs,rel,dd⟩:=qX I.hok e
  obtain⟨w',hw,rw'⟩:=lX.some_of (v:=v) (o:=valueAt vs k) (by rw[l];exact rel.val k)
  exact wpAny_getItem_of (qO ry) dd.mapOf hw (h w' _ (I.tok _) rw')
 ·subst ey
  cases (show u=Value.ref b from ry)
  obtain⟨z,hd,xs,rel,dd⟩:=qW I.hok e
  obtain⟨w',hw,rw'⟩:=lX.some_of (v:=v) (o:=(atKey xs k).map (·.2)) (by rw[l];exact rel.val k)
  obtain⟨p,hp,hp2⟩:=Option.map_eq_some_iff.mp hw
  refine wpAny_getItem_heap (tupleKind_room_in1 hu) (nJ I.hok eb) dd hp ?_
  rw[hp2]
  exact h w' _ (I.tok _) rw'
theorem d_in {Q:Value->Shared->Prop} (hu:A.units+1 < cLine) (I:Inv X pins σ H s) (g:kT H a y o) (ry:bL y u) (h:∀ s',Inv X pins σ H s'->Q (.bool o.isSome) s') :
  wpAny (model X.prog X.w) A (compareOp .In u (.ref a)) Q E s:=by
 rcases g with ⟨kvs,k,e,ey,l⟩ | ⟨kvs,k,b,e,ey,eb,l⟩
 ·subst ey
  obtain⟨z,hd,vs,rel,dd⟩:=qX I.hok e
  refine wpAny_in_of (qO ry) hd dd.mapOf ?_
  rw[<- (rel.val k).isSome_eq,<- l]
  exact h _ (I.tok _)
 ·subst ey
  cases (show u=Value.ref b from ry)
  obtain⟨z,hd,xs,rel,dd⟩:=qW I.hok e
  refine wpAny_in_heap (tupleKind_room_in1 hu) (nJ I.hok eb) hd dd ?_
  have q:=(rel.val k).isSome_eq
  rw[Option.isSome_map] at q
  rw[<- q,<- l]
  exact h _ (I.tok _)
theorem n8 {h':Heap}{t':Nat}{ob:HO} (I:Inv X pins σ H s) (mu:iY (H a)) (hs:Heap.SameBut a s.heap h') (he:∃ q,h'.get? a=some q) (new:d4 X.prog X.w (upd H a ob) h' a ob) :
  Inv X pins σ (upd H a ob) { s with heap:=h',toks:=t' }:=
 I.write (x:=a) (e:=a) mu (.inl rfl) (λ b q hb z=>(hs.2 b hb).trans z) he new
theorem DW {P:Program}{w:World}{H':Hp}{h':Heap}{kvs:List (eU×V)}{vs:List (eU×Value)} (z:kvs.length<=sizeLine) (hd:(a == sysModules)=false) (rel:KV kvs vs) (dd:h'.DictOf (cZ P w) a vs) :
  d4 P w H' h' a (.dK kvs):=⟨z,hd,vs,rel,dd⟩
theorem AY {H':Hp}{Q:Unit->Shared->Prop} (hu:A.units+1 < cLine) (I:Inv X pins σ H s) (g:EE H a y v H') (ry:bL y u) (rv:bL v r) (h:∀ s',Inv X pins σ H' s'->Q () s') :
  wpAny (model X.prog X.w) A (setItem (.ref a) u r) Q E s:=by
 rcases g with ⟨kvs,k,e,ey,l,eH⟩ | ⟨kvs,k,b,e,ey,eb,l,eH⟩
 ·subst ey eH
  obtain⟨z,hd,vs,rel,dd⟩:=zM I.hok e
  have hz:vs.length<=sizeLine:=by rw[<- rel.length];exact z
  have hl:(fN kvs k v).length<=sizeLine:=by have:=fK kvs k v;omega
  refine wpAny_setItem_pairs (hsz:=hz) (qO ry) dd λ h' dd' hs=>h _ ?_
  have he:∃ q,h'.get? a=some q:=let ⟨q,_,_,hq,_⟩:=dd';⟨q,hq⟩
  exact n8 I (by rw[e];exact True.intro) hs he (DW hl hd (rel.put k rv) dd')
 ·subst ey eH
  cases (show u=Value.ref b from ry)
  obtain⟨z,hd,xs,rel,dd⟩:=KQ I.hok e
  have hz:xs.length<=sizeLine:=by rw[<- Paired.length rel];exact z
  have hl:(fN kvs k v).length<=sizeLine:=by have:=fK kvs k v;omega
  refine wpAny_setItem_heap (hsz:=hz) (tupleKind_room_in1 hu) (nJ I.hok eb) dd λ h' dd' hs=>h _ ?_
  obtain⟨q,es,ep,hq,h2,h3,h4,_,h5⟩:=dd'
  refine n8 I (by rw[e];exact True.intro) hs ⟨q,hq⟩ ⟨hl,hd,_,(rel.put k eb rv).keeps λ c ys ec=>?_,q,es,ep,hq,h2,h3,h4,h5⟩
  rw[aO (GM ec e (λ z=>nomatch z))]
  exact ec
end
section
variable {X:Cx}{pins:List (Addr×Obj)}{σ:St}{H:Hp}{s:Shared}{a:Addr}{kvs:List (eU×V)}{k:eU}{u:Value}{A:Around}{E:Value->Shared->Prop}
end
noncomputable def KW (i:Expr):Prop:=∀ ov iv,subscripted i false ov iv=operate [ov,iv] (getItem ov iv)
theorem EM {prog:Program}{w:World}{A:Around}{E:Value->Shared->Prop}{s:Shared}{env:Env}{value slice:Expr}{pos:Pos}{T id:String}{Q:Value->Shared->Prop}
  (hl:typeLookup (.type T) "__getitem__" = pure (some (.builtin id))) (hs:KW slice)
  (h:wpAny (model prog w) A (eval value env) (λ o ag=>wpAny (model prog w) A (eval slice env) (λ i bj=>bj.TypeIs o T/\wpAny (model prog w) A (getItem o i) Q E bj) E ag) E s) :
  wpAny (model prog w) A (eval (.Subscript value slice pos) env) Q E s:=by
 refine Subscript_ (wpAny_mono h (λ o ag ak=>wpAny_mono ak (λ i bj am=>?_) λ _ _ x=>x) λ _ _ x=>x)
 obtain⟨hT,am⟩:=am
 unfold subscriptTail
 refine wpAny_bind ?_
 rw[getitemInPython_of_ne hT.not_modules]
 refine wpAny_bind (wpAny_specialOf hT hl ?_)
 have fin:wpAny (model prog w) A (subscripted slice false o i) (λ r bg=>wpAny (model prog w) A (letTemporaryGo value o r >>= λ _=>pure r) Q E bg) E bj:=by
  rw[hs o i]
  exact wpAny_operating (wpAny_mono am (λ r bg aj=>wpAny_bind (wpAny_letTemporaryGo (wpAny_pure aj))) λ _ _ x=>x)
 first
  | exact wpAny_pure (wpAny_bind fin)
  | exact wpAny_bind (wpAny_pure (wpAny_bind fin))
  | exact wpAny_bind fin
theorem w8 {X:Cx}{pins:List (Addr×Obj)}{σ:St}{H:Hp}{s:Shared}{a:Addr}{y:V}{o:Option V} (I:Inv X pins σ H s) (g:kT H a y o):s.TypeIs (.ref a) "dict" := by
 rcases g with ⟨kvs,k,e,_,_⟩ | ⟨kvs,k,b,e,_,_,_⟩
 ·obtain⟨_,_,vs,_,dd⟩:=qX I.hok e
  exact dd.typeIs
 ·obtain⟨_,_,xs,_,dd⟩:=qW I.hok e
  exact dd.typeIs
noncomputable def JJ (td ty:TE):TE:=λ σ H Q=>td σ H λ x H1=>ty σ H1 λ y H2=>∃ a v,x=.ref a/\kT H2 a y (some v)/\Q v H2
noncomputable def tDIn (ty td:TE):TE:=λ σ H Q=>ty σ H λ y H1=>td σ H1 λ x H2=>∃ a o,x=.ref a/\kT H2 a y o/\Q (.bl o.isSome) H2
noncomputable def JM (td ty tv:TE):TS:=λ D σ H=>tv σ H λ v H1=>td σ H1 λ x H2=>ty σ H2 λ y H3=>∃ a H4,x=.ref a/\EE H3 a y v H4/\D.nx σ H4
section
variable {X:Cx}{o i e value:Expr}{pos pos' tpos:Pos}{td ty tv:TE}
theorem yQ (hu:X.A.units+1 < cLine) (ho:PE X o td) (hi:PE X i ty) (hs:KW i):PE X (.Subscript o i pos) (JJ td ty):=by
 intro pins s σ H Q I h
 refine EM PySem.F.slot_dict_getitem.lookup hs (cX (ho pins s σ H _ I h) λ u s1 ⟨x,H1,I1,rx,q1⟩=>cX (hi pins s1 σ H1 _ I1 q1) λ iv s2 ⟨y,H2,I2,ry,a,v,ex,g,q2⟩=>?_)
 subst ex
 obtain rfl:u=Value.ref a:=rx
 exact⟨w8 I2 g,AZ hu I2 g ry λ w' s3 I3 rw'=>⟨v,H2,I3,rw',q2⟩⟩
theorem HW (hu:X.A.units+1 < cLine) (hi:PE X i ty) (ho:PE X o td):PC X .In i o (tDIn ty td):=by
 intro pins s σ H Q I h
 refine cX (hi pins s σ H _ I h) λ iv s1 ⟨y,H1,I1,ry,q1⟩=>cX (ho pins s1 σ H1 _ I1 q1) λ u s2 ⟨x,H2,I2,rx,a,ov,ex,g,q2⟩=>?_
 subst ex
 obtain rfl:u=Value.ref a:=rx
 exact d_in hu I2 g ry λ s3 I3=>⟨.bl ov.isSome,H2,I3,rfl,q2⟩
theorem EY (hu:X.A.units+1 < cLine) (ho:PE X o td) (hi:PE X i ty) (hv:PE X value tv) (hs:swapsWith value (some (.Subscript o i pos')) pos.line X.env=pure false) :
  PS X (.Assign [.Subscript o i pos'] value pos) (JM td ty tv):=by
 intro pins s σ H D I h
 refine wpAny_Assign_Subscript (cX (hv pins s σ H _ I h) λ r s1 ⟨v,H1,I1,rv,q1⟩=>cX (ho pins s1 σ H1 _ I1 q1) λ u s2 ⟨x,H2,I2,rx,q2⟩=>cX (hi pins s2 σ H2 _ I2 q2) λ iv s3 ⟨y,H3,I3,ry,a,H4,ex,g,q3⟩=>?_) hs
 subst ex
 obtain rfl:u=Value.ref a:=rx
 exact AY hu I3 g ry rv λ s4 I4=>⟨σ,H4,I4,q3⟩
end
theorem w6 {P:Program}{w:World}{H:Hp} (h:Heap) (hb:sysModules < h.objs.size):d4 P w H (h.push { cls:=.type "dict",data:=.dict #[] }) h.objs.size (.dK []):=
 ⟨Nat.zero_le _,beq_eq_false_iff_ne.mpr (Ne.symm (Nat.ne_of_lt hb)),[],.nil,Heap.DictOf.new h⟩
noncomputable def HB:TE:=λ _ H Q=>∀ p,H p=none->Q (.ref p) (upd H p (.dK []))
section
variable {X:Cx}{pos:Pos}
theorem qC:PE X (.Dict [] [] pos) HB:=λ pins s σ H Q I h=>
 wpAny_Dict_empty ⟨.ref s.heap.objs.size,_,I.laid (a:=s.heap.objs.size) (o:=.dK []) (t':=s.toks) (λ _ _ q=>Heap.get?_push_of_some _ q) (Nat.le_refl _) (w6 s.heap I.big),rfl,h _ (I.hok.fresh (Nat.le_refl _))⟩
end
structure M1 (X:Cx) (o:Expr) (m:Str) (apos:Pos) (e:Expr) (cpos:Pos):Prop where
 base:attributeBase o m X.env (eval o X.env)=eval o X.env
 few:((backTo cpos (starEach [e] X.env)).all (λ x=>!x.1) && (backToKw cpos (keywordEach [] X.env)).all (λ x=>x.1.isSome)
  && decide (([e]:List Expr).length+([]:List Keyword).length+(if ([]:List Keyword).isEmpty then 0 else 1) < 30))=true
 line:(apos.endLine == cpos.line)=true
 trees:backTo cpos (starEach [e] X.env)=[(false,eval e X.env)]
structure M2 (X:Cx) (o:Expr) (m:Str) (apos:Pos) (e f:Expr) (cpos:Pos):Prop where
 base:attributeBase o m X.env (eval o X.env)=eval o X.env
 few:((backTo cpos (starEach [e,f] X.env)).all (λ x=>!x.1) && (backToKw cpos (keywordEach [] X.env)).all (λ x=>x.1.isSome)
  && decide (([e,f]:List Expr).length+([]:List Keyword).length+(if ([]:List Keyword).isEmpty then 0 else 1) < 30))=true
 line:(apos.endLine == cpos.line)=true
 trees:backTo cpos (starEach [e,f] X.env)=[(false,eval e X.env),(false,eval f X.env)]
noncomputable def IsD (H:Hp) (a:Addr):Prop:=(∃ kvs,Rd H a (.dK kvs))\/∃ kvs,Rd H a (.dT kvs)
theorem DE {X:Cx}{pins:List (Addr×Obj)}{σ:St}{H:Hp}{s:Shared}{a:Addr} (I:Inv X pins σ H s) (d:IsD H a) :
  s.TypeIs (.ref a) "dict" /\ (∀ b,Value.ref a=.ref b->∃ ob,s.heap.get? b=some ob/\ob.dict=none)/\(a == sysModules)=false:=by
 rcases d with ⟨kvs,e⟩ | ⟨kvs,e⟩
 ·obtain⟨_,hd,vs,_,dd⟩:=qX I.hok e
  refine⟨dd.typeIs,λ b q=>?_,hd⟩
  cases q
  obtain⟨ob,_,_,h1,h2,_⟩:=dd
  exact⟨ob,h1,h2.2.1⟩
 ·obtain⟨_,hd,xs,_,dd⟩:=qW I.hok e
  refine⟨dd.typeIs,λ b q=>?_,hd⟩
  cases q
  obtain⟨ob,_,_,h1,h2,_⟩:=dd
  exact⟨ob,h1,h2.2.1⟩
section
variable {X:Cx}{pins:List (Addr×Obj)}{σ:St}{H:Hp}{s:Shared}{a:Addr}{y d:V}{u r:Value}{o:Option V}{A:Around}{E:Value->Shared->Prop}
theorem IR {Q:Value->Shared->Prop} (hu:A.units+1 < cLine) (I:Inv X pins σ H s) (g:kT H a y o) (ry:bL y u) (h:∀ w' s',Inv X pins σ H s'->bL (o.getD .non) w'->Q w' s') :
  wpAny (model X.prog X.w) A (call (.builtin "dict.get") [.ref a,u]) Q E s:=by
 rcases g with ⟨kvs,k,e,ey,l⟩ | ⟨kvs,k,b,e,ey,eb,l⟩
 ·subst ey
  obtain⟨z,hd,vs,rel,dd⟩:=qX I.hok e
  refine call_meetsIn PySem.F.slot_dict_get dd.typeIs PySem.F.entry_dict_get (PySem.F.args_dict_get_2 _ _) (meets_dict_get (cZ X.prog X.w) a (qO ry) hd) ⟨_,dd.mapOf,h _ _ (I.tok _) ?_⟩
  rw[l]
  exact (rel.val k).getD rfl
 ·subst ey
  cases (show u=Value.ref b from ry)
  obtain⟨z,hd,xs,rel,dd⟩:=qW I.hok e
  refine call_meetsIn PySem.F.slot_dict_get dd.typeIs PySem.F.entry_dict_get (PySem.F.args_dict_get_2 _ _) (meetsH_dict_get (tupleKind (cZ X.prog X.w)) a b hd) ⟨tupleKind_room_in1 hu,k,xs,nJ I.hok eb,dd,h _ _ (I.tok _) ?_⟩
  rw[l]
  exact (rel.val k).getD rfl
theorem IQ {Q:Value->Shared->Prop} (hu:A.units+1 < cLine) (I:Inv X pins σ H s) (g:kT H a y o) (ry:bL y u) (rd:bL d r) (h:∀ w' s',Inv X pins σ H s'->bL (o.getD d) w'->Q w' s') :
  wpAny (model X.prog X.w) A (call (.builtin "dict.get") [.ref a,u,r]) Q E s:=by
 rcases g with ⟨kvs,k,e,ey,l⟩ | ⟨kvs,k,b,e,ey,eb,l⟩
 ·subst ey
  obtain⟨z,hd,vs,rel,dd⟩:=qX I.hok e
  refine call_meetsIn PySem.F.slot_dict_get dd.typeIs PySem.F.entry_dict_get (PySem.F.args_dict_get_3 _ _ _) (meets_dict_get_default (cZ X.prog X.w) a (qO ry) hd r) ⟨_,dd.mapOf,h _ _ (I.tok _) ?_⟩
  rw[l]
  exact (rel.val k).getD rd
 ·subst ey
  cases (show u=Value.ref b from ry)
  obtain⟨z,hd,xs,rel,dd⟩:=qW I.hok e
  refine call_meetsIn PySem.F.slot_dict_get dd.typeIs PySem.F.entry_dict_get (PySem.F.args_dict_get_3 _ _ _) (meetsH_dict_get_default (tupleKind (cZ X.prog X.w)) a b hd r) ⟨tupleKind_room_in1 hu,k,xs,nJ I.hok eb,dd,h _ _ (I.tok _) ?_⟩
  rw[l]
  exact (rel.val k).getD rd
end
noncomputable def HD (td ty:TE):TE:=λ σ H Q=>td σ H λ x H1=>∃ a,x=.ref a/\IsD H1 a/\ty σ H1 λ y H2=>∃ o,kT H2 a y o/\Q (o.getD .non) H2
noncomputable def HC (td ty tx:TE):TE:=λ σ H Q=>td σ H λ x H1=>∃ a,x=.ref a/\IsD H1 a/\ty σ H1 λ y H2=>tx σ H2 λ z H3=>∃ o,kT H3 a y o/\Q (o.getD z) H3
section
variable {X:Cx}{o e f:Expr}{apos cpos:Pos}{td ty tx:TE}
theorem vJ (hu:X.A.units+1 < cLine) (ho:PE X o td) (he:PE X e ty) (m:M1 X o "get" apos e cpos):PE X (.Call (.Attribute o "get" apos) [e] [] cpos) (HD td ty):=by
 intro pins s σ H Q I h
 refine wpAny_Call_method m.base m.few m.line PySem.F.plainAttrs_dict PySem.F.slot_dict_get PySem.F.type_dict_get (cX (ho pins s σ H _ I h) λ u s1 ⟨x,H1,I1,rx,a,ex,d,q1⟩=>?_)
 subst ex
 obtain rfl:u=Value.ref a:=rx
 obtain⟨t1,t2,_⟩:=DE I1 d
 refine⟨t1,t2,?_⟩
 rw[m.trees]
 refine Calls.callWith_builtin rfl (Calls.evalArgs_plain (Calls.spliced_cons (cX (he pins s1 σ H1 _ I1 q1) λ iv s2 ⟨y,H2,I2,ry,ov,g,q2⟩=>Calls.spliced_nil ?_)))
 exact IR hu I2 g ry λ w' s3 I3 rw'=>⟨_,H2,I3,rw',q2⟩
theorem qD (hu:X.A.units+1 < cLine) (ho:PE X o td) (he:PE X e ty) (hf:PE X f tx) (m:M2 X o "get" apos e f cpos):PE X (.Call (.Attribute o "get" apos) [e,f] [] cpos) (HC td ty tx):=by
 intro pins s σ H Q I h
 refine wpAny_Call_method m.base m.few m.line PySem.F.plainAttrs_dict PySem.F.slot_dict_get PySem.F.type_dict_get (cX (ho pins s σ H _ I h) λ u s1 ⟨x,H1,I1,rx,a,ex,d,q1⟩=>?_)
 subst ex
 obtain rfl:u=Value.ref a:=rx
 obtain⟨t1,t2,_⟩:=DE I1 d
 refine⟨t1,t2,?_⟩
 rw[m.trees]
 refine Calls.callWith_builtin rfl (Calls.evalArgs_plain (Calls.spliced_cons (cX (he pins s1 σ H1 _ I1 q1) λ iv s2 ⟨y,H2,I2,ry,q2⟩=>
  Calls.spliced_cons (cX (hf pins s2 σ H2 _ I2 q2) λ fv s3 ⟨z,H3,I3,rz,ov,g,q3⟩=>Calls.spliced_nil ?_))))
 exact IQ hu I3 g ry rz λ w' s4 I4 rw'=>⟨_,H3,I4,rw',q3⟩
end
section
variable {X:Cx}{pins:List (Addr×Obj)}{σ:St}{H:Hp}{s:Shared}{a:Addr}{kvs:List (eU×V)}{A:Around}{E:Value->Shared->Prop}
end
section
variable {X:Cx}{pins:List (Addr×Obj)}{σ:St}{H:Hp}{s:Shared}{a:Addr}{y:V}{u:Value}{A:Around}{E:Value->Shared->Prop}
end
end L2
namespace Att
open PySem PySem.W PySem.Calls PyProof.Rows
theorem oM {P:Params}{h:Heap}:∀ (ns:List Int) (vs:List Value),WellAll P h vs (ns.map WData.int)->IntsAre vs ns:=by
 intro ns
 induction ns with
 | nil=>
  intro vs w
  rw[List.map_nil] at w
  cases w
  exact .nil
 | cons n ns ih=>
  intro vs w
  rw[List.map_cons] at w
  cases w with
  | cons a b=>
   cases a
   exact .cons _ _ (ih _ b)
theorem AA {l:OpenLaw}{n:Nat} (hn:l.most=some n) {P:Params}{h:Heap}{args:List WData}{vals:List Value}
  (hpre:l.row.toRowW.claim.pre args=true) (hwl:WellAll P h vals args) :
  ∃ a vs ns,vals=[Value.ref a]/\args=[WData.list (ns.map WData.int)]/\h.get? a=some { cls:=.type "list",data:=.seq vs.toArray }/\IntsAre vs ns/\ns.length<=n:=by
 have hsh:WShape.hasAll [] args [.list .int]=true:=(pre_splitW hpre).1
 have hc:l.pre.holds [] { args:=args }=true:=(pre_splitW hpre).2
 obtain⟨d,r,rfl,h1,h2⟩:=hasAllW_cons hsh
 obtain rfl:=hasAllW_nil h2
 obtain⟨xs,rfl,h3⟩:=hasW_list h1
 obtain⟨ns,rfl⟩:=items_int h3
 have hlen:ns.length<=n:=by
  unfold OpenLaw.pre at hc
  have h4:(WTm.not (.lt (.lit (.int (n:Int))) (.len (.arg 0)))).holds [] { args:=[.list (ns.map .int)] }=true:=by
   have h4:=(holds_andW hc).1
   rw[hn] at h4
   exact h4
  have h5:=condW_of h4 (w_not (w_lt w_lit (w_len_list (w_arg rfl))))
  rw[List.length_map] at h5
  refine Nat.le_of_not_lt λ q=>?_
  have q':(n:Int) < ((ns.length:Nat):Int):=by omega
  first
   | (rw[decide_eq_true q'] at h5;exact absurd h5 (by decide))
   | (simp at h5;omega)
 cases hwl with
 | cons w1 w2=>
  cases w2
  cases w1 with
  | list ho hall=>exact⟨_,_,ns,rfl,rfl,ho,oM ns _ hall,hlen⟩
theorem AD (l:OpenLaw) (args:List WData):l.row.toRowW.claim.post args (.bool true) args=true:=
 postW_of (r:=l.row.toRowW) (X:=(true == true))
  (show WShape.has [] (.bool true) .bool=true by first | rfl | decide | simp [WShape.has,WShape.arms,WShape.armsAll])
  (show (WTm.eq .res (.lit (.bool true))).value [] { args:=args,res:=some (.bool true),after:=args }=some (.bool (true == true)) from w_eq_bool (w_res rfl) w_lit) rfl
theorem attach_call {l:OpenLaw}{n:Nat}{q:Program}{loose:List Str}{XP:(Str->Option Value)->Heap->Prop}{YP:World->Heap->Prop}{d:DefRec}
  (hn:l.most=some n) (hdf:d.params.defaults=[])
  (call:∀ (w:World) (s₀ ag:Shared) (mg mb:Str->Option Value) (fa:Addr) (o:Obj) (pm cd doc:Value) (a:Addr) (vs:List Value) (ns:List Int),
   Ground q loose [] XP w s₀ mg mb ag.heap->YP w ag.heap->
   ag.heap.get? fa=some o->o.data=.func (docDef d.name d.params d.body d.scope pm cd doc)->ag.heap.CodeRec cd d.name->mg d.name=some (.ref fa)->
   ag.heap.get? a=some { cls:=.type "list",data:=.seq vs.toArray }->IntsAre vs ns->ns.length<=n->ag.gens = #[]->
   codeAny (model l.prog w) callerA (.call (.ref fa) ⟨[.ref a],[]⟩) (λ r s'=>r=.ok (.ret (.bool true))/\OldK ag.heap s'.heap/\s'.os=ag.os/\AllBare s'.gens) ag) :
  WalkO q loose XP YP l.row.toRowW d [] (λ f vs=>PySem.call f vs):=by
 intro w s₀ ag mg mb G Y fa o pm cd doc dV kV ho hd hcd hD hmg hg args vals as hpre hlay hrd hwl hlo
 obtain rfl:dV=.none:=Dflts.none hD hdf
 obtain rfl:kV=.none:=Dflts.noKw hD
 obtain⟨a,vs,ns,rfl,rfl,hobj,hints,hlen⟩:=AA hn hpre hwl
 refine enter_call (codeAny_mono (call w s₀ ag mg mb fa o pm cd doc a vs ns G Y ho (fd_plain hd) hcd hmg hobj hints hlen hg) λ r s' hq=>?_)
 obtain⟨rfl,h2,h3,h4⟩:=hq
 exact⟨.inl ⟨.bool true,.bool true,[],rfl,λ _=>rfl,.bool true,AD l _,λ _=>⟨List.Pairwise.nil,λ _ hm=>(nomatch hm)⟩⟩,h2,h3,h4⟩
section
variable {prog:Program}{w:World}{A:Around}{E:Value->Shared->Prop}{s:Shared}{K:Frag}
end
end Att
namespace L2
open PySem PySem.Spec PyProof.Rows
theorem rY:∀ {vs:List Value}{ns:List Int},IntsAre vs ns->bY (ns.map V.int) vs
 | _,_,.nil=>.nil
 | _,_,.cons n t h=>.cons ⟨t,rfl⟩ (rY h)
noncomputable def J0 (H:Hp):Prop:=∀ b,H b=none\/∃ o xs,H b=some (.frz o (.lst xs))
theorem D6 {P:Program}{w:World}{K:PySem.W.Frag}{mg mb:Str->Option Value}{CX:BE}{k:Nat}{fa a:Addr}{fd:FuncData}{x:Str}{sp:Sp}{ag:Shared}{vs:List Value}{ns:List Int}
  (KX:K.In ag.heap) (hns:ag.heap.Ns mainGlobals mg) (hb:ag.heap.Ns builtinsNs mb) (hbb:∀ x:Str,x ≠ "__name__" -> mb x=bootBuiltins x) (hlim:ag.heap.NoLimit) (hg:ag.gens = #[])
  (ha:ag.heap.get? a=some { cls:=.type "list",data:=.seq vs.toArray }) (hi:IntsAre vs ns) (hl:ns.length<=sizeLine) (hr:Room k callerA)
  (F:∀ base:Heap,K.In base->base.Ns mainGlobals mg->FnOk P w K mg base CX k fa fd [x] sp) (hbind:∀ (s:Shared) (u:Value),BindsTo s fd ⟨[u],[]⟩ [(x,u)])
  (hsp:∀ H:Hp,J0 H->bR K H a (ns.map V.int)->sp [.ref a] H (λ v _=>v=.bl true) λ _ _ _=>False)
  (hCX:∀ H e s',CX [] H ag (λ _ _ _=>False) e s'->False) :
  codeAny (model P w) callerA (.call (.ref fa) ⟨[.ref a],[]⟩) (λ r s'=>r=.ok (.ret (.bool true))/\OldK ag.heap s'.heap/\s'.os=ag.os/\AllBare s'.gens) ag:=by
 have rv:=rY hi
 have lenV:=hi.length
 have core:∀ H:Hp,J0 H->bR K H a (ns.map V.int)->lK P w H ag.heap->(∀ b,H b≠none->b=a)->(H a≠none->K.lookup a=none)->
   codeAny (model P w) callerA (.call (.ref fa) ⟨[.ref a],[]⟩) (λ r s'=>r=.ok (.ret (.bool true))/\OldK ag.heap s'.heap/\s'.os=ag.os/\AllBare s'.gens) ag:=by
  intro H hO hS hok hA hK
  have base_of:∀ {b:Addr}{o:Obj},ag.heap.get? b=some o->H b=none->(uH ag.heap H).get? b=some o:=λ e n=>DH e n
  have noA:∀ {b:Addr}{o:Obj}{es:Array DictEntry}{ep:Nat},ag.heap.get? b=some o->o.data=.dict es ep->H b=none:=λ {b o es ep} e d=>by
   cases q:H b with
   | none=>rfl
   | some u=>
    have e':b=a:=hA b (by rw[q];simp)
    subst e'
    rw[ha] at e;cases e
    have d':Data.seq vs.toArray _=Data.dict es ep:=d
    cases d'
  have nsK:∀ {b:Addr}{m:Str->Option Value},ag.heap.Ns b m->(uH ag.heap H).Ns b m:=λ {b m} ⟨o,es,ep,e,d,r⟩=>⟨o,es,ep,base_of e (noA e d),d,r⟩
  have hKb:K.In (uH ag.heap H):=λ b o e=>base_of (KX b o e) (by
   cases q:H b with
   | none=>rfl
   | some u=>
    have e':b=a:=hA b (by rw[q];simp)
    subst e'
    rw[hK (by rw[q];simp)] at e;cases e)
  have hM:Mod K mg (uH ag.heap H):=⟨hKb,nsK hns,⟨mb,nsK hb,hbb⟩,let ⟨mc,h1,h2⟩:=hlim;⟨mc,nsK h1,h2⟩⟩
  have e0:Env0 P w K mg (uH ag.heap H) callerA [] ag H:=⟨rfl,hM,λ b o e=>FN e,Nat.le_of_eq (AS _ _),trivial,λ b hb=>absurd (show b∈([]:List Addr) from hb) (by simp),hok,.of_eq hg⟩
  refine codeAny_mono ((F _ hKb (nsK hns)).run callerA [] ag H ⟨[.ref a],[]⟩ [.ref a] [.ref a] _ _ hr e0 (hbind ag (.ref a)) (.cons rfl .nil) (hsp H hO hS)) λ r s' h=>?_
  cases r with
  | error e=>exact (hCX H e s' h).elim
  | ok fl=>
   cases fl with
   | next=>exact False.elim h
   | brk=>exact False.elim h
   | cont=>exact False.elim h
   | ret u=>
    obtain⟨v,H',os,bare,un,hok',r',q⟩:=h
    have q':v=.bl true:=q
    subst q'
    obtain rfl:u=Value.bool true:=r'
    refine⟨rfl,OldK.of_keep λ b o e=>?_,os,bare⟩
    cases q:H b with
    | none=>exact un.keep b o e q (by intro z;exact absurd (show b∈([]:List Addr) from z) (by simp)) (by simp)
    | some u=>
     rcases hO b with z | ⟨ob,xs,z⟩
     ·rw[q] at z;cases z
     ·have z2:=un.frzs b ob _ z
      obtain⟨e1,_⟩:=hok b _ z
      obtain⟨e2,_⟩:=hok' b _ z2
      rw[e] at e1;cases e1
      exact e2
 cases hk:K.lookup a with
 | some o=>
  have e:=KX a o hk
  rw[ha] at e
  cases e
  refine core (λ _=>none) (λ _=>.inl rfl) (.inr ⟨_,vs.toArray,_,hk,rfl,rfl,rfl,by rw[List.size_toArray,lenV];exact hl,by simpa using rv⟩) (λ b u z=>by have z':(none:Option HO)=some u:=z;cases z') (λ b z=>absurd rfl z) λ z=>absurd rfl z
 | none=>
  refine core (λ b=>if b=a then some (.frz { cls:=.type "list",data:=.seq vs.toArray } (.lst (ns.map V.int))) else none) (λ b=>?_) (.inl (.inr ⟨{ cls:=.type "list",data:=.seq vs.toArray },if_pos rfl⟩)) (λ b u z=>?_) (λ b z=>?_) λ _=>hk
  ·by_cases hb:b=a
   ·exact .inr ⟨_,_,if_pos hb⟩
   ·exact .inl (if_neg hb)
  ·by_cases hb:b=a
   ·have z':=(if_pos hb).symm.trans z
    cases z'
    subst hb
    exact⟨ha,by rw[List.length_map];exact hl,vs,_,rv,ha⟩
   ·have z':=(if_neg hb).symm.trans z
    cases z'
  ·by_cases hb:b=a
   ·exact hb
   ·exact absurd (if_neg hb) z
end L2
namespace L2
open PySem PySem.Spec PyProof.Rows
theorem walk_of {l:PySem.W.OpenLaw}{n k:Nat}{q:Program}{loose:List Str}{XP:(Str->Option Value)->Heap->Prop}{YP:World->Heap->Prop}{d:DefRec}{K:Params->PySem.W.Frag}{CX:World->BE}{sp:World->Sp}{x:Str}
  (hn:l.most=some n) (hn2:n<=sizeLine) (hdf:d.params.defaults=[]) (hr:Room k callerA)
  (hY:∀ (w:World) (h:Heap),YP w h->(K w.params).In h)
  (F:∀ (w:World) (mg:Str->Option Value) (fa:Addr) (h:Heap),(K w.params).In h->h.Ns mainGlobals mg->mg d.name=some (.ref fa)->
   ∃ fd:FuncData,(∀ (s:Shared) (u:Value),BindsTo s fd ⟨[u],[]⟩ [(x,u)])/\
    ∀ base:Heap,(K w.params).In base->base.Ns mainGlobals mg->FnOk l.prog w (K w.params) mg base (CX w) k fa fd [x] (sp w))
  (hsp:∀ (w:World) (H:Hp) (a:Addr) (ns:List Int),ns.length<=n->J0 H->bR (K w.params) H a (ns.map V.int)->sp w [.ref a] H (λ v _=>v=.bl true) λ _ _ _=>False)
  (hCX:∀ (w:World) (H:Hp) (s:Shared) (e:Value) (s':Shared),CX w [] H s (λ _ _ _=>False) e s'->False) :
  PySem.W.WalkO q loose XP YP l.row.toRowW d [] (λ f vs=>PySem.call f vs):=by
 refine Att.attach_call hn hdf λ w s₀ ag mg mb fa o pm cd doc a vs ns G Y ho hd hcd hmg hobj hints hlen hg=>?_
 have KX:=hY w _ Y
 obtain⟨fd,hb,hF⟩:=F w mg fa _ KX G.T.g hmg
 exact D6 KX G.T.g G.T.b G.T.builtins G.T.nolimit hg hobj hints (Nat.le_trans hlen hn2) hr hF hb (λ H hO hS=>hsp w H a ns hlen hO hS) λ H e s'=>hCX w H ag e s'
end L2
namespace L2
open PySem PySem.Spec PyProof.Rows
noncomputable def bJ (s:Stmt):Arguments:=match s with
 | .FunctionDef _ a _ _ _ _ _ _ _ _=>a
 | _=>{ posonlyargs:=[],args:=[],vararg:=none,kwonlyargs:=[],kw_defaults:=[],kwarg:=none,defaults:=[] }
noncomputable def bG (s:Stmt):List Stmt:=match s with
 | .FunctionDef _ _ b _ _ _ _ _ _ _=>b
 | _=>[]
noncomputable def aK (s:Stmt):Scope:=match s with
 | .FunctionDef _ _ _ _ _ _ sc _ _ _=>sc
 | _=>{ kind:=.function,names:=[],isGenerator:=false,isCoroutine:=false }
noncomputable abbrev j3:BE:=λ _ _ _ _ _ _=>False
noncomputable abbrev E0:XK:=λ _ _ _=>False
theorem KA {X:Cx}:lY j3 X E0:=λ _ _ _ _ _ _ _ h=>h.elim
structure Fun (K:PySem.W.Frag) (x qual:Str) (st:Stmt) (f:Addr) (fd:FuncData):Prop where
 ex:∃ (oc:Value) (od:Option Addr) (kV doc pm:Value) (an:Option Addr) (cdv ct:Value) (osl:Array (Option Value)),
  fd=PySem.W.fnOf x qual (bJ st) (bG st) (aK st) .none kV doc pm an cdv ct/\K.lookup f=some ⟨oc,od,.func fd,osl⟩/\PySem.W.codeIn K cdv qual=true
 kp:PySem.W.keepIn K (.ref f)=true
section
variable {P:Program}{w:World}{K:PySem.W.Frag}{mg:Str->Option Value}{base:Heap}
theorem Fun.ok {x qual:Str}{st:Stmt}{f:Addr}{fd:FuncData}{N ps:List Str}{k:Nat}{sp:Sp} (F:Fun K x qual st f fd) (S:FnScope N ps (aK st)) (len:∀ vs H Q E,sp vs H Q E->vs.length=ps.length)
  (hbody:∀ (cdv:Value) (A:Around) (outer:List Env) (s:Shared) (H:Hp) (vs:List V) (Q:VK) (E:XK),Room k (A.deeper (envOfC qual (aK st) s.heap.objs.size f cdv))->sp vs H Q E->
   ∃ t,wL (w9 j3 P w K mg base N qual (aK st) f cdv A outer s H E).nox (bG st) t/\t { nx:=λ _ H'=>Q .non H',rt:=Q } (mF N vs) H):FnOk P w K mg base j3 (k+1) f fd ps sp:=by
 obtain⟨oc,od,kV,doc,pm,an,cdv,ct,osl,rfl,lk,hcd⟩:=F.ex
 refine GR lk hcd S len λ A outer s H vs Q E hr hsp=>?_
 obtain⟨t,h,q⟩:=hbody cdv A outer s H vs Q E hr hsp
 exact⟨t,h.nox,q⟩
theorem Fun.binds {x qual:Str}{st:Stmt}{f:Addr}{fd:FuncData}{ps:List Str} (F:Fun K x qual st f fd)
  (h:∀ (kV doc pm:Value) (an:Option Addr) (cdv ct:Value) (us:List Value),us.length=ps.length->bindArgs (PySem.W.fnOf x qual (bJ st) (bG st) (aK st) .none kV doc pm an cdv ct) ⟨us,[]⟩=pure (ps.zip us)):rC K fd ps []:=by
 obtain⟨oc,od,kV,doc,pm,an,cdv,ct,osl,rfl,lk,hcd⟩:=F.ex
 exact .all (h kV doc pm an cdv ct)
theorem cD {x qual:Str}{st:Stmt}{f:Addr}{oc:Value}{od an:Option Addr}{osl:Array (Option Value)}{kV doc pm cdv ct:Value} (l:K.lookup f=some ⟨oc,od,.func (PySem.W.fnOf x qual (bJ st) (bG st) (aK st) .none kV doc pm an cdv ct),osl⟩)
  (c:PySem.W.codeIn K cdv qual=true) (k:PySem.W.keepIn K (.ref f)=true):Fun K x qual st f (PySem.W.fnOf x qual (bJ st) (bG st) (aK st) .none kV doc pm an cdv ct):=⟨⟨oc,od,kV,doc,pm,an,cdv,ct,osl,rfl,l,c⟩,k⟩
end
theorem zB {A:Around}{k:Nat} (hr:Room k A):A.units+1 < cLine:=Nat.lt_of_le_of_lt (Nat.add_le_add_left (by decide:1<=64) _) hr.units
theorem aP {n:Nat} (h:n<=1000):n < sizeLine:=Nat.lt_of_le_of_lt h (by decide)
section
variable {X:Cx}
theorem pv (i:Nat) {x:Str}{pos:Pos} (hN:X.N[i]? = some x:=by rfl) (hv:Vis X.env.scope x:=by first | exact Or.inl rfl | exact Or.inr (Or.inl rfl) | exact Or.inr (Or.inr rfl)) (hd:(x == ("__debug__" : Str))=false:=by decide)
  (hcd:(x == ("__classdict__" : Str))=false:=by decide):PE X (.Name x pos) (dP i):=HU hN hv hd hcd
end
theorem j5 {A B:Prop} (h:B):if false=true then A else B:=by
 rw[if_neg Bool.false_ne_true]
 exact h
theorem jT {A B:Prop} (h:A):if true=true then A else B:=by
 rw[if_pos rfl]
 exact h
theorem hX {c A B:Prop} [Decidable c] (h1:c->A) (h2:¬ c->B):if c then A else B:=by
 by_cases h:c
 ·rw[if_pos h]
  exact h1 h
 ·rw[if_neg h]
  exact h2 h
theorem KH {c A B:Prop} [Decidable c] (hc:c) (h:B):if (!decide c)=true then A else B:=by
 rw[decide_eq_true hc]
 exact j5 h
noncomputable def aH (H H':Hp):Prop:=∀ b o,H b=some o->H' b=some o
theorem aH.refl (H:Hp):aH H H:=λ _ _ h=>h
theorem aH.trans {H H1 H2:Hp} (a:aH H H1) (b:aH H1 H2):aH H H2:=λ c o h=>b c o (a c o h)
theorem aH.free {H H':Hp} (e:aH H H') {l:Addr} (h:H' l=Option.none):H l=Option.none:=by
 cases q:H l with
 | none=>rfl
 | some o=>
  rw[e l o q] at h
  cases h
theorem aH.seq {K:PySem.W.Frag}{H H':Hp}{a:Addr}{xs:List V} (e:aH H H') (h:bR K H a xs):bR K H' a xs:=by
 rcases h with (h | ⟨o,h⟩) | h
 ·exact .inl (.inl (e _ _ h))
 ·exact .inl (.inr ⟨o,e _ _ h⟩)
 ·exact .inr h
end L2
set_option maxHeartbeats 4000000
namespace L2
open PySem PySem.Spec PyProof.Rows
theorem eW {env:Env} (hk:env.scope.kind=.function):∀ {names:List (Str×NameKind)}{x:Str},names.lookup x=some .free->env.kindOf x=some .cell->
  (names.map λ (n,k)=>if (k == NameKind.free && env.scope.kind == .function && env.kindOf n == some .cell) then (n,NameKind.cell) else (n,k)).lookup x=some .cell
 | [],_,h,_=>by simp at h
 | (n,k)::r,x,h,hc=>by
  have ih:=@eW env hk r x
  show List.lookup x ((if (k == NameKind.free && env.scope.kind == .function && env.kindOf n == some .cell)=true then (n,NameKind.cell) else (n,k))::_)=_
  cases hx:x == n with
  | true=>
   simp only [List.lookup_cons,hx] at h
   cases h
   have e:x=n:=by simpa using hx
   subst e
   rw[if_pos (by rw[hk,hc];decide)]
   simp [List.lookup_cons]
  | false=>
   simp only [List.lookup_cons,hx] at h
   by_cases hq:(k == NameKind.free && env.scope.kind == .function && env.kindOf n == some .cell)=true
   ·rw[if_pos hq];simp only [List.lookup_cons,hx];exact ih h hc
   ·rw[if_neg hq];simp only [List.lookup_cons,hx];exact ih h hc
noncomputable def BD (env:Env):List (Str×Addr)->Prop
 | []=>True
 | p::r=>env.cells.lookup p.1=some p.2/\BD env r
theorem BD.get {env:Env}:∀ {cl:List (Str×Addr)},BD env cl->∀ x c,cl.lookup x=some c->env.cells.lookup x=some c
 | [],_,_,_,e=>by simp at e
 | (n,a)::r,h,x,c,e=>by
  cases hx:x == n with
  | true=>
   simp only [List.lookup_cons,hx] at e
   cases e
   have e':x=n:=by simpa using hx
   subst e'
   exact h.1
  | false=>
   simp only [List.lookup_cons,hx] at e
   exact BD.get h.2 x c e
noncomputable def uV (X:Cx) (scope:Scope) (N':List Str):List (Option Nat)->Nat->Prop
 | [],_=>True
 | none::r,i=>uV X scope N' r (i+1)
 | some j::r,i=>(∃ x,N'[i]? = some x/\X.N[j]? = some x/\scope.names.lookup x=some .free/\X.env.kindOf x=some .cell)/\uV X scope N' r (i+1)
theorem uV.get {X:Cx}{scope:Scope}{N':List Str}:∀ {fr:List (Option Nat)}{k:Nat},uV X scope N' fr k->∀ i j,fr[i]? = some (some j)->
  ∃ x,N'[k+i]? = some x/\X.N[j]? = some x/\scope.names.lookup x=some .free/\X.env.kindOf x=some .cell
 | [],_,_,i,j,e=>by simp at e
 | none::r,k,h,0,j,e=>by simp at e
 | some _::r,k,h,0,j,e=>by simp at e;subst e;exact h.1
 | none::r,k,h,i+1,j,e=>by
  have:=uV.get (k:=k+1) (show uV X scope N' r (k+1) from h) i j (by simpa using e)
  rwa [Nat.add_right_comm] at this
 | some _::r,k,h,i+1,j,e=>by
  have:=uV.get (k:=k+1) h.2 i j (by simpa using e)
  rwa [Nat.add_right_comm] at this
structure LcOk (X:Cx) (scope:Scope) (cl:List (Str×Addr)) (N':List Str) (fr:List (Option Nat)):Prop where
 clos:closureFor scope X.env=pure cl
 cls:BD X.env cl
 kind:scope.kind=.function
 nocell:(scope.names.all λ p=>p.2 != NameKind.cell)=true
 locs:(scope.names.all λ p=>p.2 != NameKind.local || scope.names.lookup p.1 == some NameKind.local)=true
 frees:(scope.names.all λ p=>p.2 != NameKind.free || (cl.lookup p.1).isSome)=true
 len:fr.length=N'.length
 fr:uV X scope N' fr 0
noncomputable def qT (fr:List (Option Nat)) (σ:St):St:=fr.map λ o=>o.bind λ j=>(σ[j]?).join
noncomputable def kQ (X:Cx) (N':List Str) (scope:Scope) (cl:List (Str×Addr)) (fp:List Addr) (s:Shared) (H:Hp):Cx:=
 { X with N:=N',s₀:=s,H₀:=H,env:=compEnvC scope cl s.heap.objs.size X.env,outer:=X.stack,ex:=fp,fn:=λ _=>false,pn:=[] }
noncomputable def G5 (X:Cx) (ifs:List Expr) (t:TT):Prop:=
 ∀ (pins:List (Addr×Obj)) (s:Shared) (σ:St) (H:Hp) (Q:Bool->Hp->Prop),Inv X pins σ H s->t σ H Q->
  wpAny (model X.prog X.w) X.A (forIn ifs true λ c r=>if r=true then do let ok <- isTrue c X.env (eval c X.env);pure (ForInStep.yield ok) else pure (ForInStep.yield r)) (TP X pins σ Q) X.xe s
noncomputable def EJ:TT:=λ _ H Q=>Q true H
theorem cA {X:Cx}:G5 X [] EJ:=λ _ _ _ H _ I h=>wpAny_tests_nil ⟨H,I,h⟩
theorem mP {X:Cx}{c:Expr}{t:TT} (h:PT X c t):G5 X [c] t:=λ pins s σ H Q I hw=>wpAny_tests_one (h pins s σ H Q I hw)
noncomputable def hW (J:It) (g:TG) (tc:TT) (te:TE) (fr:List (Option Nat)) (σ:St) (H1:Hp) (Q:Addr->Hp->Prop):Prop:=
 ∀ D,H1 D=none->∃ W:Nat->Nat->List V->St->Hp->Prop,(∃ m,W 0 m [] (qT fr σ) (upd H1 D (.lst [])))/\
  ∀ i m ys Z H',W i m ys Z H'->(J.stop i H'/\Q D H')\/
   (J.go i H'/\∃ N:List V->St->Hp->Prop,(∀ ys' bw H'',N ys' bw H''->∃ m',m' < m/\W (i+1) m' ys' bw H'')/\
    ∀ x H2,J.yld i H' x H2->g x Z H2 λ ai H3=>tc ai H3 λ b H4=>
    if b=true then te ai H4 λ y H5=>H5 D=some (.lst ys)/\ys.length < sizeLine/\N (ys++[y]) ai (upd H5 D (.lst (ys++[y])))
    else N ys ai H4)
theorem nI {J:It}{n:Nat}{g:TG}{tc:TT}{te:TE}{fr:List (Option Nat)}{σ:St}{H1:Hp}{Q:Addr->Hp->Prop} (Pv:Addr->Nat->List V->St->Hp->Prop)
  (h0:∀ D,H1 D=none->Pv D 0 [] (qT fr σ) (upd H1 D (.lst [])))
  (hstop:∀ D ys Z H',Pv D n ys Z H'->J.stop n H'/\Q D H')
  (hgo:∀ D i ys Z H',i < n->Pv D i ys Z H'->J.go i H'/\∀ x H2,J.yld i H' x H2->g x Z H2 λ ai H3=>tc ai H3 λ b H4=>
    if b=true then te ai H4 λ y H5=>H5 D=some (.lst ys)/\ys.length < sizeLine/\Pv D (i+1) (ys++[y]) ai (upd H5 D (.lst (ys++[y])))
    else Pv D (i+1) ys ai H4):hW J g tc te fr σ H1 Q:=by
 intro D hD
 refine⟨λ i m ys σ H=>m=n - i/\i<=n/\Pv D i ys σ H,⟨n,by simp,Nat.zero_le _,h0 D hD⟩,?_⟩
 rintro i m ys Z H' ⟨rfl,hi,p⟩
 by_cases hlt:i < n
 ·obtain⟨go,step⟩:=hgo D i ys Z H' hlt p
  exact .inr ⟨go,Pv D (i+1),λ ys' bw H'' p'=>⟨n - (i+1),by omega,rfl,hlt,p'⟩,step⟩
 ·have e:i=n:=by omega
  subst e
  exact .inl (hstop D ys Z H' p)
theorem uL {J:It}{n:Nat}{g:TG}{tb:TS}{D:Ends}{σ:St}{H:Hp} (Pv:Nat->St->Hp->Prop) (h0:Pv 0 σ H) (hstop:∀ σ H,Pv n σ H->J.stop n H/\D.nx σ H)
  (hgo:∀ i σ H,i < n->Pv i σ H->J.go i H/\∀ x H',J.yld i H x H'->g x σ H' λ ba H2=>tb { D with nx:=Pv (i+1),ct:=Pv (i+1),bk:=D.nx } ba H2) :
  ∃ W:Nat->Nat->St->Hp->Prop,(∃ m,W 0 m σ H)/\∀ i m σ H,W i m σ H->
   (J.stop i H/\D.nx σ H)\/(J.go i H/\∃ N:St->Hp->Prop,(∀ Z H',N Z H'->∃ m',m' < m/\W (i+1) m' Z H')/\∀ x H',J.yld i H x H'->g x σ H' λ ba H2=>tb { D with nx:=N,ct:=N,bk:=D.nx } ba H2):=by
 refine⟨λ i m σ H=>m=n - i/\i<=n/\Pv i σ H,⟨n,by simp,Nat.zero_le _,h0⟩,?_⟩
 rintro i m σ H ⟨rfl,hi,p⟩
 by_cases hlt:i < n
 ·obtain⟨go,step⟩:=hgo i σ H hlt p
  exact .inr ⟨go,Pv (i+1),λ Z H' p'=>⟨n - (i+1),by omega,rfl,hlt,p'⟩,step⟩
 ·have e:i=n:=by omega
  subst e
  exact .inl (hstop σ H p)
noncomputable def tLC (wi:TI) (fr:List (Option Nat)) (g:TG) (tc:TT) (te:TE):TE:=λ σ H Q=>wi σ H λ J H1=>hW J g tc te fr σ H1 λ D H'=>Q (.ref D) H'
section
variable {prog:Program}{w:World}{A:Around}{R:Result->Shared->Prop}{s:Shared}
theorem n9 {elt target iter:Expr}{ifs:List Expr}{scope:Scope}{pos:Pos}{it acc:Value}{env:Env} (I:Nat->Shared->Prop)
  (turn:∀ n s,I n s->wpAny (model prog w) A (pyNext it) (λ r ag=>match r with
   | none=>R (.ok .next) ag
   | some v=>wpAny (model prog w) A (letOwnedTupleGo target it v) (λ _ cn=>wpAny (model prog w) A (assign target env v) (λ _ bj=>
     wpAny (model prog w) A (forIn ifs true λ c r=>if r=true then do let ok <- isTrue c env (eval c env);pure (ForInStep.yield ok) else pure (ForInStep.yield r)) (λ ok bg=>
      if ok=true then wpAny (model prog w) A (eval elt env) (λ x bx=>
       wpAny (model prog w) A (call (.builtin "list.append") [acc,x]) (λ _ cv=>∃ m,m < n/\I m cv) (notedBy (model prog w) A env λ e s'=>R (.error e) s') bx) (notedBy (model prog w) A env λ e s'=>R (.error e) s') bg
      else ∃ m,m < n/\I m bg) (notedBy (model prog w) A env λ e s'=>R (.error e) s') bj) (notedBy (model prog w) A env λ e s'=>R (.error e) s') cn) (notedBy (model prog w) A env λ e s'=>R (.error e) s') ag)
    (notedBy (model prog w) A env λ e s'=>R (.error e) s') s)
  (n:Nat) (h:I n s) :
  codeAny (model prog w) A (.compLoop (.ListComp elt [⟨target,iter,ifs,0⟩] scope pos) 0 it acc env) R s:=by
 refine codeAny_loop rfl I (λ n s hI=>?_) n h
 show wpAny _ A ((compTurn (.ListComp elt [⟨target,iter,ifs,0⟩] scope pos) 0 it acc env).onRaise (λ x=>do noteFrame x env;theTreesLotGoes x)) _ _ s
 refine wpAny_noted ?_
 rw[compTurn_list]
 refine wpAny_bind (wpAny_standAt (wpAny_bind (wpAny_mono (turn n s hI) (λ r ag ak=>?_) λ _ _ h'=>h')))
 cases r with
 | none=>exact wpAny_pure ak
 | some v=>
  refine wpAny_bind (wpAny_mono ak (λ _ cn dc=>?_) λ _ _ h'=>h')
  refine wpAny_bind (wpAny_mono dc (λ _ bj am=>wpAny_bind (wpAny_mono am (λ ok bg aj=>?_) λ _ _ h'=>h')) λ _ _ h'=>h')
  cases ok with
  | false=>exact wpAny_pure ⟨rfl,aj⟩
  | true=>
   exact wpAny_bind (wpAny_bind (wpAny_mono aj (λ x bx ap=>wpAny_bind (wpAny_mono ap (λ _ cv bb=>wpAny_pure (wpAny_pure ⟨rfl,bb⟩)) λ _ _ h'=>h')) λ _ _ h'=>h'))
end
section
variable {X:Cx}
theorem LcOk.invC {scope:Scope}{cl:List (Str×Addr)}{N':List Str}{fr:List (Option Nat)}{pins:List (Addr×Obj)}{σ:St}{H:Hp}{s:Shared}{h1:Heap}{fp:List Addr}{m1:Str->Option Value}{tk:Nat}
  (S:LcOk X scope cl N' fr) (I:Inv X pins σ H s) (hf:∀ b∈fp,gN X pins H b) (hfo:∀ b∈fp,b < s.heap.objs.size)
  (k:∀ b o,s.heap.get? b=some o->h1.get? b=some o) (hn:h1.Ns s.heap.objs.size m1):Inv (kQ X N' scope cl fp s H) [] (qT fr σ) H { s with heap:=h1,toks:=tk }:=by
 have hfree:=S.frees
 have hcell:=S.nocell
 rw[List.all_eq_true] at hfree hcell
 have fresh:H s.heap.objs.size=none:=I.hok.fresh (Nat.le_refl _)
 have clg:=S.cls.get
 refine⟨⟨I.ok.mod,S.kind,I.ok.glob,I.ok.blt,Nat.le_refl _,λ x y c e1 e2=>I.ok.inj x y c (clg x c e1) (clg y c e2),λ x hx=>?_,(λ x c e=>nomatch e),I.ok.hd,I.ok.frames,.inl rfl,λ b hb=>⟨Nat.ne_of_lt (hfo b hb),λ x c e=>(hf b hb).2.2.2.2.1 x c (clg x c e)⟩,
  I.bs,Nat.le_trans I.ok.bsz I.sz,λ b o e hb=>?_,λ b hb hz=>?_,I.stack,I.stkFree⟩,rfl,I.bare,Un.kept k,⟨m1,hn,λ i x v e1 e2 e3=>?_⟩,λ x c e=>?_,fresh,λ x c e=>I.freeC x c (clg x c e),λ p hp=>absurd (show p∈([]:List (Addr×Obj)) from hp) (by simp),I.hok.kept k,?_⟩
 ·
  have hm:∃ k',(x,k')∈scope.names/\k'=NameKind.free:=by
   have hx':(relabel scope X.env).names.lookup x=some .cell\/(relabel scope X.env).names.lookup x=some .free:=hx
   obtain⟨k',e,hk'⟩:∃ k',(relabel scope X.env).names.lookup x=some k'/\(k'=.cell\/k'=.free):=by
    rcases hx' with e | e
    ·exact⟨_,e,.inl rfl⟩
    ·exact⟨_,e,.inr rfl⟩
   have hmem:=PySem.mem_of_lookup e
   obtain⟨⟨n,kn⟩,hp,he⟩:=List.mem_map.mp hmem
   dsimp only at he
   split at he
   ·rename_i hc
    cases he
    have:kn=.free:=by
     simp only [Bool.and_eq_true,beq_iff_eq] at hc
     exact hc.1.1
    exact⟨kn,hp,this⟩
   ·cases he
    rcases hk' with e' | e'
    ·subst e'
     have:=hcell _ hp
     simp at this
    ·exact⟨_,hp,e'⟩
  obtain⟨k',hp,rfl⟩:=hm
  have:=hfree _ hp
  simp only [bne_self_eq_false,Bool.false_or] at this
  exact Option.isSome_iff_exists.mp this
 ·rcases (hf b hb).2.2.2.1 with z | z
  ·exact I.ok.noex b o e z
  ·have:=Heap.lt_size e
   exact absurd (Nat.lt_of_lt_of_le this (Nat.le_trans I.ok.bsz z)) (Nat.lt_irrefl _)
 ·obtain⟨_,f1,f2,_⟩:=hf b hb
  rcases List.mem_cons.mp (I.stkSub b hz) with e | e
  ·exact f1 e
  ·exact f2 e
 ·
  unfold qT at e2
  rw[List.getElem?_map] at e2
  cases ef:fr[i]? with
  | none=>rw[ef] at e2;cases e2
  | some o=>
   rw[ef] at e2
   cases o with
   | none=>simp at e2
   | some j=>
    have e2':(σ[j]?).join=some v:=by simpa using e2
    obtain⟨x',h1',h2',h3',h4'⟩:=S.fr.get i j ef
    rw[Nat.zero_add] at h1'
    have ex:x'=x:=by
     have:N'[i]? = some x:=e1
     rw[h1'] at this
     exact Option.some.inj this
    subst ex
    have e2'':σ[j]? = some (some v):=by
     cases q:σ[j]? with
     | none=>rw[q] at e2';cases e2'
     | some z=>rw[q] at e2';simp at e2';rw[e2']
    obtain⟨m,hm,hl⟩:=I.loc
    obtain⟨u,r,lk⟩:=hl j x' v h2' e2'' (.inr (.inl h4'))
    refine⟨u,r,?_⟩
    rcases lk with ⟨q,_⟩ | ⟨_,c,hc,z⟩
    ·rw[h4'] at q;cases q
    ·have hcl:∃ c',cl.lookup x'=some c':=by
      have:=hfree _ (PySem.mem_of_lookup h3')
      simp only [bne_self_eq_false,Bool.false_or] at this
      exact Option.isSome_iff_exists.mp this
     obtain⟨c',hc'⟩:=hcl
     have e':=clg x' c' hc'
     rw[hc] at e'
     cases e'
     obtain⟨oc,hoc,hd⟩:=z
     refine .inr ⟨.inl ?_,c,hc',oc,k c oc hoc,hd⟩
     exact eW I.ok.kind h3' h4'
 ·obtain⟨v,oc,hoc,hd⟩:=I.cell x c (clg x c e)
  exact⟨v,oc,k c oc hoc,hd⟩
 ·show (qT fr σ).length=N'.length
  unfold qT
  rw[List.length_map,S.len]
theorem Inv.outC {scope:Scope}{cl:List (Str×Addr)}{N':List Str}{pins pins':List (Addr×Obj)}{σ Z:St}{H H':Hp}{s s':Shared}{fp:List Addr} (I:Inv X pins σ H s) (J:Inv (kQ X N' scope cl fp s H) pins' Z H' s')
  (hf:∀ b∈fp,gN X pins H b):Inv X pins σ H' s':=
 I.call' (ch:=fp) J.os J.base J.hok J.bare λ b hb=>by
  obtain⟨_,f1,_,f3,f4,f5⟩:=hf b hb
  exact⟨f3,f1,f4,f5⟩
theorem Inv.letgo {pins:List (Addr×Obj)}{σ:St}{H:Hp}{s:Shared}{C:Addr}{h':Heap} (I:Inv X pins σ H s) (f:gN X pins H C) (hsb:Heap.SameBut C s.heap h'):Inv X pins σ H { s with heap:=h' }:=by
 obtain⟨f0,f1,f2,f3,f4,f5⟩:=f
 exact I.turned (t':=s.toks) (it:=C) (h':=h') (λ b o hb e=>(hsb.2 b hb).trans e) f0 f1 f3 f4 f5
theorem vQ {elt tg iter:Expr}{ifs:List Expr}{scope:Scope}{pos:Pos}{N':List Str}{fr:List (Option Nat)}{cl:List (Str×Addr)}{g:TG}{tc:TT}{te:TE}
  {pins:List (Addr×Obj)}{σ:St}{H:Hp}{s:Shared}{J:It}{fp:List Addr}{it:Addr}{tn:Nat->Heap->Prop}{Q:Addr->Hp->Prop}{RR:Value->Addr->Result->Shared->Prop}{E:Value->Shared->Prop}
  (hx:∀ e s,¬ X.xe e s) (hc:X.calm=true) (S:LcOk X scope cl N' fr)
  (hg:∀ fp s H,PG (kQ X N' scope cl fp s H) tg g) (ht:∀ fp s H,G5 (kQ X N' scope cl fp s H) ifs tc) (he:∀ fp s H,PE (kQ X N' scope cl fp s H) elt te)
  (I:Inv X pins σ H s) (T:Turn X.prog X.w X.K tg J fp it tn) (st:tn 0 s.heap) (hf:∀ b∈fp,gN X pins H b) (h:hW J g tc te fr σ H Q)
  (hRR:∀ D C H' s' m',Inv X pins σ H' s'->Q D H'->s'.heap.Ns C m'->gN X pins H' C->RR (.ref D) C (.ok .next) s') :
  wpAny (model X.prog X.w) X.A (newList []) (λ acc bg=>wpAny (model X.prog X.w) X.A (newFunctionEnv scope X.env.globals cl [] X.env.qual none .none (some X.env)) (λ cenv bx=>
   codeAny (model X.prog X.w) X.A (.compStart (.ListComp elt [⟨tg,iter,ifs,0⟩] scope pos) 0 (.ref it) acc { cenv with scope:=relabel scope X.env }) (RR acc cenv.locals) bx) E bg) E s:=by
 have hcell:=S.nocell
 rw[List.all_eq_true] at hcell
 refine wpAny_newObj_type (wpAny_newFunctionEnv (λ x hx'=>by simpa using hcell x hx') (by intro y hy;simp at hy) (λ ak bo bz=>?_) S.kind)
 dsimp only at bo bz ⊢
 have fresh:H s.heap.objs.size=none:=I.hok.fresh (Nat.le_refl _)
 have I3:Inv X pins σ (upd H s.heap.objs.size (.lst [])) { s with heap:=s.heap.push { cls:=.type "list",data:=.seq ([]:List Value).toArray },toks:=s.toks }:=I.lnew (ys:=[]) (its:=[]) .nil (Nat.zero_le _)
 have hf3:∀ b∈fp,gN X pins (upd H s.heap.objs.size (.lst [])) b:=λ b hb=>by
  obtain⟨o,ho,_⟩:=T.obj _ _ st b hb
  exact⟨by rw[aO (Nat.ne_of_lt (Heap.lt_size ho))];exact (hf b hb).1,(hf b hb).2⟩
 generalize hs3:({ s with heap:=s.heap.push { cls:=.type "list",data:=.seq ([]:List Value).toArray },toks:=s.toks }:Shared)=s3 at I3
 have e3:s3.heap=s.heap.push { cls:=.type "list",dict:=none,data:=.seq ([]:List Value).toArray }:=by rw[<- hs3]
 have e3s:({ s with heap:=s.heap.push { cls:=.type "list",dict:=none,data:=.seq ([]:List Value).toArray } }:Shared)=s3:=hs3
 have hsz3:s3.heap.objs.size=s.heap.objs.size+1:=by rw[e3,Heap.size_push]
 have hfo:∀ b∈fp,b < s3.heap.objs.size:=λ b hb=>by
  obtain⟨o,ho,_⟩:=T.obj _ _ st b hb
  rw[hsz3]
  exact Nat.lt_succ_of_lt (Heap.lt_size ho)
 rw[<- e3] at bo bz ⊢
 have old3:∀ b o,s3.heap.get? b=some o->ak.get? b=some o:=λ b o e=>bz.extBut b o (Nat.ne_of_lt (Heap.lt_size e)) (Heap.get?_push_of_some _ e)
 have old:∀ b o,s.heap.get? b=some o->s3.heap.get? b=some o:=λ b o e=>by rw[e3];exact Heap.get?_push_of_some _ e
 have I4:=S.invC (tk:=s3.toks) I3 hf3 hfo old3 bo
 obtain⟨W,⟨m0,w0⟩,turn⟩:=h s.heap.objs.size fresh
 have stat:∀ {H':Hp},(∀ b∈fp,H' b=none)->∀ b∈fp,gN (kQ X N' scope cl fp s3 (upd H s.heap.objs.size (.lst []))) [] H' b:=λ hn b hb=>by
  refine⟨hn b hb,Nat.ne_of_lt (hfo b hb),?_,.inl hb,λ x c e=>(hf b hb).2.2.2.2.1 x c (S.cls.get x c e),λ p hp=>absurd (show p∈([]:List (Addr×Obj)) from hp) (by simp)⟩
  intro hz
  obtain⟨_,f1,f2,_⟩:=hf b hb
  rcases List.mem_cons.mp (I.stkSub b hz) with e | e
  ·exact f1 e
  ·exact f2 e
 have loop:∀ s4:Shared,s4={ s3 with heap:=ak,toks:=s3.toks }->
   codeAny (model X.prog X.w) X.A (.compLoop (.ListComp elt [⟨tg,iter,ifs,0⟩] scope pos) 0 (.ref it) (.ref s.heap.objs.size) (compEnvC scope cl s3.heap.objs.size X.env)) (RR (.ref s.heap.objs.size) s3.heap.objs.size) s4:=by
  intro s4 hs4
  refine n9 (λ n s'=>∃ i ys Z H',Inv (kQ X N' scope cl fp s3 (upd H s.heap.objs.size (.lst []))) [] Z H' s'/\tn i s'.heap/\(∀ b∈fp,H' b=none)/\W i n ys Z H') ?_ m0
   ⟨0,[],qT fr σ,_,by rw[hs4];exact I4,by rw[hs4];exact T.keep _ _ _ st λ b _ o e=>old3 b o (old b o e),λ b hb=>(hf3 b hb).1,w0⟩
  rintro n s5 ⟨i,ys,ce,H5,I5,st5,fr5,w5⟩
  rcases turn i n ys ce H5 w5 with ⟨stop,qn⟩ | ⟨go,N,hN,step⟩
  ·refine cX (T.done (kQ X N' scope cl fp s3 (upd H s.heap.objs.size (.lst []))) rfl rfl rfl hc i [] s5 ce H5 _ I5 (stat fr5) st5 stop) λ r s6 ⟨hr,I6⟩=>?_
   subst hr
   obtain⟨m',hm',_⟩:=I6.loc
   exact hRR _ _ H5 s6 m' (I3.outC I6 hf3) qn hm' (I3.fpOk (Nat.le_refl _) I6.free)
  ·refine cX (T.item (kQ X N' scope cl fp s3 (upd H s.heap.objs.size (.lst []))) rfl rfl rfl hc i [] s5 ce H5 _ I5 (stat fr5) st5 go) λ r s6 ⟨u,hr,h6⟩=>?_
   subst hr
   refine cX h6 λ _ s7 ⟨x,H7,I7,r7,y7,st7,fr7⟩=>?_
   have I7':=I7.pinned (stat fr7) (T.obj _ _ st7)
   refine wpAny_mono (hg fp s3 _ _ s7 ce H7 x u _ I7' r7 (step x H7 y7)) (λ _ s8 ⟨be,H8,I8,q8⟩=>?_) λ e s' z=>(hx e s' z).elim
   refine wpAny_mono (ht fp s3 _ _ s8 be H8 _ I8 q8) (λ ok s9 ⟨H9,I9,q9⟩=>?_) λ e s' z=>(hx e s' z).elim
   have again:∀ {s10:Shared}{H10:Hp}{ys':List V},Inv (kQ X N' scope cl fp s3 (upd H s.heap.objs.size (.lst []))) ([]++lO fp s7.heap) be H10 s10->N ys' be H10->
     ∃ m,m < n/\∃ i ys Z H',Inv (kQ X N' scope cl fp s3 (upd H s.heap.objs.size (.lst []))) [] Z H' s10/\tn i s10.heap/\(∀ b∈fp,H' b=none)/\W i m ys Z H':=λ {s10 H10 ys'} I10 n10=>by
    obtain⟨m',hm,w10⟩:=hN ys' be H10 n10
    refine⟨m',hm,i+1,ys',be,H10,I10.unpinned,T.keep _ _ _ st7 λ b hb o e=>(I10.pin (b,o) (List.mem_append_right _ (List.mem_append_right _ (eN hb e)))).1,λ b hb=>?_,w10⟩
    obtain⟨o,e,d⟩:=T.obj _ _ st7 b hb
    exact (I10.pin (b,o) (List.mem_append_right _ (List.mem_append_right _ (eN hb e)))).2.1
   cases ok with
   | false=>
    rw[if_neg Bool.false_ne_true] at q9 ⊢
    exact again I9 q9
   | true=>
    rw[if_pos rfl] at q9 ⊢
    refine wpAny_mono (he fp s3 _ _ s9 be H9 _ I9 q9) (λ y s10 ⟨yv,H10,I10,r10,hD,hlen,q10⟩=>?_) λ e s' z=>(hx e s' z).elim
    refine wpAny_mono (cY (X:=kQ X N' scope cl fp s3 (upd H s.heap.objs.size (.lst []))) _ s10 be H10 (.ref s.heap.objs.size) [yv] (.ref s.heap.objs.size) [y] (λ _ H11=>H11=upd H10 s.heap.objs.size (.lst (ys++[yv]))) I10 rfl (.cons r10 .nil)
     ⟨_,ys,yv,rfl,rfl,hD,hlen,rfl⟩) (λ _ s11 ⟨_,H11,I11,_,e11⟩=>?_) λ e s' z=>(hx e s' z).elim
    subst e11
    exact again I11 q10
 exact codeAny_compStart_list (loop _ (by rw[<- e3s];rfl)) (T.self X.A 0 _ _ _ (T.keep _ _ _ st λ b _ o e=>old3 b o (old b o e)) (loop _ (by rw[<- e3s];rfl)))
theorem fJ {elt tg iter:Expr}{ifs:List Expr}{scope:Scope}{pos:Pos}{N':List Str}{fr:List (Option Nat)}{cl:List (Str×Addr)}{wi:TI}{g:TG}{tc:TT}{te:TE}
  (hx:∀ e s,¬ X.xe e s) (hc:X.calm=true) (S:LcOk X scope cl N' fr) (hi:PI X tg iter wi)
  (hg:∀ fp s H,PG (kQ X N' scope cl fp s H) tg g) (ht:∀ fp s H,G5 (kQ X N' scope cl fp s H) ifs tc) (he:∀ fp s H,PE (kQ X N' scope cl fp s H) elt te)
  (hs:∀ x,foldedSetIterable iter X.env x=pure x:=by intro _;rfl):PE X (.ListComp elt [⟨tg,iter,ifs,0⟩] scope pos) (tLC wi fr g tc te):=by
 intro pins s σ H Q I h
 have hloc:=S.locs
 rw[List.all_eq_true] at hloc
 rw[eval_ListComp]
 refine wpAny_comprehension_free (use:=none) rfl hs S.clos S.kind (λ x hx' hl=>by have:=hloc x hx';rw[hl] at this;simpa using this) (cX (hi pins s σ H _ I h) λ v s1 h1=>cX h1 λ itv s2 h2=>?_)
 obtain⟨it,fp,tn,J,H2,e,I2,T,st2,f2,rest⟩:=h2
 subst e
 refine vQ (RR:=λ acc C=>compPost (model X.prog X.w) X.A X.xe none (EP X pins σ Q) acc C) hx hc S hg ht he I2 T st2 f2 rest ?_
 intro D C H' s' m' I' q hn f
 exact⟨m',hn,λ h' hsb=>⟨.ref D,H',I'.letgo f hsb,rfl,q⟩⟩
theorem fI {i:Nat}{y:Str}{py:Pos}{spos:Pos}{elt tg iter:Expr}{ifs:List Expr}{scope:Scope}{pos:Pos}{N':List Str}{fr:List (Option Nat)}{cl:List (Str×Addr)}{wi:TI}{g:TG}{tc:TT}{te:TE}
  (hN:X.N.Nodup) (hy:X.N[i]? = some y) (hk:X.env.scope.names.lookup y=some .local)
  (hx:∀ e s,¬ X.xe e s) (hc:X.calm=true) (S:LcOk X scope cl N' fr) (hi:PI X tg iter wi)
  (hg:∀ fp s H,PG (kQ X N' scope cl fp s H) tg g) (ht:∀ fp s H,G5 (kQ X N' scope cl fp s H) ifs tc) (he:∀ fp s H,PE (kQ X N' scope cl fp s H) elt te)
  (hsw:swapsWith (.ListComp elt [⟨tg,iter,ifs,0⟩] scope pos) (some (.Name y py)) spos.line X.env=pure true:=by rfl)
  (hs:∀ x,foldedSetIterable iter X.env x=pure x:=by intro _;rfl):PS X (.Assign [.Name y py] (.ListComp elt [⟨tg,iter,ifs,0⟩] scope pos) spos) (iJ (tLC wi fr g tc te) (fX i)):=by
 intro pins s σ H D I h
 have hloc:=S.locs
 rw[List.all_eq_true] at hloc
 rw[exec_Assign_Name_used _ _ _ _ hsw]
 refine wpAny_bind (wpAny_standAt (wpAny_bind ?_))
 show wpAny _ X.A (do let _ <- comprehension (.ListComp elt [⟨tg,iter,ifs,0⟩] scope pos) scope X.env _ (newList []) false (eval iter X.env) (some (assign (.Name y py) X.env))) _ _ s
 refine wpAny_bind (wpAny_mono (wpAny_comprehension_free (use:=some (assign (.Name y py) X.env)) (Q:=λ _ s'=>SP X pins D .next s') rfl hs S.clos S.kind (λ x hx' hl=>by have:=hloc x hx';rw[hl] at this;simpa using this)
  (cX (hi pins s σ H _ I h) λ v s1 h1=>cX h1 λ itv s2 h2=>?_)) (λ _ s' hq=>wpAny_pure (wpAny_pure hq)) λ _ _ e=>e)
 obtain⟨it,fp,tn,J,H2,e,I2,T,st2,f2,rest⟩:=h2
 subst e
 refine vQ (RR:=λ acc C=>compPost (model X.prog X.w) X.A X.xe (some (assign (.Name y py) X.env)) (λ _ s'=>SP X pins D .next s') acc C) hx hc S hg ht he I2 T st2 f2 rest ?_
 intro Da C H' s' m' I' q hn f
 show wpAny _ X.A (assign (.Name y py) X.env (.ref Da)) _ _ _
 refine wpAny_assign_Name (nC I' hN hy (.inl hk) (v:=.ref Da) rfl (λ s'' I'' hch=>?_) (.inr hk))
 obtain⟨a,hsb,ha⟩:=hch
 have haC:a≠C:=by
  rcases ha with e | e
  ·rw[e];exact Ne.symm f.2.1
  ·exact f.2.2.2.2.1 _ _ e
 exact⟨m',hn.sameBut hsb (Ne.symm haC),λ h' hs'=>⟨_,H',I''.letgo f hs',q⟩⟩
end
end L2
namespace TwZ
open PySem
open Sem (wp)
noncomputable def dI (h:Heap) (t:Bool) (it a:Addr) (i:Nat):Prop:=if t=true then h.IsTupleIter it a i else h.IsListIter it a i
noncomputable def cG (h:Heap) (t:Bool) (a:Addr) (items:Array Value):Prop:=if t=true then h.IsTuple a items else h.IsList a items
theorem dI.at {h h':Heap}{t:Bool}{it a:Addr}{i:Nat} (x:dI h t it a i) (k:∀ o,h.get? it=some o->h'.get? it=some o):dI h' t it a i:=by
 cases t <;> (obtain⟨o,ho,r⟩:=x;exact⟨o,k o ho,r⟩)
theorem ex {h h':Heap}{b c:Addr}{o:Obj} (hs:Heap.SameBut b h h') (hc:@Ne Nat c b) (e:h.get? c=some o):h'.get? c=some o:=hs.extBut _ _ hc e
theorem dI.ext {h h':Heap}{t:Bool}{it a b:Addr}{i:Nat} (x:dI h t it a i) (hs:Heap.SameBut b h h') (hab:@Ne Nat it b):dI h' t it a i:=x.at λ o e=>hs.extBut _ _ hab e
theorem cG.at {h h':Heap}{t:Bool}{a:Addr}{xs:Array Value} (x:cG h t a xs) (k:∀ o,h.get? a=some o->h'.get? a=some o):cG h' t a xs:=by
 cases t <;> (obtain⟨o,ho,r⟩:=x;exact⟨o,k o ho,r⟩)
theorem cG.ext {h h':Heap}{t:Bool}{a b:Addr}{xs:Array Value} (x:cG h t a xs) (hs:Heap.SameBut b h h') (hab:@Ne Nat a b):cG h' t a xs:=x.at λ o e=>hs.extBut _ _ hab e
theorem cG.lt {h:Heap}{t:Bool}{a:Addr}{xs:Array Value} (x:cG h t a xs):a < h.objs.size:=by
 cases t <;> (obtain⟨o,ho,r⟩:=x;exact Heap.lt_size ho)
theorem dI.obj {h:Heap}{t:Bool}{it a:Addr}{i:Nat} (x:dI h t it a i):∃ o,h.get? it=some o/\∀ v,o.data≠.cell v:=by
 cases t <;> (obtain⟨o,ho,_,d⟩:=x;exact⟨o,ho,λ v z=>by rw[d] at z;cases z⟩)
section
variable {prog:Program}{w:World}{M:Model}{A:Around}{E:Value->Shared->Prop}{s:Shared}
theorem nS {a:Addr}{Q:Option Obj->Shared->Prop} (h:Q (s.heap.get? a) s):wpAny M A (loadIfAlive a) Q E s:=λ Γ p _=>by
 unfold loadIfAlive
 rw[Sem.wp_loadIfAlive]
 exact h
theorem mV {it l:Addr}{i:Nat}{items}{x:Value}{Q:Value->Shared->Prop} (hit:s.heap.IsTupleIter it l i)
  (hl:s.heap.IsTuple l items) (hx:items[i]? = some x)
  (hQ:∀ h',h'.IsTupleIter it l (i+1)->Heap.SameBut it s.heap h'->Q x { s with heap:=h' }) :
  wpAny (model prog w) A (Builtin.SmallTypes.nextOf (.ref it)) Q E s:=by
 obtain⟨o,ho,hc,hd⟩:=id hit
 obtain⟨ol,hol,_,nl,hdl⟩:=hl
 unfold Builtin.SmallTypes.nextOf
 refine wpAny_bind (wpAny_callSpecial?_slot (name:=Str.ofString "__next__") hit.typeIs F.slot_tuple_iterator_next
  (wpAny_call_entry F.slot_tuple_iterator_next hit.typeIs F.entry_tuple_iterator_next ?_ (F.args_tuple_iterator_next_1 _)))
 show wpAny _ _ (field (.ref it) 0 >>= _) _ _ s
 refine wpAny_bind (wpAny_field ho hd (x:=.ref l) rfl ?_)
 show wpAny _ _ (if (Value.ref l == Value.none)=true then _ else _) _ _ s
 rw[if_neg (show ¬ ((Value.ref l == Value.none)=true) from Bool.false_ne_true)]
 show wpAny _ _ (field (.ref it) 1 >>= _) _ _ s
 refine wpAny_bind (wpAny_field ho hd (x:=.int i 0) rfl ?_)
 show wpAny _ _ (seqItems? (.ref l) >>= _) _ _ s
 refine wpAny_bind (wpAny_seqItems hol hdl ?_)
 simp only [Int.toNat_natCast,hx]
 refine wpAny_bind (wpAny_setField ho hd (by simp) (wpAny_pure ⟨x,rfl,wpAny_pure (hQ _ ?_ (Heap.SameBut.update ..))⟩))
 exact⟨_,Heap.get?_update_self _ ho (Obj.isFreed_of_fields (Obj.data_mapFields hd _)),(Obj.cls_mapFields ..).trans hc,by
  rw[Obj.data_mapFields hd];simp [rawInt]⟩
theorem nH {it l:Addr}{i:Nat}{items}{Q:Value->Shared->Prop} (hh:A.handled=none)
  (hit:s.heap.IsTupleIter it l i) (hl:s.heap.IsTuple l items) (hx:items[i]? = none)
  (hE:∀ h' e,Heap.ExtBut it s.heap h'->(∃ o,h'.get? e=some o/\o.cls=.type "StopIteration")->E (.ref e) { s with heap:=h' }) :
  wpAny (model prog w) A (Builtin.SmallTypes.nextOf (.ref it)) Q E s:=by
 obtain⟨o,ho,hc,hd⟩:=id hit
 obtain⟨ol,hol,_,nl,hdl⟩:=hl
 unfold Builtin.SmallTypes.nextOf
 refine wpAny_bind (wpAny_callSpecial?_slot (name:=Str.ofString "__next__") hit.typeIs F.slot_tuple_iterator_next
  (wpAny_call_entry F.slot_tuple_iterator_next hit.typeIs F.entry_tuple_iterator_next ?_ (F.args_tuple_iterator_next_1 _)))
 show wpAny _ _ (field (.ref it) 0 >>= _) _ _ s
 refine wpAny_bind (wpAny_field ho hd (x:=.ref l) rfl ?_)
 show wpAny _ _ (if (Value.ref l == Value.none)=true then _ else _) _ _ s
 rw[if_neg (show ¬ ((Value.ref l == Value.none)=true) from Bool.false_ne_true)]
 show wpAny _ _ (field (.ref it) 1 >>= _) _ _ s
 refine wpAny_bind (wpAny_field ho hd (x:=.int i 0) rfl ?_)
 show wpAny _ _ (seqItems? (.ref l) >>= _) _ _ s
 refine wpAny_bind (wpAny_seqItems hol hdl ?_)
 simp only [Int.toNat_natCast,hx]
 refine wpAny_bind (wpAny_rule (wpAny_bind (wpAny_setField ho hd (by simp) ?_)))
 show wpAny _ _ (newExc (.type "StopIteration") [] >>= _) _ _ _
 refine wpAny_bind ?_
 simp only [newExc,newTuple]
 refine wpAny_bind (wpAny_newObj_type ?_ (by size_fits))
 refine wpAny_bind (m:=firstArgMember _ _) (wpAny_of_eq (a:=Value.none) (by first | rfl | (simp only [firstArgMember];rfl)) ?_)
 refine wpAny_newObj_type ?_ (by size_fits)
 simp only [raiseNew]
 refine wpAny_bind (wpAny_handled ?_)
 first | rw[show A.in1.handled=none from hh] | rw[hh]
 refine wpAny_bind (wpAny_pure (wpAny_throw ?_))
 exact hE _ _ (((Heap.SameBut.update ..).extBut.push _).push _) ⟨_,Heap.get?_push_size _ rfl,rfl⟩
theorem bS {t:Bool}{it l:Addr}{i:Nat}{items}{x:Value}{Q:Value->Shared->Prop} (hit:dI s.heap t it l i)
  (hl:cG s.heap t l items) (hx:items[i]? = some x)
  (hQ:∀ h',dI h' t it l (i+1)->Heap.SameBut it s.heap h'->Q x { s with heap:=h' }) :
  wpAny (model prog w) A (Builtin.SmallTypes.nextOf (.ref it)) Q E s:=by
 cases t with
 | true=>exact mV hit hl hx hQ
 | false=>exact wpAny_nextOf_list_item hit hl hx hQ
theorem d9 {t:Bool}{it l:Addr}{i:Nat}{items}{Q:Value->Shared->Prop} (hh:A.handled=none)
  (hit:dI s.heap t it l i) (hl:cG s.heap t l items) (hx:items[i]? = none)
  (hE:∀ h' e,Heap.ExtBut it s.heap h'->(∃ o,h'.get? e=some o/\o.cls=.type "StopIteration")->E (.ref e) { s with heap:=h' }) :
  wpAny (model prog w) A (Builtin.SmallTypes.nextOf (.ref it)) Q E s:=by
 cases t with
 | true=>exact nH hh hit hl hx hE
 | false=>exact wpAny_nextOf_list_end hh hit hl hx hE
noncomputable abbrev lZ (h:Heap) (z TI TO:Addr) (f0:Value) (f1:Bool):Prop:=
 h.get? z=some { cls:=.type "zip",dict:=none,data:=.fields #[f0,.bool f1,.bool false,.ref TI,.ref TO],slots:=#[] }
noncomputable abbrev dB (h:Heap) (T:Addr) (vs:Array Value):Prop:=h.get? T=some { cls:=.type "tuple",data:=.seq vs }
noncomputable def gL (f0:Value):Prop:=f0=.none\/∃ a:Int,f0=.int a 0
theorem iP {z TI TO:Addr}{f0:Value}{f1:Bool}{Q:Bool->Shared->Prop} (hz:lZ s.heap z TI TO f0 f1) (hf:gL f0) (yes:Q true s)
  (no:∀ h',lZ h' z TI TO f0 true->Heap.SameBut z s.heap h'->Q false { s with heap:=h' }):wpAny (model prog w) A (Builtin.SmallTypes.ownedTupleIsFree (.ref z)) Q E s:=by
 unfold Builtin.SmallTypes.ownedTupleIsFree
 refine wpAny_bind (wpAny_field hz rfl (x:=f0) rfl ?_)
 rcases hf with rfl | ⟨a,rfl⟩
 ·exact wpAny_pure yes
 ·refine wpAny_bind (nS ?_)
  cases h:s.heap.get? a.toNat with
  | none=>exact wpAny_pure yes
  | some o=>
   show wpAny _ _ (field (.ref z) 1 >>= _) _ _ _
   refine wpAny_bind (wpAny_field hz rfl (x:=.bool f1) rfl ?_)
   cases f1 with
   | true=>exact wpAny_pure (no s.heap hz (Heap.SameBut.refl ..))
   | false=>
    show wpAny _ _ (setField (.ref z) 1 (.bool true) >>= _) _ _ _
    refine wpAny_bind (wpAny_setField_rec hz (by simp) λ ak ao ad=>wpAny_pure (no ak ao ad))
theorem zF {z TI TO:Addr}{f0:Value}{f1:Bool}{T:Addr}{Q:Unit->Shared->Prop} (hz:lZ s.heap z TI TO f0 f1)
  (h:∀ h',lZ h' z TI TO (rawInt T) false->Heap.SameBut z s.heap h'->Q () { s with heap:=h' }):wpAny (model prog w) A (Builtin.SmallTypes.ownedTupleHandOut (.ref z) (.ref T)) Q E s:=by
 unfold Builtin.SmallTypes.ownedTupleHandOut
 refine wpAny_bind (wpAny_setField_rec hz (by simp) λ ak ao ad=>?_)
 replace ao:lZ ak z TI TO (rawInt T) f1:=ao
 refine wpAny_setField_rec ao (by simp) λ am cj ae=>?_
 exact h am cj (Heap.SameBut.trans ad ae)
theorem h8 {T:Addr}{vs:Array Value}{x:Value}{k:Nat}{Q:Unit->Shared->Prop} (hT:dB s.heap T vs) (h3:vs.size<=3)
  (h:∀ h',dB h' T (vs.setIfInBounds k x)->Heap.SameBut T s.heap h'->Q () { s with heap:=h' }):wpAny (model prog w) A (updateSeq T (·.setIfInBounds k x)) Q E s:=by
 have hl:vs.size<=sizeLine:=Nat.le_trans h3 (by decide)
 refine wpAny_updateSeq (hz:=hl) (_hz':=by rw[Array.size_setIfInBounds];omega) hT rfl (h _ ?_ (Heap.SameBut.update ..))
 show Heap.get? _ _=_
 rw[Heap.get?_update_self _ hT rfl]
 simp [Obj.mapSeq]
theorem nn {n i j:Nat} (h:i≠j):n+i≠n+j:=λ e=>h (Nat.add_left_cancel e)
theorem n0 {n j:Nat} (h:0 < j):n≠n+j:=λ e=>absurd e (Nat.ne_of_lt (Nat.lt_add_of_pos_right h))
theorem aX {n j:Nat} (h:0 < j):n+j≠n:=Ne.symm (n0 h)
theorem al {a n:Nat} (h:a < n) (j:Nat):a≠n+j:=Nat.ne_of_lt (Nat.lt_of_lt_of_le h (Nat.le_add_right n j))
theorem aI {a n:Nat} (h:a < n):a≠n:=Nat.ne_of_lt h
theorem co {c n m k:Nat} (h:c < n\/n+m < c) (hk:k<=m):c≠n+k:=λ e=>h.elim (λ h=>absurd e (al h k)) λ h=>absurd (Nat.lt_of_le_of_lt (Nat.add_le_add_left hk n) h) (by rw[e];exact Nat.lt_irrefl _)
theorem aY {c n m:Nat} (h:c < n\/n+m < c):c≠n:=co (k:=0) h (Nat.zero_le m)
theorem zX {n a1 a2 a3:Nat}{t1 t2 t3:Bool}{k:Nat}{xs ys zs:Array Value}{x y z c1 c2 c3 f0:Value}{f1:Bool}{Q:Value->Shared->Prop} (hf:gL f0)
  (hz:lZ s.heap (n+5) (n+3) (n+4) f0 f1) (hTI:dB s.heap (n+3) #[.ref n,.ref (n+1),.ref (n+2)]) (hTO:dB s.heap (n+4) #[c1,c2,c3])
  (i1:dI s.heap t1 n a1 k) (i2:dI s.heap t2 (n+1) a2 k) (i3:dI s.heap t3 (n+2) a3 k) (s1:cG s.heap t1 a1 xs) (s2:cG s.heap t2 a2 ys) (s3:cG s.heap t3 a3 zs)
  (l1:a1 < n) (l2:a2 < n) (l3:a3 < n) (hx:xs[k]? = some x) (hy:ys[k]? = some y) (hw:zs[k]? = some z)
  (hQ:∀ (T:Nat) h' f0' f1' d1 d2 d3,s.heap.objs.size<=T->gL f0'->lZ h' (n+5) (n+3) (n+4) f0' f1'->dB h' (n+3) #[.ref n,.ref (n+1),.ref (n+2)]->dB h' (n+4) #[d1,d2,d3]->
   dI h' t1 n a1 (k+1)->dI h' t2 (n+1) a2 (k+1)->dI h' t3 (n+2) a3 (k+1)->dB h' T #[x,y,z]->
   (∀ (c:Nat) o,(c < n\/n+5 < c)->s.heap.get? c=some o->h'.get? c=some o)->Q (.ref T) { s with heap:=h' }) :
  wpAny (model prog w) A (Builtin.«zip.__next__» ⟨[.ref (n+5)],[]⟩) (λ fin s'=>∃ v,fin=.done (.ret v)/\Q v s') E s:=by
 have hzlt:n+5 < s.heap.objs.size:=Heap.lt_size hz
 show wpAny _ _ (field (.ref (n+5)) 2 >>= _) _ _ _
 refine wpAny_bind (wpAny_field hz rfl (x:=.bool false) rfl ?_)
 show wpAny _ _ (field (.ref (n+5)) 3 >>= _) _ _ _
 refine wpAny_bind (wpAny_field hz rfl (x:=.ref (n+3)) rfl ?_)
 refine wpAny_bind (wpAny_seqItems hTI rfl ?_)
 show wpAny _ _ (Builtin.SmallTypes.ownedTupleIsFree (.ref (n+5)) >>= _) _ _ _
 refine wpAny_bind (iP hz hf ?_ ?_)
 ·simp only [if_true]
  refine wpAny_bind (wpAny_rule ?_)
  refine wpAny_bind (wpAny_field hz rfl (x:=.ref (n+4)) rfl ?_)
  refine wpAny_bind (wpAny_setField_rec hz (by simp) λ ak ao ad=>?_)
  replace ao:lZ ak (n+5) (n+3) (n+4) .ellipsis f1:=ao
  refine wpAny_bind ?_
  simp only [List.zipIdx_cons,List.zipIdx_nil,List.forIn_cons,List.forIn_nil]
  refine wpAny_bind (wpAny_bind (wpAny_onRaise ?_))
  show wpAny _ _ (Builtin.SmallTypes.nextOf (.ref n) >>= _) _ _ _
  refine wpAny_bind (bS (i1.ext ad (by first | exact nn (by decide) | exact n0 (by decide) | exact aX (by decide) | exact al l1 _ | exact al l2 _ | exact al l3 _ | exact aI l1 | exact aI l2 | exact aI l3 | exact co hc (by decide) | exact aY hc | omega)) (s1.ext ad (by first | exact nn (by decide) | exact n0 (by decide) | exact aX (by decide) | exact al l1 _ | exact al l2 _ | exact al l3 _ | exact aI l1 | exact aI l2 | exact aI l3 | exact co hc (by decide) | exact aY hc | omega)) hx λ am bp ae=>wpAny_pure ?_)
  have bn:dB am (n+4) #[c1,c2,c3]:=ex ae (by first | exact nn (by decide) | exact n0 (by decide) | exact aX (by decide) | exact al l1 _ | exact al l2 _ | exact al l3 _ | exact aI l1 | exact aI l2 | exact aI l3 | exact co hc (by decide) | exact aY hc | omega) (ex ad (by first | exact nn (by decide) | exact n0 (by decide) | exact aX (by decide) | exact al l1 _ | exact al l2 _ | exact al l3 _ | exact aI l1 | exact aI l2 | exact aI l3 | exact co hc (by decide) | exact aY hc | omega) hTO)
  refine wpAny_bind (wpAny_seqItems bn rfl ?_)
  refine wpAny_bind (h8 bn (by simp) λ aj bf af=>?_)
  replace bf:dB aj (n+4) #[x,c2,c3]:=bf
  refine wpAny_bind (wpAny_letGo (wpAny_pure ?_))
  refine wpAny_bind (wpAny_bind (wpAny_onRaise ?_))
  show wpAny _ _ (Builtin.SmallTypes.nextOf (.ref (n+1)) >>= _) _ _ _
  refine wpAny_bind (bS (((i2.ext ad (by first | exact nn (by decide) | exact n0 (by decide) | exact aX (by decide) | exact al l1 _ | exact al l2 _ | exact al l3 _ | exact aI l1 | exact aI l2 | exact aI l3 | exact co hc (by decide) | exact aY hc | omega)).ext ae (by first | exact nn (by decide) | exact n0 (by decide) | exact aX (by decide) | exact al l1 _ | exact al l2 _ | exact al l3 _ | exact aI l1 | exact aI l2 | exact aI l3 | exact co hc (by decide) | exact aY hc | omega)).ext af (by first | exact nn (by decide) | exact n0 (by decide) | exact aX (by decide) | exact al l1 _ | exact al l2 _ | exact al l3 _ | exact aI l1 | exact aI l2 | exact aI l3 | exact co hc (by decide) | exact aY hc | omega)) (((s2.ext ad (by first | exact nn (by decide) | exact n0 (by decide) | exact aX (by decide) | exact al l1 _ | exact al l2 _ | exact al l3 _ | exact aI l1 | exact aI l2 | exact aI l3 | exact co hc (by decide) | exact aY hc | omega)).ext ae (by first | exact nn (by decide) | exact n0 (by decide) | exact aX (by decide) | exact al l1 _ | exact al l2 _ | exact al l3 _ | exact aI l1 | exact aI l2 | exact aI l3 | exact co hc (by decide) | exact aY hc | omega)).ext af (by first | exact nn (by decide) | exact n0 (by decide) | exact aX (by decide) | exact al l1 _ | exact al l2 _ | exact al l3 _ | exact aI l1 | exact aI l2 | exact aI l3 | exact co hc (by decide) | exact aY hc | omega)) hy λ ap cm ah=>wpAny_pure ?_)
  have bv:dB ap (n+4) #[x,c2,c3]:=ex ah (by first | exact nn (by decide) | exact n0 (by decide) | exact aX (by decide) | exact al l1 _ | exact al l2 _ | exact al l3 _ | exact aI l1 | exact aI l2 | exact aI l3 | exact co hc (by decide) | exact aY hc | omega) bf
  refine wpAny_bind (wpAny_seqItems bv rfl ?_)
  refine wpAny_bind (h8 bv (by simp) λ bb cp ar=>?_)
  replace cp:dB bb (n+4) #[x,y,c3]:=cp
  refine wpAny_bind (wpAny_letGo (wpAny_pure ?_))
  refine wpAny_bind (wpAny_bind (wpAny_onRaise ?_))
  show wpAny _ _ (Builtin.SmallTypes.nextOf (.ref (n+2)) >>= _) _ _ _
  refine wpAny_bind (bS (((((i3.ext ad (by first | exact nn (by decide) | exact n0 (by decide) | exact aX (by decide) | exact al l1 _ | exact al l2 _ | exact al l3 _ | exact aI l1 | exact aI l2 | exact aI l3 | exact co hc (by decide) | exact aY hc | omega)).ext ae (by first | exact nn (by decide) | exact n0 (by decide) | exact aX (by decide) | exact al l1 _ | exact al l2 _ | exact al l3 _ | exact aI l1 | exact aI l2 | exact aI l3 | exact co hc (by decide) | exact aY hc | omega)).ext af (by first | exact nn (by decide) | exact n0 (by decide) | exact aX (by decide) | exact al l1 _ | exact al l2 _ | exact al l3 _ | exact aI l1 | exact aI l2 | exact aI l3 | exact co hc (by decide) | exact aY hc | omega)).ext ah (by first | exact nn (by decide) | exact n0 (by decide) | exact aX (by decide) | exact al l1 _ | exact al l2 _ | exact al l3 _ | exact aI l1 | exact aI l2 | exact aI l3 | exact co hc (by decide) | exact aY hc | omega)).ext ar (by first | exact nn (by decide) | exact n0 (by decide) | exact aX (by decide) | exact al l1 _ | exact al l2 _ | exact al l3 _ | exact aI l1 | exact aI l2 | exact aI l3 | exact co hc (by decide) | exact aY hc | omega))
   (((((s3.ext ad (by first | exact nn (by decide) | exact n0 (by decide) | exact aX (by decide) | exact al l1 _ | exact al l2 _ | exact al l3 _ | exact aI l1 | exact aI l2 | exact aI l3 | exact co hc (by decide) | exact aY hc | omega)).ext ae (by first | exact nn (by decide) | exact n0 (by decide) | exact aX (by decide) | exact al l1 _ | exact al l2 _ | exact al l3 _ | exact aI l1 | exact aI l2 | exact aI l3 | exact co hc (by decide) | exact aY hc | omega)).ext af (by first | exact nn (by decide) | exact n0 (by decide) | exact aX (by decide) | exact al l1 _ | exact al l2 _ | exact al l3 _ | exact aI l1 | exact aI l2 | exact aI l3 | exact co hc (by decide) | exact aY hc | omega)).ext ah (by first | exact nn (by decide) | exact n0 (by decide) | exact aX (by decide) | exact al l1 _ | exact al l2 _ | exact al l3 _ | exact aI l1 | exact aI l2 | exact aI l3 | exact co hc (by decide) | exact aY hc | omega)).ext ar (by first | exact nn (by decide) | exact n0 (by decide) | exact aX (by decide) | exact al l1 _ | exact al l2 _ | exact al l3 _ | exact aI l1 | exact aI l2 | exact aI l3 | exact co hc (by decide) | exact aY hc | omega)) hw λ ci i3₆ bc=>wpAny_pure ?_)
  have dy:dB ci (n+4) #[x,y,c3]:=ex bc (by first | exact nn (by decide) | exact n0 (by decide) | exact aX (by decide) | exact al l1 _ | exact al l2 _ | exact al l3 _ | exact aI l1 | exact aI l2 | exact aI l3 | exact co hc (by decide) | exact aY hc | omega) cp
  refine wpAny_bind (wpAny_seqItems dy rfl ?_)
  refine wpAny_bind (h8 dy (by simp) λ au bq bi=>?_)
  replace bq:dB au (n+4) #[x,y,z]:=bq
  refine wpAny_bind (wpAny_letGo (wpAny_pure (wpAny_pure ?_)))
  refine wpAny_bind (wpAny_seqItems bq rfl ?_)
  refine wpAny_bind (wpAny_newTuple ?_)
  have hsz:au.objs.size=s.heap.objs.size:=by rw[bi.1,bc.1,ar.1,ah.1,af.1,ae.1,ad.1]
  have keep:∀ (c:Nat) o,(c < n\/n+5 < c)->s.heap.get? c=some o->au.get? c=some o:=λ c o hc e=>
   ex bi (by first | exact nn (by decide) | exact n0 (by decide) | exact aX (by decide) | exact al l1 _ | exact al l2 _ | exact al l3 _ | exact aI l1 | exact aI l2 | exact aI l3 | exact co hc (by decide) | exact aY hc | omega) (ex bc (by first | exact nn (by decide) | exact n0 (by decide) | exact aX (by decide) | exact al l1 _ | exact al l2 _ | exact al l3 _ | exact aI l1 | exact aI l2 | exact aI l3 | exact co hc (by decide) | exact aY hc | omega) (ex ar (by first | exact nn (by decide) | exact n0 (by decide) | exact aX (by decide) | exact al l1 _ | exact al l2 _ | exact al l3 _ | exact aI l1 | exact aI l2 | exact aI l3 | exact co hc (by decide) | exact aY hc | omega) (ex ah (by first | exact nn (by decide) | exact n0 (by decide) | exact aX (by decide) | exact al l1 _ | exact al l2 _ | exact al l3 _ | exact aI l1 | exact aI l2 | exact aI l3 | exact co hc (by decide) | exact aY hc | omega) (ex af (by first | exact nn (by decide) | exact n0 (by decide) | exact aX (by decide) | exact al l1 _ | exact al l2 _ | exact al l3 _ | exact aI l1 | exact aI l2 | exact aI l3 | exact co hc (by decide) | exact aY hc | omega) (ex ae (by first | exact nn (by decide) | exact n0 (by decide) | exact aX (by decide) | exact al l1 _ | exact al l2 _ | exact al l3 _ | exact aI l1 | exact aI l2 | exact aI l3 | exact co hc (by decide) | exact aY hc | omega) (ex ad (by first | exact nn (by decide) | exact n0 (by decide) | exact aX (by decide) | exact al l1 _ | exact al l2 _ | exact al l3 _ | exact aI l1 | exact aI l2 | exact aI l3 | exact co hc (by decide) | exact aY hc | omega) e))))))
  have de:lZ au (n+5) (n+3) (n+4) .ellipsis f1:=ex bi (by first | exact nn (by decide) | exact n0 (by decide) | exact aX (by decide) | exact al l1 _ | exact al l2 _ | exact al l3 _ | exact aI l1 | exact aI l2 | exact aI l3 | exact co hc (by decide) | exact aY hc | omega) (ex bc (by first | exact nn (by decide) | exact n0 (by decide) | exact aX (by decide) | exact al l1 _ | exact al l2 _ | exact al l3 _ | exact aI l1 | exact aI l2 | exact aI l3 | exact co hc (by decide) | exact aY hc | omega) (ex ar (by first | exact nn (by decide) | exact n0 (by decide) | exact aX (by decide) | exact al l1 _ | exact al l2 _ | exact al l3 _ | exact aI l1 | exact aI l2 | exact aI l3 | exact co hc (by decide) | exact aY hc | omega) (ex ah (by first | exact nn (by decide) | exact n0 (by decide) | exact aX (by decide) | exact al l1 _ | exact al l2 _ | exact al l3 _ | exact aI l1 | exact aI l2 | exact aI l3 | exact co hc (by decide) | exact aY hc | omega) (ex af (by first | exact nn (by decide) | exact n0 (by decide) | exact aX (by decide) | exact al l1 _ | exact al l2 _ | exact al l3 _ | exact aI l1 | exact aI l2 | exact aI l3 | exact co hc (by decide) | exact aY hc | omega) (ex ae (by first | exact nn (by decide) | exact n0 (by decide) | exact aX (by decide) | exact al l1 _ | exact al l2 _ | exact al l3 _ | exact aI l1 | exact aI l2 | exact aI l3 | exact co hc (by decide) | exact aY hc | omega) ao)))))
  have cw:dB au (n+3) #[.ref n,.ref (n+1),.ref (n+2)]:=ex bi (by first | exact nn (by decide) | exact n0 (by decide) | exact aX (by decide) | exact al l1 _ | exact al l2 _ | exact al l3 _ | exact aI l1 | exact aI l2 | exact aI l3 | exact co hc (by decide) | exact aY hc | omega) (ex bc (by first | exact nn (by decide) | exact n0 (by decide) | exact aX (by decide) | exact al l1 _ | exact al l2 _ | exact al l3 _ | exact aI l1 | exact aI l2 | exact aI l3 | exact co hc (by decide) | exact aY hc | omega) (ex ar (by first | exact nn (by decide) | exact n0 (by decide) | exact aX (by decide) | exact al l1 _ | exact al l2 _ | exact al l3 _ | exact aI l1 | exact aI l2 | exact aI l3 | exact co hc (by decide) | exact aY hc | omega) (ex ah (by first | exact nn (by decide) | exact n0 (by decide) | exact aX (by decide) | exact al l1 _ | exact al l2 _ | exact al l3 _ | exact aI l1 | exact aI l2 | exact aI l3 | exact co hc (by decide) | exact aY hc | omega) (ex af (by first | exact nn (by decide) | exact n0 (by decide) | exact aX (by decide) | exact al l1 _ | exact al l2 _ | exact al l3 _ | exact aI l1 | exact aI l2 | exact aI l3 | exact co hc (by decide) | exact aY hc | omega) (ex ae (by first | exact nn (by decide) | exact n0 (by decide) | exact aX (by decide) | exact al l1 _ | exact al l2 _ | exact al l3 _ | exact aI l1 | exact aI l2 | exact aI l3 | exact co hc (by decide) | exact aY hc | omega) (ex ad (by first | exact nn (by decide) | exact n0 (by decide) | exact aX (by decide) | exact al l1 _ | exact al l2 _ | exact al l3 _ | exact aI l1 | exact aI l2 | exact aI l3 | exact co hc (by decide) | exact aY hc | omega) hTI))))))
  have df:=((((bp.ext af (by first | exact nn (by decide) | exact n0 (by decide) | exact aX (by decide) | exact al l1 _ | exact al l2 _ | exact al l3 _ | exact aI l1 | exact aI l2 | exact aI l3 | exact co hc (by decide) | exact aY hc | omega)).ext ah (by first | exact nn (by decide) | exact n0 (by decide) | exact aX (by decide) | exact al l1 _ | exact al l2 _ | exact al l3 _ | exact aI l1 | exact aI l2 | exact aI l3 | exact co hc (by decide) | exact aY hc | omega)).ext ar (by first | exact nn (by decide) | exact n0 (by decide) | exact aX (by decide) | exact al l1 _ | exact al l2 _ | exact al l3 _ | exact aI l1 | exact aI l2 | exact aI l3 | exact co hc (by decide) | exact aY hc | omega)).ext bc (by first | exact nn (by decide) | exact n0 (by decide) | exact aX (by decide) | exact al l1 _ | exact al l2 _ | exact al l3 _ | exact aI l1 | exact aI l2 | exact aI l3 | exact co hc (by decide) | exact aY hc | omega)).ext bi (by first | exact nn (by decide) | exact n0 (by decide) | exact aX (by decide) | exact al l1 _ | exact al l2 _ | exact al l3 _ | exact aI l1 | exact aI l2 | exact aI l3 | exact co hc (by decide) | exact aY hc | omega)
  have dh:=((cm.ext ar (by first | exact nn (by decide) | exact n0 (by decide) | exact aX (by decide) | exact al l1 _ | exact al l2 _ | exact al l3 _ | exact aI l1 | exact aI l2 | exact aI l3 | exact co hc (by decide) | exact aY hc | omega)).ext bc (by first | exact nn (by decide) | exact n0 (by decide) | exact aX (by decide) | exact al l1 _ | exact al l2 _ | exact al l3 _ | exact aI l1 | exact aI l2 | exact aI l3 | exact co hc (by decide) | exact aY hc | omega)).ext bi (by first | exact nn (by decide) | exact n0 (by decide) | exact aX (by decide) | exact al l1 _ | exact al l2 _ | exact al l3 _ | exact aI l1 | exact aI l2 | exact aI l3 | exact co hc (by decide) | exact aY hc | omega)
  have i3₇:=i3₆.ext bi (by first | exact nn (by decide) | exact n0 (by decide) | exact aX (by decide) | exact al l1 _ | exact al l2 _ | exact al l3 _ | exact aI l1 | exact aI l2 | exact aI l3 | exact co hc (by decide) | exact aY hc | omega)
  have eu:n+5 < au.objs.size:=by rw[hsz];exact hzlt
  have up:∀ {c o},au.get? c=some o->(au.push { cls:=.type "tuple",data:=.seq #[x,y,z] }).get? c=some o:=λ e=>Heap.get?_push_of_some _ e
  refine wpAny_bind (zF (z:=n+5) (TI:=n+3) (TO:=n+4) (f0:=.ellipsis) (f1:=f1) (up de) λ cx di cq=>?_)
  have up8:∀ {c:Nat}{o},c≠n+5->au.get? c=some o->cx.get? c=some o:=λ hc e=>ex cq hc (up e)
  refine wpAny_pure ⟨_,rfl,hQ au.objs.size cx (rawInt au.objs.size) false x y z (by rw[hsz];exact Nat.le_refl _) (.inr ⟨_,rfl⟩) di (up8 (by first | exact nn (by decide) | exact n0 (by decide) | exact aX (by decide) | exact al l1 _ | exact al l2 _ | exact al l3 _ | exact aI l1 | exact aI l2 | exact aI l3 | exact co hc (by decide) | exact aY hc | omega) cw) (up8 (by first | exact nn (by decide) | exact n0 (by decide) | exact aX (by decide) | exact al l1 _ | exact al l2 _ | exact al l3 _ | exact aI l1 | exact aI l2 | exact aI l3 | exact co hc (by decide) | exact aY hc | omega) bq) (df.at λ o e=>up8 (by first | exact nn (by decide) | exact n0 (by decide) | exact aX (by decide) | exact al l1 _ | exact al l2 _ | exact al l3 _ | exact aI l1 | exact aI l2 | exact aI l3 | exact co hc (by decide) | exact aY hc | omega) e) (dh.at λ o e=>up8 (by first | exact nn (by decide) | exact n0 (by decide) | exact aX (by decide) | exact al l1 _ | exact al l2 _ | exact al l3 _ | exact aI l1 | exact aI l2 | exact aI l3 | exact co hc (by decide) | exact aY hc | omega) e) (i3₇.at λ o e=>up8 (by first | exact nn (by decide) | exact n0 (by decide) | exact aX (by decide) | exact al l1 _ | exact al l2 _ | exact al l3 _ | exact aI l1 | exact aI l2 | exact aI l3 | exact co hc (by decide) | exact aY hc | omega) e)
   (ex cq (by first | exact nn (by decide) | exact n0 (by decide) | exact aX (by decide) | exact al l1 _ | exact al l2 _ | exact al l3 _ | exact aI l1 | exact aI l2 | exact aI l3 | exact co hc (by decide) | exact aY hc | omega) (Heap.get?_push_size _ rfl)) λ c o hc e=>up8 (by first | exact nn (by decide) | exact n0 (by decide) | exact aX (by decide) | exact al l1 _ | exact al l2 _ | exact al l3 _ | exact aI l1 | exact aI l2 | exact aI l3 | exact co hc (by decide) | exact aY hc | omega) (keep c o hc e)⟩
 ·intro ak ao ad
  simp only [Bool.false_eq_true,if_false]
  refine wpAny_bind ?_
  rw[<- Array.forIn_toList]
  simp only [List.forIn_cons,List.forIn_nil]
  refine wpAny_bind (wpAny_bind (wpAny_holding ?_))
  show wpAny _ _ (Builtin.SmallTypes.nextOf (.ref n) >>= _) _ _ _
  refine wpAny_bind (bS (i1.ext ad (by first | exact nn (by decide) | exact n0 (by decide) | exact aX (by decide) | exact al l1 _ | exact al l2 _ | exact al l3 _ | exact aI l1 | exact aI l2 | exact aI l3 | exact co hc (by decide) | exact aY hc | omega)) (s1.ext ad (by first | exact nn (by decide) | exact n0 (by decide) | exact aX (by decide) | exact al l1 _ | exact al l2 _ | exact al l3 _ | exact aI l1 | exact aI l2 | exact aI l3 | exact co hc (by decide) | exact aY hc | omega)) hx λ am bp ae=>wpAny_pure (wpAny_pure ?_))
  refine wpAny_bind (wpAny_bind (wpAny_holding ?_))
  show wpAny _ _ (Builtin.SmallTypes.nextOf (.ref (n+1)) >>= _) _ _ _
  refine wpAny_bind (bS ((i2.ext ad (by first | exact nn (by decide) | exact n0 (by decide) | exact aX (by decide) | exact al l1 _ | exact al l2 _ | exact al l3 _ | exact aI l1 | exact aI l2 | exact aI l3 | exact co hc (by decide) | exact aY hc | omega)).ext ae (by first | exact nn (by decide) | exact n0 (by decide) | exact aX (by decide) | exact al l1 _ | exact al l2 _ | exact al l3 _ | exact aI l1 | exact aI l2 | exact aI l3 | exact co hc (by decide) | exact aY hc | omega)) ((s2.ext ad (by first | exact nn (by decide) | exact n0 (by decide) | exact aX (by decide) | exact al l1 _ | exact al l2 _ | exact al l3 _ | exact aI l1 | exact aI l2 | exact aI l3 | exact co hc (by decide) | exact aY hc | omega)).ext ae (by first | exact nn (by decide) | exact n0 (by decide) | exact aX (by decide) | exact al l1 _ | exact al l2 _ | exact al l3 _ | exact aI l1 | exact aI l2 | exact aI l3 | exact co hc (by decide) | exact aY hc | omega)) hy λ aj ee af=>wpAny_pure (wpAny_pure ?_))
  refine wpAny_bind (wpAny_bind (wpAny_holding ?_))
  show wpAny _ _ (Builtin.SmallTypes.nextOf (.ref (n+2)) >>= _) _ _ _
  refine wpAny_bind (bS (((i3.ext ad (by first | exact nn (by decide) | exact n0 (by decide) | exact aX (by decide) | exact al l1 _ | exact al l2 _ | exact al l3 _ | exact aI l1 | exact aI l2 | exact aI l3 | exact co hc (by decide) | exact aY hc | omega)).ext ae (by first | exact nn (by decide) | exact n0 (by decide) | exact aX (by decide) | exact al l1 _ | exact al l2 _ | exact al l3 _ | exact aI l1 | exact aI l2 | exact aI l3 | exact co hc (by decide) | exact aY hc | omega)).ext af (by first | exact nn (by decide) | exact n0 (by decide) | exact aX (by decide) | exact al l1 _ | exact al l2 _ | exact al l3 _ | exact aI l1 | exact aI l2 | exact aI l3 | exact co hc (by decide) | exact aY hc | omega)) (((s3.ext ad (by first | exact nn (by decide) | exact n0 (by decide) | exact aX (by decide) | exact al l1 _ | exact al l2 _ | exact al l3 _ | exact aI l1 | exact aI l2 | exact aI l3 | exact co hc (by decide) | exact aY hc | omega)).ext ae (by first | exact nn (by decide) | exact n0 (by decide) | exact aX (by decide) | exact al l1 _ | exact al l2 _ | exact al l3 _ | exact aI l1 | exact aI l2 | exact aI l3 | exact co hc (by decide) | exact aY hc | omega)).ext af (by first | exact nn (by decide) | exact n0 (by decide) | exact aX (by decide) | exact al l1 _ | exact al l2 _ | exact al l3 _ | exact aI l1 | exact aI l2 | exact aI l3 | exact co hc (by decide) | exact aY hc | omega)) hw λ ap i3₄ ah=>wpAny_pure (wpAny_pure (wpAny_pure ?_)))
  refine wpAny_bind (wpAny_newTuple (hsz:=by show 3<=sizeLine;decide) (wpAny_pure ⟨_,rfl,?_⟩))
  have hsz:ap.objs.size=s.heap.objs.size:=by rw[ah.1,af.1,ae.1,ad.1]
  have up:∀ {c o},ap.get? c=some o->(ap.push { cls:=.type "tuple",data:=.seq #[x,y,z] }).get? c=some o:=λ e=>Heap.get?_push_of_some _ e
  have keep:∀ (c:Nat) o,(c < n\/n+5 < c)->s.heap.get? c=some o->ap.get? c=some o:=λ c o hc e=>ex ah (by first | exact nn (by decide) | exact n0 (by decide) | exact aX (by decide) | exact al l1 _ | exact al l2 _ | exact al l3 _ | exact aI l1 | exact aI l2 | exact aI l3 | exact co hc (by decide) | exact aY hc | omega) (ex af (by first | exact nn (by decide) | exact n0 (by decide) | exact aX (by decide) | exact al l1 _ | exact al l2 _ | exact al l3 _ | exact aI l1 | exact aI l2 | exact aI l3 | exact co hc (by decide) | exact aY hc | omega) (ex ae (by first | exact nn (by decide) | exact n0 (by decide) | exact aX (by decide) | exact al l1 _ | exact al l2 _ | exact al l3 _ | exact aI l1 | exact aI l2 | exact aI l3 | exact co hc (by decide) | exact aY hc | omega) (ex ad (by first | exact nn (by decide) | exact n0 (by decide) | exact aX (by decide) | exact al l1 _ | exact al l2 _ | exact al l3 _ | exact aI l1 | exact aI l2 | exact aI l3 | exact co hc (by decide) | exact aY hc | omega) e)))
  refine hQ ap.objs.size (ap.push { cls:=.type "tuple",data:=.seq #[x,y,z] }) f0 true c1 c2 c3 (by rw[hsz];exact Nat.le_refl _) hf (up (ex ah (by first | exact nn (by decide) | exact n0 (by decide) | exact aX (by decide) | exact al l1 _ | exact al l2 _ | exact al l3 _ | exact aI l1 | exact aI l2 | exact aI l3 | exact co hc (by decide) | exact aY hc | omega) (ex af (by first | exact nn (by decide) | exact n0 (by decide) | exact aX (by decide) | exact al l1 _ | exact al l2 _ | exact al l3 _ | exact aI l1 | exact aI l2 | exact aI l3 | exact co hc (by decide) | exact aY hc | omega) (ex ae (by first | exact nn (by decide) | exact n0 (by decide) | exact aX (by decide) | exact al l1 _ | exact al l2 _ | exact al l3 _ | exact aI l1 | exact aI l2 | exact aI l3 | exact co hc (by decide) | exact aY hc | omega) ao))))
   (up (ex ah (by first | exact nn (by decide) | exact n0 (by decide) | exact aX (by decide) | exact al l1 _ | exact al l2 _ | exact al l3 _ | exact aI l1 | exact aI l2 | exact aI l3 | exact co hc (by decide) | exact aY hc | omega) (ex af (by first | exact nn (by decide) | exact n0 (by decide) | exact aX (by decide) | exact al l1 _ | exact al l2 _ | exact al l3 _ | exact aI l1 | exact aI l2 | exact aI l3 | exact co hc (by decide) | exact aY hc | omega) (ex ae (by first | exact nn (by decide) | exact n0 (by decide) | exact aX (by decide) | exact al l1 _ | exact al l2 _ | exact al l3 _ | exact aI l1 | exact aI l2 | exact aI l3 | exact co hc (by decide) | exact aY hc | omega) (ex ad (by first | exact nn (by decide) | exact n0 (by decide) | exact aX (by decide) | exact al l1 _ | exact al l2 _ | exact al l3 _ | exact aI l1 | exact aI l2 | exact aI l3 | exact co hc (by decide) | exact aY hc | omega) hTI))))) (up (ex ah (by first | exact nn (by decide) | exact n0 (by decide) | exact aX (by decide) | exact al l1 _ | exact al l2 _ | exact al l3 _ | exact aI l1 | exact aI l2 | exact aI l3 | exact co hc (by decide) | exact aY hc | omega) (ex af (by first | exact nn (by decide) | exact n0 (by decide) | exact aX (by decide) | exact al l1 _ | exact al l2 _ | exact al l3 _ | exact aI l1 | exact aI l2 | exact aI l3 | exact co hc (by decide) | exact aY hc | omega) (ex ae (by first | exact nn (by decide) | exact n0 (by decide) | exact aX (by decide) | exact al l1 _ | exact al l2 _ | exact al l3 _ | exact aI l1 | exact aI l2 | exact aI l3 | exact co hc (by decide) | exact aY hc | omega) (ex ad (by first | exact nn (by decide) | exact n0 (by decide) | exact aX (by decide) | exact al l1 _ | exact al l2 _ | exact al l3 _ | exact aI l1 | exact aI l2 | exact aI l3 | exact co hc (by decide) | exact aY hc | omega) hTO)))))
   (((bp.ext af (by first | exact nn (by decide) | exact n0 (by decide) | exact aX (by decide) | exact al l1 _ | exact al l2 _ | exact al l3 _ | exact aI l1 | exact aI l2 | exact aI l3 | exact co hc (by decide) | exact aY hc | omega)).ext ah (by first | exact nn (by decide) | exact n0 (by decide) | exact aX (by decide) | exact al l1 _ | exact al l2 _ | exact al l3 _ | exact aI l1 | exact aI l2 | exact aI l3 | exact co hc (by decide) | exact aY hc | omega)).at λ o e=>up e) ((ee.ext ah (by first | exact nn (by decide) | exact n0 (by decide) | exact aX (by decide) | exact al l1 _ | exact al l2 _ | exact al l3 _ | exact aI l1 | exact aI l2 | exact aI l3 | exact co hc (by decide) | exact aY hc | omega)).at λ o e=>up e) (i3₄.at λ o e=>up e) (Heap.get?_push_size _ rfl) λ c o hc e=>up (keep c o hc e)
theorem BI {n a1 a2 a3:Nat}{t1 t2 t3:Bool}{k:Nat}{xs ys zs:Array Value}{c1 c2 c3 f0:Value}{f1:Bool}{Q:Fin->Shared->Prop} (hh:A.handled=none) (hf:gL f0)
  (hz:lZ s.heap (n+5) (n+3) (n+4) f0 f1) (hTI:dB s.heap (n+3) #[.ref n,.ref (n+1),.ref (n+2)]) (hTO:dB s.heap (n+4) #[c1,c2,c3])
  (i1:dI s.heap t1 n a1 k) (i2:dI s.heap t2 (n+1) a2 k) (i3:dI s.heap t3 (n+2) a3 k) (s1:cG s.heap t1 a1 xs) (s2:cG s.heap t2 a2 ys) (s3:cG s.heap t3 a3 zs)
  (l1:a1 < n) (l2:a2 < n) (l3:a3 < n) (hend:xs[k]? = none\/ys[k]? = none\/zs[k]? = none)
  (hE:∀ h' e,(∀ (c:Nat) o,(c < n\/n+5 < c)->s.heap.get? c=some o->h'.get? c=some o)->(∃ o,h'.get? e=some o/\o.cls=.type "StopIteration")->E (.ref e) { s with heap:=h' }) :
  wpAny (model prog w) A (Builtin.«zip.__next__» ⟨[.ref (n+5)],[]⟩) Q E s:=by
 show wpAny _ _ (field (.ref (n+5)) 2 >>= _) _ _ _
 refine wpAny_bind (wpAny_field hz rfl (x:=.bool false) rfl ?_)
 show wpAny _ _ (field (.ref (n+5)) 3 >>= _) _ _ _
 refine wpAny_bind (wpAny_field hz rfl (x:=.ref (n+3)) rfl ?_)
 refine wpAny_bind (wpAny_seqItems hTI rfl ?_)
 show wpAny _ _ (Builtin.SmallTypes.ownedTupleIsFree (.ref (n+5)) >>= _) _ _ _
 refine wpAny_bind (iP hz hf ?_ ?_)
 ·simp only [if_true]
  refine wpAny_bind (wpAny_rule ?_)
  refine wpAny_bind (wpAny_field hz rfl (x:=.ref (n+4)) rfl ?_)
  refine wpAny_bind (wpAny_setField_rec hz (by simp) λ ak ao ad=>?_)
  replace ao:lZ ak (n+5) (n+3) (n+4) .ellipsis f1:=ao
  refine wpAny_bind ?_
  simp only [List.zipIdx_cons,List.zipIdx_nil,List.forIn_cons,List.forIn_nil]
  have fin:∀ {am aj:Heap}{e j:Nat}{oe:Obj},lZ am (n+5) (n+3) (n+4) .ellipsis f1->Heap.ExtBut j am aj->@Ne Nat (n+5) j->(n<=j/\j<=n+5)->(∀ (c:Nat) o,(c < n\/n+5 < c)->s.heap.get? c=some o->am.get? c=some o)->aj.get? e=some oe->oe.cls=.type "StopIteration" ->
    wpAny (model prog w) A (setField (.ref (n+5)) 0 .none) (λ _ s'=>E (.ref e) s') E { s with heap:=aj }:=λ {am aj e j oe} cj hx hj hr hk hoe hce=>by
   have bu:lZ aj (n+5) (n+3) (n+4) .ellipsis f1:=hx _ _ hj cj
   have hez:e≠n+5:=λ q=>by subst q;rw[bu] at hoe;cases hoe;simp at hce
   refine wpAny_setField_rec bu (by simp) λ ap _ ah=>hE ap e (λ c o hc q=>ex ah (by first | exact nn (by decide) | exact n0 (by decide) | exact aX (by decide) | exact al l1 _ | exact al l2 _ | exact al l3 _ | exact aI l1 | exact aI l2 | exact aI l3 | exact co hc (by decide) | exact aY hc | omega) (hx c o (show @Ne Nat c j by omega) (hk c o hc q))) ⟨oe,ah.extBut _ _ hez hoe,hce⟩
  refine wpAny_bind (wpAny_bind (wpAny_onRaise ?_))
  show wpAny _ _ (Builtin.SmallTypes.nextOf (.ref n) >>= _) _ _ _
  cases hx:xs[k]? with
  | none=>
   refine wpAny_bind (d9 hh (i1.ext ad (by first | exact nn (by decide) | exact n0 (by decide) | exact aX (by decide) | exact al l1 _ | exact al l2 _ | exact al l3 _ | exact aI l1 | exact aI l2 | exact aI l3 | exact co hc (by decide) | exact aY hc | omega)) (s1.ext ad (by first | exact nn (by decide) | exact n0 (by decide) | exact aX (by decide) | exact al l1 _ | exact al l2 _ | exact al l3 _ | exact aI l1 | exact aI l2 | exact aI l3 | exact co hc (by decide) | exact aY hc | omega)) hx λ am e ae he=>?_)
   obtain⟨oe,hoe,hce⟩:=he
   exact fin ao ae (by first | exact nn (by decide) | exact n0 (by decide) | exact aX (by decide) | exact al l1 _ | exact al l2 _ | exact al l3 _ | exact aI l1 | exact aI l2 | exact aI l3 | exact co hc (by decide) | exact aY hc | omega) (by first | exact nn (by decide) | exact n0 (by decide) | exact aX (by decide) | exact al l1 _ | exact al l2 _ | exact al l3 _ | exact aI l1 | exact aI l2 | exact aI l3 | exact co hc (by decide) | exact aY hc | omega) (λ c o hc q=>ex ad (by first | exact nn (by decide) | exact n0 (by decide) | exact aX (by decide) | exact al l1 _ | exact al l2 _ | exact al l3 _ | exact aI l1 | exact aI l2 | exact aI l3 | exact co hc (by decide) | exact aY hc | omega) q) hoe hce
  | some x=>
   refine wpAny_bind (bS (i1.ext ad (by first | exact nn (by decide) | exact n0 (by decide) | exact aX (by decide) | exact al l1 _ | exact al l2 _ | exact al l3 _ | exact aI l1 | exact aI l2 | exact aI l3 | exact co hc (by decide) | exact aY hc | omega)) (s1.ext ad (by first | exact nn (by decide) | exact n0 (by decide) | exact aX (by decide) | exact al l1 _ | exact al l2 _ | exact al l3 _ | exact aI l1 | exact aI l2 | exact aI l3 | exact co hc (by decide) | exact aY hc | omega)) hx λ am bp ae=>wpAny_pure ?_)
   have bn:dB am (n+4) #[c1,c2,c3]:=ex ae (by first | exact nn (by decide) | exact n0 (by decide) | exact aX (by decide) | exact al l1 _ | exact al l2 _ | exact al l3 _ | exact aI l1 | exact aI l2 | exact aI l3 | exact co hc (by decide) | exact aY hc | omega) (ex ad (by first | exact nn (by decide) | exact n0 (by decide) | exact aX (by decide) | exact al l1 _ | exact al l2 _ | exact al l3 _ | exact aI l1 | exact aI l2 | exact aI l3 | exact co hc (by decide) | exact aY hc | omega) hTO)
   refine wpAny_bind (wpAny_seqItems bn rfl ?_)
   refine wpAny_bind (h8 bn (by simp) λ aj bf af=>?_)
   replace bf:dB aj (n+4) #[x,c2,c3]:=bf
   refine wpAny_bind (wpAny_letGo (wpAny_pure ?_))
   have bu:lZ aj (n+5) (n+3) (n+4) .ellipsis f1:=ex af (by first | exact nn (by decide) | exact n0 (by decide) | exact aX (by decide) | exact al l1 _ | exact al l2 _ | exact al l3 _ | exact aI l1 | exact aI l2 | exact aI l3 | exact co hc (by decide) | exact aY hc | omega) (ex ae (by first | exact nn (by decide) | exact n0 (by decide) | exact aX (by decide) | exact al l1 _ | exact al l2 _ | exact al l3 _ | exact aI l1 | exact aI l2 | exact aI l3 | exact co hc (by decide) | exact aY hc | omega) ao)
   have dj:∀ (c:Nat) o,(c < n\/n+5 < c)->s.heap.get? c=some o->aj.get? c=some o:=λ c o hc e=>ex af (by first | exact nn (by decide) | exact n0 (by decide) | exact aX (by decide) | exact al l1 _ | exact al l2 _ | exact al l3 _ | exact aI l1 | exact aI l2 | exact aI l3 | exact co hc (by decide) | exact aY hc | omega) (ex ae (by first | exact nn (by decide) | exact n0 (by decide) | exact aX (by decide) | exact al l1 _ | exact al l2 _ | exact al l3 _ | exact aI l1 | exact aI l2 | exact aI l3 | exact co hc (by decide) | exact aY hc | omega) (ex ad (by first | exact nn (by decide) | exact n0 (by decide) | exact aX (by decide) | exact al l1 _ | exact al l2 _ | exact al l3 _ | exact aI l1 | exact aI l2 | exact aI l3 | exact co hc (by decide) | exact aY hc | omega) e))
   refine wpAny_bind (wpAny_bind (wpAny_onRaise ?_))
   show wpAny _ _ (Builtin.SmallTypes.nextOf (.ref (n+1)) >>= _) _ _ _
   cases hy:ys[k]? with
   | none=>
    refine wpAny_bind (d9 hh (((i2.ext ad (by first | exact nn (by decide) | exact n0 (by decide) | exact aX (by decide) | exact al l1 _ | exact al l2 _ | exact al l3 _ | exact aI l1 | exact aI l2 | exact aI l3 | exact co hc (by decide) | exact aY hc | omega)).ext ae (by first | exact nn (by decide) | exact n0 (by decide) | exact aX (by decide) | exact al l1 _ | exact al l2 _ | exact al l3 _ | exact aI l1 | exact aI l2 | exact aI l3 | exact co hc (by decide) | exact aY hc | omega)).ext af (by first | exact nn (by decide) | exact n0 (by decide) | exact aX (by decide) | exact al l1 _ | exact al l2 _ | exact al l3 _ | exact aI l1 | exact aI l2 | exact aI l3 | exact co hc (by decide) | exact aY hc | omega)) (((s2.ext ad (by first | exact nn (by decide) | exact n0 (by decide) | exact aX (by decide) | exact al l1 _ | exact al l2 _ | exact al l3 _ | exact aI l1 | exact aI l2 | exact aI l3 | exact co hc (by decide) | exact aY hc | omega)).ext ae (by first | exact nn (by decide) | exact n0 (by decide) | exact aX (by decide) | exact al l1 _ | exact al l2 _ | exact al l3 _ | exact aI l1 | exact aI l2 | exact aI l3 | exact co hc (by decide) | exact aY hc | omega)).ext af (by first | exact nn (by decide) | exact n0 (by decide) | exact aX (by decide) | exact al l1 _ | exact al l2 _ | exact al l3 _ | exact aI l1 | exact aI l2 | exact aI l3 | exact co hc (by decide) | exact aY hc | omega)) hy λ ap e ah he=>?_)
    obtain⟨oe,hoe,hce⟩:=he
    exact fin bu ah (by first | exact nn (by decide) | exact n0 (by decide) | exact aX (by decide) | exact al l1 _ | exact al l2 _ | exact al l3 _ | exact aI l1 | exact aI l2 | exact aI l3 | exact co hc (by decide) | exact aY hc | omega) (by first | exact nn (by decide) | exact n0 (by decide) | exact aX (by decide) | exact al l1 _ | exact al l2 _ | exact al l3 _ | exact aI l1 | exact aI l2 | exact aI l3 | exact co hc (by decide) | exact aY hc | omega) dj hoe hce
   | some y=>
    have hw:zs[k]? = none:=by rcases hend with h | h | h;rw[hx] at h;cases h;rw[hy] at h;cases h;exact h
    refine wpAny_bind (bS (((i2.ext ad (by first | exact nn (by decide) | exact n0 (by decide) | exact aX (by decide) | exact al l1 _ | exact al l2 _ | exact al l3 _ | exact aI l1 | exact aI l2 | exact aI l3 | exact co hc (by decide) | exact aY hc | omega)).ext ae (by first | exact nn (by decide) | exact n0 (by decide) | exact aX (by decide) | exact al l1 _ | exact al l2 _ | exact al l3 _ | exact aI l1 | exact aI l2 | exact aI l3 | exact co hc (by decide) | exact aY hc | omega)).ext af (by first | exact nn (by decide) | exact n0 (by decide) | exact aX (by decide) | exact al l1 _ | exact al l2 _ | exact al l3 _ | exact aI l1 | exact aI l2 | exact aI l3 | exact co hc (by decide) | exact aY hc | omega)) (((s2.ext ad (by first | exact nn (by decide) | exact n0 (by decide) | exact aX (by decide) | exact al l1 _ | exact al l2 _ | exact al l3 _ | exact aI l1 | exact aI l2 | exact aI l3 | exact co hc (by decide) | exact aY hc | omega)).ext ae (by first | exact nn (by decide) | exact n0 (by decide) | exact aX (by decide) | exact al l1 _ | exact al l2 _ | exact al l3 _ | exact aI l1 | exact aI l2 | exact aI l3 | exact co hc (by decide) | exact aY hc | omega)).ext af (by first | exact nn (by decide) | exact n0 (by decide) | exact aX (by decide) | exact al l1 _ | exact al l2 _ | exact al l3 _ | exact aI l1 | exact aI l2 | exact aI l3 | exact co hc (by decide) | exact aY hc | omega)) hy λ ap cm ah=>wpAny_pure ?_)
    have bv:dB ap (n+4) #[x,c2,c3]:=ex ah (by first | exact nn (by decide) | exact n0 (by decide) | exact aX (by decide) | exact al l1 _ | exact al l2 _ | exact al l3 _ | exact aI l1 | exact aI l2 | exact aI l3 | exact co hc (by decide) | exact aY hc | omega) bf
    refine wpAny_bind (wpAny_seqItems bv rfl ?_)
    refine wpAny_bind (h8 bv (by simp) λ bb cp ar=>?_)
    refine wpAny_bind (wpAny_letGo (wpAny_pure ?_))
    refine wpAny_bind (wpAny_bind (wpAny_onRaise ?_))
    show wpAny _ _ (Builtin.SmallTypes.nextOf (.ref (n+2)) >>= _) _ _ _
    refine wpAny_bind (d9 hh (((((i3.ext ad (by first | exact nn (by decide) | exact n0 (by decide) | exact aX (by decide) | exact al l1 _ | exact al l2 _ | exact al l3 _ | exact aI l1 | exact aI l2 | exact aI l3 | exact co hc (by decide) | exact aY hc | omega)).ext ae (by first | exact nn (by decide) | exact n0 (by decide) | exact aX (by decide) | exact al l1 _ | exact al l2 _ | exact al l3 _ | exact aI l1 | exact aI l2 | exact aI l3 | exact co hc (by decide) | exact aY hc | omega)).ext af (by first | exact nn (by decide) | exact n0 (by decide) | exact aX (by decide) | exact al l1 _ | exact al l2 _ | exact al l3 _ | exact aI l1 | exact aI l2 | exact aI l3 | exact co hc (by decide) | exact aY hc | omega)).ext ah (by first | exact nn (by decide) | exact n0 (by decide) | exact aX (by decide) | exact al l1 _ | exact al l2 _ | exact al l3 _ | exact aI l1 | exact aI l2 | exact aI l3 | exact co hc (by decide) | exact aY hc | omega)).ext ar (by first | exact nn (by decide) | exact n0 (by decide) | exact aX (by decide) | exact al l1 _ | exact al l2 _ | exact al l3 _ | exact aI l1 | exact aI l2 | exact aI l3 | exact co hc (by decide) | exact aY hc | omega))
     (((((s3.ext ad (by first | exact nn (by decide) | exact n0 (by decide) | exact aX (by decide) | exact al l1 _ | exact al l2 _ | exact al l3 _ | exact aI l1 | exact aI l2 | exact aI l3 | exact co hc (by decide) | exact aY hc | omega)).ext ae (by first | exact nn (by decide) | exact n0 (by decide) | exact aX (by decide) | exact al l1 _ | exact al l2 _ | exact al l3 _ | exact aI l1 | exact aI l2 | exact aI l3 | exact co hc (by decide) | exact aY hc | omega)).ext af (by first | exact nn (by decide) | exact n0 (by decide) | exact aX (by decide) | exact al l1 _ | exact al l2 _ | exact al l3 _ | exact aI l1 | exact aI l2 | exact aI l3 | exact co hc (by decide) | exact aY hc | omega)).ext ah (by first | exact nn (by decide) | exact n0 (by decide) | exact aX (by decide) | exact al l1 _ | exact al l2 _ | exact al l3 _ | exact aI l1 | exact aI l2 | exact aI l3 | exact co hc (by decide) | exact aY hc | omega)).ext ar (by first | exact nn (by decide) | exact n0 (by decide) | exact aX (by decide) | exact al l1 _ | exact al l2 _ | exact al l3 _ | exact aI l1 | exact aI l2 | exact aI l3 | exact co hc (by decide) | exact aY hc | omega)) hw λ ci e bc he=>?_)
    obtain⟨oe,hoe,hce⟩:=he
    exact fin (ex ar (by first | exact nn (by decide) | exact n0 (by decide) | exact aX (by decide) | exact al l1 _ | exact al l2 _ | exact al l3 _ | exact aI l1 | exact aI l2 | exact aI l3 | exact co hc (by decide) | exact aY hc | omega) (ex ah (by first | exact nn (by decide) | exact n0 (by decide) | exact aX (by decide) | exact al l1 _ | exact al l2 _ | exact al l3 _ | exact aI l1 | exact aI l2 | exact aI l3 | exact co hc (by decide) | exact aY hc | omega) bu)) bc (by first | exact nn (by decide) | exact n0 (by decide) | exact aX (by decide) | exact al l1 _ | exact al l2 _ | exact al l3 _ | exact aI l1 | exact aI l2 | exact aI l3 | exact co hc (by decide) | exact aY hc | omega) (by first | exact nn (by decide) | exact n0 (by decide) | exact aX (by decide) | exact al l1 _ | exact al l2 _ | exact al l3 _ | exact aI l1 | exact aI l2 | exact aI l3 | exact co hc (by decide) | exact aY hc | omega) (λ c o hc q=>ex ar (by first | exact nn (by decide) | exact n0 (by decide) | exact aX (by decide) | exact al l1 _ | exact al l2 _ | exact al l3 _ | exact aI l1 | exact aI l2 | exact aI l3 | exact co hc (by decide) | exact aY hc | omega) (ex ah (by first | exact nn (by decide) | exact n0 (by decide) | exact aX (by decide) | exact al l1 _ | exact al l2 _ | exact al l3 _ | exact aI l1 | exact aI l2 | exact aI l3 | exact co hc (by decide) | exact aY hc | omega) (dj c o hc q))) hoe hce
 ·intro ak ao ad
  simp only [Bool.false_eq_true,if_false]
  refine wpAny_bind ?_
  rw[<- Array.forIn_toList]
  simp only [List.forIn_cons,List.forIn_nil]
  refine wpAny_bind (wpAny_bind (wpAny_holding ?_))
  show wpAny _ _ (Builtin.SmallTypes.nextOf (.ref n) >>= _) _ _ _
  cases hx:xs[k]? with
  | none=>
   refine wpAny_bind (d9 hh (i1.ext ad (by first | exact nn (by decide) | exact n0 (by decide) | exact aX (by decide) | exact al l1 _ | exact al l2 _ | exact al l3 _ | exact aI l1 | exact aI l2 | exact aI l3 | exact co hc (by decide) | exact aY hc | omega)) (s1.ext ad (by first | exact nn (by decide) | exact n0 (by decide) | exact aX (by decide) | exact al l1 _ | exact al l2 _ | exact al l3 _ | exact aI l1 | exact aI l2 | exact aI l3 | exact co hc (by decide) | exact aY hc | omega)) hx λ am e ae he=>?_)
   exact hE am e (λ c o hc q=>ae c o (show @Ne Nat c n by omega) (ex ad (by first | exact nn (by decide) | exact n0 (by decide) | exact aX (by decide) | exact al l1 _ | exact al l2 _ | exact al l3 _ | exact aI l1 | exact aI l2 | exact aI l3 | exact co hc (by decide) | exact aY hc | omega) q)) he
  | some x=>
   refine wpAny_bind (bS (i1.ext ad (by first | exact nn (by decide) | exact n0 (by decide) | exact aX (by decide) | exact al l1 _ | exact al l2 _ | exact al l3 _ | exact aI l1 | exact aI l2 | exact aI l3 | exact co hc (by decide) | exact aY hc | omega)) (s1.ext ad (by first | exact nn (by decide) | exact n0 (by decide) | exact aX (by decide) | exact al l1 _ | exact al l2 _ | exact al l3 _ | exact aI l1 | exact aI l2 | exact aI l3 | exact co hc (by decide) | exact aY hc | omega)) hx λ am bp ae=>wpAny_pure (wpAny_pure ?_))
   refine wpAny_bind (wpAny_bind (wpAny_holding ?_))
   show wpAny _ _ (Builtin.SmallTypes.nextOf (.ref (n+1)) >>= _) _ _ _
   cases hy:ys[k]? with
   | none=>
    refine wpAny_bind (d9 hh ((i2.ext ad (by first | exact nn (by decide) | exact n0 (by decide) | exact aX (by decide) | exact al l1 _ | exact al l2 _ | exact al l3 _ | exact aI l1 | exact aI l2 | exact aI l3 | exact co hc (by decide) | exact aY hc | omega)).ext ae (by first | exact nn (by decide) | exact n0 (by decide) | exact aX (by decide) | exact al l1 _ | exact al l2 _ | exact al l3 _ | exact aI l1 | exact aI l2 | exact aI l3 | exact co hc (by decide) | exact aY hc | omega)) ((s2.ext ad (by first | exact nn (by decide) | exact n0 (by decide) | exact aX (by decide) | exact al l1 _ | exact al l2 _ | exact al l3 _ | exact aI l1 | exact aI l2 | exact aI l3 | exact co hc (by decide) | exact aY hc | omega)).ext ae (by first | exact nn (by decide) | exact n0 (by decide) | exact aX (by decide) | exact al l1 _ | exact al l2 _ | exact al l3 _ | exact aI l1 | exact aI l2 | exact aI l3 | exact co hc (by decide) | exact aY hc | omega)) hy λ aj e af he=>?_)
    exact hE aj e (λ c o hc q=>af c o (show @Ne Nat c (n+1) by omega) (ex ae (by first | exact nn (by decide) | exact n0 (by decide) | exact aX (by decide) | exact al l1 _ | exact al l2 _ | exact al l3 _ | exact aI l1 | exact aI l2 | exact aI l3 | exact co hc (by decide) | exact aY hc | omega) (ex ad (by first | exact nn (by decide) | exact n0 (by decide) | exact aX (by decide) | exact al l1 _ | exact al l2 _ | exact al l3 _ | exact aI l1 | exact aI l2 | exact aI l3 | exact co hc (by decide) | exact aY hc | omega) q))) he
   | some y=>
    have hw:zs[k]? = none:=by rcases hend with h | h | h;rw[hx] at h;cases h;rw[hy] at h;cases h;exact h
    refine wpAny_bind (bS ((i2.ext ad (by first | exact nn (by decide) | exact n0 (by decide) | exact aX (by decide) | exact al l1 _ | exact al l2 _ | exact al l3 _ | exact aI l1 | exact aI l2 | exact aI l3 | exact co hc (by decide) | exact aY hc | omega)).ext ae (by first | exact nn (by decide) | exact n0 (by decide) | exact aX (by decide) | exact al l1 _ | exact al l2 _ | exact al l3 _ | exact aI l1 | exact aI l2 | exact aI l3 | exact co hc (by decide) | exact aY hc | omega)) ((s2.ext ad (by first | exact nn (by decide) | exact n0 (by decide) | exact aX (by decide) | exact al l1 _ | exact al l2 _ | exact al l3 _ | exact aI l1 | exact aI l2 | exact aI l3 | exact co hc (by decide) | exact aY hc | omega)).ext ae (by first | exact nn (by decide) | exact n0 (by decide) | exact aX (by decide) | exact al l1 _ | exact al l2 _ | exact al l3 _ | exact aI l1 | exact aI l2 | exact aI l3 | exact co hc (by decide) | exact aY hc | omega)) hy λ aj ee af=>wpAny_pure (wpAny_pure ?_))
    refine wpAny_bind (wpAny_bind (wpAny_holding ?_))
    show wpAny _ _ (Builtin.SmallTypes.nextOf (.ref (n+2)) >>= _) _ _ _
    refine wpAny_bind (d9 hh (((i3.ext ad (by first | exact nn (by decide) | exact n0 (by decide) | exact aX (by decide) | exact al l1 _ | exact al l2 _ | exact al l3 _ | exact aI l1 | exact aI l2 | exact aI l3 | exact co hc (by decide) | exact aY hc | omega)).ext ae (by first | exact nn (by decide) | exact n0 (by decide) | exact aX (by decide) | exact al l1 _ | exact al l2 _ | exact al l3 _ | exact aI l1 | exact aI l2 | exact aI l3 | exact co hc (by decide) | exact aY hc | omega)).ext af (by first | exact nn (by decide) | exact n0 (by decide) | exact aX (by decide) | exact al l1 _ | exact al l2 _ | exact al l3 _ | exact aI l1 | exact aI l2 | exact aI l3 | exact co hc (by decide) | exact aY hc | omega)) (((s3.ext ad (by first | exact nn (by decide) | exact n0 (by decide) | exact aX (by decide) | exact al l1 _ | exact al l2 _ | exact al l3 _ | exact aI l1 | exact aI l2 | exact aI l3 | exact co hc (by decide) | exact aY hc | omega)).ext ae (by first | exact nn (by decide) | exact n0 (by decide) | exact aX (by decide) | exact al l1 _ | exact al l2 _ | exact al l3 _ | exact aI l1 | exact aI l2 | exact aI l3 | exact co hc (by decide) | exact aY hc | omega)).ext af (by first | exact nn (by decide) | exact n0 (by decide) | exact aX (by decide) | exact al l1 _ | exact al l2 _ | exact al l3 _ | exact aI l1 | exact aI l2 | exact aI l3 | exact co hc (by decide) | exact aY hc | omega)) hw λ ap e ah he=>?_)
    exact hE ap e (λ c o hc q=>ah c o (show @Ne Nat c (n+2) by omega) (ex af (by first | exact nn (by decide) | exact n0 (by decide) | exact aX (by decide) | exact al l1 _ | exact al l2 _ | exact al l3 _ | exact aI l1 | exact aI l2 | exact aI l3 | exact co hc (by decide) | exact aY hc | omega) (ex ae (by first | exact nn (by decide) | exact n0 (by decide) | exact aX (by decide) | exact al l1 _ | exact al l2 _ | exact al l3 _ | exact aI l1 | exact aI l2 | exact aI l3 | exact co hc (by decide) | exact aY hc | omega) (ex ad (by first | exact nn (by decide) | exact n0 (by decide) | exact aX (by decide) | exact al l1 _ | exact al l2 _ | exact al l3 _ | exact aI l1 | exact aI l2 | exact aI l3 | exact co hc (by decide) | exact aY hc | omega) q)))) he
theorem zY {n a1 a2:Nat}{t1 t2:Bool}{k:Nat}{xs ys:Array Value}{x y c1 c2 f0:Value}{f1:Bool}{Q:Value->Shared->Prop} (hf:gL f0)
  (hz:lZ s.heap (n+4) (n+2) (n+3) f0 f1) (hTI:dB s.heap (n+2) #[.ref n,.ref (n+1)]) (hTO:dB s.heap (n+3) #[c1,c2])
  (i1:dI s.heap t1 n a1 k) (i2:dI s.heap t2 (n+1) a2 k) (s1:cG s.heap t1 a1 xs) (s2:cG s.heap t2 a2 ys)
  (l1:a1 < n) (l2:a2 < n) (hx:xs[k]? = some x) (hy:ys[k]? = some y)
  (hQ:∀ (T:Nat) h' f0' f1' d1 d2,s.heap.objs.size<=T->gL f0'->lZ h' (n+4) (n+2) (n+3) f0' f1'->dB h' (n+2) #[.ref n,.ref (n+1)]->dB h' (n+3) #[d1,d2]->
   dI h' t1 n a1 (k+1)->dI h' t2 (n+1) a2 (k+1)->dB h' T #[x,y]->
   (∀ (c:Nat) o,(c < n\/n+4 < c)->s.heap.get? c=some o->h'.get? c=some o)->Q (.ref T) { s with heap:=h' }) :
  wpAny (model prog w) A (Builtin.«zip.__next__» ⟨[.ref (n+4)],[]⟩) (λ fin s'=>∃ v,fin=.done (.ret v)/\Q v s') E s:=by
 have hzlt:n+4 < s.heap.objs.size:=Heap.lt_size hz
 show wpAny _ _ (field (.ref (n+4)) 2 >>= _) _ _ _
 refine wpAny_bind (wpAny_field hz rfl (x:=.bool false) rfl ?_)
 show wpAny _ _ (field (.ref (n+4)) 3 >>= _) _ _ _
 refine wpAny_bind (wpAny_field hz rfl (x:=.ref (n+2)) rfl ?_)
 refine wpAny_bind (wpAny_seqItems hTI rfl ?_)
 show wpAny _ _ (Builtin.SmallTypes.ownedTupleIsFree (.ref (n+4)) >>= _) _ _ _
 refine wpAny_bind (iP hz hf ?_ ?_)
 ·simp only [if_true]
  refine wpAny_bind (wpAny_rule ?_)
  refine wpAny_bind (wpAny_field hz rfl (x:=.ref (n+3)) rfl ?_)
  refine wpAny_bind (wpAny_setField_rec hz (by simp) λ ak ao ad=>?_)
  replace ao:lZ ak (n+4) (n+2) (n+3) .ellipsis f1:=ao
  refine wpAny_bind ?_
  simp only [List.zipIdx_cons,List.zipIdx_nil,List.forIn_cons,List.forIn_nil]
  refine wpAny_bind (wpAny_bind (wpAny_onRaise ?_))
  show wpAny _ _ (Builtin.SmallTypes.nextOf (.ref n) >>= _) _ _ _
  refine wpAny_bind (bS (i1.ext ad (by first | exact nn (by decide) | exact n0 (by decide) | exact aX (by decide) | exact al l1 _ | exact al l2 _ | exact aI l1 | exact aI l2 | exact co hc (by decide) | exact aY hc | omega)) (s1.ext ad (by first | exact nn (by decide) | exact n0 (by decide) | exact aX (by decide) | exact al l1 _ | exact al l2 _ | exact aI l1 | exact aI l2 | exact co hc (by decide) | exact aY hc | omega)) hx λ am bp ae=>wpAny_pure ?_)
  have bn:dB am (n+3) #[c1,c2]:=ex ae (by first | exact nn (by decide) | exact n0 (by decide) | exact aX (by decide) | exact al l1 _ | exact al l2 _ | exact aI l1 | exact aI l2 | exact co hc (by decide) | exact aY hc | omega) (ex ad (by first | exact nn (by decide) | exact n0 (by decide) | exact aX (by decide) | exact al l1 _ | exact al l2 _ | exact aI l1 | exact aI l2 | exact co hc (by decide) | exact aY hc | omega) hTO)
  refine wpAny_bind (wpAny_seqItems bn rfl ?_)
  refine wpAny_bind (h8 bn (by simp) λ aj bf af=>?_)
  replace bf:dB aj (n+3) #[x,c2]:=bf
  refine wpAny_bind (wpAny_letGo (wpAny_pure ?_))
  refine wpAny_bind (wpAny_bind (wpAny_onRaise ?_))
  show wpAny _ _ (Builtin.SmallTypes.nextOf (.ref (n+1)) >>= _) _ _ _
  refine wpAny_bind (bS (((i2.ext ad (by first | exact nn (by decide) | exact n0 (by decide) | exact aX (by decide) | exact al l1 _ | exact al l2 _ | exact aI l1 | exact aI l2 | exact co hc (by decide) | exact aY hc | omega)).ext ae (by first | exact nn (by decide) | exact n0 (by decide) | exact aX (by decide) | exact al l1 _ | exact al l2 _ | exact aI l1 | exact aI l2 | exact co hc (by decide) | exact aY hc | omega)).ext af (by first | exact nn (by decide) | exact n0 (by decide) | exact aX (by decide) | exact al l1 _ | exact al l2 _ | exact aI l1 | exact aI l2 | exact co hc (by decide) | exact aY hc | omega)) (((s2.ext ad (by first | exact nn (by decide) | exact n0 (by decide) | exact aX (by decide) | exact al l1 _ | exact al l2 _ | exact aI l1 | exact aI l2 | exact co hc (by decide) | exact aY hc | omega)).ext ae (by first | exact nn (by decide) | exact n0 (by decide) | exact aX (by decide) | exact al l1 _ | exact al l2 _ | exact aI l1 | exact aI l2 | exact co hc (by decide) | exact aY hc | omega)).ext af (by first | exact nn (by decide) | exact n0 (by decide) | exact aX (by decide) | exact al l1 _ | exact al l2 _ | exact aI l1 | exact aI l2 | exact co hc (by decide) | exact aY hc | omega)) hy λ ap cm ah=>wpAny_pure ?_)
  have bv:dB ap (n+3) #[x,c2]:=ex ah (by first | exact nn (by decide) | exact n0 (by decide) | exact aX (by decide) | exact al l1 _ | exact al l2 _ | exact aI l1 | exact aI l2 | exact co hc (by decide) | exact aY hc | omega) bf
  refine wpAny_bind (wpAny_seqItems bv rfl ?_)
  refine wpAny_bind (h8 bv (by simp) λ au bq bi=>?_)
  replace bq:dB au (n+3) #[x,y]:=bq
  refine wpAny_bind (wpAny_letGo (wpAny_pure (wpAny_pure ?_)))
  refine wpAny_bind (wpAny_seqItems bq rfl ?_)
  refine wpAny_bind (wpAny_newTuple ?_)
  have hsz:au.objs.size=s.heap.objs.size:=by rw[bi.1,ah.1,af.1,ae.1,ad.1]
  have keep:∀ (c:Nat) o,(c < n\/n+4 < c)->s.heap.get? c=some o->au.get? c=some o:=λ c o hc e=>
   ex bi (by first | exact nn (by decide) | exact n0 (by decide) | exact aX (by decide) | exact al l1 _ | exact al l2 _ | exact aI l1 | exact aI l2 | exact co hc (by decide) | exact aY hc | omega) (ex ah (by first | exact nn (by decide) | exact n0 (by decide) | exact aX (by decide) | exact al l1 _ | exact al l2 _ | exact aI l1 | exact aI l2 | exact co hc (by decide) | exact aY hc | omega) (ex af (by first | exact nn (by decide) | exact n0 (by decide) | exact aX (by decide) | exact al l1 _ | exact al l2 _ | exact aI l1 | exact aI l2 | exact co hc (by decide) | exact aY hc | omega) (ex ae (by first | exact nn (by decide) | exact n0 (by decide) | exact aX (by decide) | exact al l1 _ | exact al l2 _ | exact aI l1 | exact aI l2 | exact co hc (by decide) | exact aY hc | omega) (ex ad (by first | exact nn (by decide) | exact n0 (by decide) | exact aX (by decide) | exact al l1 _ | exact al l2 _ | exact aI l1 | exact aI l2 | exact co hc (by decide) | exact aY hc | omega) e))))
  have de:lZ au (n+4) (n+2) (n+3) .ellipsis f1:=ex bi (by first | exact nn (by decide) | exact n0 (by decide) | exact aX (by decide) | exact al l1 _ | exact al l2 _ | exact aI l1 | exact aI l2 | exact co hc (by decide) | exact aY hc | omega) (ex ah (by first | exact nn (by decide) | exact n0 (by decide) | exact aX (by decide) | exact al l1 _ | exact al l2 _ | exact aI l1 | exact aI l2 | exact co hc (by decide) | exact aY hc | omega) (ex af (by first | exact nn (by decide) | exact n0 (by decide) | exact aX (by decide) | exact al l1 _ | exact al l2 _ | exact aI l1 | exact aI l2 | exact co hc (by decide) | exact aY hc | omega) (ex ae (by first | exact nn (by decide) | exact n0 (by decide) | exact aX (by decide) | exact al l1 _ | exact al l2 _ | exact aI l1 | exact aI l2 | exact co hc (by decide) | exact aY hc | omega) ao)))
  have cw:dB au (n+2) #[.ref n,.ref (n+1)]:=ex bi (by first | exact nn (by decide) | exact n0 (by decide) | exact aX (by decide) | exact al l1 _ | exact al l2 _ | exact aI l1 | exact aI l2 | exact co hc (by decide) | exact aY hc | omega) (ex ah (by first | exact nn (by decide) | exact n0 (by decide) | exact aX (by decide) | exact al l1 _ | exact al l2 _ | exact aI l1 | exact aI l2 | exact co hc (by decide) | exact aY hc | omega) (ex af (by first | exact nn (by decide) | exact n0 (by decide) | exact aX (by decide) | exact al l1 _ | exact al l2 _ | exact aI l1 | exact aI l2 | exact co hc (by decide) | exact aY hc | omega) (ex ae (by first | exact nn (by decide) | exact n0 (by decide) | exact aX (by decide) | exact al l1 _ | exact al l2 _ | exact aI l1 | exact aI l2 | exact co hc (by decide) | exact aY hc | omega) (ex ad (by first | exact nn (by decide) | exact n0 (by decide) | exact aX (by decide) | exact al l1 _ | exact al l2 _ | exact aI l1 | exact aI l2 | exact co hc (by decide) | exact aY hc | omega) hTI))))
  have df:=((bp.ext af (by first | exact nn (by decide) | exact n0 (by decide) | exact aX (by decide) | exact al l1 _ | exact al l2 _ | exact aI l1 | exact aI l2 | exact co hc (by decide) | exact aY hc | omega)).ext ah (by first | exact nn (by decide) | exact n0 (by decide) | exact aX (by decide) | exact al l1 _ | exact al l2 _ | exact aI l1 | exact aI l2 | exact co hc (by decide) | exact aY hc | omega)).ext bi (by first | exact nn (by decide) | exact n0 (by decide) | exact aX (by decide) | exact al l1 _ | exact al l2 _ | exact aI l1 | exact aI l2 | exact co hc (by decide) | exact aY hc | omega)
  have dh:=cm.ext bi (by first | exact nn (by decide) | exact n0 (by decide) | exact aX (by decide) | exact al l1 _ | exact al l2 _ | exact aI l1 | exact aI l2 | exact co hc (by decide) | exact aY hc | omega)
  have eu:n+4 < au.objs.size:=by rw[hsz];exact hzlt
  have up:∀ {c o},au.get? c=some o->(au.push { cls:=.type "tuple",data:=.seq #[x,y] }).get? c=some o:=λ e=>Heap.get?_push_of_some _ e
  refine wpAny_bind (zF (z:=n+4) (TI:=n+2) (TO:=n+3) (f0:=.ellipsis) (f1:=f1) (up de) λ cx di cq=>?_)
  have up8:∀ {c:Nat}{o},c≠n+4->au.get? c=some o->cx.get? c=some o:=λ hc e=>ex cq hc (up e)
  refine wpAny_pure ⟨_,rfl,hQ au.objs.size cx (rawInt au.objs.size) false x y (by rw[hsz];exact Nat.le_refl _) (.inr ⟨_,rfl⟩) di (up8 (by first | exact nn (by decide) | exact n0 (by decide) | exact aX (by decide) | exact al l1 _ | exact al l2 _ | exact aI l1 | exact aI l2 | exact co hc (by decide) | exact aY hc | omega) cw) (up8 (by first | exact nn (by decide) | exact n0 (by decide) | exact aX (by decide) | exact al l1 _ | exact al l2 _ | exact aI l1 | exact aI l2 | exact co hc (by decide) | exact aY hc | omega) bq) (df.at λ o e=>up8 (by first | exact nn (by decide) | exact n0 (by decide) | exact aX (by decide) | exact al l1 _ | exact al l2 _ | exact aI l1 | exact aI l2 | exact co hc (by decide) | exact aY hc | omega) e) (dh.at λ o e=>up8 (by first | exact nn (by decide) | exact n0 (by decide) | exact aX (by decide) | exact al l1 _ | exact al l2 _ | exact aI l1 | exact aI l2 | exact co hc (by decide) | exact aY hc | omega) e)
   (ex cq (by first | exact nn (by decide) | exact n0 (by decide) | exact aX (by decide) | exact al l1 _ | exact al l2 _ | exact aI l1 | exact aI l2 | exact co hc (by decide) | exact aY hc | omega) (Heap.get?_push_size _ rfl)) λ c o hc e=>up8 (by first | exact nn (by decide) | exact n0 (by decide) | exact aX (by decide) | exact al l1 _ | exact al l2 _ | exact aI l1 | exact aI l2 | exact co hc (by decide) | exact aY hc | omega) (keep c o hc e)⟩
 ·intro ak ao ad
  simp only [Bool.false_eq_true,if_false]
  refine wpAny_bind ?_
  rw[<- Array.forIn_toList]
  simp only [List.forIn_cons,List.forIn_nil]
  refine wpAny_bind (wpAny_bind (wpAny_holding ?_))
  show wpAny _ _ (Builtin.SmallTypes.nextOf (.ref n) >>= _) _ _ _
  refine wpAny_bind (bS (i1.ext ad (by first | exact nn (by decide) | exact n0 (by decide) | exact aX (by decide) | exact al l1 _ | exact al l2 _ | exact aI l1 | exact aI l2 | exact co hc (by decide) | exact aY hc | omega)) (s1.ext ad (by first | exact nn (by decide) | exact n0 (by decide) | exact aX (by decide) | exact al l1 _ | exact al l2 _ | exact aI l1 | exact aI l2 | exact co hc (by decide) | exact aY hc | omega)) hx λ am bp ae=>wpAny_pure (wpAny_pure ?_))
  refine wpAny_bind (wpAny_bind (wpAny_holding ?_))
  show wpAny _ _ (Builtin.SmallTypes.nextOf (.ref (n+1)) >>= _) _ _ _
  refine wpAny_bind (bS ((i2.ext ad (by first | exact nn (by decide) | exact n0 (by decide) | exact aX (by decide) | exact al l1 _ | exact al l2 _ | exact aI l1 | exact aI l2 | exact co hc (by decide) | exact aY hc | omega)).ext ae (by first | exact nn (by decide) | exact n0 (by decide) | exact aX (by decide) | exact al l1 _ | exact al l2 _ | exact aI l1 | exact aI l2 | exact co hc (by decide) | exact aY hc | omega)) ((s2.ext ad (by first | exact nn (by decide) | exact n0 (by decide) | exact aX (by decide) | exact al l1 _ | exact al l2 _ | exact aI l1 | exact aI l2 | exact co hc (by decide) | exact aY hc | omega)).ext ae (by first | exact nn (by decide) | exact n0 (by decide) | exact aX (by decide) | exact al l1 _ | exact al l2 _ | exact aI l1 | exact aI l2 | exact co hc (by decide) | exact aY hc | omega)) hy λ ap cm ah=>wpAny_pure (wpAny_pure (wpAny_pure ?_)))
  refine wpAny_bind (wpAny_newTuple (hsz:=by show 2<=sizeLine;decide) (wpAny_pure ⟨_,rfl,?_⟩))
  have hsz:ap.objs.size=s.heap.objs.size:=by rw[ah.1,ae.1,ad.1]
  have up:∀ {c o},ap.get? c=some o->(ap.push { cls:=.type "tuple",data:=.seq #[x,y] }).get? c=some o:=λ e=>Heap.get?_push_of_some _ e
  have keep:∀ (c:Nat) o,(c < n\/n+4 < c)->s.heap.get? c=some o->ap.get? c=some o:=λ c o hc e=>ex ah (by first | exact nn (by decide) | exact n0 (by decide) | exact aX (by decide) | exact al l1 _ | exact al l2 _ | exact aI l1 | exact aI l2 | exact co hc (by decide) | exact aY hc | omega) (ex ae (by first | exact nn (by decide) | exact n0 (by decide) | exact aX (by decide) | exact al l1 _ | exact al l2 _ | exact aI l1 | exact aI l2 | exact co hc (by decide) | exact aY hc | omega) (ex ad (by first | exact nn (by decide) | exact n0 (by decide) | exact aX (by decide) | exact al l1 _ | exact al l2 _ | exact aI l1 | exact aI l2 | exact co hc (by decide) | exact aY hc | omega) e))
  refine hQ ap.objs.size (ap.push { cls:=.type "tuple",data:=.seq #[x,y] }) f0 true c1 c2 (by rw[hsz];exact Nat.le_refl _) hf (up (ex ah (by first | exact nn (by decide) | exact n0 (by decide) | exact aX (by decide) | exact al l1 _ | exact al l2 _ | exact aI l1 | exact aI l2 | exact co hc (by decide) | exact aY hc | omega) (ex ae (by first | exact nn (by decide) | exact n0 (by decide) | exact aX (by decide) | exact al l1 _ | exact al l2 _ | exact aI l1 | exact aI l2 | exact co hc (by decide) | exact aY hc | omega) ao)))
   (up (ex ah (by first | exact nn (by decide) | exact n0 (by decide) | exact aX (by decide) | exact al l1 _ | exact al l2 _ | exact aI l1 | exact aI l2 | exact co hc (by decide) | exact aY hc | omega) (ex ae (by first | exact nn (by decide) | exact n0 (by decide) | exact aX (by decide) | exact al l1 _ | exact al l2 _ | exact aI l1 | exact aI l2 | exact co hc (by decide) | exact aY hc | omega) (ex ad (by first | exact nn (by decide) | exact n0 (by decide) | exact aX (by decide) | exact al l1 _ | exact al l2 _ | exact aI l1 | exact aI l2 | exact co hc (by decide) | exact aY hc | omega) hTI)))) (up (ex ah (by first | exact nn (by decide) | exact n0 (by decide) | exact aX (by decide) | exact al l1 _ | exact al l2 _ | exact aI l1 | exact aI l2 | exact co hc (by decide) | exact aY hc | omega) (ex ae (by first | exact nn (by decide) | exact n0 (by decide) | exact aX (by decide) | exact al l1 _ | exact al l2 _ | exact aI l1 | exact aI l2 | exact co hc (by decide) | exact aY hc | omega) (ex ad (by first | exact nn (by decide) | exact n0 (by decide) | exact aX (by decide) | exact al l1 _ | exact al l2 _ | exact aI l1 | exact aI l2 | exact co hc (by decide) | exact aY hc | omega) hTO))))
   ((bp.ext ah (by first | exact nn (by decide) | exact n0 (by decide) | exact aX (by decide) | exact al l1 _ | exact al l2 _ | exact aI l1 | exact aI l2 | exact co hc (by decide) | exact aY hc | omega)).at λ o e=>up e) (cm.at λ o e=>up e) (Heap.get?_push_size _ rfl) λ c o hc e=>up (keep c o hc e)
theorem BJ {n a1 a2:Nat}{t1 t2:Bool}{k:Nat}{xs ys:Array Value}{c1 c2 f0:Value}{f1:Bool}{Q:Fin->Shared->Prop} (hh:A.handled=none) (hf:gL f0)
  (hz:lZ s.heap (n+4) (n+2) (n+3) f0 f1) (hTI:dB s.heap (n+2) #[.ref n,.ref (n+1)]) (hTO:dB s.heap (n+3) #[c1,c2])
  (i1:dI s.heap t1 n a1 k) (i2:dI s.heap t2 (n+1) a2 k) (s1:cG s.heap t1 a1 xs) (s2:cG s.heap t2 a2 ys)
  (l1:a1 < n) (l2:a2 < n) (hend:xs[k]? = none\/ys[k]? = none)
  (hE:∀ h' e,(∀ (c:Nat) o,(c < n\/n+4 < c)->s.heap.get? c=some o->h'.get? c=some o)->(∃ o,h'.get? e=some o/\o.cls=.type "StopIteration")->E (.ref e) { s with heap:=h' }) :
  wpAny (model prog w) A (Builtin.«zip.__next__» ⟨[.ref (n+4)],[]⟩) Q E s:=by
 show wpAny _ _ (field (.ref (n+4)) 2 >>= _) _ _ _
 refine wpAny_bind (wpAny_field hz rfl (x:=.bool false) rfl ?_)
 show wpAny _ _ (field (.ref (n+4)) 3 >>= _) _ _ _
 refine wpAny_bind (wpAny_field hz rfl (x:=.ref (n+2)) rfl ?_)
 refine wpAny_bind (wpAny_seqItems hTI rfl ?_)
 show wpAny _ _ (Builtin.SmallTypes.ownedTupleIsFree (.ref (n+4)) >>= _) _ _ _
 refine wpAny_bind (iP hz hf ?_ ?_)
 ·simp only [if_true]
  refine wpAny_bind (wpAny_rule ?_)
  refine wpAny_bind (wpAny_field hz rfl (x:=.ref (n+3)) rfl ?_)
  refine wpAny_bind (wpAny_setField_rec hz (by simp) λ ak ao ad=>?_)
  replace ao:lZ ak (n+4) (n+2) (n+3) .ellipsis f1:=ao
  refine wpAny_bind ?_
  simp only [List.zipIdx_cons,List.zipIdx_nil,List.forIn_cons,List.forIn_nil]
  have fin:∀ {am aj:Heap}{e j:Nat}{oe:Obj},lZ am (n+4) (n+2) (n+3) .ellipsis f1->Heap.ExtBut j am aj->@Ne Nat (n+4) j->(n<=j/\j<=n+4)->(∀ (c:Nat) o,(c < n\/n+4 < c)->s.heap.get? c=some o->am.get? c=some o)->aj.get? e=some oe->oe.cls=.type "StopIteration" ->
    wpAny (model prog w) A (setField (.ref (n+4)) 0 .none) (λ _ s'=>E (.ref e) s') E { s with heap:=aj }:=λ {am aj e j oe} cj hx hj hr hk hoe hce=>by
   have bu:lZ aj (n+4) (n+2) (n+3) .ellipsis f1:=hx _ _ hj cj
   have hez:e≠n+4:=λ q=>by subst q;rw[bu] at hoe;cases hoe;simp at hce
   refine wpAny_setField_rec bu (by simp) λ ap _ ah=>hE ap e (λ c o hc q=>ex ah (by first | exact nn (by decide) | exact n0 (by decide) | exact aX (by decide) | exact al l1 _ | exact al l2 _ | exact aI l1 | exact aI l2 | exact co hc (by decide) | exact aY hc | omega) (hx c o (show @Ne Nat c j by omega) (hk c o hc q))) ⟨oe,ah.extBut _ _ hez hoe,hce⟩
  refine wpAny_bind (wpAny_bind (wpAny_onRaise ?_))
  show wpAny _ _ (Builtin.SmallTypes.nextOf (.ref n) >>= _) _ _ _
  cases hx:xs[k]? with
  | none=>
   refine wpAny_bind (d9 hh (i1.ext ad (by first | exact nn (by decide) | exact n0 (by decide) | exact aX (by decide) | exact al l1 _ | exact al l2 _ | exact aI l1 | exact aI l2 | exact co hc (by decide) | exact aY hc | omega)) (s1.ext ad (by first | exact nn (by decide) | exact n0 (by decide) | exact aX (by decide) | exact al l1 _ | exact al l2 _ | exact aI l1 | exact aI l2 | exact co hc (by decide) | exact aY hc | omega)) hx λ am e ae he=>?_)
   obtain⟨oe,hoe,hce⟩:=he
   exact fin ao ae (by first | exact nn (by decide) | exact n0 (by decide) | exact aX (by decide) | exact al l1 _ | exact al l2 _ | exact aI l1 | exact aI l2 | exact co hc (by decide) | exact aY hc | omega) (by first | exact nn (by decide) | exact n0 (by decide) | exact aX (by decide) | exact al l1 _ | exact al l2 _ | exact aI l1 | exact aI l2 | exact co hc (by decide) | exact aY hc | omega) (λ c o hc q=>ex ad (by first | exact nn (by decide) | exact n0 (by decide) | exact aX (by decide) | exact al l1 _ | exact al l2 _ | exact aI l1 | exact aI l2 | exact co hc (by decide) | exact aY hc | omega) q) hoe hce
  | some x=>
   have hy:ys[k]? = none:=by rcases hend with h | h;rw[hx] at h;cases h;exact h
   refine wpAny_bind (bS (i1.ext ad (by first | exact nn (by decide) | exact n0 (by decide) | exact aX (by decide) | exact al l1 _ | exact al l2 _ | exact aI l1 | exact aI l2 | exact co hc (by decide) | exact aY hc | omega)) (s1.ext ad (by first | exact nn (by decide) | exact n0 (by decide) | exact aX (by decide) | exact al l1 _ | exact al l2 _ | exact aI l1 | exact aI l2 | exact co hc (by decide) | exact aY hc | omega)) hx λ am bp ae=>wpAny_pure ?_)
   have bn:dB am (n+3) #[c1,c2]:=ex ae (by first | exact nn (by decide) | exact n0 (by decide) | exact aX (by decide) | exact al l1 _ | exact al l2 _ | exact aI l1 | exact aI l2 | exact co hc (by decide) | exact aY hc | omega) (ex ad (by first | exact nn (by decide) | exact n0 (by decide) | exact aX (by decide) | exact al l1 _ | exact al l2 _ | exact aI l1 | exact aI l2 | exact co hc (by decide) | exact aY hc | omega) hTO)
   refine wpAny_bind (wpAny_seqItems bn rfl ?_)
   refine wpAny_bind (h8 bn (by simp) λ aj bf af=>?_)
   refine wpAny_bind (wpAny_letGo (wpAny_pure ?_))
   have bu:lZ aj (n+4) (n+2) (n+3) .ellipsis f1:=ex af (by first | exact nn (by decide) | exact n0 (by decide) | exact aX (by decide) | exact al l1 _ | exact al l2 _ | exact aI l1 | exact aI l2 | exact co hc (by decide) | exact aY hc | omega) (ex ae (by first | exact nn (by decide) | exact n0 (by decide) | exact aX (by decide) | exact al l1 _ | exact al l2 _ | exact aI l1 | exact aI l2 | exact co hc (by decide) | exact aY hc | omega) ao)
   have dj:∀ (c:Nat) o,(c < n\/n+4 < c)->s.heap.get? c=some o->aj.get? c=some o:=λ c o hc e=>ex af (by first | exact nn (by decide) | exact n0 (by decide) | exact aX (by decide) | exact al l1 _ | exact al l2 _ | exact aI l1 | exact aI l2 | exact co hc (by decide) | exact aY hc | omega) (ex ae (by first | exact nn (by decide) | exact n0 (by decide) | exact aX (by decide) | exact al l1 _ | exact al l2 _ | exact aI l1 | exact aI l2 | exact co hc (by decide) | exact aY hc | omega) (ex ad (by first | exact nn (by decide) | exact n0 (by decide) | exact aX (by decide) | exact al l1 _ | exact al l2 _ | exact aI l1 | exact aI l2 | exact co hc (by decide) | exact aY hc | omega) e))
   refine wpAny_bind (wpAny_bind (wpAny_onRaise ?_))
   show wpAny _ _ (Builtin.SmallTypes.nextOf (.ref (n+1)) >>= _) _ _ _
   refine wpAny_bind (d9 hh (((i2.ext ad (by first | exact nn (by decide) | exact n0 (by decide) | exact aX (by decide) | exact al l1 _ | exact al l2 _ | exact aI l1 | exact aI l2 | exact co hc (by decide) | exact aY hc | omega)).ext ae (by first | exact nn (by decide) | exact n0 (by decide) | exact aX (by decide) | exact al l1 _ | exact al l2 _ | exact aI l1 | exact aI l2 | exact co hc (by decide) | exact aY hc | omega)).ext af (by first | exact nn (by decide) | exact n0 (by decide) | exact aX (by decide) | exact al l1 _ | exact al l2 _ | exact aI l1 | exact aI l2 | exact co hc (by decide) | exact aY hc | omega)) (((s2.ext ad (by first | exact nn (by decide) | exact n0 (by decide) | exact aX (by decide) | exact al l1 _ | exact al l2 _ | exact aI l1 | exact aI l2 | exact co hc (by decide) | exact aY hc | omega)).ext ae (by first | exact nn (by decide) | exact n0 (by decide) | exact aX (by decide) | exact al l1 _ | exact al l2 _ | exact aI l1 | exact aI l2 | exact co hc (by decide) | exact aY hc | omega)).ext af (by first | exact nn (by decide) | exact n0 (by decide) | exact aX (by decide) | exact al l1 _ | exact al l2 _ | exact aI l1 | exact aI l2 | exact co hc (by decide) | exact aY hc | omega)) hy λ ap e ah he=>?_)
   obtain⟨oe,hoe,hce⟩:=he
   exact fin bu ah (by first | exact nn (by decide) | exact n0 (by decide) | exact aX (by decide) | exact al l1 _ | exact al l2 _ | exact aI l1 | exact aI l2 | exact co hc (by decide) | exact aY hc | omega) (by first | exact nn (by decide) | exact n0 (by decide) | exact aX (by decide) | exact al l1 _ | exact al l2 _ | exact aI l1 | exact aI l2 | exact co hc (by decide) | exact aY hc | omega) dj hoe hce
 ·intro ak ao ad
  simp only [Bool.false_eq_true,if_false]
  refine wpAny_bind ?_
  rw[<- Array.forIn_toList]
  simp only [List.forIn_cons,List.forIn_nil]
  refine wpAny_bind (wpAny_bind (wpAny_holding ?_))
  show wpAny _ _ (Builtin.SmallTypes.nextOf (.ref n) >>= _) _ _ _
  cases hx:xs[k]? with
  | none=>
   refine wpAny_bind (d9 hh (i1.ext ad (by first | exact nn (by decide) | exact n0 (by decide) | exact aX (by decide) | exact al l1 _ | exact al l2 _ | exact aI l1 | exact aI l2 | exact co hc (by decide) | exact aY hc | omega)) (s1.ext ad (by first | exact nn (by decide) | exact n0 (by decide) | exact aX (by decide) | exact al l1 _ | exact al l2 _ | exact aI l1 | exact aI l2 | exact co hc (by decide) | exact aY hc | omega)) hx λ am e ae he=>?_)
   exact hE am e (λ c o hc q=>ae c o (show @Ne Nat c n by omega) (ex ad (by first | exact nn (by decide) | exact n0 (by decide) | exact aX (by decide) | exact al l1 _ | exact al l2 _ | exact aI l1 | exact aI l2 | exact co hc (by decide) | exact aY hc | omega) q)) he
  | some x=>
   have hy:ys[k]? = none:=by rcases hend with h | h;rw[hx] at h;cases h;exact h
   refine wpAny_bind (bS (i1.ext ad (by first | exact nn (by decide) | exact n0 (by decide) | exact aX (by decide) | exact al l1 _ | exact al l2 _ | exact aI l1 | exact aI l2 | exact co hc (by decide) | exact aY hc | omega)) (s1.ext ad (by first | exact nn (by decide) | exact n0 (by decide) | exact aX (by decide) | exact al l1 _ | exact al l2 _ | exact aI l1 | exact aI l2 | exact co hc (by decide) | exact aY hc | omega)) hx λ am bp ae=>wpAny_pure (wpAny_pure ?_))
   refine wpAny_bind (wpAny_bind (wpAny_holding ?_))
   show wpAny _ _ (Builtin.SmallTypes.nextOf (.ref (n+1)) >>= _) _ _ _
   refine wpAny_bind (d9 hh ((i2.ext ad (by first | exact nn (by decide) | exact n0 (by decide) | exact aX (by decide) | exact al l1 _ | exact al l2 _ | exact aI l1 | exact aI l2 | exact co hc (by decide) | exact aY hc | omega)).ext ae (by first | exact nn (by decide) | exact n0 (by decide) | exact aX (by decide) | exact al l1 _ | exact al l2 _ | exact aI l1 | exact aI l2 | exact co hc (by decide) | exact aY hc | omega)) ((s2.ext ad (by first | exact nn (by decide) | exact n0 (by decide) | exact aX (by decide) | exact al l1 _ | exact al l2 _ | exact aI l1 | exact aI l2 | exact co hc (by decide) | exact aY hc | omega)).ext ae (by first | exact nn (by decide) | exact n0 (by decide) | exact aX (by decide) | exact al l1 _ | exact al l2 _ | exact aI l1 | exact aI l2 | exact co hc (by decide) | exact aY hc | omega)) hy λ aj e af he=>?_)
   exact hE aj e (λ c o hc q=>af c o (show @Ne Nat c (n+1) by omega) (ex ae (by first | exact nn (by decide) | exact n0 (by decide) | exact aX (by decide) | exact al l1 _ | exact al l2 _ | exact aI l1 | exact aI l2 | exact co hc (by decide) | exact aY hc | omega) (ex ad (by first | exact nn (by decide) | exact n0 (by decide) | exact aX (by decide) | exact al l1 _ | exact al l2 _ | exact aI l1 | exact aI l2 | exact co hc (by decide) | exact aY hc | omega) q))) he
theorem iM {z TI TO:Addr}{f0:Value}{f1:Bool}{Q:Option Value->Shared->Prop} (hz:lZ s.heap z TI TO f0 f1)
  (h:wpAny (model prog w) A.in1 (Builtin.«zip.__next__» ⟨[.ref z],[]⟩) (λ fin s'=>∃ v,fin=.done (.ret v)/\Q (some v) s') (λ e s'=>(∃ a o,e=.ref a/\s'.heap.get? a=some o/\o.cls=.type "StopIteration")/\Q none s') s) :
  wpAny (model prog w) A (pyNext (.ref z)) Q E s:=by
 have hT:s.TypeIs (.ref z) "zip" := ⟨_,hz,rfl⟩
 unfold pyNext
 refine wpAny_bind (wpAny_attempt (wpAny_callSpecial?_slot (name:=Str.ofString "__next__") hT F.slot_zip_next
  (wpAny_call_entry F.slot_zip_next hT F.entry_zip_next (wpAny_mono h (λ fin s' h'=>?_) λ e s' h'=>?_) (F.args_zip_next_1 _))))
 ·obtain⟨v,rfl,q⟩:=h'
  exact⟨v,rfl,wpAny_pure q⟩
 ·obtain⟨⟨a,o,rfl,ho,hc⟩,q⟩:=h'
  exact wpAny_bind (wpAny_isInstance (T := "StopIteration") (b:=true) ⟨o,ho,hc⟩ isSubtype_stop (wpAny_pure q))
theorem sV {tg:Expr}{z TI TO T:Addr}{f0:Value}{f1:Bool}{Q:Unit->Shared->Prop} (hf:gL f0) (hz:lZ s.heap z TI TO f0 f1)
  (hQ:∀ h' f0',gL f0'->lZ h' z TI TO f0' f1->Heap.SameBut z s.heap h'->Q () { s with heap:=h' }):wpAny (model prog w) A (letOwnedTupleGo tg (.ref z) (.ref T)) Q E s:=by
 have same:Q () s:=hQ s.heap f0 hf hz (Heap.SameBut.refl ..)
 have core:wpAny (model prog w) A (do
   let o <- load z
   match o.cls,o.data with
   | .type n,.fields vs=>
    if ["enumerate","zip","dict_itemiterator","dict_reverseitemiterator","odict_iterator","itertools.zip_longest","itertools.pairwise"].contains n && vs[0]? == some (rawInt T) then
     rule "for.unpacks-the-owned-tuple"
     updateField z 0 .none
   | _,_=>pure ()) Q E s:=by
  refine wpAny_bind (wpAny_load hz ?_)
  show wpAny _ _ (if (["enumerate","zip","dict_itemiterator","dict_reverseitemiterator","odict_iterator","itertools.zip_longest","itertools.pairwise"].contains "zip" &&
   (#[f0,.bool f1,.bool false,.ref TI,.ref TO]:Array Value)[0]? == some (rawInt T))=true then _ else _) Q E s
  split
  ·refine wpAny_bind (wpAny_rule ?_)
   show wpAny _ _ (setField (.ref z) 0 .none) Q E s
   exact wpAny_setField_rec hz (by simp) λ h' hz' hs'=>hQ h' .none (.inl rfl) hz' hs'
  ·exact wpAny_pure same
 unfold letOwnedTupleGo
 cases tg <;> first
  | exact wpAny_pure same
  | exact core
theorem iN {z TI TO:Addr}{f0:Value}{f1:Bool}{Q:Value->Shared->Prop} (hz:lZ s.heap z TI TO f0 f1) (h:Q (.ref z) s):wpAny (model prog w) A (pyIter (.ref z)) Q E s:=by
 have hT:s.TypeIs (.ref z) "zip" := ⟨_,hz,rfl⟩
 refine wpAny_pyIter_slot hT F.slot_zip_iter (wpAny_call_entry F.slot_zip_iter hT F.entry_zip_iter ?_ (F.args_zip_iter_1 _))
 show wpAny _ _ (ret (.ref z)) _ _ s
 exact wpAny_pure ⟨_,rfl,"zip",_,hT,F.slot_zip_next.lookup,h⟩
noncomputable def qP (t:Bool) (a:Addr):Obj:={ cls:=.type (if t=true then "tuple_iterator" else "list_iterator"),data:=.fields #[.ref a,.int 0 0] }
theorem eK {t:Bool}{a:Addr}{items:Array Value}{Q:Value->Shared->Prop} (hs:cG s.heap t a items) (hQ:Q (.ref s.heap.objs.size) { s with heap:=s.heap.push (qP t a) }) :
  wpAny (model prog w) A (pyIter (.ref a)) Q E s:=by
 cases t with
 | true=>exact wpAny_pyIter_tuple hs hQ
 | false=>exact wpAny_pyIter_list hs hQ
theorem iB {h:Heap}{t:Bool}{a it:Addr} (e:h.get? it=some (qP t a)):dI h t it a 0:=by
 cases t <;> exact⟨_,e,rfl,rfl⟩
noncomputable abbrev zA (h:Heap) (t:Bool) (a:Addr):Heap:=h.push (qP t a)
noncomputable abbrev EG (h:Heap) (vs:List Value):Heap:=h.push { cls:=.type "tuple",data:=.seq vs.toArray }
noncomputable abbrev z2B (h:Heap) (t1 t2:Bool) (l1 l2:Addr):Heap:=EG (zA (zA h t1 l1) t2 l2) [.ref h.objs.size,.ref (zA h t1 l1).objs.size]
noncomputable abbrev z2H (h:Heap) (t1 t2:Bool) (l1 l2:Addr):Heap:=EG (z2B h t1 t2 l1 l2) [.none,.none]
noncomputable abbrev J2 (h:Heap) (t1 t2:Bool) (l1 l2:Addr):Heap:=(z2H h t1 t2 l1 l2).push { cls:=.type "zip",data:=.fields #[.none,.bool false,.bool false,.ref (zA (zA h t1 l1) t2 l2).objs.size,.ref (z2B h t1 t2 l1 l2).objs.size] }
noncomputable abbrev z3B (h:Heap) (t1 t2 t3:Bool) (l1 l2 l3:Addr):Heap:=EG (zA (zA (zA h t1 l1) t2 l2) t3 l3) [.ref h.objs.size,.ref (zA h t1 l1).objs.size,.ref (zA (zA h t1 l1) t2 l2).objs.size]
noncomputable abbrev z3H (h:Heap) (t1 t2 t3:Bool) (l1 l2 l3:Addr):Heap:=EG (z3B h t1 t2 t3 l1 l2 l3) [.none,.none,.none]
noncomputable abbrev GW (h:Heap) (t1 t2 t3:Bool) (l1 l2 l3:Addr):Heap:=(z3H h t1 t2 t3 l1 l2 l3).push { cls:=.type "zip",data:=.fields #[.none,.bool false,.bool false,.ref (zA (zA (zA h t1 l1) t2 l2) t3 l3).objs.size,.ref (z3B h t1 t2 t3 l1 l2 l3).objs.size] }
theorem xM (t1 t2:Bool) (l1 l2:Addr) (xs ys:Array Value) :
  Meets (Builtin.«zip.__new__» ⟨[.type "zip",.ref l1,.ref l2],[]⟩) (λ _ R s=>cG s.heap t1 l1 xs/\cG s.heap t2 l2 ys/\
   R (.ok (.ret (.ref (z2H s.heap t1 t2 l1 l2).objs.size))) { s with heap:=J2 s.heap t1 t2 l1 l2 }):=
 .of_wp λ prog w A R s h=>by
  obtain⟨hp,g,d,tk,os⟩:=s;obtain⟨hl1,hl2,h⟩:=h
  have hsub:=sub_zip
  have hL1:cG (Shared.heap ⟨hp,g,d,tk,os⟩) t1 l1 xs:=hl1
  have hL2:cG (Shared.heap ⟨hp.push (qP t1 l1),g,d,tk,os⟩) t2 l2 ys:=hl2.at λ o e=>Heap.get?_push_of_some _ e
  wp_walk using eK hL1,eK hL2
  exact⟨_,rfl,h⟩
theorem xL (t1 t2 t3:Bool) (l1 l2 l3:Addr) (xs ys zs:Array Value) :
  Meets (Builtin.«zip.__new__» ⟨[.type "zip",.ref l1,.ref l2,.ref l3],[]⟩) (λ _ R s=>cG s.heap t1 l1 xs/\cG s.heap t2 l2 ys/\cG s.heap t3 l3 zs/\
   R (.ok (.ret (.ref (z3H s.heap t1 t2 t3 l1 l2 l3).objs.size))) { s with heap:=GW s.heap t1 t2 t3 l1 l2 l3 }):=
 .of_wp λ prog w A R s h=>by
  obtain⟨hp,g,d,tk,os⟩:=s;obtain⟨hl1,hl2,hl3,h⟩:=h
  have hsub:=sub_zip
  have hL1:cG (Shared.heap ⟨hp,g,d,tk,os⟩) t1 l1 xs:=hl1
  have hL2:cG (Shared.heap ⟨hp.push (qP t1 l1),g,d,tk,os⟩) t2 l2 ys:=hl2.at λ o e=>Heap.get?_push_of_some _ e
  have hL3:cG (Shared.heap ⟨(hp.push (qP t1 l1)).push (qP t2 l2),g,d,tk,os⟩) t3 l3 zs:=hl3.at λ o e=>Heap.get?_push_of_some _ (Heap.get?_push_of_some _ e)
  wp_walk using eK hL1,eK hL2,eK hL3
  exact⟨_,rfl,h⟩
theorem oZ (a b c:Value):checkTypeCall "zip" ⟨[a,b,c],[]⟩=pure ():=by kernel_rfl
theorem rO (a b c:Value):checkBuiltinCall "zip.__new__" ⟨[.type "zip",a,b,c],[]⟩=pure ():=by kernel_rfl
theorem lW (a b c d:Value):argsOk "object.__init__" ⟨[a,b,c,d],[]⟩:=by
 unfold argsOk;rw[signature?_of (id := "object.__init__") (n:=['_','_','t','i','n','i','_','_']) (o:=['t','c','e','j','b','o']) (by kernel_rfl) F.owner_object];kernel_rfl
theorem B4 {t1 t2:Bool}{l1 l2:Addr}{xs ys:Array Value}{Q:Value->Shared->Prop} (hl1:cG s.heap t1 l1 xs) (hl2:cG s.heap t2 l2 ys)
  (h:∀ h',lZ h' (s.heap.objs.size+4) (s.heap.objs.size+2) (s.heap.objs.size+3) .none false->dB h' (s.heap.objs.size+2) #[.ref s.heap.objs.size,.ref (s.heap.objs.size+1)]->
   dB h' (s.heap.objs.size+3) #[.none,.none]->dI h' t1 s.heap.objs.size l1 0->dI h' t2 (s.heap.objs.size+1) l2 0->
   (∀ c o,s.heap.get? c=some o->h'.get? c=some o)->Q (.ref (s.heap.objs.size+4)) { s with heap:=h' }):wpAny (model prog w) A (call (.type "zip") [.ref l1,.ref l2]) Q E s:=by
 refine callType_new F.called_zip (by decide) (F.typeCall_zip_2 _ _) (F.newCall_zip_2 _ _) (λ obj=>F.args_object_init_3 obj _ _) F.entry_zip_new (xM t1 t2 l1 l2 xs ys) ⟨hl1,hl2,?_⟩
 generalize s.heap=h0 at *
 have z1:(zA h0 t1 l1).objs.size=h0.objs.size+1:=Heap.size_push ..
 have z2:(zA (zA h0 t1 l1) t2 l2).objs.size=h0.objs.size+2:=by rw[Heap.size_push,z1]
 have z3:(z2B h0 t1 t2 l1 l2).objs.size=h0.objs.size+3:=by rw[Heap.size_push,z2]
 have z4:(z2H h0 t1 t2 l1 l2).objs.size=h0.objs.size+4:=by rw[Heap.size_push,z3]
 have g5:(J2 h0 t1 t2 l1 l2).get? (z2H h0 t1 t2 l1 l2).objs.size=some _:=Heap.get?_push_size _ rfl
 have g4:(J2 h0 t1 t2 l1 l2).get? (z2B h0 t1 t2 l1 l2).objs.size=some _:=Heap.get?_push_of_some _ (Heap.get?_push_size _ rfl)
 have g3:(J2 h0 t1 t2 l1 l2).get? (zA (zA h0 t1 l1) t2 l2).objs.size=some _:=Heap.get?_push_of_some _ (Heap.get?_push_of_some _ (Heap.get?_push_size _ rfl))
 have g2:(J2 h0 t1 t2 l1 l2).get? (zA h0 t1 l1).objs.size=some _:=Heap.get?_push_of_some _ (Heap.get?_push_of_some _ (Heap.get?_push_of_some _ (Heap.get?_push_size _ rfl)))
 have g1:(J2 h0 t1 t2 l1 l2).get? h0.objs.size=some _:=Heap.get?_push_of_some _ (Heap.get?_push_of_some _ (Heap.get?_push_of_some _ (Heap.get?_push_of_some _ (Heap.get?_push_size _ rfl))))
 show _/\_
 rw[z2,z3,z4] at g5
 rw[z1,z2] at g3
 rw[z3] at g4
 rw[z1] at g2
 rw[z4]
 exact⟨⟨_,g5,rfl⟩,h _ g5 g3 g4 (iB g1) (iB g2) λ c o x=>Heap.get?_push_of_some _ (Heap.get?_push_of_some _ (Heap.get?_push_of_some _ (Heap.get?_push_of_some _ (Heap.get?_push_of_some _ x))))⟩
theorem B3 {t1 t2 t3:Bool}{l1 l2 l3:Addr}{xs ys zs:Array Value}{Q:Value->Shared->Prop} (hl1:cG s.heap t1 l1 xs) (hl2:cG s.heap t2 l2 ys) (hl3:cG s.heap t3 l3 zs)
  (h:∀ h',lZ h' (s.heap.objs.size+5) (s.heap.objs.size+3) (s.heap.objs.size+4) .none false->dB h' (s.heap.objs.size+3) #[.ref s.heap.objs.size,.ref (s.heap.objs.size+1),.ref (s.heap.objs.size+2)]->
   dB h' (s.heap.objs.size+4) #[.none,.none,.none]->dI h' t1 s.heap.objs.size l1 0->dI h' t2 (s.heap.objs.size+1) l2 0->dI h' t3 (s.heap.objs.size+2) l3 0->
   (∀ c o,s.heap.get? c=some o->h'.get? c=some o)->Q (.ref (s.heap.objs.size+5)) { s with heap:=h' }):wpAny (model prog w) A (call (.type "zip") [.ref l1,.ref l2,.ref l3]) Q E s:=by
 refine callType_new F.called_zip (by decide) (oZ _ _ _) (rO _ _ _) (λ obj=>lW obj _ _ _) F.entry_zip_new (xL t1 t2 t3 l1 l2 l3 xs ys zs) ⟨hl1,hl2,hl3,?_⟩
 generalize s.heap=h0 at *
 have z1:(zA h0 t1 l1).objs.size=h0.objs.size+1:=Heap.size_push ..
 have z2:(zA (zA h0 t1 l1) t2 l2).objs.size=h0.objs.size+2:=by rw[Heap.size_push,z1]
 have z2':(zA (zA (zA h0 t1 l1) t2 l2) t3 l3).objs.size=h0.objs.size+3:=by rw[Heap.size_push,z2]
 have z3:(z3B h0 t1 t2 t3 l1 l2 l3).objs.size=h0.objs.size+4:=by rw[Heap.size_push,z2']
 have z4:(z3H h0 t1 t2 t3 l1 l2 l3).objs.size=h0.objs.size+5:=by rw[Heap.size_push,z3]
 have g5:(GW h0 t1 t2 t3 l1 l2 l3).get? (z3H h0 t1 t2 t3 l1 l2 l3).objs.size=some _:=Heap.get?_push_size _ rfl
 have g4:(GW h0 t1 t2 t3 l1 l2 l3).get? (z3B h0 t1 t2 t3 l1 l2 l3).objs.size=some _:=Heap.get?_push_of_some _ (Heap.get?_push_size _ rfl)
 have g3:(GW h0 t1 t2 t3 l1 l2 l3).get? (zA (zA (zA h0 t1 l1) t2 l2) t3 l3).objs.size=some _:=Heap.get?_push_of_some _ (Heap.get?_push_of_some _ (Heap.get?_push_size _ rfl))
 have g2':(GW h0 t1 t2 t3 l1 l2 l3).get? (zA (zA h0 t1 l1) t2 l2).objs.size=some _:=Heap.get?_push_of_some _ (Heap.get?_push_of_some _ (Heap.get?_push_of_some _ (Heap.get?_push_size _ rfl)))
 have g2:(GW h0 t1 t2 t3 l1 l2 l3).get? (zA h0 t1 l1).objs.size=some _:=Heap.get?_push_of_some _ (Heap.get?_push_of_some _ (Heap.get?_push_of_some _ (Heap.get?_push_of_some _ (Heap.get?_push_size _ rfl))))
 have g1:(GW h0 t1 t2 t3 l1 l2 l3).get? h0.objs.size=some _:=Heap.get?_push_of_some _ (Heap.get?_push_of_some _ (Heap.get?_push_of_some _ (Heap.get?_push_of_some _ (Heap.get?_push_of_some _ (Heap.get?_push_size _ rfl)))))
 show _/\_
 rw[z2',z3,z4] at g5
 rw[z1,z2,z2'] at g3
 rw[z3] at g4
 rw[z2] at g2'
 rw[z1] at g2
 rw[z4]
 exact⟨⟨_,g5,rfl⟩,h _ g5 g3 g4 (iB g1) (iB g2) (iB g2') λ c o x=>Heap.get?_push_of_some _ (Heap.get?_push_of_some _ (Heap.get?_push_of_some _ (Heap.get?_push_of_some _ (Heap.get?_push_of_some _ (Heap.get?_push_of_some _ x)))))⟩
end
end TwZ
namespace TwZ
open PySem
open Sem (wp)
open AutoSeq1 (wpAny_loadPart')
section
variable {prog:Program}{w:World}{M:Model}{A:Around}{E:Value->Shared->Prop}{s:Shared}
noncomputable abbrev hZ (h:Heap) (e it:Addr) (f0:Value) (f1:Bool) (i:Int) (old:Value):Prop:=
 h.get? e=some { cls:=.type "enumerate",dict:=none,data:=.fields #[f0,.bool f1,.ref it,rawInt i,.none,old],slots:=#[] }
theorem vK {e it:Addr}{f0:Value}{f1:Bool}{i:Int}{old:Value}{Q:Bool->Shared->Prop} (hz:hZ s.heap e it f0 f1 i old) (hf:gL f0) (yes:Q true s)
  (no:∀ h',hZ h' e it f0 true i old->Heap.SameBut e s.heap h'->Q false { s with heap:=h' }):wpAny (model prog w) A (Builtin.SmallTypes.ownedTupleIsFree (.ref e)) Q E s:=by
 unfold Builtin.SmallTypes.ownedTupleIsFree
 refine wpAny_bind (wpAny_field hz rfl (x:=f0) rfl ?_)
 rcases hf with rfl | ⟨a,rfl⟩
 ·exact wpAny_pure yes
 ·refine wpAny_bind (nS ?_)
  cases h:s.heap.get? a.toNat with
  | none=>exact wpAny_pure yes
  | some o=>
   show wpAny _ _ (field (.ref e) 1 >>= _) _ _ _
   refine wpAny_bind (wpAny_field hz rfl (x:=.bool f1) rfl ?_)
   cases f1 with
   | true=>exact wpAny_pure (no s.heap hz (Heap.SameBut.refl ..))
   | false=>
    show wpAny _ _ (setField (.ref e) 1 (.bool true) >>= _) _ _ _
    refine wpAny_bind (wpAny_setField_rec hz (by simp) λ ak ao ad=>wpAny_pure (no ak ao ad))
theorem DK {e it:Addr}{f0:Value}{f1:Bool}{i:Int}{old:Value}{T:Addr}{Q:Unit->Shared->Prop} (hz:hZ s.heap e it f0 f1 i old)
  (h:∀ h',hZ h' e it (rawInt T) false i old->Heap.SameBut e s.heap h'->Q () { s with heap:=h' }):wpAny (model prog w) A (Builtin.SmallTypes.ownedTupleHandOut (.ref e) (.ref T)) Q E s:=by
 unfold Builtin.SmallTypes.ownedTupleHandOut
 refine wpAny_bind (wpAny_setField_rec hz (by simp) λ ak ao ad=>?_)
 replace ao:hZ ak e it (rawInt T) f1 i old:=ao
 refine wpAny_setField_rec ao (by simp) λ am cj ae=>?_
 exact h am cj (Heap.SameBut.trans ad ae)
theorem AV {n a:Nat}{t:Bool}{k:Nat}{xs:Array Value}{x old f0:Value}{f1:Bool}{Q:Value->Shared->Prop} (hf:gL f0)
  (he:hZ s.heap (n+1) n f0 f1 k old) (i1:dI s.heap t n a k) (s1:cG s.heap t a xs) (l1:a < n) (hx:xs[k]? = some x)
  (hQ:∀ (T:Nat) h' f0' f1' old',s.heap.objs.size<=T->gL f0'->hZ h' (n+1) n f0' f1' ((k:Int)+1) old'->dI h' t n a (k+1)->dB h' T #[.int k s.toks,x]->
   (∀ (c:Nat) o,(c < n\/n+1 < c)->s.heap.get? c=some o->h'.get? c=some o)->Q (.ref T) { s with heap:=h',toks:=s.toks+1 }) :
  wpAny (model prog w) A (Builtin.«enumerate.__next__» ⟨[.ref (n+1)],[]⟩) (λ fin s'=>∃ v,fin=.done (.ret v)/\Q v s') E s:=by
 obtain⟨hp,g,d,tk,os⟩:=s
 have helt:n+1 < hp.objs.size:=Heap.lt_size he
 show wpAny _ _ (field (.ref (n+1)) 2 >>= _) _ _ _
 refine wpAny_bind (wpAny_field he rfl (x:=.ref n) rfl ?_)
 refine wpAny_bind (bS i1 s1 hx λ ak i1₁ ad=>?_)
 replace ad:Heap.SameBut n hp ak:=ad
 have dk:hZ ak (n+1) n f0 f1 k old:=ex ad (by omega) he
 show wpAny _ _ (field (.ref (n+1)) 3 >>= _) _ _ ⟨ak,g,d,tk,os⟩
 refine wpAny_bind (wpAny_field dk rfl (x:=rawInt k) rfl ?_)
 show wpAny _ _ (field (.ref (n+1)) 4 >>= _) _ _ ⟨ak,g,d,tk,os⟩
 refine wpAny_bind (wpAny_field dk rfl (x:=.none) rfl ?_)
 show wpAny _ _ (mkInt k >>= _) _ _ ⟨ak,g,d,tk,os⟩
 refine wpAny_bind (wpAny_mkInt ?_)
 show wpAny _ _ (setField (.ref (n+1)) 3 (rawInt ((k:Int)+1)) >>= _) _ _ ⟨ak,g,d,tk+1,os⟩
 refine wpAny_bind (wpAny_setField_rec dk (by simp) λ am dm ae=>?_)
 replace ae:Heap.SameBut (n+1) ak am:=ae
 replace dm:hZ am (n+1) n f0 f1 ((k:Int)+1) old:=dm
 show wpAny _ _ (setField (.ref (n+1)) 4 .none >>= _) _ _ ⟨am,g,d,tk+1,os⟩
 refine wpAny_bind (wpAny_setField_rec dm (by simp) λ aj dn af=>?_)
 replace af:Heap.SameBut (n+1) am aj:=af
 replace dn:hZ aj (n+1) n f0 f1 ((k:Int)+1) old:=dn
 show wpAny _ _ (newTuple [.int k tk,x] >>= _) _ _ ⟨aj,g,d,tk+1,os⟩
 refine wpAny_bind (wpAny_newTuple ?_)
 have cu:hZ (aj.push { cls:=.type "tuple",data:=.seq #[.int k tk,x] }) (n+1) n f0 f1 ((k:Int)+1) old:=Heap.get?_push_of_some _ dn
 have hsz:aj.objs.size=hp.objs.size:=by rw[af.1,ae.1,ad.1]
 have dq:dB (aj.push { cls:=.type "tuple",data:=.seq #[.int k tk,x] }) aj.objs.size #[.int k tk,x]:=Heap.get?_push_size _ rfl
 have ed:∀ (c:Nat) o,(c < n\/n+1 < c)->hp.get? c=some o->(aj.push { cls:=.type "tuple",data:=.seq #[.int k tk,x] }).get? c=some o:=λ c o hc e=>
  Heap.get?_push_of_some _ (ex af (by omega) (ex ae (by omega) (ex ad (by omega) e)))
 have dt:dI (aj.push { cls:=.type "tuple",data:=.seq #[.int k tk,x] }) t n a (k+1):=((i1₁.ext ae (by omega)).ext af (by omega)).at λ o e=>Heap.get?_push_of_some _ e
 have hlt₃:n+1 < aj.objs.size:=by rw[hsz];exact helt
 generalize hh₄:aj.push { cls:=.type "tuple",data:=.seq #[.int k tk,x] }=ap at cu dq ed dt
 have hTle:hp.objs.size<=aj.objs.size:=Nat.le_of_eq hsz.symm
 show wpAny _ _ (Builtin.SmallTypes.ownedTupleIsFree (.ref (n+1)) >>= _) _ _ ⟨ap,g,d,tk+1,os⟩
 refine wpAny_bind (vK cu hf ?_ ?_)
 ·simp only [if_true]
  refine wpAny_bind (wpAny_rule ?_)
  refine wpAny_bind (wpAny_field cu rfl (x:=old) rfl ?_)
  refine wpAny_bind (wpAny_setField_rec cu (by simp) λ bb cr ar=>?_)
  replace ar:Heap.SameBut (n+1) ap bb:=ar
  replace cr:hZ bb (n+1) n f0 f1 ((k:Int)+1) x:=cr
  refine wpAny_bind (DK (s:=⟨bb,g,d,tk+1,os⟩) cr λ ci he₆ bc=>?_)
  replace bc:Heap.SameBut (n+1) bb ci:=bc
  refine wpAny_bind (wpAny_letGo (wpAny_pure ⟨_,rfl,?_⟩))
  exact hQ aj.objs.size ci _ _ _ hTle (.inr ⟨_,rfl⟩) he₆ ((dt.ext ar (by omega)).ext bc (by omega)) (ex bc (by omega) (ex ar (by omega) dq)) λ c o hc e=>ex bc (by omega) (ex ar (by omega) (ed c o hc e))
 ·intro bb cr ar
  replace ar:Heap.SameBut (n+1) ap bb:=ar
  simp only [Bool.false_eq_true,if_false]
  refine wpAny_pure ⟨_,rfl,?_⟩
  exact hQ aj.objs.size bb _ _ _ hTle hf cr (dt.ext ar (by omega)) (ex ar (by omega) dq) λ c o hc e=>ex ar (by omega) (ed c o hc e)
theorem DV {n a:Nat}{t:Bool}{k:Nat}{xs:Array Value}{old f0:Value}{f1:Bool}{Q:Fin->Shared->Prop} (hh:A.handled=none)
  (he:hZ s.heap (n+1) n f0 f1 k old) (i1:dI s.heap t n a k) (s1:cG s.heap t a xs) (hx:xs[k]? = none)
  (hE:∀ h' e,(∀ (c:Nat) o,(c < n\/n+1 < c)->s.heap.get? c=some o->h'.get? c=some o)->(∃ o,h'.get? e=some o/\o.cls=.type "StopIteration")->E (.ref e) { s with heap:=h' }) :
  wpAny (model prog w) A (Builtin.«enumerate.__next__» ⟨[.ref (n+1)],[]⟩) Q E s:=by
 show wpAny _ _ (field (.ref (n+1)) 2 >>= _) _ _ _
 refine wpAny_bind (wpAny_field he rfl (x:=.ref n) rfl ?_)
 refine wpAny_bind (d9 hh i1 s1 hx λ h' e hk he'=>hE h' e (λ c o hc q=>hk c o (show @Ne Nat c n by omega) q) he')
theorem o6 {e it:Addr}{f0:Value}{f1:Bool}{i:Int}{old:Value}{Q:Option Value->Shared->Prop} (he:hZ s.heap e it f0 f1 i old)
  (h:wpAny (model prog w) A.in1 (Builtin.«enumerate.__next__» ⟨[.ref e],[]⟩) (λ fin s'=>∃ v,fin=.done (.ret v)/\Q (some v) s') (λ e s'=>(∃ a o,e=.ref a/\s'.heap.get? a=some o/\o.cls=.type "StopIteration")/\Q none s') s) :
  wpAny (model prog w) A (pyNext (.ref e)) Q E s:=by
 have hT:s.TypeIs (.ref e) "enumerate" := ⟨_,he,rfl⟩
 unfold pyNext
 refine wpAny_bind (wpAny_attempt (wpAny_callSpecial?_slot (name:=Str.ofString "__next__") hT F.slot_enumerate_next
  (wpAny_call_entry F.slot_enumerate_next hT F.entry_enumerate_next (wpAny_mono h (λ fin s' h'=>?_) λ e s' h'=>?_) (F.args_enumerate_next_1 _))))
 ·obtain⟨v,rfl,q⟩:=h'
  exact⟨v,rfl,wpAny_pure q⟩
 ·obtain⟨⟨a,o,rfl,ho,hc⟩,q⟩:=h'
  exact wpAny_bind (wpAny_isInstance (T := "StopIteration") (b:=true) ⟨o,ho,hc⟩ isSubtype_stop (wpAny_pure q))
theorem xP {tg:Expr}{e it T:Addr}{f0:Value}{f1:Bool}{i:Int}{old:Value}{Q:Unit->Shared->Prop} (hf:gL f0) (hz:hZ s.heap e it f0 f1 i old)
  (hQ:∀ h' f0',gL f0'->hZ h' e it f0' f1 i old->Heap.SameBut e s.heap h'->Q () { s with heap:=h' }):wpAny (model prog w) A (letOwnedTupleGo tg (.ref e) (.ref T)) Q E s:=by
 have same:Q () s:=hQ s.heap f0 hf hz (Heap.SameBut.refl ..)
 have core:wpAny (model prog w) A (do
   let o <- load e
   match o.cls,o.data with
   | .type n,.fields vs=>
    if ["enumerate","zip","dict_itemiterator","dict_reverseitemiterator","odict_iterator","itertools.zip_longest","itertools.pairwise"].contains n && vs[0]? == some (rawInt T) then
     rule "for.unpacks-the-owned-tuple"
     updateField e 0 .none
   | _,_=>pure ()) Q E s:=by
  refine wpAny_bind (wpAny_load hz ?_)
  show wpAny _ _ (if (["enumerate","zip","dict_itemiterator","dict_reverseitemiterator","odict_iterator","itertools.zip_longest","itertools.pairwise"].contains "enumerate" &&
   (#[f0,.bool f1,.ref it,rawInt i,.none,old]:Array Value)[0]? == some (rawInt T))=true then _ else _) Q E s
  split
  ·refine wpAny_bind (wpAny_rule ?_)
   show wpAny _ _ (setField (.ref e) 0 .none) Q E s
   exact wpAny_setField_rec hz (by simp) λ h' hz' hs'=>hQ h' .none (.inl rfl) hz' hs'
  ·exact wpAny_pure same
 unfold letOwnedTupleGo
 cases tg <;> first
  | exact wpAny_pure same
  | exact core
theorem o7 {e it:Addr}{f0:Value}{f1:Bool}{i:Int}{old:Value}{Q:Value->Shared->Prop} (he:hZ s.heap e it f0 f1 i old) (h:Q (.ref e) s):wpAny (model prog w) A (pyIter (.ref e)) Q E s:=by
 have hT:s.TypeIs (.ref e) "enumerate" := ⟨_,he,rfl⟩
 refine wpAny_pyIter_slot hT F.slot_enumerate_iter (wpAny_call_entry F.slot_enumerate_iter hT F.entry_enumerate_iter ?_ (F.args_enumerate_iter_1 _))
 show wpAny _ _ (ret (.ref e)) _ _ s
 exact wpAny_pure ⟨_,rfl,"enumerate",_,hT,F.slot_enumerate_next.lookup,h⟩
theorem xN (t:Bool) (l:Addr) (xs:Array Value) :
  Meets (Builtin.«enumerate.__new__» ⟨[.type "enumerate",.ref l],[]⟩) (λ _ R s=>cG s.heap t l xs/\
   R (.ok (.ret (.ref (zA s.heap t l).objs.size))) { s with heap:=(zA s.heap t l).push { cls:=.type "enumerate",data:=.fields #[.none,.bool false,.ref s.heap.objs.size,rawInt 0,.none,.none] } }):=
 .of_wp λ prog w A R s h=>by
  obtain⟨hp,g,d,tk,os⟩:=s;obtain⟨hl,h⟩:=h
  have hsub:=sub_enumerate
  have hL:cG (Shared.heap ⟨hp,g,d,tk,os⟩) t l xs:=hl
  wp_walk
  refine wpAny_stack_any λ st=>wpAny_pure ?_
  split
  ·rename_i c _ _ _ _ _
   cases (c == Value.type "enumerate")
   ·wp_walk using eK hL
    exact⟨_,rfl,h⟩
   ·wp_walk using eK hL
    exact⟨_,rfl,h⟩
  ·wp_walk using eK hL
   exact⟨_,rfl,h⟩
theorem B8 {t:Bool}{l:Addr}{xs:Array Value}{Q:Value->Shared->Prop} (hL:cG s.heap t l xs)
  (h:∀ h',hZ h' (s.heap.objs.size+1) s.heap.objs.size .none false 0 .none->dI h' t s.heap.objs.size l 0->(∀ b o,s.heap.get? b=some o->h'.get? b=some o)->Q (.ref (s.heap.objs.size+1)) { s with heap:=h' }) :
  wpAny (model prog w) A (call (.type "enumerate") [.ref l]) Q E s:=by
 refine callType_new F.called_enumerate (by decide) (F.typeCall_enumerate_1 _) (F.newCall_enumerate_1 _) (λ obj=>F.args_object_init_2 obj _) F.entry_enumerate_new (xN t l xs) ⟨hL,?_⟩
 have hz:(zA s.heap t l).objs.size=s.heap.objs.size+1:=Heap.size_push ..
 show _/\_
 rw[hz]
 have he:hZ ((zA s.heap t l).push { cls:=.type "enumerate",data:=.fields #[.none,.bool false,.ref s.heap.objs.size,rawInt 0,.none,.none] }) (s.heap.objs.size+1) s.heap.objs.size .none false 0 .none:=by
  have:=Heap.get?_push_size (zA s.heap t l) (o:={ cls:=.type "enumerate",data:=.fields #[.none,.bool false,.ref s.heap.objs.size,rawInt 0,.none,.none] }) rfl
  rw[hz] at this;exact this
 exact⟨⟨_,he,rfl⟩,h _ he (iB (Heap.get?_push_of_some _ (Heap.get?_push_size _ rfl))) λ b o x=>Heap.get?_push_of_some _ (Heap.get?_push_of_some _ x)⟩
end
end TwZ
namespace L2
open PySem PySem.Spec PyProof.Rows TwZ
noncomputable def j7 (K:PySem.W.Frag) (H:Hp) (t:Bool) (a:Addr) (xs:List V):Prop:=if t=true then bO K H a xs else bR K H a xs
section
variable {X:Cx}{pins:List (Addr×Obj)}{σ:St}{H:Hp}{s:Shared}
theorem Inv.src {t:Bool}{a:Addr}{xs:List V} (I:Inv X pins σ H s) (h:j7 X.K H t a xs):∃ its:List Value,bY xs its/\cG s.heap t a its.toArray/\xs.length<=sizeLine:=by
 cases t with
 | true=>
  obtain⟨its,r,p,z⟩:=I.tuple h
  exact⟨its,r,(show s.heap.IsTuple a its.toArray from p),z⟩
 | false=>
  obtain⟨its,r,p,z⟩:=I.list h
  exact⟨its,r,p.isList,z⟩
theorem Inv.src_inj {t:Bool}{a:Addr}{xs ys:List V} (I:Inv X pins σ H s) (h:j7 X.K H t a xs) (h':j7 X.K H t a ys):xs=ys:=by
 cases t with
 | true=>exact I.tuple_inj h h'
 | false=>exact I.list_inj h h'
theorem Inv.turnedT {fp:List Addr}{h':Heap}{t':Nat}{T:Addr}{xs:List V}{its:List Value} (I:Inv X pins σ H s) (hf:∀ b∈fp,gN X pins H b) (k:∀ b o,b∉fp->s.heap.get? b=some o->h'.get? b=some o)
  (hT:s.heap.objs.size<=T) (hv:bY xs its) (hz:xs.length<=sizeLine) (ht:IsTup h' T its.toArray):Inv X pins σ (upd H T (.tup xs)) { s with heap:=h',toks:=t' }:=by
 have hn:H T=none:=I.hok.fresh hT
 have nT:∀ b u,H b=some u->b≠T:=λ b u e=>aN e hn
 have nfp:∀ b u,H b=some u->b∉fp:=λ b u e hb=>by rw[(hf b hb).1] at e;cases e
 have nTh:∀ b o,s.heap.get? b=some o->b≠T:=λ b o e z=>by rw[z] at e;exact absurd (Nat.lt_of_lt_of_le (Heap.lt_size e) hT) (Nat.lt_irrefl _)
 refine I.step (g':=s.gens) (d':=s.drawn) (ch:=fp) (λ b hb=>?_) (λ b o _ _ hc e _=>k b o hc e) (λ b o _ _ hc e _=>⟨o.slots,k b o hc e⟩) (λ b o hc e n=>by rw[aO (nTh b o e)];exact n)
  (λ b o hc e=>⟨o,k b o hc e⟩) (λ b ys e=>by rw[aO (nT b _ e)];exact e) (λ b o u e=>by rw[aO (nT b _ e)];exact e) (λ b ps e=>⟨#[],by rw[aO (nT b _ e),e];simp⟩) (λ m hm=>?_) (λ b u e=>?_) I.bare
 ·obtain⟨_,f1,_,f3,f4,f5⟩:=hf b hb
  exact⟨f3,f1,f4,f5⟩
 ·obtain⟨o,es,ep,ho,r⟩:=hm
  exact⟨o,es,ep,k _ o (λ hb=>(hf _ hb).2.1 rfl) ho,r⟩
 ·by_cases hb:b=T
  ·subst hb
   rw[aB] at e
   cases e
   exact⟨hz,its,hv,ht⟩
  ·rw[aO hb] at e
   refine (I.hok b u e).stay (λ c v hc q=>k c v ?_ q) (λ c q=>by rw[aO (nT c _ q)];exact q) λ c ys q=>by rw[aO (nT c _ q)];exact q
   rcases hc with z | z
   ·rw[z];exact nfp b u e
   ·exact nfp c _ z
theorem Inv.turnedL {fp:List Addr}{h':Heap}{t':Nat} (I:Inv X pins σ H s) (hf:∀ b∈fp,gN X pins H b) (k:∀ b o,b∉fp->s.heap.get? b=some o->h'.get? b=some o):Inv X pins σ H { s with heap:=h',toks:=t' }:=by
 have nfp:∀ b u,H b=some u->b∉fp:=λ b u e hb=>by rw[(hf b hb).1] at e;cases e
 refine I.step (g':=s.gens) (d':=s.drawn) (ch:=fp) (λ b hb=>?_) (λ b o _ _ hc e _=>k b o hc e) (λ b o _ _ hc e _=>⟨o.slots,k b o hc e⟩) (λ b o hc e n=>n)
  (λ b o hc e=>⟨o,k b o hc e⟩) (λ b ys e=>e) (λ b o u e=>e) (λ b ps e=>⟨#[],by rw[e];simp⟩) (λ m hm=>?_) (λ b u e=>?_) I.bare
 ·obtain⟨_,f1,_,f3,f4,f5⟩:=hf b hb
  exact⟨f3,f1,f4,f5⟩
 ·obtain⟨o,es,ep,ho,r⟩:=hm
  exact⟨o,es,ep,k _ o (λ hb=>(hf _ hb).2.1 rfl) ho,r⟩
 ·refine (I.hok b u e).stay (λ c v hc q=>k c v ?_ q) (λ c q=>q) λ c ys q=>q
  rcases hc with z | z
  ·rw[z];exact nfp b u e
  ·exact nfp c _ z
end
noncomputable def J1 (K:PySem.W.Frag) (t1 t2 t3:Bool) (a1 a2 a3:Addr):It:=
 ⟨λ i H=>∃ xs ys zs x y z,j7 K H t1 a1 xs/\j7 K H t2 a2 ys/\j7 K H t3 a3 zs/\xs[i]? = some x/\ys[i]? = some y/\zs[i]? = some z,
  λ i H v H'=>∃ T x y z,H T=none/\v=.ref T/\(∀ xs,j7 K H t1 a1 xs->xs[i]? = some x)/\(∀ xs,j7 K H t2 a2 xs->xs[i]? = some y)/\(∀ xs,j7 K H t3 a3 xs->xs[i]? = some z)/\H'=upd H T (.tup [x,y,z]),
  λ i H=>∃ xs ys zs,j7 K H t1 a1 xs/\j7 K H t2 a2 ys/\j7 K H t3 a3 zs/\(xs.length<=i\/ys.length<=i\/zs.length<=i)⟩
noncomputable def JD (n a1 a2 a3:Nat) (t1 t2 t3:Bool) (i:Nat) (h:Heap):Prop:=
 ∃ f0 f1 c1 c2 c3,gL f0/\lZ h (n+5) (n+3) (n+4) f0 f1/\dB h (n+3) #[.ref n,.ref (n+1),.ref (n+2)]/\dB h (n+4) #[c1,c2,c3]/\
  dI h t1 n a1 i/\dI h t2 (n+1) a2 i/\dI h t3 (n+2) a3 i/\a1 < n/\a2 < n/\a3 < n
noncomputable def xU (n:Nat) (m:Nat):List Addr:=(List.range m).map λ k=>(n+k:Nat)
theorem dN {n m:Nat}{b:Addr}:b∈xU n m↔∃ k,k < m/\b=n+k:=by
 unfold xU
 rw[List.mem_map]
 constructor
 ·rintro⟨k,hk,e⟩;exact⟨k,List.mem_range.mp hk,e.symm⟩
 ·rintro⟨k,hk,e⟩;exact⟨k,List.mem_range.mpr hk,e.symm⟩
theorem gT {n m:Nat}{b:Nat} (h:(b:Addr)∉xU n m) (hm:0 < m):b < n\/n+(m - 1) < b:=by
 by_cases h1:b < n
 ·exact .inl h1
 ·by_cases h2:n+(m - 1) < b
  ·exact .inr h2
  ·exact absurd (dN.mpr ⟨b - n,by omega,by show (b:Nat)=n+(b - n);omega⟩) h
theorem A0 {P:Program}{w:World}{K:PySem.W.Frag}{tg:Expr} (n a1 a2 a3:Nat) (t1 t2 t3:Bool):Turn P w K tg (J1 K t1 t2 t3 a1 a2 a3) (xU n 6) (n+5) (JD n a1 a2 a3 t1 t2 t3) where
 mem:=dN.mpr ⟨5,by decide,rfl⟩
 obj:=λ i h st b hb=>by
  obtain⟨f0,f1,c1,c2,c3,hf,hz,hTI,hTO,i1,i2,i3,_⟩:=st
  obtain⟨k,hk,rfl⟩:=dN.mp hb
  have hk':k=0\/k=1\/k=2\/k=3\/k=4\/k=5:=by omega
  rcases hk' with rfl | rfl | rfl | rfl | rfl | rfl
  ·exact i1.obj
  ·exact i2.obj
  ·exact i3.obj
  ·exact⟨_,hTI,λ v z=>by cases z⟩
  ·exact⟨_,hTO,λ v z=>by cases z⟩
  ·exact⟨_,hz,λ v z=>by cases z⟩
 keep:=λ i h h' st k=>by
  obtain⟨f0,f1,c1,c2,c3,hf,hz,hTI,hTO,i1,i2,i3,l⟩:=st
  have m:∀ j,j < 6->((n+j:Nat):Addr)∈xU n 6:=λ j hj=>dN.mpr ⟨j,hj,rfl⟩
  exact⟨f0,f1,c1,c2,c3,hf,k _ (m 5 (by decide)) _ hz,k _ (m 3 (by decide)) _ hTI,k _ (m 4 (by decide)) _ hTO,i1.at λ o e=>k _ (m 0 (by decide)) _ e,i2.at λ o e=>k _ (m 1 (by decide)) _ e,i3.at λ o e=>k _ (m 2 (by decide)) _ e,l⟩
 item:=by
  intro X hP hw hK hc i pins s σ H E I hf st hg
  subst hP hw hK
  obtain⟨f0,f1,c1,c2,c3,f,hz,hTI,hTO,i1,i2,i3,l1,l2,l3⟩:=st
  obtain⟨xs,ys,zs,x,y,z,q1,q2,q3,hx,hy,hw⟩:=hg
  obtain⟨us,r1,p1,_⟩:=I.src q1
  obtain⟨vs,r2,p2,_⟩:=I.src q2
  obtain⟨ws,r3,p3,_⟩:=I.src q3
  obtain⟨u,hu,ru⟩:=r1.get hx
  obtain⟨v,hv,rv⟩:=r2.get hy
  obtain⟨w',hw',rw'⟩:=r3.get hw
  refine iM hz (zX f hz hTI hTO i1 i2 i3 p1 p2 p3 l1 l2 l3 (by simpa using hu) (by simpa using hv) (by simpa using hw') λ T h' f0' f1' d1 d2 d3 hT f' hz' hTI' hTO' i1' i2' i3' hTp hk=>?_)
  refine⟨_,rfl,sV (s:={ s with heap:=h' }) f' hz' λ h'' f0'' f'' hz'' hs=>?_⟩
  replace hs:Heap.SameBut (n+5) h' h'':=hs
  have hTn:n+5 < T:=Nat.lt_of_lt_of_le (Heap.lt_size hz) hT
  have hTp':dB h'' T #[u,v,w']:=ex hs (by omega) hTp
  have IT:Inv X pins σ (upd H T (.tup [x,y,z])) { s with heap:=h'',toks:=s.toks }:=I.turnedT (fp:=xU n 6) hf (λ b o hb e=>ex (c:=b) hs (by have:=gT (b:=b) hb (by decide);have:n+(6 - 1)=n+5:=rfl;omega) (hk b o (gT (b:=b) hb (by decide)) e)) hT (its:=[u,v,w']) (.cons ru (.cons rv (.cons rw' .nil))) (by show 3<=sizeLine;decide) ⟨_,hTp',rfl,_,rfl⟩
  refine⟨.ref T,upd H T (.tup [x,y,z]),IT,rfl,
   ⟨T,x,y,z,I.hok.fresh hT,rfl,λ as q=>by rw[I.src_inj q q1];exact hx,λ as q=>by rw[I.src_inj q q2];exact hy,λ as q=>by rw[I.src_inj q q3];exact hw,rfl⟩,
   ⟨f0'',f1',d1,d2,d3,f'',hz'',ex hs (by omega) hTI',ex hs (by omega) hTO',i1'.ext hs (by omega),i2'.ext hs (by omega),i3'.ext hs (by omega),l1,l2,l3⟩,λ b hb=>?_⟩
  ·obtain⟨j,hj,rfl⟩:=dN.mp hb
   rw[aO (show ((n+j:Nat):Addr)≠T from (show @Ne Nat (n+j) T by omega))]
   exact (hf _ hb).1
 done:=by
  intro X hP hw hK hc i pins s σ H E I hf st hg
  subst hP hw hK
  obtain⟨f0,f1,c1,c2,c3,f,hz,hTI,hTO,i1,i2,i3,l1,l2,l3⟩:=st
  obtain⟨xs,ys,zs,q1,q2,q3,hend⟩:=hg
  obtain⟨us,r1,p1,_⟩:=I.src q1
  obtain⟨vs,r2,p2,_⟩:=I.src q2
  obtain⟨ws,r3,p3,_⟩:=I.src q3
  have e1:=r1.length
  have e2:=r2.length
  have e3:=r3.length
  refine iM hz (BI (I.ok.hd hc) f hz hTI hTO i1 i2 i3 p1 p2 p3 l1 l2 l3 (by
   rcases hend with h | h | h
   ·exact .inl (by simp;omega)
   ·exact .inr (.inl (by simp;omega))
   ·exact .inr (.inr (by simp;omega))) λ h' e hk he=>?_)
  obtain⟨o,ho,hcl⟩:=he
  exact⟨⟨e,o,rfl,ho,hcl⟩,rfl,I.turnedL (t':=s.toks) hf λ b o hb q=>hk b o (gT (b:=b) hb (by decide)) q⟩
 self:=λ _ _ _ _ _ st h=>by
  obtain⟨f0,f1,c1,c2,c3,f,hz,_⟩:=st
  exact iN hz h
noncomputable def G6 (K:PySem.W.Frag) (t1 t2:Bool) (a1 a2:Addr):It:=
 ⟨λ i H=>∃ xs ys x y,j7 K H t1 a1 xs/\j7 K H t2 a2 ys/\xs[i]? = some x/\ys[i]? = some y,
  λ i H v H'=>∃ T x y,H T=none/\v=.ref T/\(∀ xs,j7 K H t1 a1 xs->xs[i]? = some x)/\(∀ xs,j7 K H t2 a2 xs->xs[i]? = some y)/\H'=upd H T (.tup [x,y]),
  λ i H=>∃ xs ys,j7 K H t1 a1 xs/\j7 K H t2 a2 ys/\(xs.length<=i\/ys.length<=i)⟩
noncomputable def JE (n a1 a2:Nat) (t1 t2:Bool) (i:Nat) (h:Heap):Prop:=
 ∃ f0 f1 c1 c2,gL f0/\lZ h (n+4) (n+2) (n+3) f0 f1/\dB h (n+2) #[.ref n,.ref (n+1)]/\dB h (n+3) #[c1,c2]/\dI h t1 n a1 i/\dI h t2 (n+1) a2 i/\a1 < n/\a2 < n
theorem A2 {P:Program}{w:World}{K:PySem.W.Frag}{tg:Expr} (n a1 a2:Nat) (t1 t2:Bool):Turn P w K tg (G6 K t1 t2 a1 a2) (xU n 5) (n+4) (JE n a1 a2 t1 t2) where
 mem:=dN.mpr ⟨4,by decide,rfl⟩
 obj:=λ i h st b hb=>by
  obtain⟨f0,f1,c1,c2,hf,hz,hTI,hTO,i1,i2,_⟩:=st
  obtain⟨k,hk,rfl⟩:=dN.mp hb
  have hk':k=0\/k=1\/k=2\/k=3\/k=4:=by omega
  rcases hk' with rfl | rfl | rfl | rfl | rfl
  ·exact i1.obj
  ·exact i2.obj
  ·exact⟨_,hTI,λ v z=>by cases z⟩
  ·exact⟨_,hTO,λ v z=>by cases z⟩
  ·exact⟨_,hz,λ v z=>by cases z⟩
 keep:=λ i h h' st k=>by
  obtain⟨f0,f1,c1,c2,hf,hz,hTI,hTO,i1,i2,l⟩:=st
  have m:∀ j,j < 5->((n+j:Nat):Addr)∈xU n 5:=λ j hj=>dN.mpr ⟨j,hj,rfl⟩
  exact⟨f0,f1,c1,c2,hf,k _ (m 4 (by decide)) _ hz,k _ (m 2 (by decide)) _ hTI,k _ (m 3 (by decide)) _ hTO,i1.at λ o e=>k _ (m 0 (by decide)) _ e,i2.at λ o e=>k _ (m 1 (by decide)) _ e,l⟩
 item:=by
  intro X hP hw hK hc i pins s σ H E I hf st hg
  subst hP hw hK
  obtain⟨f0,f1,c1,c2,f,hz,hTI,hTO,i1,i2,l1,l2⟩:=st
  obtain⟨xs,ys,x,y,q1,q2,hx,hy⟩:=hg
  obtain⟨us,r1,p1,_⟩:=I.src q1
  obtain⟨vs,r2,p2,_⟩:=I.src q2
  obtain⟨u,hu,ru⟩:=r1.get hx
  obtain⟨v,hv,rv⟩:=r2.get hy
  refine iM hz (zY f hz hTI hTO i1 i2 p1 p2 l1 l2 (by simpa using hu) (by simpa using hv) λ T h' f0' f1' d1 d2 hT f' hz' hTI' hTO' i1' i2' hTp hk=>?_)
  refine⟨_,rfl,sV (s:={ s with heap:=h' }) f' hz' λ h'' f0'' f'' hz'' hs=>?_⟩
  replace hs:Heap.SameBut (n+4) h' h'':=hs
  have hTn:n+4 < T:=Nat.lt_of_lt_of_le (Heap.lt_size hz) hT
  have hTp':dB h'' T #[u,v]:=ex hs (by omega) hTp
  have IT:Inv X pins σ (upd H T (.tup [x,y])) { s with heap:=h'',toks:=s.toks }:=I.turnedT (fp:=xU n 5) hf (λ b o hb e=>ex (c:=b) hs (by have:=gT (b:=b) hb (by decide);have:n+(5 - 1)=n+4:=rfl;omega) (hk b o (gT (b:=b) hb (by decide)) e)) hT (its:=[u,v]) (.cons ru (.cons rv .nil)) (by show 2<=sizeLine;decide) ⟨_,hTp',rfl,_,rfl⟩
  refine⟨.ref T,upd H T (.tup [x,y]),IT,rfl,
   ⟨T,x,y,I.hok.fresh hT,rfl,λ as q=>by rw[I.src_inj q q1];exact hx,λ as q=>by rw[I.src_inj q q2];exact hy,rfl⟩,
   ⟨f0'',f1',d1,d2,f'',hz'',ex hs (by omega) hTI',ex hs (by omega) hTO',i1'.ext hs (by omega),i2'.ext hs (by omega),l1,l2⟩,λ b hb=>?_⟩
  ·obtain⟨j,hj,rfl⟩:=dN.mp hb
   rw[aO (show ((n+j:Nat):Addr)≠T from (show @Ne Nat (n+j) T by omega))]
   exact (hf _ hb).1
 done:=by
  intro X hP hw hK hc i pins s σ H E I hf st hg
  subst hP hw hK
  obtain⟨f0,f1,c1,c2,f,hz,hTI,hTO,i1,i2,l1,l2⟩:=st
  obtain⟨xs,ys,q1,q2,hend⟩:=hg
  obtain⟨us,r1,p1,_⟩:=I.src q1
  obtain⟨vs,r2,p2,_⟩:=I.src q2
  have e1:=r1.length
  have e2:=r2.length
  refine iM hz (BJ (I.ok.hd hc) f hz hTI hTO i1 i2 p1 p2 l1 l2 (by
   rcases hend with h | h
   ·exact .inl (by simp;omega)
   ·exact .inr (by simp;omega)) λ h' e hk he=>?_)
  obtain⟨o,ho,hcl⟩:=he
  exact⟨⟨e,o,rfl,ho,hcl⟩,rfl,I.turnedL (t':=s.toks) hf λ b o hb q=>hk b o (gT (b:=b) hb (by decide)) q⟩
 self:=λ _ _ _ _ _ st h=>by
  obtain⟨f0,f1,c1,c2,f,hz,_⟩:=st
  exact iN hz h
noncomputable def Ite (K:PySem.W.Frag) (t:Bool) (a:Addr):It:=
 ⟨λ i H=>∃ xs x,j7 K H t a xs/\xs[i]? = some x,
  λ i H v H'=>∃ T x,H T=none/\v=.ref T/\(∀ xs,j7 K H t a xs->xs[i]? = some x)/\H'=upd H T (.tup [.int i,x]),
  λ i H=>∃ xs,j7 K H t a xs/\xs.length<=i⟩
noncomputable def tne (n a:Nat) (t:Bool) (i:Nat) (h:Heap):Prop:=∃ f0 f1 old,gL f0/\hZ h (n+1) n f0 f1 i old/\dI h t n a i/\a < n
theorem A4 {P:Program}{w:World}{K:PySem.W.Frag}{tg:Expr} (n a:Nat) (t:Bool):Turn P w K tg (Ite K t a) (xU n 2) (n+1) (tne n a t) where
 mem:=dN.mpr ⟨1,by decide,rfl⟩
 obj:=λ i h st b hb=>by
  obtain⟨f0,f1,old,hf,he,i1,_⟩:=st
  obtain⟨k,hk,rfl⟩:=dN.mp hb
  have hk':k=0\/k=1:=by omega
  rcases hk' with rfl | rfl
  ·exact i1.obj
  ·exact⟨_,he,λ v z=>by cases z⟩
 keep:=λ i h h' st k=>by
  obtain⟨f0,f1,old,hf,he,i1,l⟩:=st
  have m:∀ j,j < 2->((n+j:Nat):Addr)∈xU n 2:=λ j hj=>dN.mpr ⟨j,hj,rfl⟩
  exact⟨f0,f1,old,hf,k _ (m 1 (by decide)) _ he,i1.at λ o e=>k _ (m 0 (by decide)) _ e,l⟩
 item:=by
  intro X hP hw hK hc i pins s σ H E I hf st hg
  subst hP hw hK
  obtain⟨f0,f1,old,f,he,i1,l1⟩:=st
  obtain⟨xs,x,q1,hx⟩:=hg
  obtain⟨us,r1,p1,_⟩:=I.src q1
  obtain⟨u,hu,ru⟩:=r1.get hx
  refine o6 he (AV f he i1 p1 l1 (by simpa using hu) λ T h' f0' f1' old' hT f' he' i1' hTp hk=>?_)
  refine⟨_,rfl,xP (s:={ s with heap:=h',toks:=s.toks+1 }) f' he' λ h'' f0'' f'' he'' hs=>?_⟩
  replace hs:Heap.SameBut (n+1) h' h'':=hs
  have hTn:n+1 < T:=Nat.lt_of_lt_of_le (Heap.lt_size he) hT
  have hTp':dB h'' T #[.int i s.toks,u]:=ex hs (by omega) hTp
  have IT:Inv X pins σ (upd H T (.tup [.int i,x])) { s with heap:=h'',toks:=s.toks+1 }:=I.turnedT (fp:=xU n 2) hf (λ b o hb e=>ex (c:=b) hs (by have:=gT (b:=b) hb (by decide);have:n+(2 - 1)=n+1:=rfl;omega) (hk b o (gT (b:=b) hb (by decide)) e)) hT (its:=[.int i s.toks,u]) (.cons ⟨_,rfl⟩ (.cons ru .nil)) (by show 2<=sizeLine;decide) ⟨_,hTp',rfl,_,rfl⟩
  have he2:hZ h'' (n+1) n f0'' f1' ((i+1:Nat):Int) old':=by
   have:((i+1:Nat):Int)=(i:Int)+1:=by push_cast;rfl
   rw[this];exact he''
  refine⟨.ref T,upd H T (.tup [.int i,x]),IT,rfl,⟨T,x,I.hok.fresh hT,rfl,λ as q=>by rw[I.src_inj q q1];exact hx,rfl⟩,⟨f0'',f1',old',f'',he2,i1'.ext hs (by omega),l1⟩,λ b hb=>?_⟩
  ·obtain⟨j,hj,rfl⟩:=dN.mp hb
   rw[aO (show ((n+j:Nat):Addr)≠T from (show @Ne Nat (n+j) T by omega))]
   exact (hf _ hb).1
 done:=by
  intro X hP hw hK hc i pins s σ H E I hf st hg
  subst hP hw hK
  obtain⟨f0,f1,old,f,he,i1,l1⟩:=st
  obtain⟨xs,q1,hend⟩:=hg
  obtain⟨us,r1,p1,_⟩:=I.src q1
  have e1:=r1.length
  refine o6 he (DV (I.ok.hd hc) he i1 p1 (by simp;omega) λ h' e hk he=>?_)
  obtain⟨o,ho,hcl⟩:=he
  exact⟨⟨e,o,rfl,ho,hcl⟩,rfl,I.turnedL (t':=s.toks) hf λ b o hb q=>hk b o (gT (b:=b) hb (by decide)) q⟩
 self:=λ _ _ _ _ _ st h=>by
  obtain⟨f0,f1,old,f,he,_⟩:=st
  exact o7 he h
section
variable {X:Cx}{tg:Expr}
theorem wD:bootBuiltins "zip" = some (.type "zip"):=by decide +kernel
theorem B9:bootBuiltins "enumerate" = some (.type "enumerate"):=by decide +kernel
noncomputable def GO (K:PySem.W.Frag) (ta:TA):TI:=λ σ H R=>ta σ H λ vs H1=>∃ t1 t2 a1 a2,vs=[.ref a1,.ref a2]/\(∃ xs,j7 K H1 t1 a1 xs)/\(∃ xs,j7 K H1 t2 a2 xs)/\R (G6 K t1 t2 a1 a2) H1
noncomputable def GN (K:PySem.W.Frag) (ta:TA):TI:=λ σ H R=>ta σ H λ vs H1=>∃ t1 t2 t3 a1 a2 a3,vs=[.ref a1,.ref a2,.ref a3]/\(∃ xs,j7 K H1 t1 a1 xs)/\(∃ xs,j7 K H1 t2 a2 xs)/\(∃ xs,j7 K H1 t3 a3 xs)/\R (J1 K t1 t2 t3 a1 a2 a3) H1
noncomputable def GQ (K:PySem.W.Frag) (ta:TA):TI:=λ σ H R=>ta σ H λ vs H1=>∃ t a,vs=[.ref a]/\(∃ xs,j7 K H1 t a xs)/\R (Ite K t a) H1
theorem FE {a:Expr}{ta:TA}{p pos:Pos} (hg:Gl X "enumerate") (hm:X.mg "enumerate" = none) (ha:PA X [a] ta) (hs:starEach [a] X.env=[(false,eval a X.env)]:=by rfl):PI X tg (.Call (.Name "enumerate" p) [a] [] pos) (GQ X.K ta):=by
 intro pins s σ H R I h
 refine Call_ (lS I hg hm B9 (PyProof.Rows.callWith_type1 (cX (ha pos pins s σ H _ I h) λ us s1 ⟨vs,H1,I1,r1,q1⟩=>?_) hs rfl))
 obtain⟨t,a1,e,⟨xs,hq⟩,q⟩:=q1
 subst e
 cases r1 with
 | cons r rr=>
  cases rr
  cases r
  obtain⟨its,rv,p,hz⟩:=I1.src hq
  refine B8 p λ h' he i1 hk=>?_
  refine o7 (s:={ s1 with heap:=h' }) he ?_
  refine⟨_,xU s1.heap.objs.size 2,tne s1.heap.objs.size a1 t,_,H1,rfl,I1.kept (t':=s1.toks) hk,A4 _ _ _,⟨.none,false,.none,.inl rfl,he,i1,p.lt⟩,λ b hb=>?_,q⟩
  obtain⟨k,_,rfl⟩:=dN.mp hb
  exact I1.fpOk (Nat.le_add_right _ _) (I1.hok.fresh (Nat.le_add_right _ _))
theorem FC {a b:Expr}{ta:TA}{p pos:Pos} (hg:Gl X "zip") (hm:X.mg "zip" = none) (ha:PA X [a,b] ta) (hs:starEach [a,b] X.env=[(false,eval a X.env),(false,eval b X.env)]:=by rfl) (hs2:starEach [b] X.env=[(false,eval b X.env)]:=by rfl) :
  PI X tg (.Call (.Name "zip" p) [a,b] [] pos) (GO X.K ta):=by
 intro pins s σ H R I h
 refine Call_ (lS I hg hm wD (PyProof.Rows.callWith_type1 (cX (ha pos pins s σ H _ I h) λ us s1 ⟨vs,H1,I1,r1,q1⟩=>?_) (by rw[hs,hs2]) (by rw[hs2];rfl)))
 obtain⟨t1,t2,a1,a2,e,⟨xs,hq1⟩,⟨ys,hq2⟩,q⟩:=q1
 subst e
 cases r1 with
 | cons r rr=>
  cases rr with
  | cons r' rr=>
   cases rr
   cases r
   cases r'
   obtain⟨its,rv,p1,hz⟩:=I1.src hq1
   obtain⟨its2,rv2,p2,hz2⟩:=I1.src hq2
   refine B4 p1 p2 λ h' hz' hTI hTO i1 i2 hk=>?_
   refine iN (s:={ s1 with heap:=h' }) hz' ?_
   refine⟨_,xU s1.heap.objs.size 5,JE s1.heap.objs.size a1 a2 t1 t2,_,H1,rfl,I1.kept (t':=s1.toks) hk,A2 _ _ _ _ _,⟨.none,false,_,_,.inl rfl,hz',hTI,hTO,i1,i2,p1.lt,p2.lt⟩,λ b hb=>?_,q⟩
   obtain⟨k,_,rfl⟩:=dN.mp hb
   exact I1.fpOk (Nat.le_add_right _ _) (I1.hok.fresh (Nat.le_add_right _ _))
theorem FA {a b c:Expr}{ta:TA}{p pos:Pos} (hg:Gl X "zip") (hm:X.mg "zip" = none) (ha:PA X [a,b,c] ta) (hs:starEach [a,b,c] X.env=[(false,eval a X.env),(false,eval b X.env),(false,eval c X.env)]:=by rfl)
  (hs2:starEach [b,c] X.env=[(false,eval b X.env),(false,eval c X.env)]:=by rfl) :
  PI X tg (.Call (.Name "zip" p) [a,b,c] [] pos) (GN X.K ta):=by
 intro pins s σ H R I h
 refine Call_ (lS I hg hm wD (PyProof.Rows.callWith_type1 (cX (ha pos pins s σ H _ I h) λ us s1 ⟨vs,H1,I1,r1,q1⟩=>?_) (by rw[hs,hs2]) (by rw[hs2];rfl)))
 obtain⟨t1,t2,t3,a1,a2,a3,e,⟨xs,hq1⟩,⟨ys,hq2⟩,⟨zs,hq3⟩,q⟩:=q1
 subst e
 cases r1 with
 | cons r rr=>
  cases rr with
  | cons r' rr=>
   cases rr with
   | cons r'' rr=>
    cases rr
    cases r
    cases r'
    cases r''
    obtain⟨its,rv,p1,hz⟩:=I1.src hq1
    obtain⟨its2,rv2,p2,hz2⟩:=I1.src hq2
    obtain⟨its3,rv3,p3,hz3⟩:=I1.src hq3
    refine B3 p1 p2 p3 λ h' hz' hTI hTO i1 i2 i3 hk=>?_
    refine iN (s:={ s1 with heap:=h' }) hz' ?_
    refine⟨_,xU s1.heap.objs.size 6,JD s1.heap.objs.size a1 a2 a3 t1 t2 t3,_,H1,rfl,I1.kept (t':=s1.toks) hk,A0 _ _ _ _ _ _ _,⟨.none,false,_,_,_,.inl rfl,hz',hTI,hTO,i1,i2,i3,p1.lt,p2.lt,p3.lt⟩,λ b hb=>?_,q⟩
    obtain⟨k,_,rfl⟩:=dN.mp hb
    exact I1.fpOk (Nat.le_add_right _ _) (I1.hok.fresh (Nat.le_add_right _ _))
end
end L2
namespace L2
open PySem PySem.Spec PyProof.Rows TwZ
section
variable {prog:Program}{w:World}{A:Around}{E:Value->Shared->Prop}{s:Shared}{l:Addr}{xs:Array (Int×Tok)}
theorem wR {Q:Value->Shared->Prop} (hh:A.handled=none) (hl:s.heap.IsTuple l (intItems xs))
  (h:∀ h' tk t',(∀ b o,s.heap.get? b=some o->h'.get? b=some o)->Q (.int (preSum (numAt xs) xs.size) t') { s with heap:=h',toks:=tk }) :
  wpAny (model prog w) A (call (.builtin "sum") [.ref l]) Q E s:=by
 have hlt:l < s.heap.objs.size:=by obtain⟨_,e,_⟩:=hl;exact Heap.lt_size e
 refine call_sum_walkG (wpAny_pyIter_tuple hl ?_)
 refine⟨_,_,_,_,_,_,numAt xs,rfl,Walks.tuple (A:=A.in1) hh _ l (Nat.ne_of_lt hlt) (intItems xs),⟨⟨_,Heap.get?_push_size _ rfl,rfl,rfl⟩,hl.push _⟩,λ b hb=>?_,(λ _ _=>intItems_at),λ h' tk t' hk=>?_⟩
 ·show b < (s.heap.push _).objs.size
  rw[Heap.size_push]
  rcases List.mem_cons.mp hb with rfl | hb
  ·exact Nat.lt_succ_self _
  ·rcases List.mem_cons.mp hb with rfl | hb
   ·exact Nat.lt_succ_of_lt hlt
   ·cases hb
 ·have:=h h' tk t' (λ b o e=>hk b o (λ hm=>by rw[List.mem_singleton.mp hm] at e;exact Nat.lt_irrefl _ (Heap.lt_size e)) (Heap.get?_push_of_some _ e))
  simpa [intItems] using this
theorem wS {t:Bool}{vs:List Value}{ns:List Int}{Q:Value->Shared->Prop} (hh:A.handled=none) (hl:cG s.heap t l vs.toArray) (hi:IntsAre vs ns)
  (h:∀ h' tk t',(∀ b o,s.heap.get? b=some o->h'.get? b=some o)->Q (.int ns.sum t') { s with heap:=h',toks:=tk }) :
  wpAny (model prog w) A (call (.builtin "sum") [.ref l]) Q E s:=by
 obtain⟨xs,hx⟩:=hi.allInts.items
 have hn:numsOf vs.toArray.toList=ns:=by rw[show vs.toArray.toList=vs from rfl,hi.numsOf]
 rw[hx] at hl hn
 rw[nums_intItems] at hn
 have e:preSum (numAt xs) xs.size=ns.sum:=by rw[preSum_eq,List.take_of_length_le (by simp),hn]
 cases t with
 | true=>exact wR hh hl λ h' tk t' hk=>by rw[e];exact h h' tk t' hk
 | false=>exact sum_intListG hh hl λ h' tk t' hk=>by rw[e];exact h h' tk t' hk
end
section
variable {X:Cx}
noncomputable def JN (K:PySem.W.Frag):List V->Hp->VK->Prop:=λ xs H Q=>∃ (t:Bool) (p:Addr) (ns:List Int),xs=[.ref p]/\j7 K H t p (ns.map V.int)/\Q (.int ns.sum) H
theorem B6 (hc:X.calm=true):g7 X (.builtin "sum") (JN X.K):=by
 intro pins s σ H xs us Q I r h
 obtain⟨t,p,ns,rfl,hq,q⟩:=h
 obtain⟨u,rfl,ru⟩:=r.one
 cases ru
 obtain⟨its,rv,p1,hz⟩:=I.src hq
 refine wS (I.ok.hd hc) p1 (xR rv) λ h' tk t' hk=>⟨.int ns.sum,H,I.kept hk,⟨t',rfl⟩,q⟩
noncomputable def TyS (K:PySem.W.Frag) (H:Hp) (x:V) (t:Value):Prop:=TyOf K H x t\/∃ a ys,x=.ref a/\bO K H a ys/\t=.type "tuple"
noncomputable def JW (K:PySem.W.Frag):List V->Hp->VK->Prop:=λ xs H Q=>∃ x T t b,xs=[x,.ty T]/\TyS K H x t/\PySem.W.kitOne K t (.type T)=some b/\Q (.bl b) H
theorem E7:g7 X (.builtin "isinstance") (JW X.K):=by
 intro pins s σ H xs us Q I r h
 obtain⟨x,T,t,b,rfl,ty,e,q⟩:=h
 obtain⟨u,v,rfl,ru,rv⟩:=r.two
 cases rv
 rcases ty with ty | ⟨a,ys,rfl,hq,rfl⟩
 ·exact AQ I ru ty e λ tk=>⟨.bl b,H,I.tok tk,rfl,q⟩
 ·cases (show u=Value.ref a from ru)
  obtain⟨its,rv',⟨o,h1,h2,_⟩,_⟩:=I.tuple hq
  exact PySem.W.kia_one PySem.W.kitx_tuple I.kIn ⟨o,h1,h2⟩ e (λ z=>nomatch z) λ tk=>⟨.bl b,H,I.tok tk,rfl,q⟩
end
theorem iA:fillsNumberSlot (.type "tuple") "mul" = pure false:=
 PySem.fillsNumberSlot_seq (id := "tuple.__mul__") (r:=some (.builtin "tuple.__rmul__")) F.slot_tuple_mul.lookup (by decide +kernel) F.slot_tuple_rmul.lookup (by decide +kernel)
theorem mM:seqRepeat? (.type "tuple")=pure (some (.builtin "tuple.__mul__")):=by
 unfold seqRepeat?
 rw[PySem.seqSlot_of (T := "tuple") (name := "__mul__") (id := "tuple.__mul__") F.slot_tuple_mul.lookup (by decide +kernel),PySem.seqSlot_of (T := "tuple") (name := "__rmul__") (id := "tuple.__rmul__") F.slot_tuple_rmul.lookup (by decide +kernel)]
 rfl
theorem jU (a:Int) (t:Tok) (l:Addr) (items:Array Value) (n:Nat) (dd:Option Addr) (sl:Array (Option Value)) :
  Meets (Builtin.«int.__rmul__» ⟨[.int a t,.ref l],[]⟩) (λ _ R s=>s.heap.get? l=some { cls:=.type "tuple",dict:=dd,data:=.seq items n,slots:=sl }/\R (.ok (.ret Value.notImplemented)) s):=
 .of_wp λ prog w A R s h=>by obtain⟨hp,g,d,tk,os⟩:=s;obtain⟨hl,h⟩:=h;wp_walk;exact⟨_,rfl,h⟩
theorem rF (l:Addr) (items:Array Value) (n:Nat) (u:Tok) (dd:Option Addr) (sl:Array (Option Value)) :
  Meets (Builtin.«tuple.__mul__» ⟨[.ref l,.int 1 u],[]⟩) (λ _ R s=>s.heap.get? l=some { cls:=.type "tuple",dict:=dd,data:=.seq items n,slots:=sl }/\R (.ok (.ret (.ref l))) s):=
 .of_wp λ prog w A R s h=>by
  obtain⟨hp,g,d,tk,os⟩:=s;obtain⟨hl,h⟩:=h
  have c1:(items.isEmpty || (1:Int) == 1)=true:=by simp
  wp_walk
  exact⟨_,rfl,h⟩
theorem p8 (l:Addr) (items:Array Value) (n:Nat) (x:Int) (u:Tok) (dd:Option Addr) (sl:Array (Option Value)) (c0:¬ (decide (x < -(2 ^ 63)) || decide (x ≥ 2 ^ 63))=true) (c1:¬ (items.isEmpty || x == 1)=true)
  (c2:¬ (decide (x<=0) || items.isEmpty)=true) (c3:¬ (items.size:Int) * x > (2 ^ 63 - 1) / 8) (c4:¬ Builtin.Tuple.tupleTooMany ((items.size:Int) * x)=true) (hsz:(List.foldl (λ x1 x2=>x1++x2) #[] (List.replicate x.toNat items)).size<=sizeLine) :
  Meets (Builtin.«tuple.__mul__» ⟨[.ref l,.int x u],[]⟩) (λ _ R s=>s.heap.get? l=some { cls:=.type "tuple",dict:=dd,data:=.seq items n,slots:=sl }/\
   R (.ok (.ret (.ref s.heap.objs.size))) { s with heap:=s.heap.push { cls:=.type "tuple",data:=.seq (List.foldl (λ x1 x2=>x1++x2) #[] (List.replicate x.toNat items)) } }):=
 .of_wp λ prog w A R s h=>by
  obtain⟨hp,g,d,tk,os⟩:=s;obtain⟨hl,h⟩:=h
  wp_walk
  rw[if_neg c0]
  wp_walk
  all_goals (try rw[if_neg c1])
  wp_walk
  all_goals (try rw[if_neg c2])
  wp_walk
  all_goals (try rw[if_neg c3])
  wp_walk
  all_goals (try rw[if_neg c4])
  wp_walk
  exact⟨_,rfl,h⟩
theorem aH.tup {K:PySem.W.Frag}{H H':Hp}{a:Addr}{xs:List V} (e:aH H H') (h:bO K H a xs):bO K H' a xs:=by
 rcases h with (h | ⟨o,h⟩) | h
 ·exact .inl (.inl (e _ _ h))
 ·exact .inl (.inr ⟨o,e _ _ h⟩)
 ·exact .inr h
theorem aH.new {H:Hp}{p:Addr}{o:HO} (h:H p=none):aH H (upd H p o):=λ b u e=>by rw[aO (aN e h)];exact e
section
variable {X:Cx}
noncomputable def GE (K:PySem.W.Frag):R2:=λ x y H Q=>∃ (l:Addr) (k:Int) (xs:List V),x=.ref l/\y=.int k/\bO K H l xs/\1<=k/\k < 1000000/\xs≠[]/\xs.length<=10/\
 ∀ p H',aH H H'->bO K H' p (List.replicate k.toNat xs).flatten->Q (.ref p) H'
theorem yS:iU X (binaryOp .Mult) (GE X.K):=by
 intro pins s σ H x y v u Q I rx ry h
 obtain⟨l,k,xs,rfl,rfl,hq,h1,h2,hne,hl10,q⟩:=h
 cases rx
 obtain⟨t,rfl⟩:=ry
 obtain⟨its,r,ht,z⟩:=I.tuple hq
 have hlen:=r.length
 obtain⟨⟨cls,dd,data,sl⟩,e,hc,n,hd⟩:=id ht
 simp only at hc hd
 subst hc hd
 refine wpAny_binaryOp_repeat_ref (T := "tuple") (U := "int") (by decide) ⟨_,e,rfl⟩ (λ s'=>typeIs_int s' k t) iA F.fills_int_mul F.slot_int_rmul mM F.slot_int_index.lookup
  (call_meets F.slot_int_rmul (typeIs_int s k t) F.entry_int_rmul (F.args_int_rmul_2 _ _) (jU k t l its.toArray n dd sl) ⟨e,rfl,⟨_,e,rfl⟩,?_⟩)
 by_cases hk:k=1
 ·subst hk
  refine call_meets F.slot_tuple_mul ⟨_,e,rfl⟩ F.entry_tuple_mul (F.args_tuple_mul_2 _ _) (rF l its.toArray n t dd sl) ⟨e,?_⟩
  refine⟨.ref l,H,I,rfl,q l H (aH.refl H) ?_⟩
  have e1:(List.replicate (1:Int).toNat xs).flatten=xs:=by simp
  rw[e1];exact hq
 ·have hne':its≠[]:=λ z=>by rw[z] at hlen;exact hne (List.eq_nil_of_length_eq_zero hlen)
  have f0:List.foldl (λ x1 x2=>x1++x2) #[] (List.replicate k.toNat its.toArray)=(List.replicate k.toNat its).flatten.toArray:=by
   have:=sZ its k.toNat []
   rw[List.nil_append] at this
   exact this
  have hemp:its.toArray.isEmpty=false:=by cases its with
   | nil=>exact absurd rfl hne'
   | cons a r=>rfl
  have hszN:k.toNat * its.length<=sizeLine:=by
   have a1:its.length<=10:=by omega
   have a2:k.toNat<=1000000:=by omega
   have:=Nat.mul_le_mul a2 a1
   rw[sizeLine_eq];omega
  have hprod:((its.toArray.size:Nat):Int) * k<=16777216:=by
   have a1:((its.toArray.size:Nat):Int)<=10:=by rw[List.size_toArray];omega
   have:=Int.mul_le_mul a1 (show k<=1000000 by omega) (by omega) (by omega)
   omega
  refine call_meets F.slot_tuple_mul ⟨_,e,rfl⟩ F.entry_tuple_mul (F.args_tuple_mul_2 _ _) (p8 l its.toArray n k t dd sl (by simp;omega) (by rw[hemp];simp;exact hk) (by rw[hemp];simp;omega) (by omega) (by
    unfold Builtin.Tuple.tupleTooMany
    rw[decide_eq_true_iff]
    rw[sizeLine_eq]
    omega) (by rw[f0,List.size_toArray,yV];exact hszN)) ⟨e,?_⟩
  have I1:=I.laid (a:=s.heap.objs.size) (o:=.tup (List.replicate k.toNat xs).flatten) (h':=s.heap.push { cls:=.type "tuple",data:=.seq (List.foldl (λ x1 x2=>x1++x2) #[] (List.replicate k.toNat its.toArray)) }) (t':=s.toks)
   (λ _ _ q=>Heap.get?_push_of_some _ q) (Nat.le_refl _) ⟨by rw[yV,hlen];exact hszN,(List.replicate k.toNat its).flatten,r.rep k.toNat,⟨_,Heap.get?_push_size _ rfl,rfl,0,by simp only [f0]⟩⟩
  exact⟨.ref _,_,I1,rfl,q _ _ (aH.new I.fresh) (bO.of aB)⟩
end
inductive D where
 | non | bl (b:Bool) | int (i:Int) | str (x:Str) | tup (ds:List D)
mutual
noncomputable def Is (K:PySem.W.Frag) (H:Hp):D->V->Prop
 | .non,v=>v=.non
 | .bl b,v=>v=.bl b
 | .int i,v=>v=.int i
 | .str x,v=>v=.str x
 | .tup ds,v=>∃ a xs,v=.ref a/\bO K H a xs/\IsL K H ds xs
noncomputable def IsL (K:PySem.W.Frag) (H:Hp):List D->List V->Prop
 | [],xs=>xs=[]
 | d::ds,xs=>∃ x r,xs=x::r/\Is K H d x/\IsL K H ds r
end
noncomputable def bM (K:PySem.W.Frag) (H H':Hp):Prop:=∀ a xs,bO K H a xs->bO K H' a xs
theorem bM.refl {K:PySem.W.Frag} (H:Hp):bM K H H:=λ _ _ h=>h
theorem bM.trans {K:PySem.W.Frag}{H H1 H2:Hp} (a:bM K H H1) (b:bM K H1 H2):bM K H H2:=λ c xs h=>b c xs (a c xs h)
theorem aH.ts {K:PySem.W.Frag}{H H':Hp} (e:aH H H'):bM K H H':=λ _ _ h=>e.tup h
mutual
theorem Is.mono {K:PySem.W.Frag}{H H':Hp} (t:bM K H H'):∀ (d:D) (v:V),Is K H d v->Is K H' d v
 | .non,_,h=>h
 | .bl _,_,h=>h
 | .int _,_,h=>h
 | .str _,_,h=>h
 | .tup ds,v,h=>by
  rw[Is] at h ⊢
  obtain⟨a,xs,e,q,l⟩:=h
  exact⟨a,xs,e,t a xs q,IsL.mono t ds xs l⟩
theorem IsL.mono {K:PySem.W.Frag}{H H':Hp} (t:bM K H H'):∀ (ds:List D) (xs:List V),IsL K H ds xs->IsL K H' ds xs
 | [],xs,h=>h
 | d::ds,xs,h=>by
  rw[IsL] at h ⊢
  obtain⟨x,r,e,hx,hr⟩:=h
  exact⟨x,r,e,Is.mono t d x hx,IsL.mono t ds r hr⟩
end
theorem IsL.length {K:PySem.W.Frag}{H:Hp}:∀ {ds:List D}{xs:List V},IsL K H ds xs->xs.length=ds.length
 | [],xs,h=>by rw[IsL] at h;subst h;rfl
 | d::ds,xs,h=>by
  rw[IsL] at h
  obtain⟨x,r,rfl,_,hr⟩:=h
  rw[List.length_cons,List.length_cons,IsL.length hr]
theorem IsL.get {K:PySem.W.Frag}{H:Hp}:∀ {ds:List D}{xs:List V}{i:Nat}{d:D},IsL K H ds xs->ds[i]? = some d->∃ x,xs[i]? = some x/\Is K H d x
 | [],_,_,_,_,e=>by simp at e
 | d::ds,xs,0,d',h,e=>by
  rw[IsL] at h
  obtain⟨x,r,rfl,hx,hr⟩:=h
  simp at e
  subst e
  exact⟨x,rfl,hx⟩
 | d::ds,xs,i+1,d',h,e=>by
  rw[IsL] at h
  obtain⟨x,r,rfl,hx,hr⟩:=h
  obtain⟨y,h1,h2⟩:=IsL.get hr (i:=i) (by simpa using e)
  exact⟨y,by simpa using h1,h2⟩
theorem IsL.get' {K:PySem.W.Frag}{H:Hp}{ds:List D}{xs:List V}{i:Nat}{x:V} (h:IsL K H ds xs) (e:xs[i]? = some x):∃ d,ds[i]? = some d/\Is K H d x:=by
 have hl:=h.length
 have hi:i < ds.length:=by rw[<- hl];exact (List.getElem?_eq_some_iff.mp e).1
 obtain⟨y,h1,h2⟩:=h.get (i:=i) (d:=ds[i]) (by simp [hi])
 rw[e] at h1
 cases h1
 exact⟨ds[i],by simp [hi],h2⟩
theorem IsL.snoc {K:PySem.W.Frag}{H:Hp}{d:D}{x:V} (hd:Is K H d x):∀ {ds:List D}{xs:List V},IsL K H ds xs->IsL K H (ds++[d]) (xs++[x])
 | [],xs,h=>by
  rw[IsL] at h
  subst h
  show IsL K H [d] [x]
  rw[IsL]
  exact⟨x,[],rfl,hd,by rw[IsL]⟩
 | d'::ds,xs,h=>by
  rw[IsL] at h
  obtain⟨y,r,rfl,hy,hr⟩:=h
  show IsL K H (d'::(ds++[d])) (y::(r++[x]))
  rw[IsL]
  exact⟨y,r++[x],rfl,hy,IsL.snoc hd hr⟩
theorem IsL.ints {K:PySem.W.Frag}{H:Hp}:∀ {ns:List Int}{xs:List V},IsL K H (ns.map D.int) xs->xs=ns.map V.int
 | [],xs,h=>by rw[List.map_nil,IsL] at h;exact h
 | n::ns,xs,h=>by
  rw[List.map_cons,IsL] at h
  obtain⟨x,r,rfl,hx,hr⟩:=h
  rw[Is] at hx
  rw[hx,IsL.ints hr,List.map_cons]
theorem IsL.of_ints {K:PySem.W.Frag}{H:Hp}:∀ (ns:List Int),IsL K H (ns.map D.int) (ns.map V.int)
 | []=>by rw[List.map_nil,List.map_nil,IsL]
 | n::ns=>by
  rw[List.map_cons,List.map_cons,IsL]
  exact⟨_,_,rfl,by rw[Is],IsL.of_ints ns⟩
theorem IsL.bools {K:PySem.W.Frag}{H:Hp}:∀ {ns:List Bool}{xs:List V},IsL K H (ns.map D.bl) xs->xs=ns.map V.bl
 | [],xs,h=>by rw[List.map_nil,IsL] at h;exact h
 | n::ns,xs,h=>by
  rw[List.map_cons,IsL] at h
  obtain⟨x,r,rfl,hx,hr⟩:=h
  rw[Is] at hx
  rw[hx,IsL.bools hr,List.map_cons]
theorem IsL.of_bools {K:PySem.W.Frag}{H:Hp}:∀ (ns:List Bool),IsL K H (ns.map D.bl) (ns.map V.bl)
 | []=>by rw[List.map_nil,List.map_nil,IsL]
 | n::ns=>by
  rw[List.map_cons,List.map_cons,IsL]
  exact⟨_,_,rfl,by rw[Is],IsL.of_bools ns⟩
mutual
noncomputable def D.depth:D->Nat
 | .tup ds=>eX ds+1
 | _=>0
noncomputable def eX:List D->Nat
 | []=>0
 | d::ds=>max d.depth (eX ds)
end
section
variable {X:Cx}{pins:List (Addr×Obj)}{σ:St}{H:Hp}{s:Shared}
end
section
variable {X:Cx}
noncomputable def HN:V->List V->Hp->VK->Prop:=λ x vs H Q=>∃ (l:Addr) (xs:List V) (y:V) (j:Nat),x=.ref l/\vs=[y]/\H l=some (.lst xs)/\gZ y=true/\xs.all gZ=true/\j < xs.length/\(∀ z,xs[j]? = some z->w4 z y=true)/\(∀ i z,i < j->xs[i]? = some z->w4 z y=false)/\Q (.int j) H
theorem D5:MtM X "list.index" HN:=by
 intro pins s σ H x vs v us Q I rx rv h
 obtain⟨l,xs,y,j,rfl,rfl,hH,fy,fx,hj,h1,h2,q⟩:=h
 cases rx
 obtain⟨u,rfl,ru⟩:=rv.one
 obtain⟨z,its,n,r,hl,e⟩:=I.lstM hH
 have key:∀ i (hi:i < its.length),∃ x,xs[i]? = some x/\bL x its[i]/\gZ x=true:=λ i hi=>by
  have hx:xs[i]? = some xs[i]:=by simp [show i < xs.length by omega]
  obtain⟨w',h1,h2⟩:=r.get hx
  have:its[i]? = some its[i]:=by simp [hi]
  rw[this] at h1
  cases h1
  exact⟨_,hx,h2,(List.all_eq_true.mp fx) _ (List.getElem_mem _)⟩
 refine call_meets F.slot_list_index ⟨_,e,rfl⟩ F.entry_list_index (F.args_list_index_2 _ _)
  (SeqAt.list_indexAt l its.toArray n none #[] u (zL y) j (by rw[List.size_toArray];omega) (by rw[sizeLine_eq] at z;omega) ?_ ?_) ⟨e,λ w' hw=>?_,⟨.int j,H,I.tok _,⟨_,rfl⟩,q⟩⟩
 ·obtain⟨x,hx,rx,fx'⟩:=key j (by omega)
  have:=qV (x:=y) rx fx'
  show zL y its[j]=true
  rw[this]
  exact h1 x hx
 ·intro i hi hlt
  have hi':i < its.length:=by simpa using hi
  obtain⟨x,hx,rx,fx'⟩:=key i hi'
  have:=qV (x:=y) rx fx'
  show zL y its[i]=false
  rw[this]
  exact h2 i x hlt hx
 ·exact jR ru fy r fx w' (by simpa using hw)
end
end L2
namespace L2
open PySem PySem.Spec PyProof.Rows TwZ
structure Callee (P:Program) (w:World) (K:PySem.W.Frag) (mg:Str->Option Value) (base:Heap) (x:Str) (ps:List Str) (k:Nat) (sp:Sp) (f:Addr) (fd:FuncData):Prop where
 ok:FnOk P w K mg base j3 k f fd ps sp
 mg:mg x=some (.ref f)
 kp:PySem.W.keepIn K (.ref f)=true
 bd:rC K fd ps []
theorem fG {X:Cx}{x:Str}{ps:List Str}{k n:Nat}{sp:Sp}{f:Addr}{fd:FuncData}{e:Expr}{es:List Expr}{t:TA}{p pos:Pos} (G:Callee X.prog X.w X.K X.mg X.base x ps k sp f fd) (hr:Room n X.A) (ha:PA X (e::es) t) (hg:Gl X x:=by rfl) (hle:k<=n:=by decide)
  (hdb:(x == ("__debug__" : Str))=false:=by decide) (he:starEach (e::es) X.env=(false,eval e X.env)::starEach es X.env:=by rfl) (hpl:(backTo pos (starEach es X.env)).any (·.1)=false:=by rfl) :
  PE X (.Call (.Name x p) (e::es) [] pos) (sE sp [] E0 t):=fW G.ok (hr.mono hle) hg G.mg G.kp G.bd .nil KA ha hdb he hpl
theorem wE:bootBuiltins "isinstance" = some (.builtin "isinstance"):=by decide +kernel
noncomputable def d8 (t:Addr) (H H':Hp):Prop:=∀ b o,b≠t->H b=some o->H' b=some o
theorem d8.refl {t:Addr} (H:Hp):d8 t H H:=λ _ _ _ h=>h
theorem d8.trans {t:Addr}{H H1 H2:Hp} (a:d8 t H H1) (b:d8 t H1 H2):d8 t H H2:=λ c o hc h=>b c o hc (a c o hc h)
theorem aH.but {t:Addr}{H H':Hp} (a:aH H H'):d8 t H H':=λ b o _ h=>a b o h
theorem d8.upd {t:Addr}{H:Hp}{o:HO}:d8 t H (upd H t o):=λ b u hb h=>by rw[aO hb];exact h
theorem d8.ts {K:PySem.W.Frag}{t:Addr}{H H':Hp} (a:d8 t H H') (hm:iY (H t)):bM K H H':=by
 intro b xs h
 have ne:∀ {o:HO},H b=some o->¬ iY (some o)->b≠t:=λ e n z=>by rw[<- z,e] at hm;exact n hm
 rcases h with (h | ⟨o,h⟩) | h
 ·exact .inl (.inl (a _ _ (ne h (λ z=>z)) h))
 ·exact .inl (.inr ⟨o,a _ _ (ne h (λ z=>z)) h⟩)
 ·exact .inr h
theorem d8.free {t l:Addr}{H H':Hp} (a:d8 t H H') (hl:l≠t) (h:H' l=none):H l=none:=by
 cases q:H l with
 | none=>rfl
 | some o=>rw[a l o hl q] at h;cases h
noncomputable def GF (K:PySem.W.Frag):V->V->Hp->VK->Prop:=λ o i H Q=>∃ (p:Addr) (xs:List V) (k:Int) (v:V),o=.ref p/\i=.int k/\bR K H p xs/\0<=k/\k < 2 ^ 63/\xs[k.toNat]? = some v/\Q v H
theorem DP {X:Cx}:IZ X (GF X.K):=by
 intro pins s σ H o i ov iv Q I ro ri h
 obtain⟨p,xs,k,v,rfl,rfl,hq,h0,h1,hx,q⟩:=h
 cases ro
 obtain⟨t,rfl⟩:=ri
 obtain⟨its,r,pl,hz⟩:=I.list hq
 obtain⟨w',ew,rw'⟩:=r.get hx
 exact wpAny_getItem_list pl.isList h0 h1 (by simpa using ew) ⟨v,H,I,rw',q⟩
theorem kJ {n:Nat}{k:Int} (h0:0<=k) (h1:k < n):DC n k=some k.toNat:=by
 unfold DC
 rw[if_pos h0,if_pos h1]
theorem kN {aq:Type}{xs:List aq}{k:Int}{v:aq} (h0:0<=k) (h:xs[k.toNat]? = some v):y6 xs k=some v:=by
 obtain⟨j,rfl⟩:=Int.eq_ofNat_of_zero_le h0
 exact dW (by simpa using h)
theorem Is.tupOf {K:PySem.W.Frag}{H:Hp}{ds:List D}{a:Addr}{xs:List V} (q:bO K H a xs) (l:IsL K H ds xs):Is K H (.tup ds) (.ref a):=by
 rw[Is];exact⟨a,xs,rfl,q,l⟩
theorem Is.un {K:PySem.W.Frag}{H:Hp}{ds:List D}{v:V} (h:Is K H (.tup ds) v):∃ a xs,v=.ref a/\bO K H a xs/\IsL K H ds xs:=by
 rw[Is] at h;exact h
theorem IsL.un {K:PySem.W.Frag}{H:Hp}{d:D}{ds:List D}{xs:List V} (h:IsL K H (d::ds) xs):∃ x r,xs=x::r/\Is K H d x/\IsL K H ds r:=by
 rw[IsL] at h;exact h
theorem IsL.un0 {K:PySem.W.Frag}{H:Hp}{xs:List V} (h:IsL K H [] xs):xs=[]:=by
 rw[IsL] at h;exact h
theorem IsL.cons {K:PySem.W.Frag}{H:Hp}{d:D}{ds:List D}{x:V}{xs:List V} (hd:Is K H d x) (h:IsL K H ds xs):IsL K H (d::ds) (x::xs):=by
 rw[IsL];exact⟨x,xs,rfl,hd,h⟩
theorem IsL.nil {K:PySem.W.Frag}{H:Hp}:IsL K H [] []:=by rw[IsL]
theorem Is.i {K:PySem.W.Frag}{H:Hp} (i:Int):Is K H (.int i) (.int i):=by rw[Is]
theorem Is.b {K:PySem.W.Frag}{H:Hp} (i:Bool):Is K H (.bl i) (.bl i):=by rw[Is]
theorem Is.s {K:PySem.W.Frag}{H:Hp} (i:Str):Is K H (.str i) (.str i):=by rw[Is]
theorem Is.n {K:PySem.W.Frag}{H:Hp}:Is K H .non .non:=by rw[Is]
theorem Is.ui {K:PySem.W.Frag}{H:Hp}{i:Int}{v:V} (h:Is K H (.int i) v):v=.int i:=by rw[Is] at h;exact h
theorem Is.ub {K:PySem.W.Frag}{H:Hp}{i:Bool}{v:V} (h:Is K H (.bl i) v):v=.bl i:=by rw[Is] at h;exact h
theorem Is.us {K:PySem.W.Frag}{H:Hp}{i:Str}{v:V} (h:Is K H (.str i) v):v=.str i:=by rw[Is] at h;exact h
theorem Is.u0 {K:PySem.W.Frag}{H:Hp}{v:V} (h:Is K H .non v):v=.non:=by rw[Is] at h;exact h
end L2
namespace Tw
open PySem L2
structure Vs where
 size:Int
 brim:Int
 outs:List (Option Int×Int)
 holds:Bool
 spill:Option Int
 acts:List (Str×Int)
noncomputable abbrev oE:=Int×Int×Bool
structure Net where
 vs:List Vs
 sps:List oE
noncomputable def BF:Option Int->D
 | none=>.non
 | some i=>.int i
noncomputable def iI:Option Int->V
 | none=>.non
 | some i=>.int i
noncomputable def outD (o:Option Int×Int):D:=.tup [BF o.1,.int o.2]
noncomputable def nR (a:Str×Int):D:=.tup [.str a.1,.int a.2]
noncomputable def nU (v:Vs):D:=.tup [.int v.size,.int v.brim,.tup (v.outs.map outD),.bl v.holds,BF v.spill,.tup (v.acts.map nR)]
noncomputable def wK (s:oE):D:=.tup [.int s.1,.int s.2.1,.bl s.2.2]
noncomputable def eF (n:Net):D:=.tup [.tup (n.vs.map nU),.tup (n.sps.map wK)]
noncomputable def A9 (held coming:List Int) (doors:List Bool):D:=.tup [.tup (held.map D.int),.tup (coming.map D.int),.tup (doors.map D.bl)]
theorem Is.tg {K:PySem.W.Frag}{H:Hp}{t:Option Int}{v:V} (h:Is K H (BF t) v):v=iI t:=by
 cases t with
 | none=>exact h.u0
 | some i=>exact h.ui
theorem Is.tgOf {K:PySem.W.Frag}{H:Hp} (t:Option Int):Is K H (BF t) (iI t):=by
 cases t with
 | none=>exact Is.n
 | some i=>exact Is.i i
structure OutOk (n:Nat) (o:Option Int×Int):Prop where
 tg:∀ t,o.1=some t->0<=t/\t < n
 lo:1<=o.2
 hi:o.2<=60
structure ActOk (m:Nat) (a:Str×Int):Prop where
 word:a.1 = "open" \/ a.1 = "shut" \/ a.1 = "turn"
 lo:0<=a.2
 hi:a.2 < m
structure VOk (n m:Nat) (v:Vs):Prop where
 size:1<=v.size
 ne:v.outs≠[]
 o3:v.outs.length<=3
 outs:∀ o∈v.outs,OutOk n o
 spill:∀ t,v.spill=some t->0<=t/\t < n
 a3:v.acts.length<=3
 acts:∀ a∈v.acts,ActOk m a
structure NetOk (net:Net):Prop where
 lo:1<=net.vs.length
 hi:net.vs.length<=12
 sp:net.sps.length<=12
 vs:∀ v∈net.vs,VOk net.vs.length net.sps.length v
 sps:∀ s∈net.sps,0<=s.1/\s.1 < net.vs.length
noncomputable def whole (outs:List (Option Int×Int)):Int:=(outs.map (·.2)).sum
theorem rW {n:Nat}:∀ {outs:List (Option Int×Int)},outs≠[]->(∀ o∈outs,OutOk n o)->1<=whole outs
 | [],h,_=>absurd rfl h
 | o::r,_,h=>by
  have h1:=(h o List.mem_cons_self).lo
  have h2:0<=whole r:=by
   clear h1
   have:∀ (r:List (Option Int×Int)),(∀ o∈r,OutOk n o)->0<=whole r:=by
    intro r
    induction r with
    | nil=>intro _;exact Int.le_refl _
    | cons o r ih=>
     intro h
     have h1:=(h o List.mem_cons_self).lo
     have h2:=ih λ o ho=>h o (List.mem_cons_of_mem _ ho)
     show 0<=o.2+whole r
     omega
   exact this r λ o ho=>h o (List.mem_cons_of_mem _ ho)
  show 1<=o.2+whole r
  omega
theorem oX {n:Nat}:∀ {outs:List (Option Int×Int)},(∀ o∈outs,OutOk n o)->whole outs<=60 * outs.length
 | [],_=>Int.le_refl _
 | o::r,h=>by
  have h1:=(h o List.mem_cons_self).hi
  have h2:=oX λ o ho=>h o (List.mem_cons_of_mem _ ho)
  show o.2+whole r<=_
  rw[List.length_cons]
  omega
noncomputable def bQ (k:Option Int):List (Option Int×Int)->Int
 | []=>0
 | g::r=>(if g.1=k then g.2 else 0)+bQ k r
theorem eZ (k:Option Int):∀ (a b:List (Option Int×Int)),bQ k (a++b)=bQ k a+bQ k b
 | [],b=>by simp [bQ]
 | g::r,b=>by
  show (if g.1=k then g.2 else 0)+bQ k (r++b)=(if g.1=k then g.2 else 0)+bQ k r+bQ k b
  rw[eZ k r b];omega
noncomputable def bI (v:Vs) (has:Int):Int:=min has v.brim
noncomputable def dX (v:Vs) (has:Int):Bool:=decide (v.size<=bI v has)
noncomputable def dA (v:Vs) (here:Int):List (Option Int×Int):=v.outs.map λ o=>(o.1,here / whole v.outs * o.2)
noncomputable def d6 (v:Vs) (has:Int):List (Option Int×Int):=
 (v.spill,has - bI v has)::(if dX v has=true then dA v (bI v has)++(if v.holds=true then [] else [(none,bI v has % whole v.outs)]) else [])
noncomputable def dD (v:Vs) (has:Int):Int:=if dX v has=true then (if v.holds=true then bI v has % whole v.outs else 0) else bI v has
theorem zZ {n m:Nat}{v:Vs} (ok:VOk n m v) (has:Int):(d6 v has).length<=5:=by
 unfold d6 dA
 have:=ok.o3
 split
 ·split <;> simp <;> omega
 ·simp
noncomputable def eP (has:List Int) (s:oE) (d:Bool):List Int:=if d=true then has.set s.1.toNat (has.getD s.1.toNat 0+s.2.1) else has
noncomputable def cE:List Int->List oE->List Bool->List Int
 | has,s::ss,d::ds=>cE (eP has s d) ss ds
 | has,_,_=>has
noncomputable def eR:List Int->List Int->List Int->List Int
 | a::as,b::bs,c::cs=>(a+b+c)::eR as bs cs
 | _,_,_=>[]
noncomputable def aL (net:Net) (held coming poured:List Int) (doors:List Bool):List Int:=cE (eR held coming poured) net.sps doors
noncomputable def bF:List Vs->List Int->List (Option Int×Int)
 | v::vs,h::hs=>d6 v h++bF vs hs
 | _,_=>[]
noncomputable def bW:List Vs->List Int->List Int
 | v::vs,h::hs=>dD v h::bW vs hs
 | _,_=>[]
noncomputable def aT:Nat->List Vs->List Int->List Nat
 | i,v::vs,h::hs=>if dX v h=true then i::aT (i+1) vs hs else aT (i+1) vs hs
 | _,_,_=>[]
noncomputable def iT (doors:List Bool) (a:Str×Int):List Bool:=doors.set a.2.toNat (if a.1 = "open" then true else if a.1 = "turn" then !(doors.getD a.2.toNat false) else false)
noncomputable def cR (doors:List Bool) (as:List (Str×Int)):List Bool:=as.foldl iT doors
noncomputable def bE (vs:List Vs) (doors:List Bool) (tip:List Nat):List Bool:=tip.foldl (λ ds i=>match vs[i]? with | some v=>cR ds v.acts | none=>ds) doors
noncomputable def cC (n:Nat) (goes:List (Option Int×Int)):List Int:=(List.range n).map λ (k:Nat)=>bQ (some (k:Int)) goes
structure Tick where
 held:List Int
 coming:List Int
 doors:List Bool
 tip:List Nat
 ground:Int
noncomputable def bV (net:Net) (held coming poured:List Int) (doors:List Bool):Tick:=
 let hs:=aL net held coming poured doors
 ⟨bW net.vs hs,cC net.vs.length (bF net.vs hs),bE net.vs doors (aT 0 net.vs hs),aT 0 net.vs hs,bQ none (bF net.vs hs)⟩
end Tw
namespace L2
open PySem PySem.Spec PyProof.Rows TwZ
section
variable {K:PySem.W.Frag}{g:TG}{tc:TT}{te:TE}{fr:List (Option Nat)}{σ:St}{H1:Hp}{Q:Addr->Hp->Prop}
theorem hV {a:Addr}{xs:List V} (Pv:Addr->Nat->List V->St->Hp->Prop) (hq:∀ D i ys σ H,Pv D i ys σ H->bO K H a xs)
  (h0:∀ D,H1 D=none->Pv D 0 [] (qT fr σ) (upd H1 D (.lst []))) (hstop:∀ D ys Z H',Pv D xs.length ys Z H'->Q D H')
  (hgo:∀ D i x ys Z H',xs[i]? = some x->Pv D i ys Z H'->g x Z H' λ ai H3=>tc ai H3 λ b H4=>
    if b=true then te ai H4 λ y H5=>H5 D=some (.lst ys)/\ys.length < sizeLine/\Pv D (i+1) (ys++[y]) ai (upd H5 D (.lst (ys++[y])))
    else Pv D (i+1) ys ai H4):hW (J9 K a) g tc te fr σ H1 Q:=by
 refine nI (n:=xs.length) Pv h0 (λ D ys Z H' p=>⟨⟨xs,hq D _ ys Z H' p,Nat.le_refl _⟩,hstop D ys Z H' p⟩) λ D i ys Z H' hi p=>⟨⟨xs,xs[i],hq D _ ys Z H' p,by simp [hi]⟩,λ x H2 y=>?_⟩
 obtain⟨e,y⟩:=y
 subst e
 exact hgo D i x ys Z _ (y xs (hq D _ ys Z _ p)) p
theorem gG {a:Addr}{xs:List V} (Pv:Addr->Nat->List V->St->Hp->Prop) (hq:∀ D i ys σ H,Pv D i ys σ H->bR K H a xs)
  (h0:∀ D,H1 D=none->Pv D 0 [] (qT fr σ) (upd H1 D (.lst []))) (hstop:∀ D ys Z H',Pv D xs.length ys Z H'->Q D H')
  (hgo:∀ D i x ys Z H',xs[i]? = some x->Pv D i ys Z H'->g x Z H' λ ai H3=>tc ai H3 λ b H4=>
    if b=true then te ai H4 λ y H5=>H5 D=some (.lst ys)/\ys.length < sizeLine/\Pv D (i+1) (ys++[y]) ai (upd H5 D (.lst (ys++[y])))
    else Pv D (i+1) ys ai H4):hW (JA K a) g tc te fr σ H1 Q:=by
 refine nI (n:=xs.length) Pv h0 (λ D ys Z H' p=>⟨⟨xs,hq D _ ys Z H' p,Nat.le_refl _⟩,hstop D ys Z H' p⟩) λ D i ys Z H' hi p=>⟨⟨xs,xs[i],hq D _ ys Z H' p,by simp [hi]⟩,λ x H2 y=>?_⟩
 obtain⟨e,y⟩:=y
 subst e
 exact hgo D i x ys Z _ (y xs (hq D _ ys Z _ p)) p
theorem gK {n:Nat} (Pv:Addr->Nat->List V->St->Hp->Prop)
  (h0:∀ D,H1 D=none->Pv D 0 [] (qT fr σ) (upd H1 D (.lst []))) (hstop:∀ D ys Z H',Pv D n ys Z H'->Q D H')
  (hgo:∀ D i ys Z H',i < n->Pv D i ys Z H'->g (.int (i:Int)) Z H' λ ai H3=>tc ai H3 λ b H4=>
    if b=true then te ai H4 λ y H5=>H5 D=some (.lst ys)/\ys.length < sizeLine/\Pv D (i+1) (ys++[y]) ai (upd H5 D (.lst (ys++[y])))
    else Pv D (i+1) ys ai H4):hW (G7 0 n) g tc te fr σ H1 Q:=by
 refine nI (n:=n) Pv h0 (λ D ys Z H' p=>⟨Nat.le_refl _,hstop D ys Z H' p⟩) λ D i ys Z H' hi p=>⟨hi,λ x H2 y=>?_⟩
 obtain⟨e,y⟩:=y
 subst e y
 rw[Int.zero_add]
 exact hgo D i ys Z _ hi p
theorem FQ {t1 t2 t3:Bool}{a1 a2 a3:Addr}{xs ys zs:List V}{n:Nat} (h1:xs.length=n) (h2:ys.length=n) (h3:zs.length=n) (Pv:Addr->Nat->List V->St->Hp->Prop)
  (hq:∀ D i r σ H,Pv D i r σ H->j7 K H t1 a1 xs/\j7 K H t2 a2 ys/\j7 K H t3 a3 zs)
  (h0:∀ D,H1 D=none->Pv D 0 [] (qT fr σ) (upd H1 D (.lst []))) (hstop:∀ D r Z H',Pv D n r Z H'->Q D H')
  (hgo:∀ D i x y z r Z H' T,xs[i]? = some x->ys[i]? = some y->zs[i]? = some z->Pv D i r Z H'->H' T=none->g (.ref T) Z (upd H' T (.tup [x,y,z])) λ ai H3=>tc ai H3 λ b H4=>
    if b=true then te ai H4 λ y H5=>H5 D=some (.lst r)/\r.length < sizeLine/\Pv D (i+1) (r++[y]) ai (upd H5 D (.lst (r++[y])))
    else Pv D (i+1) r ai H4):hW (J1 K t1 t2 t3 a1 a2 a3) g tc te fr σ H1 Q:=by
 refine nI (n:=n) Pv h0 (λ D r Z H' p=>?_) λ D i r Z H' hi p=>?_
 ·obtain⟨q1,q2,q3⟩:=hq D _ r Z H' p
  exact⟨⟨xs,ys,zs,q1,q2,q3,.inl (by omega)⟩,hstop D r Z H' p⟩
 ·obtain⟨q1,q2,q3⟩:=hq D _ r Z H' p
  refine⟨⟨xs,ys,zs,xs[i]'(by omega),ys[i]'(by omega),zs[i]'(by omega),q1,q2,q3,by simp,by simp,by simp⟩,?_⟩
  rintro v H2 ⟨T,x,y,z,hT,rfl,e1,e2,e3,rfl⟩
  exact hgo D i x y z r Z H' T (e1 xs q1) (e2 ys q2) (e3 zs q3) p hT
end
section
variable {K:PySem.W.Frag}{g:TG}{tb:TS}{D:Ends}{σ:St}{H:Hp}
noncomputable abbrev zW (J:It) (g:TG) (tb:TS) (D:Ends) (σ:St) (H:Hp):Prop:=
 ∃ W:Nat->Nat->St->Hp->Prop,(∃ m,W 0 m σ H)/\∀ i m σ H,W i m σ H->
   (J.stop i H/\D.nx σ H)\/(J.go i H/\∃ N:St->Hp->Prop,(∀ Z H',N Z H'->∃ m',m' < m/\W (i+1) m' Z H')/\∀ x H',J.yld i H x H'->g x σ H' λ ba H2=>tb { D with nx:=N,ct:=N,bk:=D.nx } ba H2)
theorem DR {t1 t2:Bool}{a1 a2:Addr}{xs ys:List V}{n:Nat} (h1:xs.length=n) (h2:ys.length=n) (Pv:Nat->St->Hp->Prop) (hq:∀ i σ H,Pv i σ H->j7 K H t1 a1 xs/\j7 K H t2 a2 ys)
  (h0:Pv 0 σ H) (hstop:∀ σ H,Pv n σ H->D.nx σ H)
  (hgo:∀ i x y σ H T,xs[i]? = some x->ys[i]? = some y->Pv i σ H->H T=none->g (.ref T) σ (upd H T (.tup [x,y])) λ ba H2=>tb { D with nx:=Pv (i+1),ct:=Pv (i+1),bk:=D.nx } ba H2):zW (G6 K t1 t2 a1 a2) g tb D σ H:=by
 refine uL (n:=n) Pv h0 (λ σ H p=>?_) λ i σ H hi p=>?_
 ·obtain⟨q1,q2⟩:=hq _ σ H p
  exact⟨⟨xs,ys,q1,q2,.inl (by omega)⟩,hstop σ H p⟩
 ·obtain⟨q1,q2⟩:=hq _ σ H p
  refine⟨⟨xs,ys,xs[i]'(by omega),ys[i]'(by omega),q1,q2,by simp,by simp⟩,?_⟩
  rintro v H2 ⟨T,x,y,hT,rfl,e1,e2,rfl⟩
  exact hgo i x y σ H T (e1 xs q1) (e2 ys q2) p hT
theorem DT {t:Bool}{a:Addr}{xs:List V} (Pv:Nat->St->Hp->Prop) (hq:∀ i σ H,Pv i σ H->j7 K H t a xs)
  (h0:Pv 0 σ H) (hstop:∀ σ H,Pv xs.length σ H->D.nx σ H)
  (hgo:∀ i x σ H T,xs[i]? = some x->Pv i σ H->H T=none->g (.ref T) σ (upd H T (.tup [.int (i:Int),x])) λ ba H2=>tb { D with nx:=Pv (i+1),ct:=Pv (i+1),bk:=D.nx } ba H2):zW (Ite K t a) g tb D σ H:=by
 refine uL (n:=xs.length) Pv h0 (λ σ H p=>?_) λ i σ H hi p=>?_
 ·exact⟨⟨xs,hq _ σ H p,Nat.le_refl _⟩,hstop σ H p⟩
 ·refine⟨⟨xs,xs[i],hq _ σ H p,by simp [hi]⟩,?_⟩
  rintro v H2 ⟨T,x,hT,rfl,e1,rfl⟩
  exact hgo i x σ H T (e1 xs (hq _ σ H p)) p hT
end
theorem hR {σ:St}{H:Hp}{A B:Hp->Prop} (h:A H):EJ σ H λ b H4=>if b=true then A H4 else B H4:=by
 show if true=true then A H else B H
 rw[if_pos rfl];exact h
theorem cT {i:Nat}{v:V}{σ:St}{H:Hp}{A B:St->Hp->Prop} (h:A (σ.set i (some v)) H):fX i v σ H λ ai H3=>EJ ai H3 λ b H4=>if b=true then A ai H4 else B ai H4:=hR (σ:=σ.set i (some v)) (A:=A (σ.set i (some v))) (B:=B (σ.set i (some v))) h
theorem aH.put {H H':Hp}{p:Addr}{o:HO} (a:aH H H') (h:H p=none):aH H (upd H' p o):=λ b u e=>by rw[aO (aN e h)];exact a b u e
theorem bM.put {K:PySem.W.Frag}{H H':Hp}{p:Addr}{o:HO} (a:bM K H H') (h:H' p=none\/iY (H' p)):bM K H (upd H' p o):=a.trans (by
 rcases h with h | h
 ·exact (aH.new h).ts
 ·exact d8.ts d8.upd h)
noncomputable def GV (i j:Int):Prop:=0 < j/\j < 2 ^ 200
theorem CZ {X:Cx}:iU X (binaryOp .FloorDiv) (rI GV λ i j=>.int (i / j)):=KC λ i j _ _ _ _ _ hc q=>by
 have h1:(0:Int) < j:=hc.1
 have h2:j < 2 ^ 200:=hc.2
 refine floordiv_int (by omega) (by rw[Int.fdiv_eq_ediv_of_nonneg i (by omega)];exact q) (.inl (PyProof.noPylong_of_log2 ?_))
 have h0:j.natAbs≠0:=by omega
 have h3:j.natAbs < 2 ^ 200:=by omega
 have:=(Nat.log2_lt h0).mpr h3
 omega
theorem nQ:bootBuiltins "int" = some (.type "int"):=by decide +kernel
theorem cB:bootBuiltins "tuple" = some (.type "tuple"):=by decide +kernel
theorem uR:bootBuiltins "list" = some (.type "list"):=by decide +kernel
theorem G3:bootBuiltins "bool" = some (.type "bool"):=by decide +kernel
section
variable {X:Cx}{K:PySem.W.Frag}{tg:Expr}{pos:Pos}
theorem bB {es:List Expr}{k:Nat}{t:GU}{n:Nat} (hK:X.K=K) (hc:X.calm=true) (h:KU X es t)
  (hn:(assignEach es X.env).length=n:=by rfl) (hst:(assignEach es X.env).findIdx? (·.1)=none:=by rfl):PG X (.Tuple es k pos) (KM K n t):=by
 subst hK;exact HS hc h hn hst
theorem aJ (hK:X.K=K):BH X (x9 K):=by subst hK;exact IK
noncomputable def JR (K:PySem.W.Frag):List V->Hp->VK->Prop:=λ xs H Q=>∃ p ys,xs=[.ref p]/\(bR K H p ys\/bO K H p ys)/\Q (.int ys.length) H
theorem bN (hK:X.K=K):g7 X (.builtin "len") (JR K):=by subst hK;exact uQ
theorem cU (hK:X.K=K) (hc:X.calm=true):g7 X (.builtin "sum") (JN K):=by subst hK;exact B6 hc
theorem tG (hK:X.K=K):g7 X (.builtin "isinstance") (JW K):=by subst hK;exact E7
noncomputable def HL (K:PySem.W.Frag):List V->Hp->VK->Prop:=λ xs H Q=>∃ p ys,xs=[.ref p]/\((bR K H p ys/\∀ l,H l=none->Q (.ref l) (upd H l (.tup ys)))\/(bO K H p ys/\Q (.ref p) H))
theorem bU (hK:X.K=K):g7 X (.type "tuple") (HL K):=by subst hK;exact rS
noncomputable def HM (K:PySem.W.Frag):List V->Hp->VK->Prop:=λ xs H Q=>∃ p ys,xs=[.ref p]/\(bR K H p ys\/bO K H p ys)/\∀ l,H l=none->Q (.ref l) (upd H l (.lst ys))
theorem nP (hK:X.K=K):g7 X (.type "list") (HM K):=by subst hK;exact uP
theorem dZ {l:Expr}{tl:TE} (hK:X.K=K) (hl:PE X l tl):PI X tg l (GP K tl):=by subst hK;exact FD hl
theorem eT {l:Expr}{tl:TE} (hK:X.K=K) (hl:PE X l tl):PI X tg l (KI K tl):=by subst hK;exact HR hl
theorem CS {a:Expr}{ta:TA}{p:Pos} (hK:X.K=K) (hg:Gl X "enumerate") (hm:X.mg "enumerate" = none) (ha:PA X [a] ta) (hs:starEach [a] X.env=[(false,eval a X.env)]:=by rfl):PI X tg (.Call (.Name "enumerate" p) [a] [] pos) (GQ K ta):=by
 subst hK;exact FE hg hm ha hs
theorem vI {a b:Expr}{ta:TA}{p:Pos} (hK:X.K=K) (hg:Gl X "zip") (hm:X.mg "zip" = none) (ha:PA X [a,b] ta) (hs:starEach [a,b] X.env=[(false,eval a X.env),(false,eval b X.env)]:=by rfl) (hs2:starEach [b] X.env=[(false,eval b X.env)]:=by rfl) :
  PI X tg (.Call (.Name "zip" p) [a,b] [] pos) (GO K ta):=by subst hK;exact FC hg hm ha hs hs2
theorem CQ {a b c:Expr}{ta:TA}{p:Pos} (hK:X.K=K) (hg:Gl X "zip") (hm:X.mg "zip" = none) (ha:PA X [a,b,c] ta) (hs:starEach [a,b,c] X.env=[(false,eval a X.env),(false,eval b X.env),(false,eval c X.env)]:=by rfl)
  (hs2:starEach [b,c] X.env=[(false,eval b X.env),(false,eval c X.env)]:=by rfl):PI X tg (.Call (.Name "zip" p) [a,b,c] [] pos) (GN K ta):=by subst hK;exact FA hg hm ha hs hs2
theorem qG (hK:X.K=K):iU X (binaryOp .Mult) (GE K):=by subst hK;exact yS
theorem AU (hK:X.K=K):IZ X (GF K):=by subst hK;exact DP
theorem gD {o e:Expr}{es:List Expr}{to:TE}{t:TA}{name:Str}{apos cpos:Pos}{T id:String}{r:V->List V->Hp->VK->Prop} (hK:X.K=K)
  (pa:PlainAttrs T) (slot:Slot T name id) (hty:typeOf (.builtin id)=pure (.type "method_descriptor")) (hm:MtR X id r) (ho:PE X o to) (ha:PA X (e::es) t)
  (hbase:attributeBase o name X.env (eval o X.env)=eval o X.env:=by rfl)
  (hfew:((backTo cpos (starEach (e::es) X.env)).all (λ x=>!x.1) && (backToKw cpos (keywordEach [] X.env)).all (λ x=>x.1.isSome)
   && decide ((e::es).length+([]:List Keyword).length+(if ([]:List Keyword).isEmpty then 0 else 1) < 30))=true:=by rfl)
  (hline:(apos.endLine == cpos.line)=true:=by rfl) (hs:starEach (e::es) X.env=(false,eval e X.env)::starEach es X.env:=by rfl) (hplain:(backTo cpos (starEach es X.env)).any (·.1)=false:=by rfl) :
  PE X (.Call (.Attribute o name apos) (e::es) [] cpos) (tBM K T r to t):=by subst hK;exact K0 pa slot hty hm ho ha hbase hfew hline hs hplain
end
end L2
namespace L2
open PySem PySem.Spec PyProof.Rows TwZ
noncomputable def JB (a:Addr) (o:Obj) (kvs:List (eU×V)):It where
 go:=λ i H=>H a=some (.frz o (.dK kvs))/\i < kvs.length
 yld:=λ i H x H'=>H=H'/\∃ k v,kvs[i]? = some (k,v)/\x=kV k
 stop:=λ i H=>H a=some (.frz o (.dK kvs))/\kvs.length<=i
theorem EU {k:eU}{u:Value}{P:Program}{w:World} (h:(cZ P w).is k u=true):bL (kV k) u:=by
 rcases cQ h with ⟨i,t,rfl,rfl⟩ | ⟨x,t,rfl,rfl⟩ | ⟨rfl,rfl⟩
 ·exact⟨t,rfl⟩
 ·exact⟨t,rfl⟩
 ·exact rfl
theorem tD {P:Program}{w:World}{H:Hp}{h:Heap}{a:Addr}{o:Obj}{kvs:List (eU×V)}{es:Array DictEntry}{ep:Nat} (ok:lK P w H h) (e:H a=some (.frz o (.dK kvs))) (hd:o.data=.dict es ep) :
  ∃ vs,KV kvs vs/\h.DictAt (cZ P w) a vs ep:=by
 obtain⟨g,_,_,vs,rel,o',es',ep',h1,h2,h3,h4,h5,h6⟩:=(show d4 P w H h a (.frz o (.dK kvs)) from ok a _ e)
 rw[g] at h1
 cases h1
 rw[hd] at h3
 cases h3
 exact⟨vs,rel,o,es,g,h2,hd,h4,h5,h6⟩
theorem KV.len {kvs:List (eU×V)}{vs:List (eU×Value)} (r:KV kvs vs):kvs.length=vs.length:=Paired.length r
theorem KV.at {kvs:List (eU×V)}{vs:List (eU×Value)} (r:KV kvs vs):∀ {i:Nat}{k:eU}{v:V},kvs[i]? = some (k,v)->∃ u,vs[i]? = some (k,u):=by
 induction r with
 | nil=>intro i k v h;simp at h
 | @cons p q ps qs hq t ih=>
  intro i k v h
  cases i with
  | zero=>
   have:p=(k,v):=by simpa using h
   subst this
   exact⟨q.2,by rw[List.getElem?_cons_zero];exact congrArg some (Prod.ext hq.1.symm rfl)⟩
  | succ i=>exact ih (by simpa using h)
theorem A5 {P:Program}{w:World}{K:PySem.W.Frag}{tg:Expr} (a it:Addr) (o:Obj) (kvs:List (eU×V)) {es:Array DictEntry}{ep:Nat} (hd:o.data=.dict es ep):Turn P w K tg (JB a o kvs) [it] it (λ i h=>h.IsKeyIter it a i kvs.length ep) where
 mem:=by simp
 obj:=λ i h st b hb=>by
  have e:b=it:=by simpa using hb
  subst e
  obtain⟨o,e,c,d⟩:=st
  exact⟨o,e,λ v z=>by rw[d] at z;cases z⟩
 keep:=λ i h h' st k=>st.at λ o e=>k it (by simp) o e
 item:=by
  intro X hP hw hK hc i pins s σ H E I hf st hg
  subst hP hw hK
  obtain⟨e,hi⟩:=hg
  obtain⟨vs,rel,da⟩:=tD I.hok e hd
  have hl:=rel.len
  have hki:kvs[i]? = some (kvs[i].1,kvs[i].2):=by simp [hi]
  obtain⟨u,hu⟩:=rel.at hki
  obtain⟨f0,f1,f2,f3,f4,f5⟩:=hf it (by simp)
  rw[hl] at st
  refine wpAny_pyNext_dict_item st da hu λ key h' hk st' sb=>?_
  have I1:Inv X pins σ H { s with heap:=h' }:=I.turned (t':=s.toks) (λ b o hb e=>(sb.2 b hb).trans e) f0 f1 f3 f4 f5
  obtain⟨o,e,c,d⟩:=id st'
  rw[<- hl] at st'
  exact⟨key,rfl,zG (s:={ s with heap:=h' }) e c d (by decide) ⟨_,H,I1,EU hk,⟨rfl,_,_,hki,rfl⟩,st',λ b hb=>(hf b hb).1⟩⟩
 done:=by
  intro X hP hw hK hc i pins s σ H E I hf st hg
  subst hP hw hK
  obtain⟨e,hi⟩:=hg
  obtain⟨vs,rel,da⟩:=tD I.hok e hd
  have hl:=rel.len
  obtain⟨f0,f1,f2,f3,f4,f5⟩:=hf it (by simp)
  rw[hl] at st
  exact wpAny_pyNext_dict_end (I.ok.hd hc) st da (by simp;omega) λ h' eb=>⟨rfl,I.turned (t':=s.toks) (λ b o hb e=>eb b o hb e) f0 f1 f3 f4 f5⟩
 self:=λ _ _ _ _ _ st h=>wpAny_pyIter_keyiter st h
section
variable {X:Cx}{tg:Expr}
noncomputable def KK (tl:TE):TI:=λ σ H R=>tl σ H λ x H1=>∃ a kvs,x=.ref a/\H1 a=some (.dK kvs)/\∀ o,R (JB a o kvs) (upd H1 a (.frz o (.dK kvs)))
theorem yN {l:Expr}{tl:TE} (hl:PE X l tl):PI X tg l (KK tl):=by
 intro pins s σ H R I h
 refine cX (hl pins s σ H _ I h) λ v s1 ⟨x,H1,I1,r1,q1⟩=>?_
 obtain⟨a,kvs,e,ha,q⟩:=q1
 subst e
 cases r1
 obtain⟨z,hs,vs,rel,o,es,ep,g1,g2,g3,g4,g5,g6⟩:=zM I1.hok ha
 have I2:Inv X pins σ (upd H1 a (.frz o (.dK kvs))) { s1 with heap:=s1.heap,toks:=s1.toks }:=
  n8 I1 (by rw[ha];exact True.intro) (Heap.SameBut.refl _ _) ⟨o,g1⟩ ⟨g1,z,hs,vs,rel,o,es,ep,g1,g2,g3,g4,g5,g6⟩
 have hl:=rel.len
 refine wpAny_pyIter_dict (knd:=cZ X.prog X.w) (kvs:=vs) (ep:=ep) hs ⟨o,es,g1,g2,g3,g4,g5,g6⟩ ?_
 refine⟨s1.heap.objs.size,[s1.heap.objs.size],_,_,_,rfl,I2.kept (t':=s1.toks) λ b o e=>Heap.get?_push_of_some _ e,A5 a _ o kvs g3,⟨_,Heap.get?_push_size _ rfl,rfl,by rw[hl];rfl⟩,λ b hb=>?_,q o⟩
 have e:b=s1.heap.objs.size:=by simpa using hb
 subst e
 exact I2.fpOk (Nat.le_refl _) (I2.hok.fresh (Nat.le_refl _))
end
theorem DU {a:Addr}{o:Obj}{kvs:List (eU×V)}{g:TG}{tb:TS}{D:Ends}{σ:St}{H:Hp} (Pv:Nat->St->Hp->Prop) (hq:∀ i σ H,Pv i σ H->H a=some (.frz o (.dK kvs)))
  (h0:Pv 0 σ H) (hstop:∀ σ H,Pv kvs.length σ H->D.nx σ H)
  (hgo:∀ i k v σ H,kvs[i]? = some (k,v)->Pv i σ H->g (kV k) σ H λ ba H2=>tb { D with nx:=Pv (i+1),ct:=Pv (i+1),bk:=D.nx } ba H2) :
  ∃ W:Nat->Nat->St->Hp->Prop,(∃ m,W 0 m σ H)/\∀ i m σ H,W i m σ H->
   ((JB a o kvs).stop i H/\D.nx σ H)\/((JB a o kvs).go i H/\∃ N:St->Hp->Prop,(∀ Z H',N Z H'->∃ m',m' < m/\W (i+1) m' Z H')/\∀ x H',(JB a o kvs).yld i H x H'->g x σ H' λ ba H2=>tb { D with nx:=N,ct:=N,bk:=D.nx } ba H2):=by
 refine uL (n:=kvs.length) Pv h0 (λ σ H p=>⟨⟨hq _ σ H p,Nat.le_refl _⟩,hstop σ H p⟩) λ i σ H hi p=>⟨⟨hq _ σ H p,hi⟩,?_⟩
 rintro x H' ⟨rfl,k,v,e,rfl⟩
 exact hgo i k v σ H e p
theorem FS {a:Addr}{o:Obj}{kvs:List (eU×V)}{g:TG}{tc:TT}{te:TE}{fr:List (Option Nat)}{σ:St}{H1:Hp}{Q:Addr->Hp->Prop} (Pv:Addr->Nat->List V->St->Hp->Prop) (hq:∀ D i ys σ H,Pv D i ys σ H->H a=some (.frz o (.dK kvs)))
  (h0:∀ D,H1 D=none->Pv D 0 [] (qT fr σ) (upd H1 D (.lst []))) (hstop:∀ D ys Z H',Pv D kvs.length ys Z H'->Q D H')
  (hgo:∀ D i k v ys Z H',kvs[i]? = some (k,v)->Pv D i ys Z H'->g (kV k) Z H' λ ai H3=>tc ai H3 λ b H4=>
    if b=true then te ai H4 λ y H5=>H5 D=some (.lst ys)/\ys.length < sizeLine/\Pv D (i+1) (ys++[y]) ai (upd H5 D (.lst (ys++[y])))
    else Pv D (i+1) ys ai H4):hW (JB a o kvs) g tc te fr σ H1 Q:=by
 refine nI (n:=kvs.length) Pv h0 (λ D ys Z H' p=>⟨⟨hq D _ ys Z H' p,Nat.le_refl _⟩,hstop D ys Z H' p⟩) λ D i ys Z H' hi p=>⟨⟨hq D _ ys Z H' p,hi⟩,?_⟩
 rintro x H2 ⟨rfl,k,v,e,rfl⟩
 exact hgo D i k v ys Z H' e p
noncomputable def qY (J:It) (g:TG) (tc:TT) (tk tv:TE) (fr:List (Option Nat)) (σ:St) (H1:Hp) (Q:Addr->Hp->Prop):Prop:=
 ∀ D,H1 D=none->∃ W:Nat->Nat->St->Hp->Prop,(∃ m,W 0 m (qT fr σ) (upd H1 D (.dK [])))/\
  ∀ i m Z H',W i m Z H'->(J.stop i H'/\Q D H')\/
   (J.go i H'/\∃ N:St->Hp->Prop,(∀ bw H'',N bw H''->∃ m',m' < m/\W (i+1) m' bw H'')/\
    ∀ x H2,J.yld i H' x H2->g x Z H2 λ ai H3=>tc ai H3 λ b H4=>
    if b=true then tk ai H4 λ y H5=>tv ai H5 λ z H6=>∃ kvs k,y=kV k/\H6 D=some (.dK kvs)/\kvs.length < sizeLine/\N ai (upd H6 D (.dK (fN kvs k z)))
    else N ai H4)
theorem IP {J:It}{n:Nat}{g:TG}{tc:TT}{tk tv:TE}{fr:List (Option Nat)}{σ:St}{H1:Hp}{Q:Addr->Hp->Prop} (Pv:Addr->Nat->St->Hp->Prop)
  (h0:∀ D,H1 D=none->Pv D 0 (qT fr σ) (upd H1 D (.dK [])))
  (hstop:∀ D Z H',Pv D n Z H'->J.stop n H'/\Q D H')
  (hgo:∀ D i Z H',i < n->Pv D i Z H'->J.go i H'/\∀ x H2,J.yld i H' x H2->g x Z H2 λ ai H3=>tc ai H3 λ b H4=>
    if b=true then tk ai H4 λ y H5=>tv ai H5 λ z H6=>∃ kvs k,y=kV k/\H6 D=some (.dK kvs)/\kvs.length < sizeLine/\Pv D (i+1) ai (upd H6 D (.dK (fN kvs k z)))
    else Pv D (i+1) ai H4):qY J g tc tk tv fr σ H1 Q:=by
 intro D hD
 refine⟨λ i m σ H=>m=n - i/\i<=n/\Pv D i σ H,⟨n,by simp,Nat.zero_le _,h0 D hD⟩,?_⟩
 rintro i m Z H' ⟨rfl,hi,p⟩
 by_cases hlt:i < n
 ·obtain⟨go,step⟩:=hgo D i Z H' hlt p
  exact .inr ⟨go,Pv D (i+1),λ bw H'' p'=>⟨n - (i+1),by omega,rfl,hlt,p'⟩,step⟩
 ·have e:i=n:=by omega
  subst e
  exact .inl (hstop D Z H' p)
theorem E2 {n:Nat}{g:TG}{tc:TT}{tk tv:TE}{fr:List (Option Nat)}{σ:St}{H1:Hp}{Q:Addr->Hp->Prop} (Pv:Addr->Nat->St->Hp->Prop)
  (h0:∀ D,H1 D=none->Pv D 0 (qT fr σ) (upd H1 D (.dK []))) (hstop:∀ D Z H',Pv D n Z H'->Q D H')
  (hgo:∀ D i Z H',i < n->Pv D i Z H'->g (.int (i:Int)) Z H' λ ai H3=>tc ai H3 λ b H4=>
    if b=true then tk ai H4 λ y H5=>tv ai H5 λ z H6=>∃ kvs k,y=kV k/\H6 D=some (.dK kvs)/\kvs.length < sizeLine/\Pv D (i+1) ai (upd H6 D (.dK (fN kvs k z)))
    else Pv D (i+1) ai H4):qY (G7 0 n) g tc tk tv fr σ H1 Q:=by
 refine IP (n:=n) Pv h0 (λ D Z H' p=>⟨Nat.le_refl _,hstop D Z H' p⟩) λ D i Z H' hi p=>⟨hi,λ x H2 y=>?_⟩
 obtain⟨e,y⟩:=y
 subst e y
 rw[Int.zero_add]
 exact hgo D i Z _ hi p
noncomputable def tDC (wi:TI) (fr:List (Option Nat)) (g:TG) (tc:TT) (tk tv:TE):TE:=λ σ H Q=>wi σ H λ J H1=>qY J g tc tk tv fr σ H1 λ D H'=>Q (.ref D) H'
section
variable {prog:Program}{w:World}{A:Around}{R:Result->Shared->Prop}{s:Shared}
theorem rR {kx vx target iter:Expr}{ifs:List Expr}{scope:Scope}{pos:Pos}{it:Value}{D:Addr}{env:Env} (I:Nat->Shared->Prop)
  (turn:∀ n s,I n s->wpAny (model prog w) A (pyNext it) (λ r ag=>match r with
   | none=>R (.ok .next) ag
   | some v=>wpAny (model prog w) A (letOwnedTupleGo target it v) (λ _ cn=>wpAny (model prog w) A (assign target env v) (λ _ bj=>
     wpAny (model prog w) A (forIn ifs true λ c r=>if r=true then do let ok <- isTrue c env (eval c env);pure (ForInStep.yield ok) else pure (ForInStep.yield r)) (λ ok bg=>
      if ok=true then wpAny (model prog w) A (eval kx env) (λ kv bx=>wpAny (model prog w) A (eval vx env) (λ vv cv=>
       wpAny (model prog w) A (dictSet D kv vv) (λ _ fi=>∃ m,m < n/\I m fi) (notedBy (model prog w) A env λ e s'=>R (.error e) s') cv) (notedBy (model prog w) A env λ e s'=>R (.error e) s') bx) (notedBy (model prog w) A env λ e s'=>R (.error e) s') bg
      else ∃ m,m < n/\I m bg) (notedBy (model prog w) A env λ e s'=>R (.error e) s') bj) (notedBy (model prog w) A env λ e s'=>R (.error e) s') cn) (notedBy (model prog w) A env λ e s'=>R (.error e) s') ag)
    (notedBy (model prog w) A env λ e s'=>R (.error e) s') s)
  (n:Nat) (h:I n s) :
  codeAny (model prog w) A (.compLoop (.DictComp kx vx [⟨target,iter,ifs,0⟩] scope pos) 0 it (.ref D) env) R s:=by
 refine codeAny_loop rfl I (λ n s hI=>?_) n h
 show wpAny _ A ((compTurn (.DictComp kx vx [⟨target,iter,ifs,0⟩] scope pos) 0 it (.ref D) env).onRaise (λ x=>do noteFrame x env;theTreesLotGoes x)) _ _ s
 refine wpAny_noted ?_
 rw[compTurn_dict]
 refine wpAny_bind (wpAny_standAt (wpAny_bind (wpAny_mono (turn n s hI) (λ r ag ak=>?_) λ _ _ h'=>h')))
 cases r with
 | none=>exact wpAny_pure ak
 | some v=>
  refine wpAny_bind (wpAny_mono ak (λ _ cn dc=>?_) λ _ _ h'=>h')
  refine wpAny_bind (wpAny_mono dc (λ _ bj am=>wpAny_bind (wpAny_mono am (λ ok bg aj=>?_) λ _ _ h'=>h')) λ _ _ h'=>h')
  cases ok with
  | false=>exact wpAny_pure ⟨rfl,aj⟩
  | true=>
   exact wpAny_bind (wpAny_bind (wpAny_mono aj (λ kv bx ap=>wpAny_bind (wpAny_holding (wpAny_mono ap (λ vv cv bb=>wpAny_bind (wpAny_standAt (wpAny_holding (wpAny_mono bb (λ _ fi ci=>wpAny_pure ⟨rfl,ci⟩) λ _ _ h'=>h')))) λ _ _ h'=>h'))) λ _ _ h'=>h'))
end
section
variable {X:Cx}{pins:List (Addr×Obj)}{σ:St}{H:Hp}{s:Shared}{a:Addr}{v:V}{u r:Value}{A:Around}{E:Value->Shared->Prop}{kvs:List (eU×V)}{k:eU}
theorem B0 {Q:Unit->Shared->Prop} (I:Inv X pins σ H s) (e:H a=some (.dK kvs)) (l:kvs.length < sizeLine) (ry:bL (kV k) u) (rv:bL v r) (h:∀ s',Inv X pins σ (upd H a (.dK (fN kvs k v))) s'->Q () s') :
  wpAny (model X.prog X.w) A (dictSet a u r) Q E s:=by
 obtain⟨z,hd,vs,rel,dd⟩:=zM I.hok e
 have hz:vs.length<=sizeLine:=by rw[<- rel.length];exact z
 have hl:(fN kvs k v).length<=sizeLine:=by have:=fK kvs k v;omega
 refine wpAny_dictSet_pairs (hsz:=hz) (qO ry) dd λ h' dd' hs=>h _ ?_
 have he:∃ q,h'.get? a=some q:=let ⟨q,_,_,hq,_⟩:=dd';⟨q,hq⟩
 exact n8 I (by rw[e];exact True.intro) hs he (DW hl hd (rel.put k rv) dd')
end
section
variable {X:Cx}
theorem E3 {kx vx tg iter:Expr}{ifs:List Expr}{scope:Scope}{pos:Pos}{N':List Str}{fr:List (Option Nat)}{cl:List (Str×Addr)}{g:TG}{tc:TT}{tk tv:TE}
  {pins:List (Addr×Obj)}{σ:St}{H:Hp}{s:Shared}{J:It}{fp:List Addr}{it:Addr}{tn:Nat->Heap->Prop}{Q:Addr->Hp->Prop}{RR:Value->Addr->Result->Shared->Prop}{E:Value->Shared->Prop}
  (hx:∀ e s,¬ X.xe e s) (hc:X.calm=true) (S:LcOk X scope cl N' fr)
  (hg:∀ fp s H,PG (kQ X N' scope cl fp s H) tg g) (ht:∀ fp s H,G5 (kQ X N' scope cl fp s H) ifs tc) (hk:∀ fp s H,PE (kQ X N' scope cl fp s H) kx tk) (hv:∀ fp s H,PE (kQ X N' scope cl fp s H) vx tv)
  (I:Inv X pins σ H s) (T:Turn X.prog X.w X.K tg J fp it tn) (st:tn 0 s.heap) (hf:∀ b∈fp,gN X pins H b) (h:qY J g tc tk tv fr σ H Q)
  (hRR:∀ D C H' s' m',Inv X pins σ H' s'->Q D H'->s'.heap.Ns C m'->gN X pins H' C->RR (.ref D) C (.ok .next) s') :
  wpAny (model X.prog X.w) X.A newDict (λ acc bg=>wpAny (model X.prog X.w) X.A (newFunctionEnv scope X.env.globals cl [] X.env.qual none .none (some X.env)) (λ cenv bx=>
   codeAny (model X.prog X.w) X.A (.compStart (.DictComp kx vx [⟨tg,iter,ifs,0⟩] scope pos) 0 (.ref it) acc { cenv with scope:=relabel scope X.env }) (RR acc cenv.locals) bx) E bg) E s:=by
 have hcell:=S.nocell
 rw[List.all_eq_true] at hcell
 refine wpAny_newObj_type (wpAny_newFunctionEnv (λ x hx'=>by simpa using hcell x hx') (by intro y hy;simp at hy) (λ ak bo bz=>?_) S.kind)
 dsimp only at bo bz ⊢
 have fresh:H s.heap.objs.size=none:=I.hok.fresh (Nat.le_refl _)
 have I3:Inv X pins σ (upd H s.heap.objs.size (.dK [])) { s with heap:=s.heap.push { cls:=.type "dict",data:=.dict #[] },toks:=s.toks }:=
  I.laid (a:=s.heap.objs.size) (o:=.dK []) (t':=s.toks) (λ _ _ q=>Heap.get?_push_of_some _ q) (Nat.le_refl _) (w6 s.heap I.big)
 have hf3:∀ b∈fp,gN X pins (upd H s.heap.objs.size (.dK [])) b:=λ b hb=>by
  obtain⟨o,ho,_⟩:=T.obj _ _ st b hb
  exact⟨by rw[aO (Nat.ne_of_lt (Heap.lt_size ho))];exact (hf b hb).1,(hf b hb).2⟩
 generalize hs3:({ s with heap:=s.heap.push { cls:=.type "dict",data:=.dict #[] },toks:=s.toks }:Shared)=s3 at I3
 have e3:s3.heap=s.heap.push { cls:=.type "dict",dict:=none,data:=.dict #[] }:=by rw[<- hs3]
 have e3s:({ s with heap:=s.heap.push { cls:=.type "dict",dict:=none,data:=.dict #[] } }:Shared)=s3:=hs3
 have hsz3:s3.heap.objs.size=s.heap.objs.size+1:=by rw[e3,Heap.size_push]
 have hfo:∀ b∈fp,b < s3.heap.objs.size:=λ b hb=>by
  obtain⟨o,ho,_⟩:=T.obj _ _ st b hb
  rw[hsz3]
  exact Nat.lt_succ_of_lt (Heap.lt_size ho)
 rw[<- e3] at bo bz ⊢
 have old3:∀ b o,s3.heap.get? b=some o->ak.get? b=some o:=λ b o e=>bz.extBut b o (Nat.ne_of_lt (Heap.lt_size e)) (Heap.get?_push_of_some _ e)
 have old:∀ b o,s.heap.get? b=some o->s3.heap.get? b=some o:=λ b o e=>by rw[e3];exact Heap.get?_push_of_some _ e
 have I4:=S.invC (tk:=s3.toks) I3 hf3 hfo old3 bo
 obtain⟨W,⟨m0,w0⟩,turn⟩:=h s.heap.objs.size fresh
 have stat:∀ {H':Hp},(∀ b∈fp,H' b=none)->∀ b∈fp,gN (kQ X N' scope cl fp s3 (upd H s.heap.objs.size (.dK []))) [] H' b:=λ hn b hb=>by
  refine⟨hn b hb,Nat.ne_of_lt (hfo b hb),?_,.inl hb,λ x c e=>(hf b hb).2.2.2.2.1 x c (S.cls.get x c e),λ p hp=>absurd (show p∈([]:List (Addr×Obj)) from hp) (by simp)⟩
  intro hz
  obtain⟨_,f1,f2,_⟩:=hf b hb
  rcases List.mem_cons.mp (I.stkSub b hz) with e | e
  ·exact f1 e
  ·exact f2 e
 have loop:∀ s4:Shared,s4={ s3 with heap:=ak,toks:=s3.toks }->
   codeAny (model X.prog X.w) X.A (.compLoop (.DictComp kx vx [⟨tg,iter,ifs,0⟩] scope pos) 0 (.ref it) (.ref s.heap.objs.size) (compEnvC scope cl s3.heap.objs.size X.env)) (RR (.ref s.heap.objs.size) s3.heap.objs.size) s4:=by
  intro s4 hs4
  refine rR (λ n s'=>∃ i Z H',Inv (kQ X N' scope cl fp s3 (upd H s.heap.objs.size (.dK []))) [] Z H' s'/\tn i s'.heap/\(∀ b∈fp,H' b=none)/\W i n Z H') ?_ m0
   ⟨0,qT fr σ,_,by rw[hs4];exact I4,by rw[hs4];exact T.keep _ _ _ st λ b _ o e=>old3 b o (old b o e),λ b hb=>(hf3 b hb).1,w0⟩
  rintro n s5 ⟨i,ce,H5,I5,st5,fr5,w5⟩
  rcases turn i n ce H5 w5 with ⟨stop,qn⟩ | ⟨go,N,hN,step⟩
  ·refine cX (T.done (kQ X N' scope cl fp s3 (upd H s.heap.objs.size (.dK []))) rfl rfl rfl hc i [] s5 ce H5 _ I5 (stat fr5) st5 stop) λ r s6 ⟨hr,I6⟩=>?_
   subst hr
   obtain⟨m',hm',_⟩:=I6.loc
   exact hRR _ _ H5 s6 m' (I3.outC I6 hf3) qn hm' (I3.fpOk (Nat.le_refl _) I6.free)
  ·refine cX (T.item (kQ X N' scope cl fp s3 (upd H s.heap.objs.size (.dK []))) rfl rfl rfl hc i [] s5 ce H5 _ I5 (stat fr5) st5 go) λ r s6 ⟨u,hr,h6⟩=>?_
   subst hr
   refine cX h6 λ _ s7 ⟨x,H7,I7,r7,y7,st7,fr7⟩=>?_
   have I7':=I7.pinned (stat fr7) (T.obj _ _ st7)
   refine wpAny_mono (hg fp s3 _ _ s7 ce H7 x u _ I7' r7 (step x H7 y7)) (λ _ s8 ⟨be,H8,I8,q8⟩=>?_) λ e s' z=>(hx e s' z).elim
   refine wpAny_mono (ht fp s3 _ _ s8 be H8 _ I8 q8) (λ ok s9 ⟨H9,I9,q9⟩=>?_) λ e s' z=>(hx e s' z).elim
   have again:∀ {s10:Shared}{H10:Hp},Inv (kQ X N' scope cl fp s3 (upd H s.heap.objs.size (.dK []))) ([]++lO fp s7.heap) be H10 s10->N be H10->
     ∃ m,m < n/\∃ i Z H',Inv (kQ X N' scope cl fp s3 (upd H s.heap.objs.size (.dK []))) [] Z H' s10/\tn i s10.heap/\(∀ b∈fp,H' b=none)/\W i m Z H':=λ {s10 H10} I10 n10=>by
    obtain⟨m',hm,w10⟩:=hN be H10 n10
    refine⟨m',hm,i+1,be,H10,I10.unpinned,T.keep _ _ _ st7 λ b hb o e=>(I10.pin (b,o) (List.mem_append_right _ (List.mem_append_right _ (eN hb e)))).1,λ b hb=>?_,w10⟩
    obtain⟨o,e,d⟩:=T.obj _ _ st7 b hb
    exact (I10.pin (b,o) (List.mem_append_right _ (List.mem_append_right _ (eN hb e)))).2.1
   cases ok with
   | false=>
    rw[if_neg Bool.false_ne_true] at q9 ⊢
    exact again I9 q9
   | true=>
    rw[if_pos rfl] at q9 ⊢
    refine wpAny_mono (hk fp s3 _ _ s9 be H9 _ I9 q9) (λ y s10 ⟨yv,H10,I10,r10,q10⟩=>?_) λ e s' z=>(hx e s' z).elim
    refine wpAny_mono (hv fp s3 _ _ s10 be H10 _ I10 q10) (λ z s11 ⟨zv,H11,I11,r11,kvs,kk,ey,hD,hlen,q11⟩=>?_) λ e s' z=>(hx e s' z).elim
    subst ey
    exact B0 (X:=kQ X N' scope cl fp s3 (upd H s.heap.objs.size (.dK []))) I11 hD hlen r10 r11 λ s12 I12=>again I12 q11
 exact codeAny_compStart_dict (loop _ (by rw[<- e3s];rfl)) (T.self X.A 0 _ _ _ (T.keep _ _ _ st λ b _ o e=>old3 b o (old b o e)) (loop _ (by rw[<- e3s];rfl)))
theorem GI {kx vx tg iter:Expr}{ifs:List Expr}{scope:Scope}{pos:Pos}{N':List Str}{fr:List (Option Nat)}{cl:List (Str×Addr)}{wi:TI}{g:TG}{tc:TT}{tk tv:TE}
  (hx:∀ e s,¬ X.xe e s) (hc:X.calm=true) (S:LcOk X scope cl N' fr) (hi:PI X tg iter wi)
  (hg:∀ fp s H,PG (kQ X N' scope cl fp s H) tg g) (ht:∀ fp s H,G5 (kQ X N' scope cl fp s H) ifs tc) (hk:∀ fp s H,PE (kQ X N' scope cl fp s H) kx tk) (hv:∀ fp s H,PE (kQ X N' scope cl fp s H) vx tv)
  (hs:∀ x,foldedSetIterable iter X.env x=pure x:=by intro _;rfl):PE X (.DictComp kx vx [⟨tg,iter,ifs,0⟩] scope pos) (tDC wi fr g tc tk tv):=by
 intro pins s σ H Q I h
 have hloc:=S.locs
 rw[List.all_eq_true] at hloc
 show wpAny _ X.A (comprehension (.DictComp kx vx [⟨tg,iter,ifs,0⟩] scope pos) scope X.env _ newDict false (eval iter X.env)) _ _ s
 refine wpAny_comprehension_free (use:=none) rfl hs S.clos S.kind (λ x hx' hl=>by have:=hloc x hx';rw[hl] at this;simpa using this) (cX (hi pins s σ H _ I h) λ v s1 h1=>cX h1 λ itv s2 h2=>?_)
 obtain⟨it,fp,tn,J,H2,e,I2,T,st2,f2,rest⟩:=h2
 subst e
 refine E3 (RR:=λ acc C=>compPost (model X.prog X.w) X.A X.xe none (EP X pins σ Q) acc C) hx hc S hg ht hk hv I2 T st2 f2 rest ?_
 intro D C H' s' m' I' q hn f
 exact⟨m',hn,λ h' hsb=>⟨.ref D,H',I'.letgo f hsb,rfl,q⟩⟩
end
end L2
namespace Tw
open PySem L2
noncomputable def bH (i:Nat):Stmt:=PySem.Challenge.pw_tipwell_k33_whole_rounds_side_by_side.main.body.getD i (.Pass ⟨0,0,0,0⟩)
structure Txt (mg:Str->Option Value):Prop where
 b_len:mg "len" = none
 b_sum:mg "sum" = none
 b_all:mg "all" = none
 b_max:mg "max" = none
 b_min:mg "min" = none
 b_int:mg "int" = none
 b_tuple:mg "tuple" = none
 b_list:mg "list" = none
 b_bool:mg "bool" = none
 b_range:mg "range" = none
 b_zip:mg "zip" = none
 b_enumerate:mg "enumerate" = none
 b_isinstance:mg "isinstance" = none
 b_divmod:mg "divmod" = none
 b_set:mg "set" = none
 b_sorted:mg "sorted" = none
noncomputable def mX:Option Int->eU
 | none=>.inr none
 | some i=>.inl i
theorem DA (k:Option Int):kV (mX k)=iI k:=by cases k <;> rfl
theorem D9 {a b:Option Int} (h:mX a=mX b):a=b:=by
 cases a <;> cases b <;> simp_all [mX]
noncomputable def iZ (H:Hp) (d:Addr) (gs:List (Option Int×Int)):Prop:=
 ∃ kvs:List (eU×V),H d=some (.dK kvs)/\kvs.length<=gs.length/\∀ k:Option Int,(dH kvs (mX k)).getD (.int 0)=.int (bQ k gs)
theorem iZ.mut {H:Hp}{d:Addr}{gs:List (Option Int×Int)} (h:iZ H d gs):iY (H d):=by
 obtain⟨kvs,e,_⟩:=h;rw[e];exact trivial
section
variable {P:Program}{w:World}{K:PySem.W.Frag}{mg:Str->Option Value}{base:Heap}
noncomputable def tV:Sp:=λ vs H Q _=>∃ (d:Addr) (t:Option Int) (a:Int) (gs:List (Option Int×Int)),vs=[.ref d,iI t,.int a]/\iZ H d gs/\gs.length<=1000/\
 ∀ H',d8 d H H'->iZ H' d (gs++[(t,a)])->Q .non H'
theorem yJ:FnScope ["sent","target","amount"] ["sent","target","amount"] (aK (bH 18)):=⟨rfl,rfl,rfl,by decide +kernel,rfl,by decide +kernel,by decide +kernel⟩
theorem FM {f:Addr}{fd:FuncData} (F:Fun K "send" "send" (bH 18) f fd) (T:Txt mg):FnOk P w K mg base j3 1 f fd ["sent","target","amount"] tV:=by
 refine F.ok yJ (λ vs H Q E h=>?_) (λ cdv A outer s H vs Q E hr h=>?_)
 ·obtain⟨d,t,a,gs,rfl,_⟩:=h;rfl
 ·obtain⟨d,t,a,gs,rfl,⟨kvs,hd,hl,hv⟩,hg,k⟩:=h
  have sc:=yJ
  have hu:=zB hr
  refine⟨_,(aM (EY hu (pv 0) (pv 1) (aW cO (qD hu (pv 0) (pv 1) aG ⟨rfl,rfl,rfl,rfl⟩) (pv 2)) rfl)),?_⟩
  have hget:=kT.k (k:=mX t) hd
  rw[DA] at hget
  have hput:=EE.k (k:=mX t) (v:=V.int (bQ t gs+a)) hd (aP (by omega))
  rw[DA] at hput
  refine⟨_,rfl,d,rfl,.inl ⟨kvs,.inl hd⟩,_,rfl,dH kvs (mX t),hget,_,rfl,_,_,hv t,rfl,_,rfl,_,rfl,d,_,rfl,hput,?_⟩
  refine k _ d8.upd ⟨_,aB,?_,λ k'=>?_⟩
  ·have:=fK kvs (mX t) (V.int (bQ t gs+a))
   rw[List.length_append];simp;omega
  ·rw[j8,eZ]
   by_cases e:k'=t
   ·subst e
    rw[if_pos rfl]
    show V.int _=V.int _
    simp [bQ]
   ·rw[if_neg (λ z=>e (D9 z)),hv k']
    have:¬ t=k':=λ z=>e z.symm
    simp [bQ,this]
end
end Tw
namespace Tw
open PySem L2
section
variable {P:Program}{w:World}{K:PySem.W.Frag}{mg:Str->Option Value}{base:Heap}
theorem aZ {aq:Type}{xs:List aq}{i:Nat}{x:aq} (h:xs[i]? = some x):xs.take (i+1)=xs.take i++[x]:=by
 rw[List.take_succ,h];rfl
theorem iQ {H:Hp}{outs:List (Option Int×Int)}{xs:List V}{i:Nat}{x:V} (l:IsL K H (outs.map outD) xs) (h:xs[i]? = some x) :
  ∃ o,outs[i]? = some o/\∃ a,x=.ref a/\bO K H a [iI o.1,.int o.2]:=by
 obtain⟨d,hd,hx⟩:=l.get' h
 rw[List.getElem?_map] at hd
 cases e:outs[i]? with
 | none=>rw[e] at hd;cases hd
 | some o=>
  rw[e] at hd
  cases hd
  refine⟨o,rfl,?_⟩
  obtain⟨a,ys,rfl,q,l⟩:=(show Is K H (.tup [BF o.1,.int o.2]) x from hx).un
  obtain⟨y,r,rfl,hy,l⟩:=l.un
  obtain⟨z,r,rfl,hz,l⟩:=l.un
  have:=l.un0
  subst this
  rw[Is.tg hy,hz.ui] at q
  exact⟨a,rfl,q⟩
noncomputable def tU (K:PySem.W.Frag):Sp:=λ vs H Q _=>∃ (o d:Addr) (has:Int) (outs gs:List (Option Int×Int)) (n:Nat),vs=[.ref o,.int has,.ref d]/\Is K H (.tup (outs.map outD)) (.ref o)/\iZ H d gs/\gs.length+3<=1000/\
 outs≠[]/\outs.length<=3/\(∀ x∈outs,OutOk n x)/\∀ H',d8 d H H'->iZ H' d (gs++outs.map λ x=>(x.1,has / whole outs * x.2))->Q (.int (has % whole outs)) H'
theorem mH:FnScope ["outs","has","sent","whole","times","target","parts"] ["outs","has","sent"] (aK (bH 17)):=⟨rfl,rfl,rfl,by decide +kernel,rfl,by decide +kernel,by decide +kernel⟩
theorem u9 {f fS:Addr}{fd fdS:FuncData} (F:Fun K "share_out" "share_out" (bH 17) f fd) (T:Txt mg) (G_send:Callee P w K mg base "send" ["sent","target","amount"] 1 tV fS fdS):FnOk P w K mg base j3 2 f fd ["outs","has","sent"] (tU K):=by
 refine F.ok mH (λ vs H Q E h=>?_) (λ cdv A outer s H vs Q E hr h=>?_)
 ·obtain⟨o,d,has,outs,gs,n,rfl,_⟩:=h;rfl
 ·obtain⟨o,d,has,outs,gs,n,rfl,ho,hd,hg,hne,h3,hok,k⟩:=h
  have sc:=mH
  refine⟨_,(aD (aS (i:=3) sc.nd rfl (Or.inl rfl) (aR (cU (K:=K) rfl rfl) rfl T.b_sum PyProof.Rows.boot_sum (aA (fJ (λ _ _ h=>h) rfl (LcOk.mk (N':=["target","parts"]) (fr:=[none,none]) rfl trivial rfl rfl rfl rfl rfl trivial) (eT (K:=K) rfl (pv 0)) (λ _ _ _=>(bB (K:=K) (n:=2) rfl rfl (aF (aE (i:=0) (show (["target","parts"]:List Str).Nodup by decide +kernel) rfl (Or.inl rfl) (Or.inr rfl)) (aF (aE (i:=1) (show (["target","parts"]:List Str).Nodup by decide +kernel) rfl (Or.inl rfl) (Or.inr rfl)) bA)))) (λ _ _ _=>cA) (λ _ _ _=>(pv 1))) aC)))
   (aD (aS (i:=4) sc.nd rfl (Or.inl rfl) (aW gS (pv 1) (aR (iD rfl) rfl T.b_max PyProof.Rows.boot_max (aA aG (aA (pv 3) aC)))))
   (aD (dQ PassesOwn.never rfl (eT (K:=K) rfl (pv 0)) (bB (K:=K) (n:=2) rfl rfl (aF (aE (i:=5) sc.nd rfl (Or.inl rfl)) (aF (aE (i:=6) sc.nd rfl (Or.inl rfl)) bA))) (aM (dM (fG G_send hr (aA (pv 2) (aA (pv 5) (aA (aW gE (pv 6) (pv 4)) aC)))))))
   (aM (bX (aW gX (pv 1) (aW gE (pv 3) (pv 4)))))))),?_⟩
  have hw1:=rW hne hok
  have hw2:=oX hok
  obtain⟨o',xs,e,hq,hl⟩:=ho.un
  cases e
  have hxl:xs.length=outs.length:=by rw[hl.length,List.length_map]
  refine⟨_,rfl,o,rfl,⟨_,hq⟩,hV (K:=K) (a:=o) (xs:=xs) (λ D i ys Z H'=>H D=none/\aH H H'/\H' D=some (.lst ys)/\ys=(outs.take i).map (λ x=>V.int x.2)/\∃ x y,Z=[x,y])
   (λ D i ys Z H' p=>p.2.1.tup hq) (λ D hD=>⟨hD,aH.new hD,aB,by simp,none,none,rfl⟩) ?_ ?_⟩
  rotate_left
  ·rintro D i x ys Z H' hx ⟨hD,sm,hDl,rfl,v1,v2,rfl⟩
   obtain⟨ot,hot,a,rfl,qa⟩:=iQ hl hx
   have hil:=(List.getElem?_eq_some_iff.mp hot).1
   refine⟨a,_,rfl,sm.tup qa,rfl,_,_,rfl,_,_,rfl,rfl,?_⟩
   refine hR ⟨_,rfl,hDl,aP (by simp;omega),hD,sm.put hD,aB,?_,_,_,rfl⟩
   rw[aZ hot];simp
  ·rintro D ys Z H1 ⟨hD,sm,hDl,rfl,_⟩
   rw[hxl,List.take_length] at hDl
   refine⟨false,D,outs.map (·.2),rfl,bR.of (by rw[List.map_map];exact hDl),?_⟩
   refine⟨_,rfl,_,rfl,_,_,rfl,_,_,rfl,rfl,?_,?_⟩
   ·show 0 < (if whole outs > 1 then whole outs else 1)/\(if whole outs > 1 then whole outs else 1) < 1073741824
    split <;> omega
   have hm:(if whole outs > 1 then whole outs else 1)=whole outs:=by split <;> omega
   show i7 _ _ _ [some (V.ref o),some (V.int has),some (V.ref d),some (V.int (whole outs)),some (V.int (has / (if whole outs > 1 then whole outs else 1))),none,none] _
   rw[hm]
   have hd1:iZ H1 d gs:=by obtain⟨kvs,e,r⟩:=hd;exact⟨kvs,sm _ _ e,r⟩
   have tsH:bM K H H1:=sm.ts
   refine⟨_,rfl,o,rfl,⟨_,sm.tup hq⟩,oS (K:=K) (a:=o) (xs:=xs) (λ i Z H'=>d8 d H1 H'/\iZ H' d (gs++(outs.take i).map λ x=>(x.1,has / whole outs * x.2))/\
    ∃ x y,Z=[some (V.ref o),some (V.int has),some (V.ref d),some (V.int (whole outs)),some (V.int (has / whole outs)),x,y]) ⟨d8.refl _,by simpa using hd1,none,none,rfl⟩
    (λ i Z H' _ p=>(p.1.ts hd1.mut) _ _ (sm.tup hq)) ?_ ?_⟩
   ·rintro i x Z H2 hx ⟨bt,dg,v1,v2,rfl⟩
    obtain⟨ot,hot,a,rfl,qa⟩:=iQ hl hx
    have hil:=(List.getElem?_eq_some_iff.mp hot).1
    have hom:=hok ot (List.mem_of_getElem? hot)
    refine⟨a,_,rfl,(bt.ts hd1.mut) _ _ (sm.tup qa),rfl,_,_,rfl,_,_,rfl,rfl,?_⟩
    refine⟨_,rfl,_,rfl,_,rfl,_,rfl,_,_,rfl,rfl,.inl ⟨by have:=hom.lo;omega,by have:=hom.hi;omega⟩,d,ot.1,ot.2 * (has / whole outs),_,rfl,dg,by simp;omega,λ H' bt' dg'=>?_⟩
    refine⟨bt.trans bt',?_,_,_,rfl⟩
    rw[aZ hot,List.map_append,<- List.append_assoc]
    rw[Int.mul_comm] at dg'
    exact dg'
   ·rintro Z H2 ⟨bt,dg,v1,v2,rfl⟩
    rw[hxl,List.take_length] at dg
    refine⟨_,rfl,_,rfl,_,rfl,_,_,rfl,rfl,.inl ⟨by omega,by omega⟩,_,_,rfl,rfl,?_⟩
    have e:has - whole outs * (has / whole outs)=has % whole outs:=by
     have:=Int.emod_add_mul_ediv has (whole outs);omega
    show Q (V.int (has - whole outs * (has / whole outs))) H2
    rw[e]
    exact k H2 (sm.but.trans bt) dg
theorem rX {H:Hp}{v:Vs}{x:V} (h:Is K H (nU v) x):∃ (a:Addr) (o c:V),x=.ref a/\bO K H a [.int v.size,.int v.brim,o,.bl v.holds,iI v.spill,c]/\Is K H (.tup (v.outs.map outD)) o/\Is K H (.tup (v.acts.map nR)) c:=by
 obtain⟨a,xs,rfl,q,l⟩:=(show Is K H (.tup [.int v.size,.int v.brim,.tup (v.outs.map outD),.bl v.holds,BF v.spill,.tup (v.acts.map nR)]) x from h).un
 obtain⟨x1,r,rfl,h1,l⟩:=l.un
 obtain⟨x2,r,rfl,h2,l⟩:=l.un
 obtain⟨x3,r,rfl,h3,l⟩:=l.un
 obtain⟨x4,r,rfl,h4,l⟩:=l.un
 obtain⟨x5,r,rfl,h5,l⟩:=l.un
 obtain⟨x6,r,rfl,h6,l⟩:=l.un
 have:=l.un0
 subst this
 rw[h1.ui,h2.ui,h4.ub,Is.tg h5] at q
 exact⟨a,x3,x6,rfl,q,h3,h6⟩
noncomputable def pI (K:PySem.W.Frag):Sp:=λ vs H Q _=>∃ (x:V) (d:Addr) (has:Int) (v:Vs) (gs:List (Option Int×Int)) (n m:Nat),vs=[x,.int has,.ref d]/\Is K H (nU v) x/\iZ H d gs/\gs.length+5<=1000/\VOk n m v/\
 ∀ p H',d8 d H H'->iZ H' d (gs++d6 v has)->bO K H' p [.int (dD v has),.bl (dX v has)]->Q (.ref p) H'
theorem sM:FnScope ["vessel","has","sent","size","brim","outs","holds","spill","acts","over","left"] ["vessel","has","sent"] (aK (bH 16)):=⟨rfl,rfl,rfl,by decide +kernel,rfl,by decide +kernel,by decide +kernel⟩
theorem AH {f fS fO:Addr}{fd fdS fdO:FuncData} (F:Fun K "settle" "settle" (bH 16) f fd) (T:Txt mg) (G_send:Callee P w K mg base "send" ["sent","target","amount"] 1 tV fS fdS)
  (G_share_out:Callee P w K mg base "share_out" ["outs","has","sent"] 2 (tU K) fO fdO):FnOk P w K mg base j3 3 f fd ["vessel","has","sent"] (pI K):=by
 refine F.ok sM (λ vs H Q E h=>?_) (λ cdv A outer s H vs Q E hr h=>?_)
 ·obtain⟨x,d,has,v,gs,n,m,rfl,_⟩:=h;rfl
 ·obtain⟨x,d,has,v,gs,n,m,rfl,hx,hd,hg,ok,k⟩:=h
  have sc:=sM
  refine⟨_,(aD (cI (pv 0) (bB (K:=K) (n:=6) rfl rfl (aF (aE (i:=3) sc.nd rfl (Or.inl rfl)) (aF (aE (i:=4) sc.nd rfl (Or.inl rfl)) (aF (aE (i:=5) sc.nd rfl (Or.inl rfl)) (aF (aE (i:=6) sc.nd rfl (Or.inl rfl)) (aF (aE (i:=7) sc.nd rfl (Or.inl rfl)) (aF (aE (i:=8) sc.nd rfl (Or.inl rfl)) bA))))))))
   (aD (aS (i:=9) sc.nd rfl (Or.inl rfl) (aR (iD rfl) rfl T.b_max PyProof.Rows.boot_max (aA aG (aA (aW gX (pv 1) (pv 4)) aC))))
   (aD (dM (fG G_send hr (aA (pv 2) (aA (pv 7) (aA (pv 9) aC)))))
   (aD (HQ (i:=1) sc.nd rfl (Or.inl rfl) (pv 9) IL)
   (aD (fC (cH vL (pv 1) (pv 3) (cP _)) (aM (bX (bK (aA (pv 1) (aA mQ aC))))) cS)
   (aD (aS (i:=10) sc.nd rfl (Or.inl rfl) (fG G_share_out hr (aA (pv 5) (aA (pv 1) (aA (pv 2) aC)))))
   (aD (fC (lN (pv 6)) (aM (bX (bK (aA (pv 10) (aA mQ aC))))) cS)
   (aD (dM (fG G_send hr (aA (pv 2) (aA fU (aA (pv 10) aC)))))
   (aM (bX (bK (aA aG (aA mQ aC))))))))))))),?_⟩
  obtain⟨a,o,c,rfl,q,ho,hc⟩:=rX hx
  refine⟨_,rfl,a,_,rfl,q,rfl,_,_,rfl,_,_,rfl,_,_,rfl,_,_,rfl,_,_,rfl,_,_,rfl,rfl,?_⟩
  refine⟨_,rfl,_,rfl,_,_,rfl,rfl,_,_,rfl,?_⟩
  have eo:(if has - v.brim > 0 then has - v.brim else 0)=has - bI v has:=by unfold bI;split <;> omega
  show i7 _ _ _ [some (V.ref a),some (V.int has),some (V.ref d),some (V.int v.size),some (V.int v.brim),some o,some (V.bl v.holds),some (iI v.spill),some c,some (V.int (if has - v.brim > 0 then has - v.brim else 0)),none] _
  rw[eo]
  refine⟨_,rfl,_,rfl,_,rfl,d,v.spill,has - bI v has,gs,rfl,hd,by omega,λ H1 b1 d1=>?_⟩
  have ts1:bM K H H1:=b1.ts hd.mut
  refine⟨_,rfl,_,rfl,_,_,rfl,rfl,?_⟩
  have eh:has - (has - bI v has)=bI v has:=by omega
  show i7 _ _ _ [some (V.ref a),some (V.int (has - (has - bI v has))),some (V.ref d),some (V.int v.size),some (V.int v.brim),some o,some (V.bl v.holds),some (iI v.spill),some c,some (V.int (has - bI v has)),none] _
  rw[eh]
  refine⟨_,rfl,_,rfl,_,_,rfl,rfl,_,rfl,?_⟩
  refine hX (λ hlt=>?_) (λ hge=>?_)
  ·have hlt':bI v has < v.size:=of_decide_eq_true hlt
   have ht:dX v has=false:=decide_eq_false (by omega)
   refine⟨_,rfl,(show 2<=sizeLine by decide),λ p hp=>?_⟩
   refine k p _ (b1.trans (aH.new hp).but) ?_ ?_
   ·have:d6 v has=[(v.spill,has - bI v has)]:=by unfold d6;rw[ht];rfl
    rw[this]
    obtain⟨kvs,e,r⟩:=d1
    exact⟨kvs,aH.new hp _ _ e,r⟩
   ·have:dD v has=bI v has:=by unfold dD;rw[ht];rfl
    rw[this,ht]
    exact bO.of aB
  ·have hge':v.size<=bI v has:=by simpa using hge
   have ht:dX v has=true:=decide_eq_true hge'
   obtain⟨oa,os,rfl,_,_⟩:=ho.un
   refine⟨_,rfl,_,rfl,_,rfl,oa,d,bI v has,v.outs,_,n,rfl,Is.mono ts1 _ _ ho,d1,by simp;omega,ok.ne,ok.o3,ok.outs,λ H2 b2 d2=>?_⟩
   refine⟨_,rfl,_,rfl,?_⟩
   cases hh:v.holds with
   | true=>
    refine jT ?_
    refine⟨_,rfl,(show 2<=sizeLine by decide),λ p hp=>?_⟩
    refine k p _ (b1.trans (b2.trans (aH.new hp).but)) ?_ ?_
    ·have:gs++d6 v has=(gs++[(v.spill,has - bI v has)])++v.outs.map λ x=>(x.1,bI v has / whole v.outs * x.2):=by
      unfold d6 dA;rw[ht,hh];simp
     rw[this]
     obtain⟨kvs,e,r⟩:=d2
     exact⟨kvs,aH.new hp _ _ e,r⟩
    ·have:dD v has=bI v has % whole v.outs:=by unfold dD;rw[ht,hh];rfl
     rw[this,ht]
     exact bO.of aB
   | false=>
    refine j5 ?_
    refine⟨_,rfl,_,rfl,d,none,bI v has % whole v.outs,_,rfl,d2,by simp;have:=ok.o3;omega,λ H3 b3 d3=>?_⟩
    refine⟨(show 2<=sizeLine by decide),λ p hp=>?_⟩
    refine k p _ (b1.trans (b2.trans (b3.trans (aH.new hp).but))) ?_ ?_
    ·have:gs++d6 v has=((gs++[(v.spill,has - bI v has)])++v.outs.map λ x=>(x.1,bI v has / whole v.outs * x.2))++[(none,bI v has % whole v.outs)]:=by
      unfold d6 dA;rw[ht,hh];simp
     rw[this]
     obtain⟨kvs,e,r⟩:=d3
     exact⟨kvs,aH.new hp _ _ e,r⟩
    ·have:dD v has=0:=by unfold dD;rw[ht,hh];rfl
     rw[this,ht]
     exact bO.of aB
end
end Tw
namespace Tw
open PySem L2
section
variable {P:Program}{w:World}{K:PySem.W.Frag}{mg:Str->Option Value}{base:Heap}
theorem oU {H:Hp}{acts:List (Str×Int)}{xs:List V}{i:Nat}{x:V} (l:IsL K H (acts.map nR) xs) (h:xs[i]? = some x) :
  ∃ o,acts[i]? = some o/\∃ a,x=.ref a/\bO K H a [.str o.1,.int o.2]:=by
 obtain⟨d,hd,hx⟩:=l.get' h
 rw[List.getElem?_map] at hd
 cases e:acts[i]? with
 | none=>rw[e] at hd;cases hd
 | some o=>
  rw[e] at hd
  cases hd
  refine⟨o,rfl,?_⟩
  obtain⟨a,ys,rfl,q,l⟩:=(show Is K H (.tup [.str o.1,.int o.2]) x from hx).un
  obtain⟨y,r,rfl,hy,l⟩:=l.un
  obtain⟨z,r,rfl,hz,l⟩:=l.un
  have:=l.un0
  subst this
  rw[hy.us,hz.ui] at q
  exact⟨a,rfl,q⟩
theorem wI (ds:List Bool) (a:Str×Int):(iT ds a).length=ds.length:=by unfold iT;simp
theorem iF:∀ (as:List (Str×Int)) (ds:List Bool),(cR ds as).length=ds.length
 | [],ds=>rfl
 | a::as,ds=>by
  show (cR (iT ds a) as).length=_
  rw[iF as,wI]
theorem h7 (vs:List Vs):∀ (tip:List Nat) (ds:List Bool),(bE vs ds tip).length=ds.length
 | [],ds=>rfl
 | i::r,ds=>by
  show (bE vs (match vs[i]? with | some v=>cR ds v.acts | none=>ds) r).length=_
  rw[h7 vs r]
  cases vs[i]? with
  | none=>rfl
  | some v=>exact iF _ _
theorem rA (ds:List Bool) (as:List (Str×Int)) (a:Str×Int):cR ds (as++[a])=iT (cR ds as) a:=by
 unfold cR;rw[List.foldl_append];rfl
theorem oA (vs:List Vs) (ds:List Bool) (tip:List Nat) (i:Nat) (v:Vs) (h:vs[i]? = some v):bE vs ds (tip++[i])=cR (bE vs ds tip) v.acts:=by
 unfold bE;rw[List.foldl_append]
 show (match vs[i]? with | some v=>_ | none=>_)=_
 rw[h]
noncomputable def tZ (K:PySem.W.Frag):Sp:=λ args H Q _=>∃ (x y:V) (t:Addr) (vs:List Vs) (doors:List Bool) (tip:List Nat) (n:Nat),args=[x,y,.ref t]/\Is K H (.tup (vs.map nU)) x/\Is K H (.tup (doors.map D.bl)) y/\
 bR K H t (tip.map λ (i:Nat)=>V.int (i:Int))/\(∀ i∈tip,i < vs.length)/\(∀ v∈vs,VOk n doors.length v)/\doors.length<=12/\
 ∀ p H',aH H H'->Is K H' (.tup ((bE vs doors tip).map D.bl)) p->Q p H'
theorem iW:FnScope ["vessels","doors","tipped","behind","number","size","brim","outs","holds","spill","acts","word","spout"] ["vessels","doors","tipped"] (aK (bH 19)):=⟨rfl,rfl,rfl,by decide +kernel,rfl,by decide +kernel,by decide +kernel⟩
theorem oJ {f:Addr}{fd:FuncData} (F:Fun K "doors_behind" "doors_behind" (bH 19) f fd) (T:Txt mg):FnOk P w K mg base j3 1 f fd ["vessels","doors","tipped"] (tZ K):=by
 refine F.ok iW (λ vs H Q E h=>?_) (λ cdv A outer s H vs Q E hr h=>?_)
 ·obtain⟨x,y,t,vs,doors,tip,n,rfl,_⟩:=h;rfl
 ·obtain⟨x,y,t,vs,doors,tip,n,rfl,hx,hy,ht,htip,hok,hm,k⟩:=h
  have sc:=iW
  refine⟨_,(aD (aS (i:=3) sc.nd rfl (Or.inl rfl) (bC (nP (K:=K) rfl) rfl T.b_list uR (aA (pv 1) aC)))
   (aD (dQ PassesOwn.never rfl (dZ (K:=K) rfl (pv 2)) (aE (i:=4) sc.nd rfl (Or.inl rfl)) (aD (cI (aQ (aJ (K:=K) rfl) (pv 0) (pv 4) (λ _ _=>rfl)) (bB (K:=K) (n:=6) rfl rfl (aF (aE (i:=5) sc.nd rfl (Or.inl rfl)) (aF (aE (i:=6) sc.nd rfl (Or.inl rfl)) (aF (aE (i:=7) sc.nd rfl (Or.inl rfl)) (aF (aE (i:=8) sc.nd rfl (Or.inl rfl)) (aF (aE (i:=9) sc.nd rfl (Or.inl rfl)) (aF (aE (i:=10) sc.nd rfl (Or.inl rfl)) bA))))))))
   (aM (dQ PassesOwn.never rfl (eT (K:=K) rfl (pv 10)) (bB (K:=K) (n:=2) rfl rfl (aF (aE (i:=11) sc.nd rfl (Or.inl rfl)) (aF (aE (i:=12) sc.nd rfl (Or.inl rfl)) bA))) (aM (cI (JZ (iO sT (pv 11) gW (cP _)) (xD (xE (iO sT (pv 11) gW (cP _)) (xD (u8 (aQ (aJ (K:=K) rfl) (pv 3) (pv 12) (λ _ _=>rfl))))))) (jO (pv 3) (pv 12) fR)))))))
   (aM (bX (bC (bU (K:=K) rfl) rfl T.b_tuple cB (aA (pv 3) aC)))))),?_⟩
  obtain⟨ax,xs,rfl,qx,lx⟩:=hx.un
  obtain⟨ay,ys,rfl,qy,ly⟩:=hy.un
  have ey:=ly.bools
  subst ey
  have exl:xs.length=vs.length:=by rw[lx.length,List.length_map]
  refine⟨_,rfl,ay,_,rfl,.inr qy,λ b hb=>?_⟩
  have nb:∀ {c:Addr}{o:HO},H c=some o->c≠b:=λ e=>aN e hb
  refine⟨_,rfl,t,rfl,⟨_,(aH.new hb).seq ht⟩,vX (K:=K) (a:=t) (xs:=tip.map λ (i:Nat)=>V.int (i:Int))
   (λ i Z H'=>aH H H'/\H' b=some (.lst ((bE vs doors (tip.take i)).map V.bl))/\∃ v4 v5 v6 v7 v8 v9 v10 v11 v12,Z=[some (.ref ax),some (.ref ay),some (.ref t),some (.ref b),v4,v5,v6,v7,v8,v9,v10,v11,v12])
   ⟨aH.new hb,aB,none,none,none,none,none,none,none,none,none,rfl⟩ (λ i Z H' _ p=>p.1.seq ht) ?_ ?_⟩
  ·rintro i x Z H1 hi ⟨sm,hbl,v4,v5,v6,v7,v8,v9,v10,v11,v12,rfl⟩
   rw[List.getElem?_map] at hi
   obtain⟨j,hj,rfl⟩:=Option.map_eq_some_iff.mp hi
   have hjv:=htip j (List.mem_of_getElem? hj)
   have hv:vs[j]? = some vs[j]:=by simp [hjv]
   have hvok:=hok vs[j] (List.getElem_mem hjv)
   obtain⟨xv,hxv,ixv⟩:=lx.get (i:=j) (d:=nU vs[j]) (by rw[List.getElem?_map,hv];rfl)
   obtain⟨va,o,c,rfl,qv,ho,hc⟩:=rX ixv
   refine⟨_,rfl,_,rfl,.inr (.inl ⟨ax,xs,j,_,rfl,rfl,sm.tup qx,dW hxv,va,_,rfl,sm.tup qv,rfl,_,_,rfl,_,_,rfl,_,_,rfl,_,_,rfl,_,_,rfl,_,_,rfl,rfl,?_⟩)⟩
   obtain⟨ca,cs,rfl,qc,lc⟩:=hc.un
   have ecs:cs.length=vs[j].acts.length:=by rw[lc.length,List.length_map]
   refine⟨_,rfl,ca,rfl,⟨_,sm.tup qc⟩,oS (K:=K) (a:=ca) (xs:=cs)
    (λ l Z H'=>aH H H'/\H' b=some (.lst ((cR (bE vs doors (tip.take i)) (vs[j].acts.take l)).map V.bl))/\
     ∃ u11 u12,Z=[some (.ref ax),some (.ref ay),some (.ref t),some (.ref b),some (.int (j:Int)),some (.int vs[j].size),some (.int vs[j].brim),some o,some (.bl vs[j].holds),some (iI vs[j].spill),some (.ref ca),u11,u12])
    ⟨sm,hbl,v11,v12,rfl⟩ (λ l Z H' _ p=>p.1.tup qc) ?_ ?_⟩
   ·rintro l x Z H2 hl ⟨sm2,hb2,u11,u12,rfl⟩
    obtain⟨at',hat,aa,rfl,qa⟩:=oU lc hl
    have aok:=hvok.acts at' (List.mem_of_getElem? hat)
    refine⟨aa,_,rfl,sm2.tup qa,rfl,_,_,rfl,_,_,rfl,rfl,?_⟩
    have hdl:(cR (bE vs doors (tip.take i)) (vs[j].acts.take l)).length=doors.length:=by rw[iF,h7]
    have hsp:at'.2.toNat < (cR (bE vs doors (tip.take i)) (vs[j].acts.take l)).length:=by rw[hdl];have:=aok.lo;have:=aok.hi;omega
    have fin:∀ c:Bool,c=(if at'.1 = "open" then true else if at'.1 = "turn" then !((cR (bE vs doors (tip.take i)) (vs[j].acts.take l)).getD at'.2.toNat false) else false)->
      aH H (upd H2 b (.lst (((cR (bE vs doors (tip.take i)) (vs[j].acts.take l)).map V.bl).set at'.2.toNat (.bl c))))/\
      upd H2 b (.lst (((cR (bE vs doors (tip.take i)) (vs[j].acts.take l)).map V.bl).set at'.2.toNat (.bl c))) b=some (.lst ((cR (bE vs doors (tip.take i)) (vs[j].acts.take (l+1))).map V.bl)):=λ c hc=>by
     refine⟨sm2.put hb,?_⟩
     rw[aB,aZ hat,rA,iT,<- hc,List.map_set]
    have set:∀ c:Bool,c=(if at'.1 = "open" then true else if at'.1 = "turn" then !((cR (bE vs doors (tip.take i)) (vs[j].acts.take l)).getD at'.2.toNat false) else false)->
      DQ (dP 3) (dP 12) vG (.bl c) [some (.ref ax),some (.ref ay),some (.ref t),some (.ref b),some (.int (j:Int)),some (.int vs[j].size),some (.int vs[j].brim),some o,some (.bl vs[j].holds),some (iI vs[j].spill),some (.ref ca),some (.str at'.1),some (.int at'.2)] H2
       λ Z H'=>aH H H'/\H' b=some (.lst ((cR (bE vs doors (tip.take i)) (vs[j].acts.take (l+1))).map V.bl))/\
        ∃ u11 u12,Z=[some (.ref ax),some (.ref ay),some (.ref t),some (.ref b),some (.int (j:Int)),some (.int vs[j].size),some (.int vs[j].brim),some o,some (.bl vs[j].holds),some (iI vs[j].spill),some (.ref ca),u11,u12]:=λ c hc=>by
     obtain⟨f1,f2⟩:=fin c hc
     refine⟨_,rfl,_,rfl,b,_,at'.2,at'.2.toNat,rfl,rfl,hb2,kJ aok.lo (by rw[List.length_map];omega),f1,f2,_,_,rfl⟩
    refine⟨_,rfl,rfl,_,rfl,?_⟩
    refine hX (λ h1=>?_) (λ h1=>?_)
    ·have e1:at'.1 = "open" := by have:=of_decide_eq_true h1;injection this
     exact set true (by rw[if_pos e1])
    ·have e1:¬ at'.1 = "open" := λ z=>h1 (decide_eq_true (by rw[z]))
     refine⟨_,rfl,rfl,_,rfl,?_⟩
     refine hX (λ h2=>?_) (λ h2=>?_)
     ·have e2:at'.1 = "turn" := by have:=of_decide_eq_true h2;injection this
      have hg:((cR (bE vs doors (tip.take i)) (vs[j].acts.take l)).map V.bl)[at'.2.toNat]? = some (.bl ((cR (bE vs doors (tip.take i)) (vs[j].acts.take l)).getD at'.2.toNat false)):=by
       rw[List.getElem?_map,List.getD_eq_getElem?_getD];simp [hsp]
      refine⟨_,rfl,_,rfl,.inl ⟨b,_,at'.2,_,rfl,rfl,bR.of hb2,kN aok.lo hg,_,rfl,?_⟩⟩
      exact set _ (by rw[if_neg e1,if_pos e2])
     ·have e2:¬ at'.1 = "turn" := λ z=>h2 (decide_eq_true (by rw[z]))
      exact set false (by rw[if_neg e1,if_neg e2])
   ·rintro Z H2 ⟨sm2,hb2,u11,u12,rfl⟩
    rw[ecs,List.take_length] at hb2
    refine⟨sm2,?_,_,_,_,_,_,_,_,_,_,rfl⟩
    rw[aZ hj,oA vs doors _ j vs[j] hv]
    exact hb2
  ·rintro Z H1 ⟨sm,hbl,v4,v5,v6,v7,v8,v9,v10,v11,v12,rfl⟩
   rw[List.length_map,List.take_length] at hbl
   refine⟨_,rfl,b,_,rfl,.inl ⟨bR.of hbl,λ l hl=>?_⟩⟩
   exact k _ _ (sm.trans (aH.new hl)) (Is.tupOf (bO.of aB) (IsL.of_bools _))
end
end Tw
namespace Tw
open PySem L2
theorem eQ:∀ {a b c:List Int}{n:Nat},a.length=n->b.length=n->c.length=n->(eR a b c).length=n
 | [],b,c,n,h,_,_=>by simp at h;subst h;rfl
 | x::a,[],c,n,h1,h2,_=>by simp at h1 h2;omega
 | x::a,y::b,[],n,h1,_,h3=>by simp at h1 h3;omega
 | x::a,y::b,z::c,n,h1,h2,h3=>by
  simp at h1 h2 h3
  show (eR a b c).length+1=n
  rw[eQ (n:=n - 1) (by omega) (by omega) (by omega)];omega
theorem r9:∀ {a b c:List Int}{i:Nat}{x y z:Int},a[i]? = some x->b[i]? = some y->c[i]? = some z->(eR a b c)[i]? = some (x+y+z)
 | [],_,_,i,_,_,_,h,_,_=>by simp at h
 | _::_,[],_,i,_,_,_,_,h,_=>by simp at h
 | _::_,_::_,[],i,_,_,_,_,_,h=>by simp at h
 | a::as,b::bs,c::cs,0,x,y,z,h1,h2,h3=>by simp at h1 h2 h3;subst h1 h2 h3;rfl
 | a::as,b::bs,c::cs,i+1,x,y,z,h1,h2,h3=>by
  show (eR as bs cs)[i]? = _
  exact r9 (by simpa using h1) (by simpa using h2) (by simpa using h3)
theorem nL (has:List Int) (s:oE) (d:Bool):(eP has s d).length=has.length:=by unfold eP;split <;> simp
theorem eB:∀ (ss:List oE) (ds:List Bool) (has:List Int),(cE has ss ds).length=has.length
 | [],ds,has=>by cases ds <;> rfl
 | s::ss,[],has=>rfl
 | s::ss,d::ds,has=>by show (cE (eP has s d) ss ds).length=_;rw[eB ss ds,nL]
theorem lU:∀ (ss:List oE) (ds:List Bool) (i:Nat) (has:List Int) (s:oE) (d:Bool),ss[i]? = some s->ds[i]? = some d->cE has (ss.take (i+1)) (ds.take (i+1))=eP (cE has (ss.take i) (ds.take i)) s d
 | [],_,i,_,_,_,h,_=>by simp at h
 | _::_,[],i,_,_,_,_,h=>by simp at h
 | a::ss,b::ds,0,has,s,d,h1,h2=>by simp at h1 h2;subst h1 h2;simp [cE]
 | a::ss,b::ds,i+1,has,s,d,h1,h2=>by
  simp only [List.take_succ_cons,cE]
  exact lU ss ds i _ s d (by simpa using h1) (by simpa using h2)
theorem lT:∀ (vs:List Vs) (hs:List Int) (i:Nat) (v:Vs) (h:Int),vs[i]? = some v->hs[i]? = some h->bF (vs.take (i+1)) (hs.take (i+1))=bF (vs.take i) (hs.take i)++d6 v h
 | [],_,i,_,_,h,_=>by simp at h
 | _::_,[],i,_,_,_,h=>by simp at h
 | a::vs,b::hs,0,v,h,h1,h2=>by simp at h1 h2;subst h1 h2;simp [bF]
 | a::vs,b::hs,i+1,v,h,h1,h2=>by
  simp only [List.take_succ_cons,bF,List.append_assoc]
  rw[lT vs hs i v h (by simpa using h1) (by simpa using h2)]
theorem jF:∀ (vs:List Vs) (hs:List Int) (i:Nat) (v:Vs) (h:Int),vs[i]? = some v->hs[i]? = some h->bW (vs.take (i+1)) (hs.take (i+1))=bW (vs.take i) (hs.take i)++[dD v h]
 | [],_,i,_,_,h,_=>by simp at h
 | _::_,[],i,_,_,_,h=>by simp at h
 | a::vs,b::hs,0,v,h,h1,h2=>by simp at h1 h2;subst h1 h2;simp [bW]
 | a::vs,b::hs,i+1,v,h,h1,h2=>by
  simp only [List.take_succ_cons,bW,List.cons_append]
  rw[jF vs hs i v h (by simpa using h1) (by simpa using h2)]
theorem lL:∀ (vs:List Vs) (hs:List Int) (i j:Nat) (v:Vs) (h:Int),vs[i]? = some v->hs[i]? = some h->aT j (vs.take (i+1)) (hs.take (i+1))=aT j (vs.take i) (hs.take i)++(if dX v h=true then [j+i] else [])
 | [],_,i,_,_,_,h,_=>by simp at h
 | _::_,[],i,_,_,_,_,h=>by simp at h
 | a::vs,b::hs,0,j,v,h,h1,h2=>by
  simp at h1 h2;subst h1 h2
  simp only [List.take_succ_cons,List.take_zero,aT,Nat.add_zero,List.nil_append]
 | a::vs,b::hs,i+1,j,v,h,h1,h2=>by
  simp only [List.take_succ_cons,aT]
  rw[lL vs hs i (j+1) v h (by simpa using h1) (by simpa using h2)]
  have e:j+1+i=j+(i+1):=by omega
  rw[e]
  split <;> simp
theorem i5:∀ (vs:List Vs) (hs:List Int) (j k:Nat),k∈aT j vs hs->j<=k/\k < j+vs.length
 | [],_,_,k,h=>by simp [aT] at h
 | _::_,[],_,k,h=>by simp [aT] at h
 | a::vs,b::hs,j,k,h=>by
  simp only [aT] at h
  have ih:=i5 vs hs (j+1) k
  simp only [List.length_cons]
  split at h
  ·rcases List.mem_cons.mp h with rfl | h
   ·omega
   ·have:=ih h;omega
  ·have:=ih h;omega
theorem kA:∀ (vs:List Vs) (hs:List Int) (j:Nat),(aT j vs hs).length<=vs.length
 | [],_,_=>by simp [aT]
 | _::_,[],_=>by simp [aT]
 | a::vs,b::hs,j=>by
  simp only [aT,List.length_cons]
  have:=kA vs hs (j+1)
  split
  ·rw[List.length_cons];omega
  ·omega
theorem kK {n m:Nat}:∀ (vs:List Vs) (hs:List Int),(∀ v∈vs,VOk n m v)->(bF vs hs).length<=5 * vs.length
 | [],_,_=>by simp [bF]
 | _::_,[],_=>by simp [bF]
 | a::vs,b::hs,h=>by
  simp only [bF,List.length_append,List.length_cons]
  have h1:=zZ (h a List.mem_cons_self) b
  have h2:=kK vs hs λ v hv=>h v (List.mem_cons_of_mem _ hv)
  omega
section
variable {P:Program}{w:World}{K:PySem.W.Frag}{mg:Str->Option Value}{base:Heap}
theorem nE {H:Hp}{sps:List oE}{xs:List V}{i:Nat}{x:V} (l:IsL K H (sps.map wK) xs) (h:xs[i]? = some x) :
  ∃ s,sps[i]? = some s/\∃ a,x=.ref a/\bO K H a [.int s.1,.int s.2.1,.bl s.2.2]:=by
 obtain⟨d,hd,hx⟩:=l.get' h
 rw[List.getElem?_map] at hd
 cases e:sps[i]? with
 | none=>rw[e] at hd;cases hd
 | some o=>
  rw[e] at hd
  cases hd
  refine⟨o,rfl,?_⟩
  obtain⟨a,ys,rfl,q,l⟩:=(show Is K H (.tup [.int o.1,.int o.2.1,.bl o.2.2]) x from hx).un
  obtain⟨y,r,rfl,hy,l⟩:=l.un
  obtain⟨z,r,rfl,hz,l⟩:=l.un
  obtain⟨z2,r,rfl,hz2,l⟩:=l.un
  have:=l.un0
  subst this
  rw[hy.ui,hz.ui,hz2.ub] at q
  exact⟨a,rfl,q⟩
theorem vC {H:Hp}{held coming:List Int}{doors:List Bool}{y:V} (h:Is K H (A9 held coming doors) y):∃ (a b c d:Addr),y=.ref a/\bO K H a [.ref b,.ref c,.ref d]/\bO K H b (held.map V.int)/\bO K H c (coming.map V.int)/\bO K H d (doors.map V.bl):=by
 obtain⟨a,xs,rfl,q,l⟩:=(show Is K H (.tup [.tup (held.map D.int),.tup (coming.map D.int),.tup (doors.map D.bl)]) y from h).un
 obtain⟨x1,r,rfl,h1,l⟩:=l.un
 obtain⟨x2,r,rfl,h2,l⟩:=l.un
 obtain⟨x3,r,rfl,h3,l⟩:=l.un
 have:=l.un0
 subst this
 obtain⟨b,ys,rfl,q1,l1⟩:=h1.un
 obtain⟨c,zs,rfl,q2,l2⟩:=h2.un
 obtain⟨d,us,rfl,q3,l3⟩:=h3.un
 rw[l1.ints] at q1
 rw[l2.ints] at q2
 rw[l3.bools] at q3
 exact⟨a,b,c,d,rfl,q,q1,q2,q3⟩
theorem yG {H:Hp}{held coming:List Int}{doors:List Bool}{a b c d:Addr} (q:bO K H a [.ref b,.ref c,.ref d]) (q1:bO K H b (held.map V.int)) (q2:bO K H c (coming.map V.int)) (q3:bO K H d (doors.map V.bl)):Is K H (A9 held coming doors) (.ref a):=
 Is.tupOf q (.cons (Is.tupOf q1 (IsL.of_ints _)) (.cons (Is.tupOf q2 (IsL.of_ints _)) (.cons (Is.tupOf q3 (IsL.of_bools _)) .nil)))
noncomputable def pK (K:PySem.W.Frag):Sp:=λ args H Q _=>∃ (x y:V) (z:Addr) (sps:List oE) (held coming poured:List Int) (doors:List Bool) (n:Nat),args=[x,y,.ref z]/\Is K H (.tup (sps.map wK)) x/\Is K H (A9 held coming doors) y/\bO K H z (poured.map V.int)/\
 held.length=n/\coming.length=n/\poured.length=n/\doors.length=sps.length/\n<=12/\(∀ s∈sps,0<=s.1/\s.1 < n)/\
 ∀ p H',aH H H'->H p=none->H' p=some (.lst ((cE (eR held coming poured) sps doors).map V.int))->Q (.ref p) H'
theorem sN:FnScope ["spouts","state","poured","held","coming","doors","has","target","flow","first_door","door"] ["spouts","state","poured"] (aK (bH 15)):=⟨rfl,rfl,rfl,by decide +kernel,rfl,by decide +kernel,by decide +kernel⟩
theorem AI {f:Addr}{fd:FuncData} (F:Fun K "filled" "filled" (bH 15) f fd) (T:Txt mg):FnOk P w K mg base j3 1 f fd ["spouts","state","poured"] (pK K):=by
 refine F.ok sN (λ vs H Q E h=>?_) (λ cdv A outer s H vs Q E hr h=>?_)
 ·obtain⟨x,y,z,sps,held,coming,poured,doors,n,rfl,_⟩:=h;rfl
 ·obtain⟨x,y,z,sps,held,coming,poured,doors,n,rfl,hx,hy,qz,l1,l2,l3,l4,hn,hsp,k⟩:=h
  have sc:=sN
  refine⟨_,(aD (cI (pv 1) (bB (K:=K) (n:=3) rfl rfl (aF (aE (i:=3) sc.nd rfl (Or.inl rfl)) (aF (aE (i:=4) sc.nd rfl (Or.inl rfl)) (aF (aE (i:=5) sc.nd rfl (Or.inl rfl)) bA)))))
   (aD (fI (i:=6) sc.nd rfl rfl (λ _ _ h=>h) rfl (LcOk.mk (N':=["amounts"]) (fr:=[none]) rfl trivial rfl rfl rfl rfl rfl trivial) (CQ (K:=K) rfl rfl T.b_zip (aA (pv 3) (aA (pv 4) (aA (pv 2) aC)))) (λ _ _ _=>(aE (i:=0) (show (["amounts"]:List Str).Nodup by decide +kernel) rfl (Or.inl rfl) (Or.inr rfl))) (λ _ _ _=>cA) (λ _ _ _=>(aR (cU (K:=K) rfl rfl) rfl T.b_sum PyProof.Rows.boot_sum (aA (pv 0) aC))))
   (aD (dQ PassesOwn.never rfl (vI (K:=K) rfl rfl T.b_zip (aA (pv 0) (aA (pv 5) aC))) (bB (K:=K) (n:=2) rfl rfl (aF (bB (K:=K) (n:=3) rfl rfl (aF (aE (i:=7) sc.nd rfl (Or.inl rfl)) (aF (aE (i:=8) sc.nd rfl (Or.inl rfl)) (aF (aE (i:=9) sc.nd rfl (Or.inl rfl)) bA)))) (aF (aE (i:=10) sc.nd rfl (Or.inl rfl)) bA))) (aM (fC (lN (pv 10)) (aM (EZ (pv 6) (pv 7) (AU (K:=K) rfl) (pv 8) IM fR)) cS)))
   (aM (bX (pv 6)))))),?_⟩
  obtain⟨ax,xs,rfl,qx,lx⟩:=hx.un
  obtain⟨ay,a1,a2,a3,rfl,qy,q1,q2,q3⟩:=vC hy
  have exl:xs.length=sps.length:=by rw[lx.length,List.length_map]
  refine⟨_,rfl,ay,_,rfl,qy,rfl,_,_,rfl,_,_,rfl,_,_,rfl,rfl,?_⟩
  have la:=eQ l1 l2 l3
  refine⟨_,rfl,_,rfl,_,rfl,true,true,true,a1,a2,z,rfl,⟨_,q1⟩,⟨_,q2⟩,⟨_,qz⟩,FQ (K:=K) (xs:=held.map V.int) (ys:=coming.map V.int) (zs:=poured.map V.int) (n:=n) (by simpa using l1) (by simpa using l2) (by simpa using l3)
   (λ D i r Z H'=>H D=none/\aH H H'/\H' D=some (.lst r)/\r=((eR held coming poured).take i).map V.int/\∃ v,Z=[v])
   (λ D i r Z H' p=>⟨p.2.1.tup q1,p.2.1.tup q2,p.2.1.tup qz⟩) (λ D hD=>⟨hD,aH.new hD,aB,by simp,none,rfl⟩) ?_ ?_⟩
  rotate_left
  ·rintro D i x0 y0 z0 r Z H' Tt hx0 hy0 hz0 ⟨hD,sm,hDl,rfl,v,rfl⟩ hT
   rw[List.getElem?_map] at hx0 hy0 hz0
   obtain⟨x,hx,rfl⟩:=Option.map_eq_some_iff.mp hx0
   obtain⟨y,hy,rfl⟩:=Option.map_eq_some_iff.mp hy0
   obtain⟨z',hz,rfl⟩:=Option.map_eq_some_iff.mp hz0
   have hi:=r9 hx hy hz
   have hil:=(List.getElem?_eq_some_iff.mp hi).1
   have nT:D≠Tt:=aN hDl hT
   refine cT ?_
   refine⟨_,rfl,true,Tt,[x,y,z'],rfl,bO.of aB,by rw[aO nT];exact hDl,aP (by simp;omega),hD,?_,aB,?_,_,rfl⟩
   ·intro b o e
    rw[aO (aN e hD)]
    exact aH.new hT b o (sm b o e)
   ·rw[aZ hi,List.map_append]
    have:[x,y,z'].sum=x+y+z':=by simp;omega
    rw[this];rfl
  ·rintro D r Z H1 ⟨hD,sm,hDl,rfl,_⟩
   rw[<- la,List.take_length] at hDl
   refine⟨_,rfl,_,rfl,true,true,ax,a3,rfl,⟨_,sm.tup qx⟩,⟨_,sm.tup q3⟩,DR (K:=K) (xs:=xs) (ys:=doors.map V.bl) (n:=sps.length) exl (by rw[List.length_map,l4])
    (λ i Z H'=>aH H H'/\H' D=some (.lst ((cE (eR held coming poured) (sps.take i) (doors.take i)).map V.int))/\
     ∃ v7 v8 v9 v10,Z=[some (.ref ax),some (.ref ay),some (.ref z),some (.ref a1),some (.ref a2),some (.ref a3),some (.ref D),v7,v8,v9,v10])
    (λ i Z H' p=>⟨p.1.tup qx,p.1.tup q3⟩) ⟨sm,by cases sps <;> exact hDl,none,none,none,none,rfl⟩ ?_ ?_⟩
   ·rintro Z H2 ⟨sm2,h2,v7,v8,v9,v10,rfl⟩
    rw[<- l4,List.take_length] at h2
    rw[l4,List.take_length] at h2
    refine⟨_,rfl,?_⟩
    exact k D H2 sm2 hD h2
   ·rintro i x y Z H2 Tt hx hy ⟨sm2,h2,v7,v8,v9,v10,rfl⟩ hT
    obtain⟨sp,hsi,sa,rfl,qs⟩:=nE lx hx
    rw[List.getElem?_map] at hy
    obtain⟨dr,hdi,rfl⟩:=Option.map_eq_some_iff.mp hy
    have nT:D≠Tt:=aN h2 hT
    have sm3:aH H (upd H2 Tt (.tup [.ref sa,.bl dr])):=λ b o e=>aH.new hT b o (sm2 b o e)
    have h3:upd H2 Tt (.tup [.ref sa,.bl dr]) D=some (.lst ((cE (eR held coming poured) (sps.take i) (doors.take i)).map V.int)):=by rw[aO nT];exact h2
    refine⟨Tt,_,rfl,bO.of aB,rfl,_,_,rfl,⟨sa,_,rfl,sm3.tup qs,rfl,_,_,rfl,_,_,rfl,_,_,rfl,rfl,_,_,rfl,rfl,?_⟩⟩
    refine⟨_,rfl,_,rfl,?_⟩
    have snoc:=lU sps doors i (eR held coming poured) sp dr hsi hdi
    cases dr with
    | false=>
     refine j5 ?_
     refine⟨sm3,?_,_,_,_,_,rfl⟩
     rw[snoc];exact h3
    | true=>
     refine jT ?_
     have hs:=hsp sp (List.mem_of_getElem? hsi)
     have hlen:(cE (eR held coming poured) (sps.take i) (doors.take i)).length=n:=by rw[eB,la]
     have hlt:sp.1.toNat < (cE (eR held coming poured) (sps.take i) (doors.take i)).length:=by rw[hlen];omega
     have hg:((cE (eR held coming poured) (sps.take i) (doors.take i)).map V.int)[sp.1.toNat]? = some (.int ((cE (eR held coming poured) (sps.take i) (doors.take i)).getD sp.1.toNat 0)):=by
      rw[List.getElem?_map,List.getD_eq_getElem?_getD];simp [hlt]
     refine⟨_,rfl,_,rfl,D,_,sp.1,_,rfl,rfl,bR.of h3,hs.1,by omega,hg,_,rfl,_,_,rfl,rfl,D,_,sp.1,sp.1.toNat,rfl,rfl,h3,kJ hs.1 (by rw[List.length_map,hlen];omega),?_⟩
     refine⟨sm3.put hD,?_,_,_,_,_,rfl⟩
     rw[aB,snoc,eP,if_pos rfl,List.map_set]
end
end Tw
namespace Tw
open PySem L2
theorem iK:∀ (vs:List Vs) (hs:List Int),vs.length=hs.length->(bW vs hs).length=vs.length
 | [],_,_=>by simp [bW]
 | _::_,[],h=>by simp at h
 | a::vs,b::hs,h=>by simp only [bW,List.length_cons];rw[iK vs hs (by simpa using h)]
section
variable {P:Program}{w:World}{K:PySem.W.Frag}{mg:Str->Option Value}{base:Heap}
theorem dS {H:Hp}{net:Net}{x:V} (h:Is K H (eF net) x):∃ (a b c:Addr) (xs ys:List V),x=.ref a/\bO K H a [.ref b,.ref c]/\bO K H b xs/\IsL K H (net.vs.map nU) xs/\bO K H c ys/\IsL K H (net.sps.map wK) ys:=by
 obtain⟨a,zs,rfl,q,l⟩:=(show Is K H (.tup [.tup (net.vs.map nU),.tup (net.sps.map wK)]) x from h).un
 obtain⟨x1,r,rfl,h1,l⟩:=l.un
 obtain⟨x2,r,rfl,h2,l⟩:=l.un
 have:=l.un0
 subst this
 obtain⟨b,xs,rfl,q1,l1⟩:=h1.un
 obtain⟨c,ys,rfl,q2,l2⟩:=h2.un
 exact⟨a,b,c,xs,ys,rfl,q,q1,l1,q2,l2⟩
structure StOk (net:Net) (held coming:List Int) (doors:List Bool):Prop where
 h:held.length=net.vs.length
 c:coming.length=net.vs.length
 d:doors.length=net.sps.length
theorem jH:FnScope ["net","state","poured","vessels","spouts","held","tipped","sent","number","has","left","tips","coming","doors"] ["net","state","poured"] (aK (bH 13)):=⟨rfl,rfl,rfl,by decide +kernel,rfl,by decide +kernel,by decide +kernel⟩
end
end Tw
namespace Tw
open PySem L2
section
variable {P:Program}{w:World}{K:PySem.W.Frag}{mg:Str->Option Value}{base:Heap}
noncomputable def eY (H:Hp) (t sl:Addr):Prop:=∃ (ns:List Int) (pos cell:Int),H t=some (.lst [.ref sl,.int pos,.int cell])/\H sl=some (.lst (ns.map V.int))/\ns.length<=1000
theorem eY.mut {H:Hp}{t sl:Addr} (h:eY H t sl):iY (H t):=by obtain⟨ns,pos,cell,e,_⟩:=h;rw[e];exact trivial
theorem eY.same {H H':Hp}{t sl:Addr} (h:eY H t sl) (s:aH H H'):eY H' t sl:=by
 obtain⟨ns,pos,cell,e,f,g⟩:=h;exact⟨ns,pos,cell,s _ _ e,s _ _ f,g⟩
noncomputable def hU:Sp:=λ vs H Q _=>∃ (t sl:Addr) (many:Int),vs=[.ref t,.int many]/\eY H t sl/\0 < many/\many < 1000000/\
 ∀ (r:Int) H',d8 t H H'->eY H' t sl->0<=r->r < many->Q (.int r) H'
noncomputable def tY:Sp:=λ vs H Q _=>∃ (t sl:Addr) (many:Int),vs=[.ref t,.int many]/\eY H t sl/\0 < many/\many < 2 ^ 200/\
 ∀ (r:Int) H',d8 t H H'->eY H' t sl->0<=r->r < many->Q (.int r) H'
noncomputable abbrev u7 (K:PySem.W.Frag):TS:=i7 (iJ (iG (rI (λ _ j=>0 < j) λ i j=>.int (i % j)) (iG (x9 K) (dP 0) (tC (.int 2))) (dP 1)) (fX 4)) (i7 (iJ (iG (rI GV λ i j=>.int (i / j)) (iG (x9 K) (dP 0) (tC (.int 2))) (dP 1)) (DQ (dP 0) (tC (.int 2)) vG)) (JG (dP 4)))
noncomputable abbrev CC (K:PySem.W.Frag):TS:=i7 (iJ (iG (sQ λ i j=>.int (i+j)) (iG (x9 K) (dP 0) (tC (.int 1))) (tC (.int 1))) (DQ (dP 0) (tC (.int 1)) vG)) (iJ (dP 3) (DQ (dP 0) (tC (.int 2)) vG))
noncomputable abbrev CD (K:PySem.W.Frag):TS:=i7 (iJ (iG (rI (λ _ j=>0 < j) λ i j=>.int (i % j)) (iG (sQ λ i j=>.int (i+j)) (dP 3) (iG (rI wJ λ i j=>.int (i * j)) (tC (.int 1000003)) (iG (x9 K) (dP 0) (tC (.int 1))))) (dP 2)) (fX 3)) (i7 (iJ (iG (rI (λ _ j=>0 < j) λ i j=>.int (i % j)) (iG (sQ λ i j=>.int (i+j)) (iG (sQ λ i j=>.int (i+j)) (iG (rI wJ λ i j=>.int (i * j)) (dP 3) (dP 3)) (iG (rI wJ λ i j=>.int (i * j)) (tC (.int 1181783497276652981)) (dP 3))) (tC (.int 2049848353892358983))) (dP 2)) (fX 3)) (iJ (iG (rI (λ _ j=>0 < j) λ i j=>.int (i % j)) (iG (sQ λ i j=>.int (i+j)) (iG (rI wJ λ i j=>.int (i * j)) (dP 3) (dP 3)) (tC (.int 1442695040888963407))) (dP 2)) (fX 3)))
noncomputable abbrev HK (K:PySem.W.Frag):TT:=tOr (yE (iG (sQ λ i j=>.bl (decide (j<=i))) (iG (x9 K) (dP 0) (tC (.int 1))) (J3 (JR K) (fH (iG (x9 K) (dP 0) (tC (.int 0))) oG)))) (yE (iG (sQ λ i j=>.bl (decide (i < j))) (dP 3) (iG (rI L0 λ i j=>.int (i ^ j.toNat)) (tC (.int 10)) (tC (.int 18)))))
noncomputable abbrev dE (Q:VK):Ends:={ nx:=λ _ H'=>Q .non H',rt:=Q }
theorem mL:FnScope ["tape","many","prime","cell","found"] ["tape","many"] (aK (bH 36)):=⟨rfl,rfl,rfl,by decide +kernel,rfl,by decide +kernel,by decide +kernel⟩
theorem lD {f:Addr}{fd:FuncData} (F:Fun K "_law_draw" "_law_draw" (bH 36) f fd) (T:Txt mg):FnOk P w K mg base j3 1 f fd ["tape","many"] tY:=by
 refine F.ok mL (λ vs H Q E h=>?_) (λ cdv A outer s H vs Q E hr h=>?_)
 ·obtain⟨t,sl,many,rfl,_⟩:=h;rfl
 ·obtain⟨t,sl,many,rfl,⟨ns,pos,cell,ht,hsl,hns⟩,hm0,hm1,k⟩:=h
  have sc:=mL
  refine⟨_,(aD (aS (i:=2) sc.nd rfl (Or.inl rfl) aG)
   (aD (fC (cH vL (aQ (aJ (K:=K) rfl) (pv 0) aG (λ _ _=>rfl)) (pv 1) (cP _)) (aD (aS (i:=3) sc.nd rfl (Or.inl rfl) aG)
   (aD (fC (cH mS (aR (bN (K:=K) rfl) rfl T.b_len PySem.boot_len (aA (aQ (aJ (K:=K) rfl) (pv 0) aG (λ _ _=>rfl)) aC)) aG (cP _)) (aM (aS (i:=3) sc.nd rfl (Or.inl rfl) (aQ (aJ (K:=K) rfl) (aQ (aJ (K:=K) rfl) (pv 0) aG (λ _ _=>rfl)) (aW lQ (aQ (aJ (K:=K) rfl) (pv 0) aG (λ _ _=>rfl)) (aR (bN (K:=K) rfl) rfl T.b_len PySem.boot_len (aA (aQ (aJ (K:=K) rfl) (pv 0) aG (λ _ _=>rfl)) aC))) (λ _ _=>rfl)))) cS)
   (aD (fC (PW.pt (CJ (cH GL (aQ (aJ (K:=K) rfl) (pv 0) aG (λ _ _=>rfl)) (aR (bN (K:=K) rfl) rfl T.b_len PySem.boot_len (aA (aQ (aJ (K:=K) rfl) (pv 0) aG (λ _ _=>rfl)) aC)) (cP _)) (xA (cH vL (pv 3) (aW CY aG aG) (cP _))))) (aD (aS (i:=3) sc.nd rfl (Or.inl rfl) (aW lQ (aW cO (pv 3) (aW gE aG (aQ (aJ (K:=K) rfl) (pv 0) aG (λ _ _=>rfl)))) (pv 2)))
   (aD (aS (i:=3) sc.nd rfl (Or.inl rfl) (aW lQ (aW cO (aW cO (aW gE (pv 3) (pv 3)) (aW gE aG (pv 3))) aG) (pv 2)))
   (aM (aS (i:=3) sc.nd rfl (Or.inl rfl) (aW lQ (aW cO (aW gE (pv 3) (pv 3)) aG) (pv 2)))))) cS)
   (aD (cI (aW cO (aQ (aJ (K:=K) rfl) (pv 0) aG (λ _ _=>rfl)) aG) (jO (pv 0) aG fR))
   (aM (cI (pv 3) (jO (pv 0) aG fR))))))) cS)
   (aD (aS (i:=4) sc.nd rfl (Or.inl rfl) (aW lQ (aQ (aJ (K:=K) rfl) (pv 0) aG (λ _ _=>rfl)) (pv 1)))
   (aD (cI (aW CZ (aQ (aJ (K:=K) rfl) (pv 0) aG (λ _ _=>rfl)) (pv 1)) (jO (pv 0) aG fR))
   (aM (bX (pv 4))))))),?_⟩
  have nst:sl≠t:=GM hsl ht (by intro z;injection z with z;cases ns <;> simp at z)
  have ix:∀ {H1:Hp}{p' c':Int}{Q:VK},H1 t=some (.lst [.ref sl,.int p',.int c'])->Q (.ref sl) H1->x9 K (.ref t) (.int 0) H1 Q:=λ e q=>.inl ⟨t,_,0,_,rfl,rfl,bR.of e,rfl,q⟩
  have ix1:∀ {H1:Hp}{p' c':Int}{Q:VK},H1 t=some (.lst [.ref sl,.int p',.int c'])->Q (.int p') H1->x9 K (.ref t) (.int 1) H1 Q:=λ e q=>.inl ⟨t,_,1,_,rfl,rfl,bR.of e,rfl,q⟩
  have KG:∀ {H1:Hp}{p' c':Int}{Q:VK},H1 t=some (.lst [.ref sl,.int p',.int c'])->Q (.int c') H1->x9 K (.ref t) (.int 2) H1 Q:=λ e q=>.inl ⟨t,_,2,_,rfl,rfl,bR.of e,rfl,q⟩
  have tail:∀ (v3:Option V) (H1:Hp) (p' c':Int),d8 t H H1->H1 t=some (.lst [.ref sl,.int p',.int c'])->u7 K (dE Q) [some (.ref t),some (.int many),some (.int 2305843009213693951),v3,none] H1:=by
   intro v3 H1 p' c' bt e
   refine⟨_,rfl,KG e ⟨_,rfl,_,_,rfl,rfl,hm0,?_⟩⟩
   refine⟨_,rfl,KG e ⟨_,rfl,_,_,rfl,rfl,⟨hm0,hm1⟩,_,rfl,t,_,2,2,rfl,rfl,e,rfl,_,rfl,?_⟩⟩
   refine k _ _ (bt.trans d8.upd) ⟨ns,p',c' / many,aB,?_,hns⟩ (Int.emod_nonneg _ (by omega)) (Int.emod_lt_of_pos _ hm0)
   rw[aO nst];exact bt sl _ nst hsl
  refine⟨_,rfl,KG ht ⟨_,rfl,_,_,rfl,rfl,_,rfl,?_⟩⟩
  refine hX (λ _=>?_) (λ _=>tail none H pos cell (d8.refl H) ht)
  have mid:∀ (c':Int),CC K { nx:=u7 K (dE Q),rt:=Q } [some (.ref t),some (.int many),some (.int 2305843009213693951),some (.int c'),none] H:=by
   intro c'
   refine⟨_,rfl,ix1 ht ⟨_,_,rfl,rfl,_,rfl,t,_,1,1,rfl,rfl,ht,rfl,?_⟩⟩
   refine⟨_,rfl,_,rfl,t,_,2,2,rfl,rfl,aB,rfl,?_⟩
   exact tail (some (.int c')) _ (pos+1) c' (d8.upd.trans d8.upd) aB
  have big:∀ (c':Int),i7 (A7 (HK K) (CD K) GA) (CC K) { nx:=u7 K (dE Q),rt:=Q } [some (.ref t),some (.int many),some (.int 2305843009213693951),some (.int c'),none] H:=by
   intro c'
   have body:∀ σ,σ=[some (.ref t),some (.int many),some (.int 2305843009213693951),some (.int c'),none]->CD K { nx:=CC K { nx:=u7 K (dE Q),rt:=Q },rt:=Q } σ H:=by
    rintro σ rfl
    have prime:(0:Int) < 2305843009213693951:=by decide
    refine⟨_,rfl,_,rfl,ix1 ht ⟨_,_,rfl,rfl,.inl ⟨by decide,by decide⟩,_,_,rfl,rfl,_,rfl,_,_,rfl,rfl,prime,?_⟩⟩
    have b1:=Int.emod_nonneg (c'+1000003 * pos) (show (2305843009213693951:Int)≠0 by decide)
    have b2:=Int.emod_lt_of_pos (c'+1000003 * pos) prime
    generalize (c'+1000003 * pos) % 2305843009213693951=c1 at b1 b2
    refine⟨_,rfl,_,rfl,_,_,rfl,rfl,.inl ⟨by omega,by omega⟩,_,rfl,_,_,rfl,rfl,.inl ⟨by decide,by decide⟩,_,_,rfl,rfl,_,_,rfl,rfl,_,rfl,_,_,rfl,rfl,prime,?_⟩
    have b3:=Int.emod_nonneg (c1 * c1+1181783497276652981 * c1+2049848353892358983) (show (2305843009213693951:Int)≠0 by decide)
    have b4:=Int.emod_lt_of_pos (c1 * c1+1181783497276652981 * c1+2049848353892358983) prime
    generalize (c1 * c1+1181783497276652981 * c1+2049848353892358983) % 2305843009213693951=c2 at b3 b4
    refine⟨_,rfl,_,rfl,_,_,rfl,rfl,.inl ⟨by omega,by omega⟩,_,_,rfl,rfl,_,rfl,_,_,rfl,rfl,prime,?_⟩
    exact mid _
   refine⟨_,rfl,ix1 ht ⟨_,rfl,ix ht ⟨sl,_,rfl,.inl (bR.of hsl),_,_,rfl,rfl,_,rfl,?_⟩⟩⟩
   refine hX (λ _=>?_) (λ _=>?_)
   ·refine jT ?_
    exact body _ rfl
   ·refine⟨_,rfl,_,_,rfl,rfl,⟨by decide,by decide,by decide⟩,_,_,rfl,rfl,_,rfl,?_⟩
    refine hX (λ _=>body _ rfl) (λ _=>mid _)
  refine⟨_,rfl,ix ht ⟨sl,_,rfl,.inl (bR.of hsl),_,_,rfl,rfl,_,rfl,?_⟩⟩
  refine hX (λ hlen=>?_) (λ _=>big 0)
  have hpos:0 < ns.length:=by have:=of_decide_eq_true hlen;simpa using this
  refine⟨_,rfl,ix ht ⟨_,rfl,ix1 ht ⟨_,rfl,ix ht ⟨sl,_,rfl,.inl (bR.of hsl),_,_,rfl,rfl,(show (0:Int) < (((ns.map V.int).length:Nat):Int) by rw[List.length_map];omega),?_⟩⟩⟩⟩
  have m1:=Int.emod_nonneg pos (show (((ns.map V.int).length:Nat):Int)≠0 by rw[List.length_map];omega)
  have m2:=Int.emod_lt_of_pos pos (show (0:Int) < (((ns.map V.int).length:Nat):Int) by rw[List.length_map];omega)
  rw[List.length_map] at m1 m2
  have hix:(ns.map V.int)[(pos % ((ns.map V.int).length:Int)).toNat]? = some (.int (ns[(pos % (ns.length:Int)).toNat]'(by omega))):=by
   rw[List.length_map,List.getElem?_map];simp [show (pos % (ns.length:Int)).toNat < ns.length by omega]
  refine .inl ⟨sl,_,_,_,rfl,rfl,bR.of hsl,kN (by rw[List.length_map];exact m1) hix,?_⟩
  exact big _
theorem uF {f:Addr}{fd:FuncData} (F:Fun K "_law_draw" "_law_draw" (bH 36) f fd) (T:Txt mg):FnOk P w K mg base j3 1 f fd ["tape","many"] hU:=
 (lD F T).imp λ vs H Q E ⟨t,sl,many,e,tp,h0,h1,k⟩=>⟨t,sl,many,e,tp,h0,Int.lt_of_lt_of_le h1 (by decide),k⟩
end
end Tw
namespace Tw
open PySem L2
structure Ext (t sl:Addr) (H H':Hp):Prop where
 bt:d8 t H H'
 tp:eY H' t sl
theorem eY.some {H:Hp}{t sl:Addr} (h:eY H t sl):∃ o,H t=some o:=by obtain⟨ns,pos,cell,e,_⟩:=h;exact⟨_,e⟩
theorem eY.put {H:Hp}{t sl p:Addr}{o:HO} (h:eY H t sl) (h1:p≠t) (h2:p≠sl):eY (upd H p o) t sl:=by
 obtain⟨ns,pos,cell,e,f,g⟩:=h
 exact⟨ns,pos,cell,by rw[aO (Ne.symm h1)];exact e,by rw[aO (Ne.symm h2)];exact f,g⟩
theorem eY.ne_sl {H:Hp}{t sl p:Addr} (h:eY H t sl) (hp:H p=none):p≠sl:=by
 obtain⟨ns,pos,cell,e,f,g⟩:=h
 exact λ z=>by rw[z,f] at hp;cases hp
theorem Ext.new {t sl p:Addr}{H H':Hp}{o:HO} (e:Ext t sl H H') (hp:H' p=none):Ext t sl H (upd H' p o):=⟨e.bt.trans (aH.new hp).but,e.tp.same (aH.new hp)⟩
theorem Ext.ne {t sl p:Addr}{H H':Hp} (e:Ext t sl H H') (hp:H' p=none):p≠t:=by
 obtain⟨o,h⟩:=e.tp.some
 intro z;rw[z,h] at hp;cases hp
theorem Ext.ts {K:PySem.W.Frag}{t sl:Addr}{H H':Hp} (e:Ext t sl H H') (tp:eY H t sl):bM K H H':=e.bt.ts tp.mut
noncomputable def Gn (t sl:Addr) (σ:St) (H0:Hp) (P:V->Prop) (te:TE):Prop:=∀ H Q,Ext t sl H0 H->(∀ v H',Ext t sl H0 H'->d8 t H H'->P v->Q v H')->te σ H Q
section
variable {K:PySem.W.Frag}{t sl:Addr}{σ:St}{H0:Hp}{P:V->Prop}{a b c d:TE}
noncomputable def dJ (lo hi:Int):V->Prop:=λ v=>∃ i,v=.int i/\lo<=i/\i < hi
theorem Gn.imp {P':V->Prop} (h:Gn t sl σ H0 P a) (f:∀ v,P v->P' v):Gn t sl σ H0 P' a:=λ H Q e k=>h H Q e λ v H' e' b p=>k v H' e' b (f v p)
theorem qS {v:V} (h:P v):Gn t sl σ H0 P (tC v):=λ H Q e k=>k v H e (d8.refl H) h
theorem KL {i:Nat}{v:V} (cf:σ[i]? = some (some v)) (h:P v):Gn t sl σ H0 P (dP i):=λ H Q e k=>⟨v,cf,k v H e (d8.refl H) h⟩
theorem gY (ha:Gn t sl σ H0 P a) (hb:Gn t sl σ H0 P b) (hc:Gn t sl σ H0 (dJ 0 2) c):Gn t sl σ H0 P (iG (x9 K) (EL (fH a (fH b oG))) c):=by
 intro H Q e k
 refine ha H _ e λ v1 H1 e1 b1 p1=>hb H1 _ e1 λ v2 H2 e2 b2 p2=>⟨(show 2<=sizeLine by decide),λ p hp=>hc _ _ (e2.new hp) λ v H3 e3 b3 ⟨i,hi,h0,h1⟩=>?_⟩
 subst hi
 have hl:=b3 p _ (e2.ne hp) aB
 have hb:d8 t H H3:=b1.trans (b2.trans ((aH.new hp).but.trans b3))
 rcases (show i=0\/i=1 by omega) with rfl | rfl
 ·exact .inl ⟨p,_,0,v1,rfl,rfl,bR.of hl,rfl,k v1 H3 e3 hb p1⟩
 ·exact .inl ⟨p,_,1,v2,rfl,rfl,bR.of hl,rfl,k v2 H3 e3 hb p2⟩
theorem vW (ha:Gn t sl σ H0 P a) (hb:Gn t sl σ H0 P b) (hd:Gn t sl σ H0 P d) (hc:Gn t sl σ H0 (dJ 0 3) c):Gn t sl σ H0 P (iG (x9 K) (EL (fH a (fH b (fH d oG)))) c):=by
 intro H Q e k
 refine ha H _ e λ v1 H1 e1 b1 p1=>hb H1 _ e1 λ v2 H2 e2 b2 p2=>hd H2 _ e2 λ v4 H4 e4 b4 p4=>⟨(show 3<=sizeLine by decide),λ p hp=>hc _ _ (e4.new hp) λ v H3 e3 b3 ⟨i,hi,h0,h1⟩=>?_⟩
 subst hi
 have hl:=b3 p _ (e4.ne hp) aB
 have hb:d8 t H H3:=b1.trans (b2.trans (b4.trans ((aH.new hp).but.trans b3)))
 rcases (show i=0\/i=1\/i=2 by omega) with rfl | rfl | rfl
 ·exact .inl ⟨p,_,0,v1,rfl,rfl,bR.of hl,rfl,k v1 H3 e3 hb p1⟩
 ·exact .inl ⟨p,_,1,v2,rfl,rfl,bR.of hl,rfl,k v2 H3 e3 hb p2⟩
 ·exact .inl ⟨p,_,2,v4,rfl,rfl,bR.of hl,rfl,k v4 H3 e3 hb p4⟩
theorem uJ {i:Nat}{lo hi:Int} (cf:σ[i]? = some (some (.ref t))) (hlo:0 < lo) (hhi:hi<=1000000) (ha:Gn t sl σ H0 (dJ lo hi) a):Gn t sl σ H0 (λ v=>∃ r m,v=.int r/\0<=r/\r < m/\lo<=m/\m < hi) (sE hU [] E0 (fH (dP i) (fH a oG))):=by
 intro H Q e k
 refine⟨_,cf,ha H _ e λ v H1 e1 b1 ⟨m,hm,h0,h1⟩=>?_⟩
 subst hm
 exact⟨t,sl,m,rfl,e1.tp,by omega,by omega,λ r H2 b2 t2 r0 r1=>k _ H2 ⟨e1.bt.trans b2,t2⟩ (b1.trans b2) ⟨r,m,rfl,r0,r1,h0,h1⟩⟩
theorem cF {i:Nat}{m:Int} (cf:σ[i]? = some (some (.ref t))) (h0:0 < m) (h1:m < 1000000):Gn t sl σ H0 (dJ 0 m) (sE hU [] E0 (fH (dP i) (fH (tC (.int m)) oG))):=
 (uJ (lo:=m) (hi:=m+1) cf h0 (by omega) (qS ⟨m,rfl,by omega,by omega⟩)).imp λ v ⟨r,m',e,a,b,c,d⟩=>⟨r,e,a,by omega⟩
theorem jV {i j:Nat}{m:Int} (cf:σ[i]? = some (some (.ref t))) (hj:σ[j]? = some (some (.int m))) (h0:0 < m) (h1:m < 1000000):Gn t sl σ H0 (dJ 0 m) (sE hU [] E0 (fH (dP i) (fH (dP j) oG))):=
 (uJ (lo:=m) (hi:=m+1) cf h0 (by omega) (KL hj ⟨m,rfl,by omega,by omega⟩)).imp λ v ⟨r,m',e,a,b,c,d⟩=>⟨r,e,a,by omega⟩
theorem uK {x y l h:Int} (ha:Gn t sl σ H0 (dJ x y) a) (hb:Gn t sl σ H0 (dJ l h) b):Gn t sl σ H0 (dJ (x+l) (y+h - 1)) (iG (sQ λ i j=>.int (i+j)) a b):=by
 intro H Q e k
 refine ha H _ e λ v1 H1 e1 b1 ⟨i,hi,i0,i1⟩=>hb H1 _ e1 λ v2 H2 e2 b2 ⟨j,hj,j0,j1⟩=>?_
 subst hi hj
 exact⟨i,j,rfl,rfl,k _ H2 e2 (b1.trans b2) ⟨_,rfl,by omega,by omega⟩⟩
theorem DO {y m:Int} (hm:0 < m) (hm2:m < 1000000) (ha:Gn t sl σ H0 (dJ 0 y) a):Gn t sl σ H0 (λ v=>∃ i,v=.int (i / m)/\0<=i/\i < y) (iG (rI G8 λ i j=>.int (i / j)) a (tC (.int m))):=by
 intro H Q e k
 refine ha H _ e λ v1 H1 e1 b1 ⟨i,hi,i0,i1⟩=>?_
 subst hi
 exact⟨i,m,rfl,rfl,⟨hm,by omega⟩,k _ H1 e1 b1 ⟨i,rfl,i0,i1⟩⟩
theorem xT {y c0:Int} (ha:Gn t sl σ H0 (dJ 0 y) a):Gn t sl σ H0 (λ v=>∃ b:Bool,v=.bl b) (iG rEq a (tC (.int c0))):=by
 intro H Q e k
 refine ha H _ e λ v1 H1 e1 b1 ⟨i,hi,i0,i1⟩=>?_
 subst hi
 exact⟨rfl,k _ H1 e1 b1 ⟨_,rfl⟩⟩
theorem DN {y c0:Int} (ha:Gn t sl σ H0 (dJ 0 y) a):Gn t sl σ H0 (λ v=>∃ b:Bool,v=.bl b) (iG (sQ λ i j=>.bl (decide (j < i))) a (tC (.int c0))):=by
 intro H Q e k
 refine ha H _ e λ v1 H1 e1 b1 ⟨i,hi,i0,i1⟩=>?_
 subst hi
 exact⟨i,c0,rfl,rfl,k _ H1 e1 b1 ⟨_,rfl⟩⟩
noncomputable abbrev CH:List V->Hp->VK->Prop:=λ xs H Q=>(∃ i,xs=[.int i]/\Q (.int i) H)\/∃ k,xs=[.bl k]/\Q (.int (if k then 1 else 0)) H
theorem DM {i:Nat}{s:Bool} (cf:σ[i]? = some (some (.bl s))):Gn t sl σ H0 (dJ 0 2) (J3 CH (fH (dP i) oG)):=by
 intro H Q e k
 refine⟨_,cf,.inr ⟨s,rfl,k _ H e (d8.refl H) ?_⟩⟩
 cases s
 ·exact⟨0,rfl,by omega,by omega⟩
 ·exact⟨1,rfl,by omega,by omega⟩
theorem oQ {i:Nat}{s:Bool}{x y lo hi:Int} (cf:σ[i]? = some (some (.bl s))) (h1:lo<=x/\x < hi) (h2:lo<=y/\y < hi):Gn t sl σ H0 (dJ lo hi) (iG (x9 K) (EL (fH (tC (.int x)) (fH (tC (.int y)) oG))) (J3 CH (fH (dP i) oG))):=
 gY (qS ⟨x,rfl,h1.1,h1.2⟩) (qS ⟨y,rfl,h2.1,h2.2⟩) (DM cf)
theorem oR (ha:Gn t sl σ H0 (dJ 0 4) a):Gn t sl σ H0 (dJ 0 2) (iG (rI G8 λ i j=>.int (i / j)) a (tC (.int 3))):=
 (DO (by decide) (by decide) ha).imp λ v ⟨i,e,a,b⟩=>⟨i / 3,e,by omega,by omega⟩
theorem lG {lo hi lo' hi':Int} (h:Gn t sl σ H0 (dJ lo hi) a) (h1:lo'<=lo) (h2:hi<=hi'):Gn t sl σ H0 (dJ lo' hi') a:=h.imp λ v ⟨i,e,a,b⟩=>⟨i,e,by omega,by omega⟩
theorem jW {i:Nat}{lo hi:Int} (cf:σ[i]? = some (some (.ref t))) (hlo:0 < lo) (hhi:hi<=1000000) (ha:Gn t sl σ H0 (dJ lo hi) a):Gn t sl σ H0 (dJ 0 (hi - 1)) (sE hU [] E0 (fH (dP i) (fH a oG))):=
 (uJ cf hlo hhi ha).imp λ v ⟨r,m,e,a,b,c,d⟩=>⟨r,e,a,by omega⟩
end
section
variable {P:Program}{w:World}{K:PySem.W.Frag}{mg:Str->Option Value}{base:Heap}
noncomputable def wV (K:PySem.W.Frag):Sp:=λ args H Q _=>∃ (t sl:Addr) (n:Nat) (small:Bool),args=[.ref t,.int (n:Int),.bl small]/\eY H t sl/\1<=n/\n<=12/\
 ∀ (outs:List (Option Int×Int)) p H',Ext t sl H H'->outs≠[]->outs.length<=3->(∀ o∈outs,OutOk n o)->Is K H' (.tup (outs.map outD)) p->Q p H'
theorem mK:FnScope ["tape","many","small","outs","k","target","parts"] ["tape","many","small"] (aK (bH 37)):=⟨rfl,rfl,rfl,by decide +kernel,rfl,by decide +kernel,by decide +kernel⟩
theorem uD {f fD:Addr}{fd fdD:FuncData} (F:Fun K "_law_outs" "_law_outs" (bH 37) f fd) (T:Txt mg) (G__law_draw:Callee P w K mg base "_law_draw" ["tape","many"] 1 hU fD fdD):FnOk P w K mg base j3 2 f fd ["tape","many","small"] (wV K):=by
 refine F.ok mK (λ vs H Q E h=>?_) (λ cdv A outer s H vs Q E hr h=>?_)
 ·obtain⟨t,sl,n,small,rfl,_⟩:=h;rfl
 ·obtain⟨t,sl,n,small,rfl,tp,n1,n2,k⟩:=h
  have sc:=mK
  refine⟨_,(aD (aS (i:=3) sc.nd rfl (Or.inl rfl) (cK aC))
   (aD (dQ PassesOwn.never rfl (bT rfl T.b_range (aA (aW cO aG (aQ (aJ (K:=K) rfl) (cK (aA (fG G__law_draw hr (aA (pv 0) (aA aG aC))) (aA (fG G__law_draw hr (aA (pv 0) (aA aG aC))) aC))) (fG G__law_draw hr (aA (pv 0) (aA aG aC))) (λ _ _=>rfl))) aC)) (aE (i:=4) sc.nd rfl (Or.inl rfl)) (aD (aS (i:=5) sc.nd rfl (Or.inl rfl) (aQ (aJ (K:=K) rfl) (cK (aA fU (aA (fG G__law_draw hr (aA (pv 0) (aA (pv 1) aC))) (aA (fG G__law_draw hr (aA (pv 0) (aA (pv 1) aC))) aC)))) (fG G__law_draw hr (aA (pv 0) (aA aG aC))) (λ _ _=>rfl)))
   (aD (aS (i:=6) sc.nd rfl (Or.inl rfl) (aQ (aJ (K:=K) rfl) (cK (aA (fG G__law_draw hr (aA (pv 0) (aA aG aC))) (aA (fG G__law_draw hr (aA (pv 0) (aA (aQ (aJ (K:=K) rfl) (cK (aA aG (aA aG aC))) (bC iE rfl T.b_int nQ (aA (pv 2) aC)) (λ _ _=>rfl)) aC))) aC))) (aW gS (fG G__law_draw hr (aA (pv 0) (aA aG aC))) aG) (λ _ _=>rfl)))
   (aM (dM (gD (K:=K) rfl PySem.F.plainAttrs_list PySem.F.slot_list_append PySem.F.type_list_append cY (pv 3) (aA (bK (aA (pv 5) (aA (aW cO aG (pv 6)) aC))) aC)))))))
   (aM (bX (bC (bU (K:=K) rfl) rfl T.b_tuple cB (aA (pv 3) aC)))))),?_⟩
  refine⟨Nat.zero_le _,λ ol hol=>?_⟩
  have e0:Ext t sl H (upd H ol (.lst [])):=Ext.new ⟨d8.refl H,tp⟩ hol
  have no:ol≠t:=Ext.ne ⟨d8.refl H,tp⟩ hol
  refine uK (x:=1) (y:=2) (l:=0) (h:=3) (H0:=upd H ol (.lst [])) (t:=t) (sl:=sl) (qS ⟨1,rfl,by omega,by omega⟩)
   (gY (lG (cF rfl (by decide) (by decide)) (Int.le_refl _) (by decide)) (cF rfl (by decide) (by decide)) (cF rfl (by decide) (by decide))) _ _ ⟨d8.refl _,e0.tp⟩ ?_
  rintro v H1 e1 _ ⟨m,rfl,m0,m1⟩
  refine⟨m,rfl,by omega,by omega,?_⟩
  refine dR (lo:=0) (n:=m.toNat) (λ i Z H'=>Ext t sl H H'/\∃ (outs:List (Option Int×Int)) (xs:List V),H' ol=some (.lst xs)/\IsL K H' (outs.map outD) xs/\outs.length=i/\(∀ o∈outs,OutOk n o)/\
   ∃ v4 v5 v6,Z=[some (.ref t),some (.int (n:Int)),some (.bl small),some (.ref ol),v4,v5,v6]) ?_ ?_ ?_
  ·exact⟨⟨e0.bt.trans e1.bt,e1.tp⟩,[],[],e1.bt ol _ no aB,.nil,rfl,λ o ho=>(nomatch ho),none,none,none,rfl⟩
  ·rintro i Z H2 hi ⟨e2,outs,xs,ho,hl,hlen,hok,v4,v5,v6,rfl⟩
   refine vW (H0:=H2) (t:=t) (sl:=sl) (P:=λ v=>∃ o:Option Int,v=iI o/\∀ z,o=some z->0<=z/\z < n) (qS ⟨none,rfl,λ z h=>nomatch h⟩)
    ((jV (m:=(n:Int)) rfl rfl (by omega) (by omega)).imp λ v ⟨r,e,a,b⟩=>⟨some r,e,λ z h=>by cases h;exact⟨a,by omega⟩⟩)
    ((jV (m:=(n:Int)) rfl rfl (by omega) (by omega)).imp λ v ⟨r,e,a,b⟩=>⟨some r,e,λ z h=>by cases h;exact⟨a,by omega⟩⟩) (cF rfl (by decide) (by decide)) _ _ ⟨d8.refl _,e2.tp⟩ ?_
   rintro v H3 e3 _ ⟨tg,rfl,htg⟩
   refine gY (H0:=H3) (t:=t) (sl:=sl) (P:=dJ 0 60) (lG (cF rfl (by decide) (by decide)) (Int.le_refl _) (by decide))
    (lG (jW (lo:=3) (hi:=61) rfl (by decide) (by decide) (oQ rfl ⟨by decide,by decide⟩ ⟨by decide,by decide⟩)) (Int.le_refl _) (by decide)) (oR (cF rfl (by decide) (by decide))) _ _ ⟨d8.refl _,e3.tp⟩ ?_
   rintro v H4 e4 _ ⟨pt,rfl,p0,p1⟩
   have ho4:H4 ol=some (.lst xs):=e4.bt ol _ no (e3.bt ol _ no ho)
   refine⟨_,rfl,.inl ⟨rfl,_,bR.of ho4⟩,_,rfl,_,rfl,_,_,rfl,rfl,(show 2<=sizeLine by decide),λ q hq=>?_⟩
   have nq:ol≠q:=aN ho4 hq
   have hxl:xs.length=outs.length:=by rw[hl.length,List.length_map]
   have hm3:m.toNat<=3:=by omega
   refine⟨ol,xs,_,rfl,rfl,by rw[aO nq];exact ho4,aP (by omega),?_⟩
   have e5:Ext t sl H2 (upd H4 q (.tup [iI tg,.int (1+pt)])):=Ext.new ⟨e3.bt.trans e4.bt,e4.tp⟩ hq
   have ts:bM K H2 (upd (upd H4 q (.tup [iI tg,.int (1+pt)])) ol (.lst (xs++[.ref q]))):=bM.put (e5.ts e2.tp) (.inr (by rw[aO nq,ho4];exact trivial))
   refine⟨⟨λ b o hb e=>?_,?_⟩,outs++[(tg,1+pt)],xs++[.ref q],aB,?_,by simp [hlen],?_,_,_,_,rfl⟩
   ·rw[aO (aN e hol)];exact e5.bt b o hb (e2.bt b o hb e)
   ·exact e5.tp.put no (eY.ne_sl tp hol)
   ·rw[List.map_append]
    exact IsL.snoc (Is.tupOf (ds:=[BF tg,.int (1+pt)]) (bM.put (bM.refl _) (.inr (by rw[aO nq,ho4];exact trivial)) _ _ (bO.of aB)) (.cons (Is.tgOf tg) (.cons (Is.i _) .nil))) (IsL.mono ts _ _ hl)
   ·intro o ho
    rcases List.mem_append.mp ho with ho | ho
    ·exact hok o ho
    ·rw[List.mem_singleton.mp ho]
     exact⟨λ z hz=>htg z hz,by show 1<=1+pt;omega,by show 1+pt<=60;omega⟩
  ·rintro Z H2 ⟨e2,outs,xs,ho,hl,hlen,hok,v4,v5,v6,rfl⟩
   refine⟨_,rfl,ol,_,rfl,.inl ⟨bR.of ho,λ l hlf=>?_⟩⟩
   refine k outs _ _ (e2.new hlf) (λ z=>by rw[z] at hlen;simp at hlen;omega) (by omega) hok (Is.tupOf (bO.of aB) (IsL.mono (aH.new hlf).ts _ _ hl))
end
end Tw
namespace L2
theorem yZ {c:TT}{a b:TS}{D:Ends}{σ:St}{H:Hp} (I:St->Hp->Prop) (h1:∀ D':Ends,(∀ Z H',I Z H'->D'.nx Z H')->A7 c a b D' σ H) (h2:∀ Z H',I Z H'->D.nx Z H'):A7 c a b D σ H:=h1 D h2
theorem xV {i:TI}{g:TG}{b:TS}{D:Ends}{σ:St}{H:Hp} (I:St->Hp->Prop) (h1:∀ D':Ends,(∀ Z H',I Z H'->D'.nx Z H')->HA i g b D' σ H) (h2:∀ Z H',I Z H'->D.nx Z H'):HA i g b D σ H:=h1 D h2
end L2
namespace Tw
open PySem L2
section
variable {K:PySem.W.Frag}{t sl:Addr}{σ:St}{H0:Hp}{P:V->Prop}{a b c d:TE}
theorem DG {y c0:Int}{t' u':TS}{D':Ends}{H:Hp} (ha:Gn t sl σ H0 (dJ 0 y) a) (e:Ext t sl H0 H) (k:∀ (b:Bool) H',Ext t sl H0 H'->d8 t H H'->if b=true then t' D' σ H' else u' D' σ H'):A7 (yE (iG rEq a (tC (.int c0)))) t' u' D' σ H:=
 xT ha H _ e λ v H' e' b ⟨c,hc⟩=>⟨c,hc,k c H' e' b⟩
theorem AT {i:Nat}{s:Bool} (cf:σ[i]? = some (some (.bl s))) (ha:Gn t sl σ H0 (dJ 0 2) a):Gn t sl σ H0 (dJ 0 2) (iG (rI wJ λ i j=>.int (i * j)) a (J3 CH (fH (G9 (dP i)) oG))):=by
 intro H Q e k
 refine ha H _ e λ v1 H1 e1 b1 ⟨j,hj,j0,j1⟩=>⟨_,cf,s,rfl,.inr ⟨!s,rfl,?_⟩⟩
 subst hj
 refine⟨j,_,rfl,rfl,.inl ⟨by omega,by omega⟩,k _ H1 e1 b1 ?_⟩
 cases s
 ·exact⟨j,by simp,j0,j1⟩
 ·exact⟨0,by simp,by omega,by omega⟩
theorem DL {j:Nat}{x y:Int} (hj:σ[j]? = some (some (.int y))):Gn t sl σ H0 (dJ (x - y) (x - y+1)) (iG (sQ λ i j=>.int (i - j)) (tC (.int x)) (dP j)):=λ H Q e k=>
 ⟨_,hj,x,y,rfl,rfl,k _ H e (d8.refl H) ⟨_,rfl,by omega,by omega⟩⟩
theorem zH {j:Nat}{y l h:Int} (hj:σ[j]? = some (some (.int y))) (hb:Gn t sl σ H0 (dJ l h) b):Gn t sl σ H0 (dJ (y+l) (y+h)) (iG (sQ λ i j=>.int (i+j)) (dP j) b):=
 lG (uK (x:=y) (y:=y+1) (KL hj ⟨y,rfl,by omega,by omega⟩) hb) (by omega) (by omega)
end
section
variable {P:Program}{w:World}{K:PySem.W.Frag}{mg:Str->Option Value}{base:Heap}
structure VFull (i:Nat) (v:Vs):Prop where
 sz:v.size<=60
 br:v.size<=v.brim
 bh:v.brim<=200
 sp:∀ t,v.spill=some t->(i:Int) < t
structure NetFull (net:Net):Prop where
 vs:∀ i v,net.vs[i]? = some v->VFull i v
 sps:∀ s∈net.sps,0<=s.2.1/\s.2.1<=60
noncomputable def pH (K:PySem.W.Frag):Sp:=λ args H Q _=>∃ (t sl:Addr) (i n m:Nat) (small:Bool),args=[.ref t,.int (i:Int),.int (n:Int),.int (m:Int),.bl small]/\eY H t sl/\i < n/\n<=12/\m<=12/\
 ∀ (v:Vs) p H',Ext t sl H H'->VOk n m v->VFull i v->Is K H' (nU v) p->Q p H'
theorem jK:FnScope ["tape","number","many","spouts","small","size","brim","spill","acts","k"] ["tape","number","many","spouts","small"] (aK (bH 38)):=⟨rfl,rfl,rfl,by decide +kernel,rfl,by decide +kernel,by decide +kernel⟩
theorem qJ {f fD fO:Addr}{fd fdD fdO:FuncData} (F:Fun K "_law_vessel" "_law_vessel" (bH 38) f fd) (T:Txt mg) (G__law_draw:Callee P w K mg base "_law_draw" ["tape","many"] 1 hU fD fdD)
  (G__law_outs:Callee P w K mg base "_law_outs" ["tape","many","small"] 2 (wV K) fO fdO):FnOk P w K mg base j3 3 f fd ["tape","number","many","spouts","small"] (pH K):=by
 refine F.ok jK (λ vs H Q E h=>?_) (λ cdv A outer s H vs Q E hr h=>?_)
 ·obtain⟨t,sl,i,n,m,small,rfl,_⟩:=h;rfl
 ·obtain⟨t,sl,i,n,m,small,rfl,tp,hi,hn,hm,k⟩:=h
  have sc:=jK
  refine⟨_,(aD (aS (i:=5) sc.nd rfl (Or.inl rfl) (aW cO aG (aQ (aJ (K:=K) rfl) (cK (aA (fG G__law_draw hr (aA (pv 0) (aA (aQ (aJ (K:=K) rfl) (cK (aA aG (aA aG aC))) (bC iE rfl T.b_int nQ (aA (pv 4) aC)) (λ _ _=>rfl)) aC))) (aA (fG G__law_draw hr (aA (pv 0) (aA (aQ (aJ (K:=K) rfl) (cK (aA aG (aA aG aC))) (bC iE rfl T.b_int nQ (aA (pv 4) aC)) (λ _ _=>rfl)) aC))) aC))) (aW gS (fG G__law_draw hr (aA (pv 0) (aA aG aC))) aG) (λ _ _=>rfl))))
   (aD (aS (i:=6) sc.nd rfl (Or.inl rfl) (aW cO (pv 5) (aQ (aJ (K:=K) rfl) (cK (aA aG (aA (fG G__law_draw hr (aA (pv 0) (aA (aW gX aG (pv 5)) aC))) aC))) (aW gE (fG G__law_draw hr (aA (pv 0) (aA aG aC))) (bC iE rfl T.b_int nQ (aA (u8 (pv 4)) aC))) (λ _ _=>rfl))))
   (aD (fC (cH sT (fG G__law_draw hr (aA (pv 0) (aA aG aC))) aG (cP _)) (aM (aS (i:=6) sc.nd rfl (Or.inl rfl) (aW cO (pv 5) (fG G__law_draw hr (aA (pv 0) (aA aG aC)))))) cS)
   (aD (aS (i:=7) sc.nd rfl (Or.inl rfl) fU)
   (aD (fC (PW.pt (CK (cH vL (aW cO (pv 1) aG) (pv 2) (cP _)) (yM (cH sT (fG G__law_draw hr (aA (pv 0) (aA aG aC))) aG (cP _))))) (aM (aS (i:=7) sc.nd rfl (Or.inl rfl) (aW cO (aW cO (pv 1) aG) (fG G__law_draw hr (aA (pv 0) (aA (aW gX (aW gX (pv 2) (pv 1)) aG) aC)))))) cS)
   (aD (aS (i:=8) sc.nd rfl (Or.inl rfl) (cK aC))
   (aD (fC (cH mS (pv 3) aG (cP _)) (aM (dQ PassesOwn.never rfl (bT rfl T.b_range (aA (aW gS (fG G__law_draw hr (aA (pv 0) (aA aG aC))) aG) aC)) (aE (i:=9) sc.nd rfl (Or.inl rfl)) (aM (dM (gD (K:=K) rfl PySem.F.plainAttrs_list PySem.F.slot_list_append PySem.F.type_list_append cY (pv 8) (aA (bK (aA (aQ (aJ (K:=K) rfl) (cK (aA gW (aA gW (aA gW aC)))) (fG G__law_draw hr (aA (pv 0) (aA aG aC))) (λ _ _=>rfl)) (aA (fG G__law_draw hr (aA (pv 0) (aA (pv 3) aC))) aC))) aC)))))) cS)
   (aM (bX (bK (aA (pv 5) (aA (pv 6) (aA (fG G__law_outs hr (aA (pv 0) (aA (pv 2) (aA (pv 4) aC)))) (aA (iO sT (fG G__law_draw hr (aA (pv 0) (aA aG aC))) aG (cP _)) (aA (pv 7) (aA (bC (bU (K:=K) rfl) rfl T.b_tuple cB (aA (pv 8) aC)) aC)))))))))))))))),?_⟩
  refine uK (t:=t) (sl:=sl) (H0:=H) (x:=1) (y:=2) (l:=0) (h:=60) (qS ⟨1,rfl,by omega,by omega⟩)
   (gY (lG (jW (lo:=4) (hi:=10) rfl (by decide) (by decide) (oQ rfl ⟨by decide,by decide⟩ ⟨by decide,by decide⟩)) (Int.le_refl _) (by decide))
    (lG (jW (lo:=4) (hi:=61) rfl (by decide) (by decide) (oQ rfl ⟨by decide,by decide⟩ ⟨by decide,by decide⟩)) (Int.le_refl _) (by decide)) (oR (cF rfl (by decide) (by decide)))) _ _ ⟨d8.refl _,tp⟩ ?_
  rintro v H1 e1 _ ⟨size,rfl,s0,s1⟩
  refine zH (t:=t) (sl:=sl) (H0:=H) (y:=size) (l:=0) (h:=201 - size) rfl (gY (qS ⟨0,rfl,by omega,by omega⟩)
   (lG (jW (lo:=201 - size) (hi:=201 - size+1) rfl (by omega) (by omega) (DL rfl)) (Int.le_refl _) (by omega)) (AT rfl (cF rfl (by decide) (by decide)))) _ _ e1 ?_
  rintro v H2 e2 _ ⟨brim,rfl,br0,br1⟩
  dsimp only [i7,iJ,tC,fX]
  refine yZ (λ Z H'=>Ext t sl H H'/\∃ brim,size<=brim/\brim<=200/\Z=[some (.ref t),some (.int (i:Int)),some (.int (n:Int)),some (.int (m:Int)),some (.bl small),some (.int size),some (.int brim),none,none,none]) (λ D' hD=>?_) ?_
  ·refine DG (t:=t) (sl:=sl) (H0:=H) (cF rfl (by decide) (by decide)) e2 λ b H3 e3 _=>?_
   cases b with
   | false=>exact j5 (hD _ _ ⟨e3,brim,by omega,by omega,rfl⟩)
   | true=>
    refine jT ?_
    refine zH (t:=t) (sl:=sl) (H0:=H) (y:=size) (l:=0) (h:=3) rfl (cF rfl (by decide) (by decide)) _ _ e3 ?_
    rintro v H4 e4 _ ⟨b2,rfl,c0,c1⟩
    exact hD _ _ ⟨e4,b2,by omega,by omega,rfl⟩
  rintro ai H3 ⟨e3,brim,hb1,hb2,rfl⟩
  dsimp only [i7,iJ,tC,fX]
  refine yZ (λ Z H'=>Ext t sl H H'/\∃ sp:Option Int,(∀ z,sp=some z->(0<=z/\z < n)/\(i:Int) < z)/\Z=[some (.ref t),some (.int (i:Int)),some (.int (n:Int)),some (.int (m:Int)),some (.bl small),some (.int size),some (.int brim),some (iI sp),none,none]) (λ D' hD=>?_) ?_
  ·refine⟨_,rfl,_,_,rfl,rfl,_,rfl,_,_,rfl,rfl,_,rfl,?_⟩
   refine hX (λ hlt=>?_) (λ _=>j5 (hD _ _ ⟨e3,none,(λ z h=>nomatch h),rfl⟩))
   have hlt':(i:Int)+1 < n:=of_decide_eq_true hlt
   refine xT (t:=t) (sl:=sl) (H0:=H) (cF rfl (by decide) (by decide)) _ _ e3 ?_
   rintro v H4 e4 _ ⟨b,rfl⟩
   refine⟨b,rfl,?_⟩
   cases b with
   | false=>exact j5 (hD _ _ ⟨e4,none,(λ z h=>nomatch h),rfl⟩)
   | true=>
    refine jT ?_
    refine⟨_,rfl,_,_,rfl,rfl,_,rfl,_,rfl,_,rfl,_,_,rfl,rfl,_,_,rfl,rfl,t,sl,(n:Int) - i - 1,rfl,e4.tp,by omega,by omega,λ r H5 b5 t5 r0 r1=>⟨_,_,rfl,rfl,?_⟩⟩
    exact hD _ _ ⟨⟨e4.bt.trans b5,t5⟩,some ((i:Int)+1+r),λ z h=>by cases h;omega,rfl⟩
  rintro σ4 H4 ⟨e4,sp,hsp,rfl⟩
  refine⟨Nat.zero_le _,λ al hal=>?_⟩
  dsimp only [i7,iJ,tC,fX]
  have fal:H al=none:=e4.bt.free (e4.ne hal) hal
  have nal:al≠t:=e4.ne hal
  refine yZ (λ Z H'=>Ext t sl H H'/\∃ (acts:List (Str×Int)) (xs:List V),H' al=some (.lst xs)/\L2.IsL K H' (acts.map nR) xs/\acts.length<=3/\(∀ a∈acts,ActOk m a)/\
   ∃ v9,Z=[some (.ref t),some (.int (i:Int)),some (.int (n:Int)),some (.int (m:Int)),some (.bl small),some (.int size),some (.int brim),some (iI sp),some (.ref al),v9]) (λ D' hD=>?_) ?_
  ·refine⟨_,rfl,_,_,rfl,rfl,_,rfl,?_⟩
   refine hX (λ hlt=>?_) (λ _=>hD _ _ ⟨e4.new hal,[],[],aB,.nil,by simp,λ a ha=>(nomatch ha),none,rfl⟩)
   have hm0:(0:Int) < m:=of_decide_eq_true hlt
   refine DO (t:=t) (sl:=sl) (H0:=H) (by decide) (by decide) (cF (m:=11) rfl (by decide) (by decide)) _ _ (e4.new hal) ?_
   rintro v H5 e5 b5 ⟨c,rfl,c0,c1⟩
   refine⟨_,rfl,by omega,by omega,?_⟩
   refine dR (lo:=0) (n:=(c / 3).toNat) (λ j Z H'=>Ext t sl H H'/\∃ (acts:List (Str×Int)) (xs:List V),H' al=some (.lst xs)/\L2.IsL K H' (acts.map nR) xs/\acts.length=j/\(∀ a∈acts,ActOk m a)/\
    ∃ v9,Z=[some (.ref t),some (.int (i:Int)),some (.int (n:Int)),some (.int (m:Int)),some (.bl small),some (.int size),some (.int brim),some (iI sp),some (.ref al),v9]) ?_ ?_ ?_
   ·exact⟨e5,[],[],b5 al _ nal aB,.nil,rfl,λ a ha=>(nomatch ha),none,rfl⟩
   ·rintro j Z H6 hj ⟨e6,acts,xs,ha,hl,hlen,hok,v9,rfl⟩
    refine⟨_,rfl,.inl ⟨rfl,_,bR.of ha⟩,?_⟩
    refine vW (t:=t) (sl:=sl) (H0:=H) (P:=λ v=>∃ wd:Str,v=.str wd/\(wd = "open" \/ wd = "shut" \/ wd = "turn")) (qS ⟨_,rfl,.inl rfl⟩) (qS ⟨_,rfl,.inr (.inl rfl)⟩) (qS ⟨_,rfl,.inr (.inr rfl)⟩) (cF rfl (by decide) (by decide)) _ _ e6 ?_
    rintro v H7 e7 b7 ⟨wd,rfl,hwd⟩
    refine jV (t:=t) (sl:=sl) (H0:=H) (m:=(m:Int)) rfl rfl hm0 (by omega) _ _ e7 ?_
    rintro v H8 e8 b8 ⟨r,rfl,r0,r1⟩
    refine⟨(show 2<=sizeLine by decide),λ q hq=>?_⟩
    have ha8:H8 al=some (.lst xs):=b8 al _ nal (b7 al _ nal ha)
    have nq:al≠q:=aN ha8 hq
    have hxl:xs.length=acts.length:=by rw[hl.length,List.length_map]
    refine⟨al,xs,_,rfl,rfl,by rw[aO nq];exact ha8,aP (by omega),?_⟩
    have e9:Ext t sl H (upd H8 q (.tup [.str wd,.int r])):=e8.new hq
    have mt:iY (upd H8 q (.tup [.str wd,.int r]) al):=by rw[aO nq,ha8];exact trivial
    have ts:bM K H6 (upd (upd H8 q (.tup [.str wd,.int r])) al (.lst (xs++[.ref q]))):=bM.put (((b7.trans b8).trans (aH.new hq).but).ts e6.tp.mut) (.inr mt)
    refine⟨⟨λ b o hb e=>?_,e9.tp.put nal (eY.ne_sl tp fal)⟩,acts++[(wd,r)],xs++[.ref q],aB,?_,by simp [hlen],?_,_,rfl⟩
    ·rw[aO (aN e fal)];exact e9.bt b o hb e
    ·rw[List.map_append]
     exact L2.IsL.snoc (Is.tupOf (ds:=[.str wd,.int r]) (bM.put (bM.refl _) (.inr mt) _ _ (bO.of aB)) (.cons (Is.s _) (.cons (Is.i _) .nil))) (L2.IsL.mono ts _ _ hl)
    ·intro a ha'
     rcases List.mem_append.mp ha' with ha' | ha'
     ·exact hok a ha'
     ·rw[List.mem_singleton.mp ha']
      exact⟨hwd,r0,r1⟩
   ·rintro Z H6 ⟨e6,acts,xs,ha,hl,hlen,hok,v9,rfl⟩
    exact hD _ _ ⟨e6,acts,xs,ha,hl,by omega,hok,v9,rfl⟩
  rintro ce H5 ⟨e5,acts,xs,ha,hl,hlen,hok,v9,rfl⟩
  refine⟨_,rfl,_,rfl,_,rfl,_,rfl,_,rfl,t,sl,n,small,rfl,e5.tp,by omega,hn,λ outs p H6 e6 o1 o2 o3 hp=>?_⟩
  refine xT (t:=t) (sl:=sl) (H0:=H) (cF rfl (by decide) (by decide)) _ _ ⟨e5.bt.trans e6.bt,e6.tp⟩ ?_
  rintro v H7 e7 b7 ⟨b,rfl⟩
  have ha7:H7 al=some (.lst xs):=b7 al _ nal (e6.bt al _ nal ha)
  have b57:d8 t H5 H7:=e6.bt.trans b7
  refine⟨_,rfl,_,rfl,al,_,rfl,.inl ⟨bR.of ha7,λ q hq=>⟨(show 6<=sizeLine by decide),λ r hr'=>?_⟩⟩⟩
  have m1:=aH.new (o:=HO.tup xs) hq
  have m2:aH (upd H7 q (.tup xs)) (upd (upd H7 q (.tup xs)) r (.tup [.int size,.int brim,p,.bl b,iI sp,.ref q])):=aH.new hr'
  refine k ⟨size,brim,outs,b,sp,acts⟩ _ _ ((e7.new hq).new hr') ⟨s0,o1,o2,o3,λ z h=>(hsp z h).1,hlen,hok⟩ ⟨by show size<=60;omega,hb1,hb2,λ z h=>(hsp z h).2⟩ ?_
  refine Is.tupOf (bO.of aB) (.cons (Is.i _) (.cons (Is.i _) (.cons ?_ (.cons (Is.b _) (.cons (Is.tgOf _) (.cons ?_ .nil))))))
  ·exact Is.mono m2.ts _ _ (Is.mono m1.ts _ _ (Is.mono (b7.ts e6.tp.mut) _ _ hp))
  ·exact Is.mono m2.ts _ _ (Is.tupOf (bO.of aB) (L2.IsL.mono m1.ts _ _ (L2.IsL.mono (b57.ts e5.tp.mut) _ _ hl)))
end
end Tw
namespace Tw
open PySem L2
section
variable {P:Program}{w:World}{K:PySem.W.Frag}{mg:Str->Option Value}{base:Heap}
theorem Ext.put {t sl p:Addr}{H H':Hp}{o:HO} (e:Ext t sl H H') (tp:eY H t sl) (hp:H p=none):Ext t sl H (upd H' p o):=
 ⟨λ b u hb e1=>by rw[aO (aN e1 hp)];exact e.bt b u hb e1,e.tp.put (λ z=>by obtain⟨o,h⟩:=tp.some;rw[z,h] at hp;cases hp) (eY.ne_sl tp hp)⟩
theorem Ext.trans {t sl:Addr}{H H1 H2:Hp} (a:Ext t sl H H1) (b:Ext t sl H1 H2):Ext t sl H H2:=⟨a.bt.trans b.bt,b.tp⟩
noncomputable def wW (K:PySem.W.Frag):Sp:=λ args H Q _=>∃ (t sl:Addr) (most:Int) (small:Bool),args=[.ref t,.int most,.bl small]/\1<=most/\most<=12/\eY H t sl/\
 ∀ (net:Net) p H',Ext t sl H H'->NetOk net->NetFull net->(net.vs.length:Int)<=most->Is K H' (eF net) p->Q p H'
theorem o5:FnScope ["tape","most","small","many","spouts","vessels","found","k","flow"] ["tape","most","small"] (aK (bH 39)):=⟨rfl,rfl,rfl,by decide +kernel,rfl,by decide +kernel,by decide +kernel⟩
theorem uE {f fD fV:Addr}{fd fdD fdV:FuncData} (F:Fun K "_law_net" "_law_net" (bH 39) f fd) (T:Txt mg) (G__law_draw:Callee P w K mg base "_law_draw" ["tape","many"] 1 hU fD fdD)
  (G__law_vessel:Callee P w K mg base "_law_vessel" ["tape","number","many","spouts","small"] 3 (pH K) fV fdV):FnOk P w K mg base j3 4 f fd ["tape","most","small"] (wW K):=by
 refine F.ok o5 (λ vs H Q E h=>?_) (λ cdv A outer s H vs Q E hr h=>?_)
 ·obtain⟨t,sl,most,small,rfl,_⟩:=h;rfl
 ·obtain⟨t,sl,most,small,rfl,mo1,mo2,tp,k⟩:=h
  have sc:=o5
  refine⟨_,(aD (aS (i:=3) sc.nd rfl (Or.inr rfl) (aW cO aG (fG G__law_draw hr (aA (pv 0) (aA (pv 1) aC)))))
   (aD (aS (i:=4) sc.nd rfl (Or.inr rfl) (aQ (aJ (K:=K) rfl) (cK (aA (fG G__law_draw hr (aA (pv 0) (aA aG aC))) (aA (fG G__law_draw hr (aA (pv 0) (aA aG aC))) aC))) (aW gS (fG G__law_draw hr (aA (pv 0) (aA aG aC))) aG) (λ _ _=>rfl)))
   (aD (fI (i:=5) sc.nd rfl rfl (λ _ _ h=>h) rfl (LcOk.mk (N':=["k","tape","many","spouts","small"]) (fr:=[none,some 0,some 3,some 4,some 2]) rfl ⟨rfl,rfl,rfl,rfl,trivial⟩ rfl rfl rfl rfl rfl ⟨⟨_,rfl,rfl,rfl,rfl⟩,⟨_,rfl,rfl,rfl,rfl⟩,⟨_,rfl,rfl,rfl,rfl⟩,⟨_,rfl,rfl,rfl,rfl⟩,trivial⟩) (bT rfl T.b_range (aA (pv 3) aC)) (λ _ _ _=>(aE (i:=0) (show (["k","tape","many","spouts","small"]:List Str).Nodup by decide +kernel) rfl (Or.inl rfl) (Or.inr rfl))) (λ _ _ _=>cA) (λ _ _ _=>(fG G__law_vessel hr (aA (pv 1) (aA (pv 0) (aA (pv 2) (aA (pv 3) (aA (pv 4) aC))))))))
   (aD (aS (i:=6) sc.nd rfl (Or.inl rfl) (cK aC))
   (aD (dQ PassesOwn.never rfl (bT rfl T.b_range (aA (pv 4) aC)) (aE (i:=7) sc.nd rfl (Or.inl rfl)) (aD (aS (i:=8) sc.nd rfl (Or.inl rfl) (aQ (aJ (K:=K) rfl) (cK (aA (fG G__law_draw hr (aA (pv 0) (aA aG aC))) (aA (fG G__law_draw hr (aA (pv 0) (aA (aQ (aJ (K:=K) rfl) (cK (aA aG (aA aG aC))) (bC iE rfl T.b_int nQ (aA (pv 2) aC)) (λ _ _=>rfl)) aC))) aC))) (aW gS (fG G__law_draw hr (aA (pv 0) (aA aG aC))) aG) (λ _ _=>rfl)))
   (aM (dM (gD (K:=K) rfl PySem.F.plainAttrs_list PySem.F.slot_list_append PySem.F.type_list_append cY (pv 6) (aA (bK (aA (fG G__law_draw hr (aA (pv 0) (aA (pv 3) aC))) (aA (pv 8) (aA (iO mS (fG G__law_draw hr (aA (pv 0) (aA aG aC))) aG (cP _)) aC)))) aC))))))
   (aM (bX (bK (aA (bC (bU (K:=K) rfl) rfl T.b_tuple cB (aA (pv 5) aC)) (aA (bC (bU (K:=K) rfl) rfl T.b_tuple cB (aA (pv 6) aC)) aC)))))))))),?_⟩
  refine uK (t:=t) (sl:=sl) (H0:=H) (x:=1) (y:=2) (l:=0) (h:=most) (qS ⟨1,rfl,by omega,by omega⟩) (jV (m:=most) rfl rfl (by omega) (by omega)) _ _ ⟨d8.refl _,tp⟩ ?_
  rintro v H1 e1 _ ⟨n',rfl,n0,n1⟩
  obtain⟨n,rfl⟩:=Int.eq_ofNat_of_zero_le (show 0<=n' by omega)
  refine gY (t:=t) (sl:=sl) (H0:=H) (P:=dJ 0 13) (lG (cF rfl (by decide) (by decide)) (Int.le_refl _) (by decide)) (cF rfl (by decide) (by decide)) (oR (cF rfl (by decide) (by decide))) _ _ e1 ?_
  rintro v H2 e2 _ ⟨m',rfl,m0,m1⟩
  obtain⟨m,rfl⟩:=Int.eq_ofNat_of_zero_le m0
  refine⟨_,rfl,_,rfl,by omega,by omega,?_⟩
  refine gK (n:=n) (λ D i r Z H'=>H2 D=none/\Ext t sl H H'/\H' D=some (.lst r)/\∃ vs:List Vs,vs.length=i/\L2.IsL K H' (vs.map nU) r/\(∀ v∈vs,VOk n m v)/\(∀ i v,vs[i]? = some v->VFull i v)/\∃ v0,Z=[v0,some (.ref t),some (.int (n:Int)),some (.int (m:Int)),some (.bl small)])
   (λ D hD=>⟨hD,e2.new hD,aB,[],rfl,.nil,(λ v hv=>nomatch hv),(λ i v hv=>by simp at hv),none,rfl⟩) ?_ ?_
  rotate_left
  ·rintro D i r Z H3 hi ⟨hD,e3,hl,vs,hlen,hvl,hok,hfu,v0,rfl⟩
   refine cT ?_
   refine⟨_,rfl,_,rfl,_,rfl,_,rfl,_,rfl,t,sl,i,n,m,small,rfl,e3.tp,hi,by omega,by omega,λ v p H4 e4 vok vfu hp=>?_⟩
   have nD:D≠t:=e2.ne hD
   have fD:H D=none:=e2.bt.free nD hD
   have hl4:H4 D=some (.lst r):=e4.bt D _ nD hl
   have hrl:r.length=vs.length:=by rw[hvl.length,List.length_map]
   have mt:iY (H4 D):=by rw[hl4];exact trivial
   refine⟨hl4,aP (by omega),hD,(e3.trans e4).put tp fD,aB,vs++[v],by simp [hlen],?_,?_,?_,_,rfl⟩
   ·rw[List.map_append]
    exact L2.IsL.snoc (Is.mono (bM.put (bM.refl _) (.inr mt)) _ _ hp) (L2.IsL.mono (bM.put (e4.bt.ts e3.tp.mut) (.inr mt)) _ _ hvl)
   ·intro u hu
    rcases List.mem_append.mp hu with hu | hu
    ·exact hok u hu
    ·rw[List.mem_singleton.mp hu];exact vok
   ·intro j u hu
    rcases Nat.lt_or_ge j vs.length with hj | hj
    ·rw[List.getElem?_append_left hj] at hu;exact hfu j u hu
    ·rw[List.getElem?_append_right hj] at hu
     have e0:j - vs.length=0:=by
      rcases Nat.eq_zero_or_pos (j - vs.length) with h | h
      ·exact h
      ·rw[List.getElem?_eq_none (show [v].length<=j - vs.length from h)] at hu;cases hu
     rw[e0] at hu
     have e1:j=i:=by omega
     cases hu
     rw[e1];exact vfu
  rintro D r Z H3 ⟨hD,e3,hl,vs,hlen,hvl,hok,hfu,_⟩
  have nD:D≠t:=e2.ne hD
  have fD:H D=none:=e2.bt.free nD hD
  refine⟨Nat.zero_le _,λ fl hfl=>?_⟩
  have nf:fl≠t:=e3.ne hfl
  have ff:H fl=none:=e3.bt.free nf hfl
  have nDf:D≠fl:=aN hl hfl
  refine⟨_,rfl,_,rfl,by omega,by omega,?_⟩
  refine dR (lo:=0) (n:=m) (λ j Z H'=>Ext t sl H H'/\H' D=some (.lst r)/\L2.IsL K H' (vs.map nU) r/\∃ (sps:List oE) (xs:List V),H' fl=some (.lst xs)/\L2.IsL K H' (sps.map wK) xs/\sps.length=j/\(∀ s∈sps,(0<=s.1/\s.1 < n)/\0<=s.2.1/\s.2.1<=60)/\
   ∃ v7 v8,Z=[some (.ref t),some (.int most),some (.bl small),some (.int (n:Int)),some (.int (m:Int)),some (.ref D),some (.ref fl),v7,v8]) ?_ ?_ ?_
  ·exact⟨e3.new hfl,by rw[aO nDf];exact hl,L2.IsL.mono (aH.new hfl).ts _ _ hvl,[],[],aB,.nil,rfl,(λ s hs=>nomatch hs),none,none,rfl⟩
  ·rintro j Z H4 hj ⟨e4,hl4,hv4,sps,xs,hf4,hs4,hslen,hsok,v7,v8,rfl⟩
   refine gY (t:=t) (sl:=sl) (H0:=H) (P:=dJ 0 61) (lG (cF rfl (by decide) (by decide)) (Int.le_refl _) (by decide))
    (lG (jW (lo:=4) (hi:=62) rfl (by decide) (by decide) (oQ rfl ⟨by decide,by decide⟩ ⟨by decide,by decide⟩)) (Int.le_refl _) (by decide)) (oR (cF rfl (by decide) (by decide))) _ _ e4 ?_
   rintro v H5 e5 b5 ⟨flow,rfl,fl0,fl1⟩
   have hf5:H5 fl=some (.lst xs):=b5 fl _ nf hf4
   refine⟨_,rfl,.inl ⟨rfl,_,bR.of hf5⟩,?_⟩
   refine jV (t:=t) (sl:=sl) (H0:=H) (m:=(n:Int)) rfl rfl (by omega) (by omega) _ _ e5 ?_
   rintro v H6 e6 b6 ⟨tg,rfl,tg0,tg1⟩
   refine⟨_,rfl,?_⟩
   refine DN (t:=t) (sl:=sl) (H0:=H) (cF rfl (by decide) (by decide)) _ _ e6 ?_
   rintro v H7 e7 b7 ⟨dr,rfl⟩
   refine⟨(show 3<=sizeLine by decide),λ q hq=>?_⟩
   have b47:d8 t H4 H7:=b5.trans (b6.trans b7)
   have hf7:H7 fl=some (.lst xs):=b47 fl _ nf hf4
   have hl7:H7 D=some (.lst r):=b47 D _ nD hl4
   have nq:fl≠q:=aN hf7 hq
   have nDq:D≠q:=aN hl7 hq
   have hxl:xs.length=sps.length:=by rw[hs4.length,List.length_map]
   refine⟨fl,xs,_,rfl,rfl,by rw[aO nq];exact hf7,aP (by omega),?_⟩
   have mt:iY (upd H7 q (.tup [.int tg,.int flow,.bl dr]) fl):=by rw[aO nq,hf7];exact trivial
   have ts:bM K H4 (upd (upd H7 q (.tup [.int tg,.int flow,.bl dr])) fl (.lst (xs++[.ref q]))):=bM.put ((b47.trans (aH.new hq).but).ts e4.tp.mut) (.inr mt)
   refine⟨(e7.new hq).put tp ff,by rw[aO nDf,aO nDq];exact hl7,L2.IsL.mono ts _ _ hv4,sps++[(tg,flow,dr)],xs++[.ref q],aB,?_,by simp [hslen],?_,_,_,rfl⟩
   ·rw[List.map_append]
    exact L2.IsL.snoc (Is.tupOf (ds:=[.int tg,.int flow,.bl dr]) (bM.put (bM.refl _) (.inr mt) _ _ (bO.of aB)) (.cons (Is.i _) (.cons (Is.i _) (.cons (Is.b _) .nil)))) (L2.IsL.mono ts _ _ hs4)
   ·intro s hs
    rcases List.mem_append.mp hs with hs | hs
    ·exact hsok s hs
    ·rw[List.mem_singleton.mp hs];exact⟨⟨tg0,tg1⟩,fl0,show flow<=60 by omega⟩
  ·rintro Z H4 ⟨e4,hl4,hv4,sps,xs,hf4,hs4,hslen,hsok,v7,v8,rfl⟩
   refine⟨_,rfl,D,_,rfl,.inl ⟨bR.of hl4,λ q1 hq1=>⟨_,rfl,fl,_,rfl,.inl ⟨bR.of (aH.new hq1 _ _ hf4),λ q2 hq2=>⟨(show 2<=sizeLine by decide),λ q3 hq3=>?_⟩⟩⟩⟩⟩
   have m1:aH H4 (upd H4 q1 (.tup r)):=aH.new hq1
   have m2:aH (upd H4 q1 (.tup r)) (upd (upd H4 q1 (.tup r)) q2 (.tup xs)):=aH.new hq2
   have m3:aH (upd (upd H4 q1 (.tup r)) q2 (.tup xs)) (upd (upd (upd H4 q1 (.tup r)) q2 (.tup xs)) q3 (.tup [.ref q1,.ref q2])):=aH.new hq3
   refine k ⟨vs,sps⟩ _ _ (((e4.new hq1).new hq2).new hq3) ⟨by show 1<=vs.length;omega,by show vs.length<=12;omega,by show sps.length<=12;omega,λ v hv=>by rw[hlen,hslen];exact hok v hv,λ s hs=>by rw[hlen];exact (hsok s hs).1⟩ ⟨hfu,λ s hs=>(hsok s hs).2⟩ (by show (vs.length:Int)<=most;omega) ?_
   refine Is.tupOf (bO.of aB) (.cons (Is.tupOf (m3.tup (m2.tup (bO.of aB))) ?_) (.cons (Is.tupOf (m3.tup (bO.of aB)) ?_) .nil))
   ·exact L2.IsL.mono m3.ts _ _ (L2.IsL.mono m2.ts _ _ (L2.IsL.mono m1.ts _ _ hv4))
   ·exact L2.IsL.mono m3.ts _ _ (L2.IsL.mono m2.ts _ _ (L2.IsL.mono m1.ts _ _ hs4))
end
end Tw
namespace Tw
open PySem L2
section
variable {P:Program}{w:World}{K:PySem.W.Frag}{mg:Str->Option Value}{base:Heap}
theorem CA:∀ n:Nat,(List.replicate n [V.int 0]).flatten=(List.replicate n (0:Int)).map V.int
 | 0=>rfl
 | n+1=>by rw[List.replicate_succ,List.replicate_succ,List.flatten_cons,CA n,List.map_cons];rfl
noncomputable def d5 (n:Nat):List Int:=List.replicate n 0
noncomputable def iL (K:PySem.W.Frag):Sp:=λ args H Q _=>∃ (x:V) (net:Net),args=[x]/\Is K H (eF net) x/\NetOk net/\
 ∀ p H',aH H H'->Is K H' (A9 (d5 net.vs.length) (d5 net.vs.length) (net.sps.map (·.2.2))) p->Q p H'
theorem jJ:FnScope ["net","vessels","spouts","empty"] ["net"] (aK (bH 11)):=⟨rfl,rfl,rfl,by decide +kernel,rfl,by decide +kernel,by decide +kernel⟩
theorem qI {f:Addr}{fd:FuncData} (F:Fun K "first_state" "first_state" (bH 11) f fd) (T:Txt mg):FnOk P w K mg base j3 1 f fd ["net"] (iL K):=by
 refine F.ok jJ (λ vs H Q E h=>?_) (λ cdv A outer s H vs Q E hr h=>?_)
 ·obtain⟨x,net,rfl,_⟩:=h;rfl
 ·obtain⟨x,net,rfl,hx,nok,k⟩:=h
  have sc:=jJ
  refine⟨_,(aD (cI (pv 0) (bB (K:=K) (n:=2) rfl rfl (aF (aE (i:=1) sc.nd rfl (Or.inl rfl)) (aF (aE (i:=2) sc.nd rfl (Or.inl rfl)) bA))))
   (aD (aS (i:=3) sc.nd rfl (Or.inl rfl) (aW (qG (K:=K) rfl) (bK (aA aG aC)) (aR (bN (K:=K) rfl) rfl T.b_len PySem.boot_len (aA (pv 1) aC))))
   (aM (bX (bK (aA (pv 3) (aA (pv 3) (aA (bC (bU (K:=K) rfl) rfl T.b_tuple cB (aA (fJ (λ _ _ h=>h) rfl (LcOk.mk (N':=["target","flow","door"]) (fr:=[none,none,none]) rfl trivial rfl rfl rfl rfl rfl trivial) (eT (K:=K) rfl (pv 2)) (λ _ _ _=>(bB (K:=K) (n:=3) rfl rfl (aF (aE (i:=0) (show (["target","flow","door"]:List Str).Nodup by decide +kernel) rfl (Or.inl rfl) (Or.inr rfl)) (aF (aE (i:=1) (show (["target","flow","door"]:List Str).Nodup by decide +kernel) rfl (Or.inl rfl) (Or.inr rfl)) (aF (aE (i:=2) (show (["target","flow","door"]:List Str).Nodup by decide +kernel) rfl (Or.inl rfl) (Or.inr rfl)) bA))))) (λ _ _ _=>cA) (λ _ _ _=>(pv 2))) aC)) aC)))))))),?_⟩
  obtain⟨a,b,c,xs,ys,rfl,q,q1,l1,q2,l2⟩:=dS hx
  have exl:xs.length=net.vs.length:=by rw[l1.length,List.length_map]
  have eyl:ys.length=net.sps.length:=by rw[l2.length,List.length_map]
  have n1:=nok.lo
  have n2:=nok.hi
  have n3:=nok.sp
  refine⟨_,rfl,a,_,rfl,q,rfl,_,_,rfl,_,_,rfl,rfl,?_⟩
  refine⟨(show 1<=sizeLine by decide),λ z hz=>⟨_,rfl,b,xs,rfl,.inr ((aH.new hz).tup q1),z,_,[.int 0],rfl,rfl,bO.of aB,by omega,by omega,by simp,by simp,λ e H1 sm1 qe=>?_⟩⟩
  have s1:aH H H1:=(aH.new hz).trans sm1
  have en:((xs.length:Nat):Int).toNat=net.vs.length:=by rw[exl];simp
  rw[en,CA] at qe
  refine⟨_,rfl,_,rfl,_,rfl,c,rfl,⟨_,s1.tup q2⟩,hV (K:=K) (a:=c) (xs:=ys) (λ D i r Z H'=>H1 D=none/\aH H1 H'/\H' D=some (.lst r)/\r=((net.sps.take i).map (·.2.2)).map V.bl/\∃ u v w,Z=[u,v,w])
   (λ D i r Z H' p=>p.2.1.tup (s1.tup q2)) (λ D hD=>⟨hD,aH.new hD,aB,by simp,none,none,none,rfl⟩) ?_ ?_⟩
  rotate_left
  ·rintro D i x r Z H2 hx ⟨hD,sm,hDl,rfl,u,v,w',rfl⟩
   obtain⟨sp,hsi,sa,rfl,qs⟩:=nE l2 hx
   have hil:=(List.getElem?_eq_some_iff.mp hsi).1
   refine⟨sa,_,rfl,sm.tup (s1.tup qs),rfl,_,_,rfl,_,_,rfl,_,_,rfl,rfl,?_⟩
   refine hR ⟨_,rfl,hDl,aP (by simp;omega),hD,sm.put hD,aB,?_,_,_,_,rfl⟩
   rw[aZ hsi];simp
  ·rintro D r Z H2 ⟨hD,sm,hDl,rfl,_⟩
   rw[eyl,List.take_length] at hDl
   refine⟨D,_,rfl,.inl ⟨bR.of hDl,λ d hd=>⟨(show 3<=sizeLine by decide),λ r hr'=>?_⟩⟩⟩
   have m1:aH H2 (upd H2 d (.tup ((net.sps.map (·.2.2)).map V.bl))):=aH.new hd
   have m2:aH (upd H2 d (.tup ((net.sps.map (·.2.2)).map V.bl))) (upd (upd H2 d (.tup ((net.sps.map (·.2.2)).map V.bl))) r (.tup [.ref e,.ref e,.ref d])):=aH.new hr'
   refine k _ _ (((s1.trans sm).trans m1).trans m2) (yG (bO.of aB) ?_ ?_ (m2.tup (bO.of aB)))
   ·exact m2.tup (m1.tup (sm.tup qe))
   ·exact m2.tup (m1.tup (sm.tup qe))
theorem kY:FnScope ["net","none"] ["net"] (aK (bH 40)):=⟨rfl,rfl,rfl,by decide +kernel,rfl,by decide +kernel,by decide +kernel⟩
theorem rM {f:Addr}{fd:FuncData} (F:Fun K "_law_first" "_law_first" (bH 40) f fd) (T:Txt mg):FnOk P w K mg base j3 1 f fd ["net"] (iL K):=by
 refine F.ok kY (λ vs H Q E h=>?_) (λ cdv A outer s H vs Q E hr h=>?_)
 ·obtain⟨x,net,rfl,_⟩:=h;rfl
 ·obtain⟨x,net,rfl,hx,nok,k⟩:=h
  have sc:=kY
  refine⟨_,(aD (aS (i:=1) sc.nd rfl (Or.inl rfl) (aW (qG (K:=K) rfl) (bK (aA aG aC)) (aR (bN (K:=K) rfl) rfl T.b_len PySem.boot_len (aA (aQ (aJ (K:=K) rfl) (pv 0) aG (λ _ _=>rfl)) aC))))
   (aM (bX (bK (aA (pv 1) (aA (pv 1) (aA (bC (bU (K:=K) rfl) rfl T.b_tuple cB (aA (fJ (λ _ _ h=>h) rfl (LcOk.mk (N':=["spout"]) (fr:=[none]) rfl trivial rfl rfl rfl rfl rfl trivial) (eT (K:=K) rfl (aQ (aJ (K:=K) rfl) (pv 0) aG (λ _ _=>rfl))) (λ _ _ _=>(aE (i:=0) (show (["spout"]:List Str).Nodup by decide +kernel) rfl (Or.inl rfl) (Or.inr rfl))) (λ _ _ _=>cA) (λ _ _ _=>(aQ (aJ (K:=K) rfl) (pv 0) aG (λ _ _=>rfl)))) aC)) aC))))))),?_⟩
  obtain⟨a,b,c,xs,ys,rfl,q,q1,l1,q2,l2⟩:=dS hx
  have exl:xs.length=net.vs.length:=by rw[l1.length,List.length_map]
  have eyl:ys.length=net.sps.length:=by rw[l2.length,List.length_map]
  have n1:=nok.lo
  have n2:=nok.hi
  have n3:=nok.sp
  refine⟨(show 1<=sizeLine by decide),λ z hz=>⟨_,rfl,.inr (.inl ⟨a,_,0,_,rfl,rfl,(aH.new hz).tup q,rfl,b,xs,rfl,.inr ((aH.new hz).tup q1),z,_,[.int 0],rfl,rfl,bO.of aB,by omega,by omega,by simp,by simp,λ e H1 sm1 qe=>?_⟩)⟩⟩
  have s1:aH H H1:=(aH.new hz).trans sm1
  have en:((xs.length:Nat):Int).toNat=net.vs.length:=by rw[exl];simp
  rw[en,CA] at qe
  refine⟨_,rfl,_,rfl,_,rfl,.inr (.inl ⟨a,_,1,_,rfl,rfl,s1.tup q,rfl,c,rfl,⟨_,s1.tup q2⟩,hV (K:=K) (a:=c) (xs:=ys) (λ D i r Z H'=>H1 D=none/\aH H1 H'/\H' D=some (.lst r)/\r=((net.sps.take i).map (·.2.2)).map V.bl/\∃ u,Z=[u])
   (λ D i r Z H' p=>p.2.1.tup (s1.tup q2)) (λ D hD=>⟨hD,aH.new hD,aB,by simp,none,rfl⟩) ?_ ?_⟩)⟩
  rotate_left
  ·rintro D i x r Z H2 hx ⟨hD,sm,hDl,rfl,u,rfl⟩
   obtain⟨sp,hsi,sa,rfl,qs⟩:=nE l2 hx
   have hil:=(List.getElem?_eq_some_iff.mp hsi).1
   refine cT ?_
   refine⟨_,rfl,.inr (.inl ⟨sa,_,2,_,rfl,rfl,sm.tup (s1.tup qs),rfl,hDl,aP (by simp;omega),hD,sm.put hD,aB,?_,_,rfl⟩)⟩
   rw[aZ hsi];simp
  ·rintro D r Z H2 ⟨hD,sm,hDl,rfl,_⟩
   rw[eyl,List.take_length] at hDl
   refine⟨D,_,rfl,.inl ⟨bR.of hDl,λ d hd=>⟨(show 3<=sizeLine by decide),λ r hr'=>?_⟩⟩⟩
   have m1:aH H2 (upd H2 d (.tup ((net.sps.map (·.2.2)).map V.bl))):=aH.new hd
   have m2:aH (upd H2 d (.tup ((net.sps.map (·.2.2)).map V.bl))) (upd (upd H2 d (.tup ((net.sps.map (·.2.2)).map V.bl))) r (.tup [.ref e,.ref e,.ref d])):=aH.new hr'
   refine k _ _ (((s1.trans sm).trans m1).trans m2) (yG (bO.of aB) ?_ ?_ (m2.tup (bO.of aB)))
   ·exact m2.tup (m1.tup (sm.tup qe))
   ·exact m2.tup (m1.tup (sm.tup qe))
end
end Tw
namespace Tw
noncomputable def A6 (gs:List (Option Int×Int)):Int:=(gs.map (·.2)).sum
theorem pB (a b:List (Option Int×Int)):A6 (a++b)=A6 a+A6 b:=by
 unfold A6;rw[List.map_append,List.sum_append]
theorem pA (v:Vs) (here:Int):A6 (dA v here)=here / whole v.outs * whole v.outs:=by
 unfold dA A6 whole
 generalize here / (v.outs.map (·.2)).sum=q
 induction v.outs with
 | nil=>simp
 | cons o r ih=>
  simp only [List.map_cons,List.sum_cons,Int.mul_add]
  rw[ih]
theorem JC (v:Vs) (h:Int):dD v h+A6 (d6 v h)=h:=by
 have e:bI v h % whole v.outs+bI v h / whole v.outs * whole v.outs=bI v h:=by
  rw[Int.mul_comm];exact Int.emod_add_mul_ediv _ _
 unfold dD d6
 by_cases t:dX v h=true
 ·rw[if_pos t,if_pos t]
  by_cases q:v.holds=true
  ·rw[if_pos q,if_pos q,List.append_nil]
   show _+(h - bI v h+A6 (dA v (bI v h)))=h
   rw[pA];omega
  ·rw[if_neg q,if_neg q]
   show _+(h - bI v h+A6 (dA v (bI v h)++_))=h
   rw[pB,pA]
   show 0+(_+(_+(bI v h % whole v.outs+0)))=h
   omega
 ·rw[if_neg t,if_neg t]
  show _+(h - bI v h+0)=h
  omega
theorem pD:∀ (vs:List Vs) (hs:List Int),vs.length=hs.length->(bW vs hs).sum+A6 (bF vs hs)=hs.sum
 | [],[],_=>rfl
 | [],_::_,h=>by simp at h
 | _::_,[],h=>by simp at h
 | v::vs,b::hs,h=>by
  have ih:=pD vs hs (by simpa using h)
  have e:=JC v b
  show dD v b+(bW vs hs).sum+A6 (d6 v b++bF vs hs)=b+hs.sum
  rw[pB];omega
theorem xQ:∀ n:Nat,(cC n []).sum=0:=by
 intro n
 unfold cC bQ
 induction n with
 | zero=>rfl
 | succ n ih=>rw[List.range_succ,List.map_append,List.sum_append,ih];rfl
theorem vR (n:Nat) (g:Option Int×Int) (r:List (Option Int×Int)) :
  (cC n (g::r)).sum=((List.range n).map λ (k:Nat)=>if g.1=some (k:Int) then g.2 else 0).sum+(cC n r).sum:=by
 unfold cC
 induction n with
 | zero=>rfl
 | succ n ih=>
  rw[List.range_succ,List.map_append,List.map_append,List.map_append,List.sum_append,List.sum_append,List.sum_append,ih]
  simp only [List.map_cons,List.map_nil,List.sum_cons,List.sum_nil,bQ]
  omega
theorem FK (n:Nat) (t:Option Int) (a:Int):((List.range n).map λ (k:Nat)=>if t=some (k:Int) then a else 0).sum=(match t with | none=>0 | some i=>if 0<=i/\i < n then a else 0):=by
 induction n with
 | zero=>cases t with
  | none=>rfl
  | some i=>show (0:Int)=_;rw[show (match some i with | none=>(0:Int) | some i=>if 0<=i/\i < ((0:Nat):Int) then a else 0)=if 0<=i/\i < ((0:Nat):Int) then a else 0 from rfl,if_neg (by omega)]
 | succ n ih=>
  rw[List.range_succ,List.map_append,List.sum_append,ih]
  cases t with
  | none=>simp
  | some i=>
   simp only [List.map_cons,List.map_nil,List.sum_cons,List.sum_nil,Option.some.injEq]
   by_cases h1:i=(n:Int)
   ·rw[if_pos h1,if_neg (by omega),if_pos (by omega)];omega
   ·rw[if_neg h1]
    by_cases h2:0<=i/\i < (n:Int)
    ·rw[if_pos h2,if_pos (by omega)];omega
    ·rw[if_neg h2,if_neg (by omega)];omega
theorem pF (n:Nat):∀ gs:List (Option Int×Int),(∀ g∈gs,∀ t,g.1=some t->0<=t/\t < n)->(cC n gs).sum+bQ none gs=A6 gs
 | [],_=>by rw[xQ];rfl
 | g::r,h=>by
  have ih:=pF n r λ x hx=>h x (List.mem_cons_of_mem _ hx)
  have hg:=h g List.mem_cons_self
  rw[vR,FK]
  show _+_+((if g.1=none then g.2 else 0)+bQ none r)=g.2+A6 r
  obtain⟨t,a⟩:=g
  cases t with
  | none=>simp only [if_pos];omega
  | some i=>
   have:=hg i rfl
   simp only [if_pos this]
   rw[if_neg (by simp)];omega
theorem BK {n m:Nat}{v:Vs} (ok:VOk n m v) (h:Int):∀ g∈d6 v h,∀ t,g.1=some t->0<=t/\t < n:=by
 intro g hg t e
 unfold d6 at hg
 rcases List.mem_cons.1 hg with q | q
 ·subst q;exact ok.spill t e
 ·split at q
  ·rcases List.mem_append.1 q with q | q
   ·unfold dA at q
    obtain⟨o,ho,rfl⟩:=List.mem_map.1 q
    exact (ok.outs o ho).tg t e
   ·split at q
    ·cases q
    ·rw[List.mem_singleton] at q;subst q;cases e
  ·cases q
theorem mZ {n m:Nat}:∀ (vs:List Vs) (hs:List Int),(∀ v∈vs,VOk n m v)->∀ g∈bF vs hs,∀ t,g.1=some t->0<=t/\t < n
 | [],_,_,g,hg,_,_=>by simp [bF] at hg
 | _::_,[],_,g,hg,_,_=>by simp [bF] at hg
 | v::vs,b::hs,ok,g,hg,t,e=>by
  rcases List.mem_append.1 (show g∈d6 v b++bF vs hs from hg) with q | q
  ·exact BK (ok v List.mem_cons_self) b g q t e
  ·exact mZ vs hs (λ x hx=>ok x (List.mem_cons_of_mem _ hx)) g q t e
theorem kept {net:Net} (nok:NetOk net) {held coming poured:List Int}{doors:List Bool} (hl:(aL net held coming poured doors).length=net.vs.length) :
  (aL net held coming poured doors).sum=(bV net held coming poured doors).held.sum+(bV net held coming poured doors).coming.sum+(bV net held coming poured doors).ground:=by
 have a:=pD net.vs _ hl.symm
 have b:=pF net.vs.length (bF net.vs (aL net held coming poured doors)) (mZ _ _ nok.vs)
 show _=(bW net.vs _).sum+(cC net.vs.length _).sum+bQ none _
 omega
end Tw
namespace Tw
open PySem L2
noncomputable def BG (n:Nat):Option Int->Option Int
 | none=>none
 | some t=>some (t+n)
noncomputable def rD (n:Nat) (o:Option Int×Int):Option Int×Int:=(BG n o.1,o.2)
noncomputable def EF (m:Nat) (a:Str×Int):Str×Int:=(a.1,a.2+m)
noncomputable def kF (n m:Nat) (v:Vs):Vs:={ v with outs:=v.outs.map (rD n),spill:=BG n v.spill,acts:=v.acts.map (EF m) }
noncomputable def wY (n:Nat) (s:oE):oE:=(s.1+n,s.2)
noncomputable def aU (A B:Net):Net:=⟨A.vs++B.vs.map (kF A.vs.length A.sps.length),A.sps++B.sps.map (wY A.vs.length)⟩
theorem wH:∀ {a1 b1 c1:List Int} (a2 b2 c2:List Int),a1.length=b1.length->a1.length=c1.length->eR (a1++a2) (b1++b2) (c1++c2)=eR a1 b1 c1++eR a2 b2 c2
 | [],[],[],_,_,_,_,_=>rfl
 | x::a1,y::b1,z::c1,a2,b2,c2,h1,h2=>by
  show (x+y+z)::eR (a1++a2) (b1++b2) (c1++c2)=_
  rw[wH a2 b2 c2 (by simpa using h1) (by simpa using h2)];rfl
 | [],[],_::_,_,_,_,_,h=>by simp at h
 | [],_::_,_,_,_,_,h,_=>by simp at h
 | _::_,[],_,_,_,_,h,_=>by simp at h
 | _::_,_::_,[],_,_,_,_,h=>by simp at h
theorem xW (h1 h2:List Int) (s:oE) (d:Bool) (hs:0<=s.1/\s.1 < h1.length):eP (h1++h2) s d=eP h1 s d++h2:=by
 unfold eP
 split
 ·rw[List.set_append_left _ _ (by omega),List.getD_eq_getElem?_getD,List.getElem?_append_left (by omega),<- List.getD_eq_getElem?_getD]
 ·rfl
theorem vZ (h1 h2:List Int) (s:oE) (d:Bool) (hs:0<=s.1):eP (h1++h2) (wY h1.length s) d=h1++eP h2 s d:=by
 have e:(wY h1.length s).1.toNat=h1.length+s.1.toNat:=by show (s.1+(h1.length:Int)).toNat=_;omega
 unfold eP
 rw[e]
 split
 ·rw[List.set_append_right _ _ (by omega),Nat.add_sub_cancel_left,List.getD_eq_getElem?_getD,List.getElem?_append_right (by omega),Nat.add_sub_cancel_left,<- List.getD_eq_getElem?_getD];rfl
 ·rfl
theorem qU (h2:List Int):∀ (ss:List oE) (ds:List Bool) (h1:List Int),(∀ s∈ss,0<=s.1/\s.1 < h1.length)->cE (h1++h2) ss ds=cE h1 ss ds++h2
 | [],_,_,_=>by simp [cE]
 | _::_,[],_,_=>by simp [cE]
 | s::ss,d::ds,h1,hs=>by
  show cE (eP (h1++h2) s d) ss ds=cE (eP h1 s d) ss ds++h2
  rw[xW h1 h2 s d (hs s List.mem_cons_self)]
  exact qU h2 ss ds (eP h1 s d) λ x hx=>by rw[nL];exact hs x (List.mem_cons_of_mem _ hx)
theorem o9 (h1:List Int):∀ (ss:List oE) (ds:List Bool) (h2:List Int),(∀ s∈ss,0<=s.1)->cE (h1++h2) (ss.map (wY h1.length)) ds=h1++cE h2 ss ds
 | [],_,_,_=>by simp [cE]
 | _::_,[],_,_=>by simp [cE]
 | s::ss,d::ds,h2,hs=>by
  show cE (eP (h1++h2) (wY h1.length s) d) (ss.map (wY h1.length)) ds=h1++cE (eP h2 s d) ss ds
  rw[vZ h1 h2 s d (hs s List.mem_cons_self)]
  exact o9 h1 ss ds (eP h2 s d) λ x hx=>hs x (List.mem_cons_of_mem _ hx)
theorem t8:∀ (s1 s2:List oE) (d1 d2:List Bool) (h:List Int),s1.length=d1.length->cE h (s1++s2) (d1++d2)=cE (cE h s1 d1) s2 d2
 | [],_,[],_,_,_=>by simp [cE]
 | [],_,_::_,_,_,h=>by simp at h
 | _::_,_,[],_,_,h=>by simp at h
 | s::s1,s2,d::d1,d2,h,hl=>by
  show cE (eP h s d) (s1++s2) (d1++d2)=_
  rw[t8 s1 s2 d1 d2 _ (by simpa using hl)];rfl
theorem xS {A B:Net} (ha:NetOk A) (hb:NetOk B) {h1 c1 p1 h2 c2 p2:List Int}{d1 d2:List Bool} (s1:StOk A h1 c1 d1) (l1:p1.length=A.vs.length) (s2:StOk B h2 c2 d2) (l2:p2.length=B.vs.length) :
  aL (aU A B) (h1++h2) (c1++c2) (p1++p2) (d1++d2)=aL A h1 c1 p1 d1++aL B h2 c2 p2 d2:=by
 show cE (eR (h1++h2) (c1++c2) (p1++p2)) (A.sps++B.sps.map (wY A.vs.length)) (d1++d2)=_
 have e1:=s1.h
 have e2:=s1.c
 have la:(eR h1 c1 p1).length=A.vs.length:=eQ s1.h s1.c l1
 rw[wH h2 c2 p2 (by rw[e1,e2]) (by rw[e1,l1]),t8 _ _ _ _ _ s1.d.symm]
 rw[qU (eR h2 c2 p2) A.sps d1 (eR h1 c1 p1) λ s hs=>by rw[la];exact ha.sps s hs]
 have lf:(cE (eR h1 c1 p1) A.sps d1).length=A.vs.length:=by rw[eB,la]
 have:=o9 (cE (eR h1 c1 p1) A.sps d1) B.sps d2 (eR h2 c2 p2) λ s hs=>(hb.sps s hs).1
 rw[lf] at this
 exact this
theorem ER {n:Nat}{a b:Option Int}:BG n a=BG n b↔a=b:=by
 cases a <;> cases b <;> simp [BG] <;> omega
theorem oW (n:Nat) (outs:List (Option Int×Int)):whole (outs.map (rD n))=whole outs:=by
 unfold whole;rw[List.map_map];rfl
theorem zD (n m:Nat) (v:Vs) (h:Int):bI (kF n m v) h=bI v h:=rfl
theorem tN (n m:Nat) (v:Vs) (h:Int):dX (kF n m v) h=dX v h:=rfl
theorem EN (n m:Nat) (v:Vs) (h:Int):dD (kF n m v) h=dD v h:=by
 unfold dD
 rw[tN,zD,show (kF n m v).outs=v.outs.map (rD n) from rfl,oW];rfl
theorem FV (n m:Nat) (v:Vs) (h:Int):d6 (kF n m v) h=(d6 v h).map (rD n):=by
 have e:dA (kF n m v) (bI v h)=(dA v (bI v h)).map (rD n):=by
  unfold dA
  rw[show (kF n m v).outs=v.outs.map (rD n) from rfl,oW,List.map_map,List.map_map];rfl
 unfold d6
 rw[tN,zD,e,show (kF n m v).outs=v.outs.map (rD n) from rfl,oW,show (kF n m v).holds=v.holds from rfl]
 rw[List.map_cons]
 congr 1
 cases dX v h with
 | false=>rfl
 | true=>
  rw[if_pos rfl,if_pos rfl,List.map_append]
  congr 1
  cases v.holds <;> rfl
theorem sY:∀ (v1 v2:List Vs) (h1 h2:List Int),v1.length=h1.length->bF (v1++v2) (h1++h2)=bF v1 h1++bF v2 h2
 | [],_,[],_,_=>by simp [bF]
 | [],_,_::_,_,h=>by simp at h
 | _::_,_,[],_,h=>by simp at h
 | v::v1,v2,h::h1,h2,hl=>by
  show d6 v h++bF (v1++v2) (h1++h2)=(d6 v h++bF v1 h1)++bF v2 h2
  rw[sY v1 v2 h1 h2 (by simpa using hl),List.append_assoc]
theorem vV (n m:Nat):∀ (vs:List Vs) (hs:List Int),bF (vs.map (kF n m)) hs=(bF vs hs).map (rD n)
 | [],_=>by simp [bF]
 | _::_,[]=>by simp [bF]
 | v::vs,h::hs=>by
  show d6 (kF n m v) h++bF (vs.map (kF n m)) hs=(d6 v h++bF vs hs).map (rD n)
  rw[FV,vV n m vs hs,List.map_append]
theorem pE:∀ (v1 v2:List Vs) (h1 h2:List Int),v1.length=h1.length->bW (v1++v2) (h1++h2)=bW v1 h1++bW v2 h2
 | [],_,[],_,_=>by simp [bW]
 | [],_,_::_,_,h=>by simp at h
 | _::_,_,[],_,h=>by simp at h
 | v::v1,v2,h::h1,h2,hl=>by
  show dD v h::bW (v1++v2) (h1++h2)=_
  rw[pE v1 v2 h1 h2 (by simpa using hl)];rfl
theorem sJ (n m:Nat):∀ (vs:List Vs) (hs:List Int),bW (vs.map (kF n m)) hs=bW vs hs
 | [],_=>by simp [bW]
 | _::_,[]=>by simp [bW]
 | v::vs,h::hs=>by
  show dD (kF n m v) h::bW (vs.map (kF n m)) hs=dD v h::bW vs hs
  rw[EN,sJ n m vs hs]
theorem sB:∀ (i:Nat) (v1 v2:List Vs) (h1 h2:List Int),v1.length=h1.length->aT i (v1++v2) (h1++h2)=aT i v1 h1++aT (i+v1.length) v2 h2
 | i,[],_,[],_,_=>by simp [aT]
 | _,[],_,_::_,_,h=>by simp at h
 | _,_::_,_,[],_,h=>by simp at h
 | i,v::v1,v2,h::h1,h2,hl=>by
  have ih:=sB (i+1) v1 v2 h1 h2 (by simpa using hl)
  have e:i+1+v1.length=i+(v::v1).length:=by rw[List.length_cons];omega
  rw[e] at ih
  show (if dX v h=true then i::aT (i+1) (v1++v2) (h1++h2) else aT (i+1) (v1++v2) (h1++h2))=(if dX v h=true then i::aT (i+1) v1 h1 else aT (i+1) v1 h1)++_
  rw[ih]
  split <;> rfl
theorem uY (n m:Nat):∀ (i:Nat) (vs:List Vs) (hs:List Int),aT (n+i) (vs.map (kF n m)) hs=(aT i vs hs).map (n + ·)
 | _,[],_=>by simp [aT]
 | _,_::_,[]=>by simp [aT]
 | i,v::vs,h::hs=>by
  have ih:=uY n m (i+1) vs hs
  show (if dX (kF n m v) h=true then (n+i)::aT (n+i+1) (vs.map (kF n m)) hs else aT (n+i+1) (vs.map (kF n m)) hs)=List.map _ (if dX v h=true then i::aT (i+1) vs hs else aT (i+1) vs hs)
  rw[tN,Nat.add_assoc,ih]
  split <;> rfl
theorem jD (n:Nat):∀ gs:List (Option Int×Int),bQ none (gs.map (rD n))=bQ none gs
 | []=>rfl
 | g::r=>by
  show (if BG n g.1=none then g.2 else 0)+bQ none (r.map (rD n))=(if g.1=none then g.2 else 0)+bQ none r
  rw[jD n r]
  cases g.1 <;> rfl
theorem jC (n:Nat) (k:Int):∀ gs:List (Option Int×Int),bQ (some (k+n)) (gs.map (rD n))=bQ (some k) gs
 | []=>rfl
 | g::r=>by
  show (if BG n g.1=some (k+n) then g.2 else 0)+bQ (some (k+n)) (r.map (rD n))=(if g.1=some k then g.2 else 0)+bQ (some k) r
  rw[jC n k r]
  have:(BG n g.1=some (k+n))↔(g.1=some k):=ER (n:=n) (b:=some k)
  simp only [this]
theorem jB (k:Option Int):∀ gs:List (Option Int×Int),(∀ g∈gs,g.1≠k)->bQ k gs=0
 | [],_=>rfl
 | g::r,h=>by
  show (if g.1=k then g.2 else 0)+bQ k r=0
  rw[if_neg (h g List.mem_cons_self),jB k r λ x hx=>h x (List.mem_cons_of_mem _ hx)];rfl
theorem rP (n1 n2:Nat) (g1 g2:List (Option Int×Int)) (h1:∀ g∈g1,∀ t,g.1=some t->0<=t/\t < n1) (h2:∀ g∈g2,∀ t,g.1=some t->0<=t/\t < n2) :
  cC (n1+n2) (g1++g2.map (rD n1))=cC n1 g1++cC n2 g2:=by
 unfold cC
 rw[List.range_add,List.map_append,List.map_map]
 congr 1
 ·refine List.map_congr_left λ k hk=>?_
  have hk:=List.mem_range.1 hk
  rw[eZ,jB (some (k:Int)) (g2.map (rD n1)),Int.add_zero]
  intro g hg e
  obtain⟨x,hx,rfl⟩:=List.mem_map.1 hg
  cases hx1:x.1 with
  | none=>rw[show (rD n1 x).1=BG n1 x.1 from rfl,hx1] at e;cases e
  | some t=>
   have:=h2 x hx t hx1
   rw[show (rD n1 x).1=BG n1 x.1 from rfl,hx1] at e
   injection e with e
   omega
 ·refine List.map_congr_left λ k hk=>?_
  show bQ (some ((n1+k:Nat):Int)) (g1++g2.map (rD n1))=_
  rw[eZ,jB (some ((n1+k:Nat):Int)) g1,Int.zero_add]
  ·rw[show ((n1+k:Nat):Int)=(k:Int)+n1 by omega]
   exact jC n1 (k:Int) g2
  ·intro g hg e
   have:=h1 g hg _ e
   omega
theorem BB (d1 d2:List Bool) (a:Str×Int) (h:0<=a.2/\a.2 < d1.length):iT (d1++d2) a=iT d1 a++d2:=by
 unfold iT
 rw[List.set_append_left _ _ (by omega),List.getD_eq_getElem?_getD,List.getElem?_append_left (by omega),<- List.getD_eq_getElem?_getD]
theorem y9 (d1 d2:List Bool) (a:Str×Int) (h:0<=a.2):iT (d1++d2) (EF d1.length a)=d1++iT d2 a:=by
 have e:(EF d1.length a).2.toNat=d1.length+a.2.toNat:=by show (a.2+(d1.length:Int)).toNat=_;omega
 unfold iT
 rw[e,List.set_append_right _ _ (by omega),Nat.add_sub_cancel_left,List.getD_eq_getElem?_getD,List.getElem?_append_right (by omega),Nat.add_sub_cancel_left,<- List.getD_eq_getElem?_getD];rfl
theorem rB (d2:List Bool):∀ (as:List (Str×Int)) (d1:List Bool),(∀ a∈as,0<=a.2/\a.2 < d1.length)->cR (d1++d2) as=cR d1 as++d2
 | [],_,_=>rfl
 | a::as,d1,h=>by
  show cR (iT (d1++d2) a) as=cR (iT d1 a) as++d2
  rw[BB d1 d2 a (h a List.mem_cons_self)]
  exact rB d2 as (iT d1 a) λ x hx=>by rw[wI];exact h x (List.mem_cons_of_mem _ hx)
theorem oD (d1:List Bool):∀ (as:List (Str×Int)) (d2:List Bool),(∀ a∈as,0<=a.2)->cR (d1++d2) (as.map (EF d1.length))=d1++cR d2 as
 | [],_,_=>rfl
 | a::as,d2,h=>by
  show cR (iT (d1++d2) (EF d1.length a)) (as.map (EF d1.length))=d1++cR (iT d2 a) as
  rw[y9 d1 d2 a (h a List.mem_cons_self)]
  exact oD d1 as (iT d2 a) λ x hx=>h x (List.mem_cons_of_mem _ hx)
theorem oB (vs w:List Vs) (d2:List Bool) (m:Nat) (hv:∀ v∈vs,∀ a∈v.acts,0<=a.2/\a.2 < m):∀ (tip:List Nat) (d1:List Bool),d1.length=m->(∀ i∈tip,i < vs.length)->bE (vs++w) (d1++d2) tip=bE vs d1 tip++d2
 | [],_,_,_=>rfl
 | i::tip,d1,hd,ht=>by
  have hi:=ht i List.mem_cons_self
  have e1:(vs++w)[i]? = some vs[i]:=by rw[List.getElem?_append_left hi];simp [hi]
  have e2:vs[i]? = some vs[i]:=by simp [hi]
  show bE (vs++w) (match (vs++w)[i]? with | some v=>cR (d1++d2) v.acts | none=>d1++d2) tip=bE vs (match vs[i]? with | some v=>cR d1 v.acts | none=>d1) tip++d2
  rw[e1,e2]
  show bE (vs++w) (cR (d1++d2) vs[i].acts) tip=bE vs (cR d1 vs[i].acts) tip++d2
  rw[rB d2 _ d1 λ a ha=>by rw[hd];exact hv _ (List.getElem_mem hi) a ha]
  exact oB vs w d2 m hv tip _ (by rw[iF];exact hd) λ x hx=>ht x (List.mem_cons_of_mem _ hx)
theorem n6 (vs w:List Vs) (n:Nat) (hw:∀ v∈w,∀ a∈v.acts,0<=a.2) (d1:List Bool):∀ (tip:List Nat) (d2:List Bool),(∀ i∈tip,i < w.length)->bE (vs++w.map (kF n d1.length)) (d1++d2) (tip.map (vs.length + ·))=d1++bE w d2 tip
 | [],_,_=>rfl
 | i::tip,d2,ht=>by
  have hi:=ht i List.mem_cons_self
  have e2:w[i]? = some w[i]:=by simp [hi]
  have e1:(vs++w.map (kF n d1.length))[vs.length+i]? = some (kF n d1.length w[i]):=by rw[List.getElem?_append_right (by omega),Nat.add_sub_cancel_left,List.getElem?_map,e2];rfl
  show bE (vs++w.map (kF n d1.length)) (match (vs++w.map (kF n d1.length))[vs.length+i]? with | some v=>cR (d1++d2) v.acts | none=>d1++d2) (tip.map (vs.length + ·))=d1++bE w (match w[i]? with | some v=>cR d2 v.acts | none=>d2) tip
  rw[e1,e2]
  show bE (vs++w.map (kF n d1.length)) (cR (d1++d2) (w[i].acts.map (EF d1.length))) (tip.map (vs.length + ·))=d1++bE w (cR d2 w[i].acts) tip
  rw[oD d1 _ d2 λ a ha=>hw _ (List.getElem_mem hi) a ha]
  exact n6 vs w n hw d1 tip _ λ x hx=>ht x (List.mem_cons_of_mem _ hx)
theorem xY (vs:List Vs) (ds:List Bool) (t1 t2:List Nat):bE vs ds (t1++t2)=bE vs (bE vs ds t1) t2:=by unfold bE;rw[List.foldl_append]
theorem nV {A B:Net} (ha:NetOk A) (hb:NetOk B) {h1 c1 p1 h2 c2 p2:List Int}{d1 d2:List Bool} (s1:StOk A h1 c1 d1) (l1:p1.length=A.vs.length) (s2:StOk B h2 c2 d2) (l2:p2.length=B.vs.length) :
  (bV (aU A B) (h1++h2) (c1++c2) (p1++p2) (d1++d2)).held=(bV A h1 c1 p1 d1).held++(bV B h2 c2 p2 d2).held/\
  (bV (aU A B) (h1++h2) (c1++c2) (p1++p2) (d1++d2)).coming=(bV A h1 c1 p1 d1).coming++(bV B h2 c2 p2 d2).coming/\
  (bV (aU A B) (h1++h2) (c1++c2) (p1++p2) (d1++d2)).doors=(bV A h1 c1 p1 d1).doors++(bV B h2 c2 p2 d2).doors/\
  (bV (aU A B) (h1++h2) (c1++c2) (p1++p2) (d1++d2)).tip=(bV A h1 c1 p1 d1).tip++(bV B h2 c2 p2 d2).tip.map (A.vs.length + ·)/\
  (bV (aU A B) (h1++h2) (c1++c2) (p1++p2) (d1++d2)).ground=(bV A h1 c1 p1 d1).ground+(bV B h2 c2 p2 d2).ground:=by
 have hs:=xS ha hb s1 l1 s2 l2
 have lA:(aL A h1 c1 p1 d1).length=A.vs.length:=by unfold aL;rw[eB,eQ s1.h s1.c l1]
 have lB:(aL B h2 c2 p2 d2).length=B.vs.length:=by unfold aL;rw[eB,eQ s2.h s2.c l2]
 have eg:bF (aU A B).vs (aL (aU A B) (h1++h2) (c1++c2) (p1++p2) (d1++d2))=bF A.vs (aL A h1 c1 p1 d1)++(bF B.vs (aL B h2 c2 p2 d2)).map (rD A.vs.length):=by
  rw[hs]
  show bF (A.vs++B.vs.map _) _=_
  rw[sY _ _ _ _ lA.symm,vV]
 have et:aT 0 (aU A B).vs (aL (aU A B) (h1++h2) (c1++c2) (p1++p2) (d1++d2))=aT 0 A.vs (aL A h1 c1 p1 d1)++(aT 0 B.vs (aL B h2 c2 p2 d2)).map (A.vs.length + ·):=by
  rw[hs]
  show aT 0 (A.vs++B.vs.map _) _=_
  rw[sB _ _ _ _ _ lA.symm,Nat.zero_add]
  have:=uY A.vs.length A.sps.length 0 B.vs (aL B h2 c2 p2 d2)
  rw[Nat.add_zero] at this
  rw[this]
 refine⟨?_,?_,?_,et,?_⟩
 ·show bW (aU A B).vs (aL (aU A B) (h1++h2) (c1++c2) (p1++p2) (d1++d2))=_
  rw[hs]
  show bW (A.vs++B.vs.map _) _=_
  rw[pE _ _ _ _ lA.symm,sJ];rfl
 ·show cC (aU A B).vs.length (bF (aU A B).vs _)=_
  rw[eg,show (aU A B).vs.length=A.vs.length+B.vs.length by show (A.vs++B.vs.map _).length=_;rw[List.length_append,List.length_map]]
  exact rP _ _ _ _ (mZ _ _ ha.vs) (mZ _ _ hb.vs)
 ·show bE (aU A B).vs (d1++d2) (aT 0 (aU A B).vs _)=_
  rw[et,xY]
  show bE (A.vs++B.vs.map (kF A.vs.length A.sps.length)) (bE (A.vs++B.vs.map (kF A.vs.length A.sps.length)) (d1++d2) (aT 0 A.vs (aL A h1 c1 p1 d1))) ((aT 0 B.vs (aL B h2 c2 p2 d2)).map (A.vs.length + ·))=_
  rw[oB A.vs _ d2 A.sps.length (λ v hv a haa=>⟨((ha.vs v hv).acts a haa).lo,((ha.vs v hv).acts a haa).hi⟩) _ d1 s1.d λ i hi=>by have:=i5 _ _ _ _ hi;omega]
  have ld:(bE A.vs d1 (aT 0 A.vs (aL A h1 c1 p1 d1))).length=A.sps.length:=by rw[h7];exact s1.d
  have:=n6 A.vs B.vs A.vs.length (λ v hv a haa=>((hb.vs v hv).acts a haa).lo) (bE A.vs d1 (aT 0 A.vs (aL A h1 c1 p1 d1))) (aT 0 B.vs (aL B h2 c2 p2 d2)) d2 λ i hi=>by have:=i5 _ _ _ _ hi;omega
  rw[ld] at this
  exact this
 ·show bQ none (bF (aU A B).vs _)=_
  rw[eg,eZ,jD];rfl
end Tw
namespace Tw
open PySem L2
theorem nO {aq:Type} (f:aq->L2.D) (hf:∀ a,(f a).depth=0):∀ l:List aq,eX (l.map f)=0
 | []=>by rw[List.map_nil,eX]
 | a::r=>by rw[List.map_cons,eX,hf,nO f hf r];rfl
theorem AX (i:Int):(L2.D.int i).depth=0:=by rw[L2.D.depth] <;> intros <;> (first | rfl | (intro z;cases z) | (rename_i z;cases z))
theorem DZ (i:Bool):(L2.D.bl i).depth=0:=by rw[L2.D.depth] <;> intros <;> (first | rfl | (intro z;cases z) | (rename_i z;cases z))
theorem DX (held coming:List Int) (doors:List Bool):eX [.tup (held.map L2.D.int),.tup (coming.map L2.D.int),.tup (doors.map L2.D.bl)]=1:=by
 simp only [eX,L2.D.depth,nO _ AX,nO _ DZ];rfl
theorem ID (K:PySem.W.Frag):PySem.W.kitOne K (.type "int") (.type "bool")=some false:=by
 unfold PySem.W.kitOne
 rw[if_neg (by decide +kernel)]
 show (if PySem.W.kitMeta "bool" = true then PySem.W.subIn K (.type "int") (.type "bool") else none)=some false
 rw[if_pos (by decide +kernel)]
 show (PySem.fastBuiltinMro "int").map (·.contains (.type "bool"))=some false
 decide +kernel
section
variable {P:Program}{w:World}{K:PySem.W.Frag}{mg:Str->Option Value}{base:Heap}
noncomputable def yH (K:PySem.W.Frag):Sp:=λ vs H Q _=>∃ (a:Addr) (ns:List Int),vs=[.ref a]/\bR K H a (ns.map V.int)/\ns.length<=63/\∀ H',Q (.bl true) H'
end
end Tw
namespace L2
open PySem PySem.Spec PyProof.Rows TwZ
section
variable {X:Cx}{K:PySem.W.Frag}
theorem qB {x:Str}{v:V}{pos:Pos} (hg:Gl X x) (h:∃ u,X.mg x=some u/\bL v u) (hd:(x == ("__debug__" : Str))=false:=by decide):PE X (.Name x pos) (tC v):=by
 obtain⟨u,e,r⟩:=h
 exact FF hg e r hd
theorem HY (hK:X.K=K):iU X (compareOp .In) (rIn K false):=by subst hK;exact AF
end
end L2
namespace Tw
open PySem L2
theorem IC (K:PySem.W.Frag):PySem.W.kitOne K (.type "int") (.type "int")=some true:=by
 unfold PySem.W.kitOne;rw[if_pos (by decide +kernel)]
section
variable {P:Program}{w:World}{K:PySem.W.Frag}{mg:Str->Option Value}{base:Heap}{aw:Addr}
theorem nZ:FnScope ["thing","least","most"] ["thing","least","most"] (aK (bH 9)):=⟨rfl,rfl,rfl,by decide +kernel,rfl,by decide +kernel,by decide +kernel⟩
end
end Tw
namespace L2
open PySem PySem.Spec PyProof.Rows
end L2
namespace L2
open PySem PySem.Spec PyProof.Rows TwZ
section
variable {X:Cx}{K:PySem.W.Frag}
theorem D3 (hK:X.K=K):iU X (binaryOp .Add) (GG K):=by subst hK;exact yU
theorem p6 (l:Addr) (items:Array Value) (n:Nat) (x:Int) (u:Tok) (dd:Option Addr) (sl:Array (Option Value)) (c0:¬ (decide (x < -(2 ^ 63)) || decide (x ≥ 2 ^ 63))=true) (c1:¬ (items.isEmpty || x == 1)=true)
  (c2:(decide (x<=0) || items.isEmpty)=true) :
  Meets (Builtin.«tuple.__mul__» ⟨[.ref l,.int x u],[]⟩) (λ _ R s=>s.heap.get? l=some { cls:=.type "tuple",dict:=dd,data:=.seq items n,slots:=sl }/\
   R (.ok (.ret (.ref s.heap.objs.size))) { s with heap:=s.heap.push { cls:=.type "tuple",data:=.seq #[] } }):=
 .of_wp λ prog w A R s h=>by
  obtain⟨hp,g,d,tk,os⟩:=s;obtain⟨hl,h⟩:=h
  wp_walk
  rw[if_neg c0]
  wp_walk
  all_goals (try rw[if_neg c1])
  wp_walk
  all_goals (try rw[if_pos c2])
  wp_walk
  exact⟨_,rfl,h⟩
noncomputable def GD (K:PySem.W.Frag):R2:=λ x y H Q=>∃ (l:Addr) (k:Int) (xs:List V),x=.ref l/\y=.int k/\bO K H l xs/\0<=k/\k < 1000000/\xs≠[]/\xs.length<=10/\
 ∀ p H',aH H H'->bO K H' p (List.replicate k.toNat xs).flatten->Q (.ref p) H'
theorem FG:iU X (binaryOp .Mult) (GD X.K):=by
 intro pins s σ H x y v u Q I rx ry h
 obtain⟨l,k,xs,rfl,rfl,hq,h1,h2,hne,hl10,q⟩:=h
 by_cases hk:1<=k
 ·exact yS pins s σ H _ _ v u Q I rx ry ⟨l,k,xs,rfl,rfl,hq,hk,h2,hne,hl10,q⟩
 ·have hk0:k=0:=by omega
  subst hk0
  cases rx
  obtain⟨t,rfl⟩:=ry
  obtain⟨its,r,ht,z⟩:=I.tuple hq
  have hlen:=r.length
  obtain⟨⟨cls,dd,data,sl⟩,e,hc,n,hd⟩:=id ht
  simp only at hc hd
  subst hc hd
  refine wpAny_binaryOp_repeat_ref (T := "tuple") (U := "int") (by decide) ⟨_,e,rfl⟩ (λ s'=>typeIs_int s' 0 t) iA F.fills_int_mul F.slot_int_rmul mM F.slot_int_index.lookup
   (call_meets F.slot_int_rmul (typeIs_int s 0 t) F.entry_int_rmul (F.args_int_rmul_2 _ _) (jU 0 t l its.toArray n dd sl) ⟨e,rfl,⟨_,e,rfl⟩,?_⟩)
  have hne':its≠[]:=λ z=>by rw[z] at hlen;exact hne (List.eq_nil_of_length_eq_zero hlen)
  have hemp:its.toArray.isEmpty=false:=by cases its with
   | nil=>exact absurd rfl hne'
   | cons a r=>rfl
  refine call_meets F.slot_tuple_mul ⟨_,e,rfl⟩ F.entry_tuple_mul (F.args_tuple_mul_2 _ _) (p6 l its.toArray n 0 t dd sl (by decide) (by rw[hemp];decide) (by simp)) ⟨e,?_⟩
  have I1:=I.laid (a:=s.heap.objs.size) (o:=.tup []) (h':=s.heap.push { cls:=.type "tuple",data:=.seq #[] }) (t':=s.toks)
   (λ _ _ q=>Heap.get?_push_of_some _ q) (Nat.le_refl _) ⟨Nat.zero_le _,[],.nil,⟨_,Heap.get?_push_size _ rfl,rfl,0,rfl⟩⟩
  exact⟨.ref _,_,I1,rfl,q _ _ (aH.new I.fresh) (bO.of aB)⟩
theorem CW (hK:X.K=K):iU X (binaryOp .Mult) (GD K):=by subst hK;exact FG
end
noncomputable def ButL (fp:List Addr) (H H':Hp):Prop:=∀ b o,b∉fp->H b=some o->H' b=some o
end L2
namespace L2
open PySem PySem.Spec PyProof.Rows TwZ
section
variable {K:PySem.W.Frag}{g:TG}{tc:TT}{te:TE}{fr:List (Option Nat)}{σ:St}{H1:Hp}{Q:Addr->Hp->Prop}
theorem FR {t1 t2:Bool}{a1 a2:Addr}{xs ys:List V}{n:Nat} (h1:xs.length=n) (h2:ys.length=n) (Pv:Addr->Nat->List V->St->Hp->Prop)
  (hq:∀ D i r σ H,Pv D i r σ H->j7 K H t1 a1 xs/\j7 K H t2 a2 ys)
  (h0:∀ D,H1 D=none->Pv D 0 [] (qT fr σ) (upd H1 D (.lst []))) (hstop:∀ D r Z H',Pv D n r Z H'->Q D H')
  (hgo:∀ D i x y r Z H' T,xs[i]? = some x->ys[i]? = some y->Pv D i r Z H'->H' T=none->g (.ref T) Z (upd H' T (.tup [x,y])) λ ai H3=>tc ai H3 λ b H4=>
    if b=true then te ai H4 λ y H5=>H5 D=some (.lst r)/\r.length < PySem.sizeLine/\Pv D (i+1) (r++[y]) ai (upd H5 D (.lst (r++[y])))
    else Pv D (i+1) r ai H4):hW (G6 K t1 t2 a1 a2) g tc te fr σ H1 Q:=by
 refine nI (n:=n) Pv h0 (λ D r Z H' p=>?_) λ D i r Z H' hi p=>?_
 ·obtain⟨q1,q2⟩:=hq D _ r Z H' p
  exact⟨⟨xs,ys,q1,q2,.inl (by omega)⟩,hstop D r Z H' p⟩
 ·obtain⟨q1,q2⟩:=hq D _ r Z H' p
  refine⟨⟨xs,ys,xs[i]'(by omega),ys[i]'(by omega),q1,q2,by simp,by simp⟩,?_⟩
  rintro v H2 ⟨T,x,y,hT,rfl,e1,e2,rfl⟩
  exact hgo D i x y r Z H' T (e1 xs q1) (e2 ys q2) p hT
end
end L2
namespace Tw
open PySem L2
noncomputable def bZ:List oE->List Bool->Int
 | s::ss,d::ds=>(if d=true then s.2.1 else 0)+bZ ss ds
 | _,_=>0
theorem oV {n:Nat} (h:1<=n):(0:Int)::d5 (n - 1)=d5 n:=by
 obtain⟨k,rfl⟩:∃ k,n=k+1:=⟨n - 1,by omega⟩
 simp [d5,List.replicate_succ]
section
variable {K:PySem.W.Frag}{C r dx R M T:Addr}{H H':Hp}{S:RunS}{fp:List Addr}{np mv:V}{ts:List Addr}{rs ms:List V}
end
section
variable {P:Program}{w:World}{K:PySem.W.Frag}{mg:Str->Option Value}{base:Heap}{C:Addr}
theorem jI:FnScope ["net","number","vessels","spouts"] ["net","number"] (aK (bH 8)):=⟨rfl,rfl,rfl,by decide +kernel,rfl,by decide +kernel,by decide +kernel⟩
noncomputable def kD (K:PySem.W.Frag):Sp:=λ vs H Q _=>∃ (x:V) (net:Net) (v:Int),vs=[x,.int v]/\Is K H (eF net) x/\NetOk net/\∀ p H',aH H H'->bO K H' p ((v::d5 (net.vs.length - 1)).map V.int)->Q (.ref p) H'
theorem pS:FnScope ["net","amount","vessels","spouts"] ["net","amount"] (aK (bH 12)):=⟨rfl,rfl,rfl,by decide +kernel,rfl,by decide +kernel,by decide +kernel⟩
theorem xH {f:Addr}{fd:FuncData} (F:Fun K "pouring" "pouring" (bH 12) f fd) (T:Txt mg):FnOk P w K mg base j3 1 f fd ["net","amount"] (kD K):=by
 refine F.ok pS (λ vs H Q E h=>?_) (λ cdv A outer s H vs Q E hr h=>?_)
 ·obtain⟨x,net,v,rfl,_⟩:=h;rfl
 ·obtain⟨x,net,v,rfl,hx,nok,k⟩:=h
  have sc:=pS
  refine⟨_,(aD (cI (pv 0) (bB (K:=K) (n:=2) rfl rfl (aF (aE (i:=2) sc.nd rfl (Or.inl rfl)) (aF (aE (i:=3) sc.nd rfl (Or.inl rfl)) bA))))
   (aM (bX (aW (D3 (K:=K) rfl) (bK (aA (pv 1) aC)) (aW (CW (K:=K) rfl) (bK (aA aG aC)) (aW gX (aR (bN (K:=K) rfl) rfl T.b_len PySem.boot_len (aA (pv 2) aC)) aG)))))),?_⟩
  obtain⟨a,b,c,xs,ys,rfl,q,q1,l1,q2,l2⟩:=dS hx
  have exl:xs.length=net.vs.length:=by rw[l1.length,List.length_map]
  have n1:=nok.lo
  have n2:=nok.hi
  refine⟨_,rfl,a,_,rfl,q,rfl,_,_,rfl,_,_,rfl,rfl,?_⟩
  refine⟨_,rfl,(show 1<=sizeLine by decide),λ y hy=>⟨(show 1<=sizeLine by decide),λ z hz=>?_⟩⟩
  have m1:=aH.new (o:=HO.tup [.int v]) hy
  have m2:=aH.new (o:=HO.tup [.int 0]) hz
  refine⟨_,rfl,b,xs,rfl,.inr (m2.tup (m1.tup q1)),_,_,rfl,rfl,z,_,[.int 0],rfl,rfl,bO.of aB,by omega,by omega,by simp,by simp,λ e H1 sm1 qe=>?_⟩
  have en:(((xs.length:Nat):Int) - 1).toNat=net.vs.length - 1:=by rw[exl];omega
  rw[en,CA] at qe
  refine⟨y,e,[.int v],_,rfl,rfl,sm1.tup (m2.tup (bO.of aB)),qe,by simp,aP (by simp;omega) |> Nat.le_of_lt,λ he=>?_,λ _ p hp=>?_⟩
  ·refine k _ _ ((m1.trans m2).trans sm1) ?_
   have e0:d5 (net.vs.length - 1)=[]:=List.map_eq_nil_iff.mp he
   rw[e0]
   exact sm1.tup (m2.tup (bO.of aB))
  ·exact k _ _ (((m1.trans m2).trans sm1).trans (aH.new hp)) (bO.of aB)
noncomputable def pL (K:PySem.W.Frag):Sp:=λ vs H Q _=>∃ (x y:V) (z:Addr) (net:Net) (held coming poured:List Int) (doors:List Bool),vs=[x,y,.ref z]/\Is K H (eF net) x/\Is K H (A9 held coming doors) y/\bO K H z (poured.map V.int)/\
 NetOk net/\StOk net held coming doors/\∀ H',aH H H'->Q (.int (poured.sum+bZ net.sps doors)) H'
theorem mR:∀ (ss:List oE) (ds:List Bool) (i:Nat) (s:oE) (d:Bool),ss[i]? = some s->ds[i]? = some d->bZ (ss.take (i+1)) (ds.take (i+1))=bZ (ss.take i) (ds.take i)+(if d=true then s.2.1 else 0)
 | [],_,i,_,_,h,_=>by simp at h
 | _::_,[],i,_,_,_,h=>by simp at h
 | a::ss,b::ds,0,s,d,h1,h2=>by simp at h1 h2;subst h1 h2;simp [bZ]
 | a::ss,b::ds,i+1,s,d,h1,h2=>by
  simp only [List.take_succ_cons,bZ]
  rw[mR ss ds i s d (by simpa using h1) (by simpa using h2)]
  omega
theorem pT:FnScope ["net","state","poured","vessels","spouts","held","coming","doors"] ["net","state","poured"] (aK (bH 14)):=⟨rfl,rfl,rfl,by decide +kernel,rfl,by decide +kernel,by decide +kernel⟩
theorem xI {f:Addr}{fd:FuncData} (F:Fun K "came_in" "came_in" (bH 14) f fd) (T:Txt mg):FnOk P w K mg base j3 1 f fd ["net","state","poured"] (pL K):=by
 refine F.ok pT (λ vs H Q E h=>?_) (λ cdv A outer s H vs Q E hr h=>?_)
 ·obtain⟨x,y,z,net,held,coming,poured,doors,rfl,_⟩:=h;rfl
 ·obtain⟨x,y,z,net,held,coming,poured,doors,rfl,hx,hy,qz,nok,sok,k⟩:=h
  have sc:=pT
  refine⟨_,(aD (cI (pv 0) (bB (K:=K) (n:=2) rfl rfl (aF (aE (i:=3) sc.nd rfl (Or.inl rfl)) (aF (aE (i:=4) sc.nd rfl (Or.inl rfl)) bA))))
   (aD (cI (pv 1) (bB (K:=K) (n:=3) rfl rfl (aF (aE (i:=5) sc.nd rfl (Or.inl rfl)) (aF (aE (i:=6) sc.nd rfl (Or.inl rfl)) (aF (aE (i:=7) sc.nd rfl (Or.inl rfl)) bA)))))
   (aM (bX (aW cO (aR (cU (K:=K) rfl rfl) rfl T.b_sum PyProof.Rows.boot_sum (aA (pv 2) aC)) (aR (cU (K:=K) rfl rfl) rfl T.b_sum PyProof.Rows.boot_sum (aA (fJ (λ _ _ h=>h) rfl (LcOk.mk (N':=["target","flow","first_door","door"]) (fr:=[none,none,none,none]) rfl trivial rfl rfl rfl rfl rfl trivial) (vI (K:=K) rfl rfl T.b_zip (aA (pv 4) (aA (pv 7) aC))) (λ _ _ _=>(bB (K:=K) (n:=2) rfl rfl (aF (bB (K:=K) (n:=3) rfl rfl (aF (aE (i:=0) (show (["target","flow","first_door","door"]:List Str).Nodup by decide +kernel) rfl (Or.inl rfl) (Or.inr rfl)) (aF (aE (i:=1) (show (["target","flow","first_door","door"]:List Str).Nodup by decide +kernel) rfl (Or.inl rfl) (Or.inr rfl)) (aF (aE (i:=2) (show (["target","flow","first_door","door"]:List Str).Nodup by decide +kernel) rfl (Or.inl rfl) (Or.inr rfl)) bA)))) (aF (aE (i:=3) (show (["target","flow","first_door","door"]:List Str).Nodup by decide +kernel) rfl (Or.inl rfl) (Or.inr rfl)) bA)))) (λ _ _ _=>mP (lN (pv 3))) (λ _ _ _=>(pv 1))) aC))))))),?_⟩
  obtain⟨a,b,c,xs,ys,rfl,q,q1,l1,q2,l2⟩:=dS hx
  obtain⟨ay,b1,b2,b3,rfl,qy,qb1,qb2,qb3⟩:=vC hy
  have eyl:ys.length=net.sps.length:=by rw[l2.length,List.length_map]
  have n3:=nok.sp
  refine⟨_,rfl,a,_,rfl,q,rfl,_,_,rfl,_,_,rfl,rfl,?_⟩
  refine⟨_,rfl,ay,_,rfl,qy,rfl,_,_,rfl,_,_,rfl,_,_,rfl,rfl,?_⟩
  refine⟨_,rfl,true,z,_,rfl,qz,?_⟩
  refine⟨_,rfl,_,rfl,true,true,c,b3,rfl,⟨_,q2⟩,⟨_,qb3⟩,FR (K:=K) (t1:=true) (t2:=true) (xs:=ys) (ys:=doors.map V.bl) (n:=net.sps.length) eyl (by rw[List.length_map];exact sok.d)
   (λ D i r Z H'=>H D=none/\aH H H'/\H' D=some (.lst r)/\(∃ ns:List Int,r=ns.map V.int/\ns.sum=bZ (net.sps.take i) (doors.take i)/\ns.length<=i)/\∃ u1 u2 u3 u4,Z=[u1,u2,u3,u4])
   (λ D i r Z H' p=>⟨p.2.1.tup q2,p.2.1.tup qb3⟩) (λ D hD=>⟨hD,aH.new hD,aB,⟨[],rfl,by simp [bZ],by simp⟩,none,none,none,none,rfl⟩) ?_ ?_⟩
  rotate_left
  ·rintro D i x y r Z H2 Tt hx hy ⟨hD,sm,hDl,⟨ns,rfl,hns,hnl⟩,u1,u2,u3,u4,rfl⟩ hT
   obtain⟨sp,hsi,sa,rfl,qs⟩:=nE l2 hx
   have hil:=(List.getElem?_eq_some_iff.mp hsi).1
   obtain⟨d,hdi,rfl⟩:∃ d,doors[i]? = some d/\y=V.bl d:=by
    rw[List.getElem?_map] at hy
    cases hd:doors[i]? with
    | none=>rw[hd] at hy;cases hy
    | some d=>rw[hd] at hy;cases hy;exact⟨d,rfl,rfl⟩
   have mT:=aH.new (o:=HO.tup [.ref sa,.bl d]) hT
   have hs:=mR net.sps doors i sp d hsi hdi
   refine⟨Tt,_,rfl,bO.of aB,rfl,_,_,rfl,sa,_,rfl,mT.tup (sm.tup qs),rfl,_,_,rfl,_,_,rfl,_,_,rfl,rfl,_,_,rfl,rfl,?_⟩
   refine⟨_,rfl,_,rfl,?_⟩
   have smT:=sm.trans mT
   cases d with
   | false=>
    refine j5 ⟨hD,smT,mT _ _ hDl,⟨ns,rfl,by rw[hs,hns];simp,by omega⟩,_,_,_,_,rfl⟩
   | true=>
    refine jT ⟨_,rfl,mT _ _ hDl,aP (by simp;omega),hD,smT.put hD,aB,⟨ns++[sp.2.1],by rw[List.map_append];rfl,by rw[hs,List.sum_append,hns];simp,by simp;omega⟩,_,_,_,_,rfl⟩
  ·rintro D r Z H2 ⟨hD,sm,hDl,⟨ns,rfl,hns,hnl⟩,_⟩
   refine⟨false,D,_,rfl,bR.of hDl,_,_,rfl,rfl,?_⟩
   rw[hns,List.take_of_length_le (Nat.le_refl _),List.take_of_length_le (Nat.le_of_eq sok.d)]
   exact k _ sm
end
end Tw
namespace Tw
open PySem L2
section
variable {K:PySem.W.Frag}
end
section
variable {P:Program}{w:World}{K:PySem.W.Frag}{mg:Str->Option Value}{base:Heap}{C:Addr}
end
end Tw
namespace Tw
open PySem L2
section
variable {K:PySem.W.Frag}
end
section
variable {P:Program}{w:World}{K:PySem.W.Frag}{mg:Str->Option Value}{base:Heap}{C:Addr}
end
end Tw
namespace Tw
open PySem L2
section
variable {K:PySem.W.Frag}{C r dx R M T:Addr}{H H':Hp}{S:RunS}{fp:List Addr}{np mv:V}{ts:List Addr}{rs ms:List V}
end
section
variable {P:Program}{w:World}{K:PySem.W.Frag}{mg:Str->Option Value}{base:Heap}{C:Addr}
end
end Tw
namespace Tw
open PySem L2
theorem yF:∀ (l:List Int) (i:Nat) (a:Int),i < l.length->(l.set i (l.getD i 0+a)).sum=l.sum+a
 | [],i,a,h=>by simp at h
 | x::l,0,a,_=>by simp;omega
 | x::l,i+1,a,h=>by
  have:=yF l i a (by simpa using h)
  simp only [List.set_cons_succ,List.sum_cons,List.getD_cons_succ]
  omega
theorem t0 {n:Nat}:∀ (ss:List oE) (ds:List Bool) (has:List Int),has.length=n->(∀ s∈ss,0<=s.1/\s.1 < n)->(cE has ss ds).sum=has.sum+bZ ss ds
 | [],ds,has,_,_=>by cases ds <;> simp [cE,bZ]
 | s::ss,[],has,_,_=>by simp [cE,bZ]
 | s::ss,d::ds,has,hl,h=>by
  have h1:=h s List.mem_cons_self
  show (cE (eP has s d) ss ds).sum=has.sum+((if d=true then s.2.1 else 0)+bZ ss ds)
  rw[t0 (n:=n) ss ds (eP has s d) (by rw[nL];exact hl) λ s hs=>h s (List.mem_cons_of_mem _ hs)]
  unfold eP
  by_cases e:d=true
  ·rw[if_pos e,if_pos e,yF _ _ _ (by omega)];omega
  ·rw[if_neg e,if_neg e];omega
theorem wG:∀ {a b c:List Int}{n:Nat},a.length=n->b.length=n->c.length=n->(eR a b c).sum=a.sum+b.sum+c.sum
 | [],b,c,n,h,h2,h3=>by
  simp at h;subst h
  have:=List.eq_nil_of_length_eq_zero h2
  have:=List.eq_nil_of_length_eq_zero h3
  subst b c;rfl
 | x::a,[],c,n,h1,h2,_=>by simp at h1 h2;omega
 | x::a,y::b,[],n,h1,_,h3=>by simp at h1 h3;omega
 | x::a,y::b,z::c,n,h1,h2,h3=>by
  simp at h1 h2 h3
  show x+y+z+(eR a b c).sum=_
  rw[wG (n:=n - 1) (by omega) (by omega) (by omega)]
  simp only [List.sum_cons]
  omega
theorem rT (n:Nat):(d5 n).sum=0:=by
 unfold d5
 induction n with
 | zero=>rfl
 | succ n ih=>rw[List.replicate_succ,List.sum_cons,ih];rfl
end Tw
namespace Tw
open PySem L2
section
variable {K:PySem.W.Frag}{t sl:Addr}{σ:St}{H0:Hp}
end
section
variable {K:PySem.W.Frag}{C:Addr}{H:Hp}{r:Addr}{S:RunS}{fp:List Addr}
end
end Tw
namespace Tw
open PySem L2
theorem BW {n1 n2:Nat}{o:Option Int} (h:∀ t,o=some t->0<=t/\t < n2):∀ t,BG n1 o=some t->0<=t/\t < (n1+n2:Nat):=by
 intro t ht
 cases o with
 | none=>cases ht
 | some u=>
  have:=h u rfl
  injection ht with ht
  omega
theorem BA {A B:Net} (ha:NetOk A) (hb:NetOk B) (h1:A.vs.length+B.vs.length<=12) (h2:A.sps.length+B.sps.length<=12):NetOk (aU A B):=by
 have el:(aU A B).vs.length=A.vs.length+B.vs.length:=by show (A.vs++B.vs.map _).length=_;rw[List.length_append,List.length_map]
 have es:(aU A B).sps.length=A.sps.length+B.sps.length:=by show (A.sps++B.sps.map _).length=_;rw[List.length_append,List.length_map]
 have up1:∀ v∈A.vs,VOk (A.vs.length+B.vs.length) (A.sps.length+B.sps.length) v:=λ v hv=>by
  have k:=ha.vs v hv
  exact { size:=k.size,ne:=k.ne,o3:=k.o3,outs:=λ o ho=>⟨λ t ht=>by have:=(k.outs o ho).tg t ht;omega,(k.outs o ho).lo,(k.outs o ho).hi⟩,spill:=λ t ht=>by have:=k.spill t ht;omega,a3:=k.a3,acts:=λ a haa=>⟨(k.acts a haa).word,(k.acts a haa).lo,by have:=(k.acts a haa).hi;omega⟩ }
 have up2:∀ v∈B.vs,VOk (A.vs.length+B.vs.length) (A.sps.length+B.sps.length) (kF A.vs.length A.sps.length v):=λ v hv=>by
  have k:=hb.vs v hv
  refine { size:=k.size,ne:=?_,o3:=?_,outs:=?_,spill:=BW k.spill,a3:=?_,acts:=?_ }
  ·show v.outs.map _≠[]
   intro z
   exact k.ne (List.map_eq_nil_iff.1 z)
  ·show (v.outs.map _).length<=3
   rw[List.length_map];exact k.o3
  ·intro o ho
   obtain⟨x,hx,rfl⟩:=List.mem_map.1 (show o∈v.outs.map (rD A.vs.length) from ho)
   exact⟨BW (k.outs x hx).tg,(k.outs x hx).lo,(k.outs x hx).hi⟩
  ·show (v.acts.map _).length<=3
   rw[List.length_map];exact k.a3
  ·intro a haa
   obtain⟨x,hx,rfl⟩:=List.mem_map.1 (show a∈v.acts.map (EF A.sps.length) from haa)
   have:=k.acts x hx
   exact⟨this.word,by show 0<=x.2+(A.sps.length:Int);have:=this.lo;omega,by show x.2+(A.sps.length:Int) < ((A.sps.length+B.sps.length:Nat):Int);have:=this.hi;omega⟩
 refine { lo:=by rw[el];have:=ha.lo;omega,hi:=by rw[el];exact h1,sp:=by rw[es];exact h2,vs:=?_,sps:=?_ }
 ·intro v hv
  rw[el,es]
  rcases List.mem_append.1 (show v∈A.vs++B.vs.map _ from hv) with hv | hv
  ·exact up1 v hv
  ·obtain⟨x,hx,rfl⟩:=List.mem_map.1 hv
   exact up2 x hx
 ·intro s hs
  rw[el]
  rcases List.mem_append.1 (show s∈A.sps++B.sps.map _ from hs) with hs | hs
  ·have:=ha.sps s hs;omega
  ·obtain⟨x,hx,rfl⟩:=List.mem_map.1 hs
   have:=hb.sps x hx
   show 0<=x.1+(A.vs.length:Int)/\x.1+(A.vs.length:Int) < _
   omega
theorem rV (a b:Nat):d5 (a+b)=d5 a++d5 b:=by unfold d5;rw[List.replicate_append_replicate]
theorem iS (A B:Net):(aU A B).vs.length=A.vs.length+B.vs.length:=by show (A.vs++B.vs.map _).length=_;rw[List.length_append,List.length_map]
theorem o8:∀ (s1 s2:List oE) (d1 d2:List Bool),s1.length=d1.length->bZ (s1++s2) (d1++d2)=bZ s1 d1+bZ s2 d2
 | [],_,[],_,_=>by simp [bZ]
 | [],_,_::_,_,h=>by simp at h
 | _::_,_,[],_,h=>by simp at h
 | s::s1,s2,d::d1,d2,h=>by
  show (if d=true then s.2.1 else 0)+bZ (s1++s2) (d1++d2)=((if d=true then s.2.1 else 0)+bZ s1 d1)+bZ s2 d2
  rw[o8 s1 s2 d1 d2 (by simpa using h)];omega
theorem qF (n:Nat):∀ (ss:List oE) (ds:List Bool),bZ (ss.map (wY n)) ds=bZ ss ds
 | [],_=>by simp [bZ]
 | _::_,[]=>by simp [bZ]
 | s::ss,d::ds=>by
  show (if d=true then s.2.1 else 0)+bZ (ss.map (wY n)) ds=(if d=true then s.2.1 else 0)+bZ ss ds
  rw[qF n ss ds]
end Tw
namespace Tw
open PySem L2
section
variable {P:Program}{w:World}{K:PySem.W.Frag}{mg:Str->Option Value}{base:Heap}
noncomputable def IX (K:PySem.W.Frag) (H:Hp) (a:Addr) (xs:List V):Prop:=bO K H a xs\/bR K H a xs
theorem IX.same {H H':Hp}{a:Addr}{xs:List V} (h:IX K H a xs) (s:aH H H'):IX K H' a xs:=h.elim (λ h=>.inl (s.tup h)) λ h=>.inr (s.seq h)
theorem KG {H:Hp}{z:Addr}{xs:List V}{i:Int}{v:V}{Q:VK} (h:IX K H z xs) (e:y6 xs i=some v) (k:Q v H):x9 K (.ref z) (.int i) H Q:=h.elim (λ h=>.inr (.inl ⟨z,xs,i,v,rfl,rfl,h,e,k⟩)) λ h=>.inl ⟨z,xs,i,v,rfl,rfl,h,e,k⟩
noncomputable def kE (K:PySem.W.Frag):Sp:=λ args H Q _=>∃ (x y:V) (z:Addr) (net:Net) (held coming poured:List Int) (doors:List Bool),args=[x,y,.ref z]/\Is K H (eF net) x/\Is K H (A9 held coming doors) y/\IX K H z (poured.map V.int)/\
 NetOk net/\StOk net held coming doors/\poured.length=net.vs.length/\∀ p H',aH H H'->H p=none->H' p=some (.lst ((aL net held coming poured doors).map V.int))->Q (.ref p) H'
theorem jL:FnScope ["net","state","poured","has","k"] ["net","state","poured"] (aK (bH 41)):=⟨rfl,rfl,rfl,by decide +kernel,rfl,by decide +kernel,by decide +kernel⟩
theorem qM {f:Addr}{fd:FuncData} (F:Fun K "_law_filled" "_law_filled" (bH 41) f fd) (T:Txt mg):FnOk P w K mg base j3 1 f fd ["net","state","poured"] (kE K):=by
 refine F.ok jL (λ vs H Q E h=>?_) (λ cdv A outer s H vs Q E hr h=>?_)
 ·obtain⟨x,y,z,net,held,coming,poured,doors,rfl,_⟩:=h;rfl
 ·obtain⟨x,y,z,net,held,coming,poured,doors,rfl,hx,hy,qz,nok,sok,hpl,k⟩:=h
  have sc:=jL
  refine⟨_,(aD (fI (i:=3) sc.nd rfl rfl (λ _ _ h=>h) rfl (LcOk.mk (N':=["k","poured","state"]) (fr:=[none,some 2,some 1]) rfl ⟨rfl,rfl,trivial⟩ rfl rfl rfl rfl rfl ⟨⟨_,rfl,rfl,rfl,rfl⟩,⟨_,rfl,rfl,rfl,rfl⟩,trivial⟩) (bT rfl T.b_range (aA (aR (bN (K:=K) rfl) rfl T.b_len PySem.boot_len (aA (aQ (aJ (K:=K) rfl) (pv 0) aG (λ _ _=>rfl)) aC)) aC)) (λ _ _ _=>(aE (i:=0) (show (["k","poured","state"]:List Str).Nodup by decide +kernel) rfl (Or.inl rfl) (Or.inr rfl))) (λ _ _ _=>cA) (λ _ _ _=>(aW cO (aW cO (aQ (aJ (K:=K) rfl) (aQ (aJ (K:=K) rfl) (pv 2) aG (λ _ _=>rfl)) (pv 0) (λ _ _=>rfl)) (aQ (aJ (K:=K) rfl) (aQ (aJ (K:=K) rfl) (pv 2) aG (λ _ _=>rfl)) (pv 0) (λ _ _=>rfl))) (aQ (aJ (K:=K) rfl) (pv 1) (pv 0) (λ _ _=>rfl)))))
   (aD (dQ PassesOwn.never rfl (bT rfl T.b_range (aA (aR (bN (K:=K) rfl) rfl T.b_len PySem.boot_len (aA (aQ (aJ (K:=K) rfl) (pv 0) aG (λ _ _=>rfl)) aC)) aC)) (aE (i:=4) sc.nd rfl (Or.inl rfl)) (aM (fC (lN (aQ (aJ (K:=K) rfl) (aQ (aJ (K:=K) rfl) (pv 1) aG (λ _ _=>rfl)) (pv 4) (λ _ _=>rfl))) (aM (cI (aW cO (aQ (aJ (K:=K) rfl) (pv 3) (aQ (aJ (K:=K) rfl) (aQ (aJ (K:=K) rfl) (aQ (aJ (K:=K) rfl) (pv 0) aG (λ _ _=>rfl)) (pv 4) (λ _ _=>rfl)) aG (λ _ _=>rfl)) (λ _ _=>rfl)) (aQ (aJ (K:=K) rfl) (aQ (aJ (K:=K) rfl) (aQ (aJ (K:=K) rfl) (pv 0) aG (λ _ _=>rfl)) (pv 4) (λ _ _=>rfl)) aG (λ _ _=>rfl))) (jO (pv 3) (aQ (aJ (K:=K) rfl) (aQ (aJ (K:=K) rfl) (aQ (aJ (K:=K) rfl) (pv 0) aG (λ _ _=>rfl)) (pv 4) (λ _ _=>rfl)) aG (λ _ _=>rfl)) fR))) cS)))
   (aM (bX (pv 3))))),?_⟩
  obtain⟨a,b,c,xs,ys,rfl,q,q1,l1,q2,l2⟩:=dS hx
  obtain⟨ay,a1,a2,a3,rfl,qy,p1,p2,p3⟩:=vC hy
  have exl:xs.length=net.vs.length:=by rw[l1.length,List.length_map]
  have eyl:ys.length=net.sps.length:=by rw[l2.length,List.length_map]
  have n1:=nok.lo
  have n2:=nok.hi
  have n3:=nok.sp
  have la:=eQ sok.h sok.c hpl
  refine⟨_,rfl,.inr (.inl ⟨a,_,0,_,rfl,rfl,q,rfl,b,xs,rfl,.inr q1,_,rfl,by omega,by omega,?_⟩)⟩
  have hn:((xs.length:Nat):Int).toNat=net.vs.length:=by rw[exl];simp
  rw[hn]
  refine gK (n:=net.vs.length) (λ D i r Z H'=>H D=none/\aH H H'/\H' D=some (.lst r)/\r=((eR held coming poured).take i).map V.int/\∃ v,Z=[v,some (.ref z),some (.ref ay)])
   (λ D hD=>⟨hD,aH.new hD,aB,by simp,none,rfl⟩) ?_ ?_
  rotate_left
  ·rintro D i r Z H' hi ⟨hD,sm,hDl,rfl,v,rfl⟩
   refine cT ?_
   have g1:held[i]? = some (held[i]'(by rw[sok.h];exact hi)):=by simp
   have g2:coming[i]? = some (coming[i]'(by rw[sok.c];exact hi)):=by simp
   have g3:poured[i]? = some (poured[i]'(by rw[hpl];exact hi)):=by simp
   have g4:=r9 g1 g2 g3
   have m1:∀ {l:List Int}{u:Int},l[i]? = some u->(l.map V.int)[i]? = some (.int u):=λ e=>by rw[List.getElem?_map,e];rfl
   refine⟨_,rfl,.inr (.inl ⟨ay,_,0,_,rfl,rfl,sm.tup qy,rfl,_,rfl,.inr (.inl ⟨a1,_,(i:Int),_,rfl,rfl,sm.tup p1,dW (m1 g1),?_⟩)⟩)⟩
   refine⟨_,rfl,.inr (.inl ⟨ay,_,1,_,rfl,rfl,sm.tup qy,rfl,_,rfl,.inr (.inl ⟨a2,_,(i:Int),_,rfl,rfl,sm.tup p2,dW (m1 g2),?_⟩)⟩)⟩
   refine⟨_,_,rfl,rfl,_,rfl,_,rfl,KG (qz.same sm) (dW (m1 g3)) ⟨_,_,rfl,rfl,hDl,aP (by simp;omega),hD,sm.put hD,aB,?_,_,rfl⟩⟩
   rw[aZ g4,List.map_append];rfl
  rintro D r Z H1 ⟨hD,sm,hDl,rfl,_⟩
  rw[<- la,List.take_length] at hDl
  refine⟨_,rfl,.inr (.inl ⟨a,_,1,_,rfl,rfl,sm.tup q,rfl,c,ys,rfl,.inr (sm.tup q2),_,rfl,by omega,by omega,?_⟩)⟩
  have hm:((ys.length:Nat):Int).toNat=net.sps.length:=by rw[eyl];simp
  rw[hm]
  refine dR (lo:=0) (n:=net.sps.length) (λ i Z H'=>aH H H'/\H' D=some (.lst ((cE (eR held coming poured) (net.sps.take i) (doors.take i)).map V.int))/\
   ∃ v4,Z=[some (.ref a),some (.ref ay),some (.ref z),some (.ref D),v4]) ⟨sm,by cases net.sps <;> exact hDl,none,rfl⟩ ?_ ?_
  ·rintro i Z H2 hi ⟨sm2,h2,v4,rfl⟩
   rw[Int.zero_add]
   have hsi:net.sps[i]? = some net.sps[i]:=by simp [hi]
   have hdi:doors[i]? = some (doors[i]'(by rw[sok.d];exact hi)):=by simp
   obtain⟨xv,hxv,ixv⟩:=l2.get (i:=i) (d:=wK net.sps[i]) (by rw[List.getElem?_map,hsi];rfl)
   obtain⟨sp,hsi',sa,rfl,qs⟩:=nE l2 hxv
   rw[hsi] at hsi'
   cases hsi'
   have snoc:=lU net.sps doors i (eR held coming poured) _ _ hsi hdi
   have hs:=nok.sps net.sps[i] (List.getElem_mem hi)
   have hdm:(doors.map V.bl)[i]? = some (.bl (doors[i]'(by rw[sok.d];exact hi))):=by rw[List.getElem?_map,hdi];rfl
   refine⟨_,rfl,.inr (.inl ⟨ay,_,2,_,rfl,rfl,sm2.tup qy,rfl,_,rfl,.inr (.inl ⟨a3,_,(i:Int),_,rfl,rfl,sm2.tup p3,dW hdm,_,rfl,?_⟩)⟩)⟩
   cases hdr:(doors[i]'(by rw[sok.d];exact hi)) with
   | false=>
    rw[hdr] at snoc
    refine j5 ?_
    exact⟨sm2,by rw[snoc];exact h2,_,rfl⟩
   | true=>
    rw[hdr] at snoc
    refine jT ?_
    have hlen:(cE (eR held coming poured) (net.sps.take i) (doors.take i)).length=net.vs.length:=by rw[eB,la]
    have hlt:net.sps[i].1.toNat < (cE (eR held coming poured) (net.sps.take i) (doors.take i)).length:=by rw[hlen];omega
    have hg:((cE (eR held coming poured) (net.sps.take i) (doors.take i)).map V.int)[net.sps[i].1.toNat]? = some (.int ((cE (eR held coming poured) (net.sps.take i) (doors.take i)).getD net.sps[i].1.toNat 0)):=by
     rw[List.getElem?_map,List.getD_eq_getElem?_getD];simp [hlt]
    refine⟨_,rfl,_,rfl,.inr (.inl ⟨a,_,1,_,rfl,rfl,sm2.tup q,rfl,_,rfl,.inr (.inl ⟨c,ys,(i:Int),_,rfl,rfl,sm2.tup q2,dW hxv,.inr (.inl ⟨sa,_,0,_,rfl,rfl,sm2.tup qs,rfl,.inl ⟨D,_,_,_,rfl,rfl,bR.of h2,kN hs.1 hg,?_⟩⟩)⟩)⟩)⟩
    refine⟨_,rfl,.inr (.inl ⟨a,_,1,_,rfl,rfl,sm2.tup q,rfl,_,rfl,.inr (.inl ⟨c,ys,(i:Int),_,rfl,rfl,sm2.tup q2,dW hxv,.inr (.inl ⟨sa,_,1,_,rfl,rfl,sm2.tup qs,rfl,_,_,rfl,rfl,?_⟩)⟩)⟩)⟩
    refine⟨_,rfl,_,rfl,.inr (.inl ⟨a,_,1,_,rfl,rfl,sm2.tup q,rfl,_,rfl,.inr (.inl ⟨c,ys,(i:Int),_,rfl,rfl,sm2.tup q2,dW hxv,.inr (.inl ⟨sa,_,0,_,rfl,rfl,sm2.tup qs,rfl,D,_,_,net.sps[i].1.toNat,rfl,rfl,h2,kJ hs.1 (by rw[List.length_map,hlen];omega),?_⟩)⟩)⟩)⟩
    refine⟨sm2.put hD,?_,_,rfl⟩
    rw[aB,snoc,eP,if_pos rfl,List.map_set]
  ·rintro Z H2 ⟨sm2,h2,v4,rfl⟩
   rw[<- sok.d,List.take_length,sok.d,List.take_length] at h2
   exact⟨_,rfl,k D H2 sm2 hD h2⟩
end
end Tw
namespace L2
open PySem PySem.Spec PyProof.Rows
theorem E5:∀ (names:List (Str×NameKind)) (h:Heap) (acc:List (Str×Addr)) (x:Str) (c:Addr),(cellsFrom h.objs.size names acc).lookup x=some c->
  (h.objs.size<=c/\(x,NameKind.cell)∈names/\(pushCells h names).IsCell c none)\/acc.lookup x=some c
 | [],h,acc,x,c,e=>.inr e
 | (name,kind)::r,h,acc,x,c,e=>by
  unfold cellsFrom at e
  unfold pushCells
  cases hk:kind == NameKind.cell with
  | true=>
   rw[hk,if_pos rfl] at e
   rw[if_pos rfl]
   have hk':kind=.cell:=by simpa using hk
   have ih:=E5 r (h.push { cls:=.type "cell",data:=.cell none }) ((name,h.objs.size)::acc) x c (by rw[Heap.size_push];exact e)
   rw[Heap.size_push] at ih
   rcases ih with ⟨a,b,d⟩ | ih
   ·exact .inl ⟨Nat.le_of_succ_le a,List.mem_cons_of_mem _ b,d⟩
   ·cases hx:x == name with
    | true=>
     simp only [List.lookup_cons,hx] at ih
     cases ih
     have e':x=name:=by simpa using hx
     subst e' hk'
     exact .inl ⟨Nat.le_refl _,List.mem_cons_self,_,pushCells_keeps _ _ _ _ (Heap.get?_push_size _ rfl),rfl⟩
    | false=>
     simp only [List.lookup_cons,hx] at ih
     exact .inr ih
  | false=>
   rw[hk,if_neg Bool.false_ne_true] at e
   rw[if_neg Bool.false_ne_true]
   rcases E5 r h acc x c e with ⟨a,b,d⟩ | ih
   ·exact .inl ⟨a,List.mem_cons_of_mem _ b,d⟩
   ·exact .inr ih
theorem uN:∀ (names:List (Str×NameKind)) (n m:Nat) (acc:List (Str×Addr)) (x:Str),m<=n->((x,NameKind.cell)∈names\/∃ c,m<=c/\acc.lookup x=some c)->∃ c,m<=c/\(cellsFrom n names acc).lookup x=some c
 | [],n,m,acc,x,_,h=>by
  rcases h with h | h
  ·simp at h
  ·exact h
 | (name,kind)::r,n,m,acc,x,hm,h=>by
  unfold cellsFrom
  cases hk:kind == NameKind.cell with
  | true=>
   rw[if_pos rfl]
   have hk':kind=.cell:=by simpa using hk
   refine uN r (n+1) m _ x (by omega) ?_
   cases hx:x == name with
   | true=>exact .inr ⟨n,hm,by simp only [List.lookup_cons,hx]⟩
   | false=>
    have ne:x≠name:=λ z=>by rw[z] at hx;simp at hx
    rcases h with h | ⟨c,h1,h2⟩
    ·rcases List.mem_cons.mp h with h | h
     ·exact absurd (by injection h) ne
     ·exact .inl h
    ·exact .inr ⟨c,h1,by simp only [List.lookup_cons,hx];exact h2⟩
  | false=>
   rw[if_neg Bool.false_ne_true]
   refine uN r n m _ x hm ?_
   rcases h with h | h
   ·rcases List.mem_cons.mp h with h | h
    ·injection h with h1 h2
     rw[<- h2] at hk;simp at hk
    ·exact .inl h
   ·exact .inr h
theorem uO:∀ (names:List (Str×NameKind)) (n:Nat) (acc:List (Str×Addr)) (x:Str),(x,NameKind.cell)∉names->(cellsFrom n names acc).lookup x=acc.lookup x
 | [],_,_,_,_=>rfl
 | (name,kind)::r,n,acc,x,h=>by
  unfold cellsFrom
  have hr:(x,NameKind.cell)∉r:=λ z=>h (List.mem_cons_of_mem _ z)
  cases hk:kind == NameKind.cell with
  | true=>
   rw[if_pos rfl,uO r (n+1) _ x hr]
   have hk':kind=.cell:=by simpa using hk
   have hx:(x == name)=false:=by
    cases hx:x == name with
    | false=>rfl
    | true=>
     have e':x=name:=by simpa using hx
     subst e' hk'
     exact absurd List.mem_cons_self h
   simp only [List.lookup_cons,hx]
  | false=>rw[if_neg Bool.false_ne_true,uO r n _ x hr]
theorem y3:∀ (names:List (Str×NameKind)) (n:Nat) (acc:List (Str×Addr)),(∀ x y c,acc.lookup x=some c->acc.lookup y=some c->x=y)->(∀ x c,acc.lookup x=some c->c < n)->
  ∀ x y c,(cellsFrom n names acc).lookup x=some c->(cellsFrom n names acc).lookup y=some c->x=y
 | [],_,_,h,_=>h
 | (name,kind)::r,n,acc,h,hb=>by
  unfold cellsFrom
  split
  ·refine y3 r (n+1) _ (λ x y c e1 e2=>?_) λ x c e=>?_
   ·cases hx:x == name <;> cases hy:y == name <;> simp only [List.lookup_cons,hx,hy] at e1 e2
    ·exact h x y c e1 e2
    ·cases e2;exact absurd (hb x _ e1) (Nat.lt_irrefl _)
    ·cases e1;exact absurd (hb y _ e2) (Nat.lt_irrefl _)
    ·have a:x=name:=by simpa using hx
     have b:y=name:=by simpa using hy
     rw[a,b]
   ·cases hx:x == name <;> simp only [List.lookup_cons,hx] at e
    ·exact Nat.lt_succ_of_lt (hb x c e)
    ·cases e;exact Nat.lt_succ_self _
  ·exact y3 r n acc h hb
section
variable {M:Model}{A:Around}{E:Value->Shared->Prop}{s:Shared}
theorem rE {scope:Scope}{globals:Addr}{cl:List (Str×Addr)}{qual:Str}{func:Option Addr}{code:Value}{env:Env}{builtins:Addr}{Q:Env->Shared->Prop}
  (h:Q { scope,locals:=s.heap.objs.size,globals,cells:=cellsFrom (s.heap.objs.size+1) scope.names cl,qual,func,code:=env.code,frame:=env.frame,builtins:=env.builtins }
   { s with heap:=pushCells (s.heap.push { cls:=.type "dict",data:=.dict #[] }) scope.names }):wpAny M A (newFunctionEnv scope globals cl [] qual func code (some env) builtins) Q E s:=by
 simp only [newFunctionEnv,Option.isSome_some,if_true]
 refine wpAny_bind (wpAny_alloc ?_)
 refine wpAny_bind (wpAny_layCells _ (λ name kind cells=>by cases hkc:kind == NameKind.cell <;> simp [hkc]) _ _ _ _ ?_)
 rw[show ({ s with heap:=s.heap.push { cls:=.type "dict",data:=.dict #[] } }:Shared).heap.objs.size=s.heap.objs.size+1 from Heap.size_push ..]
 rw[List.forIn_nil]
 exact wpAny_bind (wpAny_pure (wpAny_pure h))
end
structure LcOk2 (X:Cx) (scope:Scope) (cl:List (Str×Addr)) (N':List Str) (fr:List (Option Nat)):Prop where
 clos:closureFor scope X.env=pure cl
 cls:BD X.env cl
 kind:scope.kind=.function
 owns:(scope.names.all λ p=>p.2 != NameKind.cell || scope.names.lookup p.1 == some NameKind.cell)=true
 locs:(scope.names.all λ p=>p.2 != NameKind.local || scope.names.lookup p.1 == some NameKind.local)=true
 frees:(scope.names.all λ p=>p.2 != NameKind.free || (cl.lookup p.1).isSome)=true
 len:fr.length=N'.length
 fr:uV X scope N' fr 0
noncomputable def xZ (X:Cx) (N':List Str) (scope:Scope) (cl:List (Str×Addr)) (fp:List Addr) (s:Shared) (H:Hp):Cx:=
 { X with N:=N',s₀:=s,H₀:=H,env:=compEnvC scope (cellsFrom (s.heap.objs.size+1) scope.names cl) s.heap.objs.size X.env,outer:=X.stack,ex:=fp,fn:=λ x=>scope.names.lookup x == some .cell,pn:=[] }
section
variable {X:Cx}
theorem LcOk2.cells {scope:Scope}{cl:List (Str×Addr)}{N':List Str}{fr:List (Option Nat)} (S:LcOk2 X scope cl N' fr) {s:Shared}{o:Obj}{x:Str}{c:Addr} (e:(cellsFrom (s.heap.objs.size+1) scope.names cl).lookup x=some c) :
  (s.heap.objs.size < c/\(x,NameKind.cell)∈scope.names/\(pushCells (s.heap.push o) scope.names).IsCell c none)\/X.env.cells.lookup x=some c:=by
 have:=E5 scope.names (s.heap.push o) cl x c (by rw[Heap.size_push];exact e)
 rw[Heap.size_push] at this
 rcases this with ⟨a,b,d⟩ | h
 ·exact .inl ⟨a,b,d⟩
 ·exact .inr (S.cls.get x c h)
theorem LcOk2.invC {scope:Scope}{cl:List (Str×Addr)}{N':List Str}{fr:List (Option Nat)}{pins:List (Addr×Obj)}{σ:St}{H:Hp}{s:Shared}{o:Obj}{fp:List Addr}{m1:Str->Option Value}{tk:Nat}
  (S:LcOk2 X scope cl N' fr) (I:Inv X pins σ H s) (hf:∀ b∈fp,gN X pins H b) (hfo:∀ b∈fp,b < s.heap.objs.size)
  (hn:(pushCells (s.heap.push o) scope.names).Ns s.heap.objs.size m1):Inv (xZ X N' scope cl fp s H) [] (qT fr σ) H { s with heap:=pushCells (s.heap.push o) scope.names,toks:=tk }:=by
 have hfree:=S.frees
 have hown:=S.owns
 rw[List.all_eq_true] at hfree hown
 have k:∀ b o',s.heap.get? b=some o'->(pushCells (s.heap.push o) scope.names).get? b=some o':=λ b o' e=>pushCells_keeps _ _ b o' (Heap.get?_push_of_some _ e)
 have fresh:H s.heap.objs.size=none:=I.hok.fresh (Nat.le_refl _)
 have clg:=S.cls.get
 have cg:=λ x c e=>S.cells (s:=s) (o:=o) (x:=x) (c:=c) e
 have clt:∀ x c,cl.lookup x=some c->c < s.heap.objs.size:=λ x c e=>by
  obtain⟨v,oc,hoc,hd⟩:=I.cell x c (clg x c e)
  exact Heap.lt_size hoc
 have notown:∀ x,scope.names.lookup x=some .free->(x,NameKind.cell)∉scope.names:=λ x e hm=>by
  have:=hown _ hm
  simp only [bne_self_eq_false,Bool.false_or,beq_iff_eq] at this
  rw[e] at this;cases this
 refine⟨⟨I.ok.mod,S.kind,I.ok.glob,I.ok.blt,Nat.le_refl _,y3 scope.names _ cl (λ x y c e1 e2=>I.ok.inj x y c (clg x c e1) (clg y c e2)) (λ x c e=>Nat.lt_succ_of_lt (clt x c e)),λ x hx=>?_,λ x c e1 e2=>?_,I.ok.hd,I.ok.frames,.inl rfl,λ b hb=>⟨Nat.ne_of_lt (hfo b hb),λ x c e=>?_⟩,
  I.bs,Nat.le_trans I.ok.bsz I.sz,λ b o e hb=>?_,λ b hb hz=>?_,I.stack,I.stkFree⟩,rfl,I.bare,Un.kept k,⟨m1,hn,λ i x v e1 e2 e3=>?_⟩,λ x c e=>?_,fresh,λ x c e=>?_,λ p hp=>absurd (show p∈([]:List (Addr×Obj)) from hp) (by simp),I.hok.kept k,?_⟩
 ·
  have hm:∃ k',(x,k')∈scope.names/\(k'=NameKind.free\/k'=NameKind.cell):=by
   have hx':(relabel scope X.env).names.lookup x=some .cell\/(relabel scope X.env).names.lookup x=some .free:=hx
   obtain⟨k',e,hk'⟩:∃ k',(relabel scope X.env).names.lookup x=some k'/\(k'=.cell\/k'=.free):=by
    rcases hx' with e | e
    ·exact⟨_,e,.inl rfl⟩
    ·exact⟨_,e,.inr rfl⟩
   have hmem:=PySem.mem_of_lookup e
   obtain⟨⟨n,kn⟩,hp,he⟩:=List.mem_map.mp hmem
   dsimp only at he
   split at he
   ·rename_i hc
    cases he
    have:kn=.free:=by
     simp only [Bool.and_eq_true,beq_iff_eq] at hc
     exact hc.1.1
    exact⟨kn,hp,.inl this⟩
   ·cases he
    rcases hk' with e' | e'
    ·exact⟨_,hp,.inr e'⟩
    ·exact⟨_,hp,.inl e'⟩
  obtain⟨k',hp,hk'⟩:=hm
  by_cases hc:(x,NameKind.cell)∈scope.names
  ·obtain⟨c,_,e⟩:=uN scope.names (s.heap.objs.size+1) 0 cl x (Nat.zero_le _) (.inl hc)
   exact⟨c,e⟩
  ·rcases hk' with rfl | rfl
   ·have:=hfree _ hp
    simp only [bne_self_eq_false,Bool.false_or] at this
    obtain⟨c,e⟩:=Option.isSome_iff_exists.mp this
    exact⟨c,by show (cellsFrom _ _ _).lookup x=_;rw[uO _ _ _ _ hc];exact e⟩
   ·exact absurd hp hc
 ·have e1':scope.names.lookup x=some .cell:=by simpa using (show (scope.names.lookup x == some NameKind.cell)=true from e1)
  obtain⟨c',hc',e'⟩:=uN scope.names (s.heap.objs.size+1) (s.heap.objs.size+1) cl x (Nat.le_refl _) (.inl (PySem.mem_of_lookup e1'))
  have e2':(cellsFrom (s.heap.objs.size+1) scope.names cl).lookup x=some c:=e2
  rw[e'] at e2'
  cases e2'
  exact Nat.le_of_succ_le hc'
 ·rcases cg x c e with ⟨a,_⟩ | e'
  ·exact Ne.symm (Nat.ne_of_lt (Nat.lt_trans (hfo b hb) a))
  ·exact (hf b hb).2.2.2.2.1 x c e'
 ·rcases (hf b hb).2.2.2.1 with z | z
  ·exact I.ok.noex b o e z
  ·have:=Heap.lt_size e
   exact absurd (Nat.lt_of_lt_of_le this (Nat.le_trans I.ok.bsz z)) (Nat.lt_irrefl _)
 ·obtain⟨_,f1,f2,_⟩:=hf b hb
  rcases List.mem_cons.mp (I.stkSub b hz) with e | e
  ·exact f1 e
  ·exact f2 e
 ·
  unfold qT at e2
  rw[List.getElem?_map] at e2
  cases ef:fr[i]? with
  | none=>rw[ef] at e2;cases e2
  | some o=>
   rw[ef] at e2
   cases o with
   | none=>simp at e2
   | some j=>
    have e2':(σ[j]?).join=some v:=by simpa using e2
    obtain⟨x',h1',h2',h3',h4'⟩:=S.fr.get i j ef
    rw[Nat.zero_add] at h1'
    have ex:x'=x:=by
     have:N'[i]? = some x:=e1
     rw[h1'] at this
     exact Option.some.inj this
    subst ex
    have e2'':σ[j]? = some (some v):=by
     cases q:σ[j]? with
     | none=>rw[q] at e2';cases e2'
     | some z=>rw[q] at e2';simp at e2';rw[e2']
    obtain⟨m,hm,hl⟩:=I.loc
    obtain⟨u,r,lk⟩:=hl j x' v h2' e2'' (.inr (.inl h4'))
    refine⟨u,r,?_⟩
    rcases lk with ⟨q,_⟩ | ⟨_,c,hc,z⟩
    ·rw[h4'] at q;cases q
    ·have hcl:∃ c',cl.lookup x'=some c':=by
      have:=hfree _ (PySem.mem_of_lookup h3')
      simp only [bne_self_eq_false,Bool.false_or] at this
      exact Option.isSome_iff_exists.mp this
     obtain⟨c',hc'⟩:=hcl
     have e':=clg x' c' hc'
     rw[hc] at e'
     cases e'
     obtain⟨oc,hoc,hd⟩:=z
     refine .inr ⟨.inl ?_,c,?_,oc,k c oc hoc,hd⟩
     ·exact eW I.ok.kind h3' h4'
     ·show (cellsFrom _ _ _).lookup x'=_
      rw[uO _ _ _ _ (notown x' h3')];exact hc'
 ·rcases cg x c e with ⟨_,_,z⟩ | e'
  ·exact⟨_,z⟩
  ·obtain⟨v,oc,hoc,hd⟩:=I.cell x c e'
   exact⟨v,oc,k c oc hoc,hd⟩
 ·rcases cg x c e with ⟨a,_⟩ | e'
  ·exact I.hok.fresh (Nat.le_of_lt a)
  ·exact I.freeC x c e'
 ·show (qT fr σ).length=N'.length
  unfold qT
  rw[List.length_map,S.len]
theorem Inv.outD {scope:Scope}{cl:List (Str×Addr)}{N':List Str}{pins pins':List (Addr×Obj)}{σ Z:St}{H H':Hp}{s s':Shared}{fp:List Addr} (I:Inv X pins σ H s) (J:Inv (xZ X N' scope cl fp s H) pins' Z H' s')
  (hf:∀ b∈fp,gN X pins H b):Inv X pins σ H' s':=
 I.call' (ch:=fp) J.os J.base J.hok J.bare λ b hb=>by
  obtain⟨_,f1,_,f3,f4,f5⟩:=hf b hb
  exact⟨f3,f1,f4,f5⟩
theorem AM {elt tg iter:Expr}{ifs:List Expr}{scope:Scope}{pos:Pos}{N':List Str}{fr:List (Option Nat)}{cl:List (Str×Addr)}{g:TG}{tc:TT}{te:TE}
  {pins:List (Addr×Obj)}{σ:St}{H:Hp}{s:Shared}{J:It}{fp:List Addr}{it:Addr}{tn:Nat->Heap->Prop}{Q:Addr->Hp->Prop}{RR:Value->Addr->Result->Shared->Prop}{E:Value->Shared->Prop}
  (hx:∀ e s,¬ X.xe e s) (hc:X.calm=true) (S:LcOk2 X scope cl N' fr)
  (hg:∀ fp s H,PG (xZ X N' scope cl fp s H) tg g) (ht:∀ fp s H,G5 (xZ X N' scope cl fp s H) ifs tc) (he:∀ fp s H,PE (xZ X N' scope cl fp s H) elt te)
  (I:Inv X pins σ H s) (T:Turn X.prog X.w X.K tg J fp it tn) (st:tn 0 s.heap) (hf:∀ b∈fp,gN X pins H b) (h:hW J g tc te fr σ H Q)
  (hRR:∀ D C H' s' m',Inv X pins σ H' s'->Q D H'->s'.heap.Ns C m'->gN X pins H' C->RR (.ref D) C (.ok .next) s') :
  wpAny (model X.prog X.w) X.A (newList []) (λ acc bg=>wpAny (model X.prog X.w) X.A (newFunctionEnv scope X.env.globals cl [] X.env.qual none .none (some X.env)) (λ cenv bx=>
   codeAny (model X.prog X.w) X.A (.compStart (.ListComp elt [⟨tg,iter,ifs,0⟩] scope pos) 0 (.ref it) acc { cenv with scope:=relabel scope X.env }) (RR acc cenv.locals) bx) E bg) E s:=by
 refine wpAny_newObj_type (rE ?_)
 dsimp only
 have fresh:H s.heap.objs.size=none:=I.hok.fresh (Nat.le_refl _)
 have I3:Inv X pins σ (upd H s.heap.objs.size (.lst [])) { s with heap:=s.heap.push { cls:=.type "list",data:=.seq ([]:List Value).toArray },toks:=s.toks }:=I.lnew (ys:=[]) (its:=[]) .nil (Nat.zero_le _)
 have hf3:∀ b∈fp,gN X pins (upd H s.heap.objs.size (.lst [])) b:=λ b hb=>by
  obtain⟨o,ho,_⟩:=T.obj _ _ st b hb
  exact⟨by rw[aO (Nat.ne_of_lt (Heap.lt_size ho))];exact (hf b hb).1,(hf b hb).2⟩
 generalize hs3:({ s with heap:=s.heap.push { cls:=.type "list",data:=.seq ([]:List Value).toArray },toks:=s.toks }:Shared)=s3 at I3
 have e3:s3.heap=s.heap.push { cls:=.type "list",dict:=none,data:=.seq ([]:List Value).toArray }:=by rw[<- hs3]
 have e3s:({ s with heap:=s.heap.push { cls:=.type "list",dict:=none,data:=.seq ([]:List Value).toArray } }:Shared)=s3:=hs3
 have hsz3:s3.heap.objs.size=s.heap.objs.size+1:=by rw[e3,Heap.size_push]
 have hfo:∀ b∈fp,b < s3.heap.objs.size:=λ b hb=>by
  obtain⟨o,ho,_⟩:=T.obj _ _ st b hb
  rw[hsz3]
  exact Nat.lt_succ_of_lt (Heap.lt_size ho)
 rw[<- e3]
 generalize hh1:pushCells (s3.heap.push { cls:=.type "dict",data:=.dict #[] }) scope.names=ak
 have bo:(pushCells (s3.heap.push { cls:=.type "dict",data:=.dict #[] }) scope.names).Ns s3.heap.objs.size (λ _=>none):=(Heap.Ns.new s3.heap (.type "dict")).keeps (pushCells_keeps _ _)
 have old3:∀ b o,s3.heap.get? b=some o->ak.get? b=some o:=λ b o e=>by rw[<- hh1];exact pushCells_keeps _ _ b o (Heap.get?_push_of_some _ e)
 have old:∀ b o,s.heap.get? b=some o->s3.heap.get? b=some o:=λ b o e=>by rw[e3];exact Heap.get?_push_of_some _ e
 have I4:=S.invC (tk:=s3.toks) I3 hf3 hfo bo
 rw[hh1] at I4
 obtain⟨W,⟨m0,w0⟩,turn⟩:=h s.heap.objs.size fresh
 have stat:∀ {H':Hp},(∀ b∈fp,H' b=none)->∀ b∈fp,gN (xZ X N' scope cl fp s3 (upd H s.heap.objs.size (.lst []))) [] H' b:=λ hn b hb=>by
  refine⟨hn b hb,Nat.ne_of_lt (hfo b hb),?_,.inl hb,λ x c e=>?_,λ p hp=>absurd (show p∈([]:List (Addr×Obj)) from hp) (by simp)⟩
  ·intro hz
   obtain⟨_,f1,f2,_⟩:=hf b hb
   rcases List.mem_cons.mp (I.stkSub b hz) with e | e
   ·exact f1 e
   ·exact f2 e
  ·rcases S.cells (s:=s3) (o:={ cls:=.type "dict",data:=.dict #[] }) e with ⟨a,_⟩ | e'
   ·exact Ne.symm (Nat.ne_of_lt (Nat.lt_trans (hfo b hb) a))
   ·exact (hf b hb).2.2.2.2.1 x c e'
 have loop:∀ s4:Shared,s4={ s3 with heap:=ak,toks:=s3.toks }->
   codeAny (model X.prog X.w) X.A (.compLoop (.ListComp elt [⟨tg,iter,ifs,0⟩] scope pos) 0 (.ref it) (.ref s.heap.objs.size) (compEnvC scope (cellsFrom (s3.heap.objs.size+1) scope.names cl) s3.heap.objs.size X.env)) (RR (.ref s.heap.objs.size) s3.heap.objs.size) s4:=by
  intro s4 hs4
  refine n9 (λ n s'=>∃ i ys Z H',Inv (xZ X N' scope cl fp s3 (upd H s.heap.objs.size (.lst []))) [] Z H' s'/\tn i s'.heap/\(∀ b∈fp,H' b=none)/\W i n ys Z H') ?_ m0
   ⟨0,[],qT fr σ,_,by rw[hs4];exact I4,by rw[hs4];exact T.keep _ _ _ st λ b _ o e=>old3 b o (old b o e),λ b hb=>(hf3 b hb).1,w0⟩
  rintro n s5 ⟨i,ys,ce,H5,I5,st5,fr5,w5⟩
  rcases turn i n ys ce H5 w5 with ⟨stop,qn⟩ | ⟨go,N,hN,step⟩
  ·refine cX (T.done (xZ X N' scope cl fp s3 (upd H s.heap.objs.size (.lst []))) rfl rfl rfl hc i [] s5 ce H5 _ I5 (stat fr5) st5 stop) λ r s6 ⟨hr,I6⟩=>?_
   subst hr
   obtain⟨m',hm',_⟩:=I6.loc
   exact hRR _ _ H5 s6 m' (I3.outD I6 hf3) qn hm' (I3.fpOk (Nat.le_refl _) I6.free)
  ·refine cX (T.item (xZ X N' scope cl fp s3 (upd H s.heap.objs.size (.lst []))) rfl rfl rfl hc i [] s5 ce H5 _ I5 (stat fr5) st5 go) λ r s6 ⟨u,hr,h6⟩=>?_
   subst hr
   refine cX h6 λ _ s7 ⟨x,H7,I7,r7,y7,st7,fr7⟩=>?_
   have I7':=I7.pinned (stat fr7) (T.obj _ _ st7)
   refine wpAny_mono (hg fp s3 _ _ s7 ce H7 x u _ I7' r7 (step x H7 y7)) (λ _ s8 ⟨be,H8,I8,q8⟩=>?_) λ e s' z=>(hx e s' z).elim
   refine wpAny_mono (ht fp s3 _ _ s8 be H8 _ I8 q8) (λ ok s9 ⟨H9,I9,q9⟩=>?_) λ e s' z=>(hx e s' z).elim
   have again:∀ {s10:Shared}{H10:Hp}{ys':List V},Inv (xZ X N' scope cl fp s3 (upd H s.heap.objs.size (.lst []))) ([]++lO fp s7.heap) be H10 s10->N ys' be H10->
     ∃ m,m < n/\∃ i ys Z H',Inv (xZ X N' scope cl fp s3 (upd H s.heap.objs.size (.lst []))) [] Z H' s10/\tn i s10.heap/\(∀ b∈fp,H' b=none)/\W i m ys Z H':=λ {s10 H10 ys'} I10 n10=>by
    obtain⟨m',hm,w10⟩:=hN ys' be H10 n10
    refine⟨m',hm,i+1,ys',be,H10,I10.unpinned,T.keep _ _ _ st7 λ b hb o e=>(I10.pin (b,o) (List.mem_append_right _ (List.mem_append_right _ (eN hb e)))).1,λ b hb=>?_,w10⟩
    obtain⟨o,e,d⟩:=T.obj _ _ st7 b hb
    exact (I10.pin (b,o) (List.mem_append_right _ (List.mem_append_right _ (eN hb e)))).2.1
   cases ok with
   | false=>
    rw[if_neg Bool.false_ne_true] at q9 ⊢
    exact again I9 q9
   | true=>
    rw[if_pos rfl] at q9 ⊢
    refine wpAny_mono (he fp s3 _ _ s9 be H9 _ I9 q9) (λ y s10 ⟨yv,H10,I10,r10,hD,hlen,q10⟩=>?_) λ e s' z=>(hx e s' z).elim
    refine wpAny_mono (cY (X:=xZ X N' scope cl fp s3 (upd H s.heap.objs.size (.lst []))) _ s10 be H10 (.ref s.heap.objs.size) [yv] (.ref s.heap.objs.size) [y] (λ _ H11=>H11=upd H10 s.heap.objs.size (.lst (ys++[yv]))) I10 rfl (.cons r10 .nil)
     ⟨_,ys,yv,rfl,rfl,hD,hlen,rfl⟩) (λ _ s11 ⟨_,H11,I11,_,e11⟩=>?_) λ e s' z=>(hx e s' z).elim
    subst e11
    exact again I11 q10
 exact codeAny_compStart_list (loop _ (by rw[<- e3s])) (T.self X.A 0 _ _ _ (T.keep _ _ _ st λ b _ o e=>old3 b o (old b o e)) (loop _ (by rw[<- e3s])))
theorem pY {i:Nat}{y:Str}{py:Pos}{spos:Pos}{elt tg iter:Expr}{ifs:List Expr}{scope:Scope}{pos:Pos}{N':List Str}{fr:List (Option Nat)}{cl:List (Str×Addr)}{wi:TI}{g:TG}{tc:TT}{te:TE}
  (hN:X.N.Nodup) (hy:X.N[i]? = some y) (hk:X.env.scope.names.lookup y=some .local)
  (hx:∀ e s,¬ X.xe e s) (hc:X.calm=true) (S:LcOk2 X scope cl N' fr) (hi:PI X tg iter wi)
  (hg:∀ fp s H,PG (xZ X N' scope cl fp s H) tg g) (ht:∀ fp s H,G5 (xZ X N' scope cl fp s H) ifs tc) (he:∀ fp s H,PE (xZ X N' scope cl fp s H) elt te)
  (hsw:swapsWith (.ListComp elt [⟨tg,iter,ifs,0⟩] scope pos) (some (.Name y py)) spos.line X.env=pure true:=by rfl)
  (hs:∀ x,foldedSetIterable iter X.env x=pure x:=by intro _;rfl):PS X (.Assign [.Name y py] (.ListComp elt [⟨tg,iter,ifs,0⟩] scope pos) spos) (iJ (tLC wi fr g tc te) (fX i)):=by
 intro pins s σ H D I h
 have hloc:=S.locs
 rw[List.all_eq_true] at hloc
 rw[exec_Assign_Name_used _ _ _ _ hsw]
 refine wpAny_bind (wpAny_standAt (wpAny_bind ?_))
 show wpAny _ X.A (do let _ <- comprehension (.ListComp elt [⟨tg,iter,ifs,0⟩] scope pos) scope X.env _ (newList []) false (eval iter X.env) (some (assign (.Name y py) X.env))) _ _ s
 refine wpAny_bind (wpAny_mono (wpAny_comprehension_free (use:=some (assign (.Name y py) X.env)) (Q:=λ _ s'=>SP X pins D .next s') rfl hs S.clos S.kind (λ x hx' hl=>by have:=hloc x hx';rw[hl] at this;simpa using this)
  (cX (hi pins s σ H _ I h) λ v s1 h1=>cX h1 λ itv s2 h2=>?_)) (λ _ s' hq=>wpAny_pure (wpAny_pure hq)) λ _ _ e=>e)
 obtain⟨it,fp,tn,J,H2,e,I2,T,st2,f2,rest⟩:=h2
 subst e
 refine AM (RR:=λ acc C=>compPost (model X.prog X.w) X.A X.xe (some (assign (.Name y py) X.env)) (λ _ s'=>SP X pins D .next s') acc C) hx hc S hg ht he I2 T st2 f2 rest ?_
 intro Da C H' s' m' I' q hn f
 show wpAny _ X.A (assign (.Name y py) X.env (.ref Da)) _ _ _
 refine wpAny_assign_Name (nC I' hN hy (.inl hk) (v:=.ref Da) rfl (λ s'' I'' hch=>?_) (.inr hk))
 obtain⟨a,hsb,ha⟩:=hch
 have haC:a≠C:=by
  rcases ha with e | e
  ·rw[e];exact Ne.symm f.2.1
  ·exact f.2.2.2.2.1 _ _ e
 exact⟨m',hn.sameBut hsb (Ne.symm haC),λ h' hs'=>⟨_,H',I''.letgo f hs',q⟩⟩
end
end L2
namespace Tw
open PySem L2
noncomputable def r8 (k:Option Int) (gs:List (Option Int×Int)):List Int:=(gs.filter λ g=>decide (g.1=k)).map (·.2)
theorem r6 (k:Option Int):∀ gs:List (Option Int×Int),(r8 k gs).sum=bQ k gs
 | []=>rfl
 | g::r=>by
  have ih:=r6 k r
  unfold r8 at ih ⊢
  unfold bQ
  by_cases h:g.1=k
  ·simp [h,<- ih]
  ·simp [h,<- ih]
theorem kO (k:Option Int) (gs:List (Option Int×Int)) (g:Option Int×Int):r8 k (gs++[g])=r8 k gs++(if g.1=k then [g.2] else []):=by
 unfold r8
 rw[List.filter_append,List.map_append]
 by_cases h:g.1=k <;> simp [h]
theorem wF (k:Option Int) (gs:List (Option Int×Int)):(r8 k gs).length<=gs.length:=by
 unfold r8;rw[List.length_map];exact List.length_filter_le _ _
section
variable {P:Program}{w:World}{K:PySem.W.Frag}{mg:Str->Option Value}{base:Heap}
theorem EH {wd:Str} (h:wd = "open" \/ wd = "shut" \/ wd = "turn"):∃ j:Nat,j < 3/\(∀ z,[V.str "turn",V.str "open",V.str "shut"][j]? = some z->w4 z (.str wd)=true)/\(∀ i z,i < j->[V.str "turn",V.str "open",V.str "shut"][i]? = some z->w4 z (.str wd)=false)/\
  ∀ old:Bool,[V.bl (!old),V.bl true,V.bl false][j]? = some (.bl (if wd = "open" then true else if wd = "turn" then !old else false)):=by
 rcases h with rfl | rfl | rfl
 ·refine⟨1,by decide,λ z hz=>by cases hz;rfl,λ i z hi hz=>?_,λ old=>rfl⟩
  have:i=0:=by omega
  subst this;cases hz;rfl
 ·refine⟨2,by decide,λ z hz=>by cases hz;rfl,λ i z hi hz=>?_,λ old=>rfl⟩
  rcases (show i=0\/i=1 by omega) with rfl | rfl <;> cases hz <;> rfl
 ·exact⟨0,by decide,λ z hz=>by cases hz;rfl,λ i z hi hz=>absurd hi (Nat.not_lt_zero _),λ old=>rfl⟩
theorem IsL.append {H:Hp}:∀ {ds es:List L2.D}{xs ys:List V},L2.IsL K H ds xs->L2.IsL K H es ys->L2.IsL K H (ds++es) (xs++ys)
 | [],es,xs,ys,h1,h2=>by rw[h1.un0];exact h2
 | d::ds,es,xs,ys,h1,h2=>by
  obtain⟨x,r,rfl,hx,hr⟩:=h1.un
  exact .cons hx (IsL.append hr h2)
theorem vU {H1 H2:Hp}{gl gq:Addr}{gs:List (Option Int×Int)}{gxs:List V} (sm:aH H1 H2) (fg:H1 gl=none) (hg:H2 gl=some (.lst gxs)) (ig:L2.IsL K H2 (gs.map outD) gxs) (hq:H2 gq=none) (t:Option Int) (n:Int) :
  aH H1 (upd (upd H2 gq (.tup [iI t,.int n])) gl (.lst (gxs++[.ref gq])))/\upd (upd H2 gq (.tup [iI t,.int n])) gl (.lst (gxs++[.ref gq])) gl=some (.lst (gxs++[.ref gq]))/\
  L2.IsL K (upd (upd H2 gq (.tup [iI t,.int n])) gl (.lst (gxs++[.ref gq]))) ((gs++[(t,n)]).map outD) (gxs++[.ref gq])/\∀ p o,p≠gl->H2 p=some o->upd (upd H2 gq (.tup [iI t,.int n])) gl (.lst (gxs++[.ref gq])) p=some o:=by
 have nq:gl≠gq:=aN hg hq
 have mt:iY (upd H2 gq (.tup [iI t,.int n]) gl):=by rw[aO nq,hg];exact trivial
 refine⟨λ b o e=>by rw[aO (aN e fg)];exact aH.new hq b o (sm b o e),aB,?_,λ p o hp e=>by rw[aO hp];exact aH.new hq p o e⟩
 rw[List.map_append]
 exact L2.IsL.snoc (Is.tupOf (ds:=[BF t,.int n]) (bM.put (bM.refl _) (.inr mt) _ _ (bO.of aB)) (.cons (Is.tgOf _) (.cons (Is.i _) .nil))) (L2.IsL.mono (bM.put (aH.new hq).ts (.inr mt)) _ _ ig)
noncomputable def oN (K:PySem.W.Frag):Sp:=λ args H Q _=>∃ (x y:V) (z:Addr) (net:Net) (held coming poured:List Int) (doors:List Bool),args=[x,y,.ref z,.non]/\Is K H (eF net) x/\Is K H (A9 held coming doors) y/\IX K H z (poured.map V.int)/\
 NetOk net/\StOk net held coming doors/\poured.length=net.vs.length/\∀ (l:Addr) (p1 p2:V) H',aH H H'->H' l=some (.lst [p1,p2,.int (bV net held coming poured doors).ground])->
  Is K H' (A9 (bV net held coming poured doors).held (bV net held coming poured doors).coming (bV net held coming poured doors).doors) p1->
  Is K H' (.tup ((bV net held coming poured doors).tip.map λ (i:Nat)=>D.int (i:Int))) p2->Q (.ref l) H'
theorem mJ:FnScope ["net","state","poured","fast","has","goes","tipped","stays","number","size","brim","outs","holds","spill","acts","here","whole","doors","word","spout","later","ground"] ["net","state","poured","fast"] (aK (bH 42)):=⟨rfl,rfl,rfl,by decide +kernel,rfl,by decide +kernel,by decide +kernel⟩
end
end Tw
namespace L2
open PySem PySem.Spec PyProof.Rows TwZ
section
variable {X:Cx}{pins:List (Addr×Obj)}{σ:St}{H:Hp}{s:Shared}
end
section
variable {K:PySem.W.Frag}{H:Hp}
end
end L2
namespace L2
open PySem PySem.Spec PyProof.Rows TwZ
theorem d4.some {P:Program}{w:World}{H:Hp}{h:Heap}{a:Addr}{o:HO} (x:d4 P w H h a o):∃ ob,h.get? a=some ob:=by
 cases o with
 | lst xs=>obtain⟨_,_,_,_,e⟩:=x;exact⟨_,e⟩
 | tup xs=>obtain⟨_,_,_,ob,e,_⟩:=x;exact⟨_,e⟩
 | dK kvs=>obtain⟨_,_,_,_,o,_,_,e,_⟩:=x;exact⟨_,e⟩
 | dT kvs=>obtain⟨_,_,_,_,o,_,_,e,_⟩:=x;exact⟨_,e⟩
 | set S n=>obtain⟨o,_,_,_,e,_⟩:=x;exact⟨_,e⟩
 | ins C dx fs=>obtain⟨_,_,_,e,_⟩:=x;exact⟨_,e⟩
 | own y=>obtain⟨_,e⟩:=x;exact⟨_,e⟩
 | xd fs=>obtain⟨_,⟨_,_,_,e,_⟩,_⟩:=x;exact⟨_,e⟩
 | rng lo hi=>obtain⟨_,_,_,e⟩:=x;exact⟨_,e⟩
 | frz ob u=>obtain⟨e,_⟩:=x;exact⟨_,e⟩
 | tbl ps=>exact⟨_,(show h.get? a=Option.some _ from x)⟩
 | met f y=>exact⟨_,(show h.get? a=Option.some _ from x)⟩
 | ext dz=>obtain⟨_,⟨_,e⟩,_⟩:=x;exact⟨_,e⟩
structure Fly (P:Program) (w:World) (stack:List Env) (H:Hp) (h:Heap) (ea:Addr) (cls a0:Value) (H':Hp) (h' B:Heap):Prop where
 fl:Heap.FlyingW B stack ea cls a0 h'
 keep:∀ b o,h.get? b=some o->H b=none->b∉mB stack->B.get? b=some o
 slot:∀ b o,h.get? b=some o->H b=none->b∈mB stack->∃ sl,h'.get? b=some { o with slots:=sl }
 free:∀ b o,h.get? b=some o->H b=none->H' b=none
 there:∀ b o,h.get? b=some o->b∉mB stack->∃ o',B.get? b=some o'
 tups:∀ b xs,H b=some (.tup xs)->H' b=some (.tup xs)
 frzs:∀ b o u,H b=some (.frz o u)->H' b=some (.frz o u)
 tbls:∀ b ps,H b=some (.tbl ps)->∃ more,H' b=some (.tbl (ps++more))
 hok:lK P w H' B
noncomputable def wM (P:Program) (w:World):BE:=λ outer H s E e s'=>∃ (ea:Addr) (cls a0:Value) (H':Hp) (B:Heap),e=.ref ea/\s'.os=s.os/\AllBare s'.gens/\Fly P w outer H s.heap ea cls a0 H' s'.heap B/\E cls none H'
structure Leaves (X:Cx) (E:XK):Prop where
 stk:X.stack=X.env::X.outer
 fr:X.env.frame=some X.env.locals
 ex:X.ex=[]
 xe:∀ e s',wpAny (model X.prog X.w) X.A (leaving X.env e) (λ _ s''=>wM X.prog X.w X.outer X.H₀ X.s₀ E e s'') (λ e' s''=>wM X.prog X.w X.outer X.H₀ X.s₀ E e' s'') s'->X.xe e s'
section
variable {X:Cx}{pins:List (Addr×Obj)}{σ:St}{H H':Hp}{s s':Shared}{E:XK}
theorem FO {l:List Env}{b:Addr}{env:Env} (he:env∈l) (hf:env.frame=some b):b∈mB l:=List.mem_filterMap.mpr ⟨env,he,hf⟩
theorem mW {l:List Env}{b L:Addr}{env:Env} (hf:env.frame=some L) (h:b∈mB (env::l)):b=L\/b∈mB l:=by
 unfold mB at h ⊢
 rw[List.filterMap_cons,hf] at h
 exact List.mem_cons.1 h
theorem CG {h':Heap}{ea:Addr}{cls:Value}{vs:List Value} (L:Leaves X E) (I:Inv X pins σ H s) (hx:Heap.MadeExcOf s.heap h' ea cls vs) (hE:E cls none H):X.xe (.ref ea) { s with heap:=h' }:=by
 refine L.xe _ _ ?_
 have fr:X.A.frames=some (X.env::X.outer):=by rw[<- L.stk];exact I.ok.frames
 have hs:s.heap.FunFrames X.base (X.env::X.outer):=by rw[<- L.stk];exact I.stack
 have hfree:∀ b∈mB (X.env::X.outer),H b=none:=by rw[<- L.stk];exact I.stkFree
 have nex:∀ b:Addr,b∉X.ex:=λ b z=>by rw[L.ex] at z;cases z
 have out:∀ b o,X.s₀.heap.get? b=some o->b∉mB X.outer->b∉mB (X.env::X.outer):=λ b o e hb z=>by
  rcases mW L.fr z with z | z
  ·exact absurd (Nat.lt_of_lt_of_le (Heap.lt_size e) I.ok.above) (by rw[z];exact Nat.lt_irrefl _)
  ·exact hb z
 refine wpAny_leaves_madeW (base:=PySem.W.hideAll s.heap (mB (X.env::X.outer))) fr L.fr (λ b o q=>PySem.W.of_hideAll _ q) (PySem.W.funFrames_hide hs λ env he a hf=>FO he hf) hx λ h2 t x1 x2 x3 x4=>?_
 refine⟨ea,cls,.ref t,H,_,rfl,I.os,I.bare,⟨x1,λ b o e n hb=>?_,λ b o e n hb=>?_,λ b o e n=>I.base.free b o e n (nex b),λ b o e hb=>?_,I.base.tups,I.base.frzs,I.base.tbls,λ a o e=>?_⟩,hE⟩
 ·exact PySem.W.hideAll_get _ (I.base.keep b o e n hb (nex b)) (out b o e hb)
 ·obtain⟨sl,e1⟩:=I.base.slot b o e n hb (nex b)
  obtain⟨_,o',ho',hd⟩:=I.ok.funs.mem hb
  rw[e] at ho'
  cases ho'
  obtain⟨sl',e2⟩:=x4 b _ (hx.keeps _ _ e1) hd
  exact⟨sl',e2⟩
 ·obtain⟨o',e1⟩:=I.base.there b o e (nex b)
  exact⟨o',PySem.W.hideAll_get _ e1 (out b o e hb)⟩
 ·refine (I.hok a o e).stay (λ b u hb q=>PySem.W.hideAll_get _ q λ z=>?_) (λ _ q=>q) λ _ _ q=>q
  have:=hfree b z
  rcases hb with rfl | hb
  ·rw[e] at this;cases this
  ·rw[hb] at this;cases this
theorem oO (L:Leaves X E):lY (wM X.prog X.w) X E:=by
 intro pins σ H s e s' I h
 obtain⟨ea,cls,a0,H',B,rfl,os,bare,F,hE⟩:=h
 refine L.xe _ _ ?_
 have fr:X.A.frames=some (X.env::X.outer):=by rw[<- L.stk];exact I.ok.frames
 have nex:∀ b:Addr,b∉X.ex:=λ b z=>by rw[L.ex] at z;cases z
 have out:∀ b o,X.s₀.heap.get? b=some o->b∉mB X.outer->b∉mB X.stack:=λ b o e hb z=>by
  rw[L.stk] at z
  rcases mW L.fr z with z | z
  ·exact absurd (Nat.lt_of_lt_of_le (Heap.lt_size e) I.ok.above) (by rw[z];exact Nat.lt_irrefl _)
  ·exact hb z
 have inn:∀ b,b∈mB X.outer->b∈mB X.stack:=λ b hb=>by
  rw[L.stk];unfold mB at hb ⊢;rw[List.filterMap_cons,L.fr];exact List.mem_cons_of_mem _ hb
 refine wpAny_leaves_onW fr L.fr (by rw[<- L.stk];exact F.fl) λ h2 x1 x2=>?_
 refine⟨ea,cls,a0,H',B,rfl,os.trans I.os,bare,⟨x1,λ b o e n hb=>?_,λ b o e n hb=>?_,λ b o e n=>?_,λ b o e hb=>?_,λ b xs e=>F.tups b xs (I.base.tups b xs e),λ b o u e=>F.frzs b o u (I.base.frzs b o u e),λ b ps e=>?_,F.hok⟩,hE⟩
 ·exact F.keep b o (I.base.keep b o e n hb (nex b)) (I.base.free b o e n (nex b)) (out b o e hb)
 ·obtain⟨sl,e1⟩:=I.base.slot b o e n hb (nex b)
  obtain⟨sl',e2⟩:=F.slot b _ e1 (I.base.free b o e n (nex b)) (inn b hb)
  obtain⟨_,o',ho',hd⟩:=I.ok.funs.mem hb
  rw[e] at ho'
  cases ho'
  obtain⟨sl'',e3⟩:=x2 b _ e2 hd
  exact⟨sl'',e3⟩
 ·obtain⟨o',e1⟩:=I.base.there b o e (nex b)
  exact F.free b o' e1 (I.base.free b o e n (nex b))
 ·obtain⟨o',e1⟩:=I.base.there b o e (nex b)
  exact F.there b o' e1 (out b o e hb)
 ·obtain⟨m1,e1⟩:=I.base.tbls b ps e
  obtain⟨m2,e2⟩:=F.tbls b _ e1
  exact⟨m1++m2,by rw[e2,Array.append_assoc]⟩
theorem qE {P:Program}{w:World}:lY (wM P w) X E0:=λ _ _ _ _ _ _ _ h=>by
 obtain⟨_,_,_,_,_,_,_,_,_,h⟩:=h
 exact h.elim
noncomputable def IN (ea:Addr) (cls:Value):HO:=.ext λ h=>∃ o,h.get? ea=some o/\o.cls=cls
theorem Inv.caught {ea:Addr}{cls a0:Value}{B:Heap} (I:Inv X pins σ H s) (os:s'.os=s.os) (bare:AllBare s'.gens) (F:Fly X.prog X.w X.stack H s.heap ea cls a0 H' s'.heap B):H' ea=none/\Inv X pins σ (upd H' ea (IN ea cls)) s':=by
 obtain⟨ob,hob,hcls⟩:=F.fl.there
 obtain⟨oe,vs,hoe,_,hfd,_⟩:=F.fl.first
 have hea:H' ea=none:=by
  cases q:H' ea with
  | none=>rfl
  | some o=>
   obtain⟨o',e⟩:=(F.hok ea o q).some
   rw[F.fl.2.1] at e;cases e
 have frne:∀ b∈mB X.stack,b≠ea:=λ b hb z=>by
  obtain⟨_,o',ho',hd⟩:=F.fl.2.2.1.mem hb
  rw[z,hoe] at ho'
  cases ho'
  exact hd _ hfd
 have ne:∀ b o,s.heap.get? b=some o->b≠ea:=λ b o e z=>by
  by_cases hb:b∈mB X.stack
  ·exact frne b hb z
  ·obtain⟨o',e'⟩:=F.there b o e hb
   rw[z,F.fl.2.1] at e';cases e'
 have kb:∀ b u,B.get? b=some u->s'.heap.get? b=some u:=F.fl.1
 refine⟨hea,I.call' (ch:=[]) os ⟨λ b o e n hb _=>kb _ _ (F.keep b o e n hb),λ b o e n hb _=>F.slot b o e n hb,λ b o e n _=>?_,λ b o e _=>?_,λ b xs e=>?_,λ b o u e=>?_,λ b ps e=>?_⟩ (λ b u e=>?_) bare (λ b z=>absurd z (by simp))⟩
 ·rw[aO (ne b o e)];exact F.free b o e n
 ·by_cases hb:b∈mB X.stack
  ·obtain⟨_,o',ho',_⟩:=F.fl.2.2.1.mem hb
   exact⟨o',ho'⟩
  ·obtain⟨o',e'⟩:=F.there b o e hb
   exact⟨o',kb _ _ e'⟩
 ·have:=F.tups b xs e
  rw[aO (aN this hea)];exact this
 ·have:=F.frzs b o u e
  rw[aO (aN this hea)];exact this
 ·obtain⟨m,e1⟩:=F.tbls b ps e
  exact⟨m,by rw[aO (aN e1 hea)];exact e1⟩
 ·by_cases hb:b=ea
  ·subst hb
   rw[aB] at e
   cases e
   exact⟨⟨ob,hob,hcls⟩,⟨ob,hob⟩,λ h1 h2 ⟨o,e1,e2⟩ k=>⟨o,k _ e1,e2⟩⟩
  ·rw[aO hb] at e
   exact (F.hok b u e).stay (λ c v _ q=>kb c v q) (λ c q=>by rw[aO (aN q hea)];exact q) λ c xs q=>by rw[aO (aN q hea)];exact q
noncomputable def GZ (E:XK) (C:Addr) (t:TA):TS:=λ _ σ H=>t σ H λ vs H1=>vs.length<=100/\E (.ref C) none H1
theorem pZ {x:Str}{C:Addr}{bm:List Value}{newId initId B:String}{np cpos pos:Pos}{du:Expr}{rest:List Expr}{t:TA} (L:Leaves X E) (hc:X.calm=true) (hg:Gl X x) (O:PySem.W.excIn X.K C bm newId=true) (hm:PySem.W.nsIn X.K mainGlobals x=some (some (.ref C))) (FB:ExcBaseFacts B newId initId bm) (ha:PA X (du::rest) t)
  (he:starEach (du::rest) X.env=(false,eval du X.env)::starEach rest X.env:=by rfl) (hplain:(backTo cpos (starEach rest X.env)).any (·.1)=false:=by rfl) (hd:(x == ("__debug__" : Str))=false:=by decide) :
  PS X (.Raise (some (.Call (.Name x np) (du::rest) [] cpos)) none pos) (GZ E C t):=by
 intro pins s σ H D I h
 have G:X.mg x=some (.ref C):=PySem.W.mg_of I.ok.mod.kin I.ok.mod.glob hm
 have ocl:OwnCls x C bm newId X.mg X.base:=by
  refine⟨G,?_⟩
  have q:=O
  unfold PySem.W.excIn at q
  split at q
  ·rename_i dd cd sl ho
   split at q
   ·rename_i C' bm' k0 k1 k2 k3 n k5 hm' hs
    simp only [Bool.and_eq_true,Bool.not_eq_true',beq_iff_eq] at q;obtain⟨⟨⟨⟨⟨rfl,rfl⟩,hdel⟩,ht⟩,hok⟩,hni⟩:=q
    obtain⟨nm,bs,mro,ns,qn,hd',sn,sub,ab,col,del⟩:=cd
    dsimp only at hm' hdel hok hni
    subst hm' hdel
    have hsl:sl = #[k0,k1,k2,k3,some (.builtin n),k5]:=by obtain⟨l⟩:=sl;simp only at hs;rw[hs]
    subst hsl
    exact⟨bm',ns,nm,qn,bs,hd',sn,sub,ab,col,dd,k0,k1,k2,k3,k5,_,I.ok.mod.kin _ _ ho,.of_isNs (PySem.W.isNs_of_in I.ok.mod.kin hok),PySem.W.nsMap_none_of_in I.ok.mod.kin hok hni,PySem.W.tail_of_in I.ok.mod.kin ht⟩
   ·cases q
  ·cases q
 obtain⟨tl,N,nm,q,bs,hdct,sn,sub,ab,col,dd,k0,k1,k2,k3,k5,mN,hC,hN,hni,T⟩:=ocl.obj
 refine wpAny_Raise_call_subT (C:=C) (nm:=nm) (q:=q) (N:=N) (bs:=bs) (bm:=tl) (hdct:=hdct) (sn:=sn) (sub:=sub) (ab:=ab) (col:=col) (dd:=dd) (k0:=k0) (k1:=k1) (k2:=k2) (k3:=k3) (k5:=k5) FB (mN:=mN) (T.hasType FB.hasBase) (I.ok.hd hc) (by rw[he];show (false || (backTo cpos (starEach rest X.env)).any (·.1))=false;rw[hplain];rfl) hni (oP I hg G ⟨rfl,?_⟩ hd)
 have ha':=ha cpos pins s σ H _ I h
 rw[he] at ha' ⊢
 refine Calls.evalArgs_plain (wpAny_mono ha' (λ us bj ⟨vs,H1,I1,r1,hlen,hE⟩=>⟨rfl,?_,I1.bk _ _ hC,hN.keeps I1.bk,T.keeps I1.bk,λ h' e hme=>CG L I1 hme hE⟩) λ _ _ y=>y)
 have:=r1.length
 show us.length<=sizeLine
 rw[sizeLine_eq];omega
end
end L2
namespace L2
open PySem PySem.Spec PyProof.Rows TwZ
noncomputable abbrev Cx.within (X:Cx) (pn:List (Addr×Obj)) (E:Value->Shared->Prop):Cx:={ X with pn:=pn,xe:=E }
noncomputable abbrev Cx.caughtIn (X:Cx) (ea:Addr):Cx:={ X with A:=X.A.mark (some (.ref ea)),calm:=false,xe:=λ _ _=>False }
section
variable {X:Cx}{pins:List (Addr×Obj)}{σ:St}{H:Hp}{s:Shared}{pn:List (Addr×Obj)}{E:Value->Shared->Prop}{ea:Addr}
theorem Cx.Ok.within (ok:X.Ok):(X.within pn E).Ok:=
 ⟨ok.mod,ok.kind,ok.glob,ok.blt,ok.above,ok.inj,ok.has,ok.cab,ok.hd,ok.frames,ok.stk,ok.exf,ok.bs,ok.bsz,ok.noex,ok.exfs,ok.funs,ok.frf⟩
theorem Cx.Ok.unwithin (ok:(X.within pn E).Ok):X.Ok:=
 ⟨ok.mod,ok.kind,ok.glob,ok.blt,ok.above,ok.inj,ok.has,ok.cab,ok.hd,ok.frames,ok.stk,ok.exf,ok.bs,ok.bsz,ok.noex,ok.exfs,ok.funs,ok.frf⟩
theorem Inv.within (I:Inv X pins σ H s):Inv (X.within (X.pn++pins) E) [] σ H s:=
 ⟨I.ok.within,I.os,I.bare,I.base,I.loc,I.cell,I.free,I.freeC,λ p hp=>I.pin p (by simpa using hp),I.hok,I.len⟩
theorem Inv.unwithin {p2:List (Addr×Obj)} (I:Inv (X.within (X.pn++pins) E) p2 σ H s):Inv X pins σ H s:=
 ⟨I.ok.unwithin,I.os,I.bare,I.base,I.loc,I.cell,I.free,I.freeC,λ p hp=>I.pin p (List.mem_append_left _ hp),I.hok,I.len⟩
theorem Inv.mark (I:Inv X pins σ H s):Inv (X.caughtIn ea) pins σ H s:=
 ⟨⟨I.ok.mod,I.ok.kind,I.ok.glob,I.ok.blt,I.ok.above,I.ok.inj,I.ok.has,I.ok.cab,λ z=>Bool.noConfusion z,I.ok.frames,I.ok.stk,I.ok.exf,I.ok.bs,I.ok.bsz,I.ok.noex,I.ok.exfs,I.ok.funs,I.ok.frf⟩,I.os,I.bare,I.base,I.loc,I.cell,I.free,I.freeC,I.pin,I.hok,I.len⟩
theorem Inv.unmark (ok:X.Ok) (I:Inv (X.caughtIn ea) pins σ H s):Inv X pins σ H s:=
 ⟨ok,I.os,I.bare,I.base,I.loc,I.cell,I.free,I.freeC,I.pin,I.hok,I.len⟩
end
end L2
namespace L2
open PySem PySem.Spec PyProof.Rows TwZ PySem.Builtin PySem.Builtin.ObjectAttr PySem.Builtin.Getset_descriptor
section
variable {prog:Program}{w:World}{K:PySem.W.Frag}{x D:Addr}
end
section
variable {X:Cx}
end
end L2
namespace L2
open PySem PySem.Spec PyProof.Rows TwZ
section
variable {X:Cx}{K:PySem.W.Frag}
noncomputable def CI (K:PySem.W.Frag):R2:=λ x y H Q=>∃ a b xs ys,x=.ref a/\y=.ref b/\bO K H a xs/\bO K H b ys/\xs.length+ys.length<=sizeLine/\∀ p H',aH H H'->bO K H' p (xs++ys)->Q (.ref p) H'
theorem D0:iU X (binaryOp .Add) (CI X.K):=by
 intro pins s σ H x y v u Q I rx ry h
 obtain⟨a,b,xs,ys,rfl,rfl,ha,hb,hz,q⟩:=h
 by_cases hx:xs=[]
 ·subst hx
  cases rx
  cases ry
  obtain⟨its,r1,p1,_⟩:=I.tuple ha
  obtain⟨its2,r2,p2,_⟩:=I.tuple hb
  cases r1
  obtain⟨⟨cls,dd,data,sl⟩,ho,hc,n,hd⟩:=id p1
  obtain⟨⟨cls2,dd2,data2,sl2⟩,ho2,hc2,n2,hd2⟩:=id p2
  simp only at hc hd hc2 hd2
  subst hc hd hc2 hd2
  exact concat_meets ⟨_,ho,rfl⟩ ⟨_,ho2,rfl⟩ noFill_tuple_add seq_tuple_add PySem.F.slot_tuple_add PySem.F.entry_tuple_add (PySem.F.args_tuple_add_2 _ _) (tuple_addW0 a b _ its2.toArray n n2 dd dd2 sl sl2 (by simp)) ⟨ho,ho2,⟨.ref b,H,I,rfl,q b H (aH.refl H) hb⟩⟩
 ·refine yU pins s σ H _ _ v u Q I rx ry ⟨a,b,xs,ys,rfl,rfl,ha,hb,hx,hz,λ e=>?_,λ _ p hp=>?_⟩
  ·subst e
   exact q a H (aH.refl H) (by rw[List.append_nil];exact ha)
  ·exact q p _ (aH.new hp) (bO.of aB)
theorem sU (hK:X.K=K):iU X (binaryOp .Add) (CI K):=by subst hK;exact D0
theorem gI (hK:X.K=K):KS X (JP K):=by subst hK;exact EQ
end
end L2
namespace Tw
open PySem L2
section
variable {P:Program}{w:World}{K:PySem.W.Frag}{mg:Str->Option Value}{base:Heap}
theorem qQ {H:Hp}:∀ {ds:List L2.D}{xs:List V} (i:Nat),L2.IsL K H ds xs->L2.IsL K H (ds.take i) (xs.take i)
 | _,_,0,_=>by rw[List.take_zero,List.take_zero];exact .nil
 | [],_,i+1,h=>by have:=h.un0;subst this;exact .nil
 | d::ds,_,i+1,h=>by
  obtain⟨x,r,rfl,h1,h⟩:=h.un
  exact .cons h1 (qQ i h)
end
end Tw
namespace L2
open PySem PySem.Spec PyProof.Rows TwZ
section
variable {P:Program}{w:World}{K:PySem.W.Frag}{mg:Str->Option Value}{base:Heap}
theorem Fun.okR {x qual:Str}{st:Stmt}{f:Addr}{fd:FuncData}{N ps:List Str}{k:Nat}{sp:Sp} (F:Fun K x qual st f fd) (S:FnScope N ps (aK st)) (len:∀ vs H Q E,sp vs H Q E->vs.length=ps.length)
  (hbody:∀ (cdv:Value) (A:Around) (outer:List Env) (s:Shared) (H:Hp) (vs:List V) (Q:VK) (E:XK),Room k (A.deeper (envOfC qual (aK st) s.heap.objs.size f cdv))->sp vs H Q E->
   Leaves (w9 (wM P w) P w K mg base N qual (aK st) f cdv A outer s H E) E->
   ∃ t,wL (w9 (wM P w) P w K mg base N qual (aK st) f cdv A outer s H E) (bG st) t/\t { nx:=λ _ H'=>Q .non H',rt:=Q } (mF N vs) H):FnOk P w K mg base (wM P w) (k+1) f fd ps sp:=by
 obtain⟨oc,od,kV,doc,pm,an,cdv,ct,osl,rfl,lk,hcd⟩:=F.ex
 exact GR lk hcd S len λ A outer s H vs Q E hr hsp=>hbody cdv A outer s H vs Q E hr hsp ⟨rfl,rfl,rfl,λ _ _ h=>h⟩
end
structure CalleeR (P:Program) (w:World) (K:PySem.W.Frag) (mg:Str->Option Value) (base:Heap) (x:Str) (ps:List Str) (k:Nat) (sp:Sp) (f:Addr) (fd:FuncData):Prop where
 ok:FnOk P w K mg base (wM P w) k f fd ps sp
 mg:mg x=some (.ref f)
 kp:PySem.W.keepIn K (.ref f)=true
 bd:rC K fd ps []
structure ExC (K:PySem.W.Frag) (x:Str) (C:Addr):Prop where
 ns:PySem.W.nsIn K mainGlobals x=some (some (.ref C))
 exc:PySem.W.excIn K C [.type "ValueError",.type "Exception",.type "BaseException",.type "object"] "ValueError.__new__" = true
end L2
namespace Tw
open PySem L2
section
variable {P:Program}{w:World}{K:PySem.W.Frag}{mg:Str->Option Value}{base:Heap}{C c_TipError c_NoNet c_NoVessel c_TooLong c_TooMany c_TooMuch c_Nothing c_NoText c_NoRow:Addr}
noncomputable def pG:Sp:=λ vs H Q _=>∃ (n lo hi:Int),vs=[.int n,.int lo,.int hi]/\Q (.bl (decide (lo<=n) && decide (n<=hi))) H
theorem uB {f:Addr}{fd:FuncData} (F:Fun K "is_whole" "is_whole" (bH 9) f fd) (T:Txt mg):FnOk P w K mg base j3 1 f fd ["thing","least","most"] pG:=by
 refine F.ok nZ (λ vs H Q E h=>?_) (λ cdv A outer s H vs Q E hr h=>?_)
 ·obtain⟨n,lo,hi,rfl,_⟩:=h;rfl
 ·obtain⟨n,lo,hi,rfl,k⟩:=h
  have sc:=nZ
  refine⟨_,(aM (bX (xE (aR (tG (K:=K) rfl) rfl T.b_isinstance wE (aA (pv 0) (aA (yR (v:=.ty "int") rfl T.b_int nQ rfl) aC))) (xE (u8 (aR (tG (K:=K) rfl) rfl T.b_isinstance wE (aA (pv 0) (aA (yR (v:=.ty "bool") rfl T.b_bool G3 rfl) aC)))) (xD (CV GK GK (pv 1) (pv 0) (pv 2))))))),?_⟩
  refine⟨_,rfl,_,"int",_,true,rfl,.inl (.int _),IC K,_,rfl,jT ?_⟩
  refine⟨_,rfl,_,"bool",_,false,rfl,.inl (.int _),ID K,_,rfl,_,rfl,jT ?_⟩
  refine⟨_,rfl,_,rfl,_,_,rfl,rfl,_,rfl,hX (λ h1=>?_) λ h1=>?_⟩
  ·rw[h1,Bool.true_and] at k
   exact⟨_,rfl,_,_,rfl,rfl,k⟩
  ·rw[Bool.not_eq_true] at h1
   rw[h1,Bool.false_and] at k
   exact k
noncomputable def tW (K:PySem.W.Frag) (cV:Addr):Sp:=λ vs H Q E=>∃ (x:V) (net:Net) (v:Int),vs=[x,.int v]/\Is K H (eF net) x/\((0<=v/\v < net.vs.length/\Q .non H)\/(¬ (0<=v/\v < net.vs.length)/\E (.ref cV) none H))
theorem oI {f f1:Addr}{fd fd1:FuncData} (F:Fun K "need_vessel" "need_vessel" (bH 8) f fd) (T:Txt mg) (XC_NoVessel:ExC K "NoVessel" c_NoVessel) (G_is_whole:Callee P w K mg base "is_whole" ["thing","least","most"] 1 pG f1 fd1) :
  FnOk P w K mg base (wM P w) 2 f fd ["net","number"] (tW K c_NoVessel):=by
 refine F.okR jI (λ vs H Q E h=>?_) (λ cdv A outer s H vs Q E hr h L=>?_)
 ·obtain⟨x,net,v,rfl,_⟩:=h;rfl
 ·obtain⟨x,net,v,rfl,hx,k⟩:=h
  have sc:=jI
  refine⟨_,(aD (cI (pv 0) (bB (K:=K) (n:=2) rfl rfl (aF (aE (i:=2) sc.nd rfl (Or.inl rfl)) (aF (aE (i:=3) sc.nd rfl (Or.inl rfl)) bA))))
   (aM (fC (CM (lN (fG G_is_whole hr (aA (pv 1) (aA aG (aA (aW gX (aR (bN (K:=K) rfl) rfl T.b_len PySem.boot_len (aA (pv 2) aC)) aG) aC)))))) (aM (pZ L rfl rfl XC_NoVessel.exc XC_NoVessel.ns PySem.F.excBase_ValueError (aA gW aC))) cS))),?_⟩
  obtain⟨a,b,c,xs,ys,rfl,q,q1,l1,q2,l2⟩:=dS hx
  have exl:xs.length=net.vs.length:=by rw[l1.length,List.length_map]
  refine⟨_,rfl,a,_,rfl,q,rfl,_,_,rfl,_,_,rfl,rfl,?_⟩
  refine⟨_,rfl,_,rfl,b,xs,rfl,.inr q1,_,_,rfl,rfl,v,0,_,rfl,_,rfl,?_⟩
  rcases k with ⟨h0,h1,k⟩ | ⟨hn,k⟩
  ·rw[decide_eq_true h0,decide_eq_true (show v<=((xs.length:Nat):Int) - 1 by omega)]
   exact j5 k
  ·have:(decide (0<=v) && decide (v<=((xs.length:Nat):Int) - 1))=false:=by
    rw[Bool.eq_false_iff]
    intro z
    rw[Bool.and_eq_true,decide_eq_true_eq,decide_eq_true_eq] at z
    exact hn ⟨z.1,by omega⟩
   rw[this]
   exact jT ⟨by show 1<=100;decide,k⟩
end
end Tw
namespace Tw
open PySem L2
noncomputable abbrev iV:=List (Int×Int)
noncomputable def lR (ms:iV) (i:Int):Option Int:=(ms.find? λ p=>decide (p.1=i)).map (·.2)
noncomputable def mC (ms:iV):List (eU×V):=ms.map λ p=>(Sum.inl p.1,V.int p.2)
theorem tL (i:Int):∀ ms:iV,dH (mC ms) (Sum.inl i)=(lR ms i).map V.int
 | []=>rfl
 | p::ms=>by
  have ih:=tL i ms
  show dH ((Sum.inl p.1,V.int p.2)::mC ms) (Sum.inl i)=_
  unfold lR at ih ⊢
  by_cases h:p.1=i
  ·rw[dO (by rw[h]),List.find?_cons_of_pos (by simpa using h)];rfl
  ·rw[dC (λ z=>h (by injection z)),ih,List.find?_cons_of_neg (by simpa using h)]
theorem yB:∀ ms:iV,dH (mC ms) (Sum.inr none)=none
 | []=>rfl
 | p::ms=>by
  show dH ((Sum.inl p.1,V.int p.2)::mC ms) (Sum.inr none)=_
  rw[dC (λ z=>by cases z),yB ms]
noncomputable def EB (H:Hp) (a:Addr) (ms:iV):Prop:=Rd H a (.dK (mC ms))
theorem EB.isD {H:Hp}{a:Addr}{ms:iV} (h:EB H a ms):IsD H a:=.inl ⟨_,h⟩
theorem EB.get {H:Hp}{a:Addr}{ms:iV} (h:EB H a ms) (t:Option Int):kT H a (iI t) ((t.bind (lR ms)).map V.int):=by
 cases t with
 | none=>exact .inl ⟨_,Sum.inr none,h,rfl,(yB ms).symm⟩
 | some i=>exact .inl ⟨_,Sum.inl i,h,rfl,(tL i ms).symm⟩
theorem EB.same {H H':Hp}{a:Addr}{ms:iV} (h:EB H a ms) (s:aH H H'):EB H' a ms:=by
 rcases h with h | ⟨o,h⟩
 ·exact .inl (s _ _ h)
 ·exact .inr ⟨o,s _ _ h⟩
theorem zJ (o:Option Int):(o.map V.int).getD .non=iI o:=by cases o <;> rfl
noncomputable def AC (nv:iV) (o:Option Int×Int):Option Int×Int:=(o.1.bind (lR nv),o.2)
noncomputable def kP (ms:iV) (a:Str×Int):Option (Str×Int):=(lR ms a.2).map λ s=>(a.1,s)
noncomputable def pW (nv ms:iV) (v:Vs):Vs:=⟨v.size,v.brim,v.outs.map (AC nv),v.holds,v.spill.bind (lR nv),v.acts.filterMap (kP ms)⟩
noncomputable def rJ (nv:iV) (s:oE):oE:=((lR nv s.1).getD 0,s.2)
noncomputable def tM:Vs:=⟨1,1,[],false,none,[]⟩
noncomputable def HJ (net:Net) (nv ms:iV):Net:=⟨nv.map λ p=>pW nv ms (net.vs.getD p.1.toNat tM),ms.map λ p=>rJ nv (net.sps.getD p.1.toNat (0,0,false))⟩
structure RenOk (net:Net) (nv ms:iV):Prop where
 vs:∀ p∈nv,0<=p.1/\p.1 < net.vs.length
 sp:∀ p∈ms,0<=p.1/\p.1 < net.sps.length
 tg:∀ p∈ms,∃ j,lR nv (net.sps.getD p.1.toNat (0,0,false)).1=some j
 lv:nv.length<=12
 ls:ms.length<=12
theorem rQ {aq db:Type} (f:aq->Option db) (l:List aq):(l.filterMap f).length<=l.length:=List.length_filterMap_le f l
section
variable {P:Program}{w:World}{K:PySem.W.Frag}{mg:Str->Option Value}{base:Heap}{C c_TipError c_NoNet c_NoVessel c_TooLong c_TooMany c_TooMuch c_Nothing c_NoText c_NoRow aw:Addr}
noncomputable def wU (K:PySem.W.Frag):Sp:=λ vs H Q _=>∃ (x:V) (dv ds:Addr) (v:Vs) (nv ms:iV),vs=[x,.ref dv,.ref ds]/\Is K H (nU v) x/\v.outs.length<=3/\v.acts.length<=3/\EB H dv nv/\EB H ds ms/\∀ p H',aH H H'->Is K H' (nU (pW nv ms v)) p->Q p H'
theorem gJ:FnScope ["vessel","new_vessels","new_spouts","size","brim","outs","holds","spill","acts","told_outs","told_acts"] ["vessel","new_vessels","new_spouts"] (aK (bH 32)):=⟨rfl,rfl,rfl,by decide +kernel,rfl,by decide +kernel,by decide +kernel⟩
theorem jQ {f:Addr}{fd:FuncData} (F:Fun K "renumbered_vessel" "renumbered_vessel" (bH 32) f fd) (T:Txt mg):FnOk P w K mg base j3 1 f fd ["vessel","new_vessels","new_spouts"] (wU K):=by
 refine F.ok gJ (λ vs H Q E h=>?_) (λ cdv A outer s H vs Q E hr h=>?_)
 ·obtain⟨x,dv,ds,v,nv,ms,rfl,_⟩:=h;rfl
 ·obtain⟨x,dv,ds,v,nv,ms,rfl,hx,o3,a3,hdv,hds,k⟩:=h
  have sc:=gJ
  have hu:=zB hr
  refine⟨_,(aD (cI (pv 0) (bB (K:=K) (n:=6) rfl rfl (aF (aE (i:=3) sc.nd rfl (Or.inl rfl)) (aF (aE (i:=4) sc.nd rfl (Or.inl rfl)) (aF (aE (i:=5) sc.nd rfl (Or.inl rfl)) (aF (aE (i:=6) sc.nd rfl (Or.inl rfl)) (aF (aE (i:=7) sc.nd rfl (Or.inl rfl)) (aF (aE (i:=8) sc.nd rfl (Or.inl rfl)) bA))))))))
   (aD (fI (i:=9) sc.nd rfl rfl (λ _ _ h=>h) rfl (LcOk.mk (N':=["target","parts","new_vessels"]) (fr:=[none,none,some 1]) rfl ⟨rfl,trivial⟩ rfl rfl rfl rfl rfl ⟨⟨_,rfl,rfl,rfl,rfl⟩,trivial⟩) (eT (K:=K) rfl (pv 5)) (λ _ _ _=>(bB (K:=K) (n:=2) rfl rfl (aF (aE (i:=0) (show (["target","parts","new_vessels"]:List Str).Nodup by decide +kernel) rfl (Or.inl rfl) (Or.inr rfl)) (aF (aE (i:=1) (show (["target","parts","new_vessels"]:List Str).Nodup by decide +kernel) rfl (Or.inl rfl) (Or.inr rfl)) bA)))) (λ _ _ _=>cA) (λ _ _ _=>(bK (aA (vJ hu (pv 2) (pv 0) ⟨rfl,rfl,rfl,rfl⟩) (aA (pv 1) aC)))))
   (aD (fI (i:=10) sc.nd rfl rfl (λ _ _ h=>h) rfl (LcOk.mk (N':=["word","spout","new_spouts"]) (fr:=[none,none,some 2]) rfl ⟨rfl,trivial⟩ rfl rfl rfl rfl rfl ⟨⟨_,rfl,rfl,rfl,rfl⟩,trivial⟩) (eT (K:=K) rfl (pv 8)) (λ _ _ _=>(bB (K:=K) (n:=2) rfl rfl (aF (aE (i:=0) (show (["word","spout","new_spouts"]:List Str).Nodup by decide +kernel) rfl (Or.inl rfl) (Or.inr rfl)) (aF (aE (i:=1) (show (["word","spout","new_spouts"]:List Str).Nodup by decide +kernel) rfl (Or.inl rfl) (Or.inr rfl)) bA)))) (λ _ _ _=>mP (HP (HW hu (pv 1) (pv 2)))) (λ _ _ _=>(bK (aA (pv 0) (aA (yQ hu (pv 2) (pv 1) (λ _ _=>rfl)) aC)))))
   (aM (bX (bK (aA (pv 3) (aA (pv 4) (aA (bC (bU (K:=K) rfl) rfl T.b_tuple cB (aA (pv 9) aC)) (aA (pv 6) (aA (vJ hu (pv 1) (pv 7) ⟨rfl,rfl,rfl,rfl⟩) (aA (bC (bU (K:=K) rfl) rfl T.b_tuple cB (aA (pv 10) aC)) aC)))))))))))),?_⟩
  obtain⟨a,o,c,rfl,q,io,ic⟩:=rX hx
  obtain⟨oa,os,rfl,qo,lo⟩:=io.un
  obtain⟨ca,cs,rfl,qc,lc⟩:=ic.un
  have eol:os.length=v.outs.length:=by rw[lo.length,List.length_map]
  have ecl:cs.length=v.acts.length:=by rw[lc.length,List.length_map]
  refine⟨_,rfl,a,_,rfl,q,rfl,_,_,rfl,_,_,rfl,_,_,rfl,_,_,rfl,_,_,rfl,_,_,rfl,rfl,?_⟩
  refine⟨_,rfl,oa,rfl,⟨_,qo⟩,hV (K:=K) (a:=oa) (xs:=os) (λ D i r Z H'=>H D=none/\aH H H'/\H' D=some (.lst r)/\IsL K H' (((v.outs.take i).map (AC nv)).map outD) r/\∃ u1 u2,Z=[u1,u2,some (.ref dv)])
   (λ D i r Z H' p=>p.2.1.tup qo) (λ D hD=>⟨hD,aH.new hD,aB,.nil,none,none,rfl⟩) ?_ ?_⟩
  rotate_left
  ·rintro D i y r Z H1 hy ⟨hD,sm,hDl,lr,u1,u2,rfl⟩
   obtain⟨t,ht,ta,rfl,qt⟩:=iQ lo hy
   have hil:=(List.getElem?_eq_some_iff.mp ht).1
   refine⟨ta,_,rfl,sm.tup qt,rfl,_,_,rfl,_,_,rfl,rfl,?_⟩
   refine hR ?_
   have hd1:=hdv.same sm
   refine⟨_,rfl,dv,rfl,hd1.isD,_,rfl,_,hd1.get t.1,_,rfl,(show 2<=sizeLine by decide),λ e he=>?_⟩
   rw[zJ]
   have m1:=aH.new (o:=HO.tup [iI (t.1.bind (lR nv)),.int t.2]) he
   have i1:Is K (upd H1 e (.tup [iI (t.1.bind (lR nv)),.int t.2])) (outD (AC nv t)) (.ref e):=Is.tupOf (ds:=[BF (t.1.bind (lR nv)),.int t.2]) (bO.of aB) (.cons (Is.tgOf _) (.cons (Is.i _) .nil))
   generalize upd H1 e (.tup [iI (t.1.bind (lR nv)),.int t.2])=H2 at m1 i1 ⊢
   have hDl2:=m1 _ _ hDl
   have muD:iY (H2 D):=by rw[hDl2];exact trivial
   have hrl:r.length<=12:=by rw[lr.length,List.length_map,List.length_map,List.length_take];omega
   refine⟨hDl2,aP (by omega),hD,(sm.trans m1).put hD,aB,?_,_,_,rfl⟩
   rw[List.take_succ,ht,List.map_append,List.map_append]
   exact L2.IsL.snoc (Is.mono (d8.ts d8.upd muD) _ _ i1) (L2.IsL.mono (m1.ts.trans (d8.ts d8.upd muD)) _ _ lr)
  rintro D1 r1 Z H1 ⟨hD1,sm1,hDl1,lr1,_⟩
  rw[eol,List.take_length] at lr1
  refine⟨_,rfl,ca,rfl,⟨_,sm1.tup qc⟩,hV (K:=K) (a:=ca) (xs:=cs) (λ D i r Z H'=>H1 D=none/\aH H1 H'/\H' D=some (.lst r)/\IsL K H' (((v.acts.take i).filterMap (kP ms)).map nR) r/\∃ u1 u2,Z=[u1,u2,some (.ref ds)])
   (λ D i r Z H' p=>p.2.1.tup (sm1.tup qc)) (λ D hD=>⟨hD,aH.new hD,aB,.nil,none,none,rfl⟩) ?_ ?_⟩
  rotate_left
  ·rintro D i y r Z H2 hy ⟨hD,sm,hDl,lr,u1,u2,rfl⟩
   obtain⟨t,ht,ta,rfl,qt⟩:=oU lc hy
   have hil:=(List.getElem?_eq_some_iff.mp ht).1
   have sA:=sm1.trans sm
   have hd2:=hds.same sA
   refine⟨ta,_,rfl,sA.tup qt,rfl,_,_,rfl,_,_,rfl,rfl,?_⟩
   refine⟨_,rfl,_,rfl,ds,_,rfl,hd2.get (some t.2),_,rfl,?_⟩
   have hsn:(v.acts.take (i+1)).filterMap (kP ms)=(v.acts.take i).filterMap (kP ms)++(kP ms t).toList:=by
    rw[List.take_succ,ht,List.filterMap_append]
    show _++List.filterMap (kP ms) [t]=_
    cases hz:kP ms t <;> simp [List.filterMap_cons,hz]
   have hrl:r.length<=12:=by
    rw[lr.length,List.length_map]
    have:=rQ (kP ms) (v.acts.take i)
    rw[List.length_take] at this
    omega
   cases hz:lR ms t.2 with
   | none=>
    have hn:kP ms t=none:=by unfold kP;rw[hz];rfl
    rw[hn] at hsn
    have e0:((some t.2).bind (lR ms)).map V.int=none:=by show (lR ms t.2).map V.int=_;rw[hz];rfl
    rw[e0]
    refine j5 ⟨hD,sm,hDl,?_,_,_,rfl⟩
    rw[hsn]
    show IsL K H2 (((v.acts.take i).filterMap (kP ms)++[]).map nR) r
    rw[List.append_nil];exact lr
   | some j=>
    have hn:kP ms t=some (t.1,j):=by unfold kP;rw[hz];rfl
    rw[hn] at hsn
    have e0:((some t.2).bind (lR ms)).map V.int=some (.int j):=by show (lR ms t.2).map V.int=_;rw[hz];rfl
    have g0:=hd2.get (some t.2)
    rw[e0] at g0 ⊢
    refine jT ⟨_,rfl,_,rfl,_,rfl,ds,.int j,rfl,g0,(show 2<=sizeLine by decide),λ e he=>?_⟩
    have m1:=aH.new (o:=HO.tup [.str t.1,.int j]) he
    have i1:Is K (upd H2 e (.tup [.str t.1,.int j])) (nR (t.1,j)) (.ref e):=Is.tupOf (ds:=[.str t.1,.int j]) (bO.of aB) (.cons (Is.s _) (.cons (Is.i _) .nil))
    generalize upd H2 e (.tup [.str t.1,.int j])=H3 at m1 i1 ⊢
    have hDl2:=m1 _ _ hDl
    have muD:iY (H3 D):=by rw[hDl2];exact trivial
    refine⟨hDl2,aP (by omega),hD,(sm.trans m1).put hD,aB,?_,_,_,rfl⟩
    rw[hsn,List.map_append]
    exact L2.IsL.snoc (Is.mono (d8.ts d8.upd muD) _ _ i1) (L2.IsL.mono (m1.ts.trans (d8.ts d8.upd muD)) _ _ lr)
  rintro D2 r2 Z H2 ⟨hD2,sm2,hDl2,lr2,_⟩
  rw[ecl,List.take_length] at lr2
  refine⟨_,rfl,_,rfl,_,rfl,D1,_,rfl,.inl ⟨bR.of (sm2 _ _ hDl1),λ p1 hp1=>?_⟩⟩
  have m3:=aH.new (o:=HO.tup r1) hp1
  have t3:bO K (upd H2 p1 (.tup r1)) p1 r1:=bO.of aB
  generalize upd H2 p1 (.tup r1)=H3 at m3 t3 ⊢
  have s03:=(sm1.trans sm2).trans m3
  have hd3:=hdv.same s03
  refine⟨_,rfl,_,rfl,dv,rfl,hd3.isD,_,rfl,_,hd3.get v.spill,_,rfl,D2,_,rfl,.inl ⟨bR.of (m3 _ _ hDl2),λ p2 hp2=>⟨(show 6<=sizeLine by decide),λ p hp=>?_⟩⟩⟩
  rw[zJ]
  have m4:=aH.new (o:=HO.tup r2) hp2
  have t4:bO K (upd H3 p2 (.tup r2)) p2 r2:=bO.of aB
  generalize upd H3 p2 (.tup r2)=H4 at m4 t4 hp ⊢
  have m5:=aH.new (o:=HO.tup [.int v.size,.int v.brim,.ref p1,.bl v.holds,iI (v.spill.bind (lR nv)),.ref p2]) hp
  refine k _ _ ((s03.trans m4).trans m5) ?_
  exact Is.tupOf (ds:=[.int v.size,.int v.brim,.tup ((v.outs.map (AC nv)).map outD),.bl v.holds,BF (v.spill.bind (lR nv)),.tup ((v.acts.filterMap (kP ms)).map nR)]) (bO.of aB)
   (.cons (Is.i _) (.cons (Is.i _) (.cons (Is.tupOf ((m4.trans m5).tup t3) (L2.IsL.mono (((sm2.trans m3).trans m4).trans m5).ts _ _ lr1)) (.cons (Is.b _) (.cons (Is.tgOf _) (.cons (Is.tupOf (m5.tup t4) (L2.IsL.mono ((m3.trans m4).trans m5).ts _ _ lr2)) .nil))))))
end
end Tw
namespace Tw
open PySem L2
theorem GT {ms:iV}{i:Nat}{k:eU}{v:V} (h:(mC ms)[i]? = some (k,v)):∃ p,ms[i]? = some p/\k=Sum.inl p.1/\v=.int p.2:=by
 unfold mC at h
 rw[List.getElem?_map] at h
 obtain⟨p,hp,e⟩:=Option.map_eq_some_iff.mp h
 cases e
 exact⟨p,hp,rfl,rfl⟩
section
variable {P:Program}{w:World}{K:PySem.W.Frag}{mg:Str->Option Value}{base:Heap}{C c_TipError c_NoNet c_NoVessel c_TooLong c_TooMany c_TooMuch c_Nothing c_NoText c_NoRow aw:Addr}
noncomputable def BU (K:PySem.W.Frag):Sp:=λ vs H Q _=>∃ (x:V) (dv ds:Addr) (net:Net) (nv ms:iV),vs=[x,.ref dv,.ref ds]/\Is K H (eF net) x/\NetOk net/\H dv=some (.dK (mC nv))/\H ds=some (.dK (mC ms))/\dv≠ds/\RenOk net nv ms/\
 ∀ p H',ButL [dv,ds] H H'->Is K H' (eF (HJ net nv ms)) p->Q p H'
theorem kW:FnScope ["net","new_vessels","new_spouts","vessels","spouts","told_vessels","told_spouts","number","target","flow","door"] ["net","new_vessels","new_spouts"] (aK (bH 31)):=⟨rfl,rfl,rfl,by decide +kernel,rfl,by decide +kernel,by decide +kernel⟩
theorem rK {f f1:Addr}{fd fd1:FuncData} (F:Fun K "renumbered" "renumbered" (bH 31) f fd) (T:Txt mg) (G_renumbered_vessel:Callee P w K mg base "renumbered_vessel" ["vessel","new_vessels","new_spouts"] 1 (wU K) f1 fd1) :
  FnOk P w K mg base j3 2 f fd ["net","new_vessels","new_spouts"] (BU K):=by
 refine F.ok kW (λ vs H Q E h=>?_) (λ cdv A outer s H vs Q E hr h=>?_)
 ·obtain⟨x,dv,ds,net,nv,ms,rfl,_⟩:=h;rfl
 ·obtain⟨x,dv,ds,net,nv,ms,rfl,hx,nok,hdv,hds,nds,rok,k⟩:=h
  have sc:=kW
  have hu:=zB hr
  refine⟨_,(aD (cI (pv 0) (bB (K:=K) (n:=2) rfl rfl (aF (aE (i:=3) sc.nd rfl (Or.inr rfl)) (aF (aE (i:=4) sc.nd rfl (Or.inl rfl)) bA))))
   (aD (fI (i:=5) sc.nd rfl rfl (λ _ _ h=>h) rfl (LcOk.mk (N':=["number","new_vessels","new_spouts","vessels"]) (fr:=[none,some 1,some 2,some 3]) rfl ⟨rfl,rfl,rfl,trivial⟩ rfl rfl rfl rfl rfl ⟨⟨_,rfl,rfl,rfl,rfl⟩,⟨_,rfl,rfl,rfl,rfl⟩,⟨_,rfl,rfl,rfl,rfl⟩,trivial⟩) (yN (pv 1)) (λ _ _ _=>(aE (i:=0) (show (["number","new_vessels","new_spouts","vessels"]:List Str).Nodup by decide +kernel) rfl (Or.inl rfl) (Or.inr rfl))) (λ _ _ _=>cA) (λ _ _ _=>(fG G_renumbered_vessel hr (aA (aQ (aJ (K:=K) rfl) (pv 3) (pv 0) (λ _ _=>rfl)) (aA (pv 1) (aA (pv 2) aC))))))
   (aD (aS (i:=6) sc.nd rfl (Or.inl rfl) (cK aC))
   (aD (dQ PassesOwn.never rfl (yN (pv 2)) (aE (i:=7) sc.nd rfl (Or.inl rfl)) (aD (cI (aQ (aJ (K:=K) rfl) (pv 4) (pv 7) (λ _ _=>rfl)) (bB (K:=K) (n:=3) rfl rfl (aF (aE (i:=8) sc.nd rfl (Or.inl rfl)) (aF (aE (i:=9) sc.nd rfl (Or.inl rfl)) (aF (aE (i:=10) sc.nd rfl (Or.inl rfl)) bA)))))
   (aM (dM (gD (K:=K) rfl PySem.F.plainAttrs_list PySem.F.slot_list_append PySem.F.type_list_append cY (pv 6) (aA (bK (aA (yQ hu (pv 1) (pv 8) (λ _ _=>rfl)) (aA (pv 9) (aA (pv 10) aC)))) aC))))))
   (aM (bX (bK (aA (bC (bU (K:=K) rfl) rfl T.b_tuple cB (aA (pv 5) aC)) (aA (bC (bU (K:=K) rfl) rfl T.b_tuple cB (aA (pv 6) aC)) aC))))))))),?_⟩
  obtain⟨na,nb,nc,xs,ys,rfl,q,q1,l1,q2,l2⟩:=dS hx
  have exl:xs.length=net.vs.length:=by rw[l1.length,List.length_map]
  have eyl:ys.length=net.sps.length:=by rw[l2.length,List.length_map]
  have muv:iY (H dv):=by rw[hdv];exact trivial
  have mus:iY (H ds):=by rw[hds];exact trivial
  refine⟨_,rfl,na,_,rfl,q,rfl,_,_,rfl,_,_,rfl,rfl,?_⟩
  refine⟨_,rfl,dv,_,rfl,hdv,λ ob=>?_⟩
  have b1:d8 dv H (upd H dv (.frz ob (.dK (mC nv)))):=d8.upd
  have ts1:=b1.ts (K:=K) muv
  have f1:upd H dv (.frz ob (.dK (mC nv))) dv=some (.frz ob (.dK (mC nv))):=aB
  have hds1:=b1 _ _ (λ z=>nds z.symm) hds
  generalize upd H dv (.frz ob (.dK (mC nv)))=H1 at b1 ts1 f1 hds1
  refine FS (a:=dv) (o:=ob) (kvs:=mC nv) (λ D i r Z H'=>H1 D=none/\aH H1 H'/\H' D=some (.lst r)/\IsL K H' (((nv.take i).map λ p=>pW nv ms (net.vs.getD p.1.toNat tM)).map nU) r/\∃ u,Z=[u,some (.ref dv),some (.ref ds),some (.ref nb)])
   (λ D i r Z H' p=>p.2.1 _ _ f1) (λ D hD=>⟨hD,aH.new hD,aB,.nil,none,rfl⟩) ?_ ?_
  rotate_left
  ·rintro D i key vv r Z H2 hk ⟨hD,sm,hDl,lr,u,rfl⟩
   obtain⟨pp,hpp,rfl,rfl⟩:=GT hk
   have hil:=(List.getElem?_eq_some_iff.mp hpp).1
   have hlv:=rok.lv
   obtain⟨p0,p1⟩:=rok.vs pp (List.mem_of_getElem? hpp)
   have hlt:pp.1.toNat < xs.length:=by omega
   have hxj:xs[pp.1.toNat]? = some xs[pp.1.toNat]:=by simp
   obtain⟨d,hd,iv⟩:=l1.get' hxj
   rw[List.getElem?_map] at hd
   obtain⟨v,hv,rfl⟩:=Option.map_eq_some_iff.mp hd
   have vok:=nok.vs v (List.mem_of_getElem? hv)
   have egd:net.vs.getD pp.1.toNat tM=v:=by rw[List.getD_eq_getElem?_getD,hv];rfl
   refine cT ?_
   have tsA:=ts1.trans sm.ts
   refine⟨_,rfl,_,rfl,.inr (.inl ⟨nb,xs,pp.1,xs[pp.1.toNat],rfl,rfl,tsA _ _ q1,kN p0 hxj,_,rfl,_,rfl,_,dv,ds,v,nv,ms,rfl,Is.mono tsA _ _ iv,vok.o3,vok.a3,.inr ⟨ob,sm _ _ f1⟩,.inl (sm _ _ hds1),λ p H3 s3 ip=>?_⟩)⟩
   have hDl3:=s3 _ _ hDl
   have muD:iY (H3 D):=by rw[hDl3];exact trivial
   have hrl:r.length<=12:=by rw[lr.length,List.length_map,List.length_map,List.length_take];omega
   refine⟨hDl3,aP (by omega),hD,(sm.trans s3).put hD,aB,?_,_,rfl⟩
   rw[List.take_succ,hpp,List.map_append,List.map_append]
   refine L2.IsL.snoc ?_ (L2.IsL.mono (s3.ts.trans (d8.ts d8.upd muD)) _ _ lr)
   show Is K _ (nU (pW nv ms (net.vs.getD pp.1.toNat tM))) p
   rw[egd]
   exact Is.mono (d8.ts d8.upd muD) _ _ ip
  rintro D1 r1 Z H2 ⟨hD1,sm1,hDl1,lr1,_⟩
  have elen:(mC nv).length=nv.length:=by unfold mC;rw[List.length_map]
  rw[elen,List.take_length] at lr1
  refine⟨Nat.zero_le _,λ D2 hD2=>?_⟩
  have s3:=aH.new (o:=HO.lst []) hD2
  have e3:upd H2 D2 (.lst []) D2=some (.lst []):=aB
  generalize upd H2 D2 (.lst [])=H3 at s3 e3
  have hds3:=s3 _ _ (sm1 _ _ hds1)
  have nD2:D2≠ds:=λ z=>by rw[z,sm1 _ _ hds1] at hD2;cases hD2
  have mus3:iY (H3 ds):=by rw[hds3];exact trivial
  refine⟨_,rfl,ds,_,rfl,hds3,λ ob2=>?_⟩
  have b4:d8 ds H3 (upd H3 ds (.frz ob2 (.dK (mC ms)))):=d8.upd
  have ts4:=b4.ts (K:=K) mus3
  have f4:upd H3 ds (.frz ob2 (.dK (mC ms))) ds=some (.frz ob2 (.dK (mC ms))):=aB
  have e4:=b4 _ _ nD2 e3
  have g4:=b4 _ _ nds (s3 _ _ (sm1 _ _ f1))
  have nD1:D1≠ds:=λ z=>by rw[z,hds1] at hD1;cases hD1
  have hDl4:=b4 _ _ nD1 (s3 _ _ hDl1)
  have ts14:=((ts1.trans sm1.ts).trans s3.ts).trans ts4
  have lr4:=L2.IsL.mono (s3.ts.trans ts4) _ _ lr1
  have nD12:D1≠D2:=λ z=>by rw[z] at hDl1;rw[hDl1] at hD2;cases hD2
  have nDv:D2≠dv:=λ z=>by rw[z,sm1 _ _ f1] at hD2;cases hD2
  have fD2:H1 D2=none:=sm1.free hD2
  have keep04:∀ b o,b∉[dv,ds]->H b=some o->upd H3 ds (.frz ob2 (.dK (mC ms))) b=some o:=λ b o hb e=>b4 _ _ (λ z=>hb (by simp [z])) (s3 _ _ (sm1 _ _ (b1 _ _ (λ z=>hb (by simp [z])) e)))
  generalize upd H3 ds (.frz ob2 (.dK (mC ms)))=H4 at b4 ts4 f4 e4 g4 hDl4 ts14 lr4 keep04
  refine DU (a:=ds) (o:=ob2) (kvs:=mC ms) (λ i Z H'=>d8 D2 H4 H'/\∃ (r:List V) (v7 v8 v9 v10:Option V),H' D2=some (.lst r)/\IsL K H' (((ms.take i).map λ p=>rJ nv (net.sps.getD p.1.toNat (0,0,false))).map wK) r/\
    Z=[some (.ref na),some (.ref dv),some (.ref ds),some (.ref nb),some (.ref nc),some (.ref D1),some (.ref D2),v7,v8,v9,v10])
   (λ i Z H' p=>p.1 _ _ (λ z=>nD2 z.symm) f4) ⟨d8.refl _,[],_,_,_,_,e4,.nil,rfl⟩ ?_ ?_
  rotate_left
  ·rintro i key vv Z H5 hk ⟨b5,r,v7,v8,v9,v10,h5,lr,rfl⟩
   obtain⟨pp,hpp,rfl,rfl⟩:=GT hk
   have hil:=(List.getElem?_eq_some_iff.mp hpp).1
   have hls:=rok.ls
   obtain⟨p0,p1⟩:=rok.sp pp (List.mem_of_getElem? hpp)
   obtain⟨j,hj⟩:=rok.tg pp (List.mem_of_getElem? hpp)
   have hlt:pp.1.toNat < ys.length:=by omega
   have hyj:ys[pp.1.toNat]? = some ys[pp.1.toNat]:=by simp
   obtain⟨sp,hsp,sa,esa,qs⟩:=nE l2 hyj
   have egd:net.sps.getD pp.1.toNat (0,0,false)=sp:=by rw[List.getD_eq_getElem?_getD,hsp];rfl
   rw[egd] at hj
   have muD4:iY (H4 D2):=by rw[e4];exact trivial
   have ts5:=ts14.trans (b5.ts muD4)
   have hrl:r.length<=12:=by rw[lr.length,List.length_map,List.length_map,List.length_take];omega
   dsimp only [fX]
   refine⟨_,rfl,_,rfl,.inr (.inl ⟨nc,ys,pp.1,.ref sa,rfl,rfl,ts5 _ _ q2,kN p0 (by rw[hyj,esa]),sa,_,rfl,ts5 _ _ qs,rfl,_,_,rfl,_,_,rfl,_,_,rfl,rfl,?_⟩)⟩
   have g0:kT H5 dv (.int sp.1) (some (.int j)):=by
    have:=EB.get (show EB H5 dv nv from .inr ⟨ob,b5 _ _ (λ z=>nDv z.symm) g4⟩) (some sp.1)
    rw[show ((some sp.1).bind (lR nv)).map V.int=some (.int j) by show (lR nv sp.1).map V.int=_;rw[hj];rfl] at this
    exact this
   refine⟨_,rfl,.inl ⟨rfl,_,bR.of h5⟩,_,rfl,_,rfl,dv,.int j,rfl,g0,_,rfl,_,rfl,(show 3<=sizeLine by decide),λ e he=>?_⟩
   have m6:=aH.new (o:=HO.tup [.int j,.int sp.2.1,.bl sp.2.2]) he
   have i6:Is K (upd H5 e (.tup [.int j,.int sp.2.1,.bl sp.2.2])) (wK (rJ nv (net.sps.getD pp.1.toNat (0,0,false)))) (.ref e):=by
    rw[egd]
    unfold rJ
    rw[hj]
    exact Is.tupOf (ds:=[.int j,.int sp.2.1,.bl sp.2.2]) (bO.of aB) (.cons (Is.i _) (.cons (Is.i _) (.cons (Is.b _) .nil)))
   generalize upd H5 e (.tup [.int j,.int sp.2.1,.bl sp.2.2])=H6 at m6 i6 ⊢
   have h6:=m6 _ _ h5
   have muD:iY (H6 D2):=by rw[h6];exact trivial
   refine⟨D2,r,_,rfl,rfl,h6,aP (by omega),(b5.trans m6.but).trans d8.upd,_,_,_,_,_,aB,?_,rfl⟩
   rw[List.take_succ,hpp,List.map_append,List.map_append]
   exact L2.IsL.snoc (Is.mono (d8.ts d8.upd muD) _ _ i6) (L2.IsL.mono (m6.ts.trans (d8.ts d8.upd muD)) _ _ lr)
  ·rintro Z H5 ⟨b5,r2,v7,v8,v9,v10,h5,lr2,rfl⟩
   have elen2:(mC ms).length=ms.length:=by unfold mC;rw[List.length_map]
   rw[elen2,List.take_length] at lr2
   have muD4:iY (H4 D2):=by rw[e4];exact trivial
   have ts45:=b5.ts (K:=K) muD4
   refine⟨_,rfl,D1,r1,rfl,.inl ⟨bR.of (b5 _ _ nD12 hDl4),λ p1 hp1=>?_⟩⟩
   have m6:=aH.new (o:=HO.tup r1) hp1
   have t6:bO K (upd H5 p1 (.tup r1)) p1 r1:=bO.of aB
   generalize upd H5 p1 (.tup r1)=H6 at m6 t6
   refine⟨_,rfl,D2,r2,rfl,.inl ⟨bR.of (m6 _ _ h5),λ p2 hp2=>⟨(show 2<=sizeLine by decide),λ p hp=>?_⟩⟩⟩
   have m7:=aH.new (o:=HO.tup r2) hp2
   have t7:bO K (upd H6 p2 (.tup r2)) p2 r2:=bO.of aB
   generalize upd H6 p2 (.tup r2)=H7 at m7 t7 hp
   have m8:=aH.new (o:=HO.tup [.ref p1,.ref p2]) hp
   have m58:=(m6.trans m7).trans m8
   refine k _ _ (λ b o hb e=>m58 _ _ (b5 _ _ (λ z=>?_) (keep04 b o hb e))) ?_
   ·have:=b1.free (λ z'=>nDv (by rw[<- z'];)) fD2
    rw[z,this] at e;cases e
   ·refine Is.tupOf (ds:=[.tup ((nv.map λ p=>pW nv ms (net.vs.getD p.1.toNat tM)).map nU),.tup ((ms.map λ p=>rJ nv (net.sps.getD p.1.toNat (0,0,false))).map wK)]) (bO.of aB) (.cons (Is.tupOf ((m7.trans m8).tup t6) (L2.IsL.mono (ts45.trans m58.ts) _ _ lr4)) (.cons (Is.tupOf (m8.tup t7) (L2.IsL.mono m58.ts _ _ lr2)) .nil))
end
end Tw
namespace L2
open PySem PySem.Spec PyProof.Rows TwZ
section
variable {X:Cx}
theorem mO {st:Stmt}{t:TS} (h:∀ pn:List (Addr×Obj),PS (X.within pn λ _ _=>False) st t):PS X st t:=by
 intro pins s σ H D I h1
 refine wpAny_mono (h (X.pn++pins) [] s σ H D I.within h1) (λ f ag hf=>?_) λ _ _ z=>z.elim
 cases f with
 | next=>obtain⟨Z,H',J,q⟩:=hf;exact⟨Z,H',J.unwithin,q⟩
 | brk=>obtain⟨Z,H',J,q⟩:=hf;exact⟨Z,H',J.unwithin,q⟩
 | cont=>obtain⟨Z,H',J,q⟩:=hf;exact⟨Z,H',J.unwithin,q⟩
 | ret u=>obtain⟨v,Z,H',J,r,q⟩:=hf;exact⟨v,Z,H',J.unwithin,r,q⟩
end
end L2
namespace Tw
open PySem L2
noncomputable def dL (n:Nat) (k:Int):iV:=(List.range n).map λ (i:Nat)=>((i:Int),(i:Int)+k)
theorem pU (n:Nat) (k:Int):(dL n k).length=n:=by unfold dL;simp
theorem sP (n:Nat) (k:Int):dL (n+1) k=dL n k++[((n:Int),(n:Int)+k)]:=by unfold dL;rw[List.range_succ,List.map_append];rfl
theorem FP (a b:iV) (i:Int):lR (a++b) i=(lR a i).or (lR b i):=by
 unfold lR
 rw[List.find?_append]
 cases a.find? λ p=>decide (p.1=i) <;> rfl
theorem iR (k:Int):∀ (n:Nat) (i:Int),lR (dL n k) i=if 0<=i/\i < n then some (i+k) else none
 | 0,i=>by
  rw[if_neg (by omega)];rfl
 | n+1,i=>by
  rw[sP,FP,iR k n i]
  by_cases h:0<=i/\i < n
  ·rw[if_pos h,if_pos (by omega)];rfl
  ·rw[if_neg h,Option.none_or]
   by_cases e:(n:Int)=i
   ·rw[if_pos (by omega)]
    unfold lR
    rw[List.find?_cons_of_pos (by simpa using e),<- e];rfl
   ·rw[if_neg (by omega)]
    unfold lR
    rw[List.find?_cons_of_neg (by simpa using e)];rfl
theorem jS {aq db:Type} (f:aq->db) (d:aq) (l:List aq):(List.range l.length).map (λ i=>f (l.getD i d))=l.map f:=by
 apply List.ext_getElem
 ·simp
 ·intro i h1 h2
  have hi:i < l.length:=by simpa using h2
  rw[List.getElem_map,List.getElem_map,List.getElem_range]
  congr 1
  rw[List.getD_eq_getElem?_getD,List.getElem?_eq_getElem hi];rfl
theorem lH {aq db:Type} (f:aq->Option db) (g:aq->db):∀ l:List aq,(∀ a∈l,f a=some (g a))->l.filterMap f=l.map g
 | [],_=>rfl
 | a::l,h=>by rw[List.filterMap_cons,h a List.mem_cons_self,List.map_cons,lH f g l λ b hb=>h b (List.mem_cons_of_mem _ hb)]
theorem CB {n m:Nat}{a b:Nat}{v:Vs} (h:VOk n m v):pW (dL n a) (dL m b) v=kF a b v:=by
 unfold pW kF
 have e1:v.outs.map (AC (dL n a))=v.outs.map (rD a):=List.map_congr_left λ o ho=>by
  unfold AC rD
  cases ho1:o.1 with
  | none=>rfl
  | some t=>
   have:=(h.outs o ho).tg t ho1
   show (lR (dL n a) t,o.2)=_
   rw[iR,if_pos this];rfl
 have e2:v.spill.bind (lR (dL n a))=BG a v.spill:=by
  cases hs:v.spill with
  | none=>rfl
  | some t=>
   have:=h.spill t hs
   show lR (dL n a) t=_
   rw[iR,if_pos this];rfl
 have e3:v.acts.filterMap (kP (dL m b))=v.acts.map (EF b):=lH _ _ _ λ x hx=>by
  have:=h.acts x hx
  unfold kP EF
  rw[iR,if_pos ⟨this.lo,this.hi⟩];rfl
 rw[e1,e2,e3]
theorem ET {B:Net} (hb:NetOk B) (a b:Nat):HJ B (dL B.vs.length a) (dL B.sps.length b)=⟨B.vs.map (kF a b),B.sps.map (wY a)⟩:=by
 unfold HJ
 have e1:((dL B.vs.length a).map λ p=>pW (dL B.vs.length a) (dL B.sps.length b) (B.vs.getD p.1.toNat tM))=B.vs.map (kF a b):=by
  have h1:((dL B.vs.length a).map λ p=>pW (dL B.vs.length a) (dL B.sps.length b) (B.vs.getD p.1.toNat tM))=(List.range B.vs.length).map λ i=>pW (dL B.vs.length a) (dL B.sps.length b) (B.vs.getD i tM):=by
   unfold dL;rw[List.map_map];rfl
  rw[h1,jS (pW (dL B.vs.length a) (dL B.sps.length b)) tM]
  exact List.map_congr_left λ v hv=>CB (hb.vs v hv)
 have e2:((dL B.sps.length b).map λ p=>rJ (dL B.vs.length a) (B.sps.getD p.1.toNat (0,0,false)))=B.sps.map (wY a):=by
  have h1:((dL B.sps.length b).map λ p=>rJ (dL B.vs.length a) (B.sps.getD p.1.toNat (0,0,false)))=(List.range B.sps.length).map λ i=>rJ (dL B.vs.length a) (B.sps.getD i (0,0,false)):=by
   unfold dL;rw[List.map_map];rfl
  rw[h1,jS (rJ (dL B.vs.length a)) (0,0,false)]
  exact List.map_congr_left λ s hs=>by
   unfold rJ wY
   rw[iR,if_pos (hb.sps s hs)];rfl
 rw[e1,e2]
theorem wZ {B:Net} (hb:NetOk B) (a b:Nat):RenOk B (dL B.vs.length a) (dL B.sps.length b) where
 vs:=λ p hp=>by
  unfold dL at hp
  obtain⟨i,hi,rfl⟩:=List.mem_map.1 hp
  have:=List.mem_range.1 hi
  exact⟨by show (0:Int)<=(i:Int);omega,by show (i:Int) < _;omega⟩
 sp:=λ p hp=>by
  unfold dL at hp
  obtain⟨i,hi,rfl⟩:=List.mem_map.1 hp
  have:=List.mem_range.1 hi
  exact⟨by show (0:Int)<=(i:Int);omega,by show (i:Int) < _;omega⟩
 tg:=λ p hp=>by
  unfold dL at hp
  obtain⟨i,hi,rfl⟩:=List.mem_map.1 hp
  have hil:=List.mem_range.1 hi
  have hm:B.sps.getD ((i:Int)).toNat (0,0,false)∈B.sps:=by
   rw[Int.toNat_natCast,List.getD_eq_getElem?_getD,List.getElem?_eq_getElem hil];exact List.getElem_mem hil
  exact⟨_,by rw[iR,if_pos (hb.sps _ hm)]⟩
 lv:=by rw[pU];exact hb.hi
 ls:=by rw[pU];exact hb.sp
noncomputable def ED (A B:Net):Prop:=A.vs.length+B.vs.length<=12/\A.sps.length+B.sps.length<=12
theorem zR {n:Nat}{many:Int}{a:Addr}{σ:St}{H1:Hp}{Q:Addr->Hp->Prop}{fr:List (Option Nat)} (hfr:qT fr σ=[none,some (.int many)]) (hn:n<=12)
  (k:∀ D H',H1 D=none->aH H1 H'->H' D=some (.dK (mC (dL n many)))->Q D H') :
  qY (G7 0 n) (fX 0) EJ (dP 0) (iG (sQ λ i j=>.int (i+j)) (dP 0) (dP 1)) fr σ H1 Q:=by
 refine E2 (n:=n) (λ D i Z H'=>H1 D=none/\aH H1 H'/\H' D=some (.dK (mC (dL i many)))/\∃ u,Z=[u,some (.int many)]) (λ D hD=>⟨hD,aH.new hD,aB,none,hfr⟩) (λ D Z H' p=>k D H' p.1 p.2.1 p.2.2.1) ?_
 rintro D i Z H2 hi ⟨hD,sm,hDl,u,rfl⟩
 refine cT ?_
 refine⟨_,rfl,_,rfl,_,rfl,_,_,rfl,rfl,mC (dL i many),Sum.inl (i:Int),rfl,hDl,aP (by unfold mC;rw[List.length_map,pU];omega),hD,sm.put hD,?_,_,rfl⟩
 have hv:dH (mC (dL i many)) (Sum.inl (i:Int))=none:=by rw[tL,iR,if_neg (by omega)];rfl
 rw[CL _ hv,aB,sP]
 unfold mC
 rw[List.map_append];rfl
section
variable {P:Program}{w:World}{K:PySem.W.Frag}{mg:Str->Option Value}{base:Heap}{C c_TipError c_NoNet c_NoVessel c_TooLong c_TooMany c_TooMuch c_Nothing c_NoText c_NoRow aw:Addr}
structure TxtV (mg:Str->Option Value):Prop where
 g_MOST_VESSELS:∃ u,mg "MOST_VESSELS" = some u/\bL (.int 12) u
 g_MOST_SPOUTS:∃ u,mg "MOST_SPOUTS" = some u/\bL (.int 12) u
noncomputable def wX (K:PySem.W.Frag) (cM:Addr):Sp:=λ vs H Q E=>∃ (x y:V) (A B:Net),vs=[x,y]/\Is K H (eF A) x/\Is K H (eF B) y/\NetOk A/\NetOk B/\
 ((ED A B/\∀ p H',aH H H'->Is K H' (eF (aU A B)) p->Q p H')\/(¬ ED A B/\∀ H',aH H H'->E (.ref cM) none H'))
theorem sO:FnScope ["net","other","vessels","spouts","other_vessels","other_spouts","many","many_spouts","moved_vessels","moved_spouts"] ["net","other"] (aK (bH 34)):=⟨rfl,rfl,rfl,by decide +kernel,rfl,by decide +kernel,by decide +kernel⟩
theorem xJ {f f1:Addr}{fd fd1:FuncData} (F:Fun K "beside" "beside" (bH 34) f fd) (T:Txt mg) (U:TxtV mg) (XC_TooMany:ExC K "TooMany" c_TooMany) (G_renumbered:Callee P w K mg base "renumbered" ["net","new_vessels","new_spouts"] 2 (BU K) f1 fd1) :
  FnOk P w K mg base (wM P w) 3 f fd ["net","other"] (wX K c_TooMany):=by
 refine F.okR sO (λ vs H Q E h=>?_) (λ cdv A outer s H vs Q E hr h L=>?_)
 ·obtain⟨x,y,A,B,rfl,_⟩:=h;rfl
 ·obtain⟨x,y,A1,B1,rfl,hx,hy,ha,hb,k⟩:=h
  have sc:=sO
  refine⟨_,(aD (cI (pv 0) (bB (K:=K) (n:=2) rfl rfl (aF (aE (i:=2) sc.nd rfl (Or.inl rfl)) (aF (aE (i:=3) sc.nd rfl (Or.inl rfl)) bA))))
   (aD (cI (pv 1) (bB (K:=K) (n:=2) rfl rfl (aF (aE (i:=4) sc.nd rfl (Or.inl rfl)) (aF (aE (i:=5) sc.nd rfl (Or.inl rfl)) bA))))
   (aD (cI (bK (aA (aR (bN (K:=K) rfl) rfl T.b_len PySem.boot_len (aA (pv 2) aC)) (aA (aR (bN (K:=K) rfl) rfl T.b_len PySem.boot_len (aA (pv 3) aC)) aC))) (bB (K:=K) (n:=2) rfl rfl (aF (aE (i:=6) sc.nd rfl (Or.inr rfl)) (aF (aE (i:=7) sc.nd rfl (Or.inr rfl)) bA))))
   (aD (fC (PW.pt (CJ (cH mS (aW cO (pv 6) (aR (bN (K:=K) rfl) rfl T.b_len PySem.boot_len (aA (pv 4) aC))) (qB rfl U.g_MOST_VESSELS) (cP _)) (xA (cH mS (aW cO (pv 7) (aR (bN (K:=K) rfl) rfl T.b_len PySem.boot_len (aA (pv 5) aC))) (qB rfl U.g_MOST_SPOUTS) (cP _))))) (aM (pZ L rfl rfl XC_TooMany.exc XC_TooMany.ns PySem.F.excBase_ValueError (aA gW aC))) cS)
   (aD (mO λ pn=>(cI (fG G_renumbered hr (aA (pv 1) (aA (GI (λ _ _ h=>h) rfl (LcOk.mk (N':=["number","many"]) (fr:=[none,some 6]) rfl ⟨rfl,trivial⟩ rfl rfl rfl rfl rfl ⟨⟨_,rfl,rfl,rfl,rfl⟩,trivial⟩) (bT rfl T.b_range (aA (aR (bN (K:=K) rfl) rfl T.b_len PySem.boot_len (aA (pv 4) aC)) aC)) (λ _ _ _=>(aE (i:=0) (show (["number","many"]:List Str).Nodup by decide +kernel) rfl (Or.inl rfl) (Or.inr rfl))) (λ _ _ _=>cA) (λ _ _ _=>(pv 0)) (λ _ _ _=>(aW cO (pv 0) (pv 1)))) (aA (GI (λ _ _ h=>h) rfl (LcOk.mk (N':=["number","many_spouts"]) (fr:=[none,some 7]) rfl ⟨rfl,trivial⟩ rfl rfl rfl rfl rfl ⟨⟨_,rfl,rfl,rfl,rfl⟩,trivial⟩) (bT rfl T.b_range (aA (aR (bN (K:=K) rfl) rfl T.b_len PySem.boot_len (aA (pv 5) aC)) aC)) (λ _ _ _=>(aE (i:=0) (show (["number","many_spouts"]:List Str).Nodup by decide +kernel) rfl (Or.inl rfl) (Or.inr rfl))) (λ _ _ _=>cA) (λ _ _ _=>(pv 0)) (λ _ _ _=>(aW cO (pv 0) (pv 1)))) aC)))) (bB (K:=K) (n:=2) rfl rfl (aF (aE (i:=8) sc.nd rfl (Or.inl rfl)) (aF (aE (i:=9) sc.nd rfl (Or.inl rfl)) bA)))))
   (aM (bX (bK (aA (aW (sU (K:=K) rfl) (pv 2) (pv 8)) (aA (aW (sU (K:=K) rfl) (pv 3) (pv 9)) aC)))))))))),?_⟩
  obtain⟨na,nb,nc,xs,ys,rfl,q,q1,l1,q2,l2⟩:=dS hx
  obtain⟨ma,mb,mc,us,vs',rfl,w',w1,m1,w2,m2⟩:=dS hy
  have exl:xs.length=A1.vs.length:=by rw[l1.length,List.length_map]
  have eyl:ys.length=A1.sps.length:=by rw[l2.length,List.length_map]
  have eul:us.length=B1.vs.length:=by rw[m1.length,List.length_map]
  have evl:vs'.length=B1.sps.length:=by rw[m2.length,List.length_map]
  have a2:=ha.hi
  have b2:=hb.hi
  have a3:=ha.sp
  have b3:=hb.sp
  refine⟨_,rfl,na,_,rfl,q,rfl,_,_,rfl,_,_,rfl,rfl,?_⟩
  refine⟨_,rfl,ma,_,rfl,w',rfl,_,_,rfl,_,_,rfl,rfl,?_⟩
  refine⟨_,rfl,nb,xs,rfl,.inr q1,_,rfl,nc,ys,rfl,.inr q2,(show 2<=sizeLine by decide),λ t ht=>?_⟩
  have s1:=aH.new (o:=HO.tup [.int (xs.length:Int),.int (ys.length:Int)]) ht
  have e1:bO K (upd H t (.tup [.int (xs.length:Int),.int (ys.length:Int)])) t [.int (xs.length:Int),.int (ys.length:Int)]:=bO.of aB
  generalize upd H t (.tup [.int (xs.length:Int),.int (ys.length:Int)])=H1 at s1 e1
  rw[exl,eyl] at e1
  refine⟨t,_,rfl,e1,rfl,_,_,rfl,_,_,rfl,rfl,?_⟩
  have no:¬ ED A1 B1->E (.ref c_TooMany) none H1:=λ h=>by
   rcases k with ⟨hf,_⟩ | ⟨_,k⟩
   ·exact absurd hf h
   ·exact k _ s1
  refine⟨_,rfl,_,rfl,mb,us,rfl,.inr (s1.tup w1),_,_,rfl,rfl,_,_,rfl,rfl,_,rfl,hX (λ hT=>?_) λ hF=>?_⟩
  ·have hT:=of_decide_eq_true hT
   exact jT ⟨by show 1<=100;decide,no λ h=>by have:=h.1;rw[eul] at hT;omega⟩
  refine⟨_,rfl,_,rfl,mc,vs',rfl,.inr (s1.tup w2),_,_,rfl,rfl,_,_,rfl,rfl,_,rfl,hX (λ hT=>?_) λ hF2=>?_⟩
  ·have hT:=of_decide_eq_true hT
   exact⟨by show 1<=100;decide,no λ h=>by have:=h.2;rw[evl] at hT;omega⟩
  have fit:ED A1 B1:=by
   have h1:¬ (12:Int) < (A1.vs.length:Int)+(us.length:Int):=λ z=>hF (decide_eq_true z)
   have h2:¬ (12:Int) < (A1.sps.length:Int)+(vs'.length:Int):=λ z=>hF2 (decide_eq_true z)
   rw[eul] at h1
   rw[evl] at h2
   exact⟨by omega,by omega⟩
  have k:∀ p H',aH H H'->Is K H' (eF (aU A1 B1)) p->Q p H':=by
   rcases k with ⟨_,k⟩ | ⟨h,_⟩
   ·exact k
   ·exact absurd fit h
  refine⟨_,rfl,_,rfl,mb,us,rfl,.inr (s1.tup w1),?_⟩
  rw[eul]
  refine⟨_,rfl,by omega,by omega,zR (n:=B1.vs.length) (a:=t) rfl (by omega) λ dv H2 hdv s2 e2=>?_⟩
  have s12:=s1.trans s2
  refine⟨_,rfl,mc,vs',rfl,.inr (s12.tup w2),?_⟩
  rw[evl]
  refine⟨_,rfl,by omega,by omega,zR (n:=B1.sps.length) (a:=t) rfl (by omega) λ ds H3 hds s3 e3=>?_⟩
  have s13:=s12.trans s3
  have nds:dv≠ds:=λ z=>by rw[z] at e2;rw[e2] at hds;cases hds
  refine⟨_,dv,ds,B1,_,_,rfl,Is.mono s13.ts _ _ hy,hb,s3 _ _ e2,e3,nds,wZ hb _ _,λ p H4 b4 ip=>?_⟩
  rw[ET hb] at ip
  have fdv:H dv=none:=s1.free hdv
  have fds:H ds=none:=s12.free hds
  have s4:aH H H4:=λ b o e=>b4 b o (λ z=>by
   rcases List.mem_cons.1 z with z | z
   ·rw[z,fdv] at e;cases e
   ·rw[List.mem_singleton.1 z,fds] at e;cases e) (s13 _ _ e)
  obtain⟨pa,pb,pc,zs,ws,rfl,g,g1,h1,g2,h2⟩:=dS ip
  have ezl:zs.length=B1.vs.length:=by rw[h1.length,List.length_map];show (B1.vs.map _).length=_;rw[List.length_map]
  have ewl:ws.length=B1.sps.length:=by rw[h2.length,List.length_map];show (B1.sps.map _).length=_;rw[List.length_map]
  refine⟨pa,_,rfl,g,rfl,_,_,rfl,_,_,rfl,rfl,?_⟩
  refine⟨_,rfl,_,rfl,nb,pb,_,_,rfl,rfl,s4.tup q1,g1,Nat.le_of_lt (aP (by omega)),λ c1 H5 s5 t5=>?_⟩
  refine⟨_,rfl,_,rfl,nc,pc,_,_,rfl,rfl,(s4.trans s5).tup q2,s5.tup g2,Nat.le_of_lt (aP (by omega)),λ c2 H6 s6 t6=>⟨(show 2<=sizeLine by decide),λ p hp=>?_⟩⟩
  have s7:=aH.new (o:=HO.tup [.ref c1,.ref c2]) hp
  have s47:=(s5.trans s6).trans s7
  have s07:=s4.trans s47
  refine k _ _ s07 (Is.tupOf (ds:=[.tup ((A1.vs++B1.vs.map (kF A1.vs.length A1.sps.length)).map nU),.tup ((A1.sps++B1.sps.map (wY A1.vs.length)).map wK)]) (bO.of aB) (.cons (Is.tupOf ((s6.trans s7).tup t5) ?_) (.cons (Is.tupOf (s7.tup t6) ?_) .nil)))
  ·rw[List.map_append];exact IsL.append (L2.IsL.mono s07.ts _ _ l1) (L2.IsL.mono s47.ts _ _ h1)
  ·rw[List.map_append];exact IsL.append (L2.IsL.mono s07.ts _ _ l2) (L2.IsL.mono s47.ts _ _ h2)
end
end Tw
namespace HT
open PySem PySem.Spec PyProof.Rows L2
section
variable {prog:Program}{w:World}{A:Around}{E:Value->Shared->Prop}{s:Shared}
theorem getItem_tuple_whole {t sl:Addr}{items:Array Value}{vl vu:Value}{lo hi:Option Int}{Q:Value->Shared->Prop} (ht:IsTup s.heap t items) (hs:s.heap.IsSliceOf sl vl vu .none) (pl:IsPart vl lo) (pu:IsPart vu hi)
  (hw:sIx items.size 0 lo=0/\sIx items.size items.size hi=items.size) (h:Q (.ref t) s):wpAny (model prog w) A (getItem (.ref t) (.ref sl)) Q E s:=by
 obtain⟨os,hos,hcs,hds⟩:=id hs
 have hTs:s.TypeIs (.ref sl) "slice" := ⟨os,hos,hcs⟩
 unfold getItem
 try with_reducible refine wpAny_holding ?_
 first | refine wpAny_bind (wpAny_pure ?_) | skip
 refine wpAny_bind (wpAny_sequenceKey ht.typeIs (by decide) ?_)
 refine wpAny_bind (wpAny_callSpecial?_slot (name:=Str.ofString "__getitem__") ht.typeIs PyProof.Rows.slot_tuple_getitem
  (wpAny_call_entry PyProof.Rows.slot_tuple_getitem ht.typeIs entry_tuple_getitem ?_ (args_tuple_getitem _ _)))
 show wpAny _ _ (Builtin.Tuple.tupleItemsOf (.ref t) >>= _) _ _ s
 refine wpAny_bind (tupleItemsOf_ ht ?_)
 refine wpAny_bind (wpAny_typeOf hTs ?_)
 rw[if_pos (by decide)]
 refine wpAny_bind (i8 hs pl pu ?_)
 have hyes:(((sIx items.size 0 lo:Nat):Int) == 0 && (1:Int) == 1 && (sIx items.size items.size hi - sIx items.size 0 lo) == items.size)=true:=by
  rw[hw.1,hw.2];simp
 show wpAny _ _ (if (((sIx items.size 0 lo:Nat):Int) == 0 && (1:Int) == 1 && (sIx items.size items.size hi - sIx items.size 0 lo) == items.size)=true then _ else _) _ _ s
 rw[if_pos hyes]
 refine wpAny_bind ?_
 refine wpAny_bind (m:=Builtin.Tuple.tupleIsExact (.ref t)) ?_
 unfold Builtin.Tuple.tupleIsExact
 refine wpAny_bind (wpAny_typeOf ht.typeIs (wpAny_pure ?_))
 refine wpAny_pure ?_
 rw[if_pos (by decide)]
 refine wpAny_bind (wpAny_rule ?_)
 refine wpAny_pure ?_
 refine⟨_,rfl,wpAny_pure ?_⟩
 exact h
end
end HT
namespace L2
open PySem
section
variable {X:Cx}{K:PySem.W.Frag}
noncomputable def JO (K:PySem.W.Frag):V->Option Int->Option Int->Hp->VK->Prop:=λ x lo hi H Q=>∃ a xs,x=.ref a/\bO K H a xs/\
 ((HT.sIx xs.length 0 lo=0/\HT.sIx xs.length xs.length hi=xs.length)->Q (.ref a) H)/\
 (¬ (HT.sIx xs.length 0 lo=0/\HT.sIx xs.length xs.length hi=xs.length)->∀ p,H p=none->Q (.ref p) (upd H p (.tup (kS xs lo hi))))
theorem EO (hK:X.K=K):KS X (JO K):=by
 subst hK
 intro pins s σ H x v vl vu lo hi sl Q I rx hs pl pu h
 obtain⟨a,xs,rfl,hx,q1,q2⟩:=h
 by_cases hw:HT.sIx xs.length 0 lo=0/\HT.sIx xs.length xs.length hi=xs.length
 ·have q1:=q1 hw
  cases rx
  obtain⟨its,r,ht,hz⟩:=I.tuple hx
  have hlen:its.toArray.size=xs.length:=by rw[List.size_toArray];exact r.length.symm
  refine⟨"tuple",_,PyProof.Rows.slot_tuple_getitem.lookup,ht.typeIs,?_⟩
  exact HT.getItem_tuple_whole ht hs pl pu (by rw[hlen];exact hw) ⟨.ref a,H,I,rfl,q1⟩
 ·exact HF pins s σ H _ v vl vu lo hi sl Q I rx hs pl pu ⟨a,xs,rfl,hx,hw,q2 hw⟩
end
end L2
namespace Tw
open PySem L2
noncomputable def xX (m:Int) (v:Vs):Vs:={ v with acts:=v.acts.filter λ a=>decide (a.2 < m) }
noncomputable def IU (m:Nat) (net:Net):Net:=⟨net.vs.map (xX (m:Int)),net.sps.take m⟩
theorem FY {m:Nat}{net:Net} (h:NetOk net):NetOk (IU m net):=by
 refine { lo:=by show 1<=(net.vs.map _).length;rw[List.length_map];exact h.lo,hi:=by show (net.vs.map _).length<=12;rw[List.length_map];exact h.hi,sp:=by show (net.sps.take m).length<=12;rw[List.length_take];have:=h.sp;omega,vs:=λ v hv=>?_,sps:=λ s hs=>?_ }
 ·obtain⟨x,hx,rfl⟩:=List.mem_map.1 (show v∈net.vs.map (xX (m:Int)) from hv)
  have k:=h.vs x hx
  show VOk (net.vs.map (xX (m:Int))).length (net.sps.take m).length _
  rw[List.length_map,List.length_take]
  refine { size:=k.size,ne:=k.ne,o3:=k.o3,outs:=k.outs,spill:=k.spill,a3:=Nat.le_trans (List.length_filter_le _ _) k.a3,acts:=λ a haa=>?_ }
  obtain⟨ha,hl⟩:=List.mem_filter.1 haa
  have:=k.acts a ha
  have hl:=of_decide_eq_true hl
  exact⟨this.word,this.lo,by have:=this.hi;omega⟩
 ·show 0<=s.1/\s.1 < ((net.vs.map (xX (m:Int))).length:Nat)
  rw[List.length_map]
  exact h.sps s (List.mem_of_mem_take hs)
section
variable {P:Program}{w:World}{K:PySem.W.Frag}{mg:Str->Option Value}{base:Heap}{C:Addr}
noncomputable def tX (K:PySem.W.Frag):Sp:=λ vs H Q _=>∃ (x:V) (net:Net) (m:Nat),vs=[x,.int (m:Int)]/\Is K H (eF net) x/\NetOk net/\∀ p H',aH H H'->Is K H' (eF (IU m net)) p->Q p H'
theorem kZ:FnScope ["net","most","vessels","size","brim","outs","holds","spill","acts"] ["net","most"] (aK (bH 44)):=⟨rfl,rfl,rfl,by decide +kernel,rfl,by decide +kernel,by decide +kernel⟩
theorem rN {f:Addr}{fd:FuncData} (F:Fun K "_law_fewer" "_law_fewer" (bH 44) f fd) (T:Txt mg):FnOk P w K mg base j3 1 f fd ["net","most"] (tX K):=by
 refine F.ok kZ (λ vs H Q E h=>?_) (λ cdv A outer s H vs Q E hr h=>?_)
 ·obtain⟨x,net,m,rfl,_⟩:=h;rfl
 ·obtain⟨x,net,at_,rfl,hx,nok,k⟩:=h
  have sc:=kZ
  refine⟨_,(aD (aS (i:=2) sc.nd rfl (Or.inl rfl) (cK aC))
   (aD (dQ PassesOwn.never rfl (eT (K:=K) rfl (aQ (aJ (K:=K) rfl) (pv 0) aG (λ _ _=>rfl))) (bB (K:=K) (n:=6) rfl rfl (aF (aE (i:=3) sc.nd rfl (Or.inl rfl)) (aF (aE (i:=4) sc.nd rfl (Or.inl rfl)) (aF (aE (i:=5) sc.nd rfl (Or.inl rfl)) (aF (aE (i:=6) sc.nd rfl (Or.inl rfl)) (aF (aE (i:=7) sc.nd rfl (Or.inl rfl)) (aF (aE (i:=8) sc.nd rfl (Or.inl rfl)) bA))))))) (aD (aS (i:=8) sc.nd rfl (Or.inl rfl) (bC (bU (K:=K) rfl) rfl T.b_tuple cB (aA (fJ (λ _ _ h=>h) rfl (LcOk.mk (N':=["act","most"]) (fr:=[none,some 1]) rfl ⟨rfl,trivial⟩ rfl rfl rfl rfl rfl ⟨⟨_,rfl,rfl,rfl,rfl⟩,trivial⟩) (eT (K:=K) rfl (pv 8)) (λ _ _ _=>(aE (i:=0) (show (["act","most"]:List Str).Nodup by decide +kernel) rfl (Or.inl rfl) (Or.inr rfl))) (λ _ _ _=>mP (cH vL (aQ (aJ (K:=K) rfl) (pv 0) aG (λ _ _=>rfl)) (pv 1) (cP _))) (λ _ _ _=>(pv 0))) aC)))
   (aM (dM (gD (K:=K) rfl PySem.F.plainAttrs_list PySem.F.slot_list_append PySem.F.type_list_append cY (pv 2) (aA (bK (aA (pv 3) (aA (pv 4) (aA (pv 5) (aA (pv 6) (aA (pv 7) (aA (pv 8) aC))))))) aC))))))
   (aM (bX (bK (aA (bC (bU (K:=K) rfl) rfl T.b_tuple cB (aA (pv 2) aC)) (aA (fT (EO (K:=K) rfl) (aQ (aJ (K:=K) rfl) (pv 0) aG (λ _ _=>rfl)) gQ (gP (pv 1))) aC))))))),?_⟩
  obtain⟨a,b,c,xs,ys,rfl,q,q1,l1,q2,l2⟩:=dS hx
  have exl:xs.length=net.vs.length:=by rw[l1.length,List.length_map]
  have n2:=nok.hi
  refine⟨Nat.zero_le _,λ vl hvl=>?_⟩
  have s0:aH H (upd H vl (.lst [])):=aH.new hvl
  refine⟨_,rfl,.inr (.inl ⟨a,_,0,_,rfl,rfl,s0.tup q,rfl,b,rfl,⟨_,s0.tup q1⟩,oS (K:=K) (a:=b) (xs:=xs)
   (λ i Z H'=>aH H H'/\(∃ zs,H' vl=some (.lst zs)/\IsL K H' (((net.vs.take i).map (xX (at_:Int))).map nU) zs)/\∃ v3 v4 v5 v6 v7 v8,Z=[some (.ref a),some (.int (at_:Int)),some (.ref vl),v3,v4,v5,v6,v7,v8])
   ⟨s0,⟨[],aB,.nil⟩,_,_,_,_,_,_,rfl⟩ (λ i Z H' _ p=>p.1.tup q1) ?_ ?_⟩)⟩
  ·rintro i x Z H1 hx ⟨sm,⟨zs,hz,lz⟩,v3,v4,v5,v6,v7,v8,rfl⟩
   have hil:=(List.getElem?_eq_some_iff.mp hx).1
   obtain⟨d,hd,ix⟩:=L2.IsL.get' l1 hx
   rw[List.getElem?_map] at hd
   obtain⟨v,hv,rfl⟩:=Option.map_eq_some_iff.mp hd
   have vok:=nok.vs v (List.mem_of_getElem? hv)
   obtain⟨va,o,cc,rfl,qv,ho,hc⟩:=rX ix
   obtain⟨ca,cs,rfl,qc,lc⟩:=hc.un
   have ha3:=vok.a3
   refine⟨va,_,rfl,sm.tup qv,rfl,_,_,rfl,_,_,rfl,_,_,rfl,_,_,rfl,_,_,rfl,_,_,rfl,rfl,?_⟩
   refine⟨_,rfl,ca,rfl,⟨_,sm.tup qc⟩,hV (K:=K) (a:=ca) (xs:=cs)
    (λ D j rr Z H'=>H1 D=none/\aH H1 H'/\H' D=some (.lst rr)/\IsL K H' (((v.acts.take j).filter λ a=>decide (a.2 < (at_:Int))).map nR) rr/\∃ u,Z=[u,some (.int (at_:Int))])
    (λ D j rr Z H' p=>p.2.1.tup (sm.tup qc)) (λ D hD=>⟨hD,aH.new hD,aB,.nil,none,rfl⟩) ?_ ?_⟩
   rotate_left
   ·rintro D j x rr Z H2 hx ⟨hD,sm2,hDl,lr,u,rfl⟩
    obtain⟨ac,hac,aa,rfl,qa⟩:=oU lc hx
    have hjl:=(List.getElem?_eq_some_iff.mp hac).1
    have s02:=sm.trans sm2
    have hrl:rr.length<=3:=by
     rw[lr.length,List.length_map]
     exact Nat.le_trans (List.length_filter_le _ _) (by rw[List.length_take];omega)
    refine⟨_,rfl,.inr (.inl ⟨aa,_,1,_,rfl,rfl,s02.tup qa,rfl,_,rfl,_,_,rfl,rfl,_,rfl,hX (λ e=>?_) λ e=>?_⟩)⟩
    ·have e:=of_decide_eq_true e
     refine⟨_,rfl,hDl,aP (by omega),hD,sm2.put hD,aB,?_,_,rfl⟩
     have muD:iY (H2 D):=by rw[hDl];exact trivial
     have ts:bM K H2 (upd H2 D (.lst (rr++[.ref aa]))):=d8.ts d8.upd muD
     rw[aZ hac,List.filter_append,List.map_append]
     have:[ac].filter (λ a=>decide (a.2 < (at_:Int)))=[ac]:=by simp [e]
     rw[this]
     exact L2.IsL.snoc (Is.tupOf (ds:=[.str ac.1,.int ac.2]) (ts _ _ (s02.tup qa)) (.cons (Is.s _) (.cons (Is.i _) .nil))) (L2.IsL.mono ts _ _ lr)
    ·refine⟨hD,sm2,hDl,?_,_,rfl⟩
     have e:¬ ac.2 < (at_:Int):=λ z=>e (decide_eq_true z)
     rw[aZ hac,List.filter_append,List.map_append]
     have:[ac].filter (λ a=>decide (a.2 < (at_:Int)))=[]:=by simp [e]
     rw[this,List.map_nil,List.append_nil]
     exact lr
   ·rintro D rr Z H2 ⟨hD,sm2,hDl,lr,_⟩
    have ecl:cs.length=v.acts.length:=by rw[lc.length,List.length_map]
    rw[ecl,List.take_length] at lr
    refine⟨D,_,rfl,.inl ⟨bR.of hDl,λ ta hta=>?_⟩⟩
    have s3:=aH.new (o:=HO.tup rr) hta
    have ita:Is K (upd H2 ta (.tup rr)) (.tup ((v.acts.filter λ a=>decide (a.2 < (at_:Int))).map nR)) (.ref ta):=Is.tupOf (bO.of aB) (L2.IsL.mono s3.ts _ _ lr)
    generalize upd H2 ta (.tup rr)=H3 at s3 ita
    have s13:aH H1 H3:=sm2.trans s3
    refine⟨_,rfl,.inl ⟨rfl,_,bR.of (s13 _ _ hz)⟩,_,rfl,_,rfl,_,rfl,_,rfl,_,rfl,_,rfl,(show 6<=sizeLine by decide),λ e he=>?_⟩
    have s4:=aH.new (o:=HO.tup [.int v.size,.int v.brim,o,.bl v.holds,iI v.spill,.ref ta]) he
    have iv:Is K (upd H3 e (.tup [.int v.size,.int v.brim,o,.bl v.holds,iI v.spill,.ref ta])) (nU (xX (at_:Int) v)) (.ref e):=
     Is.tupOf (ds:=[.int v.size,.int v.brim,.tup (v.outs.map outD),.bl v.holds,BF v.spill,.tup ((v.acts.filter λ (a:Str×Int)=>decide (a.2 < (at_:Int))).map nR)]) (bO.of aB)
      (.cons (Is.i _) (.cons (Is.i _) (.cons (Is.mono ((sm.trans s13).trans s4).ts _ _ ho) (.cons (Is.b _) (.cons (Is.tgOf _) (.cons (Is.mono s4.ts _ _ ita) .nil))))))
    generalize upd H3 e (.tup [.int v.size,.int v.brim,o,.bl v.holds,iI v.spill,.ref ta])=H4 at s4 iv
    have s14:=s13.trans s4
    have hz4:=s14 _ _ hz
    have hzl:zs.length<=12:=by rw[lz.length,List.length_map,List.length_map,List.length_take];omega
    refine⟨vl,zs,_,rfl,rfl,hz4,aP (by omega),?_⟩
    have mu4:iY (H4 vl):=by rw[hz4];exact trivial
    have ts5:bM K H4 (upd H4 vl (.lst (zs++[.ref e]))):=d8.ts d8.upd mu4
    refine⟨(sm.trans s14).put hvl,⟨_,aB,?_⟩,_,_,_,_,_,_,rfl⟩
    rw[aZ hv,List.map_append,List.map_append]
    exact L2.IsL.snoc (Is.mono ts5 _ _ iv) (L2.IsL.mono (s14.ts.trans ts5) _ _ lz)
  ·rintro Z H1 ⟨sm,⟨zs,hz,lz⟩,v3,v4,v5,v6,v7,v8,rfl⟩
   rw[exl,List.take_length] at lz
   refine⟨_,rfl,vl,zs,rfl,.inl ⟨bR.of hz,λ tv htv=>?_⟩⟩
   have s2:=aH.new (o:=HO.tup zs) htv
   have t2:bO K (upd H1 tv (.tup zs)) tv zs:=bO.of aB
   generalize upd H1 tv (.tup zs)=H2 at s2 t2
   have s02:=sm.trans s2
   have fin:∀ p1 H3,aH H2 H3->bO K H3 p1 (ys.take at_)->∀ p,H3 p=none->Q (.ref p) (upd H3 p (.tup [.ref tv,.ref p1])):=λ p1 H3 s3 t3 p hp=>by
    have s4:=aH.new (o:=HO.tup [.ref tv,.ref p1]) hp
    have s24:=s3.trans s4
    have s04:=s02.trans s24
    refine k _ _ s04 (Is.tupOf (ds:=[.tup ((net.vs.map (xX (at_:Int))).map nU),.tup ((net.sps.take at_).map wK)]) (bO.of aB) (.cons (Is.tupOf (s24.tup t2) (L2.IsL.mono (s2.trans s24).ts _ _ lz)) (.cons (Is.tupOf (s4.tup t3) ?_) .nil)))
    rw[List.map_take]
    exact L2.IsL.mono s04.ts _ _ (qQ at_ l2)
   refine⟨_,rfl,.inr (.inl ⟨a,_,1,_,rfl,rfl,s02.tup q,rfl,_,rfl,_,rfl,c,ys,rfl,s02.tup q2,λ hw=>?_,λ hw p1 hp1=>?_⟩)⟩
   ·refine⟨(show 2<=sizeLine by decide),λ p hp=>fin c H2 (aH.refl H2) ?_ p hp⟩
    have hw2:=hw.2
    rw[HT.sIx_nat] at hw2
    rw[List.take_of_length_le (by omega)]
    exact s02.tup q2
   ·have hc1:kS ys none (some (at_:Int))=ys.take at_:=by
     unfold kS
     rw[HT.sIx_none,HT.sIx_nat,List.drop_zero,Nat.sub_zero]
     by_cases hh:at_<=ys.length
     ·rw[Nat.min_eq_left hh]
     ·rw[Nat.min_eq_right (by omega),List.take_length,List.take_of_length_le (by omega)]
    rw[hc1]
    exact⟨(show 2<=sizeLine by decide),λ p hp=>fin p1 _ (aH.new hp1) (bO.of aB) p hp⟩
end
end Tw
namespace L2
open PySem PySem.Spec PyProof.Rows TwZ
mutual
noncomputable def fP (h:Heap):D->Value->Prop
 | .int i,v=>∃ t,v=.int i t
 | .bl b,v=>v=.bool b
 | .tup ds,v=>∃ a o items n,v=.ref a/\h.get? a=some o/\o.cls=.type "tuple" /\ o.data=.seq items n/\eA h ds items.toList
 | .non,_=>False
 | .str _,_=>False
noncomputable def eA (h:Heap):List D->List Value->Prop
 | [],vs=>vs=[]
 | d::ds,vs=>∃ v r,vs=v::r/\fP h d v/\eA h ds r
end
mutual
noncomputable def sh:D->D
 | .int _=>.int 0
 | .bl _=>.bl false
 | .tup ds=>.tup (m9 ds)
 | d=>d
noncomputable def m9:List D->List D
 | []=>[]
 | d::ds=>sh d::m9 ds
end
mutual
noncomputable def qR:D->Int
 | .int i=>hashInt i
 | .bl b=>hashInt (if b=true then 1 else 0)
 | .tup ds=>reduceHash (Builtin.Tuple.tupleHashOf (eO ds))
 | _=>0
noncomputable def eO:List D->List Int
 | []=>[]
 | d::ds=>qR d::eO ds
end
mutual
noncomputable def lV:D->Nat
 | .tup ds=>eG ds+1
 | _=>1
noncomputable def eG:List D->Nat
 | []=>0
 | d::ds=>lV d+eG ds
end
mutual
theorem fP.inj {h:Heap}:∀ {x y:D}{v:Value},sh x=sh y->fP h x v->fP h y v->x=y
 | .int i,.int j,v,_,hx,hy=>by
  rw[fP] at hx hy
  obtain⟨t,rfl⟩:=hx
  obtain⟨t',e⟩:=hy
  injection e with e _
  rw[e]
 | .bl i,.bl j,v,_,hx,hy=>by
  rw[fP] at hx hy
  subst hx
  injection hy with e
  rw[e]
 | .tup ds,.tup es,v,hs,hx,hy=>by
  rw[fP] at hx hy
  obtain⟨a,o,items,n,rfl,h1,h2,h3,l1⟩:=hx
  obtain⟨a',o',items',n',e,h1',h2',h3',l2⟩:=hy
  cases e
  rw[h1] at h1'
  cases h1'
  rw[h3] at h3'
  cases h3'
  rw[sh,sh] at hs
  injection hs with hs
  rw[eA.inj hs l1 l2]
 | .non,_,_,_,hx,_=>by rw[fP] at hx;exact hx.elim
 | .str _,_,_,_,hx,_=>by rw[fP] at hx;exact hx.elim
 | .int _,.bl _,_,hs,_,_=>by rw[sh,sh] at hs;cases hs
 | .int _,.tup _,_,hs,_,_=>by rw[sh,sh] at hs;cases hs
 | .int _,.non,_,_,_,hy=>by rw[fP] at hy;exact hy.elim
 | .int _,.str _,_,_,_,hy=>by rw[fP] at hy;exact hy.elim
 | .bl _,.int _,_,hs,_,_=>by rw[sh,sh] at hs;cases hs
 | .bl _,.tup _,_,hs,_,_=>by rw[sh,sh] at hs;cases hs
 | .bl _,.non,_,_,_,hy=>by rw[fP] at hy;exact hy.elim
 | .bl _,.str _,_,_,_,hy=>by rw[fP] at hy;exact hy.elim
 | .tup _,.int _,_,hs,_,_=>by rw[sh,sh] at hs;cases hs
 | .tup _,.bl _,_,hs,_,_=>by rw[sh,sh] at hs;cases hs
 | .tup _,.non,_,_,_,hy=>by rw[fP] at hy;exact hy.elim
 | .tup _,.str _,_,_,_,hy=>by rw[fP] at hy;exact hy.elim
theorem eA.inj {h:Heap}:∀ {x y:List D}{vs:List Value},m9 x=m9 y->eA h x vs->eA h y vs->x=y
 | [],[],_,_,_,_=>rfl
 | [],_::_,_,hs,_,_=>by rw[m9,m9] at hs;cases hs
 | _::_,[],_,hs,_,_=>by rw[m9,m9] at hs;cases hs
 | x::xs,y::ys,vs,hs,hx,hy=>by
  rw[eA] at hx hy
  obtain⟨v,r,rfl,h1,l1⟩:=hx
  obtain⟨v',r',e,h2,l2⟩:=hy
  cases e
  rw[m9,m9] at hs
  injection hs with e1 e2
  rw[fP.inj e1 h1 h2,eA.inj e2 l1 l2]
end
mutual
theorem fP.keeps {h h':Heap} (k:∀ a o items n,h.get? a=some o->o.data=.seq items n->h'.get? a=some o):∀ {x:D}{v:Value},fP h x v->fP h' x v
 | .int i,v,hx=>by rw[fP] at hx ⊢;exact hx
 | .bl i,v,hx=>by rw[fP] at hx ⊢;exact hx
 | .tup ds,v,hx=>by
  rw[fP] at hx ⊢
  obtain⟨a,o,items,n,e,h1,h2,h3,l1⟩:=hx
  exact⟨a,o,items,n,e,k a o items n h1 h3,h2,h3,eA.keeps k l1⟩
 | .non,_,hx=>by rw[fP] at hx;exact hx.elim
 | .str _,_,hx=>by rw[fP] at hx;exact hx.elim
theorem eA.keeps {h h':Heap} (k:∀ a o items n,h.get? a=some o->o.data=.seq items n->h'.get? a=some o):∀ {x:List D}{vs:List Value},eA h x vs->eA h' x vs
 | [],_,hx=>by rw[eA] at hx ⊢;exact hx
 | x::xs,vs,hx=>by
  rw[eA] at hx ⊢
  obtain⟨v,r,e,h1,l1⟩:=hx
  exact⟨v,r,e,fP.keeps k h1,eA.keeps k l1⟩
end
theorem eA.length {h:Heap}:∀ {x:List D}{vs:List Value},eA h x vs->vs.length=x.length
 | [],_,hx=>by rw[eA] at hx;subst hx;rfl
 | x::xs,vs,hx=>by
  rw[eA] at hx
  obtain⟨v,r,rfl,_,l⟩:=hx
  rw[List.length_cons,List.length_cons,eA.length l]
theorem eA.get {h:Heap}:∀ {x:List D}{vs:List Value}{j:Nat}{d:D}{v:Value},eA h x vs->x[j]? = some d->vs[j]? = some v->fP h d v
 | [],_,_,_,_,_,e,_=>by simp at e
 | d::ds,vs,0,d',v,hx,e1,e2=>by
  rw[eA] at hx
  obtain⟨v',r,rfl,h1,_⟩:=hx
  simp at e1 e2
  subst e1 e2
  exact h1
 | d::ds,vs,j+1,d',v,hx,e1,e2=>by
  rw[eA] at hx
  obtain⟨v',r,rfl,_,l⟩:=hx
  exact eA.get l (by simpa using e1) (by simpa using e2)
section
variable {prog:Program}{w:World}
theorem mD {A:Around}{E:Value->Shared->Prop}{s:Shared}{b:Bool}{Q:Int->Shared->Prop} (h:Q (hashInt (if b=true then 1 else 0)) { s with toks:=s.toks+1 }):wpAny (model prog w) A (pyHash (.bool b)) Q E s:=by
 have hT:s.TypeIs (.bool b) "bool" := rfl
 have hr:=rawHash_range (if b=true then 1 else 0)
 unfold pyHash;have hv:[Value.bool b].any Value.onHeap=false:=rfl
 refine wpAny_bind ?_;rw[cRoomFor,if_neg (by rw[hv];exact Bool.false_ne_true)];refine wpAny_pure (wpAny_bind (wpAny_specialOf hT F.slot_bool_hash.lookup ?_))
 show wpAny _ _ (if (some (Value.builtin "int.__hash__") == some Value.none)=true then _ else _) Q E s;rw[if_neg (by rw[beq_builtin_none];exact Bool.false_ne_true)]
 refine wpAny_bind (wpAny_specialOf hT F.slot_bool_hash.lookup ?_);show wpAny _ _ (callSpecialIfBoundUnlessNone? (.bool b) "__hash__" _ >>= _) Q E s
 refine wpAny_bind (wpAny_callSpecialIfBoundUnlessNone?_slot hT F.slot_bool_hash (wpAny_call_entry F.slot_bool_hash hT F.entry_int_hash (show wpAny _ _ (do ret (<- mkInt (rawHash (if b=true then 1 else 0)))) _ _ s from wpAny_ret_mkInt ?_) (F.args_int_hash_1 _)))
 show wpAny _ _ (if (decide (-(2:Int) ^ 63<=rawHash (if b=true then 1 else 0)) && decide (rawHash (if b=true then 1 else 0) < 2 ^ 63))=true then _ else _) Q E _;rw[if_pos (by rw[decide_eq_true hr.1,decide_eq_true hr.2];rfl)]
 exact wpAny_pure h
theorem lF:∀ (a b:List D),eO (a++b)=eO a++eO b
 | [],b=>by rw[eO];rfl
 | d::a,b=>by rw[List.cons_append,eO,eO,lF a b];rfl
theorem jZ:∀ (a b:List D),eG (a++b)=eG a+eG b
 | [],b=>by rw[eG,List.nil_append,Nat.zero_add]
 | d::a,b=>by rw[List.cons_append,eG,eG,jZ a b,Nat.add_assoc]
theorem nN:∀ (ds:List D) (d:D),d∈ds->d.depth<=eX ds:=by
 intro ds
 induction ds with
 | nil=>intro d h;cases h
 | cons e r ih=>
  intro d h
  rw[eX]
  rcases List.mem_cons.1 h with rfl | h
  ·omega
  ·have:=ih d h;omega
noncomputable def EC (prog:Program) (w:World) (d:D):Prop:=∀ (A:Around) (E:Value->Shared->Prop) (s:Shared) (v:Value) (Q:Int->Shared->Prop),A.units+d.depth < cLine->fP s.heap d v->Q (qR d) { s with toks:=s.toks+lV d }->wpAny (model prog w) A (pyHash v) Q E s
mutual
theorem DJ:∀ (d:D),EC prog w d
 | .int i=>λ A E s v Q _ hx h=>by
  rw[fP] at hx
  obtain⟨t,rfl⟩:=hx
  rw[qR,lV] at h
  ·exact wpAny_pyHash_int h
  ·intros;contradiction
 | .bl b=>λ A E s v Q _ hx h=>by
  rw[fP] at hx
  subst hx
  rw[qR,lV] at h
  ·exact mD h
  ·intros;contradiction
 | .tup ds=>λ A E s v Q hu hx h=>by
  have all:=zE ds
  rw[fP] at hx
  obtain⟨a,o,items,n,rfl,ho,hc,hd,hi⟩:=hx
  have hT:s.TypeIs (.ref a) "tuple" := ⟨o,ho,hc⟩
  have hdep:D.depth (.tup ds)=eX ds+1:=by rw[D.depth]
  rw[hdep] at hu
  rw[qR,lV] at h
  unfold pyHash
  first | unfold pyHashByItsType | skip
  first | refine wpAny_bind (wpAny_cRoomFor_or (.inr (by omega)) ?_) | skip
  refine wpAny_bind (wpAny_specialOf hT F.slot_tuple_hash.lookup ?_);show wpAny _ _ (if (some (Value.builtin "tuple.__hash__") == some Value.none)=true then _ else _) Q E s
  rw[if_neg (by rw[beq_builtin_none];exact Bool.false_ne_true)];refine wpAny_bind (wpAny_specialOf hT F.slot_tuple_hash.lookup ?_)
  show wpAny _ _ (callSpecialIfBoundUnlessNone? (.ref a) "__hash__" _ >>= _) Q E s;refine wpAny_bind (wpAny_callSpecialIfBoundUnlessNone?_slot hT F.slot_tuple_hash (wpAny_call_entry F.slot_tuple_hash hT F.entry_tuple_hash ?_ (F.args_tuple_hash_1 _)))
  show wpAny _ _ (Builtin.Tuple.tupleItemsOf (.ref a) >>= _) _ _ s;refine wpAny_bind (wpAny_tupleItemsOf ho hd (wpAny_bind ?_))
  rw[<- Array.forIn_toList]
  refine wpAny_forIn_list _ (λ rest (b:Array Int) s'=>∃ done left,ds=done++left/\eA s.heap left rest/\b.toList=eO done/\s'={ s with toks:=s.toks+eG done }) _ ?_ ?_ _ _ ⟨[],ds,rfl,hi,by rw[eO],by rw[eG];rfl⟩
  ·rintro x rest b s' ⟨done,left,rfl,hl,hb,rfl⟩
   cases left with
   | nil=>rw[eA] at hl;cases hl
   | cons k ks'=>
    rw[eA] at hl
    obtain⟨v',r',e,h1,l1⟩:=hl
    cases e
    have hk:=all k (by simp)
    have hdk:=nN (done++k::ks') k (by simp)
    have fin:∃ done' left',done++k::ks'=done'++left'/\eA s.heap left' rest/\(b.push (qR k)).toList=eO done'/\({ s with toks:=s.toks+eG done+lV k }:Shared)={ s with toks:=s.toks+eG done' }:=
     ⟨done++[k],ks',by simp,l1,by rw[Array.toList_push,hb,lF,eO,eO],by rw[jZ,eG,eG,Nat.add_zero,Nat.add_assoc]⟩
    refine wpAny_bind (hk _ _ _ _ _ ?_ h1 ?_)
    ·have hin:A.in1.units=A.units+1:=rfl
     omega
    ·first
      | exact wpAny_pure fin
      | exact wpAny_bind (wpAny_pure (wpAny_pure fin))
  ·rintro b s' ⟨done,left,rfl,hl,hb,rfl⟩
   cases left with
   | cons k ks'=>rw[eA] at hl;obtain⟨_,_,e,_⟩:=hl;cases e
   | nil=>
    rw[List.append_nil] at h
    show wpAny _ _ (retInt (Builtin.Tuple.tupleHashOf b.toList)) _ _ _;rw[hb];refine wpAny_ret_mkInt ?_
    show wpAny _ _ (if (decide (-(2:Int) ^ 63<=Builtin.Tuple.tupleHashOf (eO done)) && decide (Builtin.Tuple.tupleHashOf (eO done) < 2 ^ 63))=true then _ else _) Q E _
    unfold reduceHash at h
    by_cases hr:(decide (-(2:Int) ^ 63<=Builtin.Tuple.tupleHashOf (eO done)) && decide (Builtin.Tuple.tupleHashOf (eO done) < 2 ^ 63))=true
    ·rw[if_pos hr] at h ⊢;exact wpAny_pure (by simpa [Nat.add_assoc] using h)
    ·rw[if_neg hr] at h ⊢;exact wpAny_bind (wpAny_rule (wpAny_pure (by simpa [Nat.add_assoc] using h)))
 | .non=>λ _ _ _ _ _ _ hx _=>by rw[fP] at hx;exact hx.elim
 | .str _=>λ _ _ _ _ _ _ hx _=>by rw[fP] at hx;exact hx.elim
theorem zE:∀ (ds:List D),∀ d∈ds,EC prog w d
 | [],_,h=>(nomatch h)
 | e::es,d,h=>by
  have h0:=DJ e
  have h1:=zE es
  rcases List.mem_cons.1 h with z | z
  ·rw[z];exact h0
  ·exact h1 d z
end
end
noncomputable instance decD:DecidableEq D:=λ a b=>Classical.propDecidable (a=b)
mutual
theorem DY:∀ (d:D),(sh d).depth=d.depth
 | .int _=>by rw[sh,D.depth,D.depth] <;> (intros;contradiction)
 | .bl _=>by rw[sh,D.depth,D.depth] <;> (intros;contradiction)
 | .tup ds=>by rw[sh,D.depth,D.depth,tE ds]
 | .non=>by rw[sh] <;> (intros;contradiction)
 | .str _=>by rw[sh] <;> (intros;contradiction)
theorem tE:∀ (ds:List D),eX (m9 ds)=eX ds
 | []=>by rw[m9]
 | d::ds=>by rw[m9,eX,eX,DY d,tE ds]
end
theorem u6:∀ (ds:List D),(m9 ds).length=ds.length
 | []=>by rw[m9]
 | d::ds=>by rw[m9,List.length_cons,List.length_cons,u6 ds]
noncomputable def KZ (x y:D):Prop:=∀ (A:Around) (s:Shared) (u v:Value),A.units+x.depth < cLine->fP s.heap x u->fP s.heap y v->SeqAt.EqAt A s u v (decide (x=y))
mutual
theorem KO:∀ (x y:D),sh x=sh y->KZ x y
 | .int i,.int j,_=>λ A s u v _ hx hy=>by
  rw[fP] at hx hy
  obtain⟨t,rfl⟩:=hx
  obtain⟨t',rfl⟩:=hy
  have:=SeqAt.EqAt.int_int (A:=A) (s:=s) i t j t'
  have e:decide (D.int i=D.int j)=(i == j):=by
   rw[Bool.eq_iff_iff,decide_eq_true_eq,beq_iff_eq,D.int.injEq]
  rw[e];exact this
 | .bl i,.bl j,_=>λ A s u v _ hx hy=>by
  rw[fP] at hx hy
  subst hx hy
  have:=SeqAt.EqAt.bool_bool (A:=A) (s:=s) i j
  have e:decide (D.bl i=D.bl j)=(i == j):=by
   rw[Bool.eq_iff_iff,decide_eq_true_eq,beq_iff_eq,D.bl.injEq]
  rw[e];exact this
 | .tup ds,.tup es,hs=>λ A s u v hu hx hy=>by
  rw[sh,sh] at hs
  injection hs with hs
  have all:=GS ds es hs
  have hl:ds.length=es.length:=by rw[<- u6 ds,hs,u6]
  have hinj:=λ (a:Value) (h1:fP s.heap (.tup ds) a) (h2:fP s.heap (.tup es) a)=>fP.inj (by rw[sh,sh,hs]) h1 h2
  have hx0:=hx
  have hy0:=hy
  rw[fP] at hx hy
  obtain⟨a,o,items,n,rfl,h1,h2,h3,l1⟩:=hx
  obtain⟨b,o',items',n',rfl,h1',h2',h3',l2⟩:=hy
  by_cases hab:a=b
  ·subst hab
   rw[decide_eq_true (hinj _ hx0 hy0)]
   exact SeqAt.EqAt.same _
  ·have hdep:D.depth (.tup ds)=eX ds+1:=by rw[D.depth]
   rw[hdep] at hu
   have hin:A.in1.units=A.units+1:=rfl
   have k1:=l1.length
   have k2:=l2.length
   have z1:items.size=ds.length:=by rw[<- k1];simp
   have z2:items'.size=es.length:=by rw[<- k2];simp
   have:=SeqAt.RcAt.tuples (A:=A) (s:=s) (e:=λ j=>match ds[j]?,es[j]? with | some x,some y=>decide (x=y) | _,_=>true) (show s.heap.IsTuple a items from ⟨o,h1,h2,n,h3⟩) (show s.heap.IsTuple b items' from ⟨o',h1',h2',n',h3'⟩) (by omega) λ j j1 j2=>by
    have i1:j < ds.length:=by omega
    have i2:j < es.length:=by omega
    rw[List.getElem?_eq_getElem i1,List.getElem?_eq_getElem i2]
    have hd:=nN ds ds[j] (List.getElem_mem i1)
    exact all j ds[j] es[j] (by simp) (by simp) A.in1 s items[j] items'[j] (by omega) (eA.get (j:=j) l1 (by simp) (by simp)) (eA.get (j:=j) l2 (by simp) (by simp))
   have e5:((List.range (min items.size items'.size)).all (λ j=>match ds[j]?,es[j]? with | some x,some y=>decide (x=y) | _,_=>true) && items.size == items'.size)=decide (D.tup ds=D.tup es):=by
    have e0:(items.size == items'.size)=true:=by rw[beq_iff_eq];omega
    rw[e0,Bool.and_true,Bool.eq_iff_iff,decide_eq_true_eq,List.all_eq_true,D.tup.injEq]
    constructor
    ·intro h
     apply List.ext_getElem hl
     intro j j1 j2
     have:=h j (List.mem_range.mpr (by omega))
     rw[List.getElem?_eq_getElem j1,List.getElem?_eq_getElem j2] at this
     exact of_decide_eq_true this
    ·rintro rfl j hj
     cases ds[j]? with
     | none=>rfl
     | some x=>exact decide_eq_true rfl
   rw[e5] at this
   exact SeqAt.EqAt.of_refs hab this
 | .non,_,_=>λ _ _ _ _ _ hx _=>by rw[fP] at hx;exact hx.elim
 | .str _,_,_=>λ _ _ _ _ _ hx _=>by rw[fP] at hx;exact hx.elim
 | .int _,.bl _,hs=>by rw[sh,sh] at hs;cases hs
 | .int _,.tup _,hs=>by rw[sh,sh] at hs;cases hs
 | .int _,.non,_=>λ _ _ _ _ _ _ hy=>by rw[fP] at hy;exact hy.elim
 | .int _,.str _,_=>λ _ _ _ _ _ _ hy=>by rw[fP] at hy;exact hy.elim
 | .bl _,.int _,hs=>by rw[sh,sh] at hs;cases hs
 | .bl _,.tup _,hs=>by rw[sh,sh] at hs;cases hs
 | .bl _,.non,_=>λ _ _ _ _ _ _ hy=>by rw[fP] at hy;exact hy.elim
 | .bl _,.str _,_=>λ _ _ _ _ _ _ hy=>by rw[fP] at hy;exact hy.elim
 | .tup _,.int _,hs=>by rw[sh,sh] at hs;cases hs
 | .tup _,.bl _,hs=>by rw[sh,sh] at hs;cases hs
 | .tup _,.non,_=>λ _ _ _ _ _ _ hy=>by rw[fP] at hy;exact hy.elim
 | .tup _,.str _,_=>λ _ _ _ _ _ _ hy=>by rw[fP] at hy;exact hy.elim
theorem GS:∀ (ds es:List D),m9 ds=m9 es->∀ (j:Nat) (x y:D),ds[j]? = some x->es[j]? = some y->KZ x y
 | [],_,_,j,x,y,h,_=>by simp at h
 | _::_,[],_,j,x,y,_,h=>by simp at h
 | d::ds,e::es,hs,j,x,y,h1,h2=>by
  rw[m9,m9] at hs
  injection hs with s1 s2
  have k0:=KO d e s1
  have k1:=GS ds es s2
  cases j with
  | zero=>simp at h1 h2;rw[<- h1,<- h2];exact k0
  | succ j=>exact k1 j x y (by simpa using h1) (by simpa using h2)
end
noncomputable def zV (prog:Program) (w:World) (d:D):Prop:=∀ (n:Nat) (A:Around) (E:Value->Shared->Prop) (s:Shared) (v:Value) (Q:Bool->Shared->Prop),d.depth<=n->fP s.heap d v->Q true s->wpAny (model prog w) A (eqIsQuiet n v) Q E s
section
variable {prog:Program}{w:World}
mutual
theorem yL:∀ (d:D),zV prog w d
 | .int i=>λ n A E s v Q _ hx h=>by
  rw[fP] at hx
  obtain⟨t,rfl⟩:=hx
  rw[eqIsQuiet_byValue n (v:=.int i t) rfl]
  exact wpAny_pure h
 | .bl b=>λ n A E s v Q _ hx h=>by
  rw[fP] at hx
  subst hx
  rw[eqIsQuiet_byValue n (v:=.bool b) rfl]
  exact wpAny_pure h
 | .tup ds=>λ n A E s v Q hn hx h=>by
  have all:=vH ds
  have hdep:D.depth (.tup ds)=eX ds+1:=by rw[D.depth]
  rw[hdep] at hn
  rw[fP] at hx
  obtain⟨a,o,items,m,rfl,ho,hc,hd,hi⟩:=hx
  have hT:s.TypeIs (.ref a) "tuple" := ⟨o,ho,hc⟩
  obtain⟨n',rfl⟩:∃ n',n=n'+1:=⟨n - 1,by omega⟩
  unfold eqIsQuiet
  refine wpAny_bind (wpAny_specialOf hT F.slot_tuple_eq.lookup ?_);show wpAny _ _ (isInstance (.ref a) (.type "tuple") >>= _) _ _ s
  refine wpAny_bind (wpAny_isInstance hT isSubtype_tuple_tuple ?_);simp only [Bool.not_true,Bool.false_eq_true,if_false]
  refine wpAny_bind (wpAny_seqItems ho hd (wpAny_bind ?_));show wpAny _ _ (forIn items _ _) _ _ s
  rw[<- Array.forIn_toList]
  refine wpAny_forIn_list _ (λ rest r s'=>r.1=none/\s'=s/\∃ left,eA s.heap left rest/\∀ d∈left,d∈ds) _ ?_ ?_ _ _ ⟨rfl,rfl,ds,hi,λ _ z=>z⟩
  ·rintro v rest r s' ⟨hr,rfl,left,hl,hsub⟩
   cases left with
   | nil=>rw[eA] at hl;cases hl
   | cons k ks=>
    rw[eA] at hl
    obtain⟨v',r',e,h1,l1⟩:=hl
    cases e
    have hk:=hsub k (by simp)
    refine wpAny_bind (all k hk n' _ _ _ _ _ (by have:=nN ds k hk;omega) h1 ?_)
    simp only [Bool.not_true,Bool.false_eq_true,if_false]
    exact wpAny_pure ⟨rfl,rfl,ks,l1,λ d hd=>hsub d (List.mem_cons_of_mem _ hd)⟩
  ·rintro⟨r1,r2⟩ s' ⟨hr,rfl,_⟩
   simp only at hr
   subst hr
   exact wpAny_pure h
 | .non=>λ _ _ _ _ _ _ _ hx _=>by rw[fP] at hx;exact hx.elim
 | .str _=>λ _ _ _ _ _ _ _ hx _=>by rw[fP] at hx;exact hx.elim
theorem vH:∀ (ds:List D),∀ d∈ds,zV prog w d
 | [],_,h=>(nomatch h)
 | e::es,d,h=>by
  have h0:=yL e
  have h1:=vH es
  rcases List.mem_cons.1 h with z | z
  ·rw[z];exact h0
  ·exact h1 d z
end
noncomputable def g9 (prog:Program) (w:World) (S:D):HeapKind prog w D where
 is:=λ h d a=>sh d=S/\d.depth<=7/\fP h d (.ref a)
 hash:=qR
 draws:=lV
 room:=λ A=>A.units+8 < cLine
 inj:=λ hx hy=>fP.inj (hx.1.trans hy.1.symm) hx.2.2 hy.2.2
 keeps:=λ {h h' k a d o es ep} x ho hd hs=>⟨x.1,x.2.1,fP.keeps (λ a' o' items n h1 h3=>by
  by_cases e:a'=d
  ·subst e
   rw[ho] at h1
   cases h1
   rw[hd] at h3
   cases h3
  ·exact (hs.2 a' e).trans h1) x.2.2⟩
 pyHash:=λ {A E s k a Q} hu hk h=>DJ k A E s _ Q (by have:=hk.2.1;omega) hk.2.2 h
 eqBool:=λ {A E s x y a b Q} hu hx hy h=>KO x y (hx.1.trans hy.1.symm) A s _ _ (by have:=hx.2.1;omega) hx.2.2 hy.2.2 prog w E Q h
 quiet:=λ {A E s k a Q} hk h=>yL k 8 A E s _ Q (by have:=hk.2.1;omega) hk.2.2 h
end
end L2
namespace L2
open PySem PySem.Spec PyProof.Rows TwZ
mutual
noncomputable def fY:D->Prop
 | .int _=>True
 | .bl _=>True
 | .tup ds=>eI ds
 | .non=>False
 | .str _=>False
noncomputable def eI:List D->Prop
 | []=>True
 | d::ds=>fY d/\eI ds
end
section
variable {X:Cx}{pins:List (Addr×Obj)}{σ:St}{H:Hp}{s:Shared}
mutual
theorem Is.toU (I:Inv X pins σ H s):∀ (d:D) (v:V) (u:Value),fY d->Is X.K H d v->bL v u->fP s.heap d u
 | .int i,v,u,_,h,r=>by rw[Is] at h;subst h;rw[fP];exact r
 | .bl b,v,u,_,h,r=>by rw[Is] at h;subst h;rw[fP];exact r
 | .tup ds,v,u,p,h,r=>by
  rw[Is] at h
  obtain⟨a,xs,rfl,q,l⟩:=h
  cases r
  obtain⟨its,rv,⟨o,e,c,n,d⟩,_⟩:=I.tuple q
  rw[fP]
  exact⟨a,o,its.toArray,n,rfl,e,c,d,by simpa using IsL.toU I ds xs its (by rw[fY] at p;exact p) l rv⟩
 | .non,_,_,p,_,_=>by rw[fY] at p;exact p.elim
 | .str _,_,_,p,_,_=>by rw[fY] at p;exact p.elim
theorem IsL.toU (I:Inv X pins σ H s):∀ (ds:List D) (vs:List V) (us:List Value),eI ds->IsL X.K H ds vs->bY vs us->eA s.heap ds us
 | [],vs,us,_,h,r=>by rw[IsL] at h;subst h;cases r;rw[eA]
 | d::ds,vs,us,p,h,r=>by
  rw[IsL] at h
  obtain⟨x,xs,rfl,h1,h2⟩:=h
  rw[eI] at p
  cases r with
  | cons r1 r2=>
   rw[eA]
   exact⟨_,_,rfl,Is.toU I d x _ p.1 h1 r1,IsL.toU I ds xs _ p.2 h2 r2⟩
end
end
structure KeyD (K:PySem.W.Frag) (H:Hp) (S:D) (k:D) (v:V):Prop where
 sh:sh k=S
 dp:k.depth<=7
 pl:fY k
 is:Is K H k v
 tup:∃ b,v=.ref b
theorem KeyD.mono {K:PySem.W.Frag}{H H':Hp}{S k:D}{v:V} (h:KeyD K H S k v) (t:bM K H H'):KeyD K H' S k v:=⟨h.sh,h.dp,h.pl,Is.mono t _ _ h.is,h.tup⟩
noncomputable def zN (P:Program) (w:World) (S:D) (a:Addr) (xs:List (D×Addr×Value)) (h:Heap):Prop:=
 ∃ o es ep,h.get? a=some o/\o.ExactDict/\o.data=.dict es ep/\es.toList=xs.map (entryOfKey (g9 P w S))/\(xs.map (·.1)).Nodup
noncomputable abbrev KD (K:PySem.W.Frag) (H:Hp) (S:D):List (D×V)->List (D×Addr×Value)->Prop:=Paired λ p q=>p.1=q.1/\KeyD K H S p.1 (.ref q.2.1)/\bL p.2 q.2.2
noncomputable def fL (P:Program) (w:World) (K:PySem.W.Frag) (H:Hp) (a:Addr) (S:D) (kvs:List (D×V)):Prop:=
 (H a=some (.dK [])/\kvs=[])\/∃ xs,H a=some (.ext (zN P w S a xs))/\(a == sysModules)=false/\kvs.length<=sizeLine/\KD K H S kvs xs
section
variable {P:Program}{w:World}{K:PySem.W.Frag}{H H':Hp}{a:Addr}{S:D}{kvs:List (D×V)}
theorem KD.mono {xs:List (D×Addr×Value)} (h:KD K H S kvs xs) (t:bM K H H'):KD K H' S kvs xs:=Paired.mapP h λ p q z=>⟨z.1,z.2.1.mono t,z.2.2⟩
theorem fL.mono (h:fL P w K H a S kvs) (t:bM K H H') (e:∀ o,H a=some o->H' a=some o):fL P w K H' a S kvs:=by
 rcases h with ⟨h,z⟩ | ⟨xs,h,y,z,p⟩
 ·exact .inl ⟨e _ h,z⟩
 ·exact .inr ⟨xs,e _ h,y,z,KD.mono p t⟩
theorem fL.same (h:fL P w K H a S kvs) (m:aH H H'):fL P w K H' a S kvs:=h.mono m.ts λ o e=>m _ _ e
theorem fL.mut (h:fL P w K H a S kvs):iY (H a):=by
 rcases h with ⟨h,_⟩ | ⟨_,h,_⟩ <;> (rw[h];exact trivial)
theorem fL.new (h:H a=Option.some (.dK [])):fL P w K H a S []:=.inl ⟨h,rfl⟩
theorem KD.val {xs:List (D×Addr×Value)} (k:D):∀ {kvs:List (D×V)},KD K H S kvs xs->lX (dH kvs k) ((atKey xs k).map (·.2))
 | [],h=>by cases h;exact trivial
 | p::r,h=>by
  cases h with
  | cons h1 h2=>
   rename_i q m
   by_cases e:p.1=k
   ·rw[dO e]
    have:atKey (q::m) k=Option.some q.2:=by unfold atKey;rw[List.find?_cons_of_pos (by rw[<- h1.1];exact decide_eq_true e)];rfl
    rw[this];exact h1.2.2
   ·rw[dC e]
    have:atKey (q::m) k=atKey m k:=by unfold atKey;rw[List.find?_cons_of_neg (by rw[<- h1.1];simpa using e)]
    rw[this];exact KD.val k h2
theorem KD.put {xs:List (D×Addr×Value)}{k:D}{v:V}{b:Addr}{u:Value} (h:KD K H S kvs xs) (hk:KeyD K H S k (.ref b)) (r:bL v u):KD K H S (fN kvs k v) (storedH xs k b u):=by
 unfold fN storedH
 have e:(kvs.any λ kv=>decide (kv.1=k))=(atKey xs k).isSome:=by
  rw[i4,(KD.val k h).isSome_eq,Option.isSome_map]
 rw[e]
 by_cases c:(atKey xs k).isSome=true
 ·rw[if_pos c,if_pos c]
  clear e c
  induction h with
  | nil=>exact .nil
  | cons h1 h2 ih=>
   rename_i p q l m
   refine .cons ?_ ih
   unfold putAt
   dsimp only
   by_cases z:p.1=k
   ·rw[if_pos z,if_pos (by rw[<- h1.1];exact z)];exact⟨h1.1,h1.2.1,r⟩
   ·rw[if_neg z,if_neg (by rw[<- h1.1];exact z)];exact h1
 ·rw[if_neg c,if_neg c]
  clear e c
  induction h with
  | nil=>exact .cons ⟨rfl,hk,r⟩ .nil
  | cons h1 h2 ih=>exact .cons h1 ih
end
section
variable {X:Cx}{pins:List (Addr×Obj)}{σ:St}{H:Hp}{s:Shared}{a:Addr}{S:D}{kvs:List (D×V)}
theorem KD.keys (I:Inv X pins σ H s):∀ {kvs:List (D×V)}{xs:List (D×Addr×Value)},KD X.K H S kvs xs->∀ x∈xs,(g9 X.prog X.w S).is s.heap x.1 x.2.1
 | _,_,.nil,x,hx=>by simp at hx
 | _,_,.cons h1 h2,x,hx=>by
  rcases List.mem_cons.mp hx with e | hx
  ·subst e
   have k:=h1.2.1
   rw[h1.1] at k
   exact⟨k.sh,k.dp,Is.toU I _ _ _ k.pl k.is rfl⟩
  ·exact KD.keys I h2 x hx
theorem fL.at (I:Inv X pins σ H s) (g:fL X.prog X.w X.K H a S kvs):(a == sysModules)=false/\kvs.length<=sizeLine/\∃ xs,KD X.K H S kvs xs/\s.heap.DictOfH (g9 X.prog X.w S) a xs:=by
 rcases g with ⟨e,rfl⟩ | ⟨xs,e,y,z,p⟩
 ·obtain⟨z,hd,vs,rel,o,es,ep,h1,h2,h3,_,h4,_⟩:=zM I.hok e
  cases rel
  have e0:es.toList=[]:=by
   revert h4
   generalize es.toList=l
   intro h4
   cases h4
   rfl
  exact⟨hd,Nat.zero_le _,[],.nil,o,es,ep,h1,h2,h3,by rw[e0];rfl,λ x hx=>(nomatch hx),List.nodup_nil⟩
 ·obtain⟨⟨o,es,ep,h1,h2,h3,h4,h5⟩,_⟩:=(show d4 X.prog X.w H s.heap a (.ext (zN X.prog X.w S a xs)) from I.hok a _ e)
  exact⟨y,z,xs,p,o,es,ep,h1,h2,h3,h4,KD.keys I p,h5⟩
theorem KeyD.at (I:Inv X pins σ H s) {k:D}{b:Addr} (h:KeyD X.K H S k (.ref b)):(g9 X.prog X.w S).is s.heap k b:=⟨h.sh,h.dp,Is.toU I _ _ _ h.pl h.is rfl⟩
noncomputable def JX (P:Program) (w:World) (K:PySem.W.Frag):R2:=λ x y H Q=>∃ a S kvs k,y=.ref a/\fL P w K H a S kvs/\KeyD K H S k x/\Q (.bl (dH kvs k).isSome) H
theorem HZ (hu:X.A.units+64 < cLine):iU X (compareOp .In) (JX X.prog X.w X.K):=by
 intro pins s σ H x y v u Q I rx ry h
 obtain⟨a,S,kvs,k,rfl,g,hk,q⟩:=h
 obtain⟨b,rfl⟩:=hk.tup
 cases rx
 cases ry
 obtain⟨hd,hz,xs,p,dd⟩:=g.at I
 refine wpAny_in_heap (knd:=g9 X.prog X.w S) (show X.A.in1.units+8 < cLine by show X.A.units+1+8 < cLine;omega) (hk.at I) hd dd ?_
 have e:=(KD.val k p).isSome_eq
 rw[Option.isSome_map] at e
 rw[<- e]
 exact⟨.bl _,H,I.tok _,rfl,q⟩
noncomputable def JV (P:Program) (w:World) (K:PySem.W.Frag):R2:=λ x y H Q=>∃ a S kvs k v,x=.ref a/\fL P w K H a S kvs/\KeyD K H S k y/\dH kvs k=some v/\Q v H
theorem ix_D (hu:X.A.units+64 < cLine):BH X (JV X.prog X.w X.K):=by
 intro value slice pins s σ H x y v u Q I rx ry h hs
 obtain⟨a,S,kvs,k,z,rfl,g,hk,hv,q⟩:=h
 obtain⟨b,rfl⟩:=hk.tup
 cases rx
 cases ry
 obtain⟨hd,hz,xs,p,dd⟩:=g.at I
 obtain⟨w',hw,rw'⟩:=lX.some_of (v:=z) (o:=(atKey xs k).map (·.2)) (by rw[<- hv];exact KD.val k p)
 obtain⟨pp,hp,hp2⟩:=Option.map_eq_some_iff.mp hw
 refine subscriptTail_builtinR (x:=w') dd.typeIs PySem.F.slot_dict_getitem.lookup
  (wpAny_getItem_heap (knd:=g9 X.prog X.w S) (Q:=λ r s'=>r=w'/\EP X pins σ Q r s') (show X.A.in1.units+8 < cLine by show X.A.units+1+8 < cLine;omega) (hk.at I) dd hp ⟨hp2,?_⟩) hs
 rw[hp2]
 exact⟨z,H,I.tok _,rw',q⟩
noncomputable def BZ (P:Program) (w:World) (K:PySem.W.Frag) (td ty tv:TE):TS:=λ D σ H=>tv σ H λ v H1=>td σ H1 λ x H2=>ty σ H2 λ y H3=>∃ a S kvs k,x=.ref a/\fL P w K H3 a S kvs/\KeyD K H3 S k y/\kvs.length < sizeLine/\
 ∀ H4,d8 a H3 H4->fL P w K H4 a S (fN kvs k v)->D.nx σ H4
theorem CO {o i value:Expr}{pos pos':Pos}{td ty tv:TE} (hu:X.A.units+64 < cLine) (ho:PE X o td) (hi:PE X i ty) (hv:PE X value tv) (hs:swapsWith value (some (.Subscript o i pos')) pos.line X.env=pure false) :
  PS X (.Assign [.Subscript o i pos'] value pos) (BZ X.prog X.w X.K td ty tv):=by
 intro pins s σ H D I h
 refine wpAny_Assign_Subscript (cX (hv pins s σ H _ I h) λ r s1 ⟨v,H1,I1,rv,q1⟩=>cX (ho pins s1 σ H1 _ I1 q1) λ u s2 ⟨x,H2,I2,rx,q2⟩=>cX (hi pins s2 σ H2 _ I2 q2) λ iv s3 ⟨y,H3,I3,ry,a,S,kvs,k,ex,g,hk,hl,q3⟩=>?_) hs
 subst ex
 obtain rfl:u=Value.ref a:=rx
 obtain⟨b,rfl⟩:=hk.tup
 cases ry
 obtain⟨hd,hz,xs,p,dd⟩:=g.at I3
 have hz':xs.length<=sizeLine:=by rw[<- Paired.length p];exact hz
 have hlp:(fN kvs k v).length<=sizeLine:=by have:=fK kvs k v;omega
 refine wpAny_setItem_heap (knd:=g9 X.prog X.w S) (hsz:=hz') (show X.A.in1.units+8 < cLine by show X.A.units+1+8 < cLine;omega) (hk.at I3) dd λ h' dd' hsb=>?_
 obtain⟨qo,es,ep,hq,h2,h3,h4,_,h5⟩:=dd'
 have mu:=g.mut
 have bt:d8 a H3 (upd H3 a (.ext (zN X.prog X.w S a (storedH xs k b r)))):=d8.upd
 have ts:=bt.ts (K:=X.K) mu
 refine⟨σ,_,n8 I3 mu hsb ⟨qo,hq⟩ (ob:=.ext (zN X.prog X.w S a (storedH xs k b r))) ⟨⟨qo,es,ep,hq,h2,h3,h4,h5⟩,⟨qo,hq⟩,λ h1 h2' ⟨o',es',ep',z1,z⟩ kk=>⟨o',es',ep',kk _ z1,z⟩⟩,q3 _ bt (.inr ⟨_,aB,hd,hlp,KD.mono (KD.put p hk rv) ts⟩)⟩
theorem yT {P:Program}{w:World}{K:PySem.W.Frag} (hP:X.prog=P) (hw:X.w=w) (hK:X.K=K) (hu:X.A.units+64 < cLine):iU X (compareOp .In) (JX P w K):=by subst hP hw hK;exact HZ hu
theorem DB {P:Program}{w:World}{K:PySem.W.Frag} (hP:X.prog=P) (hw:X.w=w) (hK:X.K=K) (hu:X.A.units+64 < cLine):BH X (JV P w K):=by subst hP hw hK;exact ix_D hu
theorem sR {P:Program}{w:World}{K:PySem.W.Frag}{o i value:Expr}{pos pos':Pos}{td ty tv:TE} (hP:X.prog=P) (hw:X.w=w) (hK:X.K=K) (hu:X.A.units+64 < cLine) (ho:PE X o td) (hi:PE X i ty) (hv:PE X value tv)
  (hs:swapsWith value (some (.Subscript o i pos')) pos.line X.env=pure false):PS X (.Assign [.Subscript o i pos'] value pos) (BZ P w K td ty tv):=by subst hP hw hK;exact CO hu ho hi hv hs
end
end L2
namespace Tw
open PySem L2
structure Sta where
 held:List Int
 coming:List Int
 doors:List Bool
noncomputable def BT (net:Net):Sta:=⟨d5 net.vs.length,d5 net.vs.length,net.sps.map (·.2.2)⟩
noncomputable def Sta.tk (net:Net) (s:Sta):Tick:=bV net s.held s.coming (d5 net.vs.length) s.doors
noncomputable def Sta.next (net:Net) (s:Sta):Sta:=⟨(s.tk net).held,(s.tk net).coming,(s.tk net).doors⟩
noncomputable def b9 (net:Net):Nat->Sta
 | 0=>BT net
 | t+1=>(b9 net t).next net
noncomputable def eE (s:Sta):L2.D:=A9 s.held s.coming s.doors
noncomputable def dG (net:Net):Nat->List (L2.D×V)
 | 0=>[]
 | t+1=>fN (dG net t) (eE (b9 net t)) (.int (t:Int))
noncomputable def pV (net:Net) (t:Nat):Option V:=dH (dG net t) (eE (b9 net t))
noncomputable def uW (net:Net) (t:Nat) (j:Int):Prop:=t<=2000/\pV net t=some (.int j)/\∀ i,i < t->pV net i=none
noncomputable def uU (net:Net):Prop:=∀ i,i<=2000->pV net i=none
theorem pP (net:Net):∀ t,(dG net t).length<=t
 | 0=>Nat.le_refl _
 | t+1=>by
  have h1:=fK (dG net t) (eE (b9 net t)) (.int (t:Int))
  have h2:=pP net t
  show (fN _ _ _).length<=_
  omega
theorem pQ (net:Net) (k:L2.D) (v:V):∀ t,dH (dG net t) k=some v->∃ j,v=.int j
 | 0,h=>by cases h
 | t+1,h=>by
  rw[show dG net (t+1)=fN (dG net t) (eE (b9 net t)) (.int (t:Int)) from rfl,j8] at h
  by_cases e:k=eE (b9 net t)
  ·rw[if_pos e] at h;cases h;exact⟨_,rfl⟩
  ·rw[if_neg e] at h;exact pQ net k v t h
theorem fE (n:Nat):(d5 n).length=n:=by simp [d5]
theorem eV {net:Net} (nok:NetOk net):∀ t,StOk net (b9 net t).held (b9 net t).coming (b9 net t).doors
 | 0=>⟨fE _,fE _,by show (net.sps.map _).length=_;rw[List.length_map]⟩
 | t+1=>by
  have ih:=eV nok t
  have hs:(aL net (b9 net t).held (b9 net t).coming (d5 net.vs.length) (b9 net t).doors).length=net.vs.length:=by
   unfold aL;rw[eB,eQ ih.h ih.c (fE _)]
  exact⟨iK _ _ hs.symm,by show (cC _ _).length=_;unfold cC;simp,by show (bE _ _ _).length=_;rw[h7];exact ih.d⟩
noncomputable def BX (net:Net):L2.D:=.tup [.tup (List.replicate net.vs.length (.int 0)),.tup (List.replicate net.vs.length (.int 0)),.tup (List.replicate net.sps.length (.bl false))]
theorem pO:∀ xs:List Int,m9 (xs.map L2.D.int)=List.replicate xs.length (.int 0)
 | []=>by rw[List.map_nil,m9];rfl
 | x::xs=>by rw[List.map_cons,m9,sh,pO xs];rfl
theorem yI:∀ xs:List Bool,m9 (xs.map L2.D.bl)=List.replicate xs.length (.bl false)
 | []=>by rw[List.map_nil,m9];rfl
 | x::xs=>by rw[List.map_cons,m9,sh,yI xs];rfl
theorem jN:∀ xs:List Int,eI (xs.map L2.D.int)
 | []=>by rw[List.map_nil,eI];trivial
 | x::xs=>by rw[List.map_cons,eI,fY];exact⟨trivial,jN xs⟩
theorem qA:∀ xs:List Bool,eI (xs.map L2.D.bl)
 | []=>by rw[List.map_nil,eI];trivial
 | x::xs=>by rw[List.map_cons,eI,fY];exact⟨trivial,qA xs⟩
theorem HG {net:Net}{s:Sta} (ok:StOk net s.held s.coming s.doors):sh (eE s)=BX net:=by
 show sh (.tup [.tup (s.held.map L2.D.int),.tup (s.coming.map L2.D.int),.tup (s.doors.map L2.D.bl)])=_
 rw[sh,m9,m9,m9,m9,sh,sh,sh,pO,pO,yI,ok.h,ok.c,ok.d];rfl
theorem AE (s:Sta):fY (eE s):=by
 show fY (.tup [.tup (s.held.map L2.D.int),.tup (s.coming.map L2.D.int),.tup (s.doors.map L2.D.bl)])
 rw[fY,eI,eI,eI,eI,fY,fY,fY]
 exact⟨jN _,jN _,qA _,trivial⟩
theorem AW (s:Sta):(eE s).depth<=7:=by
 show (L2.D.tup [.tup (s.held.map L2.D.int),.tup (s.coming.map L2.D.int),.tup (s.doors.map L2.D.bl)]).depth<=7
 rw[L2.D.depth,DX];decide
theorem yW {K:PySem.W.Frag}{H:Hp}{net:Net}{s:Sta}{v:V} (ok:StOk net s.held s.coming s.doors) (h:Is K H (eE s) v):KeyD K H (BX net) (eE s) v:=by
 refine⟨HG ok,AW s,AE s,h,?_⟩
 obtain⟨a,xs,rfl,_⟩:=(show Is K H (.tup [.tup (s.held.map L2.D.int),.tup (s.coming.map L2.D.int),.tup (s.doors.map L2.D.bl)]) v from h).un
 exact⟨a,rfl⟩
end Tw
namespace Tw
open PySem L2
structure TxtT (mg:Str->Option Value):Prop where
 g_LAST_TICK:∃ u,mg "LAST_TICK" = some u/\bL (.int 2000) u
theorem pM {n:Nat} (h:n<=10000000):n < sizeLine:=by rw[sizeLine_eq];omega
end Tw
namespace Tw
open PySem L2
section
variable {P:Program}{w:World}{K:PySem.W.Frag}{mg:Str->Option Value}{base:Heap}{C c_TipError c_NoNet c_NoVessel c_TooLong c_TooMany c_TooMuch c_Nothing c_NoText c_NoRow:Addr}
theorem o4:FnScope ["net","state","nothing","seen","told","tick"] ["net"] (aK (bH 24)):=⟨rfl,rfl,rfl,by decide +kernel,rfl,by decide +kernel,by decide +kernel⟩
noncomputable def mG (K:PySem.W.Frag):Sp:=λ vs H Q _=>∃ (x:V) (net:Net),vs=[x]/\Is K H (eF net) x/\NetOk net/\
 (∀ t j p H',uW net t j->aH H H'->bO K H' p [.int j,.int ((t:Int) - j)]->Q (.ref p) H')/\(uU net->∀ H',aH H H'->Q .non H')
theorem kX:FnScope ["net","seen","state","tick"] ["net"] (aK (bH 43)):=⟨rfl,rfl,rfl,by decide +kernel,rfl,by decide +kernel,by decide +kernel⟩
theorem rL {f f1 f2:Addr}{fd fd1 fd2:FuncData} (F:Fun K "_law_round" "_law_round" (bH 43) f fd) (T:Txt mg)
  (G__law_first:Callee P w K mg base "_law_first" ["net"] 1 (iL K) f1 fd1) (G__law_tick:Callee P w K mg base "_law_tick" ["net","state","poured","fast"] 2 (oN K) f2 fd2) :
  FnOk P w K mg base j3 3 f fd ["net"] (mG K):=by
 refine F.ok kX (λ vs H Q E h=>?_) (λ cdv A outer s H vs Q E hr h=>?_)
 ·obtain⟨x,net,rfl,_⟩:=h;rfl
 ·obtain⟨x,net,rfl,hx,nok,kR,kL⟩:=h
  have sc:=kX
  refine⟨_,(aD (aS (i:=1) sc.nd rfl (Or.inl rfl) qC)
   (aD (aS (i:=2) sc.nd rfl (Or.inl rfl) (fG G__law_first hr (aA (pv 0) aC)))
   (aD (dQ PassesOwn.never rfl (bT rfl T.b_range (aA aG aC)) (aE (i:=3) sc.nd rfl (Or.inl rfl)) (aD (fC (cH (yT (P:=P) (w:=w) (K:=K) rfl rfl rfl hr.units) (pv 2) (pv 1) (by rfl)) (aM (bX (bK (aA (aQ (DB (P:=P) (w:=w) (K:=K) rfl rfl rfl hr.units) (pv 1) (pv 2) (λ _ _=>rfl)) (aA (aW gX (pv 3) (aQ (DB (P:=P) (w:=w) (K:=K) rfl rfl rfl hr.units) (pv 1) (pv 2) (λ _ _=>rfl))) aC))))) cS)
   (aD (sR (P:=P) (w:=w) (K:=K) rfl rfl rfl hr.units (pv 1) (pv 2) (pv 3) rfl)
   (aM (aS (i:=2) sc.nd rfl (Or.inl rfl) (aQ (aJ (K:=K) rfl) (fG G__law_tick hr (aA (pv 0) (aA (pv 2) (aA (aW (qG (K:=K) rfl) (bK (aA aG aC)) (aR (bN (K:=K) rfl) rfl T.b_len PySem.boot_len (aA (aQ (aJ (K:=K) rfl) (pv 0) aG (λ _ _=>rfl)) aC))) (aA fU aC))))) aG (λ _ _=>rfl)))))))
   (aM (bX fU))))),?_⟩
  refine λ sd hsd=>?_
  have s0:=aH.new (o:=HO.dK []) hsd
  refine⟨_,rfl,x,net,rfl,Is.mono s0.ts _ _ hx,nok,λ st H1 sm1 hst=>?_⟩
  have g1:=sm1 _ _ (show upd H sd (.dK []) sd=some (.dK []) from aB)
  have s1:=s0.trans sm1
  refine⟨_,rfl,by decide,by decide,?_⟩
  refine dR (lo:=0) (n:=2001) (λ i Z H'=>aH H H'/\(∀ m,m < i->pV net m=none)/\fL P w K H' sd (BX net) (dG net i)/\
   ∃ st v3,Is K H' (eE (b9 net i)) st/\Z=[some x,some (.ref sd),some st,v3]) ?_ ?_ ?_
  ·exact⟨s1,λ m hm=>absurd hm (Nat.not_lt_zero _),fL.new g1,st,_,hst,rfl⟩
  ·rintro i Z H4 hi ⟨s4,hno,dd,st,v3,hst4,rfl⟩
   rw[Int.zero_add]
   have sok:=eV nok i
   have key:=yW sok hst4
   have hsl:=pP net i
   dsimp only [i7]
   refine⟨_,rfl,_,rfl,sd,BX net,dG net i,eE (b9 net i),rfl,dd,key,_,rfl,?_⟩
   cases hr:pV net i with
   | some v=>
    have hr':dH (dG net i) (eE (b9 net i))=some v:=hr
    rw[hr']
    refine jT ?_
    obtain⟨j,rfl⟩:=pQ net _ v i hr'
    refine⟨_,rfl,_,rfl,sd,BX net,dG net i,eE (b9 net i),.int j,rfl,dd,key,hr',_,rfl,_,rfl,_,rfl,sd,BX net,dG net i,eE (b9 net i),.int j,rfl,dd,key,hr',_,_,rfl,rfl,(show 2<=sizeLine by decide),λ p hp=>?_⟩
    exact kR i j p _ ⟨by omega,hr,hno⟩ (s4.trans (aH.new hp)) (bO.of aB)
   | none=>
    have hr':dH (dG net i) (eE (b9 net i))=none:=hr
    rw[hr']
    refine j5 ?_
    refine⟨_,rfl,_,rfl,_,rfl,sd,BX net,dG net i,eE (b9 net i),rfl,dd,key,pM (by omega),λ H5 b5 dd5=>?_⟩
    have ts5:=b5.ts (K:=K) dd.mut
    have s5:aH H H5:=λ b o e=>b5 b o (aN e hsd) (s4 b o e)
    have hx5:=Is.mono s5.ts _ _ hx
    have hst5:=Is.mono ts5 _ _ hst4
    obtain⟨a,b,c,xs,ys,rfl,q,q1,l1,q2,l2⟩:=dS hx5
    have exl:xs.length=net.vs.length:=by rw[l1.length,List.length_map]
    have n1:=nok.lo
    have n2:=nok.hi
    refine⟨_,rfl,_,rfl,(show 1<=sizeLine by decide),λ o ho=>?_⟩
    have so:=aH.new (o:=HO.tup [.int 0]) ho
    refine⟨_,rfl,.inr (.inl ⟨a,_,0,_,rfl,rfl,so.tup q,rfl,b,xs,rfl,.inr (so.tup q1),o,_,[.int 0],rfl,rfl,bO.of aB,by omega,by omega,by simp,by decide,λ z H6 sm6 qz=>?_⟩)⟩
    have s56:=so.trans sm6
    have en:((xs.length:Nat):Int).toNat=net.vs.length:=by rw[exl];simp
    rw[en,CA] at qz
    refine⟨.ref a,st,z,net,_,_,d5 net.vs.length,_,rfl,Is.mono s56.ts _ _ hx5,Is.mono s56.ts _ _ hst5,.inl qz,nok,sok,fE _,λ l p1 p2 H7 sm7 hl7 i1 i2=>?_⟩
    refine .inl ⟨l,_,0,_,rfl,rfl,bR.of hl7,rfl,?_⟩
    have s57:=s56.trans sm7
    refine⟨s5.trans s57,λ m hm=>?_,dd5.same s57,p1,_,i1,rfl⟩
    rcases (show m < i\/m=i by omega) with h | rfl
    ·exact hno m h
    ·exact hr
  ·rintro Z H4 ⟨s4,hno,_⟩
   exact kL (λ i hi=>hno i (by omega)) _ s4
end
end Tw
namespace L2
open PySem PySem.Spec PyProof.Rows TwZ
inductive G where
 | non
 | bl (b:Bool)
 | int (i:Int)
 | str (z:Str)
 | tup (gs:List G)
 | lst (gs:List G)
mutual
noncomputable def aV (K:PySem.W.Frag) (H:Hp):G->V->Prop
 | .non,v=>v=.non
 | .bl b,v=>v=.bl b
 | .int i,v=>v=.int i
 | .str z,v=>v=.str z
 | .tup gs,v=>∃ a xs,v=.ref a/\bO K H a xs/\gM K H gs xs
 | .lst gs,v=>∃ a xs,v=.ref a/\bR K H a xs/\gM K H gs xs
noncomputable def gM (K:PySem.W.Frag) (H:Hp):List G->List V->Prop
 | [],vs=>vs=[]
 | g::gs,vs=>∃ v r,vs=v::r/\aV K H g v/\gM K H gs r
end
mutual
noncomputable def bD:G->G->Bool
 | .non,.non=>true
 | .bl a,.bl b=>a == b
 | .bl a,.int b=>(if a then 1 else 0) == b
 | .int a,.bl b=>a == (if b then 1 else 0)
 | .int a,.int b=>a == b
 | .str a,.str b=>a == b
 | .tup a,.tup b=>gU a b
 | .lst a,.lst b=>gU a b
 | _,_=>false
noncomputable def gU:List G->List G->Bool
 | [],[]=>true
 | a::as,b::bs=>bD a b && gU as bs
 | _,_=>false
end
mutual
noncomputable def j6:G->Nat
 | .tup gs=>lI gs+1
 | .lst gs=>lI gs+1
 | _=>0
noncomputable def lI:List G->Nat
 | []=>0
 | g::gs=>max (j6 g) (lI gs)
end
mutual
theorem jX:∀ g:G,bD g g=true
 | .non=>by rw[bD]
 | .bl b=>by rw[bD];simp
 | .int i=>by rw[bD];simp
 | .str z=>by rw[bD];simp
 | .tup gs=>by rw[bD];exact nM gs
 | .lst gs=>by rw[bD];exact nM gs
theorem nM:∀ gs:List G,gU gs gs=true
 | []=>by rw[gU]
 | g::gs=>by rw[gU,jX g,nM gs];rfl
end
theorem gM.length {K:PySem.W.Frag}{H:Hp}:∀ {gs:List G}{xs:List V},gM K H gs xs->xs.length=gs.length
 | [],_,h=>by rw[gM] at h;subst h;rfl
 | g::gs,_,h=>by rw[gM] at h;obtain⟨v,r,rfl,_,h⟩:=h;rw[List.length_cons,List.length_cons,gM.length h]
theorem gM.get {K:PySem.W.Frag}{H:Hp}:∀ {gs:List G}{xs:List V}{i:Nat}{g:G},gM K H gs xs->gs[i]? = some g->∃ x,xs[i]? = some x/\aV K H g x
 | [],_,_,_,_,e=>by simp at e
 | g::gs,_,0,g',h,e=>by rw[gM] at h;obtain⟨v,r,rfl,h1,_⟩:=h;simp at e;subst e;exact⟨v,by simp,h1⟩
 | g::gs,_,i+1,g',h,e=>by
  rw[gM] at h;obtain⟨v,r,rfl,_,h⟩:=h
  obtain⟨x,h1,h2⟩:=gM.get h (i:=i) (by simpa using e)
  exact⟨x,by simpa using h1,h2⟩
theorem gF {g:G}:∀ {gs:List G},g∈gs->j6 g<=lI gs
 | [],h=>by cases h
 | a::gs,h=>by
  rw[lI]
  rcases List.mem_cons.1 h with rfl | h
  ·omega
  ·have:=gF h;omega
noncomputable def KP (gs hs:List G) (j:Nat):Bool:=match gs[j]?,hs[j]? with
 | some g,some h=>bD g h
 | _,_=>true
theorem jM (n:Nat) (e:Nat->Bool):(List.range (n+1)).all e=(e 0 && (List.range n).all λ j=>e (j+1)):=by
 rw[List.range_succ_eq_map,List.all_cons,List.all_map];rfl
theorem oT:∀ (gs hs:List G),gs.length=hs.length->(List.range gs.length).all (KP gs hs)=gU gs hs
 | [],[],_=>by rw[gU];rfl
 | [],_::_,h=>by simp at h
 | _::_,[],h=>by simp at h
 | g::gs,h::hs,hl=>by
  rw[List.length_cons,jM,gU,<- oT gs hs (by simpa using hl)]
  congr 1
theorem nA:∀ (gs hs:List G),((List.range (min gs.length hs.length)).all (KP gs hs) && gs.length == hs.length)=gU gs hs
 | [],[]=>by rw[gU];rfl
 | [],_::_=>by simp [gU]
 | _::_,[]=>by simp [gU]
 | g::gs,h::hs=>by
  have e1:min (g::gs).length (h::hs).length=min gs.length hs.length+1:=by rw[List.length_cons,List.length_cons];omega
  have e2:((g::gs).length == (h::hs).length)=(gs.length == hs.length):=by simp
  rw[e1,e2,jM,gU,<- nA gs hs,Bool.and_assoc]
  congr 1
theorem n5:∀ (gs hs:List G),gs.length≠hs.length->gU gs hs=false
 | [],[],h=>absurd rfl h
 | [],_::_,_=>by simp [gU]
 | _::_,[],_=>by simp [gU]
 | g::gs,h::hs,hl=>by rw[gU,n5 gs hs (by simpa using hl),Bool.and_false]
theorem uG {h:Heap}{a:Addr}{xs ys:Array Value} (h1:h.IsTuple a xs) (h2:h.IsTuple a ys):xs=ys:=by
 obtain⟨o,e,_,n,d⟩:=h1
 obtain⟨o',e',_,n',d'⟩:=h2
 rw[e] at e'
 cases e'
 rw[d] at d'
 injection d'
theorem vT {h:Heap}{a:Addr}{xs ys:Array Value} (h1:h.IsList a xs) (h2:h.IsList a ys):xs=ys:=by
 obtain⟨o,e,_,n,d⟩:=h1
 obtain⟨o',e',_,n',d'⟩:=h2
 rw[e] at e'
 cases e'
 rw[d] at d'
 injection d'
section
variable {X:Cx}{pins:List (Addr×Obj)}{σ:St}{H:Hp}{s:Shared}
mutual
theorem BL (I:Inv X pins σ H s):∀ (g h:G) (x y:V) (u:Value),aV X.K H g x->aV X.K H h y->bL x u->bL y u->g=h
 | .non,h,x,y,u,hx,hy,rx,ry=>by
  rw[aV] at hx;subst hx;cases rx
  cases h <;> rw[aV] at hy
  ·subst hy;cases ry
  ·subst hy;obtain⟨_,e⟩:=ry;cases e
  ·subst hy;obtain⟨_,e⟩:=ry;cases e
  ·obtain⟨_,_,rfl,_⟩:=hy;cases ry
  ·obtain⟨_,_,rfl,_⟩:=hy;cases ry
 | .bl b,h,x,y,u,hx,hy,rx,ry=>by
  rw[aV] at hx;subst hx;cases rx
  cases h <;> rw[aV] at hy
  ·subst hy;cases ry
  ·subst hy;injection ry with e;rw[e]
  ·subst hy;obtain⟨_,e⟩:=ry;cases e
  ·subst hy;obtain⟨_,e⟩:=ry;cases e
  ·obtain⟨_,_,rfl,_⟩:=hy;cases ry
  ·obtain⟨_,_,rfl,_⟩:=hy;cases ry
 | .int b,h,x,y,u,hx,hy,rx,ry=>by
  rw[aV] at hx;subst hx;obtain⟨t,rfl⟩:=rx
  cases h <;> rw[aV] at hy
  ·subst hy;cases ry
  ·subst hy;cases ry
  ·subst hy;obtain⟨_,e⟩:=ry;injection e with e;rw[e]
  ·subst hy;obtain⟨_,e⟩:=ry;cases e
  ·obtain⟨_,_,rfl,_⟩:=hy;cases ry
  ·obtain⟨_,_,rfl,_⟩:=hy;cases ry
 | .str b,h,x,y,u,hx,hy,rx,ry=>by
  rw[aV] at hx;subst hx;obtain⟨t,rfl⟩:=rx
  cases h <;> rw[aV] at hy
  ·subst hy;cases ry
  ·subst hy;cases ry
  ·subst hy;obtain⟨_,e⟩:=ry;cases e
  ·subst hy;obtain⟨_,e⟩:=ry;injection e with e;rw[e]
  ·obtain⟨_,_,rfl,_⟩:=hy;cases ry
  ·obtain⟨_,_,rfl,_⟩:=hy;cases ry
 | .tup gs,h,x,y,u,hx,hy,rx,ry=>by
  rw[aV] at hx;obtain⟨a,xs,rfl,q1,l1⟩:=hx;cases rx
  cases h <;> rw[aV] at hy
  ·subst hy;cases ry
  ·subst hy;cases ry
  ·subst hy;obtain⟨_,e⟩:=ry;cases e
  ·subst hy;obtain⟨_,e⟩:=ry;cases e
  ·obtain⟨b,ys,rfl,q2,l2⟩:=hy;cases ry
   obtain⟨us,r1,p1,_⟩:=I.tuple q1
   obtain⟨vs,r2,p2,_⟩:=I.tuple q2
   have e:=uG p1 p2
   have e':us=vs:=by simpa using e
   subst e'
   rw[wN I gs _ xs ys us l1 l2 r1 r2]
  ·obtain⟨b,ys,rfl,q2,l2⟩:=hy;cases ry
   obtain⟨us,r1,p1,_⟩:=I.tuple q1
   obtain⟨vs,r2,p2,_⟩:=I.list q2
   exact absurd rfl (SeqAt.ne_of_list_tuple p2.isList p1)
 | .lst gs,h,x,y,u,hx,hy,rx,ry=>by
  rw[aV] at hx;obtain⟨a,xs,rfl,q1,l1⟩:=hx;cases rx
  cases h <;> rw[aV] at hy
  ·subst hy;cases ry
  ·subst hy;cases ry
  ·subst hy;obtain⟨_,e⟩:=ry;cases e
  ·subst hy;obtain⟨_,e⟩:=ry;cases e
  ·obtain⟨b,ys,rfl,q2,l2⟩:=hy;cases ry
   obtain⟨us,r1,p1,_⟩:=I.list q1
   obtain⟨vs,r2,p2,_⟩:=I.tuple q2
   exact absurd rfl (SeqAt.ne_of_list_tuple p1.isList p2)
  ·obtain⟨b,ys,rfl,q2,l2⟩:=hy;cases ry
   obtain⟨us,r1,p1,_⟩:=I.list q1
   obtain⟨vs,r2,p2,_⟩:=I.list q2
   have e:=vT p1.isList p2.isList
   have e':us=vs:=by simpa using e
   subst e'
   rw[wN I gs _ xs ys us l1 l2 r1 r2]
theorem wN (I:Inv X pins σ H s):∀ (gs hs:List G) (xs ys:List V) (us:List Value),gM X.K H gs xs->gM X.K H hs ys->bY xs us->bY ys us->gs=hs
 | [],hs,xs,ys,us,h1,h2,r1,r2=>by
  rw[gM] at h1;subst h1;cases r1;cases r2
  cases hs with
  | nil=>rfl
  | cons h hs=>rw[gM] at h2;obtain⟨_,_,e,_⟩:=h2;cases e
 | g::gs,hs,xs,ys,us,h1,h2,r1,r2=>by
  rw[gM] at h1;obtain⟨x,r,rfl,i1,l1⟩:=h1
  cases r1 with
  | cons ra rb=>
   cases hs with
   | nil=>rw[gM] at h2;subst h2;cases r2
   | cons h hs=>
    rw[gM] at h2;obtain⟨y,r',rfl,i2,l2⟩:=h2
    cases r2 with
    | cons ra' rb'=>rw[BL I g h _ _ _ i1 i2 ra ra',wN I gs hs _ _ _ l1 l2 rb rb']
end
theorem zI {us:List Value}{j:Nat}{w:Value} (h1:j < us.toArray.size) (h:us[j]? = some w):us.toArray[j]=w:=by
 have:us[j]? = some us.toArray[j]:=by simp
 rw[this] at h;exact Option.some.inj h
theorem kM {n:Nat}{gs hs:List G}{xs ys:List V}{us vs:List Value}{A:Around}
  (ih:∀ (g h:G) (x y:V) (u v:Value),g∈gs->aV X.K H g x->aV X.K H h y->bL x u->bL y v->SeqAt.EqAt A s u v (bD g h))
  (l1:gM X.K H gs xs) (l2:gM X.K H hs ys) (r1:bY xs us) (r2:bY ys vs) (j:Nat) (h1:j < us.toArray.size) (h2:j < vs.toArray.size):SeqAt.EqAt A s us.toArray[j] vs.toArray[j] (KP gs hs j):=by
 have e1:=r1.length
 have e2:=r2.length
 have e3:=l1.length
 have e4:=l2.length
 have j1:j < gs.length:=by rw[<- e3,e1];simpa using h1
 have j2:j < hs.length:=by rw[<- e4,e2];simpa using h2
 obtain⟨x,gx,ix⟩:=l1.get (i:=j) (g:=gs[j]) (by simp)
 obtain⟨y,gy,iy⟩:=l2.get (i:=j) (g:=hs[j]) (by simp)
 obtain⟨w1,g1,t1⟩:=r1.get gx
 obtain⟨w2,g2,t2⟩:=r2.get gy
 rw[zI h1 g1,zI h2 g2]
 have:KP gs hs j=bD gs[j] hs[j]:=by unfold KP;simp [j1,j2]
 rw[this]
 exact ih _ _ x y w1 w2 (List.getElem_mem j1) ix iy t1 t2
end
section
variable {X:Cx}{pins:List (Addr×Obj)}{σ:St}{H:Hp}{s:Shared}
theorem t9 (I:Inv X pins σ H s):∀ (n:Nat) (g h:G) (A:Around) (x y:V) (u v:Value),j6 g<=n->A.units+n < cLine->aV X.K H g x->aV X.K H h y->bL x u->bL y v->SeqAt.EqAt A s u v (bD g h)
 | n,.non,.non,A,x,y,u,v,hd,hu,hx,hy,rx,ry=>by
  rw[aV] at hx;subst hx;cases rx
  rw[aV] at hy;subst hy;cases ry
  rw[bD];exact SeqAt.EqAt.same _
 | n,.non,.bl gy,A,x,y,u,v,hd,hu,hx,hy,rx,ry=>by
  rw[aV] at hx;subst hx;cases rx
  rw[aV] at hy;subst hy;cases ry
  rw[show bD (.non) (.bl gy)=false from by simp [bD]];exact SeqAt.EqAt.none_bool gy
 | n,.non,.int gy,A,x,y,u,v,hd,hu,hx,hy,rx,ry=>by
  rw[aV] at hx;subst hx;cases rx
  rw[aV] at hy;subst hy;obtain⟨ty,rfl⟩:=ry
  rw[show bD (.non) (.int gy)=false from by simp [bD]];exact SeqAt.EqAt.none_int gy ty
 | n,.non,.str gy,A,x,y,u,v,hd,hu,hx,hy,rx,ry=>by
  rw[aV] at hx;subst hx;cases rx
  rw[aV] at hy;subst hy;obtain⟨ty,rfl⟩:=ry
  rw[show bD (.non) (.str gy)=false from by simp [bD]];exact SeqAt.EqAt.none_str gy ty
 | n,.non,.tup gy,A,x,y,u,v,hd,hu,hx,hy,rx,ry=>by
  rw[aV] at hx;subst hx;cases rx
  rw[aV] at hy;obtain⟨ay,xsy,rfl,qy,ly⟩:=hy;cases ry;obtain⟨usy,vy,py,_⟩:=I.tuple qy
  rw[show bD (.non) (.tup gy)=false from by simp [bD]];exact SeqAt.EqAt.none_tuple py (by omega)
 | n,.non,.lst gy,A,x,y,u,v,hd,hu,hx,hy,rx,ry=>by
  rw[aV] at hx;subst hx;cases rx
  rw[aV] at hy;obtain⟨ay,xsy,rfl,qy,ly⟩:=hy;cases ry;obtain⟨usy,vy,py,_⟩:=I.list qy
  rw[show bD (.non) (.lst gy)=false from by simp [bD]];exact SeqAt.EqAt.none_list py.isList (by omega)
 | n,.bl gx,.non,A,x,y,u,v,hd,hu,hx,hy,rx,ry=>by
  rw[aV] at hx;subst hx;cases rx
  rw[aV] at hy;subst hy;cases ry
  rw[show bD (.bl gx) (.non)=false from by simp [bD]];exact SeqAt.EqAt.bool_none gx
 | n,.bl gx,.bl gy,A,x,y,u,v,hd,hu,hx,hy,rx,ry=>by
  rw[aV] at hx;subst hx;cases rx
  rw[aV] at hy;subst hy;cases ry
  rw[bD];exact SeqAt.EqAt.bool_bool gx gy
 | n,.bl gx,.int gy,A,x,y,u,v,hd,hu,hx,hy,rx,ry=>by
  rw[aV] at hx;subst hx;cases rx
  rw[aV] at hy;subst hy;obtain⟨ty,rfl⟩:=ry
  rw[bD];exact SeqAt.EqAt.bool_int gx gy ty
 | n,.bl gx,.str gy,A,x,y,u,v,hd,hu,hx,hy,rx,ry=>by
  rw[aV] at hx;subst hx;cases rx
  rw[aV] at hy;subst hy;obtain⟨ty,rfl⟩:=ry
  rw[show bD (.bl gx) (.str gy)=false from by simp [bD]];exact SeqAt.EqAt.bool_str gx gy ty
 | n,.bl gx,.tup gy,A,x,y,u,v,hd,hu,hx,hy,rx,ry=>by
  rw[aV] at hx;subst hx;cases rx
  rw[aV] at hy;obtain⟨ay,xsy,rfl,qy,ly⟩:=hy;cases ry;obtain⟨usy,vy,py,_⟩:=I.tuple qy
  rw[show bD (.bl gx) (.tup gy)=false from by simp [bD]];exact SeqAt.EqAt.bool_tuple gx py (by omega)
 | n,.bl gx,.lst gy,A,x,y,u,v,hd,hu,hx,hy,rx,ry=>by
  rw[aV] at hx;subst hx;cases rx
  rw[aV] at hy;obtain⟨ay,xsy,rfl,qy,ly⟩:=hy;cases ry;obtain⟨usy,vy,py,_⟩:=I.list qy
  rw[show bD (.bl gx) (.lst gy)=false from by simp [bD]];exact SeqAt.EqAt.bool_list gx py.isList (by omega)
 | n,.int gx,.non,A,x,y,u,v,hd,hu,hx,hy,rx,ry=>by
  rw[aV] at hx;subst hx;obtain⟨tx,rfl⟩:=rx
  rw[aV] at hy;subst hy;cases ry
  rw[show bD (.int gx) (.non)=false from by simp [bD]];exact SeqAt.EqAt.int_none gx tx
 | n,.int gx,.bl gy,A,x,y,u,v,hd,hu,hx,hy,rx,ry=>by
  rw[aV] at hx;subst hx;obtain⟨tx,rfl⟩:=rx
  rw[aV] at hy;subst hy;cases ry
  rw[bD];exact SeqAt.EqAt.int_bool gx tx gy
 | n,.int gx,.int gy,A,x,y,u,v,hd,hu,hx,hy,rx,ry=>by
  rw[aV] at hx;subst hx;obtain⟨tx,rfl⟩:=rx
  rw[aV] at hy;subst hy;obtain⟨ty,rfl⟩:=ry
  rw[bD];exact SeqAt.EqAt.int_int gx tx gy ty
 | n,.int gx,.str gy,A,x,y,u,v,hd,hu,hx,hy,rx,ry=>by
  rw[aV] at hx;subst hx;obtain⟨tx,rfl⟩:=rx
  rw[aV] at hy;subst hy;obtain⟨ty,rfl⟩:=ry
  rw[show bD (.int gx) (.str gy)=false from by simp [bD]];exact SeqAt.EqAt.int_str gx tx gy ty
 | n,.int gx,.tup gy,A,x,y,u,v,hd,hu,hx,hy,rx,ry=>by
  rw[aV] at hx;subst hx;obtain⟨tx,rfl⟩:=rx
  rw[aV] at hy;obtain⟨ay,xsy,rfl,qy,ly⟩:=hy;cases ry;obtain⟨usy,vy,py,_⟩:=I.tuple qy
  rw[show bD (.int gx) (.tup gy)=false from by simp [bD]];exact SeqAt.EqAt.int_tuple gx tx py (by omega)
 | n,.int gx,.lst gy,A,x,y,u,v,hd,hu,hx,hy,rx,ry=>by
  rw[aV] at hx;subst hx;obtain⟨tx,rfl⟩:=rx
  rw[aV] at hy;obtain⟨ay,xsy,rfl,qy,ly⟩:=hy;cases ry;obtain⟨usy,vy,py,_⟩:=I.list qy
  rw[show bD (.int gx) (.lst gy)=false from by simp [bD]];exact SeqAt.EqAt.int_list gx tx py.isList (by omega)
 | n,.str gx,.non,A,x,y,u,v,hd,hu,hx,hy,rx,ry=>by
  rw[aV] at hx;subst hx;obtain⟨tx,rfl⟩:=rx
  rw[aV] at hy;subst hy;cases ry
  rw[show bD (.str gx) (.non)=false from by simp [bD]];exact SeqAt.EqAt.str_none gx tx
 | n,.str gx,.bl gy,A,x,y,u,v,hd,hu,hx,hy,rx,ry=>by
  rw[aV] at hx;subst hx;obtain⟨tx,rfl⟩:=rx
  rw[aV] at hy;subst hy;cases ry
  rw[show bD (.str gx) (.bl gy)=false from by simp [bD]];exact SeqAt.EqAt.str_bool gx tx gy
 | n,.str gx,.int gy,A,x,y,u,v,hd,hu,hx,hy,rx,ry=>by
  rw[aV] at hx;subst hx;obtain⟨tx,rfl⟩:=rx
  rw[aV] at hy;subst hy;obtain⟨ty,rfl⟩:=ry
  rw[show bD (.str gx) (.int gy)=false from by simp [bD]];exact SeqAt.EqAt.str_int gx tx gy ty
 | n,.str gx,.str gy,A,x,y,u,v,hd,hu,hx,hy,rx,ry=>by
  rw[aV] at hx;subst hx;obtain⟨tx,rfl⟩:=rx
  rw[aV] at hy;subst hy;obtain⟨ty,rfl⟩:=ry
  rw[bD];exact SeqAt.EqAt.str_str gx tx gy ty
 | n,.str gx,.tup gy,A,x,y,u,v,hd,hu,hx,hy,rx,ry=>by
  rw[aV] at hx;subst hx;obtain⟨tx,rfl⟩:=rx
  rw[aV] at hy;obtain⟨ay,xsy,rfl,qy,ly⟩:=hy;cases ry;obtain⟨usy,vy,py,_⟩:=I.tuple qy
  rw[show bD (.str gx) (.tup gy)=false from by simp [bD]];exact SeqAt.EqAt.str_tuple gx tx py (by omega)
 | n,.str gx,.lst gy,A,x,y,u,v,hd,hu,hx,hy,rx,ry=>by
  rw[aV] at hx;subst hx;obtain⟨tx,rfl⟩:=rx
  rw[aV] at hy;obtain⟨ay,xsy,rfl,qy,ly⟩:=hy;cases ry;obtain⟨usy,vy,py,_⟩:=I.list qy
  rw[show bD (.str gx) (.lst gy)=false from by simp [bD]];exact SeqAt.EqAt.str_list gx tx py.isList (by omega)
 | n,.tup gx,.non,A,x,y,u,v,hd,hu,hx,hy,rx,ry=>by
  rw[aV] at hx;obtain⟨ax,xsx,rfl,qx,lx⟩:=hx;cases rx;obtain⟨usx,vx,px,_⟩:=I.tuple qx
  rw[aV] at hy;subst hy;cases ry
  rw[show bD (.tup gx) (.non)=false from by simp [bD]];exact SeqAt.EqAt.tuple_none px (by omega)
 | n,.tup gx,.bl gy,A,x,y,u,v,hd,hu,hx,hy,rx,ry=>by
  rw[aV] at hx;obtain⟨ax,xsx,rfl,qx,lx⟩:=hx;cases rx;obtain⟨usx,vx,px,_⟩:=I.tuple qx
  rw[aV] at hy;subst hy;cases ry
  rw[show bD (.tup gx) (.bl gy)=false from by simp [bD]];exact SeqAt.EqAt.tuple_bool gy px (by omega)
 | n,.tup gx,.int gy,A,x,y,u,v,hd,hu,hx,hy,rx,ry=>by
  rw[aV] at hx;obtain⟨ax,xsx,rfl,qx,lx⟩:=hx;cases rx;obtain⟨usx,vx,px,_⟩:=I.tuple qx
  rw[aV] at hy;subst hy;obtain⟨ty,rfl⟩:=ry
  rw[show bD (.tup gx) (.int gy)=false from by simp [bD]];exact SeqAt.EqAt.tuple_int gy ty px (by omega)
 | n,.tup gx,.str gy,A,x,y,u,v,hd,hu,hx,hy,rx,ry=>by
  rw[aV] at hx;obtain⟨ax,xsx,rfl,qx,lx⟩:=hx;cases rx;obtain⟨usx,vx,px,_⟩:=I.tuple qx
  rw[aV] at hy;subst hy;obtain⟨ty,rfl⟩:=ry
  rw[show bD (.tup gx) (.str gy)=false from by simp [bD]];exact SeqAt.EqAt.tuple_str gy ty px (by omega)
 | 0,.tup gx,.tup gy,A,x,y,u,v,hd,_,_,_,_,_=>by rw[j6] at hd;omega
 | n+1,.tup gx,.tup gy,A,x,y,u,v,hd,hu,hx,hy,rx,ry=>by
  rw[aV] at hx;obtain⟨ax,xsx,rfl,qx,lx⟩:=hx;cases rx;obtain⟨usx,vx,px,_⟩:=I.tuple qx
  rw[aV] at hy;obtain⟨ay,xsy,rfl,qy,ly⟩:=hy;cases ry;obtain⟨usy,vy,py,_⟩:=I.tuple qy
  by_cases hab:ax=ay
  ·subst hab
   have e:=BL I (.tup gx) (.tup gy) (.ref ax) (.ref ax) _ (by rw[aV];exact⟨_,_,rfl,qx,lx⟩) (by rw[aV];exact⟨_,_,rfl,qy,ly⟩) rfl rfl
   rw[e,jX];exact SeqAt.EqAt.same _
  have e1:=vx.length
  have e2:=vy.length
  have e3:=lx.length
  have e4:=ly.length
  rw[show bD (.tup gx) (.tup gy)=gU gx gy from by rw[bD],<- nA gx gy]
  have ex:gx.length=usx.toArray.size:=by rw[<- e3,e1,List.size_toArray]
  have ey:gy.length=usy.toArray.size:=by rw[<- e4,e2,List.size_toArray]
  rw[ex,ey]
  refine SeqAt.EqAt.of_refs hab ?_;exact SeqAt.RcAt.tuples px py (by omega) (λ j h1 h2=>kM (n:=0) (λ g h x y u v hm ix iy tx ty=>t9 I n g h A.in1 x y u v (by have:=gF hm;rw[j6] at hd;omega) (by show A.units+1+n < cLine;omega) ix iy tx ty) lx ly vx vy j h1 h2)
 | n,.tup gx,.lst gy,A,x,y,u,v,hd,hu,hx,hy,rx,ry=>by
  rw[aV] at hx;obtain⟨ax,xsx,rfl,qx,lx⟩:=hx;cases rx;obtain⟨usx,vx,px,_⟩:=I.tuple qx
  rw[aV] at hy;obtain⟨ay,xsy,rfl,qy,ly⟩:=hy;cases ry;obtain⟨usy,vy,py,_⟩:=I.list qy
  rw[show bD (.tup gx) (.lst gy)=false from by simp [bD]];exact SeqAt.EqAt.tuple_list px py.isList (by omega)
 | n,.lst gx,.non,A,x,y,u,v,hd,hu,hx,hy,rx,ry=>by
  rw[aV] at hx;obtain⟨ax,xsx,rfl,qx,lx⟩:=hx;cases rx;obtain⟨usx,vx,px,_⟩:=I.list qx
  rw[aV] at hy;subst hy;cases ry
  rw[show bD (.lst gx) (.non)=false from by simp [bD]];exact SeqAt.EqAt.list_none px.isList (by omega)
 | n,.lst gx,.bl gy,A,x,y,u,v,hd,hu,hx,hy,rx,ry=>by
  rw[aV] at hx;obtain⟨ax,xsx,rfl,qx,lx⟩:=hx;cases rx;obtain⟨usx,vx,px,_⟩:=I.list qx
  rw[aV] at hy;subst hy;cases ry
  rw[show bD (.lst gx) (.bl gy)=false from by simp [bD]];exact SeqAt.EqAt.list_bool gy px.isList (by omega)
 | n,.lst gx,.int gy,A,x,y,u,v,hd,hu,hx,hy,rx,ry=>by
  rw[aV] at hx;obtain⟨ax,xsx,rfl,qx,lx⟩:=hx;cases rx;obtain⟨usx,vx,px,_⟩:=I.list qx
  rw[aV] at hy;subst hy;obtain⟨ty,rfl⟩:=ry
  rw[show bD (.lst gx) (.int gy)=false from by simp [bD]];exact SeqAt.EqAt.list_int gy ty px.isList (by omega)
 | n,.lst gx,.str gy,A,x,y,u,v,hd,hu,hx,hy,rx,ry=>by
  rw[aV] at hx;obtain⟨ax,xsx,rfl,qx,lx⟩:=hx;cases rx;obtain⟨usx,vx,px,_⟩:=I.list qx
  rw[aV] at hy;subst hy;obtain⟨ty,rfl⟩:=ry
  rw[show bD (.lst gx) (.str gy)=false from by simp [bD]];exact SeqAt.EqAt.list_str gy ty px.isList (by omega)
 | n,.lst gx,.tup gy,A,x,y,u,v,hd,hu,hx,hy,rx,ry=>by
  rw[aV] at hx;obtain⟨ax,xsx,rfl,qx,lx⟩:=hx;cases rx;obtain⟨usx,vx,px,_⟩:=I.list qx
  rw[aV] at hy;obtain⟨ay,xsy,rfl,qy,ly⟩:=hy;cases ry;obtain⟨usy,vy,py,_⟩:=I.tuple qy
  rw[show bD (.lst gx) (.tup gy)=false from by simp [bD]];exact SeqAt.EqAt.list_tuple px.isList py (by omega)
 | 0,.lst gx,.lst gy,A,x,y,u,v,hd,_,_,_,_,_=>by rw[j6] at hd;omega
 | n+1,.lst gx,.lst gy,A,x,y,u,v,hd,hu,hx,hy,rx,ry=>by
  rw[aV] at hx;obtain⟨ax,xsx,rfl,qx,lx⟩:=hx;cases rx;obtain⟨usx,vx,px,_⟩:=I.list qx
  rw[aV] at hy;obtain⟨ay,xsy,rfl,qy,ly⟩:=hy;cases ry;obtain⟨usy,vy,py,_⟩:=I.list qy
  by_cases hab:ax=ay
  ·subst hab
   have e:=BL I (.lst gx) (.lst gy) (.ref ax) (.ref ax) _ (by rw[aV];exact⟨_,_,rfl,qx,lx⟩) (by rw[aV];exact⟨_,_,rfl,qy,ly⟩) rfl rfl
   rw[e,jX];exact SeqAt.EqAt.same _
  have e1:=vx.length
  have e2:=vy.length
  have e3:=lx.length
  have e4:=ly.length
  rw[show bD (.lst gx) (.lst gy)=gU gx gy from by rw[bD]]
  have ex:gx.length=usx.toArray.size:=by rw[<- e3,e1,List.size_toArray]
  have ey:gy.length=usy.toArray.size:=by rw[<- e4,e2,List.size_toArray]
  by_cases hl:gx.length=gy.length
  ·rw[<- oT gx gy hl,ex]
   refine SeqAt.EqAt.of_refs hab ?_;exact SeqAt.RcAt.lists px.isList py.isList (by omega) (by omega) (λ j h1 h2=>kM (n:=0) (λ g h x y u v hm ix iy tx ty=>t9 I n g h A.in1 x y u v (by have:=gF hm;rw[j6] at hd;omega) (by show A.units+1+n < cLine;omega) ix iy tx ty) lx ly vx vy j h1 h2)
  ·rw[n5 gx gy hl]
   refine SeqAt.EqAt.of_refs hab ?_;exact SeqAt.RcAt.lists_lengths px.isList py.isList (by rw[<- ex,<- ey];simpa using hl) (by omega)
theorem rcG (I:Inv X pins σ H s) {A:Around} (hu:A.units+40 < cLine):∀ (g h:G) (x y:V) (u v:Value),j6 g<=30->aV X.K H g x->aV X.K H h y->bL x u->bL y v->SeqAt.RcAt A s u v (bD g h)
 | .non,.non,x,y,u,v,hd,hx,hy,rx,ry=>by
  rw[aV] at hx;subst hx;cases rx
  rw[aV] at hy;subst hy;cases ry
  rw[bD];exact SeqAt.RcAt.none_none
 | .non,.bl gy,x,y,u,v,hd,hx,hy,rx,ry=>by
  rw[aV] at hx;subst hx;cases rx
  rw[aV] at hy;subst hy;cases ry
  rw[show bD (.non) (.bl gy)=false from by simp [bD]];exact SeqAt.RcAt.none_bool gy
 | .non,.int gy,x,y,u,v,hd,hx,hy,rx,ry=>by
  rw[aV] at hx;subst hx;cases rx
  rw[aV] at hy;subst hy;obtain⟨ty,rfl⟩:=ry
  rw[show bD (.non) (.int gy)=false from by simp [bD]];exact SeqAt.RcAt.none_int gy ty
 | .non,.str gy,x,y,u,v,hd,hx,hy,rx,ry=>by
  rw[aV] at hx;subst hx;cases rx
  rw[aV] at hy;subst hy;obtain⟨ty,rfl⟩:=ry
  rw[show bD (.non) (.str gy)=false from by simp [bD]];exact SeqAt.RcAt.none_str gy ty
 | .non,.tup gy,x,y,u,v,hd,hx,hy,rx,ry=>by
  rw[aV] at hx;subst hx;cases rx
  rw[aV] at hy;obtain⟨ay,xsy,rfl,qy,ly⟩:=hy;cases ry;obtain⟨usy,vy,py,_⟩:=I.tuple qy
  rw[show bD (.non) (.tup gy)=false from by simp [bD]];exact SeqAt.RcAt.none_tuple py (by omega)
 | .non,.lst gy,x,y,u,v,hd,hx,hy,rx,ry=>by
  rw[aV] at hx;subst hx;cases rx
  rw[aV] at hy;obtain⟨ay,xsy,rfl,qy,ly⟩:=hy;cases ry;obtain⟨usy,vy,py,_⟩:=I.list qy
  rw[show bD (.non) (.lst gy)=false from by simp [bD]];exact SeqAt.RcAt.none_list py.isList (by omega)
 | .bl gx,.non,x,y,u,v,hd,hx,hy,rx,ry=>by
  rw[aV] at hx;subst hx;cases rx
  rw[aV] at hy;subst hy;cases ry
  rw[show bD (.bl gx) (.non)=false from by simp [bD]];exact SeqAt.RcAt.bool_none gx
 | .bl gx,.bl gy,x,y,u,v,hd,hx,hy,rx,ry=>by
  rw[aV] at hx;subst hx;cases rx
  rw[aV] at hy;subst hy;cases ry
  rw[bD];exact SeqAt.RcAt.bool_bool gx gy
 | .bl gx,.int gy,x,y,u,v,hd,hx,hy,rx,ry=>by
  rw[aV] at hx;subst hx;cases rx
  rw[aV] at hy;subst hy;obtain⟨ty,rfl⟩:=ry
  rw[bD];exact SeqAt.RcAt.bool_int gx gy ty
 | .bl gx,.str gy,x,y,u,v,hd,hx,hy,rx,ry=>by
  rw[aV] at hx;subst hx;cases rx
  rw[aV] at hy;subst hy;obtain⟨ty,rfl⟩:=ry
  rw[show bD (.bl gx) (.str gy)=false from by simp [bD]];exact SeqAt.RcAt.bool_str gx gy ty
 | .bl gx,.tup gy,x,y,u,v,hd,hx,hy,rx,ry=>by
  rw[aV] at hx;subst hx;cases rx
  rw[aV] at hy;obtain⟨ay,xsy,rfl,qy,ly⟩:=hy;cases ry;obtain⟨usy,vy,py,_⟩:=I.tuple qy
  rw[show bD (.bl gx) (.tup gy)=false from by simp [bD]];exact SeqAt.RcAt.bool_tuple gx py (by omega)
 | .bl gx,.lst gy,x,y,u,v,hd,hx,hy,rx,ry=>by
  rw[aV] at hx;subst hx;cases rx
  rw[aV] at hy;obtain⟨ay,xsy,rfl,qy,ly⟩:=hy;cases ry;obtain⟨usy,vy,py,_⟩:=I.list qy
  rw[show bD (.bl gx) (.lst gy)=false from by simp [bD]];exact SeqAt.RcAt.bool_list gx py.isList (by omega)
 | .int gx,.non,x,y,u,v,hd,hx,hy,rx,ry=>by
  rw[aV] at hx;subst hx;obtain⟨tx,rfl⟩:=rx
  rw[aV] at hy;subst hy;cases ry
  rw[show bD (.int gx) (.non)=false from by simp [bD]];exact SeqAt.RcAt.int_none gx tx
 | .int gx,.bl gy,x,y,u,v,hd,hx,hy,rx,ry=>by
  rw[aV] at hx;subst hx;obtain⟨tx,rfl⟩:=rx
  rw[aV] at hy;subst hy;cases ry
  rw[bD];exact SeqAt.RcAt.int_bool gx tx gy
 | .int gx,.int gy,x,y,u,v,hd,hx,hy,rx,ry=>by
  rw[aV] at hx;subst hx;obtain⟨tx,rfl⟩:=rx
  rw[aV] at hy;subst hy;obtain⟨ty,rfl⟩:=ry
  rw[bD];exact SeqAt.RcAt.int_int gx tx gy ty
 | .int gx,.str gy,x,y,u,v,hd,hx,hy,rx,ry=>by
  rw[aV] at hx;subst hx;obtain⟨tx,rfl⟩:=rx
  rw[aV] at hy;subst hy;obtain⟨ty,rfl⟩:=ry
  rw[show bD (.int gx) (.str gy)=false from by simp [bD]];exact SeqAt.RcAt.int_str gx tx gy ty
 | .int gx,.tup gy,x,y,u,v,hd,hx,hy,rx,ry=>by
  rw[aV] at hx;subst hx;obtain⟨tx,rfl⟩:=rx
  rw[aV] at hy;obtain⟨ay,xsy,rfl,qy,ly⟩:=hy;cases ry;obtain⟨usy,vy,py,_⟩:=I.tuple qy
  rw[show bD (.int gx) (.tup gy)=false from by simp [bD]];exact SeqAt.RcAt.int_tuple gx tx py (by omega)
 | .int gx,.lst gy,x,y,u,v,hd,hx,hy,rx,ry=>by
  rw[aV] at hx;subst hx;obtain⟨tx,rfl⟩:=rx
  rw[aV] at hy;obtain⟨ay,xsy,rfl,qy,ly⟩:=hy;cases ry;obtain⟨usy,vy,py,_⟩:=I.list qy
  rw[show bD (.int gx) (.lst gy)=false from by simp [bD]];exact SeqAt.RcAt.int_list gx tx py.isList (by omega)
 | .str gx,.non,x,y,u,v,hd,hx,hy,rx,ry=>by
  rw[aV] at hx;subst hx;obtain⟨tx,rfl⟩:=rx
  rw[aV] at hy;subst hy;cases ry
  rw[show bD (.str gx) (.non)=false from by simp [bD]];exact SeqAt.RcAt.str_none gx tx
 | .str gx,.bl gy,x,y,u,v,hd,hx,hy,rx,ry=>by
  rw[aV] at hx;subst hx;obtain⟨tx,rfl⟩:=rx
  rw[aV] at hy;subst hy;cases ry
  rw[show bD (.str gx) (.bl gy)=false from by simp [bD]];exact SeqAt.RcAt.str_bool gx tx gy
 | .str gx,.int gy,x,y,u,v,hd,hx,hy,rx,ry=>by
  rw[aV] at hx;subst hx;obtain⟨tx,rfl⟩:=rx
  rw[aV] at hy;subst hy;obtain⟨ty,rfl⟩:=ry
  rw[show bD (.str gx) (.int gy)=false from by simp [bD]];exact SeqAt.RcAt.str_int gx tx gy ty
 | .str gx,.str gy,x,y,u,v,hd,hx,hy,rx,ry=>by
  rw[aV] at hx;subst hx;obtain⟨tx,rfl⟩:=rx
  rw[aV] at hy;subst hy;obtain⟨ty,rfl⟩:=ry
  rw[bD];exact SeqAt.RcAt.str_str gx tx gy ty
 | .str gx,.tup gy,x,y,u,v,hd,hx,hy,rx,ry=>by
  rw[aV] at hx;subst hx;obtain⟨tx,rfl⟩:=rx
  rw[aV] at hy;obtain⟨ay,xsy,rfl,qy,ly⟩:=hy;cases ry;obtain⟨usy,vy,py,_⟩:=I.tuple qy
  rw[show bD (.str gx) (.tup gy)=false from by simp [bD]];exact SeqAt.RcAt.str_tuple gx tx py (by omega)
 | .str gx,.lst gy,x,y,u,v,hd,hx,hy,rx,ry=>by
  rw[aV] at hx;subst hx;obtain⟨tx,rfl⟩:=rx
  rw[aV] at hy;obtain⟨ay,xsy,rfl,qy,ly⟩:=hy;cases ry;obtain⟨usy,vy,py,_⟩:=I.list qy
  rw[show bD (.str gx) (.lst gy)=false from by simp [bD]];exact SeqAt.RcAt.str_list gx tx py.isList (by omega)
 | .tup gx,.non,x,y,u,v,hd,hx,hy,rx,ry=>by
  rw[aV] at hx;obtain⟨ax,xsx,rfl,qx,lx⟩:=hx;cases rx;obtain⟨usx,vx,px,_⟩:=I.tuple qx
  rw[aV] at hy;subst hy;cases ry
  rw[show bD (.tup gx) (.non)=false from by simp [bD]];exact SeqAt.RcAt.tuple_none px (by omega)
 | .tup gx,.bl gy,x,y,u,v,hd,hx,hy,rx,ry=>by
  rw[aV] at hx;obtain⟨ax,xsx,rfl,qx,lx⟩:=hx;cases rx;obtain⟨usx,vx,px,_⟩:=I.tuple qx
  rw[aV] at hy;subst hy;cases ry
  rw[show bD (.tup gx) (.bl gy)=false from by simp [bD]];exact SeqAt.RcAt.tuple_bool gy px (by omega)
 | .tup gx,.int gy,x,y,u,v,hd,hx,hy,rx,ry=>by
  rw[aV] at hx;obtain⟨ax,xsx,rfl,qx,lx⟩:=hx;cases rx;obtain⟨usx,vx,px,_⟩:=I.tuple qx
  rw[aV] at hy;subst hy;obtain⟨ty,rfl⟩:=ry
  rw[show bD (.tup gx) (.int gy)=false from by simp [bD]];exact SeqAt.RcAt.tuple_int gy ty px (by omega)
 | .tup gx,.str gy,x,y,u,v,hd,hx,hy,rx,ry=>by
  rw[aV] at hx;obtain⟨ax,xsx,rfl,qx,lx⟩:=hx;cases rx;obtain⟨usx,vx,px,_⟩:=I.tuple qx
  rw[aV] at hy;subst hy;obtain⟨ty,rfl⟩:=ry
  rw[show bD (.tup gx) (.str gy)=false from by simp [bD]];exact SeqAt.RcAt.tuple_str gy ty px (by omega)
 | .tup gx,.tup gy,x,y,u,v,hd,hx,hy,rx,ry=>by
  rw[aV] at hx;obtain⟨ax,xsx,rfl,qx,lx⟩:=hx;cases rx;obtain⟨usx,vx,px,_⟩:=I.tuple qx
  rw[aV] at hy;obtain⟨ay,xsy,rfl,qy,ly⟩:=hy;cases ry;obtain⟨usy,vy,py,_⟩:=I.tuple qy
  have e1:=vx.length
  have e2:=vy.length
  have e3:=lx.length
  have e4:=ly.length
  rw[show bD (.tup gx) (.tup gy)=gU gx gy from by rw[bD],<- nA gx gy]
  have ex:gx.length=usx.toArray.size:=by rw[<- e3,e1,List.size_toArray]
  have ey:gy.length=usy.toArray.size:=by rw[<- e4,e2,List.size_toArray]
  rw[ex,ey]
  exact SeqAt.RcAt.tuples px py (by omega) (λ j h1 h2=>kM (n:=0) (λ g h x y u v hm ix iy tx ty=>t9 I 30 g h A.in1 x y u v (by have:=gF hm;rw[j6] at hd;omega) (by show A.units+1+30 < cLine;omega) ix iy tx ty) lx ly vx vy j h1 h2)
 | .tup gx,.lst gy,x,y,u,v,hd,hx,hy,rx,ry=>by
  rw[aV] at hx;obtain⟨ax,xsx,rfl,qx,lx⟩:=hx;cases rx;obtain⟨usx,vx,px,_⟩:=I.tuple qx
  rw[aV] at hy;obtain⟨ay,xsy,rfl,qy,ly⟩:=hy;cases ry;obtain⟨usy,vy,py,_⟩:=I.list qy
  rw[show bD (.tup gx) (.lst gy)=false from by simp [bD]];exact SeqAt.RcAt.tuple_list px py.isList (by omega)
 | .lst gx,.non,x,y,u,v,hd,hx,hy,rx,ry=>by
  rw[aV] at hx;obtain⟨ax,xsx,rfl,qx,lx⟩:=hx;cases rx;obtain⟨usx,vx,px,_⟩:=I.list qx
  rw[aV] at hy;subst hy;cases ry
  rw[show bD (.lst gx) (.non)=false from by simp [bD]];exact SeqAt.RcAt.list_none px.isList (by omega)
 | .lst gx,.bl gy,x,y,u,v,hd,hx,hy,rx,ry=>by
  rw[aV] at hx;obtain⟨ax,xsx,rfl,qx,lx⟩:=hx;cases rx;obtain⟨usx,vx,px,_⟩:=I.list qx
  rw[aV] at hy;subst hy;cases ry
  rw[show bD (.lst gx) (.bl gy)=false from by simp [bD]];exact SeqAt.RcAt.list_bool gy px.isList (by omega)
 | .lst gx,.int gy,x,y,u,v,hd,hx,hy,rx,ry=>by
  rw[aV] at hx;obtain⟨ax,xsx,rfl,qx,lx⟩:=hx;cases rx;obtain⟨usx,vx,px,_⟩:=I.list qx
  rw[aV] at hy;subst hy;obtain⟨ty,rfl⟩:=ry
  rw[show bD (.lst gx) (.int gy)=false from by simp [bD]];exact SeqAt.RcAt.list_int gy ty px.isList (by omega)
 | .lst gx,.str gy,x,y,u,v,hd,hx,hy,rx,ry=>by
  rw[aV] at hx;obtain⟨ax,xsx,rfl,qx,lx⟩:=hx;cases rx;obtain⟨usx,vx,px,_⟩:=I.list qx
  rw[aV] at hy;subst hy;obtain⟨ty,rfl⟩:=ry
  rw[show bD (.lst gx) (.str gy)=false from by simp [bD]];exact SeqAt.RcAt.list_str gy ty px.isList (by omega)
 | .lst gx,.tup gy,x,y,u,v,hd,hx,hy,rx,ry=>by
  rw[aV] at hx;obtain⟨ax,xsx,rfl,qx,lx⟩:=hx;cases rx;obtain⟨usx,vx,px,_⟩:=I.list qx
  rw[aV] at hy;obtain⟨ay,xsy,rfl,qy,ly⟩:=hy;cases ry;obtain⟨usy,vy,py,_⟩:=I.tuple qy
  rw[show bD (.lst gx) (.tup gy)=false from by simp [bD]];exact SeqAt.RcAt.list_tuple px.isList py (by omega)
 | .lst gx,.lst gy,x,y,u,v,hd,hx,hy,rx,ry=>by
  rw[aV] at hx;obtain⟨ax,xsx,rfl,qx,lx⟩:=hx;cases rx;obtain⟨usx,vx,px,_⟩:=I.list qx
  rw[aV] at hy;obtain⟨ay,xsy,rfl,qy,ly⟩:=hy;cases ry;obtain⟨usy,vy,py,_⟩:=I.list qy
  have e1:=vx.length
  have e2:=vy.length
  have e3:=lx.length
  have e4:=ly.length
  rw[show bD (.lst gx) (.lst gy)=gU gx gy from by rw[bD]]
  have ex:gx.length=usx.toArray.size:=by rw[<- e3,e1,List.size_toArray]
  have ey:gy.length=usy.toArray.size:=by rw[<- e4,e2,List.size_toArray]
  by_cases hl:gx.length=gy.length
  ·rw[<- oT gx gy hl,ex]
   exact SeqAt.RcAt.lists px.isList py.isList (by omega) (by omega) (λ j h1 h2=>kM (n:=0) (λ g h x y u v hm ix iy tx ty=>t9 I 30 g h A.in1 x y u v (by have:=gF hm;rw[j6] at hd;omega) (by show A.units+1+30 < cLine;omega) ix iy tx ty) lx ly vx vy j h1 h2)
  ·rw[n5 gx gy hl]
   exact SeqAt.RcAt.lists_lengths px.isList py.isList (by rw[<- ex,<- ey];simpa using hl) (by omega)
theorem rneG (I:Inv X pins σ H s) {A:Around} (hu:A.units+40 < cLine):∀ (g h:G) (x y:V) (u v:Value),j6 g<=30->aV X.K H g x->aV X.K H h y->bL x u->bL y v->SeqAt.RcNeAt A s u v (!bD g h)
 | .non,.non,x,y,u,v,hd,hx,hy,rx,ry=>by
  rw[aV] at hx;subst hx;cases rx
  rw[aV] at hy;subst hy;cases ry
  rw[bD];exact SeqAt.RcNeAt.none_none
 | .non,.bl gy,x,y,u,v,hd,hx,hy,rx,ry=>by
  rw[aV] at hx;subst hx;cases rx
  rw[aV] at hy;subst hy;cases ry
  rw[show bD (.non) (.bl gy)=false from by simp [bD]];exact SeqAt.RcNeAt.none_bool gy
 | .non,.int gy,x,y,u,v,hd,hx,hy,rx,ry=>by
  rw[aV] at hx;subst hx;cases rx
  rw[aV] at hy;subst hy;obtain⟨ty,rfl⟩:=ry
  rw[show bD (.non) (.int gy)=false from by simp [bD]];exact SeqAt.RcNeAt.none_int gy ty
 | .non,.str gy,x,y,u,v,hd,hx,hy,rx,ry=>by
  rw[aV] at hx;subst hx;cases rx
  rw[aV] at hy;subst hy;obtain⟨ty,rfl⟩:=ry
  rw[show bD (.non) (.str gy)=false from by simp [bD]];exact SeqAt.RcNeAt.none_str gy ty
 | .non,.tup gy,x,y,u,v,hd,hx,hy,rx,ry=>by
  rw[aV] at hx;subst hx;cases rx
  rw[aV] at hy;obtain⟨ay,xsy,rfl,qy,ly⟩:=hy;cases ry;obtain⟨usy,vy,py,_⟩:=I.tuple qy
  rw[show bD (.non) (.tup gy)=false from by simp [bD]];exact SeqAt.RcNeAt.none_tuple py (by omega)
 | .non,.lst gy,x,y,u,v,hd,hx,hy,rx,ry=>by
  rw[aV] at hx;subst hx;cases rx
  rw[aV] at hy;obtain⟨ay,xsy,rfl,qy,ly⟩:=hy;cases ry;obtain⟨usy,vy,py,_⟩:=I.list qy
  rw[show bD (.non) (.lst gy)=false from by simp [bD]];exact SeqAt.RcNeAt.none_list py.isList (by omega)
 | .bl gx,.non,x,y,u,v,hd,hx,hy,rx,ry=>by
  rw[aV] at hx;subst hx;cases rx
  rw[aV] at hy;subst hy;cases ry
  rw[show bD (.bl gx) (.non)=false from by simp [bD]];exact SeqAt.RcNeAt.bool_none gx
 | .bl gx,.bl gy,x,y,u,v,hd,hx,hy,rx,ry=>by
  rw[aV] at hx;subst hx;cases rx
  rw[aV] at hy;subst hy;cases ry
  rw[bD];exact SeqAt.RcNeAt.bool_bool gx gy
 | .bl gx,.int gy,x,y,u,v,hd,hx,hy,rx,ry=>by
  rw[aV] at hx;subst hx;cases rx
  rw[aV] at hy;subst hy;obtain⟨ty,rfl⟩:=ry
  rw[bD];exact SeqAt.RcNeAt.bool_int gx gy ty
 | .bl gx,.str gy,x,y,u,v,hd,hx,hy,rx,ry=>by
  rw[aV] at hx;subst hx;cases rx
  rw[aV] at hy;subst hy;obtain⟨ty,rfl⟩:=ry
  rw[show bD (.bl gx) (.str gy)=false from by simp [bD]];exact SeqAt.RcNeAt.bool_str gx gy ty
 | .bl gx,.tup gy,x,y,u,v,hd,hx,hy,rx,ry=>by
  rw[aV] at hx;subst hx;cases rx
  rw[aV] at hy;obtain⟨ay,xsy,rfl,qy,ly⟩:=hy;cases ry;obtain⟨usy,vy,py,_⟩:=I.tuple qy
  rw[show bD (.bl gx) (.tup gy)=false from by simp [bD]];exact SeqAt.RcNeAt.bool_tuple gx py (by omega)
 | .bl gx,.lst gy,x,y,u,v,hd,hx,hy,rx,ry=>by
  rw[aV] at hx;subst hx;cases rx
  rw[aV] at hy;obtain⟨ay,xsy,rfl,qy,ly⟩:=hy;cases ry;obtain⟨usy,vy,py,_⟩:=I.list qy
  rw[show bD (.bl gx) (.lst gy)=false from by simp [bD]];exact SeqAt.RcNeAt.bool_list gx py.isList (by omega)
 | .int gx,.non,x,y,u,v,hd,hx,hy,rx,ry=>by
  rw[aV] at hx;subst hx;obtain⟨tx,rfl⟩:=rx
  rw[aV] at hy;subst hy;cases ry
  rw[show bD (.int gx) (.non)=false from by simp [bD]];exact SeqAt.RcNeAt.int_none gx tx
 | .int gx,.bl gy,x,y,u,v,hd,hx,hy,rx,ry=>by
  rw[aV] at hx;subst hx;obtain⟨tx,rfl⟩:=rx
  rw[aV] at hy;subst hy;cases ry
  rw[bD];exact SeqAt.RcNeAt.int_bool gx tx gy
 | .int gx,.int gy,x,y,u,v,hd,hx,hy,rx,ry=>by
  rw[aV] at hx;subst hx;obtain⟨tx,rfl⟩:=rx
  rw[aV] at hy;subst hy;obtain⟨ty,rfl⟩:=ry
  rw[bD];exact SeqAt.RcNeAt.int_int gx tx gy ty
 | .int gx,.str gy,x,y,u,v,hd,hx,hy,rx,ry=>by
  rw[aV] at hx;subst hx;obtain⟨tx,rfl⟩:=rx
  rw[aV] at hy;subst hy;obtain⟨ty,rfl⟩:=ry
  rw[show bD (.int gx) (.str gy)=false from by simp [bD]];exact SeqAt.RcNeAt.int_str gx tx gy ty
 | .int gx,.tup gy,x,y,u,v,hd,hx,hy,rx,ry=>by
  rw[aV] at hx;subst hx;obtain⟨tx,rfl⟩:=rx
  rw[aV] at hy;obtain⟨ay,xsy,rfl,qy,ly⟩:=hy;cases ry;obtain⟨usy,vy,py,_⟩:=I.tuple qy
  rw[show bD (.int gx) (.tup gy)=false from by simp [bD]];exact SeqAt.RcNeAt.int_tuple gx tx py (by omega)
 | .int gx,.lst gy,x,y,u,v,hd,hx,hy,rx,ry=>by
  rw[aV] at hx;subst hx;obtain⟨tx,rfl⟩:=rx
  rw[aV] at hy;obtain⟨ay,xsy,rfl,qy,ly⟩:=hy;cases ry;obtain⟨usy,vy,py,_⟩:=I.list qy
  rw[show bD (.int gx) (.lst gy)=false from by simp [bD]];exact SeqAt.RcNeAt.int_list gx tx py.isList (by omega)
 | .str gx,.non,x,y,u,v,hd,hx,hy,rx,ry=>by
  rw[aV] at hx;subst hx;obtain⟨tx,rfl⟩:=rx
  rw[aV] at hy;subst hy;cases ry
  rw[show bD (.str gx) (.non)=false from by simp [bD]];exact SeqAt.RcNeAt.str_none gx tx
 | .str gx,.bl gy,x,y,u,v,hd,hx,hy,rx,ry=>by
  rw[aV] at hx;subst hx;obtain⟨tx,rfl⟩:=rx
  rw[aV] at hy;subst hy;cases ry
  rw[show bD (.str gx) (.bl gy)=false from by simp [bD]];exact SeqAt.RcNeAt.str_bool gx tx gy
 | .str gx,.int gy,x,y,u,v,hd,hx,hy,rx,ry=>by
  rw[aV] at hx;subst hx;obtain⟨tx,rfl⟩:=rx
  rw[aV] at hy;subst hy;obtain⟨ty,rfl⟩:=ry
  rw[show bD (.str gx) (.int gy)=false from by simp [bD]];exact SeqAt.RcNeAt.str_int gx tx gy ty
 | .str gx,.str gy,x,y,u,v,hd,hx,hy,rx,ry=>by
  rw[aV] at hx;subst hx;obtain⟨tx,rfl⟩:=rx
  rw[aV] at hy;subst hy;obtain⟨ty,rfl⟩:=ry
  rw[bD];exact SeqAt.RcNeAt.str_str gx tx gy ty
 | .str gx,.tup gy,x,y,u,v,hd,hx,hy,rx,ry=>by
  rw[aV] at hx;subst hx;obtain⟨tx,rfl⟩:=rx
  rw[aV] at hy;obtain⟨ay,xsy,rfl,qy,ly⟩:=hy;cases ry;obtain⟨usy,vy,py,_⟩:=I.tuple qy
  rw[show bD (.str gx) (.tup gy)=false from by simp [bD]];exact SeqAt.RcNeAt.str_tuple gx tx py (by omega)
 | .str gx,.lst gy,x,y,u,v,hd,hx,hy,rx,ry=>by
  rw[aV] at hx;subst hx;obtain⟨tx,rfl⟩:=rx
  rw[aV] at hy;obtain⟨ay,xsy,rfl,qy,ly⟩:=hy;cases ry;obtain⟨usy,vy,py,_⟩:=I.list qy
  rw[show bD (.str gx) (.lst gy)=false from by simp [bD]];exact SeqAt.RcNeAt.str_list gx tx py.isList (by omega)
 | .tup gx,.non,x,y,u,v,hd,hx,hy,rx,ry=>by
  rw[aV] at hx;obtain⟨ax,xsx,rfl,qx,lx⟩:=hx;cases rx;obtain⟨usx,vx,px,_⟩:=I.tuple qx
  rw[aV] at hy;subst hy;cases ry
  rw[show bD (.tup gx) (.non)=false from by simp [bD]];exact SeqAt.RcNeAt.tuple_none px (by omega)
 | .tup gx,.bl gy,x,y,u,v,hd,hx,hy,rx,ry=>by
  rw[aV] at hx;obtain⟨ax,xsx,rfl,qx,lx⟩:=hx;cases rx;obtain⟨usx,vx,px,_⟩:=I.tuple qx
  rw[aV] at hy;subst hy;cases ry
  rw[show bD (.tup gx) (.bl gy)=false from by simp [bD]];exact SeqAt.RcNeAt.tuple_bool gy px (by omega)
 | .tup gx,.int gy,x,y,u,v,hd,hx,hy,rx,ry=>by
  rw[aV] at hx;obtain⟨ax,xsx,rfl,qx,lx⟩:=hx;cases rx;obtain⟨usx,vx,px,_⟩:=I.tuple qx
  rw[aV] at hy;subst hy;obtain⟨ty,rfl⟩:=ry
  rw[show bD (.tup gx) (.int gy)=false from by simp [bD]];exact SeqAt.RcNeAt.tuple_int gy ty px (by omega)
 | .tup gx,.str gy,x,y,u,v,hd,hx,hy,rx,ry=>by
  rw[aV] at hx;obtain⟨ax,xsx,rfl,qx,lx⟩:=hx;cases rx;obtain⟨usx,vx,px,_⟩:=I.tuple qx
  rw[aV] at hy;subst hy;obtain⟨ty,rfl⟩:=ry
  rw[show bD (.tup gx) (.str gy)=false from by simp [bD]];exact SeqAt.RcNeAt.tuple_str gy ty px (by omega)
 | .tup gx,.tup gy,x,y,u,v,hd,hx,hy,rx,ry=>by
  rw[aV] at hx;obtain⟨ax,xsx,rfl,qx,lx⟩:=hx;cases rx;obtain⟨usx,vx,px,_⟩:=I.tuple qx
  rw[aV] at hy;obtain⟨ay,xsy,rfl,qy,ly⟩:=hy;cases ry;obtain⟨usy,vy,py,_⟩:=I.tuple qy
  have e1:=vx.length
  have e2:=vy.length
  have e3:=lx.length
  have e4:=ly.length
  rw[show bD (.tup gx) (.tup gy)=gU gx gy from by rw[bD],<- nA gx gy]
  have ex:gx.length=usx.toArray.size:=by rw[<- e3,e1,List.size_toArray]
  have ey:gy.length=usy.toArray.size:=by rw[<- e4,e2,List.size_toArray]
  rw[ex,ey]
  exact SeqAt.RcNeAt.tuples px py (by omega) (λ j h1 h2=>kM (n:=0) (λ g h x y u v hm ix iy tx ty=>t9 I 30 g h A.in1 x y u v (by have:=gF hm;rw[j6] at hd;omega) (by show A.units+1+30 < cLine;omega) ix iy tx ty) lx ly vx vy j h1 h2)
 | .tup gx,.lst gy,x,y,u,v,hd,hx,hy,rx,ry=>by
  rw[aV] at hx;obtain⟨ax,xsx,rfl,qx,lx⟩:=hx;cases rx;obtain⟨usx,vx,px,_⟩:=I.tuple qx
  rw[aV] at hy;obtain⟨ay,xsy,rfl,qy,ly⟩:=hy;cases ry;obtain⟨usy,vy,py,_⟩:=I.list qy
  rw[show bD (.tup gx) (.lst gy)=false from by simp [bD]];exact SeqAt.RcNeAt.tuple_list px py.isList (by omega)
 | .lst gx,.non,x,y,u,v,hd,hx,hy,rx,ry=>by
  rw[aV] at hx;obtain⟨ax,xsx,rfl,qx,lx⟩:=hx;cases rx;obtain⟨usx,vx,px,_⟩:=I.list qx
  rw[aV] at hy;subst hy;cases ry
  rw[show bD (.lst gx) (.non)=false from by simp [bD]];exact SeqAt.RcNeAt.list_none px.isList (by omega)
 | .lst gx,.bl gy,x,y,u,v,hd,hx,hy,rx,ry=>by
  rw[aV] at hx;obtain⟨ax,xsx,rfl,qx,lx⟩:=hx;cases rx;obtain⟨usx,vx,px,_⟩:=I.list qx
  rw[aV] at hy;subst hy;cases ry
  rw[show bD (.lst gx) (.bl gy)=false from by simp [bD]];exact SeqAt.RcNeAt.list_bool gy px.isList (by omega)
 | .lst gx,.int gy,x,y,u,v,hd,hx,hy,rx,ry=>by
  rw[aV] at hx;obtain⟨ax,xsx,rfl,qx,lx⟩:=hx;cases rx;obtain⟨usx,vx,px,_⟩:=I.list qx
  rw[aV] at hy;subst hy;obtain⟨ty,rfl⟩:=ry
  rw[show bD (.lst gx) (.int gy)=false from by simp [bD]];exact SeqAt.RcNeAt.list_int gy ty px.isList (by omega)
 | .lst gx,.str gy,x,y,u,v,hd,hx,hy,rx,ry=>by
  rw[aV] at hx;obtain⟨ax,xsx,rfl,qx,lx⟩:=hx;cases rx;obtain⟨usx,vx,px,_⟩:=I.list qx
  rw[aV] at hy;subst hy;obtain⟨ty,rfl⟩:=ry
  rw[show bD (.lst gx) (.str gy)=false from by simp [bD]];exact SeqAt.RcNeAt.list_str gy ty px.isList (by omega)
 | .lst gx,.tup gy,x,y,u,v,hd,hx,hy,rx,ry=>by
  rw[aV] at hx;obtain⟨ax,xsx,rfl,qx,lx⟩:=hx;cases rx;obtain⟨usx,vx,px,_⟩:=I.list qx
  rw[aV] at hy;obtain⟨ay,xsy,rfl,qy,ly⟩:=hy;cases ry;obtain⟨usy,vy,py,_⟩:=I.tuple qy
  rw[show bD (.lst gx) (.tup gy)=false from by simp [bD]];exact SeqAt.RcNeAt.list_tuple px.isList py (by omega)
 | .lst gx,.lst gy,x,y,u,v,hd,hx,hy,rx,ry=>by
  rw[aV] at hx;obtain⟨ax,xsx,rfl,qx,lx⟩:=hx;cases rx;obtain⟨usx,vx,px,_⟩:=I.list qx
  rw[aV] at hy;obtain⟨ay,xsy,rfl,qy,ly⟩:=hy;cases ry;obtain⟨usy,vy,py,_⟩:=I.list qy
  have e1:=vx.length
  have e2:=vy.length
  have e3:=lx.length
  have e4:=ly.length
  rw[show bD (.lst gx) (.lst gy)=gU gx gy from by rw[bD]]
  have ex:gx.length=usx.toArray.size:=by rw[<- e3,e1,List.size_toArray]
  have ey:gy.length=usy.toArray.size:=by rw[<- e4,e2,List.size_toArray]
  by_cases hl:gx.length=gy.length
  ·rw[<- oT gx gy hl,ex]
   exact SeqAt.RcNeAt.lists px.isList py.isList (by omega) (by omega) (λ j h1 h2=>kM (n:=0) (λ g h x y u v hm ix iy tx ty=>t9 I 30 g h A.in1 x y u v (by have:=gF hm;rw[j6] at hd;omega) (by show A.units+1+30 < cLine;omega) ix iy tx ty) lx ly vx vy j h1 h2)
  ·rw[n5 gx gy hl]
   exact SeqAt.RcNeAt.lists_lengths px.isList py.isList (by rw[<- ex,<- ey];simpa using hl) (by omega)
noncomputable def JY (K:PySem.W.Frag):R2:=λ x y H Q=>∃ g h,j6 g<=30/\aV K H g x/\aV K H h y/\Q (.bl (bD g h)) H
noncomputable def JQ (K:PySem.W.Frag):R2:=λ x y H Q=>∃ g h,j6 g<=30/\aV K H g x/\aV K H h y/\Q (.bl (!bD g h)) H
theorem I0 (hu:X.A.units+64 < cLine):iU X (compareOp .Eq) (JY X.K):=by
 intro pins s σ H x y v u Q I rx ry h
 obtain⟨g,h,hd,ix,iy,q⟩:=h
 exact rcG I (by omega) g h x y v u hd ix iy rx ry X.prog X.w X.xe _ ⟨.bl _,H,I,rfl,q⟩
theorem HX (hu:X.A.units+64 < cLine):iU X (compareOp .NotEq) (JQ X.K):=by
 intro pins s σ H x y v u Q I rx ry h
 obtain⟨g,h,hd,ix,iy,q⟩:=h
 exact rneG I (by omega) g h x y v u hd ix iy rx ry X.prog X.w X.xe _ ⟨.bl _,H,I,rfl,q⟩
theorem FI {K:PySem.W.Frag} (hK:X.K=K) (hu:X.A.units+64 < cLine):iU X (compareOp .Eq) (JY K):=by subst hK;exact I0 hu
theorem FH {K:PySem.W.Frag} (hK:X.K=K) (hu:X.A.units+64 < cLine):iU X (compareOp .NotEq) (JQ K):=by subst hK;exact HX hu
end
section
variable {K:PySem.W.Frag}{H:Hp}
mutual
noncomputable def yC:D->G
 | .non=>.non
 | .bl b=>.bl b
 | .int i=>.int i
 | .str z=>.str z
 | .tup ds=>.tup (rG ds)
noncomputable def rG:List D->List G
 | []=>[]
 | d::ds=>yC d::rG ds
end
mutual
theorem Is.g:∀ {d:D}{x:V},Is K H d x->aV K H (yC d) x
 | .non,x,h=>by rw[Is] at h;rw[yC,aV];exact h
 | .bl b,x,h=>by rw[Is] at h;rw[yC,aV];exact h
 | .int i,x,h=>by rw[Is] at h;rw[yC,aV];exact h
 | .str z,x,h=>by rw[Is] at h;rw[yC,aV];exact h
 | .tup ds,x,h=>by
  rw[Is] at h;rw[yC,aV]
  obtain⟨a,xs,e,q,l⟩:=h
  exact⟨a,xs,e,q,IsL.g l⟩
theorem IsL.g:∀ {ds:List D}{xs:List V},IsL K H ds xs->gM K H (rG ds) xs
 | [],xs,h=>by rw[IsL] at h;rw[rG,gM];exact h
 | d::ds,xs,h=>by
  rw[IsL] at h;rw[rG,gM]
  obtain⟨x,r,e,h1,h2⟩:=h
  exact⟨x,r,e,Is.g h1,IsL.g h2⟩
end
end
end L2
namespace L2
open PySem PySem.Spec PyProof.Rows TwZ
section
variable {X:Cx}
end
end L2
namespace L2
open PySem PySem.Spec PyProof.Rows TwZ
section
variable {X:Cx}{K:PySem.W.Frag}
noncomputable def yK (K:PySem.W.Frag):V->List V->Hp->VK->Prop:=λ x vs H Q=>∃ (l:Addr) (xs:List V) (y:V),x=.ref l/\vs=[y]/\bO K H l xs/\gZ y=true/\xs.all gZ=true/\Q (.int ((xs.countP λ z=>w4 z y:Nat):Int)) H
theorem qZ {x:V}:∀ {xs:List V}{us:List Value},bY xs us->xs.all gZ=true->us.countP (zL x)=xs.countP λ y=>w4 y x
 | _,_,.nil,_=>rfl
 | y::xs,u::us,.cons r t,f=>by
  rw[List.all_cons,Bool.and_eq_true] at f
  rw[List.countP_cons,List.countP_cons,qV r f.1,qZ t f.2]
theorem AK:MtM X "tuple.count" (yK X.K):=by
 intro pins s σ H x vs v us Q I rx rv h
 obtain⟨l,xs,y,rfl,rfl,hq,fy,fx,q⟩:=h
 cases rx
 obtain⟨u,rfl,ru⟩:=rv.one
 obtain⟨its,r,ht,hz⟩:=I.tuple hq
 obtain⟨⟨cls,dd,data,sl⟩,e,hc,n,hd⟩:=id ht
 simp only at hc hd
 subst hc hd
 refine call_meets F.slot_tuple_count ⟨_,e,rfl⟩ F.entry_tuple_count (F.args_tuple_count_2 _ _) (SeqAt.tuple_countAt l its.toArray n dd sl u (zL y)) ⟨e,λ w hw=>jR ru fy r fx w (by simpa using hw),?_⟩
 refine⟨.int _,H,I.tok _,⟨_,rfl⟩,?_⟩
 rw[show its.toArray.toList=its from rfl,qZ r fx]
 exact q
theorem xK (hK:X.K=K):MtM X "tuple.count" (yK K):=by subst hK;exact AK
noncomputable def Pl (H:Hp) (a:Addr) (xs:List V):Prop:=∃ o:Obj,H a=some (.frz o (.tup xs))/\o.dict=none
theorem Pl.sq {H:Hp}{a:Addr}{xs:List V} (h:Pl H a xs):bO K H a xs:=by obtain⟨o,h,_⟩:=h;exact .inl (.inr ⟨o,h⟩)
theorem Pl.same {H H':Hp}{a:Addr}{xs:List V} (h:Pl H a xs) (s:aH H H'):Pl H' a xs:=by obtain⟨o,h,d⟩:=h;exact⟨o,s _ _ h,d⟩
theorem Pl.but {H H':Hp}{a t:Addr}{xs:List V} (h:Pl H a xs) (s:d8 t H H') (hm:iY (H t)):Pl H' a xs:=by
 obtain⟨o,h,d⟩:=h
 refine⟨o,s _ _ (λ z=>?_) h,d⟩
 rw[<- z,h] at hm;exact hm
noncomputable def GC (K:PySem.W.Frag):List V->Hp->VK->Prop:=λ xs H Q=>∃ p ys,xs=[.ref p]/\bR K H p ys/\∀ (l:Addr) (o:Obj),H l=none->o.dict=none->Q (.ref l) (upd H l (.frz o (.tup ys)))
theorem B5:g7 X (.type "tuple") (GC X.K):=by
 intro pins s σ H xs us Q I r h
 obtain⟨p,ys,rfl,hq,q⟩:=h
 obtain⟨u,rfl,rx⟩:=oY r
 cases rx
 obtain⟨its,r',pl,hz⟩:=I.list hq
 have hlen:=r'.length
 refine call_tuple_list pl.isList (λ h' kp=>?_) (by simp only [List.size_toArray] <;> omega)
 have I1:Inv X pins σ H { s with heap:=h' }:=I.kept (t':=s.toks) kp
 have I2:Inv X pins σ (upd H h'.objs.size (.frz { cls:=.type "tuple",data:=.seq its.toArray } (.tup ys))) { s with heap:=h'.push { cls:=.type "tuple",data:=.seq its.toArray } }:=
  I1.laid (t':=s.toks) (λ b o e=>Heap.get?_push_of_some _ e) (Nat.le_refl _) (show d4 X.prog X.w _ _ _ (.frz _ (.tup ys)) from ⟨Heap.get?_push_size _ rfl,hz,its,r',IsTup.new _ _⟩)
 exact⟨.ref h'.objs.size,_,I2,rfl,q _ _ (I1.hok.fresh (Nat.le_refl _)) rfl⟩
theorem y4 (hK:X.K=K):g7 X (.type "tuple") (GC K):=by subst hK;exact B5
noncomputable def tBMP (r:V->List V->Hp->VK->Prop) (to:TE) (t:TA):TE:=λ σ H Q=>to σ H λ x H1=>(∃ p xs,x=.ref p/\Pl H1 p xs)/\t σ H1 λ vs H2=>r x vs H2 Q
theorem HV {o e:Expr}{es:List Expr}{to:TE}{t:TA}{name:Str}{apos cpos:Pos}{id:String}{r:V->List V->Hp->VK->Prop} (pa:PlainAttrs "tuple") (slot:Slot "tuple" name id) (hty:typeOf (.builtin id)=pure (.type "method_descriptor")) (hm:MtR X id r) (ho:PE X o to) (ha:PA X (e::es) t)
  (hbase:attributeBase o name X.env (eval o X.env)=eval o X.env:=by rfl)
  (hfew:((backTo cpos (starEach (e::es) X.env)).all (λ x=>!x.1) && (backToKw cpos (keywordEach [] X.env)).all (λ x=>x.1.isSome)
   && decide ((e::es).length+([]:List Keyword).length+(if ([]:List Keyword).isEmpty then 0 else 1) < 30))=true:=by rfl)
  (hline:(apos.endLine == cpos.line)=true:=by rfl) (hs:starEach (e::es) X.env=(false,eval e X.env)::starEach es X.env:=by rfl) (hplain:(backTo cpos (starEach es X.env)).any (·.1)=false:=by rfl) :
  PE X (.Call (.Attribute o name apos) (e::es) [] cpos) (tBMP r to t):=by
 intro pins s σ H Q I h
 refine wpAny_Call_method_late hbase hfew hline rfl (cX (ho pins s σ H _ I h) λ v s1 ⟨x,H1,I1,r1,ty,q1⟩=>?_)
 have hT:s1.TypeIs v "tuple" /\ ∀ a,v=.ref a->∃ ob,s1.heap.get? a=some ob/\ob.dict=none:=by
  obtain⟨p,xs,rfl,ob,e,d⟩:=ty
  cases r1
  obtain⟨e1,z,its,rv,o2,e2,c2,_⟩:=(show d4 X.prog X.w H1 s1.heap p (.frz ob (.tup xs)) from I1.hok p _ e)
  refine⟨⟨o2,e2,c2⟩,λ a e3=>?_⟩
  cases e3
  exact⟨ob,e1,d⟩
 refine⟨"tuple",id,pa,slot,hty,hT.1,hT.2,?_⟩
 have hA:=ha cpos pins s1 σ H1 _ I1 q1
 rw[hs] at hA ⊢
 refine Calls.callWith_builtin (by show (false || (backTo cpos (starEach es X.env)).any (·.1))=false;rw[hplain] <;> rfl) (Calls.evalArgs_plain ?_)
 exact cX hA λ us s2 ⟨vs,H2,I2,r2,q2⟩=>hm pins s2 σ H2 x vs v us Q I2 r1 r2 q2
end
end L2
namespace Tw
open PySem L2
section
variable {P:Program}{w:World}{K:PySem.W.Frag}{mg:Str->Option Value}{base:Heap}
noncomputable def lJ (K:PySem.W.Frag) (H:Hp) (t:Tick) (v:V):Prop:=∃ (f:Addr) (st:V) (tp:Addr),v=.ref f/\bO K H f [st,.ref tp,.int t.ground]/\Is K H (A9 t.held t.coming t.doors) st/\Pl H tp (t.tip.map λ (j:Nat)=>V.int (j:Int))
theorem lJ.same {H H':Hp}{t:Tick}{v:V} (h:lJ K H t v) (s:aH H H'):lJ K H' t v:=by
 obtain⟨f,st,tp,e,q,i,p⟩:=h
 exact⟨f,st,tp,e,s.tup q,Is.mono s.ts _ _ i,p.same s⟩
theorem lJ.but {H H':Hp}{t:Tick}{v:V}{a:Addr} (h:lJ K H t v) (s:d8 a H H') (hm:iY (H a)):lJ K H' t v:=by
 obtain⟨f,st,tp,e,q,i,p⟩:=h
 exact⟨f,st,tp,e,s.ts hm _ _ q,Is.mono (s.ts hm) _ _ i,p.but s hm⟩
noncomputable def tQ (K:PySem.W.Frag):Sp:=λ args H Q _=>∃ (x y:V) (z:Addr) (net:Net) (held coming poured:List Int) (doors:List Bool),args=[x,y,.ref z]/\Is K H (eF net) x/\Is K H (A9 held coming doors) y/\bO K H z (poured.map V.int)/\
 NetOk net/\StOk net held coming doors/\poured.length=net.vs.length/\∀ (v:V) H',aH H H'->lJ K H' (bV net held coming poured doors) v->Q v H'
theorem oH {f fF fS fD:Addr}{fd fdF fdS fdD:FuncData} (F:Fun K "tick_behind" "tick_behind" (bH 13) f fd) (T:Txt mg) (G_filled:Callee P w K mg base "filled" ["spouts","state","poured"] 1 (pK K) fF fdF)
  (G_settle:Callee P w K mg base "settle" ["vessel","has","sent"] 3 (pI K) fS fdS) (G_doors_behind:Callee P w K mg base "doors_behind" ["vessels","doors","tipped"] 1 (tZ K) fD fdD):FnOk P w K mg base j3 4 f fd ["net","state","poured"] (tQ K):=by
 refine F.ok jH (λ vs H Q E h=>?_) (λ cdv A outer s H vs Q E hr h=>?_)
 ·obtain⟨x,y,z,net,held,coming,poured,doors,rfl,_⟩:=h;rfl
 ·obtain⟨x,y,z,net,held,coming,poured,doors,rfl,hx,hy,qz,nok,sok,lp,k⟩:=h
  have sc:=jH
  have hu:=zB hr
  refine⟨_,(aD (cI (pv 0) (bB (K:=K) (n:=2) rfl rfl (aF (aE (i:=3) sc.nd rfl (Or.inl rfl)) (aF (aE (i:=4) sc.nd rfl (Or.inl rfl)) bA))))
   (aD (cI (bK (aA (cK aC) (aA (cK aC) (aA qC aC)))) (bB (K:=K) (n:=3) rfl rfl (aF (aE (i:=5) sc.nd rfl (Or.inl rfl)) (aF (aE (i:=6) sc.nd rfl (Or.inl rfl)) (aF (aE (i:=7) sc.nd rfl (Or.inr rfl)) bA)))))
   (aD (dQ PassesOwn.never rfl (CS (K:=K) rfl rfl T.b_enumerate (aA (fG G_filled hr (aA (pv 4) (aA (pv 1) (aA (pv 2) aC)))) aC)) (bB (K:=K) (n:=2) rfl rfl (aF (aE (i:=8) sc.nd rfl (Or.inl rfl)) (aF (aE (i:=9) sc.nd rfl (Or.inl rfl)) bA))) (aD (cI (fG G_settle hr (aA (aQ (aJ (K:=K) rfl) (pv 3) (pv 8) (λ _ _=>rfl)) (aA (pv 9) (aA (pv 7) aC)))) (bB (K:=K) (n:=2) rfl rfl (aF (aE (i:=10) sc.nd rfl (Or.inl rfl)) (aF (aE (i:=11) sc.nd rfl (Or.inl rfl)) bA))))
   (aD (dM (gD (K:=K) rfl PySem.F.plainAttrs_list PySem.F.slot_list_append PySem.F.type_list_append cY (pv 5) (aA (pv 10) aC)))
   (aM (fC (lN (pv 11)) (aM (dM (gD (K:=K) rfl PySem.F.plainAttrs_list PySem.F.slot_list_append PySem.F.type_list_append cY (pv 6) (aA (pv 8) aC)))) cS)))))
   (aD (fI (i:=12) sc.nd rfl rfl (λ _ _ h=>h) rfl (LcOk.mk (N':=["number","sent"]) (fr:=[none,some 7]) rfl ⟨rfl,trivial⟩ rfl rfl rfl rfl rfl ⟨⟨_,rfl,rfl,rfl,rfl⟩,trivial⟩) (bT rfl T.b_range (aA (aR (bN (K:=K) rfl) rfl T.b_len PySem.boot_len (aA (pv 3) aC)) aC)) (λ _ _ _=>(aE (i:=0) (show (["number","sent"]:List Str).Nodup by decide +kernel) rfl (Or.inl rfl) (Or.inr rfl))) (λ _ _ _=>cA) (λ _ _ _=>(qD hu (pv 1) (pv 0) aG ⟨rfl,rfl,rfl,rfl⟩)))
   (aD (aS (i:=13) sc.nd rfl (Or.inl rfl) (fG G_doors_behind hr (aA (pv 3) (aA (aQ (aJ (K:=K) rfl) (pv 1) aG (λ _ _=>rfl)) (aA (pv 6) aC)))))
   (aM (bX (bK (aA (bK (aA (bC (bU (K:=K) rfl) rfl T.b_tuple cB (aA (pv 5) aC)) (aA (bC (bU (K:=K) rfl) rfl T.b_tuple cB (aA (pv 12) aC)) (aA (pv 13) aC)))) (aA (bC (y4 (K:=K) rfl) rfl T.b_tuple cB (aA (pv 6) aC)) (aA (qD hu (pv 7) fU aG ⟨rfl,rfl,rfl,rfl⟩) aC))))))))))),?_⟩
  obtain⟨ax,av,as,xs,ys,rfl,qx,qv,lv,qs,ls⟩:=dS hx
  obtain⟨ay,b1,b2,b3,rfl,qy,q1,q2,q3⟩:=vC hy
  have exl:xs.length=net.vs.length:=by rw[lv.length,List.length_map]
  refine⟨_,rfl,ax,_,rfl,qx,rfl,_,_,rfl,_,_,rfl,rfl,?_⟩
  refine⟨Nat.zero_le _,λ hl hhl=>⟨Nat.zero_le _,λ tl htl=>λ sd hsd=>⟨(show 3<=sizeLine by decide),λ tp htp=>⟨tp,_,rfl,bO.of aB,rfl,_,_,rfl,_,_,rfl,_,_,rfl,rfl,?_⟩⟩⟩⟩
  have n1:hl≠tl:=aN (show upd H hl (.lst []) hl=_ from aB) htl
  have fh:H hl=none:=hhl
  have ft:H tl=none:=aH.free (aH.new hhl) htl
  have fs:H sd=none:=aH.free ((aH.new hhl).trans (aH.new htl)) hsd
  have n2:hl≠sd:=aN (by rw[aO n1];exact aB) hsd
  have n3:tl≠sd:=aN (show upd (upd H hl (.lst [])) tl (.lst []) tl=_ from aB) hsd
  have sm0:aH H (upd (upd (upd (upd H hl (.lst [])) tl (.lst [])) sd (.dK [])) tp (.tup [.ref hl,.ref tl,.ref sd])):=(((aH.new hhl).trans (aH.new htl)).trans (aH.new hsd)).trans (aH.new htp)
  have g1:upd (upd (upd (upd H hl (.lst [])) tl (.lst [])) sd (.dK [])) tp (.tup [.ref hl,.ref tl,.ref sd]) hl=some (.lst []):=aH.new htp _ _ (by rw[aO n2,aO n1];exact aB)
  have g2:upd (upd (upd (upd H hl (.lst [])) tl (.lst [])) sd (.dK [])) tp (.tup [.ref hl,.ref tl,.ref sd]) tl=some (.lst []):=aH.new htp _ _ (by rw[aO n3];exact aB)
  have g3:upd (upd (upd (upd H hl (.lst [])) tl (.lst [])) sd (.dK [])) tp (.tup [.ref hl,.ref tl,.ref sd]) sd=some (.dK []):=aH.new htp _ _ aB
  generalize upd (upd (upd (upd H hl (.lst [])) tl (.lst [])) sd (.dK [])) tp (.tup [.ref hl,.ref tl,.ref sd])=H0 at sm0 g1 g2 g3 ⊢
  refine⟨_,rfl,_,rfl,_,rfl,.ref as,.ref ay,z,net.sps,held,coming,poured,doors,net.vs.length,rfl,Is.tupOf (sm0.tup qs) (IsL.mono sm0.ts _ _ ls),Is.mono sm0.ts _ _ hy,sm0.tup qz,sok.h,sok.c,lp,sok.d,nok.hi,nok.sps,λ ha H1 sm1 fha hha=>?_⟩
  have hsl:(aL net held coming poured doors).length=net.vs.length:=by
   unfold aL;rw[eB,eQ sok.h sok.c lp]
  have g1':=sm1 _ _ g1
  have g2':=sm1 _ _ g2
  have g3':=sm1 _ _ g3
  have na1:hl≠ha:=aN g1 fha
  have na2:tl≠ha:=aN g2 fha
  have na3:sd≠ha:=aN g3 fha
  have fa:H ha=none:=sm0.free fha
  refine⟨false,ha,rfl,⟨_,bR.of hha⟩,DT (K:=K) (t:=false) (a:=ha) (xs:=(aL net held coming poured doors).map V.int)
   (λ i Z H'=>aH H H'/\H' ha=some (.lst ((aL net held coming poured doors).map V.int))/\H' hl=some (.lst ((bW (net.vs.take i) ((aL net held coming poured doors).take i)).map V.int))/\
    H' tl=some (.lst ((aT 0 (net.vs.take i) ((aL net held coming poured doors).take i)).map λ (j:Nat)=>V.int (j:Int)))/\iZ H' sd (bF (net.vs.take i) ((aL net held coming poured doors).take i))/\
    ∃ v8 v9 v10 v11,Z=[some (.ref ax),some (.ref ay),some (.ref z),some (.ref av),some (.ref as),some (.ref hl),some (.ref tl),some (.ref sd),v8,v9,v10,v11,none,none])
   (λ i Z H' p=>bR.of p.2.1) ⟨sm0.trans sm1,hha,by simpa [bW] using g1',by simpa [aT] using g2',⟨[],g3',by simp,λ k=>rfl⟩,none,none,none,none,rfl⟩ ?_ ?_⟩
  rotate_left
  ·rintro i x0 Z H2 Tt hx0 ⟨sm2,p1,p2,p3,p4,v8,v9,v10,v11,rfl⟩ hT
   rw[List.getElem?_map] at hx0
   obtain⟨hi,hhi,rfl⟩:=Option.map_eq_some_iff.mp hx0
   have hil:i < net.vs.length:=by rw[<- hsl];exact (List.getElem?_eq_some_iff.mp hhi).1
   have hv:net.vs[i]? = some net.vs[i]:=by simp [hil]
   have vok:=nok.vs _ (List.getElem_mem hil)
   obtain⟨xv,hxv,ixv⟩:=lv.get (i:=i) (d:=nU net.vs[i]) (by rw[List.getElem?_map,hv];rfl)
   have smT:=aH.new (o:=HO.tup [.int (i:Int),.int hi]) hT
   refine⟨Tt,_,rfl,bO.of aB,rfl,_,_,rfl,_,_,rfl,rfl,?_⟩
   have sm3:aH H (upd H2 Tt (.tup [.int (i:Int),.int hi])):=sm2.trans smT
   obtain⟨kvs,d1,d2,d3⟩:=p4
   have hgl:=kK (net.vs.take i) ((aL net held coming poured doors).take i) λ v hv'=>nok.vs v (List.mem_of_mem_take hv')
   have htk:(net.vs.take i).length<=12:=by rw[List.length_take];have:=nok.hi;omega
   refine⟨_,rfl,_,rfl,.inr (.inl ⟨av,xs,i,_,rfl,rfl,sm3.tup qv,dW hxv,_,rfl,_,rfl,xv,sd,hi,net.vs[i],_,_,_,rfl,Is.mono sm3.ts _ _ ixv,⟨kvs,smT _ _ d1,d2,d3⟩,by omega,vok,λ p H3 bt dg qp=>?_⟩)⟩
   refine⟨p,_,rfl,qp,rfl,_,_,rfl,_,_,rfl,rfl,?_⟩
   have e1:=bt hl _ n2 (smT _ _ p2)
   have e2:=bt tl _ n3 (smT _ _ p3)
   have e3:=bt ha _ (Ne.symm na3) (smT _ _ p1)
   have sm4:aH H H3:=λ b o e=>bt b o (aN e fs) (sm3 b o e)
   have stl:(bW (net.vs.take i) ((aL net held coming poured doors).take i)).length<=12:=by
    rw[iK _ _ (by rw[List.length_take,List.length_take,hsl])];exact htk
   have tpl:=kA (net.vs.take i) ((aL net held coming poured doors).take i) 0
   refine⟨_,rfl,.inl ⟨rfl,_,bR.of e1⟩,_,rfl,hl,_,_,rfl,rfl,e1,aP (by simp;omega),?_⟩
   have f1:upd H3 hl (.lst ((bW (net.vs.take i) ((aL net held coming poured doors).take i)).map V.int++[.int (dD net.vs[i] hi)])) tl=some (.lst ((aT 0 (net.vs.take i) ((aL net held coming poured doors).take i)).map λ (j:Nat)=>V.int (j:Int))):=by rw[aO (Ne.symm n1)];exact e2
   have s1:=jF net.vs (aL net held coming poured doors) i _ _ hv hhi
   have s2:=lL net.vs (aL net held coming poured doors) i 0 _ _ hv hhi
   have s3:=lT net.vs (aL net held coming poured doors) i _ _ hv hhi
   have dgo:∀ {Hx:Hp},Hx sd=H3 sd->iZ Hx sd (bF (net.vs.take (i+1)) ((aL net held coming poured doors).take (i+1))):=λ {Hx} e=>by
    obtain⟨kv,a1,a2,a3⟩:=dg
    rw[s3]
    exact⟨kv,e.trans a1,a2,a3⟩
   refine⟨_,rfl,_,rfl,?_⟩
   cases ht:dX net.vs[i] hi with
   | false=>
    refine j5 ?_
    rw[ht] at s2
    refine⟨sm4.put fh,by rw[aO (Ne.symm na1)];exact e3,by rw[aB,s1,List.map_append];rfl,by rw[s2];simpa using f1,dgo (by rw[aO (Ne.symm n2)]),_,_,_,_,rfl⟩
   | true=>
    refine jT ?_
    rw[ht] at s2
    refine⟨_,rfl,.inl ⟨rfl,_,bR.of f1⟩,_,rfl,tl,_,_,rfl,rfl,f1,aP (by simp;omega),?_⟩
    refine⟨(sm4.put fh).put ft,by rw[aO (Ne.symm na2),aO (Ne.symm na1)];exact e3,by rw[aO n1,aB,s1,List.map_append];rfl,?_,dgo (by rw[aO (Ne.symm n3),aO (Ne.symm n2)]),_,_,_,_,rfl⟩
    rw[aB,s2]
    simp
  ·rintro Z H2 ⟨sm2,p1,p2,p3,p4,v8,v9,v10,v11,rfl⟩
   rw[List.length_map,hsl] at p2 p3 p4
   have ek:net.vs.take net.vs.length=net.vs:=List.take_length
   have ek2:(aL net held coming poured doors).take net.vs.length=aL net held coming poured doors:=by rw[<- hsl,List.take_length]
   rw[ek,ek2] at p2 p3 p4
   obtain⟨kvs,d1,d2,d3⟩:=p4
   refine⟨_,rfl,av,xs,rfl,.inr (sm2.tup qv),_,rfl,by omega,by have:=nok.hi;omega,?_⟩
   have hn:((xs.length:Nat):Int).toNat=net.vs.length:=by rw[exl];simp
   rw[hn]
   refine gK (n:=net.vs.length) (λ D i r Z H'=>H2 D=none/\aH H2 H'/\H' D=some (.lst r)/\r=((cC net.vs.length (bF net.vs (aL net held coming poured doors))).take i).map V.int/\∃ v,Z=[v,some (.ref sd)])
    (λ D hD=>⟨hD,aH.new hD,aB,by simp,none,rfl⟩) ?_ ?_
   rotate_left
   ·rintro D i r Z H' hi ⟨hD,sm,hDl,rfl,v,rfl⟩
    refine cT ?_
    have hg:=kT.k (k:=mX (some (i:Int))) (sm _ _ d1)
    refine⟨_,rfl,sd,rfl,.inl ⟨kvs,.inl (sm _ _ d1)⟩,_,rfl,_,hg,hDl,aP (by simp [cC];have:=nok.hi;omega),hD,sm.put hD,aB,?_,_,rfl⟩
    have e:(cC net.vs.length (bF net.vs (aL net held coming poured doors)))[i]? = some (bQ (some (i:Int)) (bF net.vs (aL net held coming poured doors))):=by
     unfold cC;simp [hi]
    rw[aZ e,List.map_append]
    show _++[(dH kvs (mX (some (i:Int)))).getD (.int 0)]=_
    rw[d3];rfl
   ·rintro D r Z H3 ⟨hD,sm,hDl,rfl,_⟩
    have ll:(cC net.vs.length (bF net.vs (aL net held coming poured doors))).length=net.vs.length:=by unfold cC;simp
    rw[List.take_of_length_le (Nat.le_of_eq ll)] at hDl
    have sm3:aH H H3:=sm2.trans sm
    refine⟨_,rfl,_,rfl,.inr (.inl ⟨ay,_,2,_,rfl,rfl,sm3.tup qy,rfl,_,rfl,.ref av,.ref b3,tl,net.vs,doors,aT 0 net.vs (aL net held coming poured doors),net.vs.length,rfl,Is.tupOf (sm3.tup qv) (IsL.mono sm3.ts _ _ lv),Is.tupOf (sm3.tup q3) (IsL.of_bools _),bR.of (sm _ _ p3),λ j hj=>by have:=i5 _ _ _ _ hj;omega,λ v hv=>by rw[sok.d];exact nok.vs v hv,by rw[sok.d];exact nok.sp,λ dp H4 sm4 hdp=>?_⟩)⟩
    obtain⟨da,dxs,rfl,qd,ld⟩:=hdp.un
    have c1:=sm4 _ _ (sm _ _ p2)
    have c2:=sm4 _ _ hDl
    have c3:=sm4 _ _ (sm _ _ p3)
    have c4:=sm4 _ _ (sm _ _ d1)
    refine⟨_,rfl,hl,_,rfl,.inl ⟨bR.of c1,λ t1 ht1=>?_⟩⟩
    have m1:=aH.new (o:=HO.tup ((bW net.vs (aL net held coming poured doors)).map V.int)) ht1
    refine⟨_,rfl,D,_,rfl,.inl ⟨bR.of (m1 _ _ c2),λ t2 ht2=>?_⟩⟩
    have m2:=aH.new (o:=HO.tup ((cC net.vs.length (bF net.vs (aL net held coming poured doors))).map V.int)) ht2
    refine⟨_,rfl,(show 3<=sizeLine by decide),λ t3 ht3=>?_⟩
    have m3:=aH.new (o:=HO.tup [.ref t1,.ref t2,.ref da]) ht3
    refine⟨_,rfl,tl,_,rfl,bR.of (m3 _ _ (m2 _ _ (m1 _ _ c3))),λ t4 ob ht4 hob=>?_⟩
    have m4:=aH.new (o:=HO.frz ob (.tup ((aT 0 net.vs (aL net held coming poured doors)).map λ (j:Nat)=>V.int (j:Int)))) ht4
    have c4':=m4 _ _ (m3 _ _ (m2 _ _ (m1 _ _ c4)))
    have hg:=kT.k (k:=mX none) c4'
    refine⟨_,rfl,sd,rfl,.inl ⟨kvs,.inl c4'⟩,_,hg,(show 3<=sizeLine by decide),λ t5 ht5=>?_⟩
    have m5:aH _ _:=aH.new (o:=HO.tup [.ref t3,.ref t4,(dH kvs (mX none)).getD (.int 0)]) ht5
    have eg:(dH kvs (mX none)).getD (.int 0)=.int (bQ none (bF net.vs (aL net held coming poured doors))):=d3 none
    rw[eg] at m5 ⊢
    have e1:((aT 0 net.vs (aL net held coming poured doors)).map λ (i:Nat)=>L2.D.int (i:Int))=((aT 0 net.vs (aL net held coming poured doors)).map λ (i:Nat)=>(i:Int)).map L2.D.int:=by rw[List.map_map];rfl
    refine k _ _ ((((((sm3.trans sm4).trans m1).trans m2).trans m3).trans m4).trans m5) ⟨t5,.ref t3,t4,rfl,bO.of aB,?_,ob,m5 _ _ aB,hob⟩
    exact Is.mono m5.ts _ _ (Is.mono m4.ts _ _ (yG (bO.of aB) (m3.tup (m2.tup (bO.of aB))) (m3.tup (bO.of aB)) (by
      have:=ld.bools;rw[this] at qd;exact m3.tup (m2.tup (m1.tup qd)))))
end
end Tw
namespace Tw
open PySem L2
section
variable {P:Program}{w:World}{K:PySem.W.Frag}{mg:Str->Option Value}{base:Heap}{C c_TipError c_NoNet c_NoVessel c_TooLong c_TooMany c_TooMuch c_Nothing c_NoText c_NoRow:Addr}
noncomputable def vD (K:PySem.W.Frag) (cL:Addr):Sp:=λ vs H Q E=>∃ (x:V) (net:Net),vs=[x]/\Is K H (eF net) x/\NetOk net/\
 (∀ t j p tl us H',uW net t j->aH H H'->bO K H' p [.int j,.ref tl]->H' tl=some (.lst us)->us.length=t->(∀ (i:Nat) v,us[i]? = some v->lJ K H' ((b9 net i).tk net) v)->H tl=none->Q (.ref p) H')/\(uU net->∀ H',aH H H'->E (.ref cL) none H')
theorem uC {f f1 f2 f3:Addr}{fd fd1 fd2 fd3:FuncData} (F:Fun K "go_round" "go_round" (bH 24) f fd) (T:Txt mg) (U:TxtT mg) (XC_TooLong:ExC K "TooLong" c_TooLong)
  (G_first_state:Callee P w K mg base "first_state" ["net"] 1 (iL K) f1 fd1) (G_pouring:Callee P w K mg base "pouring" ["net","amount"] 1 (kD K) f2 fd2) (G_tick_behind:Callee P w K mg base "tick_behind" ["net","state","poured"] 4 (tQ K) f3 fd3) :
  FnOk P w K mg base (wM P w) 5 f fd ["net"] (vD K c_TooLong):=by
 refine F.okR o4 (λ vs H Q E h=>?_) (λ cdv A outer s H vs Q E hr h L=>?_)
 ·obtain⟨x,net,rfl,_⟩:=h;rfl
 ·obtain⟨x,net,rfl,hx,nok,kR,kL⟩:=h
  have sc:=o4
  refine⟨_,(aD (xB (i:=1) (j:=2) rfl sc.nd rfl rfl (by decide) rfl rfl (aA (fG G_first_state hr (aA (pv 0) aC)) (aA (fG G_pouring hr (aA (pv 0) (aA aG aC))) aC)) rfl)
   (aD (xB (i:=3) (j:=4) rfl sc.nd rfl rfl (by decide) rfl rfl (aA qC (aA (cK aC) aC)) rfl)
   (aD (mO λ pn=>(dQ PassesOwn.never rfl (bT rfl T.b_range (aA (aW cO (qB rfl U.g_LAST_TICK) aG) aC)) (aE (i:=5) sc.nd rfl (Or.inl rfl)) (aD (fC (cH (yT (P:=P) (w:=w) (K:=K) rfl rfl rfl hr.units) (pv 1) (pv 3) (by rfl)) (aM (bX (bK (aA (aQ (DB (P:=P) (w:=w) (K:=K) rfl rfl rfl hr.units) (pv 3) (pv 1) (λ _ _=>rfl)) (aA (pv 4) aC))))) cS)
   (aD (sR (P:=P) (w:=w) (K:=K) rfl rfl rfl hr.units (pv 3) (pv 1) (pv 5) rfl)
   (aD (dM (gD (K:=K) rfl PySem.F.plainAttrs_list PySem.F.slot_list_append PySem.F.type_list_append cY (pv 4) (aA (fG G_tick_behind hr (aA (pv 0) (aA (pv 1) (aA (pv 2) aC)))) aC)))
   (aM (aS (i:=1) sc.nd rfl (Or.inl rfl) (aQ (aJ (K:=K) rfl) (aQ (aJ (K:=K) rfl) (pv 4) (GH BM aG) (λ _ _=>rfl)) aG (λ _ _=>rfl)))))))))
   (aM (pZ L rfl rfl XC_TooLong.exc XC_TooLong.ns PySem.F.excBase_ValueError (aA gW aC)))))),?_⟩
  refine⟨_,rfl,x,net,rfl,hx,nok,λ st H1 sm1 hst=>⟨_,rfl,x,net,0,rfl,Is.mono sm1.ts _ _ hx,nok,λ z H2 sm2 qz=>⟨_,_,rfl,?_⟩⟩⟩
  have s2:=sm1.trans sm2
  have hst2:=Is.mono sm2.ts _ _ hst
  rw[oV nok.lo] at qz
  refine λ sd hsd=>⟨Nat.zero_le _,λ tl htl=>⟨_,_,rfl,?_⟩⟩
  have nst:sd≠tl:=aN (show upd H2 sd (.dK []) sd=_ from aB) htl
  have fs:H sd=none:=s2.free hsd
  have ft:H tl=none:=(s2.trans (aH.new hsd)).free htl
  have s3:aH H2 (upd (upd H2 sd (.dK [])) tl (.lst [])):=(aH.new hsd).trans (aH.new htl)
  have g1:upd (upd H2 sd (.dK [])) tl (.lst []) sd=some (.dK []):=by rw[aO nst];exact aB
  have g2:upd (upd H2 sd (.dK [])) tl (.lst []) tl=some (.lst []):=aB
  generalize upd (upd H2 sd (.dK [])) tl (.lst [])=H3 at s3 g1 g2
  refine⟨_,_,rfl,rfl,_,rfl,by decide,by decide,?_⟩
  refine dR (lo:=0) (n:=2001) (λ i Z H'=>aH H H'/\(∀ m,m < i->pV net m=none)/\fL P w K H' sd (BX net) (dG net i)/\(∃ us,H' tl=some (.lst us)/\us.length=i/\∀ (m:Nat) v,us[m]? = some v->lJ K H' ((b9 net m).tk net) v)/\bO K H' z ((d5 net.vs.length).map V.int)/\
   ∃ st v5,Is K H' (eE (b9 net i)) st/\Z=[some x,some st,some (.ref z),some (.ref sd),some (.ref tl),v5]) ?_ ?_ ?_
  ·exact⟨s2.trans s3,λ m hm=>absurd hm (Nat.not_lt_zero _),fL.new g1,⟨[],g2,rfl,λ m v h=>by simp at h⟩,s3.tup qz,st,_,Is.mono s3.ts _ _ hst2,rfl⟩
  ·rintro i Z H4 hi ⟨s4,hno,dd,⟨us,htl4,hul,lus⟩,qz4,st,v5,hst4,rfl⟩
   rw[Int.zero_add]
   have sok:=eV nok i
   have key:=yW sok hst4
   have hsl:=pP net i
   dsimp only [i7]
   refine⟨_,rfl,_,rfl,sd,BX net,dG net i,eE (b9 net i),rfl,dd,key,_,rfl,?_⟩
   cases hr:pV net i with
   | some v=>
    have hr':dH (dG net i) (eE (b9 net i))=some v:=hr
    rw[hr']
    refine jT ?_
    obtain⟨j,rfl⟩:=pQ net _ v i hr'
    refine⟨_,rfl,_,rfl,sd,BX net,dG net i,eE (b9 net i),.int j,rfl,dd,key,hr',_,rfl,(show 2<=sizeLine by decide),λ p hp=>?_⟩
    have s5:=aH.new (o:=HO.tup [.int j,.ref tl]) hp
    exact kR i j p tl us _ ⟨by omega,hr,hno⟩ (s4.trans s5) (bO.of aB) (s5 _ _ htl4) hul (λ m v h=>(lus m v h).same s5) ft
   | none=>
    have hr':dH (dG net i) (eE (b9 net i))=none:=hr
    rw[hr']
    refine j5 ?_
    refine⟨_,rfl,_,rfl,_,rfl,sd,BX net,dG net i,eE (b9 net i),rfl,dd,key,pM (by omega),λ H5 b5 dd5=>?_⟩
    have ts5:=b5.ts (K:=K) dd.mut
    have s5:aH H H5:=λ b o e=>b5 b o (aN e fs) (s4 b o e)
    have ntl:tl≠sd:=Ne.symm nst
    have htl5:=b5 _ _ ntl htl4
    have hx5:=Is.mono s5.ts _ _ hx
    have hst5:=Is.mono ts5 _ _ hst4
    refine⟨_,rfl,.inl ⟨rfl,_,bR.of htl5⟩,_,rfl,_,rfl,_,rfl,x,st,z,net,_,_,d5 net.vs.length,_,rfl,hx5,hst5,ts5 _ _ qz4,nok,sok,fE _,λ v6 H6 sm6 tp6=>?_⟩
    have htl6:=sm6 _ _ htl5
    refine⟨tl,us,_,rfl,rfl,htl6,pM (by omega),?_⟩
    have mu6:iY (H6 tl):=by rw[htl6];exact trivial
    have b7:d8 tl H6 (upd H6 tl (.lst (us++[v6]))):=d8.upd
    have ts7:=b7.ts (K:=K) mu6
    obtain⟨f,y1,tpa,rfl,qf,j1,pla⟩:=id tp6
    refine⟨_,rfl,1,rfl,.inl ⟨tl,_,-1,_,rfl,rfl,bR.of aB,E9 _ _,.inr (.inl ⟨f,_,0,_,rfl,rfl,ts7 _ _ qf,rfl,?_⟩)⟩⟩
    refine⟨(s5.trans sm6).put ft,λ m hm=>?_,(dd5.same sm6).mono ts7 λ o e=>b7 _ _ nst e,⟨_,aB,by rw[List.length_append,List.length_singleton];omega,λ m v hv=>?_⟩,ts7 _ _ (sm6.tup (ts5 _ _ qz4)),y1,_,Is.mono ts7 _ _ j1,rfl⟩
    ·rcases (show m < i\/m=i by omega) with h | rfl
     ·exact hno m h
     ·exact hr
    ·rcases Nat.lt_or_ge m us.length with hlt | hge
     ·rw[List.getElem?_append_left hlt] at hv
      exact (((lus m v hv).but b5 dd.mut).same sm6).but b7 mu6
     ·have hml:=(List.getElem?_eq_some_iff.mp hv).1
      rw[List.length_append,List.length_singleton] at hml
      have:m=i:=by omega
      subst this
      rw[List.getElem?_append_right hge,hul,Nat.sub_self] at hv
      cases hv
      exact tp6.but b7 mu6
  ·rintro Z H4 ⟨s4,hno,_⟩
   exact⟨by show 1<=100;decide,kL (λ i hi=>hno i (by omega)) _ s4⟩
end
end Tw
namespace Tw
open PySem L2
noncomputable def eD (fo:Option Nat) (i:Nat) (v:Vs):Vs:=if fo=some i then { v with size:=v.brim+1 } else v
noncomputable def g8 (vs:List Vs) (fo:Option Nat):List Vs:=vs.mapIdx λ i v=>eD fo i v
noncomputable def fQ (net:Net) (fo:Option Nat):Net:=⟨g8 net.vs fo,net.sps⟩
noncomputable def n4:Option Nat->V
 | none=>.non
 | some j=>.int (j:Int)
theorem wT (vs:List Vs) (fo:Option Nat):(g8 vs fo).length=vs.length:=by unfold g8;rw[List.length_mapIdx]
theorem BR {vs:List Vs} (fo:Option Nat) {i:Nat}{v:Vs} (h:vs[i]? = some v):(g8 vs fo)[i]? = some (eD fo i v):=by unfold g8;rw[List.getElem?_mapIdx,h];rfl
theorem vB (fo:Option Nat) (i:Nat) (v:Vs):(eD fo i v).acts=v.acts:=by unfold eD;split <;> rfl
theorem tO (fo:Option Nat) (i:Nat) (v:Vs):(eD fo i v).spill=v.spill:=by unfold eD;split <;> rfl
theorem nW (fo:Option Nat) (i:Nat) (v:Vs) (h:Int):bI (eD fo i v) h=bI v h:=by unfold eD;split <;> rfl
theorem sI {fo:Option Nat}{i:Nat}{v:Vs}{h:Int} (z:fo=some i):dX (eD fo i v) h=false:=by
 have:dX { v with size:=v.brim+1 } h=false:=by
  unfold dX bI
  rw[decide_eq_false]
  show ¬ v.brim+1<=min h v.brim
  omega
 unfold eD
 rw[if_pos z];exact this
theorem A8 {fo:Option Nat}{i:Nat}{v:Vs}{h:Int} (z:¬ fo≠some i):dX (eD fo i v) h=false:=sI (Classical.not_not.1 z)
theorem FW {fo:Option Nat}{i:Nat} (z:fo≠some i):(!decide (V.int (i:Int)=n4 fo))=true:=by
 cases fo with
 | none=>rfl
 | some j=>
  rw[Bool.not_eq_true',decide_eq_false]
  intro e
  injection e with e
  exact z (by congr 1;omega)
theorem AB (fo:Option Nat) (i:Nat):ES (.int (i:Int)) (n4 fo)=true:=by cases fo <;> rfl
theorem nX (net:Net):fQ net none=net:=by
 have:g8 net.vs none=net.vs:=by
  apply List.ext_getElem?
  intro i
  unfold g8
  rw[List.getElem?_mapIdx]
  cases net.vs[i]? <;> rfl
 unfold fQ
 rw[this]
section
variable {P:Program}{w:World}{K:PySem.W.Frag}{mg:Str->Option Value}{base:Heap}
noncomputable def tR (K:PySem.W.Frag):Sp:=λ args H Q _=>∃ (x y:V) (z:Addr) (net:Net) (held coming poured:List Int) (doors:List Bool) (fo:Option Nat),args=[x,y,.ref z,n4 fo]/\Is K H (eF net) x/\Is K H (A9 held coming doors) y/\IX K H z (poured.map V.int)/\
 NetOk net/\NetOk (fQ net fo)/\StOk net held coming doors/\poured.length=net.vs.length/\∀ (l:Addr) (p1 p2:V) H',aH H H'->H' l=some (.lst [p1,p2,.int (bV (fQ net fo) held coming poured doors).ground])->
  Is K H' (A9 (bV (fQ net fo) held coming poured doors).held (bV (fQ net fo) held coming poured doors).coming (bV (fQ net fo) held coming poured doors).doors) p1->
  Is K H' (.tup ((bV (fQ net fo) held coming poured doors).tip.map λ (i:Nat)=>D.int (i:Int))) p2->Q (.ref l) H'
theorem lC {f fF:Addr}{fd fdF:FuncData} (F:Fun K "_law_tick" "_law_tick" (bH 42) f fd) (T:Txt mg) (G__law_filled:Callee P w K mg base "_law_filled" ["net","state","poured"] 1 (kE K) fF fdF):FnOk P w K mg base j3 2 f fd ["net","state","poured","fast"] (tR K):=by
 refine F.ok mJ (λ vs H Q E h=>?_) (λ cdv A outer s H vs Q E hr h=>?_)
 ·obtain⟨x,y,z,net,held,coming,poured,doors,fo,rfl,_⟩:=h;rfl
 ·obtain⟨x,y,z,net,held,coming,poured,doors,fo,rfl,hx,hy,qz,nok,nokw,sok,hpl,k⟩:=h
  have wl:(g8 net.vs fo).length=net.vs.length:=wT _ _
  have wat:∀ {i:Nat}{v:Vs},net.vs[i]? = some v->(g8 net.vs fo)[i]? = some (eD fo i v):=λ h=>BR fo h
  have wok:∀ v∈g8 net.vs fo,VOk net.vs.length net.sps.length v:=λ v hv=>by have:=nokw.vs v hv;rw[show (fQ net fo).vs.length=net.vs.length from wl] at this;exact this
  generalize hws:g8 net.vs fo=ws at wl wat wok
  have sc:=mJ
  refine⟨_,(aD (aS (i:=4) sc.nd rfl (Or.inl rfl) (fG G__law_filled hr (aA (pv 0) (aA (pv 1) (aA (pv 2) aC)))))
   (aD (aS (i:=5) sc.nd rfl (Or.inr rfl) (cK aC))
   (aD (aS (i:=6) sc.nd rfl (Or.inl rfl) (cK aC))
   (aD (aS (i:=7) sc.nd rfl (Or.inl rfl) (cK aC))
   (aD (dQ PassesOwn.never rfl (bT rfl T.b_range (aA (aR (bN (K:=K) rfl) rfl T.b_len PySem.boot_len (aA (aQ (aJ (K:=K) rfl) (pv 0) aG (λ _ _=>rfl)) aC)) aC)) (aE (i:=8) sc.nd rfl (Or.inl rfl)) (aD (cI (aQ (aJ (K:=K) rfl) (aQ (aJ (K:=K) rfl) (pv 0) aG (λ _ _=>rfl)) (pv 8) (λ _ _=>rfl)) (bB (K:=K) (n:=6) rfl rfl (aF (aE (i:=9) sc.nd rfl (Or.inl rfl)) (aF (aE (i:=10) sc.nd rfl (Or.inl rfl)) (aF (aE (i:=11) sc.nd rfl (Or.inl rfl)) (aF (aE (i:=12) sc.nd rfl (Or.inl rfl)) (aF (aE (i:=13) sc.nd rfl (Or.inl rfl)) (aF (aE (i:=14) sc.nd rfl (Or.inl rfl)) bA))))))))
   (aD (aS (i:=15) sc.nd rfl (Or.inr rfl) (aR (B7 rfl) rfl T.b_min PyProof.Rows.boot_min (aA (aQ (aJ (K:=K) rfl) (pv 4) (pv 8) (λ _ _=>rfl)) (aA (pv 10) aC))))
   (aD (dM (gD (K:=K) rfl PySem.F.plainAttrs_list PySem.F.slot_list_append PySem.F.type_list_append cY (pv 5) (aA (bK (aA (pv 13) (aA (aW gX (aQ (aJ (K:=K) rfl) (pv 4) (pv 8) (λ _ _=>rfl)) (pv 15)) aC))) aC)))
   (aD (fC (PW.pt (CK (cH GL (pv 15) (pv 9) (cP _)) (yM (cH GJ (pv 8) (pv 3) (cP _))))) (aD (aS (i:=16) sc.nd rfl (Or.inr rfl) (aR (cU (K:=K) rfl rfl) rfl T.b_sum PyProof.Rows.boot_sum (aA (fJ (λ _ _ h=>h) rfl (LcOk.mk (N':=["target","parts"]) (fr:=[none,none]) rfl trivial rfl rfl rfl rfl rfl trivial) (eT (K:=K) rfl (pv 11)) (λ _ _ _=>(bB (K:=K) (n:=2) rfl rfl (aF (aE (i:=0) (show (["target","parts"]:List Str).Nodup by decide +kernel) rfl (Or.inl rfl) (Or.inr rfl)) (aF (aE (i:=1) (show (["target","parts"]:List Str).Nodup by decide +kernel) rfl (Or.inl rfl) (Or.inr rfl)) bA)))) (λ _ _ _=>cA) (λ _ _ _=>(pv 1))) aC)))
   (aD (aS (i:=5) sc.nd rfl (Or.inr rfl) (aW xG (pv 5) (fJ (λ _ _ h=>h) rfl (LcOk.mk (N':=["target","parts","here","whole"]) (fr:=[none,none,some 15,some 16]) rfl ⟨rfl,rfl,trivial⟩ rfl rfl rfl rfl rfl ⟨⟨_,rfl,rfl,rfl,rfl⟩,⟨_,rfl,rfl,rfl,rfl⟩,trivial⟩) (eT (K:=K) rfl (pv 11)) (λ _ _ _=>(bB (K:=K) (n:=2) rfl rfl (aF (aE (i:=0) (show (["target","parts","here","whole"]:List Str).Nodup by decide +kernel) rfl (Or.inl rfl) (Or.inr rfl)) (aF (aE (i:=1) (show (["target","parts","here","whole"]:List Str).Nodup by decide +kernel) rfl (Or.inl rfl) (Or.inr rfl)) bA)))) (λ _ _ _=>cA) (λ _ _ _=>(bK (aA (pv 0) (aA (aW gE (aW gS (pv 2) (pv 3)) (pv 1)) aC)))))))
   (aD (aS (i:=15) sc.nd rfl (Or.inr rfl) (aW lQ (pv 15) (pv 16)))
   (aD (dM (gD (K:=K) rfl PySem.F.plainAttrs_list PySem.F.slot_list_append PySem.F.type_list_append cY (pv 6) (aA (pv 8) aC)))
   (aM (fC (CM (lN (pv 12))) (aD (dM (gD (K:=K) rfl PySem.F.plainAttrs_list PySem.F.slot_list_append PySem.F.type_list_append cY (pv 5) (aA (bK (aA fU (aA (pv 15) aC))) aC)))
   (aM (aS (i:=15) sc.nd rfl (Or.inr rfl) aG))) cS)))))) cS)
   (aM (dM (gD (K:=K) rfl PySem.F.plainAttrs_list PySem.F.slot_list_append PySem.F.type_list_append cY (pv 7) (aA (pv 15) aC)))))))))
   (aD (aS (i:=17) sc.nd rfl (Or.inl rfl) (bC (nP (K:=K) rfl) rfl T.b_list uR (aA (aQ (aJ (K:=K) rfl) (pv 1) aG (λ _ _=>rfl)) aC)))
   (aD (dQ PassesOwn.never rfl (dZ (K:=K) rfl (pv 6)) (aE (i:=8) sc.nd rfl (Or.inl rfl)) (aM (dQ PassesOwn.never rfl (eT (K:=K) rfl (aQ (aJ (K:=K) rfl) (aQ (aJ (K:=K) rfl) (aQ (aJ (K:=K) rfl) (pv 0) aG (λ _ _=>rfl)) (pv 8) (λ _ _=>rfl)) aG (λ _ _=>rfl))) (bB (K:=K) (n:=2) rfl rfl (aF (aE (i:=18) sc.nd rfl (Or.inl rfl)) (aF (aE (i:=19) sc.nd rfl (Or.inl rfl)) bA))) (aM (cI (aQ (aJ (K:=K) rfl) (cK (aA (u8 (aQ (aJ (K:=K) rfl) (pv 17) (pv 19) (λ _ _=>rfl))) (aA mQ (aA mQ aC)))) (gD (K:=K) rfl PySem.F.plainAttrs_list PySem.F.slot_list_index PySem.F.type_list_index D5 (cK (aA gW (aA gW (aA gW aC)))) (aA (pv 18) aC)) (λ _ _=>rfl)) (jO (pv 17) (pv 19) fR))))))
   (aD (pY (i:=20) sc.nd rfl rfl (λ _ _ h=>h) rfl (LcOk2.mk (N':=["k","goes"]) (fr:=[none,some 5]) rfl ⟨rfl,trivial⟩ rfl rfl rfl rfl rfl ⟨⟨_,rfl,rfl,rfl,rfl⟩,trivial⟩) (bT rfl T.b_range (aA (aR (bN (K:=K) rfl) rfl T.b_len PySem.boot_len (aA (aQ (aJ (K:=K) rfl) (pv 0) aG (λ _ _=>rfl)) aC)) aC)) (λ _ _ _=>(aE (i:=0) (show (["k","goes"]:List Str).Nodup by decide +kernel) rfl (Or.inr rfl) (Or.inl rfl))) (λ _ _ _=>cA) (λ _ _ _=>(aR (cU (K:=K) rfl rfl) rfl T.b_sum PyProof.Rows.boot_sum (aA (fJ (λ _ _ h=>h) rfl (LcOk.mk (N':=["target","amount","k"]) (fr:=[none,none,some 0]) rfl ⟨rfl,trivial⟩ rfl rfl rfl rfl rfl ⟨⟨_,rfl,rfl,rfl,rfl⟩,trivial⟩) (dZ (K:=K) rfl (pv 1)) (λ _ _ _=>(bB (K:=K) (n:=2) rfl rfl (aF (aE (i:=0) (show (["target","amount","k"]:List Str).Nodup by decide +kernel) rfl (Or.inl rfl) (Or.inr rfl)) (aF (aE (i:=1) (show (["target","amount","k"]:List Str).Nodup by decide +kernel) rfl (Or.inl rfl) (Or.inr rfl)) bA)))) (λ _ _ _=>mP (cH sT (pv 0) (pv 2) (cP _))) (λ _ _ _=>(pv 1))) aC))))
   (aD (aS (i:=21) sc.nd rfl (Or.inl rfl) (aR (cU (K:=K) rfl rfl) rfl T.b_sum PyProof.Rows.boot_sum (aA (fJ (λ _ _ h=>h) rfl (LcOk.mk (N':=["target","amount"]) (fr:=[none,none]) rfl trivial rfl rfl rfl rfl rfl trivial) (dZ (K:=K) rfl (pv 5)) (λ _ _ _=>(bB (K:=K) (n:=2) rfl rfl (aF (aE (i:=0) (show (["target","amount"]:List Str).Nodup by decide +kernel) rfl (Or.inl rfl) (Or.inr rfl)) (aF (aE (i:=1) (show (["target","amount"]:List Str).Nodup by decide +kernel) rfl (Or.inl rfl) (Or.inr rfl)) bA)))) (λ _ _ _=>mP (cH xF (pv 0) fU (cP _))) (λ _ _ _=>(pv 1))) aC)))
   (aM (bX (cK (aA (bK (aA (bC (bU (K:=K) rfl) rfl T.b_tuple cB (aA (pv 7) aC)) (aA (bC (bU (K:=K) rfl) rfl T.b_tuple cB (aA (pv 20) aC)) (aA (bC (bU (K:=K) rfl) rfl T.b_tuple cB (aA (pv 17) aC)) aC)))) (aA (bC (bU (K:=K) rfl) rfl T.b_tuple cB (aA (pv 6) aC)) (aA (pv 21) aC))))))))))))))),?_⟩
  obtain⟨a,b,c,xs,ys,rfl,q,q1,l1,q2,l2⟩:=dS hx
  obtain⟨ay,a1,a2,a3,rfl,qy,p1,p2,p3⟩:=vC hy
  have exl:xs.length=net.vs.length:=by rw[l1.length,List.length_map]
  have n1:=nok.lo
  have n2:=nok.hi
  have n3:=nok.sp
  have hn:((xs.length:Nat):Int).toNat=net.vs.length:=by rw[exl];simp
  have hsl:(aL net held coming poured doors).length=net.vs.length:=by
   unfold aL;rw[eB,eQ sok.h sok.c hpl]
  have hgl60:(bF ws (aL net held coming poured doors)).length<=60:=by
   have:=kK ws (aL net held coming poured doors) wok;omega
  have hgt:∀ i,(bF (ws.take i) ((aL net held coming poured doors).take i)).length<=60:=λ i=>by
   have h1:=kK (ws.take i) ((aL net held coming poured doors).take i) λ v hv=>wok v (List.mem_of_mem_take hv)
   have h2:(ws.take i).length<=12:=by rw[List.length_take];omega
   omega
  have htt:∀ i,(aT 0 (ws.take i) ((aL net held coming poured doors).take i)).length<=12:=λ i=>by
   have h1:=kA (ws.take i) ((aL net held coming poured doors).take i) 0
   have h2:(ws.take i).length<=12:=by rw[List.length_take];omega
   omega
  have hst:∀ i,(bW (ws.take i) ((aL net held coming poured doors).take i)).length<=12:=λ i=>by
   rw[iK _ _ (by rw[List.length_take,List.length_take,hsl,wl]),List.length_take];omega
  refine⟨_,rfl,_,rfl,_,rfl,.ref a,.ref ay,z,net,held,coming,poured,doors,rfl,hx,hy,qz,nok,sok,hpl,λ hl H1 sm1 fr1 hH1=>?_⟩
  refine⟨Nat.zero_le _,λ gl hgl=>⟨Nat.zero_le _,λ tl htl=>⟨Nat.zero_le _,λ sl hsl'=>?_⟩⟩⟩
  have ft:H1 tl=none:=aH.free (aH.new hgl) htl
  have fs:H1 sl=none:=aH.free (aH.new hgl) (aH.free (aH.new htl) hsl')
  have nts:tl≠sl:=aN (show upd _ tl (.lst []) tl=_ from aB) hsl'
  have ngt:gl≠tl:=aN (show upd H1 gl (.lst []) gl=_ from aB) htl
  have ngs:gl≠sl:=aN (show upd (upd H1 gl (.lst [])) tl (.lst []) gl=some (.lst []) by rw[aO ngt];exact aB) hsl'
  refine⟨_,rfl,.inr (.inl ⟨a,_,0,_,rfl,rfl,((((sm1.trans (aH.new hgl)).trans (aH.new htl)).trans (aH.new hsl')).tup q),rfl,b,xs,rfl,.inr ((((sm1.trans (aH.new hgl)).trans (aH.new htl)).trans (aH.new hsl')).tup q1),_,rfl,by omega,by omega,?_⟩)⟩
  rw[hn]
  refine dR (lo:=0) (n:=net.vs.length) (λ i Z H'=>aH H1 H'/\H' tl=some (.lst ((aT 0 (ws.take i) ((aL net held coming poured doors).take i)).map λ (j:Nat)=>V.int (j:Int)))/\
   H' sl=some (.lst ((bW (ws.take i) ((aL net held coming poured doors).take i)).map V.int))/\∃ (gl:Addr) (gxs:List V),H1 gl=none/\gl≠tl/\gl≠sl/\H' gl=some (.lst gxs)/\L2.IsL K H' ((bF (ws.take i) ((aL net held coming poured doors).take i)).map outD) gxs/\
   ∃ v8 v9 v10 v11 v12 v13 v14 v15 v16,Z=[some (.ref a),some (.ref ay),some (.ref z),some (n4 fo),some (.ref hl),some (.ref gl),some (.ref tl),some (.ref sl),v8,v9,v10,v11,v12,v13,v14,v15,v16,none,none,none,none,none]) ?_ ?_ ?_
  ·refine⟨((aH.new hgl).trans (aH.new htl)).trans (aH.new hsl'),by rw[aO nts,aB];simp [aT],by rw[aB];simp [bW],gl,[],hgl,ngt,ngs,by rw[aO ngs,aO ngt,aB],?_,none,none,none,none,none,none,none,none,none,rfl⟩
   simp only [List.take_zero,bF,List.map_nil];exact .nil
  ·rintro i Z H2 hi ⟨sm,ht2,hs2,gl,gxs,fg,ngt,ngs,hg2,ig2,v8,v9,v10,v11,v12,v13,v14,v15,v16,rfl⟩
   rw[Int.zero_add]
   have hv:net.vs[i]? = some net.vs[i]:=by simp [hi]
   have vok:=nok.vs net.vs[i] (List.getElem_mem hi)
   have hil:i < (aL net held coming poured doors).length:=by rw[hsl];exact hi
   have hhi:(aL net held coming poured doors)[i]? = some ((aL net held coming poured doors)[i]'hil):=by simp
   generalize hh:(aL net held coming poured doors)[i]'hil=h at hhi
   have hhm:((aL net held coming poured doors).map V.int)[i]? = some (.int h):=by rw[List.getElem?_map,hhi];rfl
   have sA:aH H H2:=sm1.trans sm
   have s1:=jF ws (aL net held coming poured doors) i _ _ (wat hv) hhi
   have s2:=lL ws (aL net held coming poured doors) i 0 _ _ (wat hv) hhi
   have s3:=lT ws (aL net held coming poured doors) i _ _ (wat hv) hhi
   generalize hvv:net.vs[i]=v at hv vok s1 s2 s3
   obtain⟨xv,hxv,ixv⟩:=l1.get (i:=i) (d:=nU v) (by rw[List.getElem?_map,hv];rfl)
   obtain⟨va,o,cc,rfl,qv,ho,hc⟩:=rX ixv
   obtain⟨oa,os,rfl,qo,lo⟩:=ho.un
   have eol:os.length=v.outs.length:=by rw[lo.length,List.length_map]
   have hw1:=rW vok.ne vok.outs
   have hw2:=oX vok.outs
   have ho3:=vok.o3
   refine⟨_,rfl,.inr (.inl ⟨a,_,0,_,rfl,rfl,sA.tup q,rfl,_,rfl,.inr (.inl ⟨b,xs,(i:Int),_,rfl,rfl,sA.tup q1,dW hxv,va,_,rfl,sA.tup qv,rfl,_,_,rfl,_,_,rfl,_,_,rfl,_,_,rfl,_,_,rfl,_,_,rfl,rfl,?_⟩)⟩)⟩
   refine⟨_,rfl,_,rfl,.inl ⟨hl,_,(i:Int),_,rfl,rfl,bR.of (sm _ _ hH1),dW hhm,_,rfl,_,_,rfl,?_⟩⟩
   have eh:(if v.brim < h then v.brim else h)=bI v h:=by unfold bI;split <;> omega
   rw[eh]
   refine⟨_,rfl,.inl ⟨rfl,_,bR.of hg2⟩,_,rfl,_,rfl,_,rfl,.inl ⟨hl,_,(i:Int),_,rfl,rfl,bR.of (sm _ _ hH1),dW hhm,_,rfl,_,_,rfl,rfl,(show 2<=sizeLine by decide),λ gq hgq=>?_⟩⟩
   have ngq:gl≠gq:=aN hg2 hgq
   have hgxl:gxs.length=(bF (ws.take i) ((aL net held coming poured doors).take i)).length:=by rw[ig2.length,List.length_map]
   have hg60:=hgt i
   refine⟨gl,gxs,_,rfl,rfl,by rw[aO ngq];exact hg2,aP (by omega),?_⟩
   obtain⟨sm3,hg3,ig3,kp3⟩:=vU sm fg hg2 ig2 hgq v.spill (h - bI v h)
   have ht3:=kp3 tl _ (Ne.symm ngt) ht2
   have hs3:=kp3 sl _ (Ne.symm ngs) hs2
   generalize upd (upd H2 gq (.tup [iI v.spill,.int (h - bI v h)])) gl (.lst (gxs++[.ref gq]))=H3 at sm3 hg3 ig3 kp3 ht3 hs3 ⊢
   have sA3:aH H H3:=sm1.trans sm3
   dsimp only [i7,iJ,tC,fX]
   refine yZ (λ Z H'=>aH H1 H'/\H' tl=some (.lst ((aT 0 (ws.take (i+1)) ((aL net held coming poured doors).take (i+1))).map λ (j:Nat)=>V.int (j:Int)))/\
    H' sl=some (.lst ((bW (ws.take i) ((aL net held coming poured doors).take i)).map V.int))/\∃ (gl:Addr) (gxs:List V),H1 gl=none/\gl≠tl/\gl≠sl/\H' gl=some (.lst gxs)/\L2.IsL K H' ((bF (ws.take (i+1)) ((aL net held coming poured doors).take (i+1))).map outD) gxs/\
    ∃ v8 v9 v10 v11 v12 v13 v14 v16,Z=[some (.ref a),some (.ref ay),some (.ref z),some (n4 fo),some (.ref hl),some (.ref gl),some (.ref tl),some (.ref sl),v8,v9,v10,v11,v12,v13,v14,some (.int (dD (eD fo i v) h)),v16,none,none,none,none,none]) (λ D' hD=>?_) ?_
   ·refine⟨_,rfl,_,rfl,_,_,rfl,rfl,_,rfl,?_⟩
    have other:∀ bw,(∃ v8 v9 v10 v11 v12 v13 v14 v16,bw=[some (.ref a),some (.ref ay),some (.ref z),some (n4 fo),some (.ref hl),some (.ref gl),some (.ref tl),some (.ref sl),v8,v9,v10,v11,v12,v13,v14,some (.int (bI v h)),v16,none,none,none,none,none])->dX (eD fo i v) h=false->D'.nx bw H3:=by
     rintro bw ⟨v8,v9,v10,v11,v12,v13,v14,v16,rfl⟩ tips
     have es:bI v h=dD (eD fo i v) h:=by unfold dD;rw[tips,nW];rfl
     have eg:d6 (eD fo i v) h=[(v.spill,h - bI v h)]:=by unfold d6;rw[tips,nW,tO];rfl
     rw[tips,if_neg Bool.false_ne_true,List.append_nil] at s2
     exact hD _ _ ⟨sm3,by rw[s2];exact ht3,hs3,gl,_,fg,ngt,ngs,hg3,by rw[s3,eg];exact ig3,_,_,_,_,_,_,_,_,by rw[<- es]⟩
    refine hX (λ hge=>?_) (λ hlt=>j5 ?_)
    ·refine⟨_,rfl,_,rfl,AB fo i,_,rfl,?_⟩
     refine hX (λ hnf=>?_) (λ hst=>other _ ⟨_,_,_,_,_,_,_,_,rfl⟩ (A8 λ z=>hst (FW z)))
     have ev:eD fo i v=v:=if_neg λ z=>by rw[z] at hnf;simp [n4] at hnf
     rw[ev] at s1 s2 s3 hD
     have tips:dX v h=true:=hge
     refine⟨_,rfl,oa,rfl,⟨_,sA3.tup qo⟩,hV (K:=K) (a:=oa) (xs:=os) (λ D j ys Z H'=>H3 D=none/\aH H3 H'/\H' D=some (.lst ys)/\ys=(v.outs.take j).map (λ x=>V.int x.2)/\∃ x y,Z=[x,y])
      (λ D j ys Z H' p=>p.2.1.tup (sA3.tup qo)) (λ D hD=>⟨hD,aH.new hD,aB,by simp,none,none,rfl⟩) ?_ ?_⟩
     rotate_left
     ·rintro D j x ys Z H' hx ⟨hD,smx,hDl,rfl,v1,v2,rfl⟩
      obtain⟨ot,hot,oq,rfl,qa⟩:=iQ lo hx
      have hjl:=(List.getElem?_eq_some_iff.mp hot).1
      refine⟨oq,_,rfl,smx.tup (sA3.tup qa),rfl,_,_,rfl,_,_,rfl,rfl,?_⟩
      refine hR ⟨_,rfl,hDl,aP (by simp;omega),hD,smx.put hD,aB,?_,_,_,rfl⟩
      rw[aZ hot];simp
     rintro D ys Z H4 ⟨hD4,sm4,hDl,rfl,_⟩
     rw[eol,List.take_length] at hDl
     refine⟨false,D,v.outs.map (·.2),rfl,bR.of (by rw[List.map_map];exact hDl),?_⟩
     have ew:(v.outs.map (·.2)).sum=whole v.outs:=rfl
     rw[ew]
     have sA4:aH H H4:=sA3.trans sm4
     refine⟨_,rfl,_,rfl,oa,rfl,⟨_,sA4.tup qo⟩,hV (K:=K) (a:=oa) (xs:=os) (λ D j ys Z H'=>H4 D=none/\aH H4 H'/\H' D=some (.lst ys)/\L2.IsL K H' (((dA v (bI v h)).take j).map outD) ys/\∃ x y,Z=[x,y,some (.int (bI v h)),some (.int (whole v.outs))])
      (λ D j ys Z H' p=>p.2.1.tup (sA4.tup qo)) (λ D hD=>⟨hD,aH.new hD,aB,by simp only [List.take_zero,List.map_nil];exact .nil,none,none,rfl⟩) ?_ ?_⟩
     rotate_left
     ·rintro D j x ys Z H' hx ⟨hD,smx,hDl,hys,v1,v2,rfl⟩
      obtain⟨ot,hot,oq,rfl,qa⟩:=iQ lo hx
      have hjl:=(List.getElem?_eq_some_iff.mp hot).1
      have hom:=vok.outs ot (List.mem_of_getElem? hot)
      refine⟨oq,_,rfl,smx.tup (sA4.tup qa),rfl,_,_,rfl,_,_,rfl,rfl,?_⟩
      refine hR ⟨_,rfl,_,rfl,_,rfl,_,_,rfl,rfl,⟨by omega,by omega⟩,_,rfl,_,_,rfl,rfl,.inr ⟨by have:=hom.lo;omega,by have:=hom.hi;omega⟩,(show 2<=sizeLine by decide),λ tq htq=>?_⟩
      have nD:D≠tq:=aN hDl htq
      have hysl:ys.length<=3:=by rw[hys.length,List.length_map,List.length_take];unfold dA;rw[List.length_map];omega
      have mt:iY (upd H' tq (.tup [iI ot.1,.int (bI v h / whole v.outs * ot.2)]) D):=by rw[aO nD,hDl];exact trivial
      have hsh:(dA v (bI v h))[j]? = some (ot.1,bI v h / whole v.outs * ot.2):=by unfold dA;rw[List.getElem?_map,hot];rfl
      refine⟨by rw[aO nD];exact hDl,aP (by omega),hD,λ b o e=>by rw[aO (aN e hD)];exact aH.new htq b o (smx b o e),aB,?_,_,_,rfl⟩
      rw[aZ hsh,List.map_append]
      exact L2.IsL.snoc (Is.tupOf (ds:=[BF ot.1,.int (bI v h / whole v.outs * ot.2)]) (bM.put (bM.refl _) (.inr mt) _ _ (bO.of aB)) (.cons (Is.tgOf _) (.cons (Is.i _) .nil))) (L2.IsL.mono (bM.put (aH.new htq).ts (.inr mt)) _ _ hys)
     rintro D2 ys Z H5 ⟨hD5,sm5,hD5l,hys,_⟩
     have esh:(dA v (bI v h)).length=os.length:=by unfold dA;rw[List.length_map,eol]
     rw[List.take_of_length_le (Nat.le_of_eq esh)] at hys
     have hysl:ys.length<=3:=by rw[hys.length,List.length_map,esh,eol];exact ho3
     have hg5:=sm5 _ _ (sm4 _ _ hg3)
     refine⟨gl,D2,gxs++[.ref gq],ys,rfl,rfl,hg5,hD5l,Nat.le_of_lt (aP (by simp;omega)),λ gl2 hgl2=>?_⟩
     have fg2:H1 gl2=none:=aH.free (sm3.trans (sm4.trans sm5)) hgl2
     have ht5:=sm5 _ _ (sm4 _ _ ht3)
     have hs5:=sm5 _ _ (sm4 _ _ hs3)
     have ngt2:gl2≠tl:=Ne.symm (aN ht5 hgl2)
     have ngs2:gl2≠sl:=Ne.symm (aN hs5 hgl2)
     have m6:aH H5 (upd H5 gl2 (.lst (gxs++[.ref gq]++ys))):=aH.new hgl2
     have ig6:L2.IsL K (upd H5 gl2 (.lst (gxs++[.ref gq]++ys))) ((bF (ws.take i) ((aL net held coming poured doors).take i)++[(v.spill,h - bI v h)]++dA v (bI v h)).map outD) (gxs++[.ref gq]++ys):=by
      rw[List.map_append]
      exact IsL.append (L2.IsL.mono m6.ts _ _ (L2.IsL.mono sm5.ts _ _ (L2.IsL.mono sm4.ts _ _ ig3))) (L2.IsL.mono m6.ts _ _ hys)
     have hg6:upd H5 gl2 (.lst (gxs++[.ref gq]++ys)) gl2=some (.lst (gxs++[.ref gq]++ys)):=aB
     have sm6:aH H1 (upd H5 gl2 (.lst (gxs++[.ref gq]++ys))):=(sm3.trans (sm4.trans sm5)).trans m6
     have ht6:=m6 _ _ ht5
     have hs6:=m6 _ _ hs5
     generalize upd H5 gl2 (.lst (gxs++[.ref gq]++ys))=H6 at sm6 hg6 ig6 ht6 hs6 ⊢
     refine⟨_,rfl,_,rfl,_,_,rfl,rfl,(show 0 < whole v.outs by omega),?_⟩
     have htl:=htt i
     refine⟨_,rfl,.inl ⟨rfl,_,bR.of ht6⟩,_,rfl,tl,_,_,rfl,rfl,ht6,aP (by rw[List.length_map];omega),?_⟩
     have mtt:iY (H6 tl):=by rw[ht6];exact trivial
     rw[tips,if_pos rfl,Nat.zero_add] at s2
     have hg7:upd H6 tl (.lst (((aT 0 (ws.take i) ((aL net held coming poured doors).take i)).map λ (j:Nat)=>V.int (j:Int))++[.int (i:Int)])) gl2=some (.lst (gxs++[.ref gq]++ys)):=by rw[aO ngt2];exact hg6
     have ig7:=L2.IsL.mono (bM.put (o:=HO.lst (((aT 0 (ws.take i) ((aL net held coming poured doors).take i)).map λ (j:Nat)=>V.int (j:Int))++[.int (i:Int)])) (bM.refl H6) (.inr mtt)) _ _ ig6
     have sm7:aH H1 (upd H6 tl (.lst (((aT 0 (ws.take i) ((aL net held coming poured doors).take i)).map λ (j:Nat)=>V.int (j:Int))++[.int (i:Int)]))):=sm6.put ft
     have ht7:upd H6 tl (.lst (((aT 0 (ws.take i) ((aL net held coming poured doors).take i)).map λ (j:Nat)=>V.int (j:Int))++[.int (i:Int)])) tl=some (.lst ((aT 0 (ws.take (i+1)) ((aL net held coming poured doors).take (i+1))).map λ (j:Nat)=>V.int (j:Int))):=by
      rw[aB,s2,List.map_append];rfl
     have hs7:upd H6 tl (.lst (((aT 0 (ws.take i) ((aL net held coming poured doors).take i)).map λ (j:Nat)=>V.int (j:Int))++[.int (i:Int)])) sl=_:=(aO (Ne.symm nts)).trans hs6
     generalize upd H6 tl (.lst (((aT 0 (ws.take i) ((aL net held coming poured doors).take i)).map λ (j:Nat)=>V.int (j:Int))++[.int (i:Int)]))=H7 at hg7 ig7 sm7 ht7 hs7 ⊢
     refine⟨_,rfl,_,rfl,?_⟩
     cases hhd:v.holds with
     | true=>
      refine j5 ?_
      have es:bI v h % whole v.outs=dD v h:=by unfold dD;rw[tips,hhd];rfl
      refine hD _ _ ⟨sm7,ht7,hs7,gl2,_,fg2,ngt2,ngs2,hg7,?_,_,_,_,_,_,_,_,_,by rw[<- es];rfl⟩
      have eg:d6 v h=[(v.spill,h - bI v h)]++dA v (bI v h):=by unfold d6;rw[tips,hhd];simp
      rw[s3,eg,<- List.append_assoc]
      exact ig7
     | false=>
      refine jT ?_
      refine⟨_,rfl,.inl ⟨rfl,_,bR.of hg7⟩,_,rfl,(show 2<=sizeLine by decide),λ gq2 hgq2=>?_⟩
      have ngq2:gl2≠gq2:=aN hg7 hgq2
      refine⟨gl2,_,_,rfl,rfl,by rw[aO ngq2];exact hg7,aP (by simp;omega),?_⟩
      obtain⟨sm8,hg8,ig8,kp8⟩:=vU sm7 fg2 hg7 ig7 hgq2 none (bI v h % whole v.outs)
      have es:dD v h=0:=by unfold dD;rw[tips,hhd];rfl
      refine hD _ _ ⟨sm8,kp8 tl _ (Ne.symm ngt2) ht7,kp8 sl _ (Ne.symm ngs2) hs7,gl2,_,fg2,ngt2,ngs2,hg8,?_,_,_,_,_,_,_,_,_,by rw[es];rfl⟩
      have eg:d6 v h=[(v.spill,h - bI v h)]++dA v (bI v h)++[(none,bI v h % whole v.outs)]:=by unfold d6;rw[tips,hhd];simp
      rw[s3,eg,<- List.append_assoc,<- List.append_assoc]
      exact ig8
    ·refine other _ ⟨_,_,_,_,_,_,_,_,rfl⟩ ?_
     by_cases z:fo=some i
     ·exact sI z
     ·rw[show eD fo i v=v from if_neg z]
      cases e:dX v h with
      | false=>rfl
      | true=>exact absurd e hlt
   rintro ai H4 ⟨sm4,ht4,hs4,gl,gxs,fg,ngt,ngs,hg4,ig4,v8,v9,v10,v11,v12,v13,v14,v16,rfl⟩
   have hsl2:=hst i
   refine⟨_,rfl,.inl ⟨rfl,_,bR.of hs4⟩,_,rfl,sl,_,_,rfl,rfl,hs4,aP (by rw[List.length_map];omega),?_⟩
   refine⟨sm4.put fs,by rw[aO nts];exact ht4,by rw[aB,s1,List.map_append];rfl,gl,gxs,fg,ngt,ngs,by rw[aO ngs];exact hg4,L2.IsL.mono (bM.put (bM.refl _) (.inr (by rw[hs4];exact trivial))) _ _ ig4,_,_,_,_,_,_,_,_,_,rfl⟩
  ·rintro Z H2 ⟨sm,ht2,hs2,gl,gxs,fg,ngt,ngs,hg2,ig2,v8,v9,v10,v11,v12,v13,v14,v15,v16,rfl⟩
   have ek:ws.take net.vs.length=ws:=by rw[<- wl,List.take_length]
   have ek2:(aL net held coming poured doors).take net.vs.length=aL net held coming poured doors:=by rw[<- hsl,List.take_length]
   rw[ek,ek2] at ht2 hs2 ig2
   have sA:aH H H2:=sm1.trans sm
   have etl:(aT 0 ws (aL net held coming poured doors)).length<=12:=by have:=kA ws (aL net held coming poured doors) 0;omega
   refine⟨_,rfl,.inr (.inl ⟨ay,_,2,_,rfl,rfl,sA.tup qy,rfl,a3,_,rfl,.inr (sA.tup p3),λ dl hdl=>?_⟩)⟩
   have m3:aH H2 (upd H2 dl (.lst (doors.map V.bl))):=aH.new hdl
   refine⟨_,rfl,tl,rfl,⟨_,bR.of (m3 _ _ ht2)⟩,vX (K:=K) (a:=tl) (xs:=(aT 0 ws (aL net held coming poured doors)).map λ (j:Nat)=>V.int (j:Int))
    (λ i Z H'=>aH H2 H'/\H' dl=some (.lst ((bE ws doors ((aT 0 ws (aL net held coming poured doors)).take i)).map V.bl))/\
     ∃ v8 v9 v10 v11 v12 v13 v14 v15 v16 v18 v19,Z=[some (.ref a),some (.ref ay),some (.ref z),some (n4 fo),some (.ref hl),some (.ref gl),some (.ref tl),some (.ref sl),v8,v9,v10,v11,v12,v13,v14,v15,v16,some (.ref dl),v18,v19,none,none])
    ⟨m3,aB,_,_,_,_,_,_,_,_,_,_,_,rfl⟩ (λ i Z H' _ p=>bR.of (p.1 _ _ ht2)) ?_ ?_⟩
   ·rintro i x Z H3 hx' ⟨sm3,hd3,v8,v9,v10,v11,v12,v13,v14,v15,v16,v18,v19,rfl⟩
    rw[List.getElem?_map] at hx'
    obtain⟨j,hj,rfl⟩:=Option.map_eq_some_iff.mp hx'
    have hjv:j < net.vs.length:=by have:=i5 _ _ _ _ (List.mem_of_getElem? hj);omega
    have hv:net.vs[j]? = some net.vs[j]:=by simp [hjv]
    have vok:=nok.vs net.vs[j] (List.getElem_mem hjv)
    have dsn:=oA ws doors ((aT 0 ws (aL net held coming poured doors)).take i) j _ (wat hv)
    rw[vB] at dsn
    generalize hvv:net.vs[j]=v at hv vok dsn
    obtain⟨xv,hxv,ixv⟩:=l1.get (i:=j) (d:=nU v) (by rw[List.getElem?_map,hv];rfl)
    obtain⟨va,o,cc,rfl,qv,ho,hc⟩:=rX ixv
    obtain⟨ca,cs,rfl,qc,lc⟩:=hc.un
    have ecs:cs.length=v.acts.length:=by rw[lc.length,List.length_map]
    have sA3:aH H H3:=sA.trans sm3
    refine⟨_,rfl,.inr (.inl ⟨a,_,0,_,rfl,rfl,sA3.tup q,rfl,_,rfl,.inr (.inl ⟨b,xs,(j:Int),_,rfl,rfl,sA3.tup q1,dW hxv,.inr (.inl ⟨va,_,5,_,rfl,rfl,sA3.tup qv,rfl,ca,rfl,⟨_,sA3.tup qc⟩,oS (K:=K) (a:=ca) (xs:=cs)
     (λ l Z H'=>aH H2 H'/\H' dl=some (.lst ((cR (bE ws doors ((aT 0 ws (aL net held coming poured doors)).take i)) (v.acts.take l)).map V.bl))/\
      ∃ v8 v9 v10 v11 v12 v13 v14 v15 v16 v18 v19,Z=[some (.ref a),some (.ref ay),some (.ref z),some (n4 fo),some (.ref hl),some (.ref gl),some (.ref tl),some (.ref sl),v8,v9,v10,v11,v12,v13,v14,v15,v16,some (.ref dl),v18,v19,none,none])
     ⟨sm3,hd3,_,_,_,_,_,_,_,_,_,_,_,rfl⟩ (λ l Z H' _ p=>(sA.trans p.1).tup qc) ?_ ?_⟩)⟩)⟩)⟩
    ·rintro l x Z H4 hl' ⟨sm4,hd4,v8,v9,v10,v11,v12,v13,v14,v15,v16,v18,v19,rfl⟩
     obtain⟨at',hat,aa,rfl,qa⟩:=oU lc hl'
     have aok:=vok.acts at' (List.mem_of_getElem? hat)
     refine⟨aa,_,rfl,(sA.trans sm4).tup qa,rfl,_,_,rfl,_,_,rfl,rfl,?_⟩
     have asn:=rA (bE ws doors ((aT 0 ws (aL net held coming poured doors)).take i)) (v.acts.take l) at'
     have hdl':(cR (bE ws doors ((aT 0 ws (aL net held coming poured doors)).take i)) (v.acts.take l)).length=doors.length:=by rw[iF,h7]
     generalize cR (bE ws doors ((aT 0 ws (aL net held coming poured doors)).take i)) (v.acts.take l)=DS at hd4 asn hdl'
     have hsp:at'.2.toNat < DS.length:=by rw[hdl',sok.d];have:=aok.lo;have:=aok.hi;omega
     have hg:(DS.map V.bl)[at'.2.toNat]? = some (.bl (DS.getD at'.2.toNat false)):=by
      rw[List.getElem?_map,List.getD_eq_getElem?_getD];simp [hsp]
     obtain⟨jj,hj3,w1,w2,w3⟩:=EH aok.word
     refine⟨_,rfl,_,rfl,.inl ⟨dl,_,at'.2,_,rfl,rfl,bR.of hd4,kN aok.lo hg,_,rfl,(show 3<=sizeLine by decide),λ b1 hb1=>⟨(show 3<=sizeLine by decide),λ b2 hb2=>⟨.inl ⟨rfl,_,bR.of aB⟩,_,rfl,?_⟩⟩⟩⟩
     have m5:aH H4 (upd H4 b1 (.lst [.bl (!DS.getD at'.2.toNat false),.bl true,.bl false])):=aH.new hb1
     have m6:aH (upd H4 b1 (.lst [.bl (!DS.getD at'.2.toNat false),.bl true,.bl false])) (upd (upd H4 b1 (.lst [.bl (!DS.getD at'.2.toNat false),.bl true,.bl false])) b2 (.lst [.str "turn",.str "open",.str "shut"])):=aH.new hb2
     refine⟨b2,_,_,jj,rfl,rfl,aB,rfl,rfl,hj3,w1,w2,.inl ⟨b1,_,(jj:Int),_,rfl,rfl,bR.of (m6 _ _ aB),dW (w3 _),?_⟩⟩
     refine⟨_,rfl,_,rfl,dl,_,at'.2,at'.2.toNat,rfl,rfl,m6 _ _ (m5 _ _ hd4),kJ aok.lo (by rw[List.length_map];have:=aok.lo;omega),?_⟩
     refine⟨((sm4.trans m5).trans m6).put hdl,?_,_,_,_,_,_,_,_,_,_,_,_,rfl⟩
     rw[aB,aZ hat,asn,iT,List.map_set]
    ·rintro Z H4 ⟨sm4,hd4,v8,v9,v10,v11,v12,v13,v14,v15,v16,v18,v19,rfl⟩
     rw[ecs,List.take_length] at hd4
     refine⟨sm4,?_,_,_,_,_,_,_,_,_,_,_,_,rfl⟩
     rw[aZ hj,dsn]
     exact hd4
   ·rintro Z H3 ⟨sm3,hd3,v8,v9,v10,v11,v12,v13,v14,v15,v16,v18,v19,rfl⟩
    rw[List.length_map,List.take_length] at hd3
    have sA3:aH H H3:=sA.trans sm3
    have hg3:=sm3 _ _ hg2
    have ig3:=L2.IsL.mono sm3.ts _ _ ig2
    have hgxl:gxs.length=(bF ws (aL net held coming poured doors)).length:=by rw[ig2.length,List.length_map]
    refine⟨_,rfl,.inr (.inl ⟨a,_,0,_,rfl,rfl,sA3.tup q,rfl,b,xs,rfl,.inr (sA3.tup q1),_,rfl,by omega,by omega,?_⟩)⟩
    rw[hn]
    refine gK (n:=net.vs.length) (λ D i r Z H'=>H3 D=none/\aH H3 H'/\H' D=some (.lst r)/\r=((cC net.vs.length (bF ws (aL net held coming poured doors))).take i).map V.int/\∃ v,Z=[v,some (.ref gl)])
     (λ D hD=>⟨hD,aH.new hD,aB,by simp,none,rfl⟩) ?_ ?_
    rotate_left
    ·rintro D i r Z H4 hi ⟨hD,sm4,hDl,rfl,v,rfl⟩
     refine cT ?_
     refine⟨_,rfl,gl,rfl,⟨_,bR.of (sm4 _ _ hg3)⟩,gG (K:=K) (a:=gl) (xs:=gxs) (λ D' j r' Z H'=>H4 D'=none/\aH H4 H'/\H' D'=some (.lst r')/\r'=(r8 (some (i:Int)) ((bF ws (aL net held coming poured doors)).take j)).map V.int/\∃ u1 u2,Z=[u1,u2,some (.int (i:Int))])
      (λ D' j r' Z H' p=>bR.of (p.2.1 _ _ (sm4 _ _ hg3))) (λ D' hD'=>⟨hD',aH.new hD',aB,by simp [r8],none,none,rfl⟩) ?_ ?_⟩
     rotate_left
     ·rintro D' j x r' Z H5 hx' ⟨hD',sm5,hD'l,rfl,u1,u2,rfl⟩
      obtain⟨g,hg,ga,rfl,qg⟩:=iQ (L2.IsL.mono sm4.ts _ _ ig3) hx'
      refine⟨ga,_,rfl,sm5.tup qg,rfl,_,_,rfl,_,_,rfl,rfl,?_⟩
      have hsc:ES (iI g.1) (.int (i:Int))=true:=by cases g.1 <;> rfl
      have hiff:iI g.1=.int (i:Int)↔g.1=some (i:Int):=by cases g.1 <;> simp [iI]
      have hal:=wF (some (i:Int)) ((bF ws (aL net held coming poured doors)).take j)
      rw[List.length_take] at hal
      refine⟨_,rfl,_,rfl,hsc,_,rfl,?_⟩
      refine hX (λ ht=>?_) (λ hf=>?_)
      ·refine⟨_,rfl,hD'l,aP (by rw[List.length_map];omega),hD',sm5.put hD',aB,?_,_,_,rfl⟩
       rw[aZ hg,kO,if_pos (hiff.mp (of_decide_eq_true ht)),List.map_append];rfl
      ·refine⟨hD',sm5,hD'l,?_,_,_,rfl⟩
       rw[aZ hg,kO,if_neg (λ e=>hf (decide_eq_true (hiff.mpr e))),List.append_nil]
     rintro D' r' Z H5 ⟨hD',sm5,hD'l,rfl,_⟩
     rw[hgxl,List.take_length] at hD'l
     refine⟨false,D',_,rfl,bR.of hD'l,sm5 _ _ hDl,aP (by simp [cC];omega),hD,(sm4.trans sm5).put hD,aB,?_,_,rfl⟩
     have e:(cC net.vs.length (bF ws (aL net held coming poured doors)))[i]? = some (bQ (some (i:Int)) (bF ws (aL net held coming poured doors))):=by
      unfold cC;simp [hi]
     rw[aZ e,List.map_append,r6];rfl
    rintro D r Z H4 ⟨hD,sm4,hDl,rfl,_⟩
    have ll:(cC net.vs.length (bF ws (aL net held coming poured doors))).length=net.vs.length:=by unfold cC;simp
    rw[List.take_of_length_le (Nat.le_of_eq ll)] at hDl
    refine⟨_,rfl,gl,rfl,⟨_,bR.of (sm4 _ _ hg3)⟩,gG (K:=K) (a:=gl) (xs:=gxs) (λ D' j r' Z H'=>H4 D'=none/\aH H4 H'/\H' D'=some (.lst r')/\r'=(r8 none ((bF ws (aL net held coming poured doors)).take j)).map V.int/\∃ u1 u2,Z=[u1,u2])
     (λ D' j r' Z H' p=>bR.of (p.2.1 _ _ (sm4 _ _ hg3))) (λ D' hD'=>⟨hD',aH.new hD',aB,by simp [r8],none,none,rfl⟩) ?_ ?_⟩
    rotate_left
    ·rintro D' j x r' Z H5 hx' ⟨hD',sm5,hD'l,rfl,u1,u2,rfl⟩
     obtain⟨g,hg,ga,rfl,qg⟩:=iQ (L2.IsL.mono sm4.ts _ _ ig3) hx'
     refine⟨ga,_,rfl,sm5.tup qg,rfl,_,_,rfl,_,_,rfl,rfl,?_⟩
     have hiff:iI g.1=.non↔g.1=none:=by cases g.1 <;> simp [iI]
     have hal:=wF none ((bF ws (aL net held coming poured doors)).take j)
     rw[List.length_take] at hal
     refine⟨_,rfl,rfl,_,rfl,?_⟩
     refine hX (λ ht=>?_) (λ hf=>?_)
     ·refine⟨_,rfl,hD'l,aP (by rw[List.length_map];omega),hD',sm5.put hD',aB,?_,_,_,rfl⟩
      rw[aZ hg,kO,if_pos (hiff.mp (of_decide_eq_true ht)),List.map_append];rfl
     ·refine⟨hD',sm5,hD'l,?_,_,_,rfl⟩
      rw[aZ hg,kO,if_neg (λ e=>hf (decide_eq_true (hiff.mpr e))),List.append_nil]
    rintro D' r' Z H5 ⟨hD',sm5,hD'l,rfl,_⟩
    rw[hgxl,List.take_length] at hD'l
    refine⟨false,D',_,rfl,bR.of hD'l,?_⟩
    rw[r6]
    have c1:=sm5 _ _ (sm4 _ _ (sm3 _ _ hs2))
    have c2:=sm5 _ _ hDl
    have c3:=sm5 _ _ (sm4 _ _ hd3)
    have c4:=sm5 _ _ (sm4 _ _ (sm3 _ _ ht2))
    refine⟨_,rfl,sl,_,rfl,.inl ⟨bR.of c1,λ t1 ht1=>?_⟩⟩
    have m1:=aH.new (o:=HO.tup ((bW ws (aL net held coming poured doors)).map V.int)) ht1
    refine⟨_,rfl,D,_,rfl,.inl ⟨bR.of (m1 _ _ c2),λ t2 ht2=>?_⟩⟩
    have m2:=aH.new (o:=HO.tup ((cC net.vs.length (bF ws (aL net held coming poured doors))).map V.int)) ht2
    refine⟨_,rfl,dl,_,rfl,.inl ⟨bR.of (m2 _ _ (m1 _ _ c3)),λ t3 ht3=>?_⟩⟩
    have m3:=aH.new (o:=HO.tup ((bE ws doors (aT 0 ws (aL net held coming poured doors))).map V.bl)) ht3
    refine⟨(show 3<=sizeLine by decide),λ t4 ht4=>?_⟩
    have m4:=aH.new (o:=HO.tup [.ref t1,.ref t2,.ref t3]) ht4
    refine⟨_,rfl,tl,_,rfl,.inl ⟨bR.of (m4 _ _ (m3 _ _ (m2 _ _ (m1 _ _ c4)))),λ t5 ht5=>?_⟩⟩
    have m5:=aH.new (o:=HO.tup ((aT 0 ws (aL net held coming poured doors)).map λ (j:Nat)=>V.int (j:Int))) ht5
    refine⟨_,rfl,(show 3<=sizeLine by decide),λ t6 ht6=>?_⟩
    have m6:aH _ _:=aH.new (o:=HO.lst [.ref t4,.ref t5,.int (bQ none (bF ws (aL net held coming poured doors)))]) ht6
    refine k t6 (.ref t4) (.ref t5) _ (((((((((sA3.trans sm4).trans sm5).trans m1).trans m2).trans m3).trans m4).trans m5)).trans m6) (by rw[show (bV (fQ net fo) held coming poured doors).ground=bQ none (bF ws (aL net held coming poured doors)) by rw[<- hws];rfl];exact aB) ?_ ?_
    ·have ecm:(bV (fQ net fo) held coming poured doors).coming=cC net.vs.length (bF ws (aL net held coming poured doors)):=by
      show cC (g8 net.vs fo).length (bF (g8 net.vs fo) _)=_
      rw[hws,wl];rfl
     have ehd:(bV (fQ net fo) held coming poured doors).held=bW ws (aL net held coming poured doors):=by rw[<- hws];rfl
     have edr:(bV (fQ net fo) held coming poured doors).doors=bE ws doors (aT 0 ws (aL net held coming poured doors)):=by rw[<- hws];rfl
     rw[ecm,ehd,edr]
     exact Is.mono m6.ts _ _ (Is.mono m5.ts _ _ (yG (bO.of aB) (m4.tup (m3.tup (m2.tup (bO.of aB)))) (m4.tup (m3.tup (bO.of aB))) (m4.tup (bO.of aB))))
    ·refine Is.mono m6.ts _ _ (Is.tupOf (bO.of aB) ?_)
     rw[show (bV (fQ net fo) held coming poured doors).tip=aT 0 ws (aL net held coming poured doors) by rw[<- hws];rfl]
     have e1:((aT 0 ws (aL net held coming poured doors)).map λ (i:Nat)=>L2.D.int (i:Int))=((aT 0 ws (aL net held coming poured doors)).map λ (i:Nat)=>(i:Int)).map L2.D.int:=by rw[List.map_map];rfl
     have e2:((aT 0 ws (aL net held coming poured doors)).map λ (i:Nat)=>V.int (i:Int))=((aT 0 ws (aL net held coming poured doors)).map λ (i:Nat)=>(i:Int)).map V.int:=by rw[List.map_map];rfl
     rw[e1,e2]
     exact L2.IsL.of_ints _
end
end Tw
namespace L2
open PySem PySem.Spec PyProof.Rows TwZ
section
variable {X:Cx}{K:PySem.W.Frag}
end
end L2
namespace Tw
open PySem L2
theorem yY (k:Nat):∀ l:List Nat,inV (.int (k:Int)) (l.map λ (i:Nat)=>V.int (i:Int))=decide (k∈l)
 | []=>rfl
 | x::l=>by
  show (w4 (.int (x:Int)) (.int (k:Int)) || inV (.int (k:Int)) (l.map λ (i:Nat)=>V.int (i:Int)))=_
  rw[yY k l]
  show (((x:Int) == (k:Int)) || decide (k∈l))=decide (k∈x::l)
  by_cases h:k=x
  ·subst h;simp
  ·have h1:((x:Int) == (k:Int))=false:=by simp;omega
   have h2:decide (k∈x::l)=decide (k∈l):=by simp [h]
   rw[h1,h2,Bool.false_or]
theorem vY (l:List Nat):(l.map λ (i:Nat)=>V.int (i:Int)).all gZ=true:=by
 rw[List.all_eq_true]
 intro z hz
 obtain⟨i,_,rfl⟩:=List.mem_map.1 hz
 rfl
end Tw
namespace Tw
open PySem L2
noncomputable def dY (net:Net) (t:Nat):List Nat:=((b9 net t).tk net).tip
theorem pX {aq:Type} (f:Nat->aq) (n:Nat):(List.range (n+1)).map f=(List.range n).map f++[f n]:=by rw[List.range_succ,List.map_append];rfl
noncomputable def KF (l:List Nat):List V:=l.map λ (i:Nat)=>V.int (i:Int)
theorem gO {n:Nat} (h:n<=10000000):n < sizeLine:=by rw[sizeLine_eq];omega
section
variable {P:Program}{w:World}{K:PySem.W.Frag}{mg:Str->Option Value}{base:Heap}
theorem wQ {f:Addr}{fd:FuncData}{ps:List Str} (F:FnOk P w K mg base j3 2 f fd ps (tR K)):FnOk P w K mg base j3 2 f fd ps (oN K):=by
 refine F.imp λ vs H Q E h=>?_
 obtain⟨x,y,z,net,held,coming,poured,doors,rfl,h1,h2,h3,h4,h5,h6,k⟩:=h
 refine⟨x,y,z,net,held,coming,poured,doors,none,rfl,h1,h2,h3,h4,by rw[nX];exact h4,h5,h6,λ l p1 p2 H' s e i1 i2=>?_⟩
 rw[nX] at e i1 i2
 exact k l p1 p2 H' s e i1 i2
theorem qL {f fF:Addr}{fd fdF:FuncData} (F:Fun K "_law_tick" "_law_tick" (bH 42) f fd) (T:Txt mg) (G__law_filled:Callee P w K mg base "_law_filled" ["net","state","poured"] 1 (kE K) fF fdF):FnOk P w K mg base j3 2 f fd ["net","state","poured","fast"] (oN K):=
 wQ (lC F T G__law_filled)
end
end Tw
namespace Tw
open PySem L2
noncomputable def cW (net:Net) (i:Nat):Int:=bZ net.sps (b9 net i).doors
noncomputable def nK (net:Net) (i:Nat):Int:=((b9 net i).tk net).ground
noncomputable def lE (net:Net) (i:Nat):Int:=(b9 net i).held.sum+(b9 net i).coming.sum
noncomputable def fM (f:Nat->Int) (t:Nat):List Int:=(List.range t).map f
theorem dF (f:Nat->Int) (t:Nat):(fM f t).length=t:=by unfold fM;simp
theorem gC (f:Nat->Int) (t:Nat):fM f (t+1)=fM f t++[f t]:=by unfold fM;rw[List.range_succ,List.map_append];rfl
noncomputable def bP (f:Nat->Int) (a:Nat):Nat->Int
 | 0=>0
 | d+1=>bP f a d+f (a+d)
theorem mE (f:Nat->Int):∀ t,(fM f t).sum=bP f 0 t
 | 0=>rfl
 | t+1=>by rw[gC,List.sum_append,mE f t];simp [bP]
theorem kB (f:Nat->Int) (t n:Nat):(fM f t).take n=fM f (min n t):=by
 unfold fM;rw[<- List.map_take,List.take_range]
theorem gH (f:Nat->Int) (a d:Nat):∀ e,bP f a (d+e)=bP f a d+bP f (a+d) e
 | 0=>by simp [bP]
 | e+1=>by
  show bP f a (d+e)+f (a+(d+e))=bP f a d+(bP f (a+d) e+f (a+d+e))
  rw[gH f a d e,show a+(d+e)=a+d+e by omega];omega
theorem jY (f:Nat->Int) {t a r:Nat} (h:a+r<=t):(((fM f t).drop a).take r).sum=bP f a r:=by
 have h1:(((fM f t).take (a+r))).sum=((fM f t).take a).sum+(((fM f t).drop a).take r).sum:=by
  rw[List.take_add,List.sum_append]
 rw[kB,kB,mE,mE,Nat.min_eq_left h,Nat.min_eq_left (by omega),gH] at h1
 simp only [Nat.zero_add] at h1
 omega
theorem iC (f:Nat->Int) {t a:Nat} (h:a<=t):((fM f t).drop a).sum=bP f a (t - a):=by
 rw[<- jY f (t:=t) (a:=a) (r:=t - a) (by omega),List.take_of_length_le]
 rw[List.length_drop,dF];exact Nat.le_refl _
noncomputable def BQ (ns:List Int) (a n:Nat):Int:=((ns.take a).take n).sum+(((n - a) / (ns.length - a):Nat):Int) * (ns.drop a).sum+((ns.drop a).take ((n - a) % (ns.length - a))).sum
noncomputable def IV (f:Nat->Int) (a l n:Nat):Int:=if n<=a then bP f 0 n else bP f 0 (a+(n - a) % l)+(((n - a) / l:Nat):Int) * bP f a l
theorem BP (f:Nat->Int) {a t:Nat} (h:a < t) (n:Nat):BQ (fM f t) a n=IV f a (t - a) n:=by
 unfold BQ IV
 rw[dF,iC f (by omega)]
 have hl:0 < t - a:=by omega
 have hm:=Nat.mod_lt (n - a) hl
 rw[jY f (by omega),kB,kB,mE]
 by_cases hn:n<=a
 ·rw[if_pos hn,show n - a=0 by omega,Nat.zero_div,Nat.zero_mod,Nat.min_eq_left (by omega:a<=t),Nat.min_eq_left hn]
  simp [bP]
 ·rw[if_neg hn,Nat.min_eq_left (by omega:a<=t),Nat.min_eq_right (by omega:a<=n),gH]
  simp only [Nat.zero_add]
  omega
theorem BS {net:Net} (nok:NetOk net) (i:Nat):lE net i+cW net i=lE net (i+1)+nK net i:=by
 have sok:=eV nok i
 have hl:(aL net (b9 net i).held (b9 net i).coming (d5 net.vs.length) (b9 net i).doors).length=net.vs.length:=by
  unfold aL;rw[eB,eQ sok.h sok.c (fE _)]
 have hk:=kept nok hl
 have hs:(aL net (b9 net i).held (b9 net i).coming (d5 net.vs.length) (b9 net i).doors).sum=(b9 net i).held.sum+(b9 net i).coming.sum+(d5 net.vs.length).sum+bZ net.sps (b9 net i).doors:=by
  unfold aL
  rw[t0 (n:=net.vs.length) _ _ _ (eQ sok.h sok.c (fE _)) nok.sps,wG sok.h sok.c (fE _)]
 rw[rT] at hs
 unfold lE cW nK
 show _=((b9 net i).tk net).held.sum+((b9 net i).tk net).coming.sum+((b9 net i).tk net).ground
 unfold Sta.tk
 omega
theorem vA {net:Net} (nok:NetOk net) (a:Nat):∀ d,lE net a+bP (cW net) a d=lE net (a+d)+bP (nK net) a d
 | 0=>by simp [bP]
 | d+1=>by
  have h1:=vA nok a d
  have h2:=BS nok (a+d)
  show lE net a+(bP (cW net) a d+cW net (a+d))=lE net (a+d+1)+(bP (nK net) a d+nK net (a+d))
  omega
theorem vF {net:Net}{d:L2.D}{v:V}:∀ t,dH (dG net t) d=some v->∃ a:Nat,a < t/\v=.int (a:Int)/\eE (b9 net a)=d
 | 0,h=>by cases h
 | t+1,h=>by
  rw[show dG net (t+1)=fN (dG net t) (eE (b9 net t)) (.int (t:Int)) from rfl,j8] at h
  by_cases e:d=eE (b9 net t)
  ·rw[if_pos e] at h;cases h;exact⟨t,by omega,rfl,e.symm⟩
  ·rw[if_neg e] at h
   obtain⟨a,h1,h2,h3⟩:=vF t h
   exact⟨a,by omega,h2,h3⟩
theorem kI {aq:Type}{f:aq->L2.D} (hf:∀ a b,f a=f b->a=b):∀ {xs ys:List aq},xs.map f=ys.map f->xs=ys
 | [],[],_=>rfl
 | [],_::_,h=>by cases h
 | _::_,[],h=>by cases h
 | x::xs,y::ys,h=>by
  rw[List.map_cons,List.map_cons] at h
  injection h with h1 h2
  rw[hf _ _ h1,kI hf h2]
theorem kC {s s':Sta} (h:eE s=eE s'):s=s':=by
 have h':L2.D.tup [.tup (s.held.map L2.D.int),.tup (s.coming.map L2.D.int),.tup (s.doors.map L2.D.bl)]=.tup [.tup (s'.held.map L2.D.int),.tup (s'.coming.map L2.D.int),.tup (s'.doors.map L2.D.bl)]:=h
 injection h' with h'
 injection h' with h1 h'
 injection h' with h2 h'
 injection h' with h3 _
 injection h1 with h1
 injection h2 with h2
 injection h3 with h3
 obtain⟨a,b,c⟩:=s
 obtain⟨a',b',c'⟩:=s'
 have e1:a=a':=kI (λ x y e=>by injection e) h1
 have e2:b=b':=kI (λ x y e=>by injection e) h2
 have e3:c=c':=kI (λ x y e=>by injection e) h3
 rw[e1,e2,e3]
structure Rnd (net:Net) (a t:Nat):Prop where
 lt:a < t
 le:t<=2000
 eq:b9 net a=b9 net t
theorem uW.rnd {net:Net}{t:Nat}{j:Int} (h:uW net t j):∃ a:Nat,j=(a:Int)/\Rnd net a t:=by
 obtain⟨h1,h2,_⟩:=h
 obtain⟨a,h3,h4,h5⟩:=vF t h2
 injection h4 with h4
 exact⟨a,h4,h3,h1,kC h5⟩
theorem uW.uniq {net:Net}{t t':Nat}{j j':Int} (h:uW net t j) (h':uW net t' j'):t=t'/\j=j':=by
 have e:t=t':=by
  rcases Nat.lt_trichotomy t t' with hlt | e | hlt
  ·have:=h'.2.2 t hlt;rw[h.2.1] at this;cases this
  ·exact e
  ·have:=h.2.2 t' hlt;rw[h'.2.1] at this;cases this
 subst e
 have:=h.2.1.symm.trans h'.2.1
 injection this with this
 injection this with this
 exact⟨rfl,this⟩
theorem Rnd.sums {net:Net}{a t:Nat} (r:Rnd net a t) (nok:NetOk net):bP (nK net) a (t - a)=bP (cW net) a (t - a):=by
 have h:=vA nok a (t - a)
 rw[show a+(t - a)=t from by have:=r.lt;omega] at h
 have e:lE net a=lE net t:=by unfold lE;rw[r.eq]
 omega
noncomputable def oF (net:Net) (a l k:Nat):Nat:=((List.range l).filter λ d=>decide (k∈dY net (a+d))).length
theorem sD (net:Net) (a l k:Nat):oF net a (l+1) k=oF net a l k+(if k∈dY net (a+l) then 1 else 0):=by
 unfold oF
 rw[List.range_succ,List.filter_append,List.length_append]
 by_cases h:k∈dY net (a+l)
 ·simp [h]
 ·simp [h]
theorem nB:∀ (i:Nat) (vs:List Vs) (hs:List Int) (k:Nat),k∈aT i vs hs->i<=k
 | i,[],_,k,h=>by simp [aT] at h
 | i,_::_,[],k,h=>by simp [aT] at h
 | i,v::vs,b::hs,k,h=>by
  unfold aT at h
  split at h
  ·rcases List.mem_cons.1 h with rfl | h
   ·exact Nat.le_refl _
   ·have:=nB (i+1) vs hs k h;omega
  ·have:=nB (i+1) vs hs k h;omega
theorem iH:∀ (i:Nat) (vs:List Vs) (hs:List Int),(aT i vs hs).Nodup
 | i,[],_=>by simp [aT]
 | i,_::_,[]=>by simp [aT]
 | i,v::vs,b::hs=>by
  unfold aT
  split
  ·rw[List.nodup_cons]
   exact⟨λ h=>by have:=nB (i+1) vs hs i h;omega,iH (i+1) vs hs⟩
  ·exact iH (i+1) vs hs
theorem wA {l:List Nat} (k:Nat) (h:l.Nodup):((l.map λ (j:Nat)=>V.int (j:Int)).countP λ z=>w4 z (.int (k:Int)))=if k∈l then 1 else 0:=by
 induction l with
 | nil=>rfl
 | cons x l ih=>
  rw[List.nodup_cons] at h
  rw[List.map_cons,List.countP_cons,ih h.2]
  show _+(if ((x:Int) == (k:Int))=true then 1 else 0)=_
  by_cases e:x=k
  ·subst e
   rw[if_neg h.1];simp
  ·have:((x:Int) == (k:Int))=false:=by simp;omega
   rw[this]
   have h2:(k∈x::l)↔k∈l:=by simp [Ne.symm e]
   by_cases q:k∈l
   ·simp [q,h2]
   ·simp [q,h2]
end Tw
namespace Tw
open PySem L2
theorem y2 {aq:Type} (f:aq->V) (l:List aq) (n:Nat):kS (l.map f) none (some (n:Int))=(l.take n).map f:=by
 unfold kS
 rw[HT.sIx_none,HT.sIx_nat,List.drop_zero,Nat.sub_zero,List.length_map,<- List.map_take]
 congr 1
 rcases Nat.le_total n l.length with h | h
 ·rw[Nat.min_eq_left h]
 ·rw[Nat.min_eq_right h,List.take_of_length_le (Nat.le_refl _),List.take_of_length_le h]
theorem uM {aq:Type} (f:aq->V) (l:List aq) (n:Nat):kS (l.map f) (some (n:Int)) none=(l.drop n).map f:=by
 unfold kS
 rw[HT.sIx_none,HT.sIx_nat,List.length_map,<- List.map_drop]
 rcases Nat.le_total n l.length with h | h
 ·rw[Nat.min_eq_left h]
  exact List.take_of_length_le (by rw[List.length_map,List.length_drop];exact Nat.le_refl _)
 ·rw[Nat.min_eq_right h,List.drop_of_length_le (Nat.le_refl _),List.drop_of_length_le h];simp
theorem IS (xs:List V) (h:1<=xs.length):kS xs none (some (-1))=xs.take (xs.length - 1):=by
 unfold kS
 have e:HT.sIx xs.length xs.length (some (-1))=xs.length - 1:=by
  show (if (-1:Int) < 0 then ((-1:Int)+(xs.length:Int)).toNat else min (-1:Int).toNat xs.length)=_
  rw[if_pos (by decide)];omega
 rw[HT.sIx_none,e,List.drop_zero,Nat.sub_zero]
theorem x8 {aq:Type} (f:Nat->aq) {t:Nat} (h:1<=t):(List.range t).map f=f 0::(List.range (t - 1)).map λ m=>f (m+1):=by
 obtain⟨k,rfl⟩:∃ k,t=k+1:=⟨t - 1,by omega⟩
 rw[List.range_succ_eq_map,List.map_cons,List.map_map];rfl
section
variable {P:Program}{w:World}{K:PySem.W.Frag}{mg:Str->Option Value}{base:Heap}{C c_TipError c_NoNet c_NoVessel c_TooLong c_TooMany c_TooMuch c_Nothing c_NoText c_NoRow:Addr}
noncomputable def tT (K:PySem.W.Frag):Sp:=λ vs H Q _=>∃ (l:Addr) (ns:List Int) (a n:Nat),vs=[.ref l,.int (a:Int),.int (n:Int)]/\H l=some (.lst (ns.map V.int))/\a < ns.length/\ns.length<=100000/\-(2 ^ 60)<=(ns.drop a).sum/\(ns.drop a).sum<=2 ^ 60/\
 ∀ H',aH H H'->Q (.int (BQ ns a n)) H'
theorem sL:FnScope ["amounts","ahead","ticks","early","later","rounds","rest"] ["amounts","ahead","ticks"] (aK (bH 25)):=⟨rfl,rfl,rfl,by decide +kernel,rfl,by decide +kernel,by decide +kernel⟩
theorem AG {f:Addr}{fd:FuncData} (F:Fun K "sum_by" "sum_by" (bH 25) f fd) (T:Txt mg):FnOk P w K mg base j3 1 f fd ["amounts","ahead","ticks"] (tT K):=by
 refine F.ok sL (λ vs H Q E h=>?_) (λ cdv A outer s H vs Q E hr h=>?_)
 ·obtain⟨l,ns,a,n,rfl,_⟩:=h;rfl
 ·obtain⟨l,ns,a,n,rfl,hl,ha,hn,b1,b2,k⟩:=h
  have sc:=sL
  refine⟨_,(aD (xB (i:=3) (j:=4) rfl sc.nd rfl rfl (by decide) rfl rfl (aA (fT (gI (K:=K) rfl) (pv 0) gQ (gP (pv 1))) (aA (fT (gI (K:=K) rfl) (pv 0) (gP (pv 1)) gQ) aC)) rfl)
   (aD (cI (aR wC rfl T.b_divmod PyProof.Rows.boot_divmod (aA (aR (iD rfl) rfl T.b_max PyProof.Rows.boot_max (aA aG (aA (aW gX (pv 2) (pv 1)) aC))) (aA (aR (bN (K:=K) rfl) rfl T.b_len PySem.boot_len (aA (pv 4) aC)) aC))) (bB (K:=K) (n:=2) rfl rfl (aF (aE (i:=5) sc.nd rfl (Or.inl rfl)) (aF (aE (i:=6) sc.nd rfl (Or.inl rfl)) bA))))
   (aM (bX (aW cO (aW cO (aR (cU (K:=K) rfl rfl) rfl T.b_sum PyProof.Rows.boot_sum (aA (fT (gI (K:=K) rfl) (pv 3) gQ (gP (aR (iD rfl) rfl T.b_max PyProof.Rows.boot_max (aA aG (aA (pv 2) aC))))) aC)) (aW gE (pv 5) (aR (cU (K:=K) rfl rfl) rfl T.b_sum PyProof.Rows.boot_sum (aA (pv 4) aC)))) (aR (cU (K:=K) rfl rfl) rfl T.b_sum PyProof.Rows.boot_sum (aA (fT (gI (K:=K) rfl) (pv 4) gQ (gP (pv 6))) aC))))))),?_⟩
  refine⟨_,rfl,_,rfl,_,rfl,l,_,rfl,bR.of hl,λ p1 hp1=>?_⟩
  rw[y2]
  have s1:=aH.new (o:=HO.lst ((ns.take a).map V.int)) hp1
  have g1:upd H p1 (.lst ((ns.take a).map V.int)) p1=some (.lst ((ns.take a).map V.int)):=aB
  generalize upd H p1 (.lst ((ns.take a).map V.int))=H1 at s1 g1
  refine⟨_,rfl,_,rfl,_,rfl,l,_,rfl,bR.of (s1 _ _ hl),λ p2 hp2=>⟨_,_,rfl,?_⟩⟩
  rw[uM]
  have s2:=aH.new (o:=HO.lst ((ns.drop a).map V.int)) hp2
  have g2:upd H1 p2 (.lst ((ns.drop a).map V.int)) p2=some (.lst ((ns.drop a).map V.int)):=aB
  have g12:=s2 _ _ g1
  generalize upd H1 p2 (.lst ((ns.drop a).map V.int))=H2 at s2 g2 g12
  have hlen:((ns.drop a).map V.int).length=ns.length - a:=by rw[List.length_map,List.length_drop]
  have hmx:(if ((n:Int) - (a:Int)) > 0 then (n:Int) - (a:Int) else 0)=((n - a:Nat):Int):=by split <;> omega
  refine⟨_,rfl,_,rfl,_,_,rfl,rfl,0,_,rfl,?_⟩
  refine⟨_,rfl,p2,_,rfl,.inl (bR.of g2),_,_,rfl,⟨by rw[hlen];omega,by rw[hlen];omega⟩,λ p3 hp3=>?_⟩
  rw[hmx,hlen]
  have s3:=aH.new (o:=HO.tup [.int (((n - a:Nat):Int) / ((ns.length - a:Nat):Int)),.int (((n - a:Nat):Int) % ((ns.length - a:Nat):Int))]) hp3
  refine⟨p3,_,rfl,bO.of aB,rfl,_,_,rfl,_,_,rfl,rfl,?_⟩
  have g13:=s3 _ _ g12
  have g23:=s3 _ _ g2
  have s03:=(s1.trans s2).trans s3
  generalize upd H2 p3 (.tup [.int (((n - a:Nat):Int) / ((ns.length - a:Nat):Int)),.int (((n - a:Nat):Int) % ((ns.length - a:Nat):Int))])=H3 at s3 g13 g23 s03
  have hmy:(if ((n:Int)) > 0 then (n:Int) else 0)=(n:Int):=by split <;> omega
  refine⟨_,rfl,_,rfl,0,_,rfl,_,rfl,p1,_,rfl,bR.of g13,λ p4 hp4=>?_⟩
  rw[hmy,y2]
  have s4:=aH.new (o:=HO.lst (((ns.take a).take n).map V.int)) hp4
  have g24:=s4 _ _ g23
  refine⟨false,p4,_,rfl,bR.of aB,?_⟩
  have s04:=s03.trans s4
  generalize upd H3 p4 (.lst (((ns.take a).take n).map V.int))=H4 at s4 g24 s04
  refine⟨_,rfl,_,rfl,false,p2,_,rfl,bR.of g24,_,_,rfl,rfl,.inr ⟨by omega,by omega⟩,_,_,rfl,rfl,?_⟩
  have hr2:(((n - a:Nat):Int) % ((ns.length - a:Nat):Int))=(((n - a) % (ns.length - a):Nat):Int):=by omega
  have hr1:(((n - a:Nat):Int) / ((ns.length - a:Nat):Int))=(((n - a) / (ns.length - a):Nat):Int):=by omega
  refine⟨_,rfl,_,rfl,_,rfl,p2,_,rfl,bR.of g24,λ p5 hp5=>?_⟩
  rw[hr2,y2]
  refine⟨false,p5,_,rfl,bR.of aB,_,_,rfl,rfl,?_⟩
  rw[hr1]
  exact k _ (s04.trans (aH.new hp5))
structure Told2 (K:PySem.W.Frag) (H:Hp) (net:Net) (t:Nat) (tl:Addr) (us:List V):Prop where
 hl:H tl=some (.lst us)
 len:us.length=t
 tk:∀ (i:Nat) v,us[i]? = some v->lJ K H ((b9 net i).tk net) v
theorem Told2.same {H H':Hp}{net:Net}{t:Nat}{tl:Addr}{us:List V} (h:Told2 K H net t tl us) (s:aH H H'):Told2 K H' net t tl us:=⟨s _ _ h.hl,h.len,λ i v e=>(h.tk i v e).same s⟩
noncomputable def lM (K:PySem.W.Frag):Sp:=λ vs H Q _=>∃ (x:V) (net:Net) (t:Nat) (tl:Addr) (us:List V),vs=[x,.ref tl]/\Is K H (eF net) x/\NetOk net/\1<=t/\t<=2000/\Told2 K H net t tl us/\
 ∀ l H',aH H H'->H l=none->H' l=some (.lst ((fM (cW net) t).map V.int))->Q (.ref l) H'
theorem h9:FnScope ["net","told","ahead_of_each"] ["net","told"] (aK (bH 28)):=⟨rfl,rfl,rfl,by decide +kernel,rfl,by decide +kernel,by decide +kernel⟩
theorem mU {f f1 f2 f3:Addr}{fd fd1 fd2 fd3:FuncData} (F:Fun K "came_with_each" "came_with_each" (bH 28) f fd) (T:Txt mg) (G_first_state:Callee P w K mg base "first_state" ["net"] 1 (iL K) f1 fd1)
  (G_came_in:Callee P w K mg base "came_in" ["net","state","poured"] 1 (pL K) f2 fd2) (G_pouring:Callee P w K mg base "pouring" ["net","amount"] 1 (kD K) f3 fd3):FnOk P w K mg base j3 2 f fd ["net","told"] (lM K):=by
 refine F.ok h9 (λ vs H Q E h=>?_) (λ cdv A outer s H vs Q E hr h=>?_)
 ·obtain⟨x,net,t,tl,us,rfl,_⟩:=h;rfl
 ·obtain⟨x,net,t,tl,us,rfl,hx,nok,h1,h2,to,k⟩:=h
  have sc:=h9
  refine⟨_,(aD (aS (i:=2) sc.nd rfl (Or.inl rfl) (aW xG (cK (aA (fG G_first_state hr (aA (pv 0) aC)) aC)) (fJ (λ _ _ h=>h) rfl (LcOk.mk (N':=["state","tipped","grounded"]) (fr:=[none,none,none]) rfl trivial rfl rfl rfl rfl rfl trivial) (dZ (K:=K) rfl (fT (gI (K:=K) rfl) (pv 1) gQ (gP (GH BM aG)))) (λ _ _ _=>(bB (K:=K) (n:=3) rfl rfl (aF (aE (i:=0) (show (["state","tipped","grounded"]:List Str).Nodup by decide +kernel) rfl (Or.inl rfl) (Or.inr rfl)) (aF (aE (i:=1) (show (["state","tipped","grounded"]:List Str).Nodup by decide +kernel) rfl (Or.inl rfl) (Or.inr rfl)) (aF (aE (i:=2) (show (["state","tipped","grounded"]:List Str).Nodup by decide +kernel) rfl (Or.inl rfl) (Or.inr rfl)) bA))))) (λ _ _ _=>cA) (λ _ _ _=>(pv 0)))))
   (aM (bX (fJ (λ _ _ h=>h) rfl (LcOk.mk (N':=["state","net"]) (fr:=[none,some 0]) rfl ⟨rfl,trivial⟩ rfl rfl rfl rfl rfl ⟨⟨_,rfl,rfl,rfl,rfl⟩,trivial⟩) (dZ (K:=K) rfl (pv 2)) (λ _ _ _=>(aE (i:=0) (show (["state","net"]:List Str).Nodup by decide +kernel) rfl (Or.inl rfl) (Or.inr rfl))) (λ _ _ _=>cA) (λ _ _ _=>(fG G_came_in hr (aA (pv 1) (aA (pv 0) (aA (fG G_pouring hr (aA (pv 1) (aA aG aC))) aC))))))))),?_⟩
  refine⟨_,rfl,x,net,rfl,hx,nok,λ st H1 s1 hst=>⟨(show 1<=sizeLine by decide),λ e he=>?_⟩⟩
  have s2:=aH.new (o:=HO.lst [st]) he
  have ge:upd H1 e (.lst [st]) e=some (.lst [st]):=aB
  have s02:=s1.trans s2
  generalize upd H1 e (.lst [st])=H2 at s2 ge s02
  have to2:=to.same s02
  have len:=to.len
  refine⟨_,rfl,1,rfl,_,rfl,tl,us,rfl,bR.of to2.hl,λ p hp=>⟨p,rfl,⟨_,bR.of aB⟩,?_⟩⟩
  rw[IS us (by omega),len]
  have s3:=aH.new (o:=HO.lst (us.take (t - 1))) hp
  have gp:upd H2 p (.lst (us.take (t - 1))) p=some (.lst (us.take (t - 1))):=aB
  generalize upd H2 p (.lst (us.take (t - 1)))=H3 at s3 gp
  have lt:(us.take (t - 1)).length=t - 1:=by rw[List.length_take];omega
  have to3:=to2.same s3
  refine gG (K:=K) (a:=p) (xs:=us.take (t - 1)) (λ D i r Z H'=>H3 D=none/\aH H3 H'/\H' D=some (.lst r)/\IsL K H' ((List.range i).map λ m=>eE (b9 net (m+1))) r/\∃ u1 u2 u3,Z=[u1,u2,u3])
   (λ D i r Z H' p=>bR.of (p.2.1 _ _ gp)) (λ D hD=>⟨hD,aH.new hD,aB,.nil,none,none,none,rfl⟩) ?_ ?_
  rotate_left
  ·rintro D i y r Z H4 hy ⟨hD,sm,hDl,lr,u1,u2,u3,rfl⟩
   have hil:=(List.getElem?_eq_some_iff.mp hy).1
   have hy':us[i]? = some y:=by rw[List.getElem?_take_of_lt (by omega)] at hy;exact hy
   obtain⟨f0,st0,tp,rfl,qf,is,pl⟩:=(to3.same sm).tk i y hy'
   refine⟨f0,_,rfl,qf,rfl,_,_,rfl,_,_,rfl,_,_,rfl,rfl,?_⟩
   have hrl:r.length=i:=by rw[lr.length];simp
   have muD:iY (H4 D):=by rw[hDl];exact trivial
   refine hR ⟨_,rfl,hDl,gO (by omega),hD,sm.put hD,aB,?_,_,_,_,rfl⟩
   rw[pX]
   exact L2.IsL.snoc (Is.mono (d8.ts d8.upd muD) _ _ is) (L2.IsL.mono (d8.ts d8.upd muD) _ _ lr)
  rintro D r Z H4 ⟨hD,sm,hDl,lr,_⟩
  rw[lt] at lr
  have s24:=s3.trans sm
  have hrl:r.length=t - 1:=by rw[lr.length];simp
  refine⟨e,D,_,_,rfl,rfl,s24 _ _ ge,hDl,Nat.le_of_lt (gO (by simp;omega)),λ q hq=>?_⟩
  have s5:=aH.new (o:=HO.lst ([st]++r)) hq
  have gq:upd H4 q (.lst ([st]++r)) q=some (.lst ([st]++r)):=aB
  have s05:=(s02.trans s24).trans s5
  have lq:IsL K (upd H4 q (.lst ([st]++r))) ((List.range t).map λ m=>eE (b9 net m)) ([st]++r):=by
   rw[x8 _ h1]
   exact .cons (Is.mono ((s2.trans s24).trans s5).ts _ _ hst) (L2.IsL.mono s5.ts _ _ lr)
  generalize upd H4 q (.lst ([st]++r))=H5 at s5 gq s05 lq
  have lql:([st]++r).length=t:=by simp;omega
  refine⟨_,rfl,q,rfl,⟨_,bR.of gq⟩,gG (K:=K) (a:=q) (xs:=[st]++r) (λ D i r Z H'=>H5 D=none/\aH H5 H'/\H' D=some (.lst r)/\r=(fM (cW net) i).map V.int/\∃ u1,Z=[u1,some x])
   (λ D i r Z H' p=>bR.of (p.2.1 _ _ gq)) (λ D hD=>⟨hD,aH.new hD,aB,rfl,none,rfl⟩) ?_ ?_⟩
  rotate_left
  ·rintro D' i y r' Z H6 hy ⟨hD',sm6,hD'l,rfl,u1,rfl⟩
   have hil:=(List.getElem?_eq_some_iff.mp hy).1
   obtain⟨d,hd,iy⟩:=L2.IsL.get' (L2.IsL.mono sm6.ts _ _ lq) hy
   rw[List.getElem?_map,List.getElem?_range (by omega)] at hd
   cases hd
   have hx6:=Is.mono (s05.trans sm6).ts _ _ hx
   refine cT ?_
   refine⟨_,rfl,_,rfl,_,rfl,x,net,0,rfl,hx6,nok,λ z H7 s7 qz=>?_⟩
   rw[oV nok.lo] at qz
   refine⟨x,y,z,net,(b9 net i).held,(b9 net i).coming,d5 net.vs.length,(b9 net i).doors,rfl,Is.mono s7.ts _ _ hx6,Is.mono s7.ts _ _ iy,qz,nok,eV nok i,λ H8 s8=>?_⟩
   have s68:=s7.trans s8
   refine⟨s68 _ _ hD'l,gO (by rw[List.length_map,dF];omega),hD',(sm6.trans s68).put hD',aB,?_,_,rfl⟩
   rw[gC,List.map_append,rT,Int.zero_add];rfl
  ·rintro D' r' Z H6 ⟨hD',sm6,hD'l,rfl,_⟩
   rw[lql] at hD'l
   exact k D' _ (s05.trans sm6) (s05.free hD') hD'l
noncomputable def nG (K:PySem.W.Frag):Sp:=λ vs H Q _=>∃ (net:Net) (t:Nat) (tl:Addr) (us:List V),vs=[.ref tl]/\1<=t/\t<=2000/\Told2 K H net t tl us/\
 ∀ l H',aH H H'->H l=none->H' l=some (.lst ((fM (nK net) t).map V.int))->Q (.ref l) H'
theorem fZ:FnScope ["told"] ["told"] (aK (bH 29)):=⟨rfl,rfl,rfl,by decide +kernel,rfl,by decide +kernel,by decide +kernel⟩
theorem j4 {f:Addr}{fd:FuncData} (F:Fun K "grounded_with_each" "grounded_with_each" (bH 29) f fd) (T:Txt mg):FnOk P w K mg base j3 1 f fd ["told"] (nG K):=by
 refine F.ok fZ (λ vs H Q E h=>?_) (λ cdv A outer s H vs Q E hr h=>?_)
 ·obtain⟨net,t,tl,us,rfl,_⟩:=h;rfl
 ·obtain⟨net,t,tl,us,rfl,h1,h2,to,k⟩:=h
  have sc:=fZ
  refine⟨_,(aM (bX (fJ (λ _ _ h=>h) rfl (LcOk.mk (N':=["state","tipped","grounded"]) (fr:=[none,none,none]) rfl trivial rfl rfl rfl rfl rfl trivial) (dZ (K:=K) rfl (pv 0)) (λ _ _ _=>(bB (K:=K) (n:=3) rfl rfl (aF (aE (i:=0) (show (["state","tipped","grounded"]:List Str).Nodup by decide +kernel) rfl (Or.inl rfl) (Or.inr rfl)) (aF (aE (i:=1) (show (["state","tipped","grounded"]:List Str).Nodup by decide +kernel) rfl (Or.inl rfl) (Or.inr rfl)) (aF (aE (i:=2) (show (["state","tipped","grounded"]:List Str).Nodup by decide +kernel) rfl (Or.inl rfl) (Or.inr rfl)) bA))))) (λ _ _ _=>cA) (λ _ _ _=>(pv 2))))),?_⟩
  have len:=to.len
  refine⟨_,rfl,tl,rfl,⟨_,bR.of to.hl⟩,gG (K:=K) (a:=tl) (xs:=us) (λ D i r Z H'=>H D=none/\aH H H'/\H' D=some (.lst r)/\r=(fM (nK net) i).map V.int/\∃ u1 u2 u3,Z=[u1,u2,u3])
   (λ D i r Z H' p=>bR.of (p.2.1 _ _ to.hl)) (λ D hD=>⟨hD,aH.new hD,aB,rfl,none,none,none,rfl⟩) ?_ ?_⟩
  rotate_left
  ·rintro D i y r Z H4 hy ⟨hD,sm,hDl,rfl,u1,u2,u3,rfl⟩
   have hil:=(List.getElem?_eq_some_iff.mp hy).1
   obtain⟨f0,st0,tp,rfl,qf,is,pl⟩:=(to.same sm).tk i y hy
   refine⟨f0,_,rfl,qf,rfl,_,_,rfl,_,_,rfl,_,_,rfl,rfl,?_⟩
   refine hR ⟨_,rfl,hDl,gO (by rw[List.length_map,dF];omega),hD,sm.put hD,aB,?_,_,_,_,rfl⟩
   rw[gC,List.map_append];rfl
  ·rintro D r Z H4 ⟨hD,sm,hDl,rfl,_⟩
   rw[len] at hDl
   exact k D _ sm hD hDl
end
end Tw
namespace Tw
open PySem L2
noncomputable def eJ (net:Net) (v i:Nat):Int:=if v∈dY net i then 1 else 0
theorem EI (net:Net) (v i:Nat):0<=eJ net v i/\eJ net v i<=1:=by unfold eJ;split <;> omega
theorem sF (net:Net) (v a:Nat):∀ d:Nat,0<=bP (eJ net v) a d/\bP (eJ net v) a d<=(d:Int)
 | 0=>by simp [bP]
 | d+1=>by
  have h1:=sF net v a d
  have h2:=EI net v (a+d)
  show 0<=bP (eJ net v) a d+eJ net v (a+d)/\bP (eJ net v) a d+eJ net v (a+d)<=((d+1:Nat):Int)
  omega
noncomputable def J7 (f:Nat->Int) (a l:Nat):Prop:=∀ i,a<=i->f (i+l)=f i
theorem sK {net:Net}{a b:Nat} (h:b9 net a=b9 net b):∀ d,b9 net (a+d)=b9 net (b+d)
 | 0=>h
 | d+1=>by show (b9 net (a+d)).next net=(b9 net (b+d)).next net;rw[sK h d]
theorem yP {f:Nat->Int}{a l:Nat} (p:J7 f a l):∀ q i,a<=i->f (i+q * l)=f i
 | 0,i,_=>by rw[Nat.zero_mul,Nat.add_zero]
 | q+1,i,h=>by rw[Nat.succ_mul,<- Nat.add_assoc,p _ (by omega),yP p q i h]
theorem sS {f:Nat->Int}{a l:Nat} (p:J7 f a l) (q:Nat) {b:Nat} (hb:a<=b):∀ d,bP f (b+q * l) d=bP f b d
 | 0=>rfl
 | d+1=>by
  show bP f (b+q * l) d+f (b+q * l+d)=bP f b d+f (b+d)
  rw[sS p q hb d,show b+q * l+d=b+d+q * l by omega,yP p q _ (by omega)]
theorem yO {f:Nat->Int}{a l:Nat} (p:J7 f a l):∀ e,bP f (a+e) l=bP f a l
 | 0=>rfl
 | e+1=>by
  have h1:bP f (a+e) (l+1)=bP f (a+e) l+f (a+e+l):=rfl
  have h2:bP f (a+e) (1+l)=bP f (a+e) 1+bP f (a+e+1) l:=gH f (a+e) 1 l
  have h3:bP f (a+e) 1=f (a+e):=by show 0+f (a+e+0)=_;simp
  rw[Nat.add_comm 1 l,h1,h3,p _ (by omega)] at h2
  rw[<- yO p e,show a+(e+1)=a+e+1 by omega]
  omega
theorem lP {f:Nat->Int}{a l:Nat} (p:J7 f a l) {b:Nat} (hb:a<=b):∀ q:Nat,bP f b (q * l)=(q:Int) * bP f a l
 | 0=>by simp [bP]
 | q+1=>by
  rw[Nat.succ_mul,gH,lP p hb q,show b+q * l=a+(b - a+q * l) by omega,yO p,Int.natCast_add,Int.add_mul]
  simp
theorem E8 {f:Nat->Int}{a l:Nat} (hl:1<=l) (p:J7 f a l) (n:Nat):IV f a l n=bP f 0 n:=by
 unfold IV
 split
 ·rfl
 ·rename_i h
  have e:n=a+((n - a) / l * l+(n - a) % l):=by
   have:=Nat.div_add_mod' (n - a) l
   omega
  have h1:bP f 0 n=bP f 0 a+bP f a ((n - a) / l * l+(n - a) % l):=by
   conv=>lhs;rw[e]
   rw[gH,Nat.zero_add]
  rw[h1,gH f a,lP p (Nat.le_refl _),sS p _ (Nat.le_refl _),gH,Nat.zero_add]
  omega
end Tw
namespace Tw
open PySem L2
theorem FX (l:List V) (n:Nat):kS l (some (n:Int)) none=l.drop n:=by
 have:=uM (f:=id) l n
 simpa using this
noncomputable def KR (net:Net) (a k:Nat) (m:Nat):Int:=if k∈dY net (a+m) then 1 else 0
theorem zS (net:Net) (a k:Nat):∀ l,(fM (KR net a k) l).sum=(oF net a l k:Int)
 | 0=>rfl
 | l+1=>by
  rw[gC,List.sum_append,zS net a k l,sD]
  unfold KR
  simp only [List.sum_cons,List.sum_nil]
  split <;> simp
noncomputable def d7 (net:Net) (a l m:Nat):List Int:=fM (λ k=>(oF net a l k:Int)) m
section
variable {P:Program}{w:World}{K:PySem.W.Frag}{mg:Str->Option Value}{base:Heap}{C c_TipError c_NoNet c_NoVessel c_TooLong c_TooMany c_TooMuch c_Nothing c_NoText c_NoRow:Addr}
noncomputable def tS (K:PySem.W.Frag) (cL:Addr):Sp:=λ vs H Q E=>∃ (x:V) (net:Net),vs=[x]/\Is K H (eF net) x/\NetOk net/\
 (∀ (t a:Nat) p q H',uW net t (a:Int)->Rnd net a t->aH H H'->bO K H' p [.int (bP (cW net) a (t - a)),.int (bP (nK net) a (t - a)),.ref q]->bO K H' q ((d7 net a (t - a) net.vs.length).map V.int)->Q (.ref p) H')/\(uU net->∀ H',aH H H'->E (.ref cL) none H')
theorem kU:FnScope ["net","ahead","told","tipped_in_round","tips"] ["net"] (aK (bH 27)):=⟨rfl,rfl,rfl,by decide +kernel,rfl,by decide +kernel,by decide +kernel⟩
theorem qH {f f1 f2 f3:Addr}{fd fd1 fd2 fd3:FuncData} (F:Fun K "round_sums" "round_sums" (bH 27) f fd) (T:Txt mg) (G_go_round:CalleeR P w K mg base "go_round" ["net"] 5 (vD K c_TooLong) f1 fd1)
  (G_came_with_each:Callee P w K mg base "came_with_each" ["net","told"] 2 (lM K) f2 fd2) (G_grounded_with_each:Callee P w K mg base "grounded_with_each" ["told"] 1 (nG K) f3 fd3) :
  FnOk P w K mg base (wM P w) 6 f fd ["net"] (tS K c_TooLong):=by
 refine F.okR kU (λ vs H Q E h=>?_) (λ cdv A outer s H vs Q E hr h L=>?_)
 ·obtain⟨x,net,rfl,_⟩:=h;rfl
 ·obtain⟨x,net,rfl,hx,nok,kR,kL⟩:=h
  have sc:=kU
  refine⟨_,(aD (cI (fW G_go_round.ok (hr.mono (by decide)) rfl G_go_round.mg G_go_round.kp G_go_round.bd .nil (oO L) (aA (pv 0) aC)) (bB (K:=K) (n:=2) rfl rfl (aF (aE (i:=1) sc.nd rfl (Or.inl rfl)) (aF (aE (i:=2) sc.nd rfl (Or.inl rfl)) bA))))
   (aD (mO λ pn=>(aS (i:=3) sc.nd rfl (Or.inr rfl) (fJ (λ _ _ h=>h) rfl (LcOk.mk (N':=["state","tipped","grounded"]) (fr:=[none,none,none]) rfl trivial rfl rfl rfl rfl rfl trivial) (dZ (K:=K) rfl (fT (gI (K:=K) rfl) (pv 2) (gP (pv 1)) gQ)) (λ _ _ _=>(bB (K:=K) (n:=3) rfl rfl (aF (aE (i:=0) (show (["state","tipped","grounded"]:List Str).Nodup by decide +kernel) rfl (Or.inl rfl) (Or.inr rfl)) (aF (aE (i:=1) (show (["state","tipped","grounded"]:List Str).Nodup by decide +kernel) rfl (Or.inl rfl) (Or.inr rfl)) (aF (aE (i:=2) (show (["state","tipped","grounded"]:List Str).Nodup by decide +kernel) rfl (Or.inl rfl) (Or.inr rfl)) bA))))) (λ _ _ _=>cA) (λ _ _ _=>(pv 1)))))
   (aD (mO λ pn=>(pY (i:=4) sc.nd rfl rfl (λ _ _ h=>h) rfl (LcOk2.mk (N':=["number","tipped_in_round"]) (fr:=[none,some 3]) rfl ⟨rfl,trivial⟩ rfl rfl rfl rfl rfl ⟨⟨_,rfl,rfl,rfl,rfl⟩,trivial⟩) (bT rfl T.b_range (aA (aR (bN (K:=K) rfl) rfl T.b_len PySem.boot_len (aA (aQ (aJ (K:=K) rfl) (pv 0) aG (λ _ _=>rfl)) aC)) aC)) (λ _ _ _=>(aE (i:=0) (show (["number","tipped_in_round"]:List Str).Nodup by decide +kernel) rfl (Or.inr rfl) (Or.inl rfl))) (λ _ _ _=>cA) (λ _ _ _=>(aR (cU (K:=K) rfl rfl) rfl T.b_sum PyProof.Rows.boot_sum (aA (fJ (λ _ _ h=>h) rfl (LcOk.mk (N':=["tipped","number"]) (fr:=[none,some 0]) rfl ⟨rfl,trivial⟩ rfl rfl rfl rfl rfl ⟨⟨_,rfl,rfl,rfl,rfl⟩,trivial⟩) (dZ (K:=K) rfl (pv 1)) (λ _ _ _=>(aE (i:=0) (show (["tipped","number"]:List Str).Nodup by decide +kernel) rfl (Or.inl rfl) (Or.inr rfl))) (λ _ _ _=>cA) (λ _ _ _=>(HV PySem.F.plainAttrs_tuple PySem.F.slot_tuple_count PySem.F.type_tuple_count (xK (K:=K) rfl) (pv 0) (aA (pv 1) aC)))) aC)))))
   (aM (bX (bK (aA (aR (cU (K:=K) rfl rfl) rfl T.b_sum PyProof.Rows.boot_sum (aA (fT (gI (K:=K) rfl) (fG G_came_with_each hr (aA (pv 0) (aA (pv 2) aC))) (gP (pv 1)) gQ) aC)) (aA (aR (cU (K:=K) rfl rfl) rfl T.b_sum PyProof.Rows.boot_sum (aA (fT (gI (K:=K) rfl) (fG G_grounded_with_each hr (aA (pv 2) aC)) (gP (pv 1)) gQ) aC)) (aA (bC (bU (K:=K) rfl) rfl T.b_tuple cB (aA (pv 4) aC)) aC))))))))),?_⟩
  refine⟨_,rfl,x,net,rfl,hx,nok,λ t j p tl us H1 hrep s1 qp htl hul tks ftl=>?_,kL⟩
  obtain⟨a,rfl,rnd⟩:=hrep.rnd
  have r1:=rnd.lt
  have r2:=rnd.le
  have n2:=nok.hi
  have to:Told2 K H1 net t tl us:=⟨htl,hul,tks⟩
  refine⟨p,_,rfl,qp,rfl,_,_,rfl,_,_,rfl,rfl,?_⟩
  refine⟨_,rfl,_,rfl,_,rfl,tl,us,rfl,bR.of htl,λ q hq=>⟨q,rfl,⟨_,bR.of aB⟩,?_⟩⟩
  rw[FX]
  have s2:=aH.new (o:=HO.lst (us.drop a)) hq
  have gq:upd H1 q (.lst (us.drop a)) q=some (.lst (us.drop a)):=aB
  generalize upd H1 q (.lst (us.drop a))=H2 at s2 gq
  have to2:=to.same s2
  have ld:(us.drop a).length=t - a:=by rw[List.length_drop,hul]
  refine gG (K:=K) (a:=q) (xs:=us.drop a) (λ D i r Z H'=>H2 D=none/\aH H2 H'/\H' D=some (.lst r)/\(∃ tps:List Addr,r=tps.map V.ref/\tps.length=i/\∀ (m:Nat) tp,tps[m]? = some tp->Pl H' tp (KF (dY net (a+m))))/\∃ u1 u2 u3,Z=[u1,u2,u3])
   (λ D i r Z H' p=>bR.of (p.2.1 _ _ gq)) (λ D hD=>⟨hD,aH.new hD,aB,⟨[],rfl,rfl,λ m tp h=>by simp at h⟩,none,none,none,rfl⟩) ?_ ?_
  rotate_left
  ·rintro D i y r Z H4 hy ⟨hD,sm,hDl,⟨tps,rfl,htp,hpl⟩,u1,u2,u3,rfl⟩
   have hil:=(List.getElem?_eq_some_iff.mp hy).1
   have hy':us[a+i]? = some y:=by rw[List.getElem?_drop] at hy;exact hy
   obtain⟨f0,st0,tp,rfl,qf,is,pl⟩:=(to2.same sm).tk (a+i) y hy'
   refine⟨f0,_,rfl,qf,rfl,_,_,rfl,_,_,rfl,_,_,rfl,rfl,?_⟩
   have muD:iY (H4 D):=by rw[hDl];exact trivial
   refine hR ⟨_,rfl,hDl,gO (by rw[List.length_map];omega),hD,sm.put hD,aB,⟨tps++[tp],by rw[List.map_append];rfl,by simp [htp],λ m z hm=>?_⟩,_,_,_,rfl⟩
   rcases Nat.lt_or_ge m tps.length with hlt | hge
   ·rw[List.getElem?_append_left hlt] at hm
    exact (hpl m z hm).but d8.upd muD
   ·have hml:=(List.getElem?_eq_some_iff.mp hm).1
    rw[List.length_append,List.length_singleton] at hml
    have:m=i:=by omega
    subst this
    rw[List.getElem?_append_right hge,htp,Nat.sub_self] at hm
    cases hm
    exact Pl.but pl d8.upd muD
  rintro D r Z H4 ⟨hD,sm4,hDl,⟨tps,rfl,htp,hpl⟩,_⟩
  rw[ld] at htp
  have s14:=s2.trans sm4
  have hx4:=Is.mono (s1.trans s14).ts _ _ hx
  obtain⟨na,nb,nc,xs,ys,ex,nq,nq1,l1,nq2,l2⟩:=dS hx4
  have exl:xs.length=net.vs.length:=by rw[l1.length,List.length_map]
  refine⟨_,rfl,.inr (.inl ⟨na,_,0,_,ex,rfl,nq,rfl,nb,xs,rfl,.inr nq1,_,rfl,by omega,by omega,?_⟩)⟩
  rw[show ((xs.length:Nat):Int).toNat=net.vs.length from by rw[exl];simp]
  refine gK (n:=net.vs.length) (λ D' i r Z H'=>H4 D'=none/\aH H4 H'/\H' D'=some (.lst r)/\r=(d7 net a (t - a) i).map V.int/\∃ v,Z=[v,some (.ref D)])
   (λ D' hD'=>⟨hD',aH.new hD',aB,rfl,none,rfl⟩) ?_ ?_
  rotate_left
  ·rintro D' i r Z H5 hi ⟨hD',sm5,hD'l,rfl,v,rfl⟩
   refine cT ?_
   refine⟨_,rfl,D,rfl,⟨_,bR.of (sm5 _ _ hDl)⟩,gG (K:=K) (a:=D) (xs:=tps.map V.ref) (λ D2 m r Z H'=>H5 D2=none/\aH H5 H'/\H' D2=some (.lst r)/\r=(fM (KR net a i) m).map V.int/\∃ u,Z=[u,some (.int (i:Int))])
    (λ D2 m r Z H' p=>bR.of (p.2.1 _ _ (sm5 _ _ hDl))) (λ D2 hD2=>⟨hD2,aH.new hD2,aB,rfl,none,rfl⟩) ?_ ?_⟩
   rotate_left
   ·rintro D2 m y r Z H6 hy ⟨hD2,sm6,hD2l,rfl,u,rfl⟩
    rw[List.getElem?_map] at hy
    obtain⟨tp,htm,rfl⟩:=Option.map_eq_some_iff.mp hy
    have hml:=(List.getElem?_eq_some_iff.mp htm).1
    have pl6:=((hpl m tp htm).same sm5).same sm6
    refine cT ?_
    refine⟨_,rfl,⟨tp,_,rfl,pl6⟩,_,rfl,tp,_,_,rfl,rfl,pl6.sq,rfl,vY _,?_⟩
    rw[show ((KF (dY net (a+m))).countP λ z=>w4 z (.int (i:Int)))=if i∈dY net (a+m) then 1 else 0 from wA i (iH _ _ _)]
    refine⟨hD2l,gO (by rw[List.length_map,dF];omega),hD2,sm6.put hD2,aB,?_,_,rfl⟩
    rw[gC,List.map_append]
    congr 1
    show [V.int _]=[V.int (KR net a i m)]
    unfold KR
    split <;> rfl
   ·rintro D2 r Z H6 ⟨hD2,sm6,hD2l,rfl,_⟩
    rw[List.length_map,htp] at hD2l
    refine⟨false,D2,_,rfl,bR.of hD2l,?_⟩
    rw[zS]
    have s56:=sm6
    refine⟨s56 _ _ hD'l,gO (by rw[List.length_map];unfold d7;rw[dF];omega),hD',(sm5.trans s56).put hD',aB,?_,_,rfl⟩
    unfold d7
    rw[gC,List.map_append];rfl
  rintro D' r Z H5 ⟨hD',sm5,hD'l,rfl,_⟩
  have s15:=s14.trans sm5
  have to5:=to.same s15
  have hx5:=Is.mono (s1.trans s15).ts _ _ hx
  refine⟨_,rfl,_,rfl,x,net,t,tl,us,rfl,hx5,nok,by omega,r2,to5,λ l H6 s6 fl hl=>?_⟩
  refine⟨_,rfl,_,rfl,l,_,rfl,bR.of hl,λ p7 hp7=>?_⟩
  rw[uM]
  have s7:=aH.new (o:=HO.lst (((fM (cW net) t).drop a).map V.int)) hp7
  refine⟨false,p7,_,rfl,bR.of aB,?_⟩
  rw[iC _ (by omega)]
  have s57:=s6.trans s7
  generalize upd H6 p7 (.lst (((fM (cW net) t).drop a).map V.int))=H7 at s57
  have to7:=to5.same s57
  refine⟨_,rfl,net,t,tl,us,rfl,by omega,r2,to7,λ l8 H8 s8 fl8 hl8=>?_⟩
  refine⟨_,rfl,_,rfl,l8,_,rfl,bR.of hl8,λ p9 hp9=>?_⟩
  rw[uM]
  have s9:=aH.new (o:=HO.lst (((fM (nK net) t).drop a).map V.int)) hp9
  refine⟨false,p9,_,rfl,bR.of aB,?_⟩
  rw[iC _ (by omega)]
  have s59:=(s57.trans s8).trans s9
  generalize upd H8 p9 (.lst (((fM (nK net) t).drop a).map V.int))=H9 at s59
  refine⟨_,rfl,D',_,rfl,.inl ⟨bR.of (s59 _ _ hD'l),λ tq htq=>⟨(show 3<=sizeLine by decide),λ pf hpf=>?_⟩⟩⟩
  have s10:=aH.new (o:=HO.tup ((d7 net a (t - a) net.vs.length).map V.int)) htq
  have s11:=aH.new (o:=HO.tup [.int (bP (cW net) a (t - a)),.int (bP (nK net) a (t - a)),.ref tq]) hpf
  exact kR t a pf tq _ hrep rnd ((((s1.trans s15).trans s59).trans s10).trans s11) (bO.of aB) (s11.tup (bO.of aB))
end
end Tw
namespace Tw
open PySem L2
noncomputable def Sta.app (s u:Sta):Sta:=⟨s.held++u.held,s.coming++u.coming,s.doors++u.doors⟩
theorem yD {A B:Net} (ha:NetOk A) (hb:NetOk B) (i:Nat) (e:b9 (aU A B) i=(b9 A i).app (b9 B i)) :
  (b9 (aU A B) i).tk (aU A B)=bV (aU A B) ((b9 A i).held++(b9 B i).held) ((b9 A i).coming++(b9 B i).coming) (d5 A.vs.length++d5 B.vs.length) ((b9 A i).doors++(b9 B i).doors):=by
 rw[e];unfold Sta.tk Sta.app;rw[iS,rV]
theorem jG {A B:Net} (ha:NetOk A) (hb:NetOk B):∀ i,b9 (aU A B) i=(b9 A i).app (b9 B i)
 | 0=>by
  show BT (aU A B)=(BT A).app (BT B)
  unfold BT Sta.app
  rw[iS,rV]
  show Sta.mk _ _ ((A.sps++B.sps.map (wY A.vs.length)).map _)=_
  rw[List.map_append,List.map_map];rfl
 | i+1=>by
  have ih:=jG ha hb i
  obtain⟨k1,k2,k3,_,_⟩:=nV ha hb (eV ha i) (fE _) (eV hb i) (fE _)
  show (b9 (aU A B) i).next (aU A B)=((b9 A i).next A).app ((b9 B i).next B)
  unfold Sta.next
  rw[yD ha hb i ih,k1,k2,k3];rfl
theorem uZ {A B:Net} (ha:NetOk A) (hb:NetOk B) (i:Nat):dY (aU A B) i=dY A i++(dY B i).map (A.vs.length + ·):=by
 obtain⟨_,_,_,k4,_⟩:=nV ha hb (eV ha i) (fE _) (eV hb i) (fE _)
 unfold dY
 rw[yD ha hb i (jG ha hb i),k4];rfl
theorem BO {net:Net}{i k:Nat} (h:k∈dY net i):k < net.vs.length:=by
 have:=i5 _ _ _ _ (show k∈aT 0 net.vs _ from h)
 omega
theorem sC {A B:Net} (ha:NetOk A) (hb:NetOk B) {v:Nat} (h:v < A.vs.length) (i:Nat):eJ (aU A B) v i=eJ A v i:=by
 unfold eJ
 rw[uZ ha hb]
 have:(v∈dY A i++(dY B i).map (A.vs.length + ·))↔v∈dY A i:=by
  rw[List.mem_append]
  constructor
  ·rintro (z | z)
   ·exact z
   ·obtain⟨u,_,e⟩:=List.mem_map.1 z;omega
  ·exact .inl
 simp only [this]
theorem pC {A B:Net} (ha:NetOk A) (hb:NetOk B) (u i:Nat):eJ (aU A B) (A.vs.length+u) i=eJ B u i:=by
 unfold eJ
 rw[uZ ha hb]
 have:(A.vs.length+u∈dY A i++(dY B i).map (A.vs.length + ·))↔u∈dY B i:=by
  rw[List.mem_append]
  constructor
  ·rintro (z | z)
   ·have:=BO z;omega
   ·obtain⟨u',hu,e⟩:=List.mem_map.1 z
    have:u'=u:=by omega
    subst this;exact hu
  ·exact λ z=>.inr (List.mem_map.2 ⟨u,z,rfl⟩)
 simp only [this]
theorem B2 {A B:Net} (ha:NetOk A) (hb:NetOk B) (i:Nat):cW (aU A B) i=cW A i+cW B i:=by
 unfold cW
 rw[jG ha hb]
 show bZ (A.sps++B.sps.map (wY A.vs.length)) ((b9 A i).doors++(b9 B i).doors)=_
 rw[o8 _ _ _ _ (eV ha i).d.symm,qF]
theorem zK {A B:Net} (ha:NetOk A) (hb:NetOk B) (i j:Nat):b9 (aU A B) i=b9 (aU A B) j↔b9 A i=b9 A j/\b9 B i=b9 B j:=by
 rw[jG ha hb,jG ha hb]
 constructor
 ·intro h
  unfold Sta.app at h
  injection h with h1 h2 h3
  have a1:=(List.append_inj h1 (by rw[(eV ha i).h,(eV ha j).h]))
  have a2:=(List.append_inj h2 (by rw[(eV ha i).c,(eV ha j).c]))
  have a3:=(List.append_inj h3 (by rw[(eV ha i).d,(eV ha j).d]))
  constructor
  ·cases e:b9 A i;cases e':b9 A j
   rw[e,e'] at a1 a2 a3
   simp only at a1 a2 a3
   rw[a1.1,a2.1,a3.1]
  ·cases e:b9 B i;cases e':b9 B j
   rw[e,e'] at a1 a2 a3
   simp only at a1 a2 a3
   rw[a1.2,a2.2,a3.2]
 ·rintro⟨h1,h2⟩;rw[h1,h2]
theorem kG (net:Net) (d:L2.D):∀ t,dH (dG net t) d=none↔∀ i,i < t->eE (b9 net i)≠d
 | 0=>⟨λ _ i h=>absurd h (Nat.not_lt_zero i),λ _=>rfl⟩
 | t+1=>by
  have ih:=kG net d t
  rw[show dG net (t+1)=fN (dG net t) (eE (b9 net t)) (.int (t:Int)) from rfl,j8]
  by_cases e:d=eE (b9 net t)
  ·rw[if_pos e]
   exact⟨λ h=>(by cases h),λ h=>absurd e.symm (h t (by omega))⟩
  ·rw[if_neg e,ih]
   constructor
   ·intro h i hi
    by_cases e2:i=t
    ·subst e2;exact Ne.symm e
    ·exact h i (by omega)
   ·intro h i hi;exact h i (by omega)
theorem vE (net:Net) (d:L2.D) (a:Nat) (e:eE (b9 net a)=d):∀ t,a < t->(∀ i,i < t->i≠a->eE (b9 net i)≠d)->dH (dG net t) d=some (.int (a:Int))
 | 0,h,_=>by omega
 | t+1,h,hu=>by
  rw[show dG net (t+1)=fN (dG net t) (eE (b9 net t)) (.int (t:Int)) from rfl,j8]
  by_cases q:d=eE (b9 net t)
  ·rw[if_pos q]
   have:t=a:=Classical.byContradiction λ z=>hu t (by omega) z q.symm
   subst this;rfl
  ·rw[if_neg q]
   have:t≠a:=λ z=>by subst z;exact q e.symm
   exact vE net d a e t (by omega) λ i hi=>hu i (by omega)
structure Cyc (net:Net) (a l:Nat):Prop where
 l1:1<=l
 eq:b9 net a=b9 net (a+l)
 ne:∀ i j,i < j->j < a+l->b9 net i≠b9 net j
theorem uW.cyc {net:Net}{t a:Nat} (h:uW net t (a:Int)):Cyc net a (t - a)/\a < t/\t<=2000:=by
 obtain⟨a',e,r⟩:=h.rnd
 have:a'=a:=by omega
 subst this
 have hl:=r.lt
 refine⟨⟨by omega,by rw[show a'+(t - a')=t by omega];exact r.eq,λ i j hij hj e=>?_⟩,r.lt,r.le⟩
 have:=h.2.2 j (by omega)
 exact (kG net _ j).1 this i hij (by rw[e])
theorem Cyc.rep {net:Net}{a l:Nat} (c:Cyc net a l) (h:a+l<=2000):uW net (a+l) (a:Int):=by
 refine⟨h,?_,λ i hi=>?_⟩
 ·have hl:=c.l1
  refine vE net _ a (by rw[c.eq]) (a+l) (by omega) λ i hi hne e=>?_
  have e:=kC e
  rw[<- c.eq] at e
  rcases Nat.lt_or_gt_of_ne hne with z | z
  ·exact c.ne i a z (by omega) e
  ·exact c.ne a i z hi e.symm
 ·exact (kG net _ i).2 λ q hq e=>c.ne q i hq hi (kC e)
theorem Cyc.long {net:Net}{a l:Nat} (c:Cyc net a l) (h:2000 < a+l):uU net:=λ i hi=>(kG net _ i).2 λ q hq e=>c.ne q i hq (by omega) (kC e)
theorem Cyc.mul {net:Net}{a l:Nat} (c:Cyc net a l) {i:Nat} (hi:a<=i):∀ q,b9 net (i+q * l)=b9 net i
 | 0=>by rw[Nat.zero_mul,Nat.add_zero]
 | q+1=>by
  have h:=sK c.eq (i+q * l - a)
  rw[show a+(i+q * l - a)=i+q * l by omega,show a+l+(i+q * l - a)=i+(q+1) * l by rw[Nat.succ_mul];omega] at h
  rw[<- h];exact Cyc.mul c hi q
theorem Cyc.red {net:Net}{a l:Nat} (c:Cyc net a l) {i:Nat} (hi:a<=i):b9 net i=b9 net (a+(i - a) % l):=by
 have:=c.mul (i:=a+(i - a) % l) (by omega) ((i - a) / l)
 rw[<- this]
 have e:=Nat.div_add_mod' (i - a) l
 congr 1;omega
theorem Cyc.iff {net:Net}{a l:Nat} (c:Cyc net a l) {i j:Nat} (h:i < j):b9 net i=b9 net j↔a<=i/\l ∣ (j - i):=by
 have hl:=c.l1
 constructor
 ·intro e
  by_cases hi:a<=i
  ·refine⟨hi,?_⟩
   rw[c.red hi,c.red (show a<=j by omega)] at e
   have m1:=Nat.mod_lt (i - a) (show 0 < l by omega)
   have m2:=Nat.mod_lt (j - a) (show 0 < l by omega)
   have em:(i - a) % l=(j - a) % l:=by
    rcases Nat.lt_trichotomy ((i - a) % l) ((j - a) % l) with z | z | z
    ·exact absurd e (c.ne _ _ (by omega) (by omega))
    ·exact z
    ·exact absurd e.symm (c.ne _ _ (by omega) (by omega))
   have:=Nat.dvd_of_mod_eq_zero (Nat.sub_mod_eq_zero_of_mod_eq em.symm)
   rw[show j - a - (i - a)=j - i by omega] at this
   exact this
  ·exfalso
   by_cases hj:a<=j
   ·rw[c.red hj] at e
    have m2:=Nat.mod_lt (j - a) (show 0 < l by omega)
    exact c.ne _ _ (by omega) (by omega) e
   ·exact c.ne _ _ h (by omega) e
 ·rintro⟨hi,q,hq⟩
  have:=c.mul hi q
  rw[<- this];congr 1
  rw[Nat.mul_comm] at hq;omega
theorem E4 {A B:Net} (ha:NetOk A) (hb:NetOk B) {a1 l1 a2 l2:Nat} (c1:Cyc A a1 l1) (c2:Cyc B a2 l2):Cyc (aU A B) (max a1 a2) (Nat.lcm l1 l2):=by
 have p1:=c1.l1
 have p2:=c2.l1
 have pl:0 < Nat.lcm l1 l2:=Nat.lcm_pos (by omega) (by omega)
 refine⟨pl,?_,λ i j hij hj e=>?_⟩
 ·rw[zK ha hb]
  refine⟨(c1.iff (by omega)).2 ⟨by omega,?_⟩,(c2.iff (by omega)).2 ⟨by omega,?_⟩⟩
  ·rw[Nat.add_sub_cancel_left];exact Nat.dvd_lcm_left l1 l2
  ·rw[Nat.add_sub_cancel_left];exact Nat.dvd_lcm_right l1 l2
 ·obtain⟨e1,e2⟩:=(zK ha hb i j).1 e
  obtain⟨g1,d1⟩:=(c1.iff hij).1 e1
  obtain⟨g2,d2⟩:=(c2.iff hij).1 e2
  have:=Nat.le_of_dvd (by omega) (Nat.lcm_dvd d1 d2)
  omega
theorem IB {l1 l2:Nat}:l1 / Nat.gcd l1 l2 * l2=Nat.lcm l1 l2:=by
 unfold Nat.lcm
 rw[Nat.mul_comm l1 l2,Nat.mul_div_assoc l2 (Nat.gcd_dvd_left l1 l2),Nat.mul_comm]
theorem Cyc.per {net:Net}{a l:Nat} (c:Cyc net a l) {f:Nat->Int} (hf:∀ i j,b9 net i=b9 net j->f i=f j):J7 f a l:=λ i hi=>hf _ _ (by have:=c.mul hi 1;rw[Nat.one_mul] at this;exact this)
theorem jA {f g:Nat->Int} (h:∀ i,f i=g i) (a:Nat):∀ n,bP f a n=bP g a n
 | 0=>rfl
 | n+1=>by show bP f a n+f (a+n)=bP g a n+g (a+n);rw[jA h a n,h]
theorem sG (f g:Nat->Int) (a:Nat):∀ n,bP (λ i=>f i+g i) a n=bP f a n+bP g a n
 | 0=>rfl
 | n+1=>by show bP (λ i=>f i+g i) a n+(f (a+n)+g (a+n))=(bP f a n+f (a+n))+(bP g a n+g (a+n));rw[sG f g a n];omega
theorem j9 (net:Net) (a k:Nat):∀ l,(oF net a l k:Int)=bP (eJ net k) a l
 | 0=>by simp [oF,bP]
 | l+1=>by
  rw[sD]
  show ((oF net a l k+(if k∈dY net (a+l) then 1 else 0):Nat):Int)=bP (eJ net k) a l+eJ net k (a+l)
  rw[<- j9 net a k l]
  unfold eJ
  split <;> simp
theorem kH {net:Net}{a l:Nat} (c:Cyc net a l) {f:Nat->Int} (hf:∀ i j,b9 net i=b9 net j->f i=f j) {b L:Nat} (hb:a<=b) (hd:l ∣ L):bP f b L=bP f a l * ((L / l:Nat):Int):=by
 have:=lP (c.per hf) hb (L / l)
 rw[Nat.div_mul_cancel hd] at this
 rw[this,Int.mul_comm]
theorem zC (net:Net) (i j:Nat) (h:b9 net i=b9 net j):cW net i=cW net j:=by unfold cW;rw[h]
theorem uI (net:Net) (k i j:Nat) (h:b9 net i=b9 net j):eJ net k i=eJ net k j:=by unfold eJ dY;rw[h]
noncomputable def i9 (size:Int):Net:=⟨[⟨size,size,[(none,1)],false,none,[]⟩],[(0,1,true)]⟩
theorem FL {size:Int} (h1:1<=size):NetOk (i9 size) where
 lo:=Nat.le_refl _
 hi:=by show 1<=12;decide
 sp:=by show 1<=12;decide
 vs:=λ v hv=>by
  have:v=⟨size,size,[(none,1)],false,none,[]⟩:=by simpa [i9] using hv
  subst this
  have ho:∀ o∈[((none:Option Int),(1:Int))],OutOk (i9 size).vs.length o:=λ o ho=>by
   have:=List.mem_singleton.1 ho
   subst this
   exact⟨λ t ht=>(by cases ht),by decide,by decide⟩
  exact { size:=h1,ne:=by simp,o3:=(show 1<=3 by decide),outs:=ho,spill:=λ t ht=>(by cases ht),a3:=(show 0<=3 by decide),acts:=λ a haa=>(by cases haa) }
 sps:=λ s hs=>by
  have:s=(0,1,true):=by simpa [i9] using hs
  subst this
  exact⟨by decide,by show (0:Int) < 1;decide⟩
theorem jP {size:Nat} (h1:1<=size):∀ n,b9 (i9 (size:Int)) n=⟨[((n % size:Nat):Int)],[0],[true]⟩
 | 0=>by rw[Nat.zero_mod];rfl
 | n+1=>by
  have ih:=jP h1 n
  have hm:=Nat.mod_lt n (show 0 < size by omega)
  show (b9 (i9 (size:Int)) n).next _=_
  rw[ih]
  have hh:aL (i9 (size:Int)) [((n % size:Nat):Int)] [0] (d5 1) [true]=[((n % size:Nat):Int)+1]:=by
   show [((n % size:Nat):Int)+0+0+1]=_
   congr 1
  unfold Sta.next Sta.tk bV
  show Sta.mk (bW (i9 (size:Int)).vs (aL (i9 (size:Int)) [((n % size:Nat):Int)] [0] (d5 1) [true])) (cC 1 (bF (i9 (size:Int)).vs (aL (i9 (size:Int)) [((n % size:Nat):Int)] [0] (d5 1) [true]))) (bE (i9 (size:Int)).vs [true] (aT 0 (i9 (size:Int)).vs (aL (i9 (size:Int)) [((n % size:Nat):Int)] [0] (d5 1) [true])))=_
  rw[hh]
  have hd:bE (i9 (size:Int)).vs [true] (aT 0 (i9 (size:Int)).vs [((n % size:Nat):Int)+1])=[true]:=by
   show bE _ [true] (if dX _ _=true then [0] else [])=_
   split <;> rfl
  have hl:cC 1 (bF (i9 (size:Int)).vs [((n % size:Nat):Int)+1])=[0]:=by
   show [bQ (some ((0:Nat):Int)) (d6 _ _++[])]=[0]
   rw[List.append_nil]
   unfold d6 dA
   dsimp only
   split <;> simp [bQ]
  rw[hd,hl]
  show Sta.mk [dD ⟨(size:Int),(size:Int),[(none,1)],false,none,[]⟩ (((n % size:Nat):Int)+1)] [0] [true]=_
  have hs:dD ⟨(size:Int),(size:Int),[(none,1)],false,none,[]⟩ (((n % size:Nat):Int)+1)=(((n+1) % size:Nat):Int):=by
   unfold dD dX bI
   dsimp only
   by_cases e:n % size+1=size
   ·have e2:(n+1) % size=0:=by
     rw[Nat.add_mod]
     by_cases z:size=1
     ·subst z;rw[Nat.mod_one]
     ·rw[Nat.mod_eq_of_lt (show 1 < size by omega),e,Nat.mod_self]
    rw[if_pos (by rw[decide_eq_true_eq];omega),e2];simp
   ·have e2:(n+1) % size=n % size+1:=by
     rw[Nat.add_mod,Nat.mod_eq_of_lt (show 1 < size by omega),Nat.mod_eq_of_lt (by omega)]
    rw[if_neg (by rw[decide_eq_true_eq];omega),e2];omega
  rw[hs]
theorem D4 {size:Nat} (h1:1<=size):Cyc (i9 (size:Int)) 0 size:=by
 refine⟨h1,?_,λ i j hij hj e=>?_⟩
 ·rw[jP h1,jP h1];simp
 ·rw[jP h1,jP h1,Nat.mod_eq_of_lt (by omega),Nat.mod_eq_of_lt (by omega)] at e
  injection e with e
  injection e with e
  omega
end Tw
namespace L2
open PySem PySem.Spec PyProof.Rows TwZ
end L2
namespace Tw
open PySem L2
section
variable {P:Program}{w:World}{K:PySem.W.Frag}{mg:Str->Option Value}{base:Heap}{C c_TipError c_NoNet c_NoVessel c_TooLong c_TooMany c_TooMuch c_Nothing c_NoText c_NoRow:Addr}
noncomputable def nF (K:PySem.W.Frag) (cV cL:Addr):Sp:=λ vs H Q E=>∃ (x:V) (net:Net) (v:Int) (n:Nat),vs=[x,.int v,.int (n:Int)]/\Is K H (eF net) x/\NetOk net/\
 ((¬ (0<=v/\v < net.vs.length)/\E (.ref cV) none H)\/∃ j:Nat,v=(j:Int)/\j < net.vs.length/\
  (∀ (t a:Nat) H',uW net t (a:Int)->Rnd net a t->aH H H'->Q (.int (IV (eJ net j) a (t - a) n)) H')/\(uU net->∀ H',aH H H'->E (.ref cL) none H'))
theorem pR:FnScope ["net","vessel","ticks","ahead","told"] ["net","vessel","ticks"] (aK (bH 23)):=⟨rfl,rfl,rfl,by decide +kernel,rfl,by decide +kernel,by decide +kernel⟩
theorem vM {f f1 f2 f3:Addr}{fd fd1 fd2 fd3:FuncData} (F:Fun K "tips_by" "tips_by" (bH 23) f fd) (T:Txt mg) (G_need_vessel:CalleeR P w K mg base "need_vessel" ["net","number"] 2 (tW K c_NoVessel) f1 fd1)
  (G_go_round:CalleeR P w K mg base "go_round" ["net"] 5 (vD K c_TooLong) f2 fd2) (G_sum_by:Callee P w K mg base "sum_by" ["amounts","ahead","ticks"] 1 (tT K) f3 fd3) :
  FnOk P w K mg base (wM P w) 6 f fd ["net","vessel","ticks"] (nF K c_NoVessel c_TooLong):=by
 refine F.okR pR (λ vs H Q E h=>?_) (λ cdv A outer s H vs Q E hr h L=>?_)
 ·obtain⟨x,net,v,n,rfl,_⟩:=h;rfl
 ·obtain⟨x,net,v,n,rfl,hx,nok,k⟩:=h
  have sc:=pR
  refine⟨_,(aD (dM (fW G_need_vessel.ok (hr.mono (by decide)) rfl G_need_vessel.mg G_need_vessel.kp G_need_vessel.bd .nil (oO L) (aA (pv 0) (aA (pv 1) aC))))
   (aD (cI (fW G_go_round.ok (hr.mono (by decide)) rfl G_go_round.mg G_go_round.kp G_go_round.bd .nil (oO L) (aA (pv 0) aC)) (bB (K:=K) (n:=2) rfl rfl (aF (aE (i:=3) sc.nd rfl (Or.inl rfl)) (aF (aE (i:=4) sc.nd rfl (Or.inl rfl)) bA))))
   (aM (mO λ pn=>(bX (fG G_sum_by hr (aA (fJ (λ _ _ h=>h) rfl (LcOk.mk (N':=["state","tipped","grounded","vessel"]) (fr:=[none,none,none,some 1]) rfl ⟨rfl,trivial⟩ rfl rfl rfl rfl rfl ⟨⟨_,rfl,rfl,rfl,rfl⟩,trivial⟩) (dZ (K:=K) rfl (pv 4)) (λ _ _ _=>(bB (K:=K) (n:=3) rfl rfl (aF (aE (i:=0) (show (["state","tipped","grounded","vessel"]:List Str).Nodup by decide +kernel) rfl (Or.inl rfl) (Or.inr rfl)) (aF (aE (i:=1) (show (["state","tipped","grounded","vessel"]:List Str).Nodup by decide +kernel) rfl (Or.inl rfl) (Or.inr rfl)) (aF (aE (i:=2) (show (["state","tipped","grounded","vessel"]:List Str).Nodup by decide +kernel) rfl (Or.inl rfl) (Or.inr rfl)) bA))))) (λ _ _ _=>cA) (λ _ _ _=>(CU (cH (HY (K:=K) rfl) (pv 3) (pv 1) (by rfl)) aG aG))) (aA (pv 3) (aA (pv 2) aC))))))))),?_⟩
  refine⟨_,rfl,_,rfl,x,net,v,rfl,hx,?_⟩
  rcases k with ⟨hn,k⟩ | ⟨j,rfl,hj,kR,kL⟩
  ·exact .inr ⟨hn,k⟩
  refine .inl ⟨by omega,by omega,?_⟩
  refine⟨_,rfl,x,net,rfl,hx,nok,λ t ja p tl us H1 hrep s1 qp htl hul tks ftl=>?_,kL⟩
  obtain⟨a,rfl,rnd⟩:=hrep.rnd
  have r1:=rnd.lt
  have r2:=rnd.le
  have hb:=sF net j a (t - a)
  have to:Told2 K H1 net t tl us:=⟨htl,hul,tks⟩
  refine⟨p,_,rfl,qp,rfl,_,_,rfl,_,_,rfl,rfl,?_⟩
  refine⟨_,rfl,tl,rfl,⟨_,bR.of htl⟩,gG (K:=K) (a:=tl) (xs:=us) (λ D i r Z H'=>H1 D=none/\aH H1 H'/\H' D=some (.lst r)/\r=(fM (eJ net j) i).map V.int/\∃ u1 u2 u3,Z=[u1,u2,u3,some (.int (j:Int))])
   (λ D i r Z H' p=>bR.of (p.2.1 _ _ htl)) (λ D hD=>⟨hD,aH.new hD,aB,rfl,none,none,none,rfl⟩) ?_ ?_⟩
  rotate_left
  ·rintro D i y r Z H4 hy ⟨hD,sm,hDl,rfl,u1,u2,u3,rfl⟩
   have hil:=(List.getElem?_eq_some_iff.mp hy).1
   obtain⟨f0,st0,tp,rfl,qf,is,pl⟩:=(to.same sm).tk i y hy
   refine⟨f0,_,rfl,qf,rfl,_,_,rfl,_,_,rfl,_,_,rfl,rfl,?_⟩
   refine hR ?_
   refine⟨_,rfl,_,rfl,tp,_,rfl,.inr pl.sq,rfl,vY _,_,rfl,?_⟩
   rw[if_neg Bool.false_ne_true,yY]
   have hs:(fM (eJ net j) (i+1)).map V.int=(fM (eJ net j) i).map V.int++[.int (eJ net j i)]:=by rw[gC,List.map_append];rfl
   have hm:∀ b:Bool,b=decide (j∈dY net i)->eJ net j i=if b=true then 1 else 0:=λ b hb=>by
    subst hb;unfold eJ
    by_cases e:j∈dY net i
    ·rw[if_pos e,if_pos (decide_eq_true e)]
    ·rw[if_neg e,if_neg (by rw[decide_eq_false e];exact Bool.false_ne_true)]
   refine hX (λ hT=>?_) (λ hF=>?_)
   ·refine⟨hDl,gO (by rw[List.length_map,dF];omega),hD,sm.put hD,aB,?_,_,_,_,rfl⟩
    rw[hs,hm true hT.symm];rfl
   ·refine⟨hDl,gO (by rw[List.length_map,dF];omega),hD,sm.put hD,aB,?_,_,_,_,rfl⟩
    rw[hs,hm false (by have:¬ decide (j∈dY net i)=true:=hF;cases h:decide (j∈dY net i) with | true=>exact absurd h this | false=>rfl)];rfl
  ·rintro D r Z H4 ⟨hD,sm,hDl,rfl,_⟩
   rw[hul] at hDl
   refine⟨_,rfl,_,rfl,D,_,a,n,rfl,hDl,by rw[dF];exact r1,by rw[dF];omega,by rw[iC _ (by omega)];omega,by rw[iC _ (by omega)];omega,λ H7 s7=>?_⟩
   rw[BP _ r1]
   exact kR t a _ hrep rnd ((s1.trans sm).trans s7)
end
end Tw
namespace Tw
open PySem L2
end Tw
namespace Tw
open PySem L2
section
variable {P:Program}{w:World}{K:PySem.W.Frag}{mg:Str->Option Value}{base:Heap}{C c_TipError c_NoNet c_NoVessel c_TooLong c_TooMany c_TooMuch c_Nothing c_NoText c_NoRow:Addr}
noncomputable def pJ (K:PySem.W.Frag) (cL:Addr):Sp:=λ vs H Q E=>∃ (x:V) (net:Net),vs=[x]/\Is K H (eF net) x/\NetOk net/\
 (∀ t j p H',uW net t j->aH H H'->bO K H' p [.int j,.int ((t:Int) - j)]->Q (.ref p) H')/\(uU net->∀ H',aH H H'->E (.ref cL) none H')
theorem nY:FnScope ["net","ahead","told"] ["net"] (aK (bH 22)):=⟨rfl,rfl,rfl,by decide +kernel,rfl,by decide +kernel,by decide +kernel⟩
theorem uA {f f1:Addr}{fd fd1:FuncData} (F:Fun K "round_of" "round_of" (bH 22) f fd) (T:Txt mg) (G_go_round:CalleeR P w K mg base "go_round" ["net"] 5 (vD K c_TooLong) f1 fd1) :
  FnOk P w K mg base (wM P w) 6 f fd ["net"] (pJ K c_TooLong):=by
 refine F.okR nY (λ vs H Q E h=>?_) (λ cdv A outer s H vs Q E hr h L=>?_)
 ·obtain⟨x,net,rfl,_⟩:=h;rfl
 ·obtain⟨x,net,rfl,hx,nok,kR,kL⟩:=h
  have sc:=nY
  refine⟨_,(aD (cI (fW G_go_round.ok (hr.mono (by decide)) rfl G_go_round.mg G_go_round.kp G_go_round.bd .nil (oO L) (aA (pv 0) aC)) (bB (K:=K) (n:=2) rfl rfl (aF (aE (i:=1) sc.nd rfl (Or.inl rfl)) (aF (aE (i:=2) sc.nd rfl (Or.inl rfl)) bA))))
   (aM (bX (bK (aA (pv 1) (aA (aW gX (aR (bN (K:=K) rfl) rfl T.b_len PySem.boot_len (aA (pv 2) aC)) (pv 1)) aC)))))),?_⟩
  refine⟨_,rfl,x,net,rfl,hx,nok,λ t j p tl us H1 hrep s1 qp htl hul _ _=>?_,kL⟩
  refine⟨p,_,rfl,qp,rfl,_,_,rfl,_,_,rfl,rfl,?_⟩
  refine⟨_,rfl,_,rfl,tl,us,rfl,.inl (bR.of htl),_,rfl,_,_,rfl,rfl,(show 2<=sizeLine by decide),λ p2 hp2=>?_⟩
  rw[hul]
  exact kR t j p2 _ hrep (s1.trans (aH.new hp2)) (bO.of aB)
end
end Tw
namespace L2
open PySem PySem.Spec PyProof.Rows TwZ
section
variable {X:Cx}
noncomputable def JF (K:PySem.W.Frag) (E:XK) (CT:Addr) (k:Nat) (tb ts:TS):TS:=λ D σ H=>tb D σ H/\
 ∀ (cls:Value) (H':Hp) (ea:Addr) (Z:St),E cls none H'->Z.length=k->H' ea=none->PySem.W.exmOne K cls (.ref CT)=some true/\
  ts { nx:=D.nx,rt:=D.rt } Z (upd H' ea (IN ea cls))
theorem EW {EX:XK}{CT:Addr}{x:Str}{body suite:List Stmt}{fj:Stmt}{np hpos pos:Pos}{tb ts:TS} (hstk:X.stack=X.env::X.outer) (hfr:X.env.frame=some X.env.locals)
  (hb:∀ (pn:List (Addr×Obj)) (xe:Value->Shared->Prop),lY (wM X.prog X.w) (X.within pn xe) EX->wL (X.within pn xe) body tb)
  (hg:Gl X x) (hm:X.mg x=some (.ref CT))
  (hs:∀ ea:Addr,wL (X.caughtIn ea) (fj::suite) ts) (hd:(x == ("__debug__" : Str))=false:=by decide) :
  PS X (.Try body [.ExceptHandler (some (.Name x np)) none (fj::suite) hpos] [] [] pos) (JF X.K EX CT X.N.length tb ts):=by
 intro pins s σ H D I h
 obtain⟨h1,h2⟩:=h
 refine wpAny_Try_except ?_
 let XE:Value->Shared->Prop:=λ e s'=>∃ (σ:St) (H:Hp) (s:Shared) (ea:Addr) (cls a0:Value) (H':Hp) (B:Heap),e=.ref ea/\Inv X pins σ H s/\s'.os=s.os/\AllBare s'.gens/\Fly X.prog X.w X.stack H s.heap ea cls a0 H' s'.heap B/\EX cls none H'
 have hpass:lY (wM X.prog X.w) (X.within (X.pn++pins) XE) EX:=by
  intro p2 σ H s e s' J hx
  obtain⟨ea,cls,a0,H',B,rfl,os,bare,F,hE⟩:=hx
  exact⟨σ,H,s,ea,cls,a0,H',B,rfl,J.unwithin,os,bare,F,hE⟩
 refine wpAny_mono (hb (X.pn++pins) XE hpass [] s σ H D I.within h1) (λ f ag hf=>?_) λ e ag hx=>?_
 ·cases f with
  | next=>
   obtain⟨Z,H',J,q⟩:=hf
   exact cS pins ag Z H' D J.unwithin q
  | brk=>obtain⟨Z,H',J,q⟩:=hf;exact⟨Z,H',J.unwithin,q⟩
  | cont=>obtain⟨Z,H',J,q⟩:=hf;exact⟨Z,H',J.unwithin,q⟩
  | ret u=>obtain⟨v,Z,H',J,r,q⟩:=hf;exact⟨v,Z,H',J.unwithin,r,q⟩
 ·obtain⟨Z,H0,s0,ea,cls,a0,H',B,rfl,J,os,bare,F,hE⟩:=hx
  have fr:X.A.frames=some (X.env::X.outer):=by rw[<- hstk];exact I.ok.frames
  have again:∀ h',Heap.FlyingW B X.stack ea cls a0 h'->ag.heap.UpToSlots h'->Fly X.prog X.w X.stack H0 s0.heap ea cls a0 H' h' B:=λ h' fl sm=>
   ⟨fl,F.keep,λ b o e n hb=>by
    obtain⟨sl,e1⟩:=F.slot b o e n hb
    obtain⟨_,o',ho',hd⟩:=J.stack.mem hb
    rw[e] at ho'
    cases ho'
    obtain⟨sl',e2⟩:=sm b _ e1 hd
    exact⟨sl',e2⟩,F.free,F.there,F.tups,F.frzs,F.tbls,F.hok⟩
  refine wpAny_looks_onW fr hfr (by rw[<- hstk];exact F.fl) λ ap ez ei=>?_
  refine wpAny_landsW ez λ bb dw er=>?_
  have F5:=again bb (by rw[hstk];exact dw) (ei.trans er)
  obtain⟨hea,J5⟩:=J.caught (s':={ ag with heap:=bb }) os bare F5
  have hlen:Z.length=X.N.length:=J.len
  obtain⟨hmat,hts⟩:=h2 cls H' ea Z hE hlen hea
  refine wpAny_handleBy_cons (codeAny_handlers_test (oP (X:=X.caughtIn ea) J5.mark hg hm ?_ hd)) (by intro q;cases q)
  obtain⟨ob,hob,hobc⟩:=dw.there
  have LT0:PySem.W.Looks (model X.prog X.w) bb (typeOf (.ref ea)) ob.cls:=(PySem.W.Looks.ld hob).andThen .now
  have LT:PySem.W.Looks (model X.prog X.w) bb (typeOf (.ref ea)) cls:=by rw[<- hobc];exact LT0
  refine (PySem.W.exm_one (M:=model X.prog X.w) J5.kIn LT hmat).here ?_
  refine codeAny_handlers_suite (lands_againW dw λ ci fl₆ sm₆=>?_)
  have F6:=again ci (by rw[hstk];exact fl₆) ((ei.trans er).trans sm₆)
  obtain⟨_,J6⟩:=J.caught (s':={ ag with heap:=ci }) os bare F6
  refine wpAny_mono (hs ea pins _ _ _ _ J6.mark hts) (λ f s8 hf=>?_) λ _ _ z=>False.elim z
  cases f with
  | next=>
   obtain⟨be,H8,J8,q⟩:=hf
   exact⟨_,_,J8.unmark I.ok,q⟩
  | brk=>obtain⟨_,_,_,q⟩:=hf;exact False.elim q
  | cont=>obtain⟨_,_,_,q⟩:=hf;exact False.elim q
  | ret u=>obtain⟨v,be,H8,J8,r,q⟩:=hf;exact⟨v,_,_,J8.unmark I.ok,r,q⟩
end
end L2
namespace Tw
open PySem L2
section
variable {P:Program}{w:World}{K:PySem.W.Frag}{mg:Str->Option Value}{base:Heap}{C c_TooLong:Addr}
noncomputable def BV:Sp:=λ vs H Q _=>∃ (a b:Nat),vs=[.int (a:Int),.int (b:Int)]/\Q (.int ((Nat.gcd a b:Nat):Int)) H
theorem iX:FnScope ["one","other","a","b","rest"] ["one","other"] (aK (bH 45)):=⟨rfl,rfl,rfl,by decide +kernel,rfl,by decide +kernel,by decide +kernel⟩
theorem oK {f:Addr}{fd:FuncData} (F:Fun K "_law_divides" "_law_divides" (bH 45) f fd) (T:Txt mg):FnOk P w K mg base j3 1 f fd ["one","other"] BV:=by
 refine F.ok iX (λ vs H Q E h=>?_) (λ cdv A outer s H vs Q E hr h=>?_)
 ·obtain⟨a,b,rfl,_⟩:=h;rfl
 ·obtain⟨a,b,rfl,k⟩:=h
  have sc:=iX
  refine⟨_,(aD (aS (i:=2) sc.nd rfl (Or.inl rfl) (pv 0))
   (aD (aS (i:=3) sc.nd rfl (Or.inl rfl) (pv 1))
   (aD (CN PassesOwn.never (cH mS (pv 3) aG (cP _)) (aD (aS (i:=4) sc.nd rfl (Or.inl rfl) (aW lQ (pv 2) (pv 3)))
   (aD (aS (i:=2) sc.nd rfl (Or.inl rfl) (pv 3))
   (aM (aS (i:=3) sc.nd rfl (Or.inl rfl) (pv 4))))))
   (aM (bX (pv 2)))))),?_⟩
  refine⟨_,rfl,_,rfl,λ m Z H'=>∃ (a' b':Nat) (v4:Option V),Z=[some (.int (a:Int)),some (.int (b:Int)),some (.int (a':Int)),some (.int (b':Int)),v4]/\Nat.gcd a' b'=Nat.gcd a b/\m=b'/\H'=H,⟨b,a,b,none,rfl,rfl,rfl,rfl⟩,?_⟩
  rintro m Z H' ⟨a',b',v4,rfl,hg,rfl,rfl⟩
  refine⟨_,rfl,_,_,rfl,rfl,_,rfl,hX (λ hT=>?_) λ hF=>?_⟩
  ·have hT:(0:Int) < (m:Int):=of_decide_eq_true hT
   refine⟨λ Z H''=>∃ m',m' < m/\∃ (a' b':Nat) (v4:Option V),Z=[some (.int (a:Int)),some (.int (b:Int)),some (.int (a':Int)),some (.int (b':Int)),v4]/\Nat.gcd a' b'=Nat.gcd a b/\m'=b'/\H''=H',λ _ _ p=>p,?_⟩
   refine⟨_,rfl,_,rfl,_,_,rfl,rfl,hT,_,rfl,_,rfl,a' % m,Nat.mod_lt _ (by omega),m,a' % m,_,rfl,?_,rfl,rfl⟩
   rw[Nat.gcd_comm,<- Nat.gcd_rec,Nat.gcd_comm];exact hg
  ·have:m=0:=by
    rcases Nat.eq_zero_or_pos m with e | e
    ·exact e
    ·exact absurd (decide_eq_true (show (0:Int) < (m:Int) by omega)) hF
   subst this
   rw[Nat.gcd_zero_right] at hg
   rw[<- hg] at k
   exact⟨_,rfl,k⟩
noncomputable def tP (K:PySem.W.Frag):Sp:=λ vs H Q _=>∃ (x:V) (net:Net),vs=[x]/\Is K H (eF net) x/\NetOk net/\
 (∀ t j p H',uW net t j->aH H H'->bO K H' p [.int j,.int ((t:Int) - j)]->Q (.ref p) H')/\(uU net->∀ H',aH H H'->Q .non H')
theorem mI:FnScope ["net","found"] ["net"] (aK (bH 46)):=⟨rfl,rfl,rfl,by decide +kernel,rfl,by decide +kernel,by decide +kernel⟩
theorem qK {f f1:Addr}{fd fd1:FuncData} (F:Fun K "_law_told" "_law_told" (bH 46) f fd) (T:Txt mg) (mE_TooLong:mg "TooLong" = some (.ref c_TooLong)) (hxL:PySem.W.exmOne K (.ref c_TooLong) (.ref c_TooLong)=some true)
  (G_round_of:CalleeR P w K mg base "round_of" ["net"] 6 (pJ K c_TooLong) f1 fd1):FnOk P w K mg base j3 7 f fd ["net"] (tP K):=by
 refine F.ok mI (λ vs H Q E h=>?_) (λ cdv A outer s H vs Q E hr h=>?_)
 ·obtain⟨x,net,rfl,_⟩:=h;rfl
 ·obtain⟨x,net,rfl,hx,nok,k1,k2⟩:=h
  have sc:=mI
  let EX:XK:=λ cls _ H'=>aH H H'/\cls=.ref c_TooLong/\uU net
  refine⟨_,(aD (aS (i:=1) sc.nd rfl (Or.inl rfl) fU)
   (aD (EW (EX:=EX) rfl rfl (λ pn xe hx=>(aM (aS (i:=1) sc.nd rfl (Or.inl rfl) (fW G_round_of.ok (hr.mono (by decide)) rfl G_round_of.mg G_round_of.kp G_round_of.bd .nil hx (aA (pv 0) aC))))) rfl mE_TooLong (λ ea=>(aM (aS (i:=1) sc.nd rfl (Or.inl rfl) fU))))
   (aM (bX (pv 1))))),?_⟩
  dsimp only [i7,iJ,fX,tC]
  refine⟨?_,?_⟩
  ·exact⟨_,rfl,x,net,rfl,hx,nok,λ t j p H' hr s q=>⟨_,rfl,k1 t j p H' hr s q⟩,λ hL H' s=>⟨s,rfl,hL⟩⟩
  ·rintro cls H' ea Z ⟨sH,rfl,hL⟩ hlen hea
   obtain⟨u0,u1,rfl⟩:∃ u0 u1,Z=[u0,u1]:=by
    match Z,hlen with
    | [u0,u1],_=>exact⟨_,_,rfl⟩
   have s1:=aH.new (o:=IN ea (.ref c_TooLong)) hea
   exact⟨hxL,_,rfl,k2 hL _ (sH.trans s1)⟩
structure Raw (K:PySem.W.Frag) (H:Hp) (net:Net) (x y:V):Prop where
 hx:Is K H (eF net) x
 ok:NetOk net
 lv:net.vs.length<=6
 ls:net.sps.length<=6
 rd:(∃ t a:Nat,uW net t (a:Int)/\∃ p,y=.ref p/\bO K H p [.int (a:Int),.int ((t:Int) - (a:Int))])\/y=.non
structure Good (K:PySem.W.Frag) (H:Hp) (net:Net) (a l:Nat) (x y:V):Prop where
 hx:Is K H (eF net) x
 ok:NetOk net
 lv:net.vs.length<=6
 ls:net.sps.length<=6
 cy:Cyc net a l
 le:a+l<=1500
 rd:∃ p,y=.ref p/\bO K H p [.int (a:Int),.int (l:Int)]
theorem Raw.ts {H H':Hp}{net:Net}{x y:V} (r:Raw K H net x y) (s:bM K H H'):Raw K H' net x y:=
 { r with hx:=Is.mono s _ _ r.hx,rd:=match r.rd with | .inl ⟨t,a,h,p,e,q⟩=>.inl ⟨t,a,h,p,e,s _ _ q⟩ | .inr e=>.inr e }
theorem Good.ts {H H':Hp}{net:Net}{a l:Nat}{x y:V} (r:Good K H net a l x y) (s:bM K H H'):Good K H' net a l x y:=
 { r with hx:=Is.mono s _ _ r.hx,rd:=match r.rd with | ⟨p,e,q⟩=>⟨p,e,s _ _ q⟩ }
structure W33 (K:PySem.W.Frag) (H:Hp) (t sl nl rl:Addr) (x0 x1 pb:V) (p0 p1:Addr) (A B:Net) (a0 l0 a1 l1:Nat):Prop where
 tp:eY H t sl
 hn:H nl=some (.lst [x0,x1])
 hr:H rl=some (.lst [.ref p0,.ref p1])
 q0:bO K H p0 [.int (a0:Int),.int (l0:Int)]
 q1:bO K H p1 [.int (a1:Int),.int (l1:Int)]
 h0:Is K H (eF A) x0
 h1:Is K H (eF B) x1
 hb:Is K H (eF (aU A B)) pb
theorem W33.same {H H':Hp}{t sl nl rl p0 p1:Addr}{x0 x1 pb:V}{A B:Net}{a0 l0 a1 l1:Nat} (h:W33 K H t sl nl rl x0 x1 pb p0 p1 A B a0 l0 a1 l1) (s:aH H H'):W33 K H' t sl nl rl x0 x1 pb p0 p1 A B a0 l0 a1 l1:=
 ⟨h.tp.same s,s _ _ h.hn,s _ _ h.hr,s.tup h.q0,s.tup h.q1,Is.mono s.ts _ _ h.h0,Is.mono s.ts _ _ h.h1,Is.mono s.ts _ _ h.hb⟩
theorem W33.draw {H H':Hp}{t sl nl rl p0 p1:Addr}{x0 x1 pb:V}{A B:Net}{a0 l0 a1 l1:Nat} (h:W33 K H t sl nl rl x0 x1 pb p0 p1 A B a0 l0 a1 l1) (b:d8 t H H') (tp:eY H' t sl) (n1:nl≠t) (n2:rl≠t):W33 K H' t sl nl rl x0 x1 pb p0 p1 A B a0 l0 a1 l1:=
 ⟨tp,b _ _ n1 h.hn,b _ _ n2 h.hr,b.ts h.tp.mut _ _ h.q0,b.ts h.tp.mut _ _ h.q1,Is.mono (b.ts h.tp.mut) _ _ h.h0,Is.mono (b.ts h.tp.mut) _ _ h.h1,Is.mono (b.ts h.tp.mut) _ _ h.hb⟩
theorem eS {net:Net}{t:Nat}{j:Int} (h:uW net t j) (hL:uU net):False:=by
 have:=hL t h.1
 rw[h.2.1] at this;cases this
theorem FZ {N M:Net}{v u a l a' l':Nat} (c:Cyc N a l) (c':Cyc M a' l') (h:∀ i,eJ N v i=eJ M u i) (n:Nat):IV (eJ N v) a l n=IV (eJ M u) a' l' n:=by
 rw[E8 c.l1 (c.per λ i j=>uI N v i j),E8 c'.l1 (c'.per λ i j=>uI M u i j),jA h]
theorem E6 {A B:Net}{a0 l0 a1 l1 M L:Nat} (okA:NetOk A) (okB:NetOk B) (c0:Cyc A a0 l0) (c1:Cyc B a1 l1) (h0:a0<=M) (h1:a1<=M) (d0:l0 ∣ L) (d1:l1 ∣ L) :
  bP (cW (aU A B)) M L=bP (cW A) a0 l0 * ((L / l0:Nat):Int)+bP (cW B) a1 l1 * ((L / l1:Nat):Int):=by
 rw[jA (B2 okA okB),sG,kH c0 (zC A) h0 d0,kH c1 (zC B) h1 d1]
theorem BN {A B:Net}{a0 l0 a1 l1 M L:Nat} (okA:NetOk A) (okB:NetOk B) (c0:Cyc A a0 l0) (c1:Cyc B a1 l1) (h0:a0<=M) (h1:a1<=M) (d0:l0 ∣ L) (d1:l1 ∣ L) :
  d7 (aU A B) M L (aU A B).vs.length=(d7 A a0 l0 A.vs.length).map (λ z=>z * ((L / l0:Nat):Int))++(d7 B a1 l1 B.vs.length).map (λ z=>z * ((L / l1:Nat):Int)):=by
 unfold d7 fM
 rw[iS,List.range_add,List.map_append,List.map_map,List.map_map,List.map_map]
 congr 1
 ·refine List.map_congr_left λ k hk=>?_
  show (oF (aU A B) M L k:Int)=(oF A a0 l0 k:Int) * _
  rw[j9,j9,jA (sC okA okB (List.mem_range.1 hk)),kH c0 (uI A k) h0 d0]
 ·refine List.map_congr_left λ k hk=>?_
  show (oF (aU A B) M L (A.vs.length+k):Int)=(oF B a1 l1 k:Int) * _
  rw[j9,j9,jA (pC okA okB k),kH c1 (uI B k) h1 d1]
theorem tF:∀ l:List Int,lI (rG (l.map L2.D.int))=0
 | []=>by rw[List.map_nil,rG,lI]
 | i::l=>by rw[List.map_cons,rG,lI,tF l];simp [yC,j6]
noncomputable def BC (K:PySem.W.Frag) (H:Hp) (N:Net) (a l:Nat) (y:V):Prop:=∃ m k:Addr,y=.ref m/\bO K H m [.int (bP (cW N) a l),.int (bP (nK N) a l),.ref k]/\bO K H k ((d7 N a l N.vs.length).map V.int)
theorem BC.ts {H H':Hp}{N:Net}{a l:Nat}{y:V} (h:BC K H N a l y) (s:bM K H H'):BC K H' N a l y:=by
 obtain⟨m,k,e,q1,q2⟩:=h
 exact⟨m,k,e,s _ _ q1,s _ _ q2⟩
end
end Tw
namespace Tw
open PySem L2
theorem DF {c:TT}{a b:TS}{D:Ends}{σ:St}{H:Hp} (hc:∀ Q:Bool->Hp->Prop,Q true H->c σ H Q) (ha:a D σ H):A7 c a b D σ H:=hc _ ha
section
variable {P:Program}{w:World}{K:PySem.W.Frag}{mg:Str->Option Value}{base:Heap}{C c_TooLong c_TooMany c_NoVessel:Addr}
theorem BY:FnScope ["script","tape","nets","rounds","k","size","both","length","ahead","ticks","number","sums","often","came","tips"] ["script"] (aK (bH 47)):=⟨rfl,rfl,rfl,by decide +kernel,rfl,by decide +kernel,by decide +kernel⟩
theorem IA {f f1 f2 f3 f4 f5 f6 f7 f8 f9:Addr}{fd fd1 fd2 fd3 fd4 fd5 fd6 fd7 fd8 fd9:FuncData} (F:Fun K "law" "law" (bH 47) f fd) (T:Txt mg)
  (G__law_draw:Callee P w K mg base "_law_draw" ["tape","many"] 1 hU f1 fd1) (GB__law_draw:Callee P w K mg base "_law_draw" ["tape","many"] 1 tY f1 fd1)
  (G__law_net:Callee P w K mg base "_law_net" ["tape","most","small"] 4 (wW K) f2 fd2)
  (G__law_fewer:Callee P w K mg base "_law_fewer" ["net","most"] 1 (tX K) f3 fd3)
  (G__law_round:Callee P w K mg base "_law_round" ["net"] 3 (mG K) f4 fd4)
  (G_beside:CalleeR P w K mg base "beside" ["net","other"] 3 (wX K c_TooMany) f5 fd5)
  (G__law_divides:Callee P w K mg base "_law_divides" ["one","other"] 1 BV f6 fd6)
  (G__law_told:Callee P w K mg base "_law_told" ["net"] 7 (tP K) f7 fd7)
  (G_tips_by:CalleeR P w K mg base "tips_by" ["net","vessel","ticks"] 6 (nF K c_NoVessel c_TooLong) f8 fd8)
  (G_round_sums:CalleeR P w K mg base "round_sums" ["net"] 6 (tS K c_TooLong) f9 fd9):FnOk P w K mg base j3 8 f fd ["script"] (yH K):=by
 refine F.ok BY (λ vs H Q E h=>?_) (λ cdv A outer s H vs Q E hr h=>?_)
 ·obtain⟨a,ns,rfl,_⟩:=h;rfl
 ·obtain⟨a,ns,rfl,hS,hlen,k⟩:=h
  have sc:=BY
  refine⟨_,(aD (aS (i:=1) sc.nd rfl (Or.inr rfl) (cK (aA (bC (nP (K:=K) rfl) rfl T.b_list uR (aA (pv 0) aC)) (aA aG (aA aG aC)))))
   (aD (fI (i:=2) sc.nd rfl rfl (λ _ _ h=>h) rfl (LcOk.mk (N':=["k","tape"]) (fr:=[none,some 1]) rfl ⟨rfl,trivial⟩ rfl rfl rfl rfl rfl ⟨⟨_,rfl,rfl,rfl,rfl⟩,trivial⟩) (bT rfl T.b_range (aA aG aC)) (λ _ _ _=>(aE (i:=0) (show (["k","tape"]:List Str).Nodup by decide +kernel) rfl (Or.inl rfl) (Or.inr rfl))) (λ _ _ _=>cA) (λ _ _ _=>(fG G__law_fewer hr (aA (fG G__law_net hr (aA (pv 1) (aA aG (aA (iO mS (fG G__law_draw hr (aA (pv 1) (aA aG aC))) aG (cP _)) aC)))) (aA aG aC)))))
   (aD (aS (i:=3) sc.nd rfl (Or.inr rfl) (fJ (λ _ _ h=>h) rfl (LcOk.mk (N':=["net"]) (fr:=[none]) rfl trivial rfl rfl rfl rfl rfl trivial) (dZ (K:=K) rfl (pv 2)) (λ _ _ _=>(aE (i:=0) (show (["net"]:List Str).Nodup by decide +kernel) rfl (Or.inl rfl) (Or.inr rfl))) (λ _ _ _=>cA) (λ _ _ _=>(fG G__law_round hr (aA (pv 0) aC)))))
   (aD (dQ PassesOwn.never rfl (bT rfl T.b_range (aA aG aC)) (aE (i:=4) sc.nd rfl (Or.inr rfl)) (aM (fC (PW.pt (CJ (cH xF (aQ (aJ (K:=K) rfl) (pv 3) (pv 4) (λ _ _=>rfl)) fU (cP _)) (xA (cH mS (aR (cU (K:=K) rfl rfl) rfl T.b_sum PyProof.Rows.boot_sum (aA (aQ (aJ (K:=K) rfl) (pv 3) (pv 4) (λ _ _=>rfl)) aC)) aG (cP _))))) (aD (aS (i:=5) sc.nd rfl (Or.inl rfl) (aW cO aG (fG G__law_draw hr (aA (pv 1) (aA aG aC)))))
   (aD (cI (bK (aA (bK (aA (bK (aA (pv 5) (aA (pv 5) (aA (bK (aA (bK (aA fU (aA aG aC))) aC)) (aA mQ (aA fU (aA (bK aC) aC))))))) aC)) (aA (bK (aA (bK (aA aG (aA aG (aA mQ aC)))) aC)) aC))) (jO (pv 2) (pv 4) fR))
   (aM (cI (bK (aA aG (aA (pv 5) aC))) (jO (pv 3) (pv 4) fR))))) cS)))
   (aD (aS (i:=6) sc.nd rfl (Or.inl rfl) (fW G_beside.ok (hr.mono (by decide)) rfl G_beside.mg G_beside.kp G_beside.bd .nil qE (aA (aQ (aJ (K:=K) rfl) (pv 2) aG (λ _ _=>rfl)) (aA (aQ (aJ (K:=K) rfl) (pv 2) aG (λ _ _=>rfl)) aC))))
   (aD (aS (i:=7) sc.nd rfl (Or.inr rfl) (aW gE (aW gS (aQ (aJ (K:=K) rfl) (aQ (aJ (K:=K) rfl) (pv 3) aG (λ _ _=>rfl)) aG (λ _ _=>rfl)) (fG G__law_divides hr (aA (aQ (aJ (K:=K) rfl) (aQ (aJ (K:=K) rfl) (pv 3) aG (λ _ _=>rfl)) aG (λ _ _=>rfl)) (aA (aQ (aJ (K:=K) rfl) (aQ (aJ (K:=K) rfl) (pv 3) aG (λ _ _=>rfl)) aG (λ _ _=>rfl)) aC)))) (aQ (aJ (K:=K) rfl) (aQ (aJ (K:=K) rfl) (pv 3) aG (λ _ _=>rfl)) aG (λ _ _=>rfl))))
   (aD (aS (i:=8) sc.nd rfl (Or.inl rfl) (aR (iD rfl) rfl T.b_max PyProof.Rows.boot_max (aA (aQ (aJ (K:=K) rfl) (aQ (aJ (K:=K) rfl) (pv 3) aG (λ _ _=>rfl)) aG (λ _ _=>rfl)) (aA (aQ (aJ (K:=K) rfl) (aQ (aJ (K:=K) rfl) (pv 3) aG (λ _ _=>rfl)) aG (λ _ _=>rfl)) aC))))
   (aD (fC (cH mS (aW cO (pv 8) (pv 7)) aG (cP _)) (aM (bX (iO xF (fG G__law_told hr (aA (pv 6) aC)) fU (cP _)))) cS)
   (aD (fC (cH (FH (K:=K) rfl hr.units) (fG G__law_told hr (aA (pv 6) aC)) (bK (aA (pv 8) (aA (pv 7) aC))) (cP _)) (aM (bX mQ)) cS)
   (aD (aS (i:=9) sc.nd rfl (Or.inl rfl) (fG GB__law_draw hr (aA (pv 1) (aA (aW CY aG aG) aC))))
   (aD (dQ PassesOwn.never rfl (bT rfl T.b_range (aA aG aC)) (aE (i:=4) sc.nd rfl (Or.inr rfl)) (aM (dQ PassesOwn.never rfl (bT rfl T.b_range (aA (aR (bN (K:=K) rfl) rfl T.b_len PySem.boot_len (aA (aQ (aJ (K:=K) rfl) (aQ (aJ (K:=K) rfl) (pv 2) (pv 4) (λ _ _=>rfl)) aG (λ _ _=>rfl)) aC)) aC)) (aE (i:=10) sc.nd rfl (Or.inl rfl)) (aM (fC (cH GJ (fW G_tips_by.ok (hr.mono (by decide)) rfl G_tips_by.mg G_tips_by.kp G_tips_by.bd .nil qE (aA (pv 6) (aA (aW cO (pv 10) (aW gE (pv 4) (aR (bN (K:=K) rfl) rfl T.b_len PySem.boot_len (aA (aQ (aJ (K:=K) rfl) (aQ (aJ (K:=K) rfl) (pv 2) aG (λ _ _=>rfl)) aG (λ _ _=>rfl)) aC)))) (aA (pv 9) aC)))) (fW G_tips_by.ok (hr.mono (by decide)) rfl G_tips_by.mg G_tips_by.kp G_tips_by.bd .nil qE (aA (aQ (aJ (K:=K) rfl) (pv 2) (pv 4) (λ _ _=>rfl)) (aA (pv 10) (aA (pv 9) aC)))) (cP _)) (aM (bX mQ)) cS)))))
   (aD (aS (i:=11) sc.nd rfl (Or.inr rfl) (fJ (λ _ _ h=>h) rfl (LcOk.mk (N':=["net"]) (fr:=[none]) rfl trivial rfl rfl rfl rfl rfl trivial) (dZ (K:=K) rfl (pv 2)) (λ _ _ _=>(aE (i:=0) (show (["net"]:List Str).Nodup by decide +kernel) rfl (Or.inl rfl) (Or.inr rfl))) (λ _ _ _=>cA) (λ _ _ _=>(fW G_round_sums.ok (hr.mono (by decide)) rfl G_round_sums.mg G_round_sums.kp G_round_sums.bd .nil qE (aA (pv 0) aC)))))
   (aD (aS (i:=12) sc.nd rfl (Or.inr rfl) (fJ (λ _ _ h=>h) rfl (LcOk.mk (N':=["k","length","rounds"]) (fr:=[none,some 7,some 3]) rfl ⟨rfl,rfl,trivial⟩ rfl rfl rfl rfl rfl ⟨⟨_,rfl,rfl,rfl,rfl⟩,⟨_,rfl,rfl,rfl,rfl⟩,trivial⟩) (bT rfl T.b_range (aA aG aC)) (λ _ _ _=>(aE (i:=0) (show (["k","length","rounds"]:List Str).Nodup by decide +kernel) rfl (Or.inl rfl) (Or.inr rfl))) (λ _ _ _=>cA) (λ _ _ _=>(aW gS (pv 1) (aQ (aJ (K:=K) rfl) (aQ (aJ (K:=K) rfl) (pv 2) (pv 0) (λ _ _=>rfl)) aG (λ _ _=>rfl))))))
   (aD (aS (i:=13) sc.nd rfl (Or.inl rfl) (aR (cU (K:=K) rfl rfl) rfl T.b_sum PyProof.Rows.boot_sum (aA (fJ (λ _ _ h=>h) rfl (LcOk.mk (N':=["k","often","sums"]) (fr:=[none,some 12,some 11]) rfl ⟨rfl,rfl,trivial⟩ rfl rfl rfl rfl rfl ⟨⟨_,rfl,rfl,rfl,rfl⟩,⟨_,rfl,rfl,rfl,rfl⟩,trivial⟩) (bT rfl T.b_range (aA aG aC)) (λ _ _ _=>(aE (i:=0) (show (["k","often","sums"]:List Str).Nodup by decide +kernel) rfl (Or.inl rfl) (Or.inr rfl))) (λ _ _ _=>cA) (λ _ _ _=>(aW gE (aQ (aJ (K:=K) rfl) (aQ (aJ (K:=K) rfl) (pv 2) (pv 0) (λ _ _=>rfl)) aG (λ _ _=>rfl)) (aQ (aJ (K:=K) rfl) (pv 1) (pv 0) (λ _ _=>rfl))))) aC)))
   (aD (aS (i:=14) sc.nd rfl (Or.inl rfl) (cK aC))
   (aD (dQ PassesOwn.never rfl (bT rfl T.b_range (aA aG aC)) (aE (i:=4) sc.nd rfl (Or.inr rfl)) (aM (aS (i:=14) sc.nd rfl (Or.inl rfl) (aW xG (pv 14) (fJ (λ _ _ h=>h) rfl (LcOk.mk (N':=["many","often","k"]) (fr:=[none,some 12,some 4]) rfl ⟨rfl,rfl,trivial⟩ rfl rfl rfl rfl rfl ⟨⟨_,rfl,rfl,rfl,rfl⟩,⟨_,rfl,rfl,rfl,rfl⟩,trivial⟩) (eT (K:=K) rfl (aQ (aJ (K:=K) rfl) (aQ (aJ (K:=K) rfl) (pv 11) (pv 4) (λ _ _=>rfl)) aG (λ _ _=>rfl))) (λ _ _ _=>(aE (i:=0) (show (["many","often","k"]:List Str).Nodup by decide +kernel) rfl (Or.inl rfl) (Or.inr rfl))) (λ _ _ _=>cA) (λ _ _ _=>(aW gE (pv 0) (aQ (aJ (K:=K) rfl) (pv 1) (pv 2) (λ _ _=>rfl)))))))))
   (aM (bX (iO (FI (K:=K) rfl hr.units) (fW G_round_sums.ok (hr.mono (by decide)) rfl G_round_sums.mg G_round_sums.kp G_round_sums.bd .nil qE (aA (pv 6) aC)) (bK (aA (pv 13) (aA (pv 13) (aA (bC (bU (K:=K) rfl) rfl T.b_tuple cB (aA (pv 14) aC)) aC)))) (cP _)))))))))))))))))))),?_⟩
  refine⟨_,rfl,a,_,rfl,.inl hS,λ sl hsl=>⟨(show 3<=sizeLine by decide),λ t ht=>?_⟩⟩
  have nst:sl≠t:=aN (show upd H sl (.lst (ns.map V.int)) sl=_ from aB) ht
  have tp0:eY (upd (upd H sl (.lst (ns.map V.int))) t (.lst [.ref sl,.int 0,.int 0])) t sl:=⟨ns,0,0,aB,by rw[aO nst];exact aB,by omega⟩
  generalize upd (upd H sl (.lst (ns.map V.int))) t (.lst [.ref sl,.int 0,.int 0])=H0 at tp0
  refine⟨_,rfl,by decide,by decide,gK (n:=2) (λ D i r Z H'=>eY H' t sl/\D≠t/\D≠sl/\H' D=some (.lst r)/\(∃ Ns:List Net,Ns.length=i/\IsL K H' (Ns.map eF) r/\∀ N∈Ns,NetOk N/\N.vs.length<=6/\N.sps.length<=6)/\∃ u,Z=[u,some (.ref t)])
   (λ D hD=>?_) ?_ ?_⟩
  ·have n1:D≠t:=λ z=>by obtain⟨o,e⟩:=tp0.some;rw[<- z,hD] at e;cases e
   have n2:D≠sl:=λ z=>by obtain⟨ns,pos,cell,_,e,_⟩:=tp0;rw[<- z,hD] at e;cases e
   exact⟨tp0.put n1 n2,n1,n2,aB,⟨[],rfl,.nil,λ N hN=>(nomatch hN)⟩,none,rfl⟩
  rotate_left
  ·rintro D i r Z H1 hi ⟨tp1,n1,n2,hDl,⟨Ns,hNl,lr,hN⟩,u,rfl⟩
   refine cT ?_
   refine⟨_,rfl,?_⟩
   refine DN (t:=t) (sl:=sl) (H0:=H1) (cF rfl (by decide) (by decide)) _ _ ⟨d8.refl _,tp1⟩ ?_
   rintro v H2 e2 _ ⟨small,rfl⟩
   refine⟨t,sl,6,small,rfl,by decide,by decide,e2.tp,λ N0 p H3 e3 nok nfu hml hp=>⟨p,N0,6,rfl,hp,nok,λ q H4 s4 hq=>?_⟩⟩
   have ts4:bM K H1 H4:=((e2.bt.ts tp1.mut).trans (e3.bt.ts e2.tp.mut)).trans s4.ts
   have hD4:H4 D=some (.lst r):=s4 _ _ (e3.bt _ _ n1 (e2.bt _ _ n1 hDl))
   have mu:iY (H4 D):=by rw[hD4];exact trivial
   have ts5:bM K H4 (upd H4 D (.lst (r++[q]))):=d8.ts d8.upd mu
   have hrl:r.length=i:=by rw[lr.length,List.length_map];exact hNl
   refine⟨hD4,aP (by omega),(e3.tp.same s4).put n1 n2,n1,n2,aB,⟨Ns++[IU 6 N0],by simp [hNl],?_,λ N hN'=>?_⟩,_,rfl⟩
   ·rw[List.map_append]
    exact L2.IsL.snoc (Is.mono ts5 _ _ hq) (L2.IsL.mono (ts4.trans ts5) _ _ lr)
   ·rcases List.mem_append.1 hN' with z | z
    ·exact hN N z
    ·have:=List.mem_singleton.1 z
     subst this
     exact⟨FY nok,by show (N0.vs.map _).length<=6;rw[List.length_map];omega,by show (N0.sps.take 6).length<=6;rw[List.length_take];omega⟩
  rintro nl rr Z H1 ⟨tp1,n1,n2,hnl,⟨Ns,hNl,lr,hN⟩,_⟩
  obtain⟨A,B,rfl⟩:∃ A B,Ns=[A,B]:=by
   match Ns,hNl with
   | [A,B],_=>exact⟨A,B,rfl⟩
  obtain⟨x0,r1,rfl,h0,lr⟩:=L2.IsL.un (show IsL K H1 (eF A::[eF B]) rr from lr)
  obtain⟨x1,r2,rfl,h1,lr⟩:=lr.un
  have:=lr.un0
  subst this
  have fA:=hN A (by simp)
  have fB:=hN B (by simp)
  clear hN hNl lr tp0
  refine⟨_,rfl,nl,rfl,⟨_,bR.of hnl⟩,gG (K:=K) (a:=nl) (xs:=[x0,x1]) (λ D i r Z H'=>H1 D=none/\aH H1 H'/\H' D=some (.lst r)/\r.length=i/\(∀ y,r[0]? = some y->Raw K H' A x0 y)/\(∀ y,r[1]? = some y->Raw K H' B x1 y)/\∃ u,Z=[u])
   (λ D i r Z H' p=>bR.of (p.2.1 _ _ hnl)) (λ D hD=>⟨hD,aH.new hD,aB,rfl,λ y h=>by simp at h,λ y h=>by simp at h,none,rfl⟩) ?_ ?_⟩
  rotate_left
  ·rintro D i x r Z H2 hx ⟨hD,sm,hDl,hrl,g0,g1,u,rfl⟩
   refine cT ?_
   have step:∀ y H3,aH H2 H3->(i=0->Raw K H3 A x0 y)->(i=1->Raw K H3 B x1 y)->i < 2->
     (H3 D=some (.lst r)/\r.length < sizeLine/\H1 D=none/\aH H1 (upd H3 D (.lst (r++[y])))/\upd H3 D (.lst (r++[y])) D=some (.lst (r++[y]))/\(r++[y]).length=i+1/\(∀ z,(r++[y])[0]? = some z->Raw K (upd H3 D (.lst (r++[y]))) A x0 z)/\(∀ z,(r++[y])[1]? = some z->Raw K (upd H3 D (.lst (r++[y]))) B x1 z)):=λ y H3 s3 r0 r1 hi=>by
    have hD3:=s3 _ _ hDl
    have mu:iY (H3 D):=by rw[hD3];exact trivial
    have ts:bM K H3 (upd H3 D (.lst (r++[y]))):=d8.ts d8.upd mu
    refine⟨hD3,aP (by omega),hD,(sm.trans s3).put hD,aB,by simp [hrl],λ z hz=>?_,λ z hz=>?_⟩
    ·rcases i with _ | _ | i
     ·rw[List.getElem?_append_right (by omega),hrl] at hz
      cases hz;exact (r0 rfl).ts ts
     ·rw[List.getElem?_append_left (by omega)] at hz
      exact (g0 z hz).ts (s3.ts.trans ts)
     ·omega
    ·rcases i with _ | _ | i
     ·rw[List.getElem?_append_right (by omega),hrl] at hz
      cases hz
     ·rw[List.getElem?_append_right (by omega),hrl] at hz
      cases hz;exact (r1 rfl).ts ts
     ·omega
   have hi2:i < 2:=(List.getElem?_eq_some_iff.mp hx).1
   have fin:∀ (net:Net),Is K H1 (eF net) x->NetOk net->((i=0->net=A/\x=x0)/\(i=1->net=B/\x=x1))->net.vs.length<=6->net.sps.length<=6->
     mG K [x] H2 (λ y H3=>H3 D=some (.lst r)/\r.length < sizeLine/\H1 D=none/\aH H1 (upd H3 D (.lst (r++[y])))/\upd H3 D (.lst (r++[y])) D=some (.lst (r++[y]))/\(r++[y]).length=i+1/\(∀ z,(r++[y])[0]? = some z->Raw K (upd H3 D (.lst (r++[y]))) A x0 z)/\(∀ z,(r++[y])[1]? = some z->Raw K (upd H3 D (.lst (r++[y]))) B x1 z)) E0:=λ net hn ok hw l6 s6=>by
    have mk:∀ y H3,aH H2 H3->((∃ t a:Nat,uW net t (a:Int)/\∃ p,y=.ref p/\bO K H3 p [.int (a:Int),.int ((t:Int) - (a:Int))])\/y=.non)->Raw K H3 net x y:=λ y H3 s3 hrd=>⟨Is.mono (sm.trans s3).ts _ _ hn,ok,l6,s6,hrd⟩
    refine⟨x,net,rfl,Is.mono sm.ts _ _ hn,ok,λ t j p H3 hr s3 q=>?_,λ hL H3 s3=>?_⟩
    ·obtain⟨a',ea,_⟩:=hr.rnd
     subst ea
     have:=mk (.ref p) H3 s3 (.inl ⟨t,a',hr,p,rfl,q⟩)
     exact step _ _ s3 (λ e=>by obtain⟨e1,e2⟩:=hw.1 e;rw[<- e1,<- e2];exact this) (λ e=>by obtain⟨e1,e2⟩:=hw.2 e;rw[<- e1,<- e2];exact this) hi2
    ·have:=mk .non H3 s3 (.inr rfl)
     exact step _ _ s3 (λ e=>by obtain⟨e1,e2⟩:=hw.1 e;rw[<- e1,<- e2];exact this) (λ e=>by obtain⟨e1,e2⟩:=hw.2 e;rw[<- e1,<- e2];exact this) hi2
   rcases i with _ | _ | i
   ·cases hx
    obtain⟨x',net',e',q1,q2,q3,q4⟩:=fin A h0 fA.1 ⟨λ _=>⟨rfl,rfl⟩,λ z=>(by cases z)⟩ fA.2.1 fA.2.2
    refine⟨_,rfl,x',net',e',q1,q2,λ t j p H3 hr s q=>?_,λ hL H3 s=>?_⟩
    ·obtain⟨k1,k2,k3,k4,k5,k6,k7,k8⟩:=q3 t j p H3 hr s q
     exact⟨k1,k2,k3,k4,k5,k6,k7,k8,_,rfl⟩
    ·obtain⟨k1,k2,k3,k4,k5,k6,k7,k8⟩:=q4 hL H3 s
     exact⟨k1,k2,k3,k4,k5,k6,k7,k8,_,rfl⟩
   ·cases hx
    obtain⟨x',net',e',q1,q2,q3,q4⟩:=fin B h1 fB.1 ⟨λ z=>(by cases z),λ _=>⟨rfl,rfl⟩⟩ fB.2.1 fB.2.2
    refine⟨_,rfl,x',net',e',q1,q2,λ t j p H3 hr s q=>?_,λ hL H3 s=>?_⟩
    ·obtain⟨k1,k2,k3,k4,k5,k6,k7,k8⟩:=q3 t j p H3 hr s q
     exact⟨k1,k2,k3,k4,k5,k6,k7,k8,_,rfl⟩
    ·obtain⟨k1,k2,k3,k4,k5,k6,k7,k8⟩:=q4 hL H3 s
     exact⟨k1,k2,k3,k4,k5,k6,k7,k8,_,rfl⟩
   ·omega
  rintro rl rr Z H2 ⟨hrlN,s2,hrl,hrr,g0,g1,_⟩
  obtain⟨y0,y1,rfl⟩:∃ y0 y1,rr=[y0,y1]:=by
   match rr,hrr with
   | [y0,y1],_=>exact⟨_,_,rfl⟩
  have R0:=g0 y0 rfl
  have R1:=g1 y1 rfl
  have tp2:=tp1.same s2
  have hnl2:=s2 _ _ hnl
  have nrt:rl≠t:=λ z=>by
   obtain⟨o,e⟩:=tp1.some
   rw[<- z] at e
   rw[e] at hrlN;cases hrlN
  have nrs:rl≠sl:=λ z=>by
   obtain⟨ns,pos,cell,_,e,_⟩:=tp1
   rw[<- z,hrlN] at e;cases e
  have nrn:rl≠nl:=λ z=>by rw[<- z,hrlN] at hnl;cases hnl
  clear g0 g1 h0 h1 fA fB tp1 hnl s2 hrr
  dsimp only [i7,fX,iJ]
  refine xV (λ Z H'=>eY H' t sl/\∃ A B x0 x1 y0 y1 a0 l0 a1 l1 v4 v5,H' nl=some (.lst [x0,x1])/\H' rl=some (.lst [y0,y1])/\Good K H' A a0 l0 x0 y0/\Good K H' B a1 l1 x1 y1/\Z=[some (.ref a),some (.ref t),some (.ref nl),some (.ref rl),v4,v5,none,none,none,none,none,none,none,none,none]) (λ D' hD=>?_) ?_
  ·refine⟨_,rfl,by decide,by decide,?_⟩
   refine dR (lo:=0) (n:=2) (λ q Z H'=>eY H' t sl/\∃ A B x0 x1 y0 y1,H' nl=some (.lst [x0,x1])/\H' rl=some (.lst [y0,y1])/\(q=0->Raw K H' A x0 y0)/\(1<=q->∃ a l,Good K H' A a l x0 y0)/\(q<=1->Raw K H' B x1 y1)/\(2<=q->∃ a l,Good K H' B a l x1 y1)/\∃ v4 v5,Z=[some (.ref a),some (.ref t),some (.ref nl),some (.ref rl),v4,v5,none,none,none,none,none,none,none,none,none])
    ⟨tp2,A,B,x0,x1,y0,y1,hnl2,hrl,λ _=>R0,λ z=>absurd z (by decide),λ _=>R1,λ z=>absurd z (by decide),_,_,rfl⟩ ?_ ?_
   rotate_left
   ·rintro Z H3 ⟨tp3,A,B,x0,x1,y0,y1,hn3,hr3,_,gA,_,gB,v4,v5,rfl⟩
    obtain⟨a0,l0,G0⟩:=gA (by decide)
    obtain⟨a1,l1,G1⟩:=gB (by decide)
    exact hD _ _ ⟨tp3,A,B,x0,x1,y0,y1,a0,l0,a1,l1,_,_,hn3,hr3,G0,G1,rfl⟩
   clear R0 R1 hnl2 hrl tp2
   rintro q Z H3 hq ⟨tp3,A,B,x0,x1,y0,y1,hn3,hr3,gR,gA,gB,_,v4,v5,rfl⟩
   obtain⟨N,x,y,R,hxq,hyq⟩:∃ (N:Net) (x y:V),Raw K H3 N x y/\y6 [x0,x1] (0+(q:Int))=some x/\y6 [y0,y1] (0+(q:Int))=some y:=by
    rcases q with _ | _ | q
    ·exact⟨A,x0,y0,gR rfl,rfl,rfl⟩
    ·exact⟨B,x1,y1,gB (by decide),rfl,rfl⟩
    ·omega
   have done:∀ (N':Net) (a' l':Nat) (x' y':V) (v5':Option V) (H4:Hp),eY H4 t sl->H4 nl=some (.lst ([x0,x1].set q x'))->H4 rl=some (.lst ([y0,y1].set q y'))->Good K H4 N' a' l' x' y'->bM K H3 H4->
     (eY H4 t sl/\∃ A B x0 x1 y0 y1,H4 nl=some (.lst [x0,x1])/\H4 rl=some (.lst [y0,y1])/\((q+1)=0->Raw K H4 A x0 y0)/\(1<=(q+1)->∃ a l,Good K H4 A a l x0 y0)/\((q+1)<=1->Raw K H4 B x1 y1)/\(2<=(q+1)->∃ a l,Good K H4 B a l x1 y1)/\∃ v4 v5,[some (.ref a),some (.ref t),some (.ref nl),some (.ref rl),some (.int (0+(q:Int))),v5',none,none,none,none,none,none,none,none,none]=[some (.ref a),some (.ref t),some (.ref nl),some (.ref rl),v4,v5,none,none,none,none,none,none,none,none,none]):=λ N' a' l' x' y' v5' H4 tp4 hn4 hr4 gd ts4=>by
    rcases q with _ | _ | q
    ·exact⟨tp4,N',B,x',x1,y',y1,hn4,hr4,λ z=>(by cases z),λ _=>⟨a',l',gd⟩,λ _=>(gB (by decide)).ts ts4,λ z=>absurd z (by decide),_,_,rfl⟩
    ·obtain⟨a0,l0,g0⟩:=gA (by decide)
     exact⟨tp4,A,N',x0,x',y0,y',hn4,hr4,λ z=>(by cases z),λ _=>⟨a0,l0,g0.ts ts4⟩,λ z=>absurd z (by decide),λ _=>⟨a',l',gd⟩,_,_,rfl⟩
    ·omega
   have hqq:[x0,x1].set q x=[x0,x1]/\[y0,y1].set q y=[y0,y1]:=by
    rcases q with _ | _ | q
    ·cases hxq;cases hyq;exact⟨rfl,rfl⟩
    ·cases hxq;cases hyq;exact⟨rfl,rfl⟩
    ·omega
   have ntn:(0+(q:Int)).toNat=q:=by omega
   have es:∀ aa tt:Nat,([(aa:Int),(tt:Int) - (aa:Int)]:List Int).sum=(tt:Int):=λ aa tt=>by simp;omega
   have cs:(∃ tt aa:Nat,uW N tt (aa:Int)/\tt<=1500/\∃ pp,y=.ref pp/\bO K H3 pp [.int (aa:Int),.int ((tt:Int) - (aa:Int))])\/(y=.non\/∃ (tt aa:Nat) (pp:Addr),1500 < tt/\y=.ref pp/\bO K H3 pp [.int (aa:Int),.int ((tt:Int) - (aa:Int))]):=by
    rcases R.rd with ⟨tt,aa,hrep,pp,e,qp⟩ | e
    ·by_cases z:tt<=1500
     ·exact .inl ⟨tt,aa,hrep,z,pp,e,qp⟩
     ·exact .inr (.inr ⟨tt,aa,pp,by omega,e,qp⟩)
    ·exact .inr (.inl e)
   rcases cs with ⟨tt,aa,hrep,h15,pp,rfl,qp⟩ | bad
   ·refine⟨_,rfl,_,rfl,.inl ⟨rl,_,_,_,rfl,rfl,bR.of hr3,hyq,rfl,_,rfl,j5 ?_⟩⟩
    obtain⟨cy,hlt,hle⟩:=hrep.cyc
    refine⟨_,rfl,_,rfl,.inl ⟨rl,_,_,_,rfl,rfl,bR.of hr3,hyq,true,pp,[(aa:Int),(tt:Int) - (aa:Int)],rfl,qp,_,_,rfl,rfl,_,rfl,hX (λ hT=>?_) λ hF=>?_⟩⟩
    ·have:=of_decide_eq_true hT
     rw[es] at this
     omega
    ·refine done N aa (tt - aa) x (.ref pp) _ H3 tp3 (by rw[hqq.1];exact hn3) (by rw[hqq.2];exact hr3) ⟨R.hx,R.ok,R.lv,R.ls,cy,by omega,pp,rfl,?_⟩ (bM.refl _)
     rw[show ((tt - aa:Nat):Int)=(tt:Int) - (aa:Int) by omega];exact qp
   ·refine DF (λ Q hQ=>?_) ?_
    ·rcases bad with rfl | ⟨tt,aa,pp,h15,rfl,qp⟩
     ·exact⟨_,rfl,_,rfl,.inl ⟨rl,_,_,_,rfl,rfl,bR.of hr3,hyq,rfl,_,rfl,jT hQ⟩⟩
     ·refine⟨_,rfl,_,rfl,.inl ⟨rl,_,_,_,rfl,rfl,bR.of hr3,hyq,rfl,_,rfl,j5 ?_⟩⟩
      refine⟨_,rfl,_,rfl,.inl ⟨rl,_,_,_,rfl,rfl,bR.of hr3,hyq,true,pp,[(aa:Int),(tt:Int) - (aa:Int)],rfl,qp,_,_,rfl,rfl,_,rfl,?_⟩⟩
      rw[es,decide_eq_true (show (1500:Int) < (tt:Int) by omega)]
      exact hQ
    refine⟨_,rfl,t,sl,_,rfl,tp3,by decide,by decide,λ r H4 b4 t4 r0 r1=>⟨_,_,rfl,rfl,?_⟩⟩
    obtain⟨sz,esz⟩:∃ sz:Nat,(1:Int)+r=(sz:Int):=⟨(1+r).toNat,by omega⟩
    dsimp only
    rw[esz]
    have hs1:1<=sz:=by omega
    have hs2:sz<=40:=by omega
    refine⟨_,rfl,_,rfl,(show 2<=sizeLine by decide),λ e1 he1=>⟨(show 1<=sizeLine by decide),λ e2 he2=>⟨Nat.zero_le _,λ e3 he3=>⟨(show 6<=sizeLine by decide),λ e4 he4=>⟨(show 1<=sizeLine by decide),λ e5 he5=>⟨(show 3<=sizeLine by decide),λ e6 he6=>⟨(show 1<=sizeLine by decide),λ e7 he7=>⟨(show 2<=sizeLine by decide),λ e8 he8=>?_⟩⟩⟩⟩⟩⟩⟩⟩
    have s1:=aH.new (o:=HO.tup [.non,.int 1]) he1
    have q1:Is K (upd H4 e1 (.tup [.non,.int 1])) (.tup [.non,.int 1]) (.ref e1):=Is.tupOf (ds:=[.non,.int 1]) (bO.of aB) (.cons Is.n (.cons (Is.i _) .nil))
    generalize upd H4 e1 (.tup [.non,.int 1])=K1 at *
    have s2':=aH.new (o:=HO.tup [.ref e1]) he2
    have q2:Is K (upd K1 e2 (.tup [.ref e1])) (.tup [.tup [.non,.int 1]]) (.ref e2):=Is.tupOf (ds:=[.tup [.non,.int 1]]) (bO.of aB) (.cons (Is.mono s2'.ts _ _ q1) .nil)
    generalize upd K1 e2 (.tup [.ref e1])=K2 at *
    have s3':=aH.new (o:=HO.tup []) he3
    have q3:Is K (upd K2 e3 (.tup [])) (.tup []) (.ref e3):=Is.tupOf (ds:=[]) (bO.of aB) .nil
    generalize upd K2 e3 (.tup [])=K3 at *
    have s4':=aH.new (o:=HO.tup [.int (sz:Int),.int (sz:Int),.ref e2,.bl false,.non,.ref e3]) he4
    have q4:Is K (upd K3 e4 (.tup [.int (sz:Int),.int (sz:Int),.ref e2,.bl false,.non,.ref e3])) (nU ⟨(sz:Int),(sz:Int),[(none,1)],false,none,[]⟩) (.ref e4):=Is.tupOf (ds:=[.int (sz:Int),.int (sz:Int),.tup [.tup [.non,.int 1]],.bl false,.non,.tup []]) (bO.of aB) (.cons (Is.i _) (.cons (Is.i _) (.cons (Is.mono (s3'.trans s4').ts _ _ q2) (.cons (Is.b _) (.cons Is.n (.cons (Is.mono s4'.ts _ _ q3) .nil))))))
    generalize upd K3 e4 (.tup [.int (sz:Int),.int (sz:Int),.ref e2,.bl false,.non,.ref e3])=K4 at *
    have s5':=aH.new (o:=HO.tup [.ref e4]) he5
    have q5:Is K (upd K4 e5 (.tup [.ref e4])) (.tup [nU ⟨(sz:Int),(sz:Int),[(none,1)],false,none,[]⟩]) (.ref e5):=Is.tupOf (ds:=[nU ⟨(sz:Int),(sz:Int),[(none,1)],false,none,[]⟩]) (bO.of aB) (.cons (Is.mono s5'.ts _ _ q4) .nil)
    generalize upd K4 e5 (.tup [.ref e4])=K5 at *
    have s6':=aH.new (o:=HO.tup [.int 0,.int 1,.bl true]) he6
    have q6:Is K (upd K5 e6 (.tup [.int 0,.int 1,.bl true])) (wK (0,1,true)) (.ref e6):=Is.tupOf (ds:=[.int 0,.int 1,.bl true]) (bO.of aB) (.cons (Is.i _) (.cons (Is.i _) (.cons (Is.b _) .nil)))
    generalize upd K5 e6 (.tup [.int 0,.int 1,.bl true])=K6 at *
    have s7':=aH.new (o:=HO.tup [.ref e6]) he7
    have q7:Is K (upd K6 e7 (.tup [.ref e6])) (.tup [wK (0,1,true)]) (.ref e7):=Is.tupOf (ds:=[wK (0,1,true)]) (bO.of aB) (.cons (Is.mono s7'.ts _ _ q6) .nil)
    generalize upd K6 e7 (.tup [.ref e6])=K7 at *
    have s8':=aH.new (o:=HO.tup [.ref e5,.ref e7]) he8
    have q8:Is K (upd K7 e8 (.tup [.ref e5,.ref e7])) (eF (i9 (sz:Int))) (.ref e8):=Is.tupOf (ds:=[.tup [nU ⟨(sz:Int),(sz:Int),[(none,1)],false,none,[]⟩],.tup [wK (0,1,true)]]) (bO.of aB) (.cons (Is.mono ((s6'.trans s7').trans s8').ts _ _ q5) (.cons (Is.mono s8'.ts _ _ q7) .nil))
    generalize upd K7 e8 (.tup [.ref e5,.ref e7])=K8 at *
    have s48:=((((((s1.trans s2').trans s3').trans s4').trans s5').trans s6').trans s7').trans s8'
    have tp8:=t4.same s48
    have hn8:=s48 _ _ (b4 _ _ n1 hn3)
    have hr8:=s48 _ _ (b4 _ _ nrt hr3)
    have ts8:bM K H3 K8:=(b4.ts tp3.mut).trans s48.ts
    refine⟨_,rfl,_,rfl,nl,_,_,q,rfl,rfl,hn8,by rw[kJ (by omega) (by show _ < 2;omega),ntn],?_⟩
    have mu8:iY (K8 nl):=by rw[hn8];exact trivial
    have ts9:bM K K8 (upd K8 nl (.lst ([x0,x1].set q (.ref e8)))):=d8.ts d8.upd mu8
    have tp9:=tp8.put (o:=.lst ([x0,x1].set q (.ref e8))) n1 n2
    have hn9:upd K8 nl (.lst ([x0,x1].set q (.ref e8))) nl=some (.lst ([x0,x1].set q (.ref e8))):=aB
    have hr9:upd K8 nl (.lst ([x0,x1].set q (.ref e8))) rl=some (.lst [y0,y1]):=by rw[aO nrn];exact hr8
    generalize upd K8 nl (.lst ([x0,x1].set q (.ref e8)))=K9 at *
    refine⟨_,rfl,(show 2<=sizeLine by decide),λ e9 he9=>?_⟩
    have s10:=aH.new (o:=HO.tup [.int 0,.int (sz:Int)]) he9
    have q10:bO K (upd K9 e9 (.tup [.int 0,.int (sz:Int)])) e9 [.int 0,.int (sz:Int)]:=bO.of aB
    generalize upd K9 e9 (.tup [.int 0,.int (sz:Int)])=K10 at *
    have hr10:=s10 _ _ hr9
    refine⟨_,rfl,_,rfl,rl,_,_,q,rfl,rfl,hr10,by rw[kJ (by omega) (by show _ < 2;omega),ntn],?_⟩
    have mu10:iY (K10 rl):=by rw[hr10];exact trivial
    have ts11:bM K K10 (upd K10 rl (.lst ([y0,y1].set q (.ref e9)))):=d8.ts d8.upd mu10
    refine done (i9 (sz:Int)) 0 sz (.ref e8) (.ref e9) _ _ ((tp9.same s10).put nrt nrs) (by rw[aO (Ne.symm nrn)];exact s10 _ _ hn9) aB ⟨Is.mono ((ts9.trans s10.ts).trans ts11) _ _ q8,FL (by omega),(show 1<=6 by decide),(show 1<=6 by decide),D4 hs1,by omega,e9,rfl,ts11 _ _ q10⟩ (((ts8.trans ts9).trans s10.ts).trans ts11)
  rintro Z H3 ⟨tp3,A,B,x0,x1,y0,y1,a0,l0,a1,l1,v4,v5,hn3,hr3,G0,G1,rfl⟩
  obtain⟨p0,rfl,q0⟩:=G0.rd
  obtain⟨p1,rfl,q1⟩:=G1.rd
  have v0:=G0.lv
  have v1:=G1.lv
  have w0:=G0.ls
  have w1:=G1.ls
  have le0:=G0.le
  have le1:=G1.le
  have c0:=G0.cy
  have c1:=G1.cy
  have okA:=G0.ok
  have okB:=G1.ok
  have fit:ED A B:=⟨by omega,by omega⟩
  have okAB:=BA okA okB fit.1 fit.2
  have cb:=E4 okA okB c0 c1
  have lp0:=c0.l1
  have lp1:=c1.l1
  have lpb:=cb.l1
  have lmul:Nat.lcm l0 l1<=l0 * l1:=Nat.le_of_dvd (Nat.mul_pos (by omega) (by omega)) (Nat.lcm_dvd (Nat.dvd_mul_right _ _) (Nat.dvd_mul_left _ _))
  refine⟨_,rfl,.inl ⟨nl,_,0,_,rfl,rfl,bR.of hn3,rfl,_,rfl,.inl ⟨nl,_,1,_,rfl,rfl,bR.of hn3,rfl,x0,x1,A,B,rfl,G0.hx,G1.hx,okA,okB,.inl ⟨fit,λ pb H4 s4 ib=>?_⟩⟩⟩⟩
  have W4:W33 K H4 t sl nl rl x0 x1 pb p0 p1 A B a0 l0 a1 l1:=⟨tp3.same s4,s4 _ _ hn3,s4 _ _ hr3,s4.tup q0,s4.tup q1,Is.mono s4.ts _ _ G0.hx,Is.mono s4.ts _ _ G1.hx,ib⟩
  clear tp3 hn3 hr3 q0 q1 G0 G1 s4 ib
  have hg1:0 < Nat.gcd l0 l1:=Nat.gcd_pos_of_pos_left _ (by omega)
  have hg2:Nat.gcd l0 l1<=l0:=Nat.le_of_dvd (by omega) (Nat.gcd_dvd_left _ _)
  refine⟨_,rfl,.inl ⟨rl,_,0,_,rfl,rfl,bR.of W4.hr,rfl,.inr (.inl ⟨p0,_,1,_,rfl,rfl,W4.q0,rfl,?_⟩)⟩⟩
  refine⟨_,rfl,.inl ⟨rl,_,0,_,rfl,rfl,bR.of W4.hr,rfl,.inr (.inl ⟨p0,_,1,_,rfl,rfl,W4.q0,rfl,_,rfl,.inl ⟨rl,_,1,_,rfl,rfl,bR.of W4.hr,rfl,.inr (.inl ⟨p1,_,1,_,rfl,rfl,W4.q1,rfl,l0,l1,rfl,_,_,rfl,rfl,⟨by omega,by omega⟩,?_⟩)⟩⟩)⟩⟩
  refine⟨_,rfl,.inl ⟨rl,_,1,_,rfl,rfl,bR.of W4.hr,rfl,.inr (.inl ⟨p1,_,1,_,rfl,rfl,W4.q1,rfl,_,_,rfl,rfl,.inr ⟨by omega,by omega⟩,?_⟩)⟩⟩
  have eL:(l0:Int) / ((Nat.gcd l0 l1:Nat):Int) * (l1:Int)=((Nat.lcm l0 l1:Nat):Int):=by rw[<- IB];rfl
  dsimp only
  rw[eL]
  refine⟨_,rfl,.inl ⟨rl,_,0,_,rfl,rfl,bR.of W4.hr,rfl,.inr (.inl ⟨p0,_,0,_,rfl,rfl,W4.q0,rfl,_,rfl,.inl ⟨rl,_,1,_,rfl,rfl,bR.of W4.hr,rfl,.inr (.inl ⟨p1,_,0,_,rfl,rfl,W4.q1,rfl,_,_,rfl,?_⟩)⟩⟩)⟩⟩
  have eM:(if (a0:Int) < (a1:Int) then (a1:Int) else (a0:Int))=((max a0 a1:Nat):Int):=by split <;> omega
  rw[eM]
  generalize hLL:Nat.lcm l0 l1=L at *
  generalize hMM:max a0 a1=M at *
  refine⟨_,rfl,_,rfl,_,_,rfl,rfl,_,_,rfl,rfl,_,rfl,hX (λ hT=>?_) λ hF=>?_⟩
  ·have hT:(2000:Int) < (M:Int)+(L:Int):=of_decide_eq_true hT
   have hL:=cb.long (by omega)
   exact⟨_,rfl,pb,aU A B,rfl,W4.hb,okAB,λ t' j' p H' hr _ _=>(eS hr hL).elim,λ _ H' s=>⟨rfl,k _⟩⟩
  have hF:M+L<=2000:=by
   by_cases z:(2000:Int) < (M:Int)+(L:Int)
   ·exact absurd (decide_eq_true z) hF
   ·omega
  have rep:=cb.rep hF
  refine⟨_,rfl,pb,aU A B,rfl,W4.hb,okAB,λ t' j' p H5 hr s5 qp=>?_,λ hL=>(eS rep hL).elim⟩
  obtain⟨et,ej⟩:=hr.uniq rep
  subst et ej
  rw[show ((M+L:Nat):Int) - (M:Int)=(L:Int) by omega] at qp
  refine⟨_,rfl,_,rfl,(show 2<=sizeLine by decide),λ e he=>?_⟩
  have s6:=aH.new (o:=HO.tup [.int (M:Int),.int (L:Int)]) he
  refine⟨yC (.tup [.int (M:Int),.int (L:Int)]),yC (.tup [.int (M:Int),.int (L:Int)]),by simp only [yC,rG,j6,lI];omega,L2.Is.g (Is.tupOf (ds:=[.int (M:Int),.int (L:Int)]) (s6.tup qp) (.cons (Is.i _) (.cons (Is.i _) .nil))),L2.Is.g (Is.tupOf (ds:=[.int (M:Int),.int (L:Int)]) (bO.of aB) (.cons (Is.i _) (.cons (Is.i _) .nil))),_,rfl,?_⟩
  rw[jX]
  refine j5 ?_
  have W6:=(W4.same s5).same s6
  generalize upd H5 e (.tup [.int (M:Int),.int (L:Int)])=H6 at W6
  clear W4 s5 s6 qp he hr
  refine⟨_,rfl,_,_,rfl,rfl,⟨by decide,by decide,by decide⟩,t,sl,_,rfl,W6.tp,by decide,by decide,λ rn H7 b7 t7 rn0 rn1=>?_⟩
  have W7:=W6.draw b7 t7 n1 nrt
  obtain⟨n,rfl⟩:∃ n:Nat,rn=(n:Int):=⟨rn.toNat,by omega⟩
  clear W6 b7 t7
  obtain⟨na0,_,_,_,_,rfl,_⟩:=dS W7.h0
  obtain⟨na1,_,_,_,_,rfl,_⟩:=dS W7.h1
  have pick:∀ q:Nat,q < 2->∃ (N:Net) (na p aa ll off:Nat),(∀ H',W33 K H' t sl nl rl (.ref na0) (.ref na1) pb p0 p1 A B a0 l0 a1 l1->Is K H' (eF N) (.ref na))/\(∀ H',W33 K H' t sl nl rl (.ref na0) (.ref na1) pb p0 p1 A B a0 l0 a1 l1->bO K H' p [.int (aa:Int),.int (ll:Int)])/\NetOk N/\N.vs.length<=6/\Cyc N aa ll/\aa+ll<=1500/\ll ∣ L/\aa<=M/\y6 [V.ref na0,.ref na1] (0+(q:Int))=some (.ref na)/\y6 [V.ref p0,.ref p1] (0+(q:Int))=some (.ref p)/\off=q * A.vs.length/\
    (∀ m,m < N.vs.length->m+off < A.vs.length+B.vs.length/\∀ i,eJ (aU A B) (m+off) i=eJ N m i):=λ q hq=>by
   rcases q with _ | _ | q
   ·exact⟨A,na0,p0,a0,l0,0,λ H' h=>h.h0,λ H' h=>h.q0,okA,v0,c0,le0,by rw[<- hLL];exact Nat.dvd_lcm_left _ _,by omega,rfl,rfl,by simp,λ m hm=>⟨by omega,λ i=>sC okA okB hm i⟩⟩
   ·exact⟨B,na1,p1,a1,l1,A.vs.length,λ H' h=>h.h1,λ H' h=>h.q1,okB,v1,c1,le1,by rw[<- hLL];exact Nat.dvd_lcm_right _ _,by omega,rfl,rfl,by simp,λ m hm=>⟨by omega,λ i=>by rw[Nat.add_comm];exact pC okA okB m i⟩⟩
   ·omega
  dsimp only [i7,fX,iJ]
  refine xV (λ Z H'=>W33 K H' t sl nl rl (.ref na0) (.ref na1) pb p0 p1 A B a0 l0 a1 l1/\∃ v4 v10,Z=[some (.ref a),some (.ref t),some (.ref nl),some (.ref rl),v4,v5,some pb,some (.int (L:Int)),some (.int (M:Int)),some (.int (n:Int)),v10,none,none,none,none]) (λ D' hD=>?_) ?_
  ·refine⟨_,rfl,by decide,by decide,?_⟩
   refine dR (lo:=0) (n:=2) (λ _ Z H'=>W33 K H' t sl nl rl (.ref na0) (.ref na1) pb p0 p1 A B a0 l0 a1 l1/\∃ v4 v10,Z=[some (.ref a),some (.ref t),some (.ref nl),some (.ref rl),v4,v5,some pb,some (.int (L:Int)),some (.int (M:Int)),some (.int (n:Int)),v10,none,none,none,none]) ⟨W7,_,_,rfl⟩ ?_ λ Z H' p=>hD _ _ p
   rintro q Z H8 hq ⟨W8,v4,v10,rfl⟩
   obtain⟨N,na,pp,aa,ll,off,hIs,_,okN,lvN,cN,leN,_,_,hxq,_,hoff,htip⟩:=pick q hq
   have repN:=cN.rep (by omega)
   obtain⟨na',nb,nc,xs,ys,e,qn,qn1,ln,_,_⟩:=dS (hIs _ W8)
   cases e
   have exl:xs.length=N.vs.length:=by rw[ln.length,List.length_map]
   refine⟨_,rfl,_,rfl,.inl ⟨nl,_,_,_,rfl,rfl,bR.of W8.hn,hxq,.inr (.inl ⟨na,_,0,_,rfl,rfl,qn,rfl,nb,xs,rfl,.inr qn1,_,rfl,by omega,by omega,?_⟩)⟩⟩
   rw[show ((xs.length:Nat):Int).toNat=N.vs.length by omega]
   refine dR (lo:=0) (n:=N.vs.length) (λ _ Z H'=>W33 K H' t sl nl rl (.ref na0) (.ref na1) pb p0 p1 A B a0 l0 a1 l1/\∃ v10,Z=[some (.ref a),some (.ref t),some (.ref nl),some (.ref rl),some (.int (0+(q:Int))),v5,some pb,some (.int (L:Int)),some (.int (M:Int)),some (.int (n:Int)),v10,none,none,none,none]) ⟨W8,_,rfl⟩ ?_ λ Z H' ⟨p,v10,e⟩=>⟨p,_,v10,e⟩
   clear W8 qn qn1 ln exl
   rintro m Z H8 hm ⟨W8,v10,rfl⟩
   obtain⟨na',nb0,nc0,xs0,ys0,e,qa,qa1,la,_,_⟩:=dS W8.h0
   cases e
   have exl:xs0.length=A.vs.length:=by rw[la.length,List.length_map]
   obtain⟨hlt,hti⟩:=htip m hm
   refine⟨_,rfl,_,rfl,_,rfl,_,rfl,.inl ⟨nl,_,0,_,rfl,rfl,bR.of W8.hn,rfl,.inr (.inl ⟨na0,_,0,_,rfl,rfl,qa,rfl,nb0,xs0,rfl,.inr qa1,_,_,rfl,rfl,.inr ⟨by omega,by omega⟩,_,_,rfl,rfl,_,rfl,pb,aU A B,_,n,rfl,W8.hb,okAB,.inr ⟨m+off,by rw[hoff,exl];simp,by rw[iS];exact hlt,λ t' a' H9 hr' _ s9=>?_,λ hL=>(eS rep hL).elim⟩⟩)⟩⟩
   obtain⟨et,ej⟩:=hr'.uniq rep
   have ej:a'=M:=by omega
   subst et ej
   have W9:=W8.same s9
   refine⟨_,rfl,_,rfl,.inl ⟨nl,_,_,_,rfl,rfl,bR.of W9.hn,hxq,_,rfl,_,rfl,_,N,_,n,rfl,hIs _ W9,okN,.inr ⟨m,by omega,hm,λ t'' a'' H10 hr'' _ s10=>?_,λ hL=>(eS repN hL).elim⟩⟩⟩
   obtain⟨et,ej⟩:=hr''.uniq repN
   have ej:a''=aa:=by omega
   subst et ej
   rw[Nat.add_sub_cancel_left,Nat.add_sub_cancel_left]
   refine⟨rfl,_,rfl,KH (by rw[FZ cb cN hti n]) ?_⟩
   exact⟨W9.same s10,_,rfl⟩
  clear W7
  rintro Z H7 ⟨W7,v4,v10,rfl⟩
  have d0:l0 ∣ L:=by rw[<- hLL];exact Nat.dvd_lcm_left _ _
  have d1:l1 ∣ L:=by rw[<- hLL];exact Nat.dvd_lcm_right _ _
  refine⟨_,rfl,nl,rfl,⟨_,bR.of W7.hn⟩,gG (K:=K) (a:=nl) (xs:=[.ref na0,.ref na1]) (λ D i r Z H'=>H7 D=none/\aH H7 H'/\H' D=some (.lst r)/\r.length=i/\(∀ y,r[0]? = some y->BC K H' A a0 l0 y)/\(∀ y,r[1]? = some y->BC K H' B a1 l1 y)/\∃ u,Z=[u])
   (λ D i r Z H' p=>bR.of (p.2.1 _ _ W7.hn)) (λ D hD=>⟨hD,aH.new hD,aB,rfl,λ y h=>by simp at h,λ y h=>by simp at h,none,rfl⟩) ?_ ?_⟩
  rotate_left
  ·rintro D i x r Z H8 hx ⟨hD,sm,hDl,hrl,g0,g1,u,rfl⟩
   refine cT ?_
   have W8:=W7.same sm
   have hg:∃ (N:Net) (aa ll:Nat),Is K H8 (eF N) x/\NetOk N/\Cyc N aa ll/\aa+ll<=1500/\(i=0->N=A/\aa=a0/\ll=l0)/\(i=1->N=B/\aa=a1/\ll=l1)/\i < 2:=by
    rcases i with _ | _ | i
    ·cases hx;exact⟨A,a0,l0,W8.h0,okA,c0,le0,λ _=>⟨rfl,rfl,rfl⟩,λ z=>(by cases z),by decide⟩
    ·cases hx;exact⟨B,a1,l1,W8.h1,okB,c1,le1,λ z=>(by cases z),λ _=>⟨rfl,rfl,rfl⟩,by decide⟩
    ·cases hx
   obtain⟨N,aa,ll,ix,okN,cN,leN,w0',w1',hi2⟩:=hg
   have repN:=cN.rep (by omega)
   refine⟨_,rfl,x,N,rfl,ix,okN,λ t' a' p q H9 hr' _ s9 qp qq=>?_,λ hL=>(eS repN hL).elim⟩
   obtain⟨et,ej⟩:=hr'.uniq repN
   have ej:a'=aa:=by omega
   subst et ej
   rw[Nat.add_sub_cancel_left] at qp qq
   have hD9:=s9 _ _ hDl
   have mu:iY (H9 D):=by rw[hD9];exact trivial
   have ts:bM K H9 (upd H9 D (.lst (r++[.ref p]))):=d8.ts d8.upd mu
   have sv:BC K (upd H9 D (.lst (r++[.ref p]))) N a' ll (.ref p):=⟨p,q,rfl,ts _ _ qp,ts _ _ qq⟩
   refine⟨hD9,aP (by omega),hD,(sm.trans s9).put hD,aB,by simp [hrl],λ z hz=>?_,λ z hz=>?_,_,rfl⟩
   ·rcases i with _ | _ | i
    ·rw[List.getElem?_append_right (by omega),hrl] at hz
     cases hz
     obtain⟨e1,e2,e3⟩:=w0' rfl
     rw[<- e1,<- e2,<- e3];exact sv
    ·rw[List.getElem?_append_left (by omega)] at hz
     exact (g0 z hz).ts (s9.ts.trans ts)
    ·omega
   ·rcases i with _ | _ | i
    ·rw[List.getElem?_append_right (by omega),hrl] at hz
     cases hz
    ·rw[List.getElem?_append_right (by omega),hrl] at hz
     cases hz
     obtain⟨e1,e2,e3⟩:=w1' rfl
     rw[<- e1,<- e2,<- e3];exact sv
    ·omega
  rintro su rr Z H8 ⟨_,s8,hsu,hrr,g0,g1,_⟩
  obtain⟨u0,u1,rfl⟩:∃ u0 u1,rr=[u0,u1]:=by
   match rr,hrr with
   | [u0,u1],_=>exact⟨_,_,rfl⟩
  obtain⟨m0,k0,rfl,qm0,qk0⟩:=g0 u0 rfl
  obtain⟨m1,k1,rfl,qm1,qk1⟩:=g1 u1 rfl
  have W8:=W7.same s8
  clear W7 s8 g0 g1 hrr
  refine⟨_,rfl,by decide,by decide,gK (n:=2) (λ D i r Z H'=>H8 D=none/\aH H8 H'/\H' D=some (.lst r)/\r=(([L / l0,L / l1]:List Nat).take i).map (λ (z:Nat)=>V.int (z:Int))/\∃ u,Z=[u,some (.int (L:Int)),some (.ref rl)])
   (λ D hD=>⟨hD,aH.new hD,aB,rfl,none,rfl⟩) ?_ ?_⟩
  rotate_left
  ·rintro D i r Z H9 hi ⟨hD,sm,hDl,rfl,u,rfl⟩
   refine cT ?_
   have W9:=W8.same sm
   rcases i with _ | _ | i
   ·exact⟨_,rfl,_,rfl,_,rfl,.inl ⟨rl,_,_,_,rfl,rfl,bR.of W9.hr,rfl,.inr (.inl ⟨p0,_,1,_,rfl,rfl,W9.q0,rfl,_,_,rfl,rfl,⟨by omega,by omega⟩,hDl,aP (by show 0<=1000;decide),hD,sm.put hD,aB,rfl,_,rfl⟩)⟩⟩
   ·exact⟨_,rfl,_,rfl,_,rfl,.inl ⟨rl,_,_,_,rfl,rfl,bR.of W9.hr,rfl,.inr (.inl ⟨p1,_,1,_,rfl,rfl,W9.q1,rfl,_,_,rfl,rfl,⟨by omega,by omega⟩,hDl,aP (by show 1<=1000;decide),hD,sm.put hD,aB,rfl,_,rfl⟩)⟩⟩
   ·omega
  rintro ov rr Z H9 ⟨_,s9,hov,rfl,_⟩
  have hov:H9 ov=some (.lst [.int ((L / l0:Nat):Int),.int ((L / l1:Nat):Int)]):=hov
  have W9:=W8.same s9
  have hsu:=s9 _ _ hsu
  have qm0:=s9.tup qm0
  have qk0:=s9.tup qk0
  have qm1:=s9.tup qm1
  have qk1:=s9.tup qk1
  clear W8
  have o0:L / l0<=2000:=Nat.le_trans (Nat.div_le_self _ _) (by omega)
  have o1:L / l1<=2000:=Nat.le_trans (Nat.div_le_self _ _) (by omega)
  have b0 : -(2 ^ 64) < ((L / l0:Nat):Int)/\((L / l0:Nat):Int) < 2 ^ 64:=by generalize L / l0=z at o0;omega
  have b1 : -(2 ^ 64) < ((L / l1:Nat):Int)/\((L / l1:Nat):Int) < 2 ^ 64:=by generalize L / l1=z at o1;omega
  refine⟨_,rfl,by decide,by decide,gK (n:=2) (λ D i r Z H'=>H9 D=none/\aH H9 H'/\H' D=some (.lst r)/\r=(([bP (cW A) a0 l0 * ((L / l0:Nat):Int),bP (cW B) a1 l1 * ((L / l1:Nat):Int)]:List Int).take i).map V.int/\∃ u,Z=[u,some (.ref ov),some (.ref su)])
   (λ D hD=>⟨hD,aH.new hD,aB,rfl,none,rfl⟩) ?_ ?_⟩
  rotate_left
  ·rintro D i r Z H10 hi ⟨hD,sm,hDl,rfl,u,rfl⟩
   refine cT ?_
   rcases i with _ | _ | i
   ·exact⟨_,rfl,_,rfl,.inl ⟨su,_,_,_,rfl,rfl,bR.of (sm _ _ hsu),rfl,.inr (.inl ⟨m0,_,0,_,rfl,rfl,sm.tup qm0,rfl,_,rfl,_,rfl,.inl ⟨ov,_,_,_,rfl,rfl,bR.of (sm _ _ hov),rfl,_,_,rfl,rfl,.inr b0,hDl,aP (by show 0<=1000;decide),hD,sm.put hD,aB,rfl,_,rfl⟩⟩)⟩⟩
   ·exact⟨_,rfl,_,rfl,.inl ⟨su,_,_,_,rfl,rfl,bR.of (sm _ _ hsu),rfl,.inr (.inl ⟨m1,_,0,_,rfl,rfl,sm.tup qm1,rfl,_,rfl,_,rfl,.inl ⟨ov,_,_,_,rfl,rfl,bR.of (sm _ _ hov),rfl,_,_,rfl,rfl,.inr b1,hDl,aP (by show 1<=1000;decide),hD,sm.put hD,aB,rfl,_,rfl⟩⟩)⟩⟩
   ·omega
  rintro cl rr Z H10 ⟨_,s10,hcl,rfl,_⟩
  refine⟨false,cl,_,rfl,bR.of hcl,?_⟩
  have W10:=W9.same s10
  have hsu:=s10 _ _ hsu
  have hov:=s10 _ _ hov
  have qm0:=s10.tup qm0
  have qk0:=s10.tup qk0
  have qm1:=s10.tup qm1
  have qk1:=s10.tup qk1
  clear W9 s10 hcl
  refine⟨Nat.zero_le _,λ tl0 htl0=>?_⟩
  have s11:=aH.new (o:=HO.lst []) htl0
  have e11:upd H10 tl0 (.lst []) tl0=some (.lst []):=aB
  generalize upd H10 tl0 (.lst [])=H11 at s11 e11
  have W11:=W10.same s11
  have hsu:=s11 _ _ hsu
  have hov:=s11 _ _ hov
  have qm0:=s11.tup qm0
  have qk0:=s11.tup qk0
  have qm1:=s11.tup qm1
  have qk1:=s11.tup qk1
  clear W10 s11
  dsimp only [i7,fX,iJ]
  refine xV (λ Z H'=>aH H11 H'/\∃ tl v4,H' tl=some (.lst (((d7 A a0 l0 A.vs.length).map (λ z=>z * ((L / l0:Nat):Int))++(d7 B a1 l1 B.vs.length).map (λ z=>z * ((L / l1:Nat):Int))).map V.int))/\Z=[some (.ref a),some (.ref t),some (.ref nl),some (.ref rl),v4,v5,some pb,some (.int (L:Int)),some (.int (M:Int)),some (.int (n:Int)),v10,some (.ref su),some (.ref ov),some (.int (([bP (cW A) a0 l0 * ((L / l0:Nat):Int),bP (cW B) a1 l1 * ((L / l1:Nat):Int)]:List Int).sum)),some (.ref tl)]) (λ D' hD=>?_) ?_
  ·skip
   refine⟨_,rfl,by decide,by decide,?_⟩
   refine dR (lo:=0) (n:=2) (λ q Z H'=>aH H11 H'/\∃ tl v4,H' tl=some (.lst (((if 1<=q then (d7 A a0 l0 A.vs.length).map (λ z=>z * ((L / l0:Nat):Int)) else [])++(if 2<=q then (d7 B a1 l1 B.vs.length).map (λ z=>z * ((L / l1:Nat):Int)) else [])).map V.int))/\Z=[some (.ref a),some (.ref t),some (.ref nl),some (.ref rl),v4,v5,some pb,some (.int (L:Int)),some (.int (M:Int)),some (.int (n:Int)),v10,some (.ref su),some (.ref ov),some (.int (([bP (cW A) a0 l0 * ((L / l0:Nat):Int),bP (cW B) a1 l1 * ((L / l1:Nat):Int)]:List Int).sum)),some (.ref tl)]) ⟨aH.refl _,tl0,_,e11,rfl⟩ ?_ λ Z H' p=>hD _ _ p
   have szq:∀ q:Nat,(((if 1<=q then (d7 A a0 l0 A.vs.length).map (λ z=>z * ((L / l0:Nat):Int)) else [])++(if 2<=q then (d7 B a1 l1 B.vs.length).map (λ z=>z * ((L / l1:Nat):Int)) else [])).map V.int).length<=12:=λ q=>by
    have e1:((d7 A a0 l0 A.vs.length).map (λ z=>z * ((L / l0:Nat):Int))).length=A.vs.length:=by rw[List.length_map];unfold d7;rw[dF]
    have e2:((d7 B a1 l1 B.vs.length).map (λ z=>z * ((L / l1:Nat):Int))).length=B.vs.length:=by rw[List.length_map];unfold d7;rw[dF]
    rw[List.length_map,List.length_append]
    have f1:(if 1<=q then (d7 A a0 l0 A.vs.length).map (λ z=>z * ((L / l0:Nat):Int)) else []).length<=6:=by
     split
     ·rw[e1];exact v0
     ·exact Nat.zero_le _
    have f2:(if 2<=q then (d7 B a1 l1 B.vs.length).map (λ z=>z * ((L / l1:Nat):Int)) else []).length<=6:=by
     split
     ·rw[e2];exact v1
     ·exact Nat.zero_le _
    omega
   rintro q Z H12 hq ⟨s12,tl,v4,htl,rfl⟩
   rcases q with _ | _ | q
   ·
    have ll:(d7 A a0 l0 A.vs.length).length=A.vs.length:=by unfold d7;rw[dF]
    refine⟨_,rfl,_,rfl,_,rfl,.inl ⟨su,_,_,_,rfl,rfl,bR.of (s12 _ _ hsu),rfl,.inr (.inl ⟨m0,_,2,_,rfl,rfl,s12.tup qm0,rfl,k0,rfl,⟨_,s12.tup qk0⟩,hV (K:=K) (a:=k0) (xs:=(d7 A a0 l0 A.vs.length).map V.int) (λ D i r Z H'=>H12 D=none/\aH H12 H'/\H' D=some (.lst r)/\r=(((d7 A a0 l0 A.vs.length).take i).map (λ z=>z * ((L / l0:Nat):Int))).map V.int/\∃ u,Z=[u,some (.ref ov),some (.int (0+((0:Nat):Int)))])
     (λ D i r Z H' p=>(s12.trans p.2.1).tup qk0) (λ D hD=>⟨hD,aH.new hD,aB,rfl,none,rfl⟩) ?_ ?_⟩)⟩⟩
    rotate_left
    ·rintro D i x r Z H13 hx ⟨hD,sm,hDl,rfl,u,rfl⟩
     refine cT ?_
     rw[List.getElem?_map] at hx
     obtain⟨z,hz,rfl⟩:=Option.map_eq_some_iff.mp hx
     refine⟨_,rfl,_,rfl,_,rfl,.inl ⟨ov,_,_,_,rfl,rfl,bR.of ((s12.trans sm) _ _ hov),rfl,_,_,rfl,rfl,.inr b0,hDl,aP (by rw[List.length_map,List.length_map,List.length_take];omega),hD,sm.put hD,aB,?_,_,rfl⟩⟩
     rw[aZ hz,List.map_append,List.map_append];rfl
    rintro D r Z H13 ⟨hD,s13,hDl,rfl,_⟩
    rw[List.length_map,List.take_length] at hDl
    refine⟨tl,D,_,_,rfl,rfl,s13 _ _ htl,hDl,Nat.le_of_lt (aP (by have h1:=szq 0;rw[List.length_map] at h1;rw[List.length_map,List.length_map,List.length_map,ll];omega)),λ e he=>?_⟩
    refine⟨(s12.trans s13).trans (aH.new he),e,_,?_,rfl⟩
    rw[aB,<- List.map_append]
    simp
   ·
    have ll:(d7 B a1 l1 B.vs.length).length=B.vs.length:=by unfold d7;rw[dF]
    refine⟨_,rfl,_,rfl,_,rfl,.inl ⟨su,_,_,_,rfl,rfl,bR.of (s12 _ _ hsu),rfl,.inr (.inl ⟨m1,_,2,_,rfl,rfl,s12.tup qm1,rfl,k1,rfl,⟨_,s12.tup qk1⟩,hV (K:=K) (a:=k1) (xs:=(d7 B a1 l1 B.vs.length).map V.int) (λ D i r Z H'=>H12 D=none/\aH H12 H'/\H' D=some (.lst r)/\r=(((d7 B a1 l1 B.vs.length).take i).map (λ z=>z * ((L / l1:Nat):Int))).map V.int/\∃ u,Z=[u,some (.ref ov),some (.int (0+((1:Nat):Int)))])
     (λ D i r Z H' p=>(s12.trans p.2.1).tup qk1) (λ D hD=>⟨hD,aH.new hD,aB,rfl,none,rfl⟩) ?_ ?_⟩)⟩⟩
    rotate_left
    ·rintro D i x r Z H13 hx ⟨hD,sm,hDl,rfl,u,rfl⟩
     refine cT ?_
     rw[List.getElem?_map] at hx
     obtain⟨z,hz,rfl⟩:=Option.map_eq_some_iff.mp hx
     refine⟨_,rfl,_,rfl,_,rfl,.inl ⟨ov,_,_,_,rfl,rfl,bR.of ((s12.trans sm) _ _ hov),rfl,_,_,rfl,rfl,.inr b1,hDl,aP (by rw[List.length_map,List.length_map,List.length_take];omega),hD,sm.put hD,aB,?_,_,rfl⟩⟩
     rw[aZ hz,List.map_append,List.map_append];rfl
    rintro D r Z H13 ⟨hD,s13,hDl,rfl,_⟩
    rw[List.length_map,List.take_length] at hDl
    refine⟨tl,D,_,_,rfl,rfl,s13 _ _ htl,hDl,Nat.le_of_lt (aP (by have h1:=szq (0+1);rw[List.length_map] at h1;rw[List.length_map,List.length_map,List.length_map,ll];omega)),λ e he=>?_⟩
    refine⟨(s12.trans s13).trans (aH.new he),e,_,?_,rfl⟩
    rw[aB,<- List.map_append]
    simp
   ·omega
  rintro Z H12 ⟨s12,tl,v4,htl,rfl⟩
  have W12:=W11.same s12
  refine⟨_,rfl,pb,aU A B,rfl,W12.hb,okAB,λ t' a' p q H13 hr' rn' s13 qp qq=>?_,λ hL=>(eS rep hL).elim⟩
  obtain⟨et,ej⟩:=hr'.uniq rep
  have ej:a'=M:=by omega
  subst et ej
  have es:=rn'.sums okAB
  rw[es,Nat.add_sub_cancel_left,E6 okA okB c0 c1 (by omega) (by omega) d0 d1] at qp
  rw[Nat.add_sub_cancel_left,BN okA okB c0 c1 (by omega) (by omega) d0 d1] at qq
  have eC:([bP (cW A) a0 l0 * ((L / l0:Nat):Int),bP (cW B) a1 l1 * ((L / l1:Nat):Int)]:List Int).sum=bP (cW A) a0 l0 * ((L / l0:Nat):Int)+bP (cW B) a1 l1 * ((L / l1:Nat):Int):=by simp
  refine⟨_,rfl,_,rfl,_,rfl,tl,_,rfl,.inl ⟨bR.of (s13 _ _ htl),λ tt htt=>⟨(show 3<=sizeLine by decide),λ e he=>?_⟩⟩⟩
  rw[eC] at *
  generalize bP (cW A) a0 l0 * ((L / l0:Nat):Int)+bP (cW B) a1 l1 * ((L / l1:Nat):Int)=cc at *
  generalize (d7 A a0 l0 A.vs.length).map (λ z=>z * ((L / l0:Nat):Int))++(d7 B a1 l1 B.vs.length).map (λ z=>z * ((L / l1:Nat):Int))=ts at *
  have s14:=aH.new (o:=HO.tup (ts.map V.int)) htt
  have t14:bO K (upd H13 tt (.tup (ts.map V.int))) tt (ts.map V.int):=bO.of aB
  generalize upd H13 tt (.tup (ts.map V.int))=H14 at *
  have s15:=aH.new (o:=HO.tup [.int cc,.int cc,.ref tt]) he
  refine⟨yC (.tup [.int cc,.int cc,.tup (ts.map L2.D.int)]),yC (.tup [.int cc,.int cc,.tup (ts.map L2.D.int)]),by simp only [yC,rG,j6,lI,tF];omega,L2.Is.g (Is.tupOf (ds:=[.int cc,.int cc,.tup (ts.map L2.D.int)]) ((s14.trans s15).tup qp) (.cons (Is.i _) (.cons (Is.i _) (.cons (Is.tupOf ((s14.trans s15).tup qq) (L2.IsL.of_ints _)) .nil)))),L2.Is.g (Is.tupOf (ds:=[.int cc,.int cc,.tup (ts.map L2.D.int)]) (bO.of aB) (.cons (Is.i _) (.cons (Is.i _) (.cons (Is.tupOf (s15.tup t14) (L2.IsL.of_ints _)) .nil)))),?_⟩
  rw[jX]
  exact k _
end
end Tw
namespace Tw
open PySem L2
theorem hJ {aq:Type}{p:List aq->Prop} (h:∀ a0,p [a0]):∀ us:List aq,us.length=1->p us
 | [a0],_=>h a0
theorem hG {aq:Type}{p:List aq->Prop} (h:∀ a0 a1,p [a0,a1]):∀ us:List aq,us.length=2->p us
 | [a0,a1],_=>h a0 a1
theorem dU {aq:Type}{p:List aq->Prop} (h:∀ a0 a1 a2,p [a0,a1,a2]):∀ us:List aq,us.length=3->p us
 | [a0,a1,a2],_=>h a0 a1 a2
theorem zU {aq:Type}{p:List aq->Prop} (h:∀ a0 a1 a2 a3,p [a0,a1,a2,a3]):∀ us:List aq,us.length=4->p us
 | [a0,a1,a2,a3],_=>h a0 a1 a2 a3
theorem G2 {aq:Type}{p:List aq->Prop} (h:∀ a0 a1 a2 a3 a4,p [a0,a1,a2,a3,a4]):∀ us:List aq,us.length=5->p us
 | [a0,a1,a2,a3,a4],_=>h a0 a1 a2 a3 a4
theorem all_mk {l:PySem.W.OpenLaw}{w:World}{K:PySem.W.Frag}{h:Heap}{mg:Str->Option Value}{fa f0 f1 f2 f3 f4 f5 f6 f7 f8 f9 f10 f11 f12 f13 f14 f15 f16 f17 f18 f19 f20 f21 f22 f23 f24 f25 f26 f27 f28 f29 f30 f31 f32 c_TipError c_NoVessel c_TooLong c_TooMany:Addr} (X:K.In h) (G:h.Ns mainGlobals mg) (hfa:mg "law" = some (.ref fa))
  {od0 an0 od1 an1 od2 an2 od3 an3 od4 an4 od5 an5 od6 an6 od7 an7 od8 an8 od9 an9 od10 an10 od11 an11 od12 an12 od13 an13 od14 an14 od15 an15 od16 an16 od17 an17 od18 an18 od19 an19 od20 an20 od21 an21 od22 an22 od23 an23 od24 an24 od25 an25 od26 an26 od27 an27 od28 an28 od29 an29 od30 an30 od31 an31 od32 an32:Option Addr}{sl0 sl1 sl2 sl3 sl4 sl5 sl6 sl7 sl8 sl9 sl10 sl11 sl12 sl13 sl14 sl15 sl16 sl17 sl18 sl19 sl20 sl21 sl22 sl23 sl24 sl25 sl26 sl27 sl28 sl29 sl30 sl31 sl32:Array (Option Value)}{oc0 kV0 dc0 pm0 cd0 ct0 oc1 kV1 dc1 pm1 cd1 ct1 oc2 kV2 dc2 pm2 cd2 ct2 oc3 kV3 dc3 pm3 cd3 ct3 oc4 kV4 dc4 pm4 cd4 ct4 oc5 kV5 dc5 pm5 cd5 ct5 oc6 kV6 dc6 pm6 cd6 ct6 oc7 kV7 dc7 pm7 cd7 ct7 oc8 kV8 dc8 pm8 cd8 ct8 oc9 kV9 dc9 pm9 cd9 ct9 oc10 kV10 dc10 pm10 cd10 ct10 oc11 kV11 dc11 pm11 cd11 ct11 oc12 kV12 dc12 pm12 cd12 ct12 oc13 kV13 dc13 pm13 cd13 ct13 oc14 kV14 dc14 pm14 cd14 ct14 oc15 kV15 dc15 pm15 cd15 ct15 oc16 kV16 dc16 pm16 cd16 ct16 oc17 kV17 dc17 pm17 cd17 ct17 oc18 kV18 dc18 pm18 cd18 ct18 oc19 kV19 dc19 pm19 cd19 ct19 oc20 kV20 dc20 pm20 cd20 ct20 oc21 kV21 dc21 pm21 cd21 ct21 oc22 kV22 dc22 pm22 cd22 ct22 oc23 kV23 dc23 pm23 cd23 ct23 oc24 kV24 dc24 pm24 cd24 ct24 oc25 kV25 dc25 pm25 cd25 ct25 oc26 kV26 dc26 pm26 cd26 ct26 oc27 kV27 dc27 pm27 cd27 ct27 oc28 kV28 dc28 pm28 cd28 ct28 oc29 kV29 dc29 pm29 cd29 ct29 oc30 kV30 dc30 pm30 cd30 ct30 oc31 kV31 dc31 pm31 cd31 ct31 oc32 kV32 dc32 pm32 cd32 ct32:Value}
  {tkT:Tok}
  {tkV1 tkV2:Tok}
  (a0:PySem.W.nsIn K mainGlobals "_law_draw" = some (some (.ref f0)))
  (l0:K.lookup f0=some ⟨oc0,od0,.func (PySem.W.fnOf "_law_draw" "_law_draw" (bJ (bH 36)) (bG (bH 36)) (aK (bH 36)) .none kV0 dc0 pm0 an0 cd0 ct0),sl0⟩)
  (c0:PySem.W.codeIn K cd0 "_law_draw" = true)
  (k0:PySem.W.keepIn K (.ref f0)=true)
  (a1:PySem.W.nsIn K mainGlobals "_law_outs" = some (some (.ref f1)))
  (l1:K.lookup f1=some ⟨oc1,od1,.func (PySem.W.fnOf "_law_outs" "_law_outs" (bJ (bH 37)) (bG (bH 37)) (aK (bH 37)) .none kV1 dc1 pm1 an1 cd1 ct1),sl1⟩)
  (c1:PySem.W.codeIn K cd1 "_law_outs" = true)
  (k1:PySem.W.keepIn K (.ref f1)=true)
  (a2:PySem.W.nsIn K mainGlobals "_law_vessel" = some (some (.ref f2)))
  (l2:K.lookup f2=some ⟨oc2,od2,.func (PySem.W.fnOf "_law_vessel" "_law_vessel" (bJ (bH 38)) (bG (bH 38)) (aK (bH 38)) .none kV2 dc2 pm2 an2 cd2 ct2),sl2⟩)
  (c2:PySem.W.codeIn K cd2 "_law_vessel" = true)
  (k2:PySem.W.keepIn K (.ref f2)=true)
  (a3:PySem.W.nsIn K mainGlobals "_law_net" = some (some (.ref f3)))
  (l3:K.lookup f3=some ⟨oc3,od3,.func (PySem.W.fnOf "_law_net" "_law_net" (bJ (bH 39)) (bG (bH 39)) (aK (bH 39)) .none kV3 dc3 pm3 an3 cd3 ct3),sl3⟩)
  (c3:PySem.W.codeIn K cd3 "_law_net" = true)
  (k3:PySem.W.keepIn K (.ref f3)=true)
  (a4:PySem.W.nsIn K mainGlobals "_law_fewer" = some (some (.ref f4)))
  (l4:K.lookup f4=some ⟨oc4,od4,.func (PySem.W.fnOf "_law_fewer" "_law_fewer" (bJ (bH 44)) (bG (bH 44)) (aK (bH 44)) .none kV4 dc4 pm4 an4 cd4 ct4),sl4⟩)
  (c4:PySem.W.codeIn K cd4 "_law_fewer" = true)
  (k4:PySem.W.keepIn K (.ref f4)=true)
  (a5:PySem.W.nsIn K mainGlobals "_law_first" = some (some (.ref f5)))
  (l5:K.lookup f5=some ⟨oc5,od5,.func (PySem.W.fnOf "_law_first" "_law_first" (bJ (bH 40)) (bG (bH 40)) (aK (bH 40)) .none kV5 dc5 pm5 an5 cd5 ct5),sl5⟩)
  (c5:PySem.W.codeIn K cd5 "_law_first" = true)
  (k5:PySem.W.keepIn K (.ref f5)=true)
  (a6:PySem.W.nsIn K mainGlobals "_law_filled" = some (some (.ref f6)))
  (l6:K.lookup f6=some ⟨oc6,od6,.func (PySem.W.fnOf "_law_filled" "_law_filled" (bJ (bH 41)) (bG (bH 41)) (aK (bH 41)) .none kV6 dc6 pm6 an6 cd6 ct6),sl6⟩)
  (c6:PySem.W.codeIn K cd6 "_law_filled" = true)
  (k6:PySem.W.keepIn K (.ref f6)=true)
  (a7:PySem.W.nsIn K mainGlobals "_law_tick" = some (some (.ref f7)))
  (l7:K.lookup f7=some ⟨oc7,od7,.func (PySem.W.fnOf "_law_tick" "_law_tick" (bJ (bH 42)) (bG (bH 42)) (aK (bH 42)) .none kV7 dc7 pm7 an7 cd7 ct7),sl7⟩)
  (c7:PySem.W.codeIn K cd7 "_law_tick" = true)
  (k7:PySem.W.keepIn K (.ref f7)=true)
  (a8:PySem.W.nsIn K mainGlobals "_law_round" = some (some (.ref f8)))
  (l8:K.lookup f8=some ⟨oc8,od8,.func (PySem.W.fnOf "_law_round" "_law_round" (bJ (bH 43)) (bG (bH 43)) (aK (bH 43)) .none kV8 dc8 pm8 an8 cd8 ct8),sl8⟩)
  (c8:PySem.W.codeIn K cd8 "_law_round" = true)
  (k8:PySem.W.keepIn K (.ref f8)=true)
  (a9:PySem.W.nsIn K mainGlobals "renumbered_vessel" = some (some (.ref f9)))
  (l9:K.lookup f9=some ⟨oc9,od9,.func (PySem.W.fnOf "renumbered_vessel" "renumbered_vessel" (bJ (bH 32)) (bG (bH 32)) (aK (bH 32)) .none kV9 dc9 pm9 an9 cd9 ct9),sl9⟩)
  (c9:PySem.W.codeIn K cd9 "renumbered_vessel" = true)
  (k9:PySem.W.keepIn K (.ref f9)=true)
  (a10:PySem.W.nsIn K mainGlobals "renumbered" = some (some (.ref f10)))
  (l10:K.lookup f10=some ⟨oc10,od10,.func (PySem.W.fnOf "renumbered" "renumbered" (bJ (bH 31)) (bG (bH 31)) (aK (bH 31)) .none kV10 dc10 pm10 an10 cd10 ct10),sl10⟩)
  (c10:PySem.W.codeIn K cd10 "renumbered" = true)
  (k10:PySem.W.keepIn K (.ref f10)=true)
  (a11:PySem.W.nsIn K mainGlobals "beside" = some (some (.ref f11)))
  (l11:K.lookup f11=some ⟨oc11,od11,.func (PySem.W.fnOf "beside" "beside" (bJ (bH 34)) (bG (bH 34)) (aK (bH 34)) .none kV11 dc11 pm11 an11 cd11 ct11),sl11⟩)
  (c11:PySem.W.codeIn K cd11 "beside" = true)
  (k11:PySem.W.keepIn K (.ref f11)=true)
  (a12:PySem.W.nsIn K mainGlobals "_law_divides" = some (some (.ref f12)))
  (l12:K.lookup f12=some ⟨oc12,od12,.func (PySem.W.fnOf "_law_divides" "_law_divides" (bJ (bH 45)) (bG (bH 45)) (aK (bH 45)) .none kV12 dc12 pm12 an12 cd12 ct12),sl12⟩)
  (c12:PySem.W.codeIn K cd12 "_law_divides" = true)
  (k12:PySem.W.keepIn K (.ref f12)=true)
  (a13:PySem.W.nsIn K mainGlobals "first_state" = some (some (.ref f13)))
  (l13:K.lookup f13=some ⟨oc13,od13,.func (PySem.W.fnOf "first_state" "first_state" (bJ (bH 11)) (bG (bH 11)) (aK (bH 11)) .none kV13 dc13 pm13 an13 cd13 ct13),sl13⟩)
  (c13:PySem.W.codeIn K cd13 "first_state" = true)
  (k13:PySem.W.keepIn K (.ref f13)=true)
  (a14:PySem.W.nsIn K mainGlobals "pouring" = some (some (.ref f14)))
  (l14:K.lookup f14=some ⟨oc14,od14,.func (PySem.W.fnOf "pouring" "pouring" (bJ (bH 12)) (bG (bH 12)) (aK (bH 12)) .none kV14 dc14 pm14 an14 cd14 ct14),sl14⟩)
  (c14:PySem.W.codeIn K cd14 "pouring" = true)
  (k14:PySem.W.keepIn K (.ref f14)=true)
  (a15:PySem.W.nsIn K mainGlobals "filled" = some (some (.ref f15)))
  (l15:K.lookup f15=some ⟨oc15,od15,.func (PySem.W.fnOf "filled" "filled" (bJ (bH 15)) (bG (bH 15)) (aK (bH 15)) .none kV15 dc15 pm15 an15 cd15 ct15),sl15⟩)
  (c15:PySem.W.codeIn K cd15 "filled" = true)
  (k15:PySem.W.keepIn K (.ref f15)=true)
  (a16:PySem.W.nsIn K mainGlobals "send" = some (some (.ref f16)))
  (l16:K.lookup f16=some ⟨oc16,od16,.func (PySem.W.fnOf "send" "send" (bJ (bH 18)) (bG (bH 18)) (aK (bH 18)) .none kV16 dc16 pm16 an16 cd16 ct16),sl16⟩)
  (c16:PySem.W.codeIn K cd16 "send" = true)
  (k16:PySem.W.keepIn K (.ref f16)=true)
  (a17:PySem.W.nsIn K mainGlobals "share_out" = some (some (.ref f17)))
  (l17:K.lookup f17=some ⟨oc17,od17,.func (PySem.W.fnOf "share_out" "share_out" (bJ (bH 17)) (bG (bH 17)) (aK (bH 17)) .none kV17 dc17 pm17 an17 cd17 ct17),sl17⟩)
  (c17:PySem.W.codeIn K cd17 "share_out" = true)
  (k17:PySem.W.keepIn K (.ref f17)=true)
  (a18:PySem.W.nsIn K mainGlobals "settle" = some (some (.ref f18)))
  (l18:K.lookup f18=some ⟨oc18,od18,.func (PySem.W.fnOf "settle" "settle" (bJ (bH 16)) (bG (bH 16)) (aK (bH 16)) .none kV18 dc18 pm18 an18 cd18 ct18),sl18⟩)
  (c18:PySem.W.codeIn K cd18 "settle" = true)
  (k18:PySem.W.keepIn K (.ref f18)=true)
  (a19:PySem.W.nsIn K mainGlobals "doors_behind" = some (some (.ref f19)))
  (l19:K.lookup f19=some ⟨oc19,od19,.func (PySem.W.fnOf "doors_behind" "doors_behind" (bJ (bH 19)) (bG (bH 19)) (aK (bH 19)) .none kV19 dc19 pm19 an19 cd19 ct19),sl19⟩)
  (c19:PySem.W.codeIn K cd19 "doors_behind" = true)
  (k19:PySem.W.keepIn K (.ref f19)=true)
  (a20:PySem.W.nsIn K mainGlobals "tick_behind" = some (some (.ref f20)))
  (l20:K.lookup f20=some ⟨oc20,od20,.func (PySem.W.fnOf "tick_behind" "tick_behind" (bJ (bH 13)) (bG (bH 13)) (aK (bH 13)) .none kV20 dc20 pm20 an20 cd20 ct20),sl20⟩)
  (c20:PySem.W.codeIn K cd20 "tick_behind" = true)
  (k20:PySem.W.keepIn K (.ref f20)=true)
  (a21:PySem.W.nsIn K mainGlobals "go_round" = some (some (.ref f21)))
  (l21:K.lookup f21=some ⟨oc21,od21,.func (PySem.W.fnOf "go_round" "go_round" (bJ (bH 24)) (bG (bH 24)) (aK (bH 24)) .none kV21 dc21 pm21 an21 cd21 ct21),sl21⟩)
  (c21:PySem.W.codeIn K cd21 "go_round" = true)
  (k21:PySem.W.keepIn K (.ref f21)=true)
  (a22:PySem.W.nsIn K mainGlobals "round_of" = some (some (.ref f22)))
  (l22:K.lookup f22=some ⟨oc22,od22,.func (PySem.W.fnOf "round_of" "round_of" (bJ (bH 22)) (bG (bH 22)) (aK (bH 22)) .none kV22 dc22 pm22 an22 cd22 ct22),sl22⟩)
  (c22:PySem.W.codeIn K cd22 "round_of" = true)
  (k22:PySem.W.keepIn K (.ref f22)=true)
  (a23:PySem.W.nsIn K mainGlobals "_law_told" = some (some (.ref f23)))
  (l23:K.lookup f23=some ⟨oc23,od23,.func (PySem.W.fnOf "_law_told" "_law_told" (bJ (bH 46)) (bG (bH 46)) (aK (bH 46)) .none kV23 dc23 pm23 an23 cd23 ct23),sl23⟩)
  (c23:PySem.W.codeIn K cd23 "_law_told" = true)
  (k23:PySem.W.keepIn K (.ref f23)=true)
  (a24:PySem.W.nsIn K mainGlobals "is_whole" = some (some (.ref f24)))
  (l24:K.lookup f24=some ⟨oc24,od24,.func (PySem.W.fnOf "is_whole" "is_whole" (bJ (bH 9)) (bG (bH 9)) (aK (bH 9)) .none kV24 dc24 pm24 an24 cd24 ct24),sl24⟩)
  (c24:PySem.W.codeIn K cd24 "is_whole" = true)
  (k24:PySem.W.keepIn K (.ref f24)=true)
  (a25:PySem.W.nsIn K mainGlobals "need_vessel" = some (some (.ref f25)))
  (l25:K.lookup f25=some ⟨oc25,od25,.func (PySem.W.fnOf "need_vessel" "need_vessel" (bJ (bH 8)) (bG (bH 8)) (aK (bH 8)) .none kV25 dc25 pm25 an25 cd25 ct25),sl25⟩)
  (c25:PySem.W.codeIn K cd25 "need_vessel" = true)
  (k25:PySem.W.keepIn K (.ref f25)=true)
  (a26:PySem.W.nsIn K mainGlobals "sum_by" = some (some (.ref f26)))
  (l26:K.lookup f26=some ⟨oc26,od26,.func (PySem.W.fnOf "sum_by" "sum_by" (bJ (bH 25)) (bG (bH 25)) (aK (bH 25)) .none kV26 dc26 pm26 an26 cd26 ct26),sl26⟩)
  (c26:PySem.W.codeIn K cd26 "sum_by" = true)
  (k26:PySem.W.keepIn K (.ref f26)=true)
  (a27:PySem.W.nsIn K mainGlobals "tips_by" = some (some (.ref f27)))
  (l27:K.lookup f27=some ⟨oc27,od27,.func (PySem.W.fnOf "tips_by" "tips_by" (bJ (bH 23)) (bG (bH 23)) (aK (bH 23)) .none kV27 dc27 pm27 an27 cd27 ct27),sl27⟩)
  (c27:PySem.W.codeIn K cd27 "tips_by" = true)
  (k27:PySem.W.keepIn K (.ref f27)=true)
  (a28:PySem.W.nsIn K mainGlobals "came_in" = some (some (.ref f28)))
  (l28:K.lookup f28=some ⟨oc28,od28,.func (PySem.W.fnOf "came_in" "came_in" (bJ (bH 14)) (bG (bH 14)) (aK (bH 14)) .none kV28 dc28 pm28 an28 cd28 ct28),sl28⟩)
  (c28:PySem.W.codeIn K cd28 "came_in" = true)
  (k28:PySem.W.keepIn K (.ref f28)=true)
  (a29:PySem.W.nsIn K mainGlobals "came_with_each" = some (some (.ref f29)))
  (l29:K.lookup f29=some ⟨oc29,od29,.func (PySem.W.fnOf "came_with_each" "came_with_each" (bJ (bH 28)) (bG (bH 28)) (aK (bH 28)) .none kV29 dc29 pm29 an29 cd29 ct29),sl29⟩)
  (c29:PySem.W.codeIn K cd29 "came_with_each" = true)
  (k29:PySem.W.keepIn K (.ref f29)=true)
  (a30:PySem.W.nsIn K mainGlobals "grounded_with_each" = some (some (.ref f30)))
  (l30:K.lookup f30=some ⟨oc30,od30,.func (PySem.W.fnOf "grounded_with_each" "grounded_with_each" (bJ (bH 29)) (bG (bH 29)) (aK (bH 29)) .none kV30 dc30 pm30 an30 cd30 ct30),sl30⟩)
  (c30:PySem.W.codeIn K cd30 "grounded_with_each" = true)
  (k30:PySem.W.keepIn K (.ref f30)=true)
  (a31:PySem.W.nsIn K mainGlobals "round_sums" = some (some (.ref f31)))
  (l31:K.lookup f31=some ⟨oc31,od31,.func (PySem.W.fnOf "round_sums" "round_sums" (bJ (bH 27)) (bG (bH 27)) (aK (bH 27)) .none kV31 dc31 pm31 an31 cd31 ct31),sl31⟩)
  (c31:PySem.W.codeIn K cd31 "round_sums" = true)
  (k31:PySem.W.keepIn K (.ref f31)=true)
  (a32:PySem.W.nsIn K mainGlobals "law" = some (some (.ref f32)))
  (l32:K.lookup f32=some ⟨oc32,od32,.func (PySem.W.fnOf "law" "law" (bJ (bH 47)) (bG (bH 47)) (aK (bH 47)) .none kV32 dc32 pm32 an32 cd32 ct32),sl32⟩)
  (c32:PySem.W.codeIn K cd32 "law" = true)
  (k32:PySem.W.keepIn K (.ref f32)=true)
  (mcT:PySem.W.nsIn K mainGlobals "LAST_TICK" = some (some (.int 2000 tkT)))
  (mcV1:PySem.W.nsIn K mainGlobals "MOST_VESSELS" = some (some (.int 12 tkV1)))
  (mcV2:PySem.W.nsIn K mainGlobals "MOST_SPOUTS" = some (some (.int 12 tkV2)))
  (xcTipError:PySem.W.nsIn K mainGlobals "TipError" = some (some (.ref c_TipError)))
  (xcNoVessel:PySem.W.nsIn K mainGlobals "NoVessel" = some (some (.ref c_NoVessel)))
  (xcTooLong:PySem.W.nsIn K mainGlobals "TooLong" = some (some (.ref c_TooLong)))
  (xcTooMany:PySem.W.nsIn K mainGlobals "TooMany" = some (some (.ref c_TooMany)))
  (z0:PySem.W.nsIn K mainGlobals "len" = some none)
  (z1:PySem.W.nsIn K mainGlobals "sum" = some none)
  (z2:PySem.W.nsIn K mainGlobals "all" = some none)
  (z3:PySem.W.nsIn K mainGlobals "max" = some none)
  (z4:PySem.W.nsIn K mainGlobals "min" = some none)
  (z5:PySem.W.nsIn K mainGlobals "int" = some none)
  (z6:PySem.W.nsIn K mainGlobals "tuple" = some none)
  (z7:PySem.W.nsIn K mainGlobals "list" = some none)
  (z8:PySem.W.nsIn K mainGlobals "bool" = some none)
  (z9:PySem.W.nsIn K mainGlobals "range" = some none)
  (z10:PySem.W.nsIn K mainGlobals "zip" = some none)
  (z11:PySem.W.nsIn K mainGlobals "enumerate" = some none)
  (z12:PySem.W.nsIn K mainGlobals "isinstance" = some none)
  (z13:PySem.W.nsIn K mainGlobals "divmod" = some none)
  (z14:PySem.W.nsIn K mainGlobals "set" = some none)
  (z15:PySem.W.nsIn K mainGlobals "sorted" = some none)
  (exV:PySem.W.excIn K c_NoVessel [.type "ValueError",.type "Exception",.type "BaseException",.type "object"] "ValueError.__new__" = true)
  (exL:PySem.W.excIn K c_TooLong [.type "ValueError",.type "Exception",.type "BaseException",.type "object"] "ValueError.__new__" = true)
  (hmLxh:PySem.W.exmOne K (.ref c_TooLong) (.ref c_TooLong)=some true)
  (exM:PySem.W.excIn K c_TooMany [.type "ValueError",.type "Exception",.type "BaseException",.type "object"] "ValueError.__new__" = true) :
  ∃ fd:FuncData,(∀ (s:Shared) (v:Value),BindsTo s fd ⟨[v],[]⟩ [("script",v)])/\∀ base:Heap,K.In base->base.Ns mainGlobals mg->FnOk l.prog w K mg base j3 8 fa fd ["script"] (yH K):=by
 have e:=hfa.symm.trans (PySem.W.mg_of X G a32)
 cases e
 have T:Txt mg:=⟨PySem.W.mg_none_of X G z0,PySem.W.mg_none_of X G z1,PySem.W.mg_none_of X G z2,PySem.W.mg_none_of X G z3,PySem.W.mg_none_of X G z4,PySem.W.mg_none_of X G z5,PySem.W.mg_none_of X G z6,PySem.W.mg_none_of X G z7,PySem.W.mg_none_of X G z8,PySem.W.mg_none_of X G z9,PySem.W.mg_none_of X G z10,PySem.W.mg_none_of X G z11,PySem.W.mg_none_of X G z12,PySem.W.mg_none_of X G z13,PySem.W.mg_none_of X G z14,PySem.W.mg_none_of X G z15⟩
 have UV:TxtV mg:=⟨⟨_,PySem.W.mg_of X G mcV1,_,rfl⟩,⟨_,PySem.W.mg_of X G mcV2,_,rfl⟩⟩
 have UT:TxtT mg:=⟨⟨_,PySem.W.mg_of X G mcT,_,rfl⟩⟩
 have XC_NoVessel:ExC K "NoVessel" c_NoVessel:=⟨xcNoVessel,exV⟩
 have XC_TooLong:ExC K "TooLong" c_TooLong:=⟨xcTooLong,exL⟩
 have hxL:=hmLxh
 have XC_TooMany:ExC K "TooMany" c_TooMany:=⟨xcTooMany,exM⟩
 have mE_TooLong:=PySem.W.mg_of X G xcTooLong
 have F0:=cD (st:=(bH 36)) l0 c0 k0
 have F1:=cD (st:=(bH 37)) l1 c1 k1
 have F2:=cD (st:=(bH 38)) l2 c2 k2
 have F3:=cD (st:=(bH 39)) l3 c3 k3
 have F4:=cD (st:=(bH 44)) l4 c4 k4
 have F5:=cD (st:=(bH 40)) l5 c5 k5
 have F6:=cD (st:=(bH 41)) l6 c6 k6
 have F7:=cD (st:=(bH 42)) l7 c7 k7
 have F8:=cD (st:=(bH 43)) l8 c8 k8
 have F9:=cD (st:=(bH 32)) l9 c9 k9
 have F10:=cD (st:=(bH 31)) l10 c10 k10
 have F11:=cD (st:=(bH 34)) l11 c11 k11
 have F12:=cD (st:=(bH 45)) l12 c12 k12
 have F13:=cD (st:=(bH 11)) l13 c13 k13
 have F14:=cD (st:=(bH 12)) l14 c14 k14
 have F15:=cD (st:=(bH 15)) l15 c15 k15
 have F16:=cD (st:=(bH 18)) l16 c16 k16
 have F17:=cD (st:=(bH 17)) l17 c17 k17
 have F18:=cD (st:=(bH 16)) l18 c18 k18
 have F19:=cD (st:=(bH 19)) l19 c19 k19
 have F20:=cD (st:=(bH 13)) l20 c20 k20
 have F21:=cD (st:=(bH 24)) l21 c21 k21
 have F22:=cD (st:=(bH 22)) l22 c22 k22
 have F23:=cD (st:=(bH 46)) l23 c23 k23
 have F24:=cD (st:=(bH 9)) l24 c24 k24
 have F25:=cD (st:=(bH 8)) l25 c25 k25
 have F26:=cD (st:=(bH 25)) l26 c26 k26
 have F27:=cD (st:=(bH 23)) l27 c27 k27
 have F28:=cD (st:=(bH 14)) l28 c28 k28
 have F29:=cD (st:=(bH 28)) l29 c29 k29
 have F30:=cD (st:=(bH 29)) l30 c30 k30
 have F31:=cD (st:=(bH 27)) l31 c31 k31
 have F32:=cD (st:=(bH 47)) l32 c32 k32
 refine⟨PySem.W.fnOf "law" "law" (bJ (bH 47)) (bG (bH 47)) (aK (bH 47)) .none kV32 dc32 pm32 an32 cd32 ct32,λ s v=>.of_eq rfl,λ base _ _=>?_⟩
 have CB0:Callee l.prog w K mg base "_law_draw" ["tape","many"] 1 tY f0 _:=⟨lD F0 T,PySem.W.mg_of X G a0,k0,F0.binds (ps:=["tape","many"]) λ _ _ _ _ _ _=>hG λ _ _=>rfl⟩
 have C0:Callee l.prog w K mg base "_law_draw" ["tape","many"] 1 hU f0 _:=⟨uF F0 T,PySem.W.mg_of X G a0,k0,F0.binds (ps:=["tape","many"]) λ _ _ _ _ _ _=>hG λ _ _=>rfl⟩
 have C1:Callee l.prog w K mg base "_law_outs" ["tape","many","small"] 2 (wV K) f1 _:=⟨uD F1 T C0,PySem.W.mg_of X G a1,k1,F1.binds (ps:=["tape","many","small"]) λ _ _ _ _ _ _=>dU λ _ _ _=>rfl⟩
 have C2:Callee l.prog w K mg base "_law_vessel" ["tape","number","many","spouts","small"] 3 (pH K) f2 _:=⟨qJ F2 T C0 C1,PySem.W.mg_of X G a2,k2,F2.binds (ps:=["tape","number","many","spouts","small"]) λ _ _ _ _ _ _=>G2 λ _ _ _ _ _=>rfl⟩
 have C3:Callee l.prog w K mg base "_law_net" ["tape","most","small"] 4 (wW K) f3 _:=⟨uE F3 T C0 C2,PySem.W.mg_of X G a3,k3,F3.binds (ps:=["tape","most","small"]) λ _ _ _ _ _ _=>dU λ _ _ _=>rfl⟩
 have C4:Callee l.prog w K mg base "_law_fewer" ["net","most"] 1 (tX K) f4 _:=⟨rN F4 T,PySem.W.mg_of X G a4,k4,F4.binds (ps:=["net","most"]) λ _ _ _ _ _ _=>hG λ _ _=>rfl⟩
 have C5:Callee l.prog w K mg base "_law_first" ["net"] 1 (iL K) f5 _:=⟨rM F5 T,PySem.W.mg_of X G a5,k5,F5.binds (ps:=["net"]) λ _ _ _ _ _ _=>hJ λ _=>rfl⟩
 have C6:Callee l.prog w K mg base "_law_filled" ["net","state","poured"] 1 (kE K) f6 _:=⟨qM F6 T,PySem.W.mg_of X G a6,k6,F6.binds (ps:=["net","state","poured"]) λ _ _ _ _ _ _=>dU λ _ _ _=>rfl⟩
 have CB7:Callee l.prog w K mg base "_law_tick" ["net","state","poured","fast"] 2 (oN K) f7 _:=⟨qL F7 T C6,PySem.W.mg_of X G a7,k7,F7.binds (ps:=["net","state","poured","fast"]) λ _ _ _ _ _ _=>zU λ _ _ _ _=>rfl⟩
 have C7:Callee l.prog w K mg base "_law_tick" ["net","state","poured","fast"] 2 (tR K) f7 _:=⟨lC F7 T C6,PySem.W.mg_of X G a7,k7,F7.binds (ps:=["net","state","poured","fast"]) λ _ _ _ _ _ _=>zU λ _ _ _ _=>rfl⟩
 have C8:Callee l.prog w K mg base "_law_round" ["net"] 3 (mG K) f8 _:=⟨rL F8 T C5 CB7,PySem.W.mg_of X G a8,k8,F8.binds (ps:=["net"]) λ _ _ _ _ _ _=>hJ λ _=>rfl⟩
 have C9:Callee l.prog w K mg base "renumbered_vessel" ["vessel","new_vessels","new_spouts"] 1 (wU K) f9 _:=⟨jQ F9 T,PySem.W.mg_of X G a9,k9,F9.binds (ps:=["vessel","new_vessels","new_spouts"]) λ _ _ _ _ _ _=>dU λ _ _ _=>rfl⟩
 have C10:Callee l.prog w K mg base "renumbered" ["net","new_vessels","new_spouts"] 2 (BU K) f10 _:=⟨rK F10 T C9,PySem.W.mg_of X G a10,k10,F10.binds (ps:=["net","new_vessels","new_spouts"]) λ _ _ _ _ _ _=>dU λ _ _ _=>rfl⟩
 have C11:CalleeR l.prog w K mg base "beside" ["net","other"] 3 (wX K c_TooMany) f11 _:=⟨xJ F11 T UV XC_TooMany C10,PySem.W.mg_of X G a11,k11,F11.binds (ps:=["net","other"]) λ _ _ _ _ _ _=>hG λ _ _=>rfl⟩
 have C12:Callee l.prog w K mg base "_law_divides" ["one","other"] 1 BV f12 _:=⟨oK F12 T,PySem.W.mg_of X G a12,k12,F12.binds (ps:=["one","other"]) λ _ _ _ _ _ _=>hG λ _ _=>rfl⟩
 have C13:Callee l.prog w K mg base "first_state" ["net"] 1 (iL K) f13 _:=⟨qI F13 T,PySem.W.mg_of X G a13,k13,F13.binds (ps:=["net"]) λ _ _ _ _ _ _=>hJ λ _=>rfl⟩
 have C14:Callee l.prog w K mg base "pouring" ["net","amount"] 1 (kD K) f14 _:=⟨xH F14 T,PySem.W.mg_of X G a14,k14,F14.binds (ps:=["net","amount"]) λ _ _ _ _ _ _=>hG λ _ _=>rfl⟩
 have C15:Callee l.prog w K mg base "filled" ["spouts","state","poured"] 1 (pK K) f15 _:=⟨AI F15 T,PySem.W.mg_of X G a15,k15,F15.binds (ps:=["spouts","state","poured"]) λ _ _ _ _ _ _=>dU λ _ _ _=>rfl⟩
 have C16:Callee l.prog w K mg base "send" ["sent","target","amount"] 1 tV f16 _:=⟨FM F16 T,PySem.W.mg_of X G a16,k16,F16.binds (ps:=["sent","target","amount"]) λ _ _ _ _ _ _=>dU λ _ _ _=>rfl⟩
 have C17:Callee l.prog w K mg base "share_out" ["outs","has","sent"] 2 (tU K) f17 _:=⟨u9 F17 T C16,PySem.W.mg_of X G a17,k17,F17.binds (ps:=["outs","has","sent"]) λ _ _ _ _ _ _=>dU λ _ _ _=>rfl⟩
 have C18:Callee l.prog w K mg base "settle" ["vessel","has","sent"] 3 (pI K) f18 _:=⟨AH F18 T C16 C17,PySem.W.mg_of X G a18,k18,F18.binds (ps:=["vessel","has","sent"]) λ _ _ _ _ _ _=>dU λ _ _ _=>rfl⟩
 have C19:Callee l.prog w K mg base "doors_behind" ["vessels","doors","tipped"] 1 (tZ K) f19 _:=⟨oJ F19 T,PySem.W.mg_of X G a19,k19,F19.binds (ps:=["vessels","doors","tipped"]) λ _ _ _ _ _ _=>dU λ _ _ _=>rfl⟩
 have C20:Callee l.prog w K mg base "tick_behind" ["net","state","poured"] 4 (tQ K) f20 _:=⟨oH F20 T C15 C18 C19,PySem.W.mg_of X G a20,k20,F20.binds (ps:=["net","state","poured"]) λ _ _ _ _ _ _=>dU λ _ _ _=>rfl⟩
 have C21:CalleeR l.prog w K mg base "go_round" ["net"] 5 (vD K c_TooLong) f21 _:=⟨uC F21 T UT XC_TooLong C13 C14 C20,PySem.W.mg_of X G a21,k21,F21.binds (ps:=["net"]) λ _ _ _ _ _ _=>hJ λ _=>rfl⟩
 have C22:CalleeR l.prog w K mg base "round_of" ["net"] 6 (pJ K c_TooLong) f22 _:=⟨uA F22 T C21,PySem.W.mg_of X G a22,k22,F22.binds (ps:=["net"]) λ _ _ _ _ _ _=>hJ λ _=>rfl⟩
 have C23:Callee l.prog w K mg base "_law_told" ["net"] 7 (tP K) f23 _:=⟨qK F23 T mE_TooLong hxL C22,PySem.W.mg_of X G a23,k23,F23.binds (ps:=["net"]) λ _ _ _ _ _ _=>hJ λ _=>rfl⟩
 have C24:Callee l.prog w K mg base "is_whole" ["thing","least","most"] 1 pG f24 _:=⟨uB F24 T,PySem.W.mg_of X G a24,k24,F24.binds (ps:=["thing","least","most"]) λ _ _ _ _ _ _=>dU λ _ _ _=>rfl⟩
 have C25:CalleeR l.prog w K mg base "need_vessel" ["net","number"] 2 (tW K c_NoVessel) f25 _:=⟨oI F25 T XC_NoVessel C24,PySem.W.mg_of X G a25,k25,F25.binds (ps:=["net","number"]) λ _ _ _ _ _ _=>hG λ _ _=>rfl⟩
 have C26:Callee l.prog w K mg base "sum_by" ["amounts","ahead","ticks"] 1 (tT K) f26 _:=⟨AG F26 T,PySem.W.mg_of X G a26,k26,F26.binds (ps:=["amounts","ahead","ticks"]) λ _ _ _ _ _ _=>dU λ _ _ _=>rfl⟩
 have C27:CalleeR l.prog w K mg base "tips_by" ["net","vessel","ticks"] 6 (nF K c_NoVessel c_TooLong) f27 _:=⟨vM F27 T C25 C21 C26,PySem.W.mg_of X G a27,k27,F27.binds (ps:=["net","vessel","ticks"]) λ _ _ _ _ _ _=>dU λ _ _ _=>rfl⟩
 have C28:Callee l.prog w K mg base "came_in" ["net","state","poured"] 1 (pL K) f28 _:=⟨xI F28 T,PySem.W.mg_of X G a28,k28,F28.binds (ps:=["net","state","poured"]) λ _ _ _ _ _ _=>dU λ _ _ _=>rfl⟩
 have C29:Callee l.prog w K mg base "came_with_each" ["net","told"] 2 (lM K) f29 _:=⟨mU F29 T C13 C28 C14,PySem.W.mg_of X G a29,k29,F29.binds (ps:=["net","told"]) λ _ _ _ _ _ _=>hG λ _ _=>rfl⟩
 have C30:Callee l.prog w K mg base "grounded_with_each" ["told"] 1 (nG K) f30 _:=⟨j4 F30 T,PySem.W.mg_of X G a30,k30,F30.binds (ps:=["told"]) λ _ _ _ _ _ _=>hJ λ _=>rfl⟩
 have C31:CalleeR l.prog w K mg base "round_sums" ["net"] 6 (tS K c_TooLong) f31 _:=⟨qH F31 T C21 C29 C30,PySem.W.mg_of X G a31,k31,F31.binds (ps:=["net"]) λ _ _ _ _ _ _=>hJ λ _=>rfl⟩
 exact IA F32 T C0 CB0 C3 C4 C8 C11 C12 C23 C27 C31
theorem walk {l:PySem.W.OpenLaw}{q:Program}{loose:List Str}{XP:(Str->Option Value)->Heap->Prop}{YP:World->Heap->Prop}{d:DefRec}{K:Params->PySem.W.Frag} (hn:l.most=some 63) (hdf:d.params.defaults=[])
  (hY:∀ (w:World) (h:Heap),YP w h->(K w.params).In h)
  (F:∀ (w:World) (mg:Str->Option Value) (fa:Addr) (h:Heap),(K w.params).In h->h.Ns mainGlobals mg->mg d.name=some (.ref fa)->
   ∃ fd:FuncData,(∀ (s:Shared) (u:Value),BindsTo s fd ⟨[u],[]⟩ [("script",u)])/\∀ base:Heap,(K w.params).In base->base.Ns mainGlobals mg->FnOk l.prog w (K w.params) mg base j3 8 fa fd ["script"] (yH (K w.params))) :
  PySem.W.WalkO q loose XP YP l.row.toRowW d [] (λ f vs=>PySem.call f vs):=
 L2.walk_of (n:=63) (k:=8) (x := "script") (CX:=λ _=>j3) (sp:=λ w=>yH (K w.params)) hn (by decide) hdf ⟨rfl,by decide,by decide⟩ hY F (λ _ _ a ns hl _ hS=>⟨a,ns,rfl,hS,hl,λ _=>rfl⟩) λ _ _ _ _ _ z=>z
end Tw
noncomputable def PySem.W.Fast.tw14710849273291215117:Nat:=0
theorem PySem.W.Fast.te14710849273291215117:PySem.W.Fast.tw14710849273291215117=PySem.W.Fast.tw14710849273291215117:=rfl
noncomputable def PySem.W.Fast.tw7110671597719546258:PySem.Program:=PySem.Challenge.pw_tipwell_k33_whole_rounds_side_by_side
theorem PySem.W.Fast.te7110671597719546258:PySem.Challenge.pw_tipwell_k33_whole_rounds_side_by_side=PySem.W.Fast.tw7110671597719546258:=rfl
namespace PySem.W.Fast
def tw3241779298987221205:=0
def tw4436425056232700769:=0
def tw16271824558553659769:=0
def tw10234049538995435754:=0
def tw4435644484450789200:=0
def tw1043085859377301400:=0
def tw4932339666817283528:=0
def tw6004737430496378266:=0
def tw2736078631119212038:=0
def tw10086847031458214762:=0
def tw14241624831355520231:=0
def tw1775353582406603490:=0
def tw8229174968209626470:=0
def tw4271341628021275768:=0
def tw10209919469645358846:=0
def tw16094619505551176687:=0
def tw11555665095299062175:=0
def tw1557318652294779336:=0
def tw15591404657278583570:=0
def tw2396737481664369629:=0
def tw8570337433518578050:=0
def tw8604277333616390445:=0
def tw11522551372252585344:=0
def tw13199079861158200189:=0
def tw7191542196276175165:=0
def tw2752920269879367846:=0
def tw8007015388694067173:=0
def tw1734821868802205219:=0
def tw15068479972860943078:=0
def tw6894522155936888713:=0
def tw1412678749696509917:=0
def tw4587284944399901004:=0
def tw4729195867619015622:=0
def tw4322437130310172861:=0
def tw9550068310081442518:=0
def tw16262752104315710288:=0
def tw15496404076738481629:=0
def tw5880718261582571280:=0
def tw5155420949415089961:=0
def tw2926702130072386681:=0
def tw2902798368622951021:=0
def tw16249468928812309765:=0
def tw10703289416342307473:=0
def tw9190877404901148589:=0
def tw5354197664366646832:=0
def tw8568855477371743264:=0
def tw13041368189418194138:=0
def tw14038339388929816929:=0
def tw15234628363522647291:=0
def tw13317628409532326574:=0
def tw17827115039050444655:=0
def tw1281354101722209453:=0
def tw2333408794382665799:=0
def tw13026292306327958800:=0
def tw16020696753466211893:=0
def tw8555721259204455530:=0
def tw5010045955361918898:=0
def tw6386556366695192326:=0
def tw4885895878451123103:=0
def tw15644504009907971340:=0
def tw16446577848935483626:=0
def tw6386579384096836991:=0
def tw4990507135249134078:=0
def tw12260434866444605332:=0
def tw12888713909402944790:=0
def tw17397861314740994696:=0
def tw3563594516277496844:=0
def tw6386139403965932511:=0
def tw17984700096465064671:=0
def tw4667690814565620262:=0
def tw15289406633291002371:=0
def tw12801724512200844694:=0
def tw1394122923250296763:=0
def tw4825774715092203607:=0
def tw9393683713261054923:=0
def tw18048572484446200457:=0
def tw4731594675839440122:=0
def tw15453053205959997991:=0
def tw9274210858485222819:=0
def tw16493590967945497226:=0
def tw9714599018415358754:=0
def tw2865252990365726176:=0
def tw6843232669259132134:=0
def tw7739513380337107717:=0
end PySem.W.Fast
open PySem PySem.W PyProof.Rows
set_option maxRecDepth 100000 in
set_option maxHeartbeats 0 in
theorem PySem.Challenge.cw_tipwell_k33_whole_rounds_side_by_side_holds : PySem.Challenge.rw_tipwell_k33_whole_rounds_side_by_side.Holds := by
 w_on;o_law;k_head;(case hw=>w_witness2)
 k_fill
 refine Tw.walk (l:=PySem.Challenge.rw_tipwell_k33_whole_rounds_side_by_side) rfl rfl (λ w h Y=>by first | exact PySem.W.kIn_of Y | exact PySem.W.km_in_of Y) ?F
 case F=>
  intro w mg fa h KX G hmg
  refine' Tw.all_mk KX G hmg ?_ ?_ ?_ ?_ ?_ ?_ ?_ ?_ ?_ ?_ ?_ ?_ ?_ ?_ ?_ ?_ ?_ ?_ ?_ ?_ ?_ ?_ ?_ ?_ ?_ ?_ ?_ ?_ ?_ ?_ ?_ ?_ ?_ ?_ ?_ ?_ ?_ ?_ ?_ ?_ ?_ ?_ ?_ ?_ ?_ ?_ ?_ ?_ ?_ ?_ ?_ ?_ ?_ ?_ ?_ ?_ ?_ ?_ ?_ ?_ ?_ ?_ ?_ ?_ ?_ ?_ ?_ ?_ ?_ ?_ ?_ ?_ ?_ ?_ ?_ ?_ ?_ ?_ ?_ ?_ ?_ ?_ ?_ ?_ ?_ ?_ ?_ ?_ ?_ ?_ ?_ ?_ ?_ ?_ ?_ ?_ ?_ ?_ ?_ ?_ ?_ ?_ ?_ ?_ ?_ ?_ ?_ ?_ ?_ ?_ ?_ ?_ ?_ ?_ ?_ ?_ ?_ ?_ ?_ ?_ ?_ ?_ ?_ ?_ ?_ ?_ ?_ ?_ ?_ ?_ ?_ ?_ ?_ ?_ ?_ ?_ ?_ ?_ ?_ ?_ ?_ ?_ ?_ ?_ ?_ ?_ ?_ ?_ ?_ ?_ ?_ ?_ ?_ ?_ ?_ ?exV ?exL ?hmLxh ?exM
  all_goals try k_is
  (case exV=>k_exc)
  (case exL=>k_exc)
  (case hmLxh=>kts_exm)
  (case exM=>k_exc)
#print axioms PySem.Challenge.cw_tipwell_k33_whole_rounds_side_by_side_holds