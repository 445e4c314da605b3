import PyProof.Rows.All
import Wide.All
import OpenK.AllK
import Wide.FinOn
import Lean
import PyProof.EqAt
import PyProof.EqKinds
import PyProof.TupleCall
import PyProof.FactsAll.NoneType
import PyProof.ZipIter
import PyProof.EnumMake
import KE.KUnpack
import KE.KTryMore
import PyProof.NsDelKeeps
import PyProof.TupleKey
import PyProof.FactsAll.bool_1
import PyProof.NeKinds
import PyProof.ListRange
import PyProof.FactsAll.tuple_0
import PyProof.FactsAll.tuple_2
import PyProof.Rows.SetFrom
import PyProof.CollectWalk
import PyProof.Rows.SortWalk
import PySem.Challenge.RW_tipwell_k10_bells
set_option Elab.async false
set_option linter.all false
set_option maxRecDepth 100000
namespace L2
open PySem PySem.Spec PyProof.Rows
noncomputable abbrev Key:=Sum Int (Option Str)
noncomputable def isNon:Value→Bool
 | .none=>true
 | _=>false
theorem isNon_shape {v:Value} (h:isNon v=true):v=Value.none:=by
 cases v <;> simp_all [isNon]
noncomputable def keyIs:Key→Value→Bool
 | .inl k,v=>Value.isInt k v
 | .inr (some x),v=>Value.isStrOf x v
 | .inr none,v=>isNon v
noncomputable def hashNon:Int:=0xFCA86420
noncomputable def keyH (w:World):Key→Int
 | .inl k=>hashInt k
 | .inr (some x)=>hashStr w x
 | .inr none=>hashNon
theorem bJ:∀ {k:Key}{v:Value},keyIs k v=true→(∃ i t,k=Sum.inl i∧v=Value.int i t)∨(∃ x t,k=Sum.inr (some x)∧v=Value.str x t)∨(k=Sum.inr none∧v=Value.none)
 | .inl i,v,h=>by
  obtain⟨t,e⟩:=Value.isInt_shape (k:=i) (v:=v) h
  exact .inl ⟨i,t,rfl,e⟩
 | .inr (some x),v,h=>by
  obtain⟨t,e⟩:=Value.isStrOf_shape (x:=x) (v:=v) h
  exact .inr (.inl ⟨x,t,rfl,e⟩)
 | .inr none,v,h=>.inr (.inr ⟨rfl,isNon_shape h⟩)
theorem key_ll (a b:Int):decide ((Sum.inl a:Key)=Sum.inl b)=(a == b):=by
 by_cases e:a=b
 ·subst e;simp
 ·have h:¬ (Sum.inl a:Key)=Sum.inl b:=fun q=>e (Sum.inl.inj q)
  rw[decide_eq_false h]
  exact (beq_eq_false_iff_ne.mpr e).symm
theorem key_rr (a b:Str):decide ((Sum.inr (some a):Key)=Sum.inr (some b))=decide (a=b):=by
 by_cases e:a=b
 ·subst e;simp
 ·have h:¬ (Sum.inr (some a):Key)=Sum.inr (some b):=fun q=>e (Option.some.inj (Sum.inr.inj q))
  rw[decide_eq_false h,decide_eq_false e]
theorem key_li (i:Int) (o:Option Str):decide ((Sum.inl i:Key)=Sum.inr o)=false:=decide_eq_false (fun q=>nomatch q)
theorem key_il (i:Int) (o:Option Str):decide ((Sum.inr o:Key)=Sum.inl i)=false:=decide_eq_false (fun q=>nomatch q)
theorem key_sn (x:Str):decide ((Sum.inr (some x):Key)=Sum.inr none)=false:=decide_eq_false (fun q=>nomatch (Sum.inr.inj q))
theorem key_ns (x:Str):decide ((Sum.inr none:Key)=Sum.inr (some x))=false:=decide_eq_false (fun q=>nomatch (Sum.inr.inj q))
theorem hash_non {prog:Program}{w:World}{A:Around}{E:Value→Shared→Prop}{s:Shared}{Q:Int→Shared→Prop} (h:Q hashNon { s with toks:=s.toks+1 }) :
  wpAny (model prog w) A (pyHash .none) Q E s:=by
 have hT:s.TypeIs .none "NoneType" := rfl
 unfold pyHash
 have hv:[Value.none].any Value.onHeap=false:=rfl
 refine wpAny_bind ?_
 rw[cRoomFor,if_neg (by rw[hv];exact Bool.false_ne_true)];refine wpAny_pure ?_
 refine wpAny_bind (wpAny_specialOf hT F.slot_NoneType_hash.lookup ?_)
 show wpAny _ _ (if (some (Value.builtin "NoneType.__hash__") == some Value.none)=true then _ else _) Q E s
 rw[if_neg (by rw[beq_builtin_none];exact Bool.false_ne_true)]
 refine wpAny_bind (wpAny_specialOf hT F.slot_NoneType_hash.lookup ?_)
 show wpAny _ _ (callSpecialIfBoundUnlessNone? .none "__hash__" _ >>= _) Q E s
 refine wpAny_bind (wpAny_callSpecialIfBoundUnlessNone?_slot hT F.slot_NoneType_hash
  (wpAny_call_entry F.slot_NoneType_hash hT F.entry_NoneType_hash
   (show wpAny _ _ (do ret (← mkInt hashNon)) _ _ s from wpAny_ret_mkInt ?_) (F.args_NoneType_hash_1 _)))
 show wpAny _ _ (if (decide (-(2:Int) ^ 63≤hashNon) && decide (hashNon < 2 ^ 63))=true then _ else _) Q E _
 rw[if_pos (by decide)]
 exact wpAny_pure h
noncomputable def mixKind (prog:Program) (w:World):PySem.KeyKind prog w Key where
 is:=keyIs
 hash:=keyH w
 inj:=fun v a b ha hb=>by
  rcases bJ ha with ⟨i,t,rfl,rfl⟩ | ⟨x,t,rfl,rfl⟩ | ⟨rfl,rfl⟩
  ·rcases bJ hb with ⟨j,u,rfl,e⟩ | ⟨y,u,rfl,e⟩ | ⟨rfl,e⟩
   ·injection e with e1 _;rw[e1]
   ·exact nomatch e
   ·exact nomatch e
  ·rcases bJ hb with ⟨j,u,rfl,e⟩ | ⟨y,u,rfl,e⟩ | ⟨rfl,e⟩
   ·exact nomatch e
   ·injection e with e1 _;rw[e1]
   ·exact nomatch e
  ·rcases bJ hb with ⟨j,u,rfl,e⟩ | ⟨y,u,rfl,e⟩ | ⟨rfl,e⟩
   ·exact nomatch e
   ·exact nomatch e
   ·rfl
 byValue:=fun k v h=>by
  rcases bJ h with ⟨i,t,rfl,rfl⟩ | ⟨x,t,rfl,rfl⟩ | ⟨rfl,rfl⟩ <;> rfl
 pyHash:=fun hv h=>by
  rcases bJ hv with ⟨i,t,rfl,rfl⟩ | ⟨x,t,rfl,rfl⟩ | ⟨rfl,rfl⟩
  ·exact wpAny_pyHash_int h
  ·exact wpAny_pyHash_str h
  ·exact hash_non h
 eqBool:=fun hu hv h=>by
  rcases bJ hu with ⟨i,t,rfl,rfl⟩ | ⟨x,t,rfl,rfl⟩ | ⟨rfl,rfl⟩
  ·rcases bJ hv with ⟨j,u,rfl,rfl⟩ | ⟨y,u,rfl,rfl⟩ | ⟨rfl,rfl⟩
   ·rw[key_ll] at h;exact wpAny_eqBool_int h
   ·rw[key_li] at h;exact SeqAt.EqAt.int_str i t y u _ _ _ _ h
   ·rw[key_li] at h;exact SeqAt.EqAt.int_none i t _ _ _ _ h
  ·rcases bJ hv with ⟨j,u,rfl,rfl⟩ | ⟨y,u,rfl,rfl⟩ | ⟨rfl,rfl⟩
   ·rw[key_il] at h;exact SeqAt.EqAt.str_int x t j u _ _ _ _ h
   ·rw[key_rr] at h;exact wpAny_eqBool_str h
   ·rw[key_sn] at h;exact SeqAt.EqAt.str_none x t _ _ _ _ h
  ·rcases bJ hv with ⟨j,u,rfl,rfl⟩ | ⟨y,u,rfl,rfl⟩ | ⟨rfl,rfl⟩
   ·rw[key_il] at h;exact SeqAt.EqAt.none_int j u _ _ _ _ h
   ·rw[key_ns] at h;exact SeqAt.EqAt.none_str y u _ _ _ _ h
   ·rw[decide_eq_true rfl] at h;exact SeqAt.EqAt.same Value.none _ _ _ _ h
 «strs»:=fun k x t v h=>by
  rcases bJ h with ⟨i,u,rfl,e⟩ | ⟨y,u,rfl,e⟩ | ⟨rfl,e⟩
  ·exact nomatch e
  ·injection e with e1 _
   subst e1
   cases v <;> rfl
  ·exact nomatch e
end L2
namespace L2
open PySem PySem.Spec PyProof.Rows
inductive V where
 | non | bl (b:Bool) | int (i:Int) | str (x:Str) | byt (b:Array UInt8) | flt (b:UInt64) | ref (a:Addr) | ty (n:String)
 deriving DecidableEq
noncomputable def aY:V→Value→Prop
 | .non,u=>u=Value.none
 | .bl b,u=>u=Value.bool b
 | .int i,u=>∃ t,u=Value.int i t
 | .str x,u=>∃ t,u=Value.str x t
 | .byt b,u=>∃ t,u=Value.bytes b t
 | .flt b,u=>∃ t,u=Value.float b t
 | .ref a,u=>u=Value.ref a
 | .ty n,u=>u=Value.type n
noncomputable abbrev b0:List V→List Value→Prop:=Paired aY
theorem b0.length {xs:List V}{us:List Value} (r:b0 xs us):xs.length=us.length:=Paired.length r
theorem b0.get:∀ {xs:List V}{us:List Value}{i:Nat}{x:V},b0 xs us→xs[i]? = some x→∃ u,us[i]? = some u∧aY x u
 | _,_,_,_,.nil,e=>by simp at e
 | _,_,0,_,.cons r _,e=>by simp at e;subst e;exact⟨_,rfl,r⟩
 | _,_,i+1,x,.cons _ t,e=>by
  obtain⟨u,h1,h2⟩:=b0.get (i:=i) (x:=x) t (by simpa using e)
  exact⟨u,by simpa using h1,h2⟩
theorem b0.set {x:V}{u:Value} (r:aY x u):∀ {xs:List V}{us:List Value} (i:Nat),b0 xs us→b0 (xs.set i x) (us.set i u)
 | _,_,_,.nil=>.nil
 | _,_,0,.cons _ t=>.cons r t
 | _,_,i+1,.cons q t=>.cons q (b0.set r i t)
theorem b0.append:∀ {xs ys:List V}{us ws:List Value},b0 xs us→b0 ys ws→b0 (xs++ys) (us++ws)
 | _,_,_,_,.nil,s=>s
 | _,_,_,_,.cons r t,s=>.cons r (b0.append t s)
noncomputable def RelO:Option V→Option Value→Prop
 | some v,some u=>aY v u
 | none,none=>True
 | _,_=>False
noncomputable def KV {κ:Type}:List (κ×V)→List (κ×Value)→Prop:=Paired fun (p:κ×V) (q:κ×Value)=>p.1=q.1∧aY p.2 q.2
noncomputable def kV:Key→V
 | .inl i=>.int i
 | .inr (some x)=>.str x
 | .inr none=>.non
inductive HO where
 | lst (xs:List V)
 | tup (xs:List V)
 | dK (kvs:List (Key×V)) | dT (kvs:List (List Key×V))
 | set (S:Int→Bool) (n:Nat)
 | ins (C dx:Addr) (fs:List (Str×V))
 | own (x:Addr)
 | xd (fs:List (Str×V))
 | met (f x:Addr)
 | rng (lo hi:Int)
 | frz (o:Obj) (u:HO)
 | tbl (ps:Array Value)
 | ext (φ:Heap→Prop)
noncomputable abbrev Hp:=Addr→Option HO
noncomputable def upd (H:Hp) (a:Addr) (o:HO):Hp:=fun b=>if b=a then some o else H b
theorem aC {H:Hp}{a:Addr}{o:HO}:upd H a o a=some o:=by unfold upd;rw[if_pos rfl]
theorem aO {H:Hp}{a b:Addr}{o:HO} (h:b≠a):upd H a o b=H b:=by unfold upd;rw[if_neg h]
theorem ne_of {H:Hp}{a b:Addr}{o u:HO} (h:H a=some o) (h':H b=some u) (d:o≠u):a≠b:=by
 intro e;subst e;rw[h] at h';exact d (Option.some.inj h')
theorem aP {H:Hp}{a b:Addr}{o:HO} (h:H a=some o) (h':H b=none):a≠b:=by
 intro e;subst e;rw[h] at h';cases h'
section
variable (P:Program) (w:World)
noncomputable def cB (H:Hp) (h:Heap) (a:Addr):HO→Prop
 | .lst xs=>xs.length≤sizeLine∧∃ (its:List Value) (n:Nat),b0 xs its∧h.get? a=some { cls:=.type "list",data:=.seq its.toArray n }
 | .tup xs=>xs.length≤sizeLine∧∃ its:List Value,b0 xs its∧IsTup h a its.toArray
 | .dK kvs=>kvs.length≤sizeLine∧(a == sysModules)=false∧∃ vs,KV kvs vs∧h.DictOf (mixKind P w) a vs
 | .dT kvs=>kvs.length≤sizeLine∧(a == sysModules)=false∧∃ xs:List (List Key×Addr×Value),
   Paired (fun (p:List Key×V) (q:List Key×Addr×Value)=>p.1=q.1∧H q.2.1=some (.tup (p.1.map kV))∧aY p.2 q.2.2) kvs xs∧
   ∃ o es ep,h.get? a=some o∧o.ExactDict∧o.data=.dict es ep∧es.toList=xs.map (entryOfKey (tupleKind (mixKind P w)))∧(xs.map (·.1)).Nodup
 | .set S n=>h.SetOf (intKind P w) a S n
 | .ins C dx fs=>H dx=some (.own a)∧fs.length≤1000∧dx≠a∧h.get? a=some (PySem.W.instObj C dx)∧
   ∃ mA,h.Ns1 dx mA∧(∀ f,RelO (fs.lookup f) (mA f))∧PySem.Within mA (fs.map (·.1))
 | .own _=>∃ o,h.get? a=some o
 | .xd fs=>∃ mA,h.Ns1 a mA∧∀ f,RelO (fs.lookup f) (mA f)
 | .rng lo hi=>∃ t u v,h.get? a=some { cls:=.type "range",data:=.fields #[.int lo t,.int hi u,.int 1 v] }
 | .frz o u=>h.get? a=some o∧cB H h a u
 | .tbl ps=>h.get? a=some { cls:=.none,data:=.fields ps }
 | .met f x=>h.get? a=some (PySem.W.methodObj (.ref f) (.ref x))
 | .ext φ=>φ h∧(∃ o,h.get? a=some o)∧∀ h1 h2:Heap,φ h1→(∀ o,h1.get? a=some o→h2.get? a=some o)→φ h2
noncomputable def HOk (H:Hp) (h:Heap):Prop:=∀ a o,H a=some o→cB P w H h a o
end
section
variable {P:Program}{w:World}{H H':Hp}{h h':Heap}{a:Addr}{o:HO}
theorem cB.lt (x:cB P w H h a o):a < h.objs.size:=by
 cases o with
 | lst xs=>obtain⟨_,_,_,_,e⟩:=x;exact Heap.lt_size e
 | tup xs=>obtain⟨_,_,_,p⟩:=x;exact p.lt
 | dK kvs=>obtain⟨_,_,_,_,o,_,_,e,_⟩:=x;exact Heap.lt_size e
 | dT kvs=>obtain⟨_,_,_,_,o,_,_,e,_⟩:=x;exact Heap.lt_size e
 | set S n=>obtain⟨o,_,_,_,e,_⟩:=x;exact Heap.lt_size e
 | ins C dx fs=>obtain⟨_,_,_,e,_⟩:=x;exact Heap.lt_size e
 | own y=>obtain⟨_,e⟩:=x;exact Heap.lt_size e
 | xd fs=>obtain⟨_,⟨_,_,_,e,_⟩,_⟩:=x;exact Heap.lt_size e
 | rng lo hi=>obtain⟨_,_,_,e⟩:=x;exact Heap.lt_size e
 | frz ob u=>obtain⟨e,_⟩:=x;exact Heap.lt_size e
 | tbl ps=>exact Heap.lt_size (show h.get? a=some _ from x)
 | met f y=>exact Heap.lt_size (show h.get? a=some _ from x)
 | ext φ=>obtain⟨_,⟨_,e⟩,_⟩:=x;exact Heap.lt_size e
theorem Paired.mapP {α β:Type}{F G:α→β→Prop}:∀ {l₁:List α}{l₂:List β},Paired F l₁ l₂→(∀ a b,F a b→G a b)→Paired G l₁ l₂
 | _,_,.nil,_=>.nil
 | _,_,.cons r t,f=>.cons (f _ _ r) (Paired.mapP t f)
theorem cB.stay (x:cB P w H h a o) (k:∀ b u,(b=a∨H b=some (.own a))→h.get? b=some u→h'.get? b=some u)
  (ho:∀ b,H b=some (.own a)→H' b=some (.own a)) (ht:∀ b xs,H b=some (.tup xs)→H' b=some (.tup xs)):cB P w H' h' a o:=by
 induction o with
 | lst xs=>obtain⟨z,its,n,r,e⟩:=x;exact⟨z,its,n,r,k _ _ (.inl rfl) e⟩
 | tup xs=>obtain⟨z,its,r,ob,e,c⟩:=x;exact⟨z,its,r,ob,k _ _ (.inl rfl) e,c⟩
 | dK kvs=>obtain⟨z,y,vs,r,ob,es,ep,e,c⟩:=x;exact⟨z,y,vs,r,ob,es,ep,k _ _ (.inl rfl) e,c⟩
 | dT kvs=>
  obtain⟨z,y,xs,r,ob,es,ep,e,c⟩:=x
  exact⟨z,y,xs,Paired.mapP r fun p q z=>⟨z.1,ht _ _ z.2.1,z.2.2⟩,ob,es,ep,k _ _ (.inl rfl) e,c⟩
 | set S n=>obtain⟨ob,es,ep,t,e,c⟩:=x;exact⟨ob,es,ep,t,k _ _ (.inl rfl) e,c⟩
 | ins C dx fs=>
  obtain⟨d,z,ne,e,mA,⟨od,es,ep,e2,c⟩,r⟩:=x
  exact⟨ho _ d,z,ne,k _ _ (.inl rfl) e,mA,⟨od,es,ep,k _ _ (.inr d) e2,c⟩,r⟩
 | own y=>obtain⟨ob,e⟩:=x;exact⟨ob,k _ _ (.inl rfl) e⟩
 | xd fs=>obtain⟨mA,⟨od,es,ep,e,c⟩,r⟩:=x;exact⟨mA,⟨od,es,ep,k _ _ (.inl rfl) e,c⟩,r⟩
 | rng lo hi=>obtain⟨t,u,v,e⟩:=x;exact⟨t,u,v,k _ _ (.inl rfl) e⟩
 | frz ob u ih=>obtain⟨e,q⟩:=x;exact⟨k _ _ (.inl rfl) e,ih q⟩
 | tbl ps=>
  have e:h.get? a=some { cls:=.none,data:=.fields ps }:=x
  show h'.get? a=some { cls:=.none,data:=.fields ps }
  exact k a _ (.inl rfl) e
 | met f y=>
  have e:h.get? a=some (PySem.W.methodObj (.ref f) (.ref y)):=x
  show h'.get? a=some (PySem.W.methodObj (.ref f) (.ref y))
  exact k a _ (.inl rfl) e
 | ext φ=>obtain⟨p,⟨o,e⟩,st⟩:=x;exact⟨st _ _ p fun o q=>k _ _ (.inl rfl) q,⟨o,k _ _ (.inl rfl) e⟩,st⟩
theorem HOk.lt (x:HOk P w H h) (e:H a=some o):a < h.objs.size:=(x a o e).lt
theorem HOk.fresh (x:HOk P w H h) (e:h.objs.size≤a):H a=none:=by
 cases q:H a with
 | none=>rfl
 | some u=>exact absurd (Nat.lt_of_lt_of_le (x.lt q) e) (Nat.lt_irrefl _)
theorem HOk.kept (x:HOk P w H h) (k:∀ b u,h.get? b=some u→h'.get? b=some u):HOk P w H h':=fun a o e=>
 (x a o e).stay (fun b u _ q=>k b u q) (fun _ q=>q) fun _ _ q=>q
theorem HOk.laid (x:HOk P w H h) (k:∀ b u,h.get? b=some u→h'.get? b=some u) (hp:h.objs.size≤a) (new:cB P w (upd H a o) h' a o):HOk P w (upd H a o) h':=fun b u e=>by
 have hn:=x.fresh hp
 by_cases hb:b=a
 ·subst hb;rw[aC] at e;cases e;exact new
 ·rw[aO hb] at e
  exact (x b u e).stay (fun c v _ q=>k c v q) (fun c q=>by rw[aO (aP q hn)];exact q) fun c xs q=>by rw[aO (aP q hn)];exact q
end
noncomputable def Rd (H:Hp) (a:Addr) (u:HO):Prop:=H a=some u∨∃ o,H a=some (.frz o u)
theorem Rd.ok {P:Program}{w:World}{H:Hp}{h:Heap}{a:Addr}{u:HO} (r:Rd H a u) (x:HOk P w H h):cB P w H h a u:=by
 rcases r with r | ⟨o,r⟩
 ·exact x a u r
 ·obtain⟨_,q⟩:=x a _ r
  exact q
noncomputable def Mut:Option HO→Prop
 | some (.lst _)=>True
 | some (.dK _)=>True
 | some (.dT _)=>True
 | some (.set _ _)=>True
 | some (.ins _ _ _)=>True
 | some (.ext _)=>True
 | _=>False
section
variable {P:Program}{w:World}{H:Hp}{h h':Heap}{x e:Addr}{o':HO}
theorem HOk.write (ok:HOk P w H h) (mu:Mut (H x)) (he:e=x∨H e=some (.own x)) (k:∀ b u,b≠e→h.get? b=some u→h'.get? b=some u) (heo:∃ u,h'.get? e=some u)
  (new:cB P w (upd H x o') h' x o'):HOk P w (upd H x o') h':=fun b u q=>by
 have nown:∀ c y,H c=some (.own y)→c≠x:=fun c y r z=>by subst z;rw[r] at mu;exact mu
 have ntup:∀ c xs,H c=some (.tup xs)→c≠x:=fun c xs r z=>by subst z;rw[r] at mu;exact mu
 by_cases hb:b=x
 ·subst hb;rw[aC] at q;cases q;exact new
 ·rw[aO hb] at q
  by_cases hbe:b=e
  ·have q':H b=some (.own x):=by
    rcases he with z | z
    ·exact absurd (hbe.trans z) hb
    ·rw[hbe];exact z
   rw[q] at q';cases q'
   obtain⟨v,hv⟩:=heo
   exact⟨v,by rw[hbe];exact hv⟩
  ·refine (ok b u q).stay (fun c v hc r=>k c v ?_ r) (fun c r=>by rw[aO (nown c b r)];exact r) fun c xs r=>by rw[aO (ntup c xs r)];exact r
   rcases hc with rfl | hc
   ·exact hbe
   ·rintro rfl
    rcases he with z | z
    ·exact nown c b hc z
    ·rw[hc] at z;cases z;exact hb rfl
end
structure Un (fs ex:List Addr) (H H':Hp) (h h':Heap):Prop where
 keep:∀ b o,h.get? b=some o→H b=none→b∉fs→b∉ex→h'.get? b=some o
 slot:∀ b o,h.get? b=some o→H b=none→b∈fs→b∉ex→∃ sl,h'.get? b=some { o with slots:=sl }
 free:∀ b o,h.get? b=some o→H b=none→b∉ex→H' b=none
 there:∀ b o,h.get? b=some o→b∉ex→∃ o',h'.get? b=some o'
 tups:∀ b xs,H b=some (.tup xs)→H' b=some (.tup xs)
 frzs:∀ b o u,H b=some (.frz o u)→H' b=some (.frz o u)
 tbls:∀ b ps,H b=some (.tbl ps)→∃ more,H' b=some (.tbl (ps++more))
section
variable {fs fs' ex ex':List Addr}{H H1 H2:Hp}{h h1 h2 h':Heap}{a x e:Addr}{o:HO}
theorem Un.any (u:Un fs ex H H1 h h1) {b:Addr}{ob:Obj} (q:h.get? b=some ob) (n:H b=none) (hx:b∉ex):∃ sl,h1.get? b=some { ob with slots:=sl }:=by
 by_cases hb:b∈fs
 ·exact u.slot b ob q n hb hx
 ·exact⟨ob.slots,u.keep b ob q n hb hx⟩
theorem Un.kept (k:∀ b u,h.get? b=some u→h'.get? b=some u):Un fs ex H H h h':=
 ⟨fun b ob q _ _ _=>k b ob q,fun b ob q _ _ _=>⟨ob.slots,k b ob q⟩,fun _ _ _ n _=>n,fun b ob q _=>⟨ob,k b ob q⟩,fun _ _ q=>q,fun _ _ _ q=>q,fun _ ps q=>⟨#[],by rw[q];simp⟩⟩
theorem Un.refl:Un fs ex H H h h:=Un.kept fun _ _ q=>q
theorem Un.laid (k:∀ b u,h.get? b=some u→h'.get? b=some u) (hp:h.objs.size≤a) (hn:H a=none):Un fs ex H (upd H a o) h h' where
 keep:=fun b u q _ _ _=>k b u q
 slot:=fun b u q _ _ _=>⟨u.slots,k b u q⟩
 free:=fun b u q n _=>by rw[aO (Nat.ne_of_lt (Nat.lt_of_lt_of_le (Heap.lt_size q) hp))];exact n
 there:=fun b u q _=>⟨u,k b u q⟩
 tups:=fun b xs q=>by rw[aO (aP q hn)];exact q
 frzs:=fun b u xs q=>by rw[aO (aP q hn)];exact q
 tbls:=fun b ps q=>⟨#[],by rw[aO (aP q hn),q];simp⟩
theorem Un.write (mu:Mut (H x)) (he:e=x∨H e=some (.own x)) (k:∀ b u,b≠e→h.get? b=some u→h'.get? b=some u) (heo:∃ u,h'.get? e=some u):Un fs ex H (upd H x o) h h':=by
 have hx:∀ b,H b=none→b≠x:=fun b n z=>by subst z;rw[n] at mu;exact mu
 have hb:∀ b,H b=none→b≠e:=fun b n z=>by
  subst z
  rcases he with r | r
  ·exact hx b n r
  ·rw[n] at r;cases r
 have hm:∀ b u,H b=some u→¬ Mut (some u)→b≠x:=fun b u q nm z=>by subst z;rw[q] at mu;exact nm mu
 refine⟨fun b u q n _ _=>k b u (hb b n) q,fun b u q n _ _=>⟨u.slots,k b u (hb b n) q⟩,fun b u q n _=>by rw[aO (hx b n)];exact n,fun b u q _=>?_,
  fun b xs q=>by rw[aO (hm b _ q fun z=>z)];exact q,fun b u xs q=>by rw[aO (hm b _ q fun z=>z)];exact q,fun b ps q=>⟨#[],by rw[aO (hm b _ q fun z=>z),q];simp⟩⟩
 by_cases hbe:b=e
 ·subst hbe;exact heo
 ·exact⟨u,k b u hbe q⟩
end
noncomputable def trk (h:Heap) (H:Hp):List Addr:=(List.range h.objs.size).filter fun a=>(H a).isSome
noncomputable def hidT (h:Heap) (H:Hp):Heap:=PySem.W.hideAll h (trk h H)
theorem hidT_size (h:Heap) (H:Hp):(hidT h H).objs.size=h.objs.size:=PySem.W.hideAll_size _ _
theorem hidT_get {h:Heap}{H:Hp}{b:Addr}{o:Obj} (e:h.get? b=some o) (n:H b=none):(hidT h H).get? b=some o:=
 PySem.W.hideAll_get _ e fun hm=>by
  have q:(H b).isSome=true:=(List.mem_filter.mp hm).2
  rw[n] at q;simp at q
theorem of_hidT {h:Heap}{H:Hp}{b:Addr}{o:Obj} (e:(hidT h H).get? b=some o):h.get? b=some o∧H b=none:=by
 have e':h.get? b=some o:=PySem.W.of_hideAll (trk h H) e
 refine⟨e',?_⟩
 cases q:H b with
 | none=>rfl
 | some x=>
  have hm:b∈trk h H:=List.mem_filter.mpr ⟨List.mem_range.mpr (Heap.lt_size e'),by simp [q]⟩
  have z:(hidT h H).get? b=none:=PySem.W.hideAll_none (trk h H) hm
  rw[z] at e;cases e
end L2
namespace L2
open PySem PySem.Spec PyProof.Rows
structure Mod (K:PySem.W.Frag) (mg:Str→Option Value) (base:Heap):Prop where
 kin:K.In base
 glob:base.Ns mainGlobals mg
 blt:∃ mb,base.Ns builtinsNs mb∧∀ x:Str,x ≠ "__name__" → mb x=bootBuiltins x
 nolimit:base.NoLimit
structure Cx where
 prog:Program
 w:World
 K:PySem.W.Frag
 mg:Str→Option Value
 base:Heap
 A:Around
 N:List Str
 s₀:Shared
 H₀:Hp
 env:Env
 outer:List Env
 stack:List Env
 ex:List Addr
 fn:Str→Bool
 calm:Bool
 pn:List (Addr×Obj)
 xe:Value→Shared→Prop
noncomputable def frs (l:List Env):List Addr:=l.filterMap (·.frame)
noncomputable abbrev Cx.fs (X:Cx):List Addr:=frs X.outer
noncomputable def Vis (sc:Scope) (x:Str):Prop:=sc.names.lookup x=some .local∨sc.names.lookup x=some .cell∨sc.names.lookup x=some .free
noncomputable def Loc (sc:Scope) (x:Str):Prop:=sc.names.lookup x=some .local∨sc.names.lookup x=some .cell
noncomputable def Look (env:Env) (h:Heap) (m:Str→Option Value) (x:Str) (u:Value):Prop:=
 (env.kindOf x=some .local∧m x=some u)∨((env.kindOf x=some .cell∨env.kindOf x=some .free)∧∃ c,env.cells.lookup x=some c∧h.IsCell c (some u))
structure Cx.Ok (X:Cx):Prop where
 mod:Mod X.K X.mg X.base
 kind:X.env.scope.kind=.function
 glob:X.env.globals=mainGlobals
 blt:X.env.builtins=builtinsNs
 above:X.s₀.heap.objs.size≤X.env.locals
 inj:∀ x y c,X.env.cells.lookup x=some c→X.env.cells.lookup y=some c→x=y
 has:∀ x,(X.env.kindOf x=some .cell∨X.env.kindOf x=some .free)→∃ c,X.env.cells.lookup x=some c
 cab:∀ x c,X.fn x=true→X.env.cells.lookup x=some c→X.s₀.heap.objs.size≤c
 hd:X.calm=true→X.A.handled=none
 frames:X.A.frames=some X.stack
 stk:X.stack=X.outer∨(X.stack=X.env::X.outer∧X.env.frame=some X.env.locals)
 exf:∀ b∈X.ex,b≠X.env.locals∧∀ x c,X.env.cells.lookup x=some c→c≠b
 bs:∀ b o,X.base.get? b=some o→X.s₀.heap.get? b=some o∧X.H₀ b=none
 bsz:X.base.objs.size≤X.s₀.heap.objs.size
 noex:∀ b o,X.base.get? b=some o→b∉X.ex
 exfs:∀ b∈X.ex,b∉X.fs
 funs:X.s₀.heap.FunFrames X.base X.outer
 frf:∀ b∈X.fs,X.H₀ b=none
structure Inv (X:Cx) (pins:List (Addr×Obj)) (σ:List (Option V)) (H:Hp) (s:Shared):Prop where
 ok:X.Ok
 os:s.os=X.s₀.os
 bare:AllBare s.gens
 base:Un X.fs X.ex X.H₀ H X.s₀.heap s.heap
 loc:∃ m,s.heap.Ns X.env.locals m∧∀ (i:Nat) (x:Str) (v:V),X.N[i]? = some x→σ[i]? = some (some v)→Vis X.env.scope x→∃ u,aY v u∧Look X.env s.heap m x u
 cell:∀ x c,X.env.cells.lookup x=some c→∃ v,s.heap.IsCell c v
 free:H X.env.locals=none
 freeC:∀ x c,X.env.cells.lookup x=some c→H c=none
 pin:∀ p∈X.pn++pins,s.heap.get? p.1=some p.2∧H p.1=none∧p.1≠X.env.locals∧p.1∉X.fs∧∀ v,p.2.data≠.cell v
 hok:HOk X.prog X.w H s.heap
 len:σ.length=X.N.length
section
variable {X:Cx}{pins:List (Addr×Obj)}{σ:List (Option V)}{H H':Hp}{s:Shared}{h':Heap}
theorem Cx.Ok.nofr (ok:X.Ok) {b:Addr}{o:Obj} (e:X.base.get? b=some o):b∉X.fs:=fun hb=>by
 have:=(ok.funs.mem hb).1
 rw[e] at this;cases this
theorem Inv.bs (I:Inv X pins σ H s):∀ b o,X.base.get? b=some o→s.heap.get? b=some o∧H b=none:=fun b o e=>
 ⟨I.base.keep b o (I.ok.bs b o e).1 (I.ok.bs b o e).2 (I.ok.nofr e) (I.ok.noex b o e),I.base.free b o (I.ok.bs b o e).1 (I.ok.bs b o e).2 (I.ok.noex b o e)⟩
theorem Inv.bk (I:Inv X pins σ H s):∀ b o,X.base.get? b=some o→s.heap.get? b=some o:=fun b o e=>(I.bs b o e).1
theorem Inv.mod (I:Inv X pins σ H s):Mod X.K X.mg X.base:=I.ok.mod
theorem Inv.kIn (I:Inv X pins σ H s):X.K.In s.heap:=I.ok.mod.kin.keeps I.bk
theorem Inv.lt (I:Inv X pins σ H s):X.env.locals < s.heap.objs.size:=let ⟨_,hn,_⟩:=I.loc;hn.lt
theorem Inv.sz (I:Inv X pins σ H s):X.s₀.heap.objs.size≤s.heap.objs.size:=Nat.le_trans I.ok.above (Nat.le_of_lt I.lt)
theorem Inv.nofs (I:Inv X pins σ H s) {a:Addr} (h:s.heap.objs.size≤a):a∉X.fs:=fun hb=>by
 obtain⟨_,o,ho,_⟩:=I.ok.funs.mem hb
 exact absurd (Nat.lt_of_lt_of_le (Heap.lt_size ho) (Nat.le_trans I.sz h)) (Nat.lt_irrefl _)
theorem Inv.cne (I:Inv X pins σ H s):∀ x c,X.env.cells.lookup x=some c→c≠X.env.locals:=fun x c e z=>by
 obtain⟨v,o,ho,hd⟩:=I.cell x c e
 obtain⟨m,⟨o',es,ep,ho',hd',_⟩,_⟩:=I.loc
 rw[z,ho'] at ho;cases ho;rw[hd'] at hd;cases hd
theorem Inv.funs (I:Inv X pins σ H s):s.heap.FunFrames X.base X.outer:=by
 have all:∀ (l:List Env),(∀ b∈frs l,b∈X.fs)→X.s₀.heap.FunFrames X.base l→s.heap.FunFrames X.base l:=by
  intro l
  induction l with
  | nil=>intro _ _;trivial
  | cons env r ih=>
   intro hs hl
   obtain⟨hk,⟨L,o,hf,hn,ho,hd⟩,hr⟩:=hl
   have hL:L∈X.fs:=hs L (by unfold frs;rw[List.filterMap_cons,hf];exact List.mem_cons_self)
   obtain⟨sl,e⟩:=I.base.slot L o ho (I.ok.frf L hL) hL fun z=>I.ok.exfs L z hL
   exact⟨hk,⟨L,_,hf,hn,e,hd⟩,ih (fun b hb=>hs b (by unfold frs;rw[List.filterMap_cons,hf];exact List.mem_cons_of_mem _ hb)) hr⟩
 exact all X.outer (fun _ hb=>hb) I.ok.funs
theorem Inv.stack (I:Inv X pins σ H s):s.heap.FunFrames X.base X.stack:=by
 rcases I.ok.stk with e | ⟨e,hf⟩
 ·rw[e];exact I.funs
 ·rw[e]
  obtain⟨m,hn,_⟩:=I.loc
  refine .cons (by rw[I.ok.kind];decide) hf hn ?_ I.funs
  exact Heap.get?_none_of_le (Nat.le_trans I.ok.bsz I.ok.above)
theorem Inv.stkSub (I:Inv X pins σ H s):∀ b∈frs X.stack,b∈X.env.locals::X.fs:=fun b hb=>by
 rcases I.ok.stk with e | ⟨e,hf⟩
 ·rw[e] at hb;exact List.mem_cons_of_mem _ hb
 ·rw[e] at hb
  unfold frs at hb
  rw[List.filterMap_cons,hf] at hb
  exact hb
theorem Inv.stkFree (I:Inv X pins σ H s):∀ b∈frs X.stack,H b=none:=fun b hb=>by
 rcases List.mem_cons.mp (I.stkSub b hb) with e | hb
 ·rw[e];exact I.free
 ·obtain⟨_,o,ho,_⟩:=I.ok.funs.mem hb
  exact I.base.free b o ho (I.ok.frf b hb) fun z=>I.ok.exfs b z hb
theorem Inv.step {g':Array GenState}{t':Nat}{d':Drawn}{ch:List Addr} (I:Inv X pins σ H s)
  (hch:∀ b∈ch,(b∈X.ex∨X.s₀.heap.objs.size≤b)∧b≠X.env.locals∧(∀ x c,X.env.cells.lookup x=some c→c≠b)∧∀ p∈X.pn++pins,p.1≠b)
  (keep:∀ b o,b≠X.env.locals→b∉X.fs→b∉ch→s.heap.get? b=some o→H b=none→h'.get? b=some o)
  (slot:∀ b o,b≠X.env.locals→b∈X.fs→b∉ch→s.heap.get? b=some o→H b=none→∃ sl,h'.get? b=some { o with slots:=sl }) (free:∀ b o,b∉ch→s.heap.get? b=some o→H b=none→H' b=none)
  (there:∀ b o,b∉ch→s.heap.get? b=some o→∃ o',h'.get? b=some o')
  (tups:∀ b xs,H b=some (.tup xs)→H' b=some (.tup xs)) (frzs:∀ b o u,H b=some (.frz o u)→H' b=some (.frz o u)) (tbls:∀ b ps,H b=some (.tbl ps)→∃ more,H' b=some (.tbl (ps++more)))
  (ns:∀ m,s.heap.Ns X.env.locals m→h'.Ns X.env.locals m) (hok:HOk X.prog X.w H' h') (hg:AllBare g') :
  Inv X pins σ H' { s with heap:=h',gens:=g',drawn:=d',toks:=t' }:=by
 have neL:∀ b o,X.s₀.heap.get? b=some o→b≠X.env.locals:=fun b o e=>Nat.ne_of_lt (Nat.lt_of_lt_of_le (Heap.lt_size e) I.ok.above)
 have neC:∀ b o,X.s₀.heap.get? b=some o→b∉X.ex→b∉ch:=fun b o e hx hb=>by
  rcases (hch b hb).1 with z | z
  ·exact hx z
  ·exact absurd (Nat.lt_of_lt_of_le (Heap.lt_size e) z) (Nat.lt_irrefl _)
 have cellK:∀ x c,X.env.cells.lookup x=some c→∀ v,s.heap.IsCell c v→h'.IsCell c v:=fun x c e v ⟨o,ho,hd⟩=>by
  have nch:c∉ch:=fun z=>(hch c z).2.2.1 x c e rfl
  by_cases hc:c∈X.fs
  ·obtain⟨sl,q⟩:=slot c o (I.cne x c e) hc nch ho (I.freeC x c e)
   exact⟨_,q,hd⟩
  ·exact⟨o,keep c o (I.cne x c e) hc nch ho (I.freeC x c e),hd⟩
 refine⟨I.ok,I.os,hg,⟨fun b o e n hb hx=>?_,fun b o e n hb hx=>?_,fun b o e n hx=>?_,fun b o e hx=>?_,fun b xs e=>tups b xs (I.base.tups b xs e),fun b o xs e=>frzs b o xs (I.base.frzs b o xs e),fun b ps e=>?_⟩,?_,fun x c e=>?_,?_,fun x c e=>?_,fun p hp=>?_,hok,I.len⟩
 ·exact keep b o (neL b o e) hb (neC b o e hx) (I.base.keep b o e n hb hx) (I.base.free b o e n hx)
 ·obtain⟨sl,e1⟩:=I.base.slot b o e n hb hx
  obtain⟨sl',e2⟩:=slot b _ (neL b o e) hb (neC b o e hx) e1 (I.base.free b o e n hx)
  exact⟨sl',e2⟩
 ·obtain⟨o',e1⟩:=I.base.there b o e hx
  exact free b o' (neC b o e hx) e1 (I.base.free b o e n hx)
 ·obtain⟨o',e1⟩:=I.base.there b o e hx
  exact there b o' (neC b o e hx) e1
 ·obtain⟨m1,e1⟩:=I.base.tbls b ps e
  obtain⟨m2,e2⟩:=tbls b _ e1
  exact⟨m1++m2,by rw[e2,Array.append_assoc]⟩
 ·obtain⟨m,hn,hl⟩:=I.loc
  refine⟨m,ns m hn,fun i x v e1 e2 e3=>?_⟩
  obtain⟨u,r,l⟩:=hl i x v e1 e2 e3
  refine⟨u,r,?_⟩
  rcases l with l | ⟨k,c,e,z⟩
  ·exact .inl l
  ·exact .inr ⟨k,c,e,cellK x c e _ z⟩
 ·obtain⟨v,z⟩:=I.cell x c e
  exact⟨v,cellK x c e v z⟩
 ·obtain⟨m,⟨o,_,_,ho,_⟩,_⟩:=I.loc
  exact free _ o (fun z=>(hch _ z).2.1 rfl) ho I.free
 ·obtain⟨v,o,ho,hd⟩:=I.cell x c e
  exact free c o (fun z=>(hch c z).2.2.1 x c e rfl) ho (I.freeC x c e)
 ·obtain⟨e,n,ne,nf,d⟩:=I.pin p hp
  have nch:p.1∉ch:=fun z=>(hch p.1 z).2.2.2 p hp rfl
  exact⟨keep p.1 p.2 ne nf nch e n,free p.1 p.2 nch e n,ne,nf,d⟩
theorem Inv.un {t':Nat} (I:Inv X pins σ H s) (u:Un X.fs [] H H' s.heap h') (hok:HOk X.prog X.w H' h'):Inv X pins σ H' { s with heap:=h',toks:=t' }:=by
 obtain⟨m,⟨o,es,ep,ho,r⟩,_⟩:=id I.loc
 obtain⟨sl,hL⟩:=u.any ho I.free (by simp)
 exact I.step (g':=s.gens) (d':=s.drawn) (ch:=[]) (fun _ z=>nomatch z) (fun b o _ hb _ e n=>u.keep b o e n hb (by simp)) (fun b o _ hb _ e n=>u.slot b o e n hb (by simp)) (fun b o _ e n=>u.free b o e n (by simp)) (fun b o _ e=>u.there b o e (by simp)) u.tups u.frzs u.tbls (fun m' hm=>by
  obtain⟨o',es',ep',ho',r'⟩:=hm
  rw[ho] at ho';cases ho'
  exact⟨_,es',ep',hL,r'⟩) hok I.bare
theorem Inv.call {g':Array GenState}{t':Nat}{d':Drawn}{ch:List Addr} (I:Inv X pins σ H s) (u:Un (frs X.stack) ch H H' s.heap h') (hok:HOk X.prog X.w H' h') (hg:AllBare g')
  (hch:∀ b∈ch,(b∈X.ex∨X.s₀.heap.objs.size≤b)∧b≠X.env.locals∧(∀ x c,X.env.cells.lookup x=some c→c≠b)∧∀ p∈X.pn++pins,p.1≠b) :
  Inv X pins σ H' { s with heap:=h',gens:=g',drawn:=d',toks:=t' }:=by
 obtain⟨m,⟨o,es,ep,ho,r⟩,_⟩:=id I.loc
 obtain⟨sl,hL⟩:=u.any ho I.free fun z=>(hch _ z).2.1 rfl
 exact I.step (ch:=ch) hch (fun b o hL hb hc e n=>u.keep b o e n (fun z=>(List.mem_cons.mp (I.stkSub b z)).elim hL hb) hc) (fun b o _ _ hc e n=>u.any e n hc) (fun b o hc e n=>u.free b o e n hc) (fun b o hc e=>u.there b o e hc) u.tups u.frzs u.tbls (fun m' hm=>by
  obtain⟨o',es',ep',ho',r'⟩:=hm
  rw[ho] at ho';cases ho'
  exact⟨_,es',ep',hL,r'⟩) hok hg
theorem Inv.turned {t':Nat}{it:Addr} (I:Inv X pins σ H s) (k:∀ b o,b≠it→s.heap.get? b=some o→h'.get? b=some o) (hn:H it=none) (hL:it≠X.env.locals)
  (h1:it∈X.ex∨X.s₀.heap.objs.size≤it) (h2:∀ x c,X.env.cells.lookup x=some c→c≠it) (h3:∀ p∈X.pn++pins,p.1≠it):Inv X pins σ H { s with heap:=h',toks:=t' }:=by
 have nit:∀ b u,H b=some u→b≠it:=fun b u e z=>by rw[z,hn] at e;cases e
 refine I.step (g':=s.gens) (d':=s.drawn) (ch:=[it]) (fun b hb=>?_) (fun b o _ _ hc e _=>k b o (fun z=>hc (by simp [z])) e) (fun b o _ _ hc e _=>⟨o.slots,k b o (fun z=>hc (by simp [z])) e⟩) (fun _ _ _ _ n=>n)
  (fun b o hc e=>⟨o,k b o (fun z=>hc (by simp [z])) e⟩) (fun _ _ e=>e) (fun _ _ _ e=>e) (fun b ps e=>⟨#[],by rw[e];simp⟩) (fun m hm=>?_) (fun b u e=>?_) I.bare
 ·have e:b=it:=by simpa using hb
  subst e
  exact⟨h1,hL,h2,h3⟩
 ·obtain⟨o,es,ep,ho,r⟩:=hm
  exact⟨o,es,ep,k _ o (Ne.symm hL) ho,r⟩
 ·refine (I.hok b u e).stay (fun c v hc q=>k c v ?_ q) (fun _ q=>q) fun _ _ q=>q
  rcases hc with z | z
  ·rw[z];exact nit b u e
  ·exact nit c _ z
theorem Inv.tok (I:Inv X pins σ H s) (t:Nat):Inv X pins σ H { s with toks:=t }:=I.un (h':=s.heap) (t':=t) Un.refl I.hok
theorem Inv.kept {t':Nat} (I:Inv X pins σ H s) (k:∀ b u,s.heap.get? b=some u→h'.get? b=some u):Inv X pins σ H { s with heap:=h',toks:=t' }:=I.un (Un.kept k) (I.hok.kept k)
theorem Inv.laid {a:Addr}{o:HO}{t':Nat} (I:Inv X pins σ H s) (k:∀ b u,s.heap.get? b=some u→h'.get? b=some u) (hp:s.heap.objs.size≤a) (new:cB X.prog X.w (upd H a o) h' a o) :
  Inv X pins σ (upd H a o) { s with heap:=h',toks:=t' }:=I.un (Un.laid k hp (I.hok.fresh hp)) (I.hok.laid k hp new)
theorem Inv.write {x e:Addr}{o:HO}{t':Nat} (I:Inv X pins σ H s) (mu:Mut (H x)) (he:e=x∨H e=some (.own x)) (k:∀ b u,b≠e→s.heap.get? b=some u→h'.get? b=some u) (heo:∃ u,h'.get? e=some u)
  (new:cB X.prog X.w (upd H x o) h' x o):Inv X pins σ (upd H x o) { s with heap:=h',toks:=t' }:=I.un (Un.write mu he k heo) (I.hok.write mu he k heo new)
theorem Inv.pins_of {pins':List (Addr×Obj)} (I:Inv X pins σ H s) (h:∀ p∈pins',s.heap.get? p.1=some p.2∧H p.1=none∧p.1≠X.env.locals∧p.1∉X.fs∧∀ v,p.2.data≠.cell v):Inv X pins' σ H s:=
 ⟨I.ok,I.os,I.bare,I.base,I.loc,I.cell,I.free,I.freeC,fun p hp=>(List.mem_append.mp hp).elim (fun z=>I.pin p (List.mem_append_left _ z)) (h p),I.hok,I.len⟩
theorem nodup_ix {N:List Str} (hN:N.Nodup) {i j:Nat}{x:Str} (a:N[i]? = some x) (b:N[j]? = some x):i=j:=by
 obtain⟨h1,e1⟩:=List.getElem?_eq_some_iff.mp a
 obtain⟨h2,e2⟩:=List.getElem?_eq_some_iff.mp b
 exact (List.getElem_inj hN).mp (e1.trans e2.symm)
theorem store_ok2 {M:Model}{A:Around}{E:Value→Shared→Prop}{i:Nat}{x:Str}{v:V}{u:Value}{Q:Unit→Shared→Prop} (I:Inv X pins σ H s) (hN:X.N.Nodup) (hi:X.N[i]? = some x) (hx:Loc X.env.scope x) (r:aY v u)
  (h:∀ s',Inv X pins (σ.set i (some v)) H s'→(∃ a,Heap.SameBut a s.heap s'.heap∧(a=X.env.locals∨X.env.cells.lookup x=some a))→Q () s') (hf:X.fn x=true∨X.env.scope.names.lookup x=some .local:=by first | exact .inl rfl | exact .inr rfl | assumption):wpAny M A (storeName X.env x u) Q E s:=by
 obtain⟨m,hn,hl⟩:=id I.loc
 have hcls:(X.env.scope.kind == .class || (X.env.scope.kind == .module && X.env.locals != X.env.globals))=false:=by rw[I.ok.kind];rfl
 have hiσ:i < σ.length:=by rw[I.len];exact (List.getElem?_eq_some_iff.mp hi).1
 have cne:=I.cne
 have tracked:∀ {a:Addr}{h':Heap},(∃ o,s.heap.get? a=some o∧H a=none)→Heap.SameBut a s.heap h'→HOk X.prog X.w H h':=fun {a h'} ha hs b ob e=>by
  obtain⟨_,_,hfree⟩:=ha
  refine (I.hok b ob e).stay (fun c w' hc q=>(hs.2 c ?_).trans q) (fun _ q=>q) fun _ _ q=>q
  rintro rfl
  rcases hc with rfl | hc
  ·rw[hfree] at e;cases e
  ·rw[hfree] at hc;cases hc
 rcases hx with hk | hk
 ·refine wpAny_storeName_local hk hn (fun h' hn' hs=>?_) hcls
  obtain⟨oL,_,_,hoL,_⟩:=id hn
  refine h _ ⟨I.ok,I.os,I.bare,⟨fun b o e n hb hx=>?_,fun b o e n hb hx=>?_,I.base.free,fun b o e hx=>?_,I.base.tups,I.base.frzs,I.base.tbls⟩,⟨_,hn',fun j y v' e1 e2 e3=>?_⟩,fun y c e=>?_,I.free,I.freeC,fun p hp=>?_,tracked ⟨oL,hoL,I.free⟩ hs,by simpa using I.len⟩ ⟨_,hs,.inl rfl⟩
  ·exact (hs.2 b (Nat.ne_of_lt (Nat.lt_of_lt_of_le (Heap.lt_size e) I.ok.above))).trans (I.base.keep b o e n hb hx)
  ·obtain⟨sl,e1⟩:=I.base.slot b o e n hb hx
   exact⟨sl,(hs.2 b (Nat.ne_of_lt (Nat.lt_of_lt_of_le (Heap.lt_size e) I.ok.above))).trans e1⟩
  ·obtain⟨o',e1⟩:=I.base.there b o e hx
   exact⟨o',(hs.2 b (Nat.ne_of_lt (Nat.lt_of_lt_of_le (Heap.lt_size e) I.ok.above))).trans e1⟩
  ·by_cases hj:j=i
   ·subst hj
    rw[hi] at e1;cases e1
    rw[List.getElem?_set_self hiσ] at e2
    cases e2
    exact⟨u,r,.inl ⟨hk,by simp⟩⟩
   ·rw[List.getElem?_set_ne (Ne.symm hj)] at e2
    obtain⟨u',r',q⟩:=hl j y v' e1 e2 e3
    refine⟨u',r',?_⟩
    rcases q with ⟨k,e⟩ | ⟨k,c,e,z⟩
    ·refine .inl ⟨k,?_⟩
     have:y≠x:=fun e=>hj (nodup_ix hN e1 (e ▸ hi))
     simp [this,e]
    ·exact .inr ⟨k,c,e,z.sameBut hs (cne y c e)⟩
  ·obtain⟨w',z⟩:=I.cell y c e
   exact⟨w',z.sameBut hs (cne y c e)⟩
  ·obtain⟨e,n,ne,nf,d⟩:=I.pin p hp
   exact⟨(hs.2 p.1 ne).trans e,n,ne,nf,d⟩
 ·have hfn:X.fn x=true:=by
   rcases hf with z | z
   ·exact z
   ·rw[z] at hk;cases hk
  obtain⟨c,hc⟩:=I.ok.has x (.inl hk)
  obtain⟨w',z⟩:=I.cell x c hc
  refine wpAny_storeName_cell I.ok.kind hk hc z (fun h' hc' hs=>?_)
  obtain⟨oc,hoc,hocd⟩:=id z
  refine h { s with heap:=h' } ⟨I.ok,I.os,I.bare,⟨fun b o e n hb hx=>?_,fun b o e n hb hx=>?_,I.base.free,fun b o e hx=>?_,I.base.tups,I.base.frzs,I.base.tbls⟩,⟨m,hn.sameBut hs (Ne.symm (cne x c hc)),fun j y v' e1 e2 e3=>?_⟩,fun y c' e=>?_,I.free,I.freeC,fun p hp=>?_,tracked ⟨oc,hoc,I.freeC x c hc⟩ hs,by simpa using I.len⟩ ⟨c,hs,.inr hc⟩
  ·exact (hs.2 b (Nat.ne_of_lt (Nat.lt_of_lt_of_le (Heap.lt_size e) (I.ok.cab x c hfn hc)))).trans (I.base.keep b o e n hb hx)
  ·obtain⟨sl,e1⟩:=I.base.slot b o e n hb hx
   exact⟨sl,(hs.2 b (Nat.ne_of_lt (Nat.lt_of_lt_of_le (Heap.lt_size e) (I.ok.cab x c hfn hc)))).trans e1⟩
  ·obtain⟨o',e1⟩:=I.base.there b o e hx
   exact⟨o',(hs.2 b (Nat.ne_of_lt (Nat.lt_of_lt_of_le (Heap.lt_size e) (I.ok.cab x c hfn hc)))).trans e1⟩
  ·by_cases hj:j=i
   ·subst hj
    rw[hi] at e1;cases e1
    rw[List.getElem?_set_self hiσ] at e2
    cases e2
    exact⟨u,r,.inr ⟨.inl hk,c,hc,hc'⟩⟩
   ·rw[List.getElem?_set_ne (Ne.symm hj)] at e2
    obtain⟨u',r',q⟩:=hl j y v' e1 e2 e3
    refine⟨u',r',?_⟩
    rcases q with q | ⟨k,c',e,z'⟩
    ·exact .inl q
    ·refine .inr ⟨k,c',e,z'.sameBut hs ?_⟩
     rintro rfl
     exact hj (nodup_ix hN e1 (I.ok.inj _ _ _ e hc ▸ hi))
  ·by_cases hcc:c'=c
   ·subst hcc;exact⟨_,hc'⟩
   ·obtain⟨w2,z2⟩:=I.cell y c' e
    exact⟨w2,z2.sameBut hs hcc⟩
  ·obtain⟨e,n,ne,nf,d⟩:=I.pin p hp
   refine⟨(hs.2 p.1 ?_).trans e,n,ne,nf,d⟩
   intro q
   rw[q,hoc] at e
   have q':oc=p.2:=Option.some.inj e
   exact d w' (by rw[← q'];exact hocd)
theorem store_ok {M:Model}{A:Around}{E:Value→Shared→Prop}{i:Nat}{x:Str}{v:V}{u:Value}{Q:Unit→Shared→Prop} (I:Inv X pins σ H s) (hN:X.N.Nodup) (hi:X.N[i]? = some x) (hx:Loc X.env.scope x) (r:aY v u)
  (h:∀ s',Inv X pins (σ.set i (some v)) H s'→Q () s') (hf:X.fn x=true∨X.env.scope.names.lookup x=some .local:=by first | exact .inl rfl | exact .inr rfl | assumption):wpAny M A (storeName X.env x u) Q E s:=
 store_ok2 I hN hi hx r (fun s' I' _=>h s' I') hf
theorem Inv.call' {s':Shared}{ch:List Addr} (I:Inv X pins σ H s) (ho:s'.os=s.os) (u:Un (frs X.stack) ch H H' s.heap s'.heap) (hok:HOk X.prog X.w H' s'.heap) (hg:AllBare s'.gens)
  (hch:∀ b∈ch,(b∈X.ex∨X.s₀.heap.objs.size≤b)∧b≠X.env.locals∧(∀ x c,X.env.cells.lookup x=some c→c≠b)∧∀ p∈X.pn++pins,p.1≠b):Inv X pins σ H' s':=by
 obtain⟨h',g',d',t',o'⟩:=s'
 have e:o'=s.os:=ho
 subst e
 exact I.call (g':=g') (t':=t') (d':=d') u hok hg hch
end
noncomputable abbrev XK:=Value→Option Addr→Hp→Prop
noncomputable abbrev St:=List (Option V)
noncomputable abbrev VK:=V→Hp→Prop
noncomputable abbrev TE:=St→Hp→VK→Prop
noncomputable abbrev TT:=St→Hp→(Bool→Hp→Prop)→Prop
noncomputable abbrev TA:=St→Hp→(List V→Hp→Prop)→Prop
structure Ends where
 nx:St→Hp→Prop
 rt:VK
 bk:St→Hp→Prop:=fun _ _=>False
 ct:St→Hp→Prop:=fun _ _=>False
noncomputable abbrev TS:=Ends→St→Hp→Prop
noncomputable def EP (X:Cx) (pins:List (Addr×Obj)) (σ:St) (Q:VK) (u:Value) (s':Shared):Prop:=∃ v H',Inv X pins σ H' s'∧aY v u∧Q v H'
noncomputable def TP (X:Cx) (pins:List (Addr×Obj)) (σ:St) (Q:Bool→Hp→Prop) (b:Bool) (s':Shared):Prop:=∃ H',Inv X pins σ H' s'∧Q b H'
noncomputable def AP (X:Cx) (pins:List (Addr×Obj)) (σ:St) (Q:List V→Hp→Prop) (us:List Value) (s':Shared):Prop:=∃ vs H',Inv X pins σ H' s'∧b0 vs us∧Q vs H'
noncomputable def SP (X:Cx) (pins:List (Addr×Obj)) (D:Ends) (f:Flow) (s':Shared):Prop:=
 match f with
 | .next=>∃ σ' H',Inv X pins σ' H' s'∧D.nx σ' H'
 | .brk=>∃ σ' H',Inv X pins σ' H' s'∧D.bk σ' H'
 | .cont=>∃ σ' H',Inv X pins σ' H' s'∧D.ct σ' H'
 | .ret u=>∃ v σ' H',Inv X pins σ' H' s'∧aY v u∧D.rt v H'
noncomputable def PE (X:Cx) (e:Expr) (t:TE):Prop:=
 ∀ (pins:List (Addr×Obj)) (s:Shared) (σ:St) (H:Hp) (Q:VK),Inv X pins σ H s→t σ H Q→wpAny (model X.prog X.w) X.A (eval e X.env) (EP X pins σ Q) X.xe s
noncomputable def PT (X:Cx) (e:Expr) (t:TT):Prop:=
 ∀ (pins:List (Addr×Obj)) (s:Shared) (σ:St) (H:Hp) (Q:Bool→Hp→Prop),Inv X pins σ H s→t σ H Q→wpAny (model X.prog X.w) X.A (isTrue e X.env (eval e X.env)) (TP X pins σ Q) X.xe s
noncomputable def PW (X:Cx) (e:Expr) (t:TT):Prop:=
 ∀ (whole:Sem Value) (pins:List (Addr×Obj)) (s:Shared) (σ:St) (H:Hp) (Q:Bool→Hp→Prop),Inv X pins σ H s→t σ H Q→wpAny (model X.prog X.w) X.A (isTrue e X.env whole) (TP X pins σ Q) X.xe s
theorem PW.pt {X:Cx}{e:Expr}{t:TT} (h:PW X e t):PT X e t:=h _
noncomputable def PA (X:Cx) (es:List Expr) (t:TA):Prop:=
 ∀ (pos:Pos) (pins:List (Addr×Obj)) (s:Shared) (σ:St) (H:Hp) (Q:List V→Hp→Prop),Inv X pins σ H s→t σ H Q→wpAny (model X.prog X.w) X.A (spliced (backTo pos (starEach es X.env))) (AP X pins σ Q) X.xe s
noncomputable def PS (X:Cx) (st:Stmt) (t:TS):Prop:=
 ∀ (pins:List (Addr×Obj)) (s:Shared) (σ:St) (H:Hp) (D:Ends),Inv X pins σ H s→t D σ H→wpAny (model X.prog X.w) X.A (exec st X.env) (SP X pins D) X.xe s
noncomputable def PSs (X:Cx) (st:List Stmt) (t:TS):Prop:=
 ∀ (pins:List (Addr×Obj)) (s:Shared) (σ:St) (H:Hp) (D:Ends),Inv X pins σ H s→t D σ H→wpAny (model X.prog X.w) X.A (execs st X.env) (SP X pins D) X.xe s
theorem cM {α:Type}{t:Sem α}{Q Q':α→Shared→Prop}{M:Model}{A:Around}{E:Value→Shared→Prop}{s:Shared} (h:wpAny M A t Q E s) (hQ:∀ a s,Q a s→Q' a s):wpAny M A t Q' E s:=wpAny_mono h hQ fun _ _ x=>x
end L2
namespace L2
open PySem PySem.Spec PyProof.Rows
section
variable {X:Cx}
noncomputable def tVar (i:Nat):TE:=fun σ H Q=>∃ v,σ[i]? = some (some v)∧Q v H
noncomputable def tC (v:V):TE:=fun _ H Q=>Q v H
theorem pe_var {i:Nat}{x:Str}{pos:Pos} (hN:X.N[i]? = some x) (hv:Vis X.env.scope x) (hd:(x == ("__debug__" : Str))=false:=by decide) (hcd:(x == ("__classdict__" : Str))=false:=by decide):PE X (.Name x pos) (tVar i):=by
 intro pins s σ H Q I h
 obtain⟨v,e,h⟩:=h
 obtain⟨m,hn,hl⟩:=I.loc
 obtain⟨u,r,l⟩:=hl i x v hN e hv
 have fin:EP X pins σ Q u s:=⟨v,H,I,r,h⟩
 rcases l with ⟨hk,hm⟩ | ⟨hk,c,hc,hcell⟩
 ·exact wpAny_Name (wpAny_loadName_local I.ok.kind hk hn hm fin) hd
 ·rcases hk with hk | hk
  ·exact wpAny_Name (wpAny_loadName_cell I.ok.kind hk hc hcell fin) hd
  ·exact wpAny_Name (wpAny_loadName_free I.ok.kind hk hc hcell fin hcd) hd
theorem aD {i j pos}:PE X (.Constant (.int i) j pos) (tC (.int i)):=fun _ _ _ H _ I h=>wpAny_Constant_int ⟨.int i,H,I.tok _,⟨_,rfl⟩,h⟩
theorem bT {b j pos}:PE X (.Constant (.bool b) j pos) (tC (.bl b)):=fun _ _ _ H _ I h=>Constant_bool ⟨.bl b,H,I,rfl,h⟩
theorem pe_non {j pos}:PE X (.Constant .none j pos) (tC .non):=fun _ _ _ H _ I h=>Constant_none ⟨.non,H,I,rfl,h⟩
theorem pe_str {x j pos}:PE X (.Constant (.str x) j pos) (tC (.str x)):=fun _ _ _ H _ I h=>Calls.Constant_str ⟨.str x,H,I.tok _,⟨_,rfl⟩,h⟩
noncomputable def Gl (X:Cx) (x:Str):Prop:=X.env.kindOf x=some .globalImplicit
theorem ld_glob {E:Value→Shared→Prop}{pins:List (Addr×Obj)}{s:Shared}{σ:St}{H:Hp}{x:Str}{u:Value}{pos:Pos}{Q:Value→Shared→Prop} (I:Inv X pins σ H s) (hg:Gl X x) (hm:X.mg x=some u) (h:Q u s)
  (hd:(x == ("__debug__" : Str))=false:=by decide):wpAny (model X.prog X.w) X.A (eval (.Name x pos) X.env) Q E s:=
 Calls.Name_function_global I.ok.kind hg (Calls.loadGlobal_global (by rw[I.ok.glob];exact I.mod.glob.keeps I.bk) hm h) hd
theorem ld_blt {E:Value→Shared→Prop}{pins:List (Addr×Obj)}{s:Shared}{σ:St}{H:Hp}{x:Str}{u:Value}{pos:Pos}{Q:Value→Shared→Prop} (I:Inv X pins σ H s) (hg:Gl X x) (hm:X.mg x=none) (hv:bootBuiltins x=some u) (h:Q u s)
  (hn:x ≠ "__name__" := by decide) (hd:(x == ("__debug__" : Str))=false:=by decide):wpAny (model X.prog X.w) X.A (eval (.Name x pos) X.env) Q E s:=by
 obtain⟨mb,h1,h2⟩:=I.mod.blt
 exact Calls.Name_function_global I.ok.kind hg (Calls.loadGlobal_builtin (by rw[I.ok.glob];exact I.mod.glob.keeps I.bk) hm (by rw[I.ok.blt];exact h1.keeps I.bk) ((h2 x hn).trans hv) h) hd
theorem pe_glob {x:Str}{v:V}{u:Value}{pos:Pos} (hg:Gl X x) (hm:X.mg x=some u) (r:aY v u) (hd:(x == ("__debug__" : Str))=false:=by decide):PE X (.Name x pos) (tC v):=
 fun _ _ _ H _ I h=>ld_glob I hg hm ⟨v,H,I,r,h⟩ hd
theorem bZ {x:Str}{v:V}{u:Value}{pos:Pos} (hg:Gl X x) (hm:X.mg x=none) (hv:bootBuiltins x=some u) (r:aY v u) (hn:x ≠ "__name__" := by decide) (hd:(x == ("__debug__" : Str))=false:=by decide):PE X (.Name x pos) (tC v):=
 fun _ _ _ H _ I h=>ld_blt I hg hm hv ⟨v,H,I,r,h⟩ hn hd
variable {a b:Expr}{ta tb:TE}{pos:Pos}
noncomputable def tB (t:TE):TT:=fun σ H Q=>t σ H fun x H1=>∃ c,x=.bl c∧Q c H1
theorem b7 {e:Expr}{t:TE} (h:PE X e t) (he:∀ whole,isTrue e X.env whole=(do let v ← whole;standAt e.pos;holding [v] (truthy v)):=by intro _;rfl):PT X e (tB t):=by
 intro pins s σ H Q I hw
 refine isTrue_plain (cM (h pins s σ H _ I hw) fun v s1 ⟨x,H1,I1,r1,q1⟩=>?_) (he _)
 obtain⟨d,rfl,q⟩:=q1
 cases r1
 exact wpAny_truthy_bool ⟨H1,I1,q⟩
variable {tA tB':TT}{rest:List Expr}
noncomputable def tAnd (t u:TT):TT:=fun σ H Q=>t σ H fun c H1=>if c=true then u σ H1 Q else Q false H1
noncomputable def tOr (t u:TT):TT:=fun σ H Q=>t σ H fun c H1=>if c=true then Q true H1 else u σ H1 Q
noncomputable def tNot (t:TT):TT:=fun σ H Q=>t σ H fun c H1=>Q (!c) H1
theorem pw_and1 (ha:PT X a tA):PW X (.BoolOp .And [a] pos) tA:=by
 intro wh pins s σ H Q I h
 refine isTrue_and (cM (ha pins s σ H Q I h) fun c s1 e=>?_)
 cases c with
 | true=>exact isTrue_and_nil e
 | false=>exact e
theorem cR (ha:PT X a tA):PW X (.BoolOp .Or [a] pos) tA:=by
 intro wh pins s σ H Q I h
 refine isTrue_or (cM (ha pins s σ H Q I h) fun c s1 e=>?_)
 cases c with
 | false=>exact isTrue_or_nil e
 | true=>exact e
theorem pw_and (ha:PT X a tA) (hb:PW X (.BoolOp .And (b::rest) pos) tB'):PW X (.BoolOp .And (a::b::rest) pos) (tAnd tA tB'):=by
 intro wh pins s σ H Q I h
 refine isTrue_and (cM (ha pins s σ H _ I h) fun c s1 ⟨H1,I1,q1⟩=>?_)
 cases c with
 | true=>exact hb wh pins s1 σ H1 Q I1 q1
 | false=>exact⟨H1,I1,q1⟩
theorem cW (ha:PT X a tA) (hb:PW X (.BoolOp .Or (b::rest) pos) tB'):PW X (.BoolOp .Or (a::b::rest) pos) (tOr tA tB'):=by
 intro wh pins s σ H Q I h
 refine isTrue_or (cM (ha pins s σ H _ I h) fun c s1 ⟨H1,I1,q1⟩=>?_)
 cases c with
 | true=>exact⟨H1,I1,q1⟩
 | false=>exact hb wh pins s1 σ H1 Q I1 q1
theorem aZ (ha:PT X a tA):PT X (.UnaryOp .Not a pos) (tNot tA):=by
 intro pins s σ H Q I h
 exact isTrue_not (ha pins s σ H (fun c H1=>Q (!c) H1) I h)
noncomputable def tAndV (ta tb:TE):TE:=fun σ H Q=>ta σ H fun x H1=>∃ c,x=.bl c∧if c=true then tb σ H1 Q else Q (.bl false) H1
noncomputable def tOrV (ta tb:TE):TE:=fun σ H Q=>ta σ H fun x H1=>∃ c,x=.bl c∧if c=true then Q (.bl true) H1 else tb σ H1 Q
noncomputable def tNotV (ta:TE):TE:=fun σ H Q=>ta σ H fun x H1=>∃ c,x=.bl c∧Q (.bl (!c)) H1
theorem pe_one {op}{t:TE} (h:PE X a t):PE X (.BoolOp op [a] pos) t:=fun pins s σ H Q I hw=>BoolOp_one (h pins s σ H Q I hw)
theorem pe_and (ha:PE X a ta) (hb:PE X (.BoolOp .And (b::rest) pos) tb):PE X (.BoolOp .And (a::b::rest) pos) (tAndV ta tb):=by
 intro pins s σ H Q I h
 refine BoolOp_and (cM (ha pins s σ H _ I h) fun v s1 ⟨x,H1,I1,r1,q1⟩=>?_)
 obtain⟨c,rfl,q1⟩:=q1
 cases r1
 refine wpAny_truthy_bool ?_
 cases c with
 | true=>exact hb pins s1 σ H1 Q I1 q1
 | false=>exact⟨.bl false,H1,I1,rfl,q1⟩
theorem pe_or (ha:PE X a ta) (hb:PE X (.BoolOp .Or (b::rest) pos) tb):PE X (.BoolOp .Or (a::b::rest) pos) (tOrV ta tb):=by
 intro pins s σ H Q I h
 refine BoolOp_or (cM (ha pins s σ H _ I h) fun v s1 ⟨x,H1,I1,r1,q1⟩=>?_)
 obtain⟨c,rfl,q1⟩:=q1
 cases r1
 refine wpAny_truthy_bool ?_
 cases c with
 | false=>exact hb pins s1 σ H1 Q I1 q1
 | true=>exact⟨.bl true,H1,I1,rfl,q1⟩
theorem pe_not (ha:PE X a ta):PE X (.UnaryOp .Not a pos) (tNotV ta):=by
 intro pins s σ H Q I h
 refine UnaryOp_ (cM (ha pins s σ H _ I h) fun v s1 ⟨x,H1,I1,r1,q1⟩=>?_)
 obtain⟨c,rfl,q1⟩:=q1
 cases r1
 exact not_of (wpAny_truthy_bool ⟨.bl (!c),H1,I1,rfl,q1⟩)
end
end L2
namespace L2
open PySem PySem.Spec PyProof.Rows
noncomputable def bX (K:PySem.W.Frag) (H:Hp) (a:Addr) (xs:List V):Prop:=
 Rd H a (.lst xs)∨
  ∃ (o:Obj) (its:Array Value) (n:Nat),K.lookup a=some o∧o.cls=.type "list" ∧ o.dict=none∧o.data=.seq its n∧its.size≤sizeLine∧b0 xs its.toList
noncomputable def bL (K:PySem.W.Frag) (H:Hp) (a:Addr) (xs:List V):Prop:=
 Rd H a (.tup xs)∨
  ∃ (o:Obj) (its:Array Value) (n:Nat),K.lookup a=some o∧o.cls=.type "tuple" ∧ o.data=.seq its n∧its.size≤sizeLine∧b0 xs its.toList
noncomputable def absV:Value→Option V
 | .none=>some .non
 | .bool b=>some (.bl b)
 | .int i _=>some (.int i)
 | .str x _=>some (.str x)
 | .bytes b _=>some (.byt b)
 | .float b _=>some (.flt b)
 | .ref a=>some (.ref a)
 | .type n=>some (.ty n)
 | _=>none
theorem aY.abs {x:V}{u:Value} (r:aY x u):absV u=some x:=by
 cases x with
 | non=>cases r;rfl
 | bl _=>cases r;rfl
 | int _=>obtain⟨t,rfl⟩:=r;rfl
 | str _=>obtain⟨t,rfl⟩:=r;rfl
 | byt _=>obtain⟨t,rfl⟩:=r;rfl
 | flt _=>obtain⟨t,rfl⟩:=r;rfl
 | ref _=>cases r;rfl
 | ty _=>cases r;rfl
theorem aY.inj {x y:V}{u:Value} (r:aY x u) (q:aY y u):x=y:=Option.some.inj (r.abs.symm.trans q.abs)
theorem b0.inj:∀ {xs ys:List V}{us:List Value},b0 xs us→b0 ys us→xs=ys
 | _,_,_,.nil,.nil=>rfl
 | _,_,_,.cons r t,.cons r' t'=>by rw[r.inj r',b0.inj t t']
section
variable {X:Cx}{pins:List (Addr×Obj)}{σ:St}{H:Hp}{s:Shared}{a:Addr}{xs ys:List V}
theorem bX.of {K:PySem.W.Frag} (h:H a=some (.lst xs)):bX K H a xs:=.inl (.inl h)
theorem bL.of {K:PySem.W.Frag} (h:H a=some (.tup xs)):bL K H a xs:=.inl (.inl h)
theorem Inv.list (I:Inv X pins σ H s) (h:bX X.K H a xs):∃ its:List Value,b0 xs its∧PlainL s.heap a its.toArray∧xs.length≤sizeLine:=by
 rcases h with h | ⟨o,its,n,hk,hc,hd,hs,hz,r⟩
 ·obtain⟨z,its,n,r,e⟩:=h.ok I.hok
  exact⟨its,r,⟨_,n,e,rfl,rfl,rfl⟩,z⟩
 ·refine⟨its.toList,r,⟨o,n,I.kIn a o hk,hc,hd,by simpa using hs⟩,?_⟩
  have e:=r.length
  simp only [Array.length_toList] at e
  omega
theorem Inv.tuple (I:Inv X pins σ H s) (h:bL X.K H a xs):∃ its:List Value,b0 xs its∧IsTup s.heap a its.toArray∧xs.length≤sizeLine:=by
 rcases h with h | ⟨o,its,n,hk,hc,hs,hz,r⟩
 ·obtain⟨z,its,r,p⟩:=h.ok I.hok
  exact⟨its,r,p,z⟩
 ·refine⟨its.toList,r,⟨o,I.kIn a o hk,hc,n,by simpa using hs⟩,?_⟩
  have e:=r.length
  simp only [Array.length_toList] at e
  omega
theorem Inv.list_inj (I:Inv X pins σ H s) (h:bX X.K H a xs) (h':bX X.K H a ys):xs=ys:=by
 obtain⟨its,r,⟨o,n,e,_,_,d⟩,_⟩:=I.list h
 obtain⟨its',r',⟨o',n',e',_,_,d'⟩,_⟩:=I.list h'
 rw[e] at e';cases e'
 rw[d] at d'
 injection d' with d1 _
 have:its=its':=by simpa using congrArg Array.toList d1
 subst this
 exact r.inj r'
theorem Inv.tuple_inj (I:Inv X pins σ H s) (h:bL X.K H a xs) (h':bL X.K H a ys):xs=ys:=by
 obtain⟨its,r,⟨o,e,_,n,d⟩,_⟩:=I.tuple h
 obtain⟨its',r',⟨o',e',_,n',d'⟩,_⟩:=I.tuple h'
 rw[e] at e';cases e'
 rw[d] at d'
 injection d' with d1 _
 have:its=its':=by simpa using congrArg Array.toList d1
 subst this
 exact r.inj r'
end
noncomputable abbrev Cx.wish (X:Cx) (E:Value→Shared→Prop):Cx:={ X with xe:=E }
noncomputable abbrev Cx.nox (X:Cx):Cx:=X.wish fun _ _=>False
theorem Cx.Ok.wish {X:Cx} (ok:X.Ok) (E:Value→Shared→Prop):(X.wish E).Ok:=
 ⟨ok.mod,ok.kind,ok.glob,ok.blt,ok.above,ok.inj,ok.has,ok.cab,ok.hd,ok.frames,ok.stk,ok.exf,ok.bs,ok.bsz,ok.noex,ok.exfs,ok.funs,ok.frf⟩
theorem Cx.Ok.unwish {X:Cx}{E:Value→Shared→Prop} (ok:(X.wish E).Ok):X.Ok:=
 ⟨ok.mod,ok.kind,ok.glob,ok.blt,ok.above,ok.inj,ok.has,ok.cab,ok.hd,ok.frames,ok.stk,ok.exf,ok.bs,ok.bsz,ok.noex,ok.exfs,ok.funs,ok.frf⟩
section
variable {X:Cx}{pins:List (Addr×Obj)}{σ:St}{H:Hp}{s:Shared}{E:Value→Shared→Prop}
theorem Inv.wish (I:Inv X pins σ H s) (E:Value→Shared→Prop):Inv (X.wish E) pins σ H s:=⟨I.ok.wish E,I.os,I.bare,I.base,I.loc,I.cell,I.free,I.freeC,I.pin,I.hok,I.len⟩
theorem Inv.unwish (I:Inv (X.wish E) pins σ H s):Inv X pins σ H s:=⟨I.ok.unwish,I.os,I.bare,I.base,I.loc,I.cell,I.free,I.freeC,I.pin,I.hok,I.len⟩
theorem SP.unwish {D:Ends}{f:Flow}{s':Shared} (h:SP (X.wish E) pins D f s'):SP X pins D f s':=by
 cases f with
 | next=>obtain⟨σ',H',I,q⟩:=h;exact⟨σ',H',I.unwish,q⟩
 | brk=>obtain⟨σ',H',I,q⟩:=h;exact⟨σ',H',I.unwish,q⟩
 | cont=>obtain⟨σ',H',I,q⟩:=h;exact⟨σ',H',I.unwish,q⟩
 | ret u=>obtain⟨v,σ',H',I,r,q⟩:=h;exact⟨v,σ',H',I.unwish,r,q⟩
theorem PSs.nox {st:List Stmt}{t:TS} (h:PSs X.nox st t):PSs X st t:=fun pins s σ H D I hw=>
 wpAny_mono (h pins s σ H D (I.wish _) hw) (fun _ _ q=>q.unwish) fun _ _ z=>False.elim z
end
section
variable {X:Cx}{st:Stmt}{rest:List Stmt}{t u:TS}{e:Expr}{te:TE}{pos:Pos}
noncomputable def tNext:TS:=fun D σ H=>D.nx σ H
noncomputable def tSeq (t u:TS):TS:=fun D σ H=>t { D with nx:=u D } σ H
theorem aT:PSs X [] tNext:=fun _ _ σ H _ I h=>wpAny_execs_nil ⟨σ,H,I,h⟩
theorem aE (h1:PS X st t) (h2:PSs X rest u):PSs X (st::rest) (tSeq t u):=by
 intro pins s σ H D I h
 refine wpAny_execs_cons (cM (h1 pins s σ H { D with nx:=u D } I h) fun f s1 q=>?_)
 cases f with
 | next=>
  obtain⟨σ',H',I',q⟩:=q
  exact h2 pins s1 σ' H' D I' q
 | ret v=>exact q
 | brk=>exact q
 | cont=>exact q
theorem aI (h1:PS X st t):PSs X [st] t:=by
 intro pins s σ H D I h
 refine wpAny_execs_cons (cM (h1 pins s σ H D I h) fun f s1 q=>?_)
 cases f with
 | next=>exact wpAny_execs_nil q
 | ret v=>exact q
 | brk=>exact q
 | cont=>exact q
theorem Inv.quiet {pins:List (Addr×Obj)}{σ:St}{H:Hp}{s:Shared} (I:Inv X pins σ H s):interactive X.env=false:=by simp [interactive,I.ok.kind]
noncomputable def tDrop (te:TE):TS:=fun D σ H=>te σ H fun _ H1=>D.nx σ H1
theorem ps_expr (he:PE X e te) (hs:swapsWith e none pos.line X.env=pure false:=by rfl):PS X (.Expr e pos) (tDrop te):=by
 intro pins s σ H D I h
 exact wpAny_Expr_any (cM (he pins s σ H _ I h) fun v s1 ⟨x,H1,I1,r1,q1⟩=>⟨σ,H1,I1,q1⟩) I.quiet hs
noncomputable def tRet (te:TE):TS:=fun D σ H=>te σ H D.rt
theorem aS (he:PE X e te):PS X (.Return (some e) pos) (tRet te):=by
 intro pins s σ H D I h
 exact wpAny_Return_some (cM (he pins s σ H _ I h) fun v s1 ⟨x,H1,I1,r1,q1⟩=>⟨x,σ,H1,I1,r1,q1⟩)
noncomputable def tIfS (c:TT) (t u:TS):TS:=fun D σ H=>c σ H fun b H1=>if b=true then t D σ H1 else u D σ H1
theorem bS {c:Expr}{a b:List Stmt}{tc:TT} (hc:PT X c tc) (ha:PSs X a t) (hb:PSs X b u):PS X (.If c a b pos) (tIfS tc t u):=by
 intro pins s σ H D I h
 refine wpAny_If (cM (hc pins s σ H _ I h) fun d s1 ⟨H1,I1,q1⟩=>?_)
 cases d with
 | true=>exact ha pins s1 σ H1 D I1 q1
 | false=>exact hb pins s1 σ H1 D I1 q1
end
noncomputable abbrev TG:=V→St→Hp→(St→Hp→Prop)→Prop
noncomputable abbrev TGs:=List V→St→Hp→(St→Hp→Prop)→Prop
noncomputable def PG (X:Cx) (target:Expr) (t:TG):Prop:=
 ∀ (pins:List (Addr×Obj)) (s:Shared) (σ:St) (H:Hp) (v:V) (u:Value) (Q:St→Hp→Prop),Inv X pins σ H s→aY v u→t v σ H Q→
  wpAny (model X.prog X.w) X.A (assign target X.env u) (fun _ s'=>∃ σ' H',Inv X pins σ' H' s'∧Q σ' H') X.xe s
noncomputable def PGs (X:Cx) (ts:List Expr) (t:TGs):Prop:=
 ∀ (pins:List (Addr×Obj)) (s:Shared) (σ:St) (H:Hp) (vs:List V) (us:List Value) (Q:St→Hp→Prop),Inv X pins σ H s→b0 vs us→t vs σ H Q→
  wpAny (model X.prog X.w) X.A (assignInOrder ((assignEach ts X.env).map (·.2)) us) (fun _ s'=>∃ σ' H',Inv X pins σ' H' s'∧Q σ' H') X.xe s
noncomputable abbrev TSet:=V→V→V→Hp→(Hp→Prop)→Prop
noncomputable def PSet (X:Cx) (t:TSet):Prop:=
 ∀ (pins:List (Addr×Obj)) (s:Shared) (σ:St) (H:Hp) (o i v:V) (ov iv u:Value) (Q:Hp→Prop),Inv X pins σ H s→aY o ov→aY i iv→aY v u→t o i v H Q→
  wpAny (model X.prog X.w) X.A (setItem ov iv u) (fun _ s'=>∃ H',Inv X pins σ H' s'∧Q H') X.xe s
section
variable {X:Cx}{pos:Pos}
noncomputable def gName (i:Nat):TG:=fun v σ H Q=>Q (σ.set i (some v)) H
theorem aJ {i:Nat}{x:Str} (hN:X.N.Nodup) (hi:X.N[i]? = some x) (hx:Loc X.env.scope x) (hf:X.fn x=true∨X.env.scope.names.lookup x=some .local:=by first | exact .inl rfl | exact .inr rfl | assumption):PG X (.Name x pos) (gName i):=by
 intro pins s σ H v u Q I r h
 exact wpAny_assign_Name (store_ok I hN hi hx r (fun s' I'=>⟨_,H,I',h⟩) hf)
noncomputable def gNil:TGs:=fun vs σ H Q=>vs=[]∧Q σ H
noncomputable def gCons (t:TG) (u:TGs):TGs:=fun vs σ H Q=>∃ v r,vs=v::r∧t v σ H fun σ' H'=>u r σ' H' Q
theorem bY:PGs X [] gNil:=by
 intro pins s σ H vs us Q I r h
 obtain⟨e,h⟩:=h
 subst e
 cases r
 exact assignInOrder_nil ⟨σ,H,I,h⟩
theorem aL {e:Expr}{es:List Expr}{t:TG}{u:TGs} (h1:PG X e t) (h2:PGs X es u)
  (hs:(assignEach (e::es) X.env).map (·.2)=assign e X.env::(assignEach es X.env).map (·.2):=by rfl):PGs X (e::es) (gCons t u):=by
 intro pins s σ H vs us Q I r h
 obtain⟨v,vr,e1,h⟩:=h
 subst e1
 cases r with
 | cons r rr=>
  rw[hs]
  refine assignInOrder_cons (cM (h1 pins s σ H _ _ _ I r h) fun _ s1 ⟨σ1,H1,I1,q1⟩=>?_)
  exact h2 pins s1 σ1 H1 _ _ Q I1 rr q1
noncomputable def gTup (K:PySem.W.Frag) (n:Nat) (t:TGs):TG:=fun v σ H Q=>∃ a xs,v=.ref a∧bL K H a xs∧xs.length=n∧t xs σ H Q
theorem pg_tup {es:List Expr}{k:Nat}{t:TGs}{n:Nat} (hc:X.calm=true) (h:PGs X es t)
  (hn:(assignEach es X.env).length=n:=by rfl) (hst:(assignEach es X.env).findIdx? (·.1)=none:=by rfl):PG X (.Tuple es k pos) (gTup X.K n t):=by
 intro pins s σ H v u Q I r hw
 obtain⟨a,xs,e1,hq,hl,hw⟩:=hw
 subst e1
 cases r
 obtain⟨its,rv,ht,hz⟩:=I.tuple hq
 refine assign_Tuple_tuple (I.ok.hd hc) ht (by simp [hn,← hl,rv.length]) hst fun h' hx=>?_
 have I1:Inv X pins σ H { s with heap:=h' }:=I.kept (t':=s.toks) fun b o e=>hx b o (Nat.ne_of_lt (Heap.lt_size e)) e
 exact h pins _ σ H xs _ Q I1 (by simpa using rv) hw
noncomputable def gSub (to ti:TE) (t:TSet):TG:=fun v σ H Q=>to σ H fun o H1=>ti σ H1 fun i H2=>t o i v H2 fun H3=>Q σ H3
theorem pg_sub {o i:Expr}{to ti:TE}{t:TSet} (ho:PE X o to) (hi:PE X i ti) (hs:PSet X t)
  (ha:∀ v,assign (.Subscript o i pos) X.env v=(do
   let ov ← holding [v] (eval o X.env)
   let iv ← holding [v,ov] (eval i X.env)
   standAt pos
   holding [v,ov,iv] (setItem ov iv v)
   release [v,ov,iv] []):=by intro _;rfl):PG X (.Subscript o i pos) (gSub to ti t):=by
 intro pins s σ H v u Q I r h
 rw[ha]
 refine wpAny_bind (wpAny_holding (cM (ho pins s σ H _ I h) fun ov s1 ⟨x,H1,I1,r1,q1⟩=>?_))
 refine wpAny_bind (wpAny_holding (cM (hi pins s1 σ H1 _ I1 q1) fun iv s2 ⟨y,H2,I2,r2,q2⟩=>?_))
 refine wpAny_bind (wpAny_standAt (wpAny_bind (wpAny_holding (cM (hs pins s2 σ H2 x y v ov iv u _ I2 r1 r2 r q2) fun _ s3 ⟨H3,I3,q3⟩=>?_))))
 exact wpAny_release ⟨σ,H3,I3,q3⟩
noncomputable def tAsg (te:TE) (g:TG):TS:=fun D σ H=>te σ H fun x H1=>g x σ H1 D.nx
theorem ps_asg {tg e:Expr}{te:TE}{g:TG} (he:PE X e te) (hg:PG X tg g) (hs:swapsWithSole [tg] e pos.line X.env=pure false:=by rfl) (hw:swappedStores [tg] e X.env=pure none:=by rfl)
  (h1:(assignEach [tg] X.env).map (·.2)=[assign tg X.env]:=by rfl):PS X (.Assign [tg] e pos) (tAsg te g):=by
 intro pins s σ H D I h
 refine wpAny_Assign_stores (cM (he pins s σ H _ I h) fun v s1 ⟨x,H1,I1,r1,q1⟩=>?_) hs hw
 rw[h1]
 exact cM (hg pins s1 σ H1 x v _ I1 r1 q1) fun _ s2 q=>q
theorem bF {i:Nat}{x:Str}{e:Expr}{te:TE}{pos':Pos} (hN:X.N.Nodup) (hi:X.N[i]? = some x) (hx:Loc X.env.scope x) (he:PE X e te) (hs:swapsWith e (some (.Name x pos')) pos.line X.env=pure false:=by rfl) (hf:X.fn x=true∨X.env.scope.names.lookup x=some .local:=by first | exact .inl rfl | exact .inr rfl | assumption) :
  PS X (.Assign [.Name x pos'] e pos) (tAsg te (gName i)):=by
 intro pins s σ H D I h
 refine wpAny_Assign_Name (cM (he pins s σ H _ I h) fun v s1 ⟨y,H1,I1,r1,q1⟩=>?_) hs
 exact store_ok I1 hN hi hx r1 (fun s2 I2=>⟨_,H1,I2,q1⟩) hf
noncomputable def tPar (i j:Nat) (ta:TA):TS:=fun D σ H=>ta σ H fun vs H1=>∃ v w,vs=[v,w]∧D.nx ((σ.set i (some v)).set j (some w)) H1
theorem ps_par {i j:Nat}{x y:Str}{a b:Expr}{ta:TA}{px py pt:Pos}{kt k2 pt2} (hc:X.calm=true) (hN:X.N.Nodup) (hi:X.N[i]? = some x) (hj:X.N[j]? = some y) (hij:i≠j)
  (hx:X.env.scope.names.lookup x=some .local) (hy:X.env.scope.names.lookup y=some .local) (ha:PA X [a,b] ta)
  (hw:swappedStores [.Tuple [.Name x px,.Name y py] kt pt] (.Tuple [a,b] k2 pt2) X.env=pure (some [x,y]))
  (hs:swapsWithSole [.Tuple [.Name x px,.Name y py] kt pt] (.Tuple [a,b] k2 pt2) pos.line X.env=pure false:=by rfl) :
  PS X (.Assign [.Tuple [.Name x px,.Name y py] kt pt] (.Tuple [a,b] k2 pt2) pos) (tPar i j ta):=by
 intro pins s σ H D I h
 rw[exec_Assign_arm]
 refine wpAny_bind (wpAny_standAt ?_)
 rw[hs]
 refine wpAny_bind (wpAny_pure ?_)
 rw[if_neg (by decide)]
 refine wpAny_bind (Tuple_ (cM (ha _ pins s σ H _ I h) fun us s1 ⟨vs,H1,I1,r1,q1⟩=>?_))
 obtain⟨v,w,e1,q1⟩:=q1
 subst e1
 obtain⟨u1,u2,rfl,rv,rw'⟩:∃ u1 u2,us=[u1,u2]∧aY v u1∧aY w u2:=by
  cases r1 with
  | cons p q=>
   cases q with
   | cons p' q'=>
    cases q'
    exact⟨_,_,rfl,p,p'⟩
 refine wpAny_newObj_type ?_ (by show 2≤sizeLine;decide)
 have I2:Inv X pins σ H1 { s1 with heap:=s1.heap.push { cls:=.type "tuple",data:=.seq [u1,u2].toArray } }:=I1.kept (t':=s1.toks) fun b o e=>Heap.get?_push_of_some _ e
 rw[hw]
 refine wpAny_bind (wpAny_pure ?_)
 show wpAny (model X.prog X.w) X.A (do rule "assign.swapped-stores";let items ← unpackItems (.ref s1.heap.objs.size) 2 none;assignInOrder [fun v=>bindName X.env y v,fun v=>bindName X.env x v] items.reverse;pure Flow.next) _ _ _
 refine wpAny_bind (wpAny_rule (wpAny_bind (unpackItems_tuple (items:=#[u1,u2]) (I.ok.hd hc) (IsTup.new s1.heap _) fun h' hx'=>?_)))
 have I3:=I2.kept (h':=h') (t':=s1.toks) fun b o e=>hx' b o (Nat.ne_of_lt (Heap.lt_size e)) e
 show wpAny _ _ (assignInOrder [fun v=>bindName X.env y v,fun v=>bindName X.env x v] [u2,u1] >>= fun _=>pure Flow.next) _ _ _
 refine wpAny_bind (assignInOrder_cons (wpAny_bindName (store_ok I3 hN hj (.inl hy) rw' (fun s2 I4=>?_) (.inr hy))))
 refine assignInOrder_cons (wpAny_bindName (store_ok I4 hN hi (.inl hx) rv (fun s3 I5=>assignInOrder_nil (wpAny_pure ?_)) (.inr hx)))
 rw[List.set_comm _ _ (Ne.symm hij)] at I5
 exact⟨_,H1,I5,q1⟩
end
section
variable {X:Cx}{pos:Pos}
end
structure It where
 go:Nat→Hp→Prop
 yld:Nat→Hp→V→Hp→Prop
 stop:Nat→Hp→Prop
noncomputable def FpOk (X:Cx) (pins:List (Addr×Obj)) (H:Hp) (b:Addr):Prop:=
 H b=none∧b≠X.env.locals∧b∉X.fs∧(b∈X.ex∨X.s₀.heap.objs.size≤b)∧(∀ x c,X.env.cells.lookup x=some c→c≠b)∧∀ p∈X.pn++pins,p.1≠b
theorem Inv.fpOk {X:Cx}{pins:List (Addr×Obj)}{σ:St}{H H':Hp}{s:Shared}{b:Addr} (I:Inv X pins σ H s) (hb:s.heap.objs.size≤b) (hn:H' b=none):FpOk X pins H' b:=by
 refine⟨hn,Nat.ne_of_gt (Nat.lt_of_lt_of_le I.lt hb),I.nofs hb,.inr (Nat.le_trans I.sz hb),fun x c e z=>?_,fun p hp z=>?_⟩
 ·obtain⟨v,q⟩:=I.cell x c e
  exact absurd (Nat.lt_of_lt_of_le q.lt (by rw[z];exact hb)) (Nat.lt_irrefl _)
 ·exact absurd (Nat.lt_of_lt_of_le (Heap.lt_size (I.pin p hp).1) (by rw[z];exact hb)) (Nat.lt_irrefl _)
structure Turn (P:Program) (w:World) (K:PySem.W.Frag) (tg:Expr) (J:It) (fp:List Addr) (it:Addr) (tn:Nat→Heap→Prop):Prop where
 mem:it∈fp
 obj:∀ i h,tn i h→∀ b∈fp,∃ o,h.get? b=some o∧∀ v,o.data≠.cell v
 keep:∀ i h h',tn i h→(∀ b∈fp,∀ o,h.get? b=some o→h'.get? b=some o)→tn i h'
 item:∀ (X:Cx),X.prog=P→X.w=w→X.K=K→X.calm=true→∀ (i:Nat) (pins:List (Addr×Obj)) (s:Shared) (σ:St) (H:Hp) (E:Value→Shared→Prop),Inv X pins σ H s→(∀ b∈fp,FpOk X pins H b)→tn i s.heap→J.go i H→
  wpAny (model P w) X.A (pyNext (.ref it)) (fun r s1=>∃ u,r=some u∧
   wpAny (model P w) X.A (letOwnedTupleGo tg (.ref it) u) (fun _ s2=>∃ x H',Inv X pins σ H' s2∧aY x u∧J.yld i H x H'∧tn (i+1) s2.heap∧∀ b∈fp,H' b=none) E s1) E s
 done:∀ (X:Cx),X.prog=P→X.w=w→X.K=K→X.calm=true→∀ (i:Nat) (pins:List (Addr×Obj)) (s:Shared) (σ:St) (H:Hp) (E:Value→Shared→Prop),Inv X pins σ H s→(∀ b∈fp,FpOk X pins H b)→tn i s.heap→J.stop i H→
  wpAny (model P w) X.A (pyNext (.ref it)) (fun r s1=>r=none∧Inv X pins σ H s1) E s
 self:∀ (A:Around) (i:Nat) (s:Shared) (Q:Value→Shared→Prop) (E:Value→Shared→Prop),tn i s.heap→Q (.ref it) s→wpAny (model P w) A (pyIter (.ref it)) Q E s
noncomputable abbrev TI:=St→Hp→(It→Hp→Prop)→Prop
noncomputable def PIE (X:Cx) (pins:List (Addr×Obj)) (σ:St) (tg:Expr) (R:It→Hp→Prop) (itv:Value) (s2:Shared):Prop:=
 ∃ (it:Addr) (fp:List Addr) (tn:Nat→Heap→Prop) (J:It) (H':Hp),itv=.ref it∧Inv X pins σ H' s2∧Turn X.prog X.w X.K tg J fp it tn∧tn 0 s2.heap∧(∀ b∈fp,FpOk X pins H' b)∧R J H'
noncomputable def PI (X:Cx) (tg iter:Expr) (wi:TI):Prop:=
 ∀ (pins:List (Addr×Obj)) (s:Shared) (σ:St) (H:Hp) (R:It→Hp→Prop),Inv X pins σ H s→wi σ H R→
  wpAny (model X.prog X.w) X.A (eval iter X.env) (fun v s1=>wpAny (model X.prog X.w) X.A (pyIter v) (PIE X pins σ tg R) X.xe s1) X.xe s
theorem go_of {M:Model}{A:Around}{E:Value→Shared→Prop}{s:Shared}{tg:Expr}{it:Addr}{u:Value}{o:Obj}{n:String}{vs:Array Value}{Q:Unit→Shared→Prop} (ho:s.heap.get? it=some o) (hc:o.cls=.type n) (hd:o.data=.fields vs)
  (hn:["enumerate","zip","dict_itemiterator","dict_reverseitemiterator","odict_iterator","itertools.zip_longest","itertools.pairwise"].contains n=false) (hQ:Q () s):wpAny M A (letOwnedTupleGo tg (.ref it) u) Q E s:=by
 unfold letOwnedTupleGo
 cases tg <;> first
  | exact wpAny_pure hQ
  | (cases u <;> first
    | exact wpAny_pure hQ
    | (refine wpAny_bind (wpAny_load ho ?_)
       rw[hc,hd]
       show wpAny M A (if (["enumerate","zip","dict_itemiterator","dict_reverseitemiterator","odict_iterator","itertools.zip_longest","itertools.pairwise"].contains n && vs[0]? == some (rawInt _))=true then _ else _) Q E s
       rw[if_neg (by intro h;rw[hn,Bool.false_and] at h;cases h)]
       exact wpAny_pure hQ))
noncomputable def Itl (K:PySem.W.Frag) (a:Addr):It:=
 ⟨fun i H=>∃ xs x,bX K H a xs∧xs[i]? = some x,fun i H x H'=>H'=H∧∀ xs,bX K H a xs→xs[i]? = some x,fun i H=>∃ xs,bX K H a xs∧xs.length≤i⟩
noncomputable def Itt (K:PySem.W.Frag) (a:Addr):It:=
 ⟨fun i H=>∃ xs x,bL K H a xs∧xs[i]? = some x,fun i H x H'=>H'=H∧∀ xs,bL K H a xs→xs[i]? = some x,fun i H=>∃ xs,bL K H a xs∧xs.length≤i⟩
noncomputable def Itr (lo:Int) (n:Nat):It:=⟨fun i _=>i < n,fun i H x H'=>H'=H∧x=.int (lo+i),fun i _=>n≤i⟩
theorem turn_list {P:Program}{w:World}{K:PySem.W.Frag}{tg:Expr} (a it:Addr):Turn P w K tg (Itl K a) [it] it (fun i h=>h.IsListIter it a i) where
 mem:=by simp
 obj:=fun i h st b hb=>by
  have e:b=it:=by simpa using hb
  subst e
  obtain⟨o,e,c,d⟩:=st
  exact⟨o,e,fun v z=>by rw[d] at z;cases z⟩
 keep:=fun i h h' st k=>st.at fun o e=>k it (by simp) o e
 item:=by
  intro X hP hw hK hc i pins s σ H E I hf st hg
  subst hP hw hK
  obtain⟨xs,x,hq,hx⟩:=hg
  obtain⟨its,rv,p,hz⟩:=I.list hq
  obtain⟨u,hu,ru⟩:=rv.get hx
  obtain⟨f0,f1,f2,f3,f4,f5⟩:=hf it (by simp)
  refine wpAny_pyNext_list_item st p.isList (x:=u) (by simpa using hu) fun h' st' sb=>?_
  have I1:Inv X pins σ H { s with heap:=h' }:=I.turned (t':=s.toks) (fun b o hb e=>(sb.2 b hb).trans e) f0 f1 f3 f4 f5
  obtain⟨o,e,c,d⟩:=id st'
  exact⟨u,rfl,go_of (s:={ s with heap:=h' }) e c d (by decide) ⟨x,H,I1,ru,⟨rfl,fun ys hy=>by rw[I.list_inj hy hq];exact hx⟩,st',fun b hb=>(hf b hb).1⟩⟩
 done:=by
  intro X hP hw hK hc i pins s σ H E I hf st hg
  subst hP hw hK
  obtain⟨xs,hq,hx⟩:=hg
  obtain⟨its,rv,p,hz⟩:=I.list hq
  obtain⟨f0,f1,f2,f3,f4,f5⟩:=hf it (by simp)
  have hl:=rv.length
  exact wpAny_pyNext_list_end (I.ok.hd hc) st p.isList (by simp;omega) fun h' eb=>⟨rfl,I.turned (t':=s.toks) (fun b o hb e=>eb b o hb e) f0 f1 f3 f4 f5⟩
 self:=fun _ _ _ _ _ st h=>wpAny_pyIter_listiter st h
theorem turn_tuple {P:Program}{w:World}{K:PySem.W.Frag}{tg:Expr} (a it:Addr):Turn P w K tg (Itt K a) [it] it (fun i h=>h.IsTupleIter it a i) where
 mem:=by simp
 obj:=fun i h st b hb=>by
  have e:b=it:=by simpa using hb
  subst e
  obtain⟨o,e,c,d⟩:=st
  exact⟨o,e,fun v z=>by rw[d] at z;cases z⟩
 keep:=fun i h h' st k=>st.at fun o e=>k it (by simp) o e
 item:=by
  intro X hP hw hK hc i pins s σ H E I hf st hg
  subst hP hw hK
  obtain⟨xs,x,hq,hx⟩:=hg
  obtain⟨its,rv,p,hz⟩:=I.tuple hq
  obtain⟨u,hu,ru⟩:=rv.get hx
  obtain⟨f0,f1,f2,f3,f4,f5⟩:=hf it (by simp)
  refine wpAny_pyNext_tuple_item st (show s.heap.IsTuple a its.toArray from p) (x:=u) (by simpa using hu) fun h' st' sb=>?_
  have I1:Inv X pins σ H { s with heap:=h' }:=I.turned (t':=s.toks) (fun b o hb e=>(sb.2 b hb).trans e) f0 f1 f3 f4 f5
  obtain⟨o,e,c,d⟩:=id st'
  exact⟨u,rfl,go_of (s:={ s with heap:=h' }) e c d (by decide) ⟨x,H,I1,ru,⟨rfl,fun ys hy=>by rw[I.tuple_inj hy hq];exact hx⟩,st',fun b hb=>(hf b hb).1⟩⟩
 done:=by
  intro X hP hw hK hc i pins s σ H E I hf st hg
  subst hP hw hK
  obtain⟨xs,hq,hx⟩:=hg
  obtain⟨its,rv,p,hz⟩:=I.tuple hq
  obtain⟨f0,f1,f2,f3,f4,f5⟩:=hf it (by simp)
  have hl:=rv.length
  exact wpAny_pyNext_tuple_end (I.ok.hd hc) st (show s.heap.IsTuple a its.toArray from p) (by simp;omega) fun h' eb=>⟨rfl,I.turned (t':=s.toks) (fun b o hb e=>eb b o hb e) f0 f1 f3 f4 f5⟩
 self:=fun _ _ _ _ _ st h=>wpAny_pyIter_tupleiter st h
theorem turn_range {P:Program}{w:World}{K:PySem.W.Frag}{tg:Expr} (it:Addr) (lo:Int) (n:Nat):Turn P w K tg (Itr lo n) [it] it (fun i h=>IsRangeIter h it (lo+(i:Nat) * 1) ((n:Int) - (i:Nat)) 1) where
 mem:=by simp
 obj:=fun i h st b hb=>by
  have e:b=it:=by simpa using hb
  subst e
  exact⟨_,st,fun v z=>by
   have z':Data.fields _=Data.cell v:=z
   cases z'⟩
 keep:=fun i h h' st k=>k it (by simp) _ st
 item:=by
  intro X hP hw hK hc i pins s σ H E I hf st hg
  subst hP hw hK
  obtain⟨f0,f1,f2,f3,f4,f5⟩:=hf it (by simp)
  have W:=Walks.range (prog:=X.prog) (w:=X.w) (I.ok.hd hc) it lo 1 n
  refine W.item i s _ _ hg st fun v h' tk hv st' kk=>?_
  obtain⟨t,rfl⟩:=hv
  have I1:Inv X pins σ H { s with heap:=h',toks:=tk }:=I.turned (fun b o hb e=>kk b o (by simpa using hb) e) f0 f1 f3 f4 f5
  refine⟨_,rfl,go_of (s:={ s with heap:=h',toks:=tk }) (n := "range_iterator") st' rfl rfl (by decide) ⟨.int (lo+i),H,I1,⟨t,?_⟩,⟨rfl,rfl⟩,st',fun b hb=>(hf b hb).1⟩⟩
  rw[Int.mul_one]
 done:=by
  intro X hP hw hK hc i pins s σ H E I hf st hg
  subst hP hw hK
  obtain⟨f0,f1,f2,f3,f4,f5⟩:=hf it (by simp)
  exact wpAny_pyNext_range_end (I.ok.hd hc) st (by have:n≤i:=hg;omega) fun h' eb=>⟨rfl,I.turned (t':=s.toks) (fun b o hb e=>eb b o hb e) f0 f1 f3 f4 f5⟩
 self:=fun _ _ _ _ _ st h=>wpAny_pyIter_rangeiter st h
end L2
namespace L2
open PySem PySem.Spec PyProof.Rows
section
variable {X:Cx}{tg:Expr}
noncomputable def iList (K:PySem.W.Frag) (tl:TE):TI:=fun σ H R=>tl σ H fun x H1=>∃ a,x=.ref a∧(∃ xs,bX K H1 a xs)∧R (Itl K a) H1
noncomputable def iTup (K:PySem.W.Frag) (tl:TE):TI:=fun σ H R=>tl σ H fun x H1=>∃ a,x=.ref a∧(∃ xs,bL K H1 a xs)∧R (Itt K a) H1
theorem pi_list {l:Expr}{tl:TE} (hl:PE X l tl):PI X tg l (iList X.K tl):=by
 intro pins s σ H R I h
 refine cM (hl pins s σ H _ I h) fun v s1 ⟨x,H1,I1,r1,q1⟩=>?_
 obtain⟨a,e,⟨xs,hq⟩,q⟩:=q1
 subst e
 cases r1
 obtain⟨its,rv,p,hz⟩:=I1.list hq
 refine wpAny_pyIter_list p.isList ?_
 refine⟨s1.heap.objs.size,[s1.heap.objs.size],_,_,H1,rfl,I1.kept (t':=s1.toks) fun b o e=>Heap.get?_push_of_some _ e,turn_list a _,⟨_,Heap.get?_push_size _ rfl,rfl,rfl⟩,fun b hb=>?_,q⟩
 have e:b=s1.heap.objs.size:=by simpa using hb
 subst e
 exact I1.fpOk (Nat.le_refl _) (I1.hok.fresh (Nat.le_refl _))
theorem pi_tup {l:Expr}{tl:TE} (hl:PE X l tl):PI X tg l (iTup X.K tl):=by
 intro pins s σ H R I h
 refine cM (hl pins s σ H _ I h) fun v s1 ⟨x,H1,I1,r1,q1⟩=>?_
 obtain⟨a,e,⟨xs,hq⟩,q⟩:=q1
 subst e
 cases r1
 obtain⟨its,rv,p,hz⟩:=I1.tuple hq
 refine wpAny_pyIter_tuple (show s1.heap.IsTuple a its.toArray from p) ?_
 refine⟨s1.heap.objs.size,[s1.heap.objs.size],_,_,H1,rfl,I1.kept (t':=s1.toks) fun b o e=>Heap.get?_push_of_some _ e,turn_tuple a _,⟨_,Heap.get?_push_size _ rfl,rfl,rfl⟩,fun b hb=>?_,q⟩
 have e:b=s1.heap.objs.size:=by simpa using hb
 subst e
 exact I1.fpOk (Nat.le_refl _) (I1.hok.fresh (Nat.le_refl _))
theorem range_it {pins:List (Addr×Obj)}{σ:St}{H:Hp}{s:Shared}{R:It→Hp→Prop}{E:Value→Shared→Prop}{lo hi:Int}{t u v:Tok}{tk:Nat} (I:Inv X pins σ H s) (h1 : -(2 ^ 62)≤lo) (h2:lo < 2 ^ 62) (h3 : -(2 ^ 62)≤hi) (h4:hi < 2 ^ 62)
  (q:R (Itr lo (hi - lo).toNat) H):wpAny (model X.prog X.w) X.A (pyIter (.ref s.heap.objs.size)) (PIE X pins σ tg R) E { s with heap:=s.heap.push { cls:=.type "range",data:=.fields #[.int lo t,.int hi u,.int 1 v] },toks:=tk }:=by
 refine wpAny_pyIter_range (IsRange.new ..) (small_one h1 h2 h3 h4) ?_
 have I1:Inv X pins σ H { s with heap:=s.heap.push { cls:=.type "range",data:=.fields #[.int lo t,.int hi u,.int 1 v] },toks:=tk }:=I.kept fun b o e=>Heap.get?_push_of_some _ e
 refine⟨(s.heap.push { cls:=.type "range",data:=.fields #[.int lo t,.int hi u,.int 1 v] }).objs.size,[(s.heap.push { cls:=.type "range",data:=.fields #[.int lo t,.int hi u,.int 1 v] }).objs.size],_,_,H,rfl,
  I1.kept (t':=tk) fun b o e=>Heap.get?_push_of_some _ e,turn_range _ lo (hi - lo).toNat,?_,fun b hb=>?_,q⟩
 ·have e1:lo+((0:Nat):Int) * 1=lo:=by simp
  have e2:(((hi - lo).toNat:Nat):Int) - ((0:Nat):Int)=Builtin.Range.rangeSize lo hi 1:=by rw[rangeSize_one];split <;> omega
  show IsRangeIter _ _ (lo+((0:Nat):Int) * 1) ((((hi - lo).toNat:Nat):Int) - ((0:Nat):Int)) 1
  rw[e1,e2]
  exact Heap.get?_push_size _ rfl
 ·have e:b=(s.heap.push { cls:=.type "range",data:=.fields #[.int lo t,.int hi u,.int 1 v] }).objs.size:=by simpa using hb
  subst e
  exact I1.fpOk (Nat.le_refl _) (I1.hok.fresh (Nat.le_refl _))
noncomputable def iRng1 (ta:TA):TI:=fun σ H R=>ta σ H fun vs H1=>∃ j:Int,vs=[.int j]∧-(2 ^ 62)≤j∧j < 2 ^ 62∧R (Itr 0 j.toNat) H1
theorem cH {a:Expr}{ta:TA}{p pos:Pos} (hg:Gl X "range") (hm:X.mg "range" = none) (ha:PA X [a] ta) (hs:starEach [a] X.env=[(false,eval a X.env)]:=by rfl):PI X tg (.Call (.Name "range" p) [a] [] pos) (iRng1 ta):=by
 intro pins s σ H R I h
 refine Call_ (ld_blt I hg hm boot_range (PyProof.Rows.callWith_type1 (cM (ha pos pins s σ H _ I h) fun us s1 ⟨vs,H1,I1,r1,q1⟩=>?_) hs rfl))
 obtain⟨j,e,q1,q2,q⟩:=q1
 subst e
 cases r1 with
 | cons r rr=>
  cases rr
  obtain⟨t,rfl⟩:=r
  exact call_range_1 (range_it I1 (by omega) (by omega) q1 q2 (by simpa using q))
noncomputable def tFor (wi:TI) (g:TG) (tb:TS):TS:=fun D σ H=>wi σ H fun J H1=>∃ W:Nat→Nat→St→Hp→Prop,(∃ m,W 0 m σ H1)∧∀ i m σ H,W i m σ H→
 (J.stop i H∧D.nx σ H)∨(J.go i H∧∃ N:St→Hp→Prop,(∀ σ' H',N σ' H'→∃ m',m' < m∧W (i+1) m' σ' H')∧∀ x H',J.yld i H x H'→g x σ H' fun σ2 H2=>tb { D with nx:=N,ct:=N,bk:=D.nx } σ2 H2)
noncomputable def pinsAt (fp:List Addr) (h:Heap):List (Addr×Obj):=fp.filterMap fun b=>(h.get? b).map fun o=>(b,o)
theorem mem_pinsAt {fp:List Addr}{h:Heap}{b:Addr}{o:Obj} (hb:b∈fp) (e:h.get? b=some o):(b,o)∈pinsAt fp h:=List.mem_filterMap.mpr ⟨b,hb,by rw[e];rfl⟩
theorem of_pinsAt {fp:List Addr}{h:Heap}{p:Addr×Obj} (hp:p∈pinsAt fp h):p.1∈fp∧h.get? p.1=some p.2:=by
 obtain⟨b,hb,e⟩:=List.mem_filterMap.mp hp
 cases q:h.get? b with
 | none=>rw[q] at e;cases e
 | some o=>
  rw[q] at e
  have e':(b,o)=p:=Option.some.inj e
  subst e'
  exact⟨hb,q⟩
theorem Inv.pinned {pins:List (Addr×Obj)}{σ:St}{H:Hp}{s:Shared}{fp:List Addr} (I:Inv X pins σ H s) (hf:∀ b∈fp,FpOk X pins H b) (ho:∀ b∈fp,∃ o,s.heap.get? b=some o∧∀ v,o.data≠.cell v):Inv X (pins++pinsAt fp s.heap) σ H s:=
 I.pins_of fun p hp=>(List.mem_append.mp hp).elim (fun z=>I.pin p (List.mem_append_right _ z)) fun z=>by
  obtain⟨hb,e⟩:=of_pinsAt z
  obtain⟨f0,f1,f2,_⟩:=hf p.1 hb
  obtain⟨o,e',d⟩:=ho p.1 hb
  rw[e] at e';cases e'
  exact⟨e,f0,f1,f2,d⟩
theorem Inv.unpinned {pins pl:List (Addr×Obj)}{σ:St}{H:Hp}{s:Shared} (I:Inv X (pins++pl) σ H s):Inv X pins σ H s:=I.pins_of fun p hp=>I.pin p (List.mem_append_right _ (List.mem_append_left _ hp))
theorem d9 {iter:Expr}{body:List Stmt}{wi:TI}{g:TG}{tb:TS}{pos:Pos} (hp:PassesOwn (model X.prog X.w) X.A X.env X.xe) (hc:X.calm=true) (hi:PI X tg iter wi) (hg:PG X tg g) (hb:PSs X body tb)
  (hs:∀ x,foldedSetIterable iter X.env x=pure x:=by intro _;rfl):PS X (.For tg iter body [] pos) (tFor wi g tb):=by
 intro pins s σ H D I h
 refine wpAny_For (cM (hi pins s σ H _ I h) fun v s1 h1=>cM h1 fun itv s2 h2=>?_) hs
 obtain⟨it,fp,tn,J,H2,e,I2,T,st2,f2,W,⟨m0,w0⟩,turn⟩:=h2
 subst e
 have stat:∀ {H':Hp},(∀ b∈fp,H' b=none)→∀ b∈fp,FpOk X pins H' b:=fun hn b hb=>⟨hn b hb,(f2 b hb).2⟩
 refine codeAny_forLoop_any (fun n s'=>∃ i σ' H',Inv X pins σ' H' s'∧tn i s'.heap∧(∀ b∈fp,H' b=none)∧W i n σ' H') ?_ m0 ⟨0,σ,H2,I2,st2,fun b hb=>(f2 b hb).1,w0⟩
 rintro n s3 ⟨i,σ3,H3,I3,st3,fr3,w3⟩
 rcases turn i n σ3 H3 w3 with ⟨stop,qn⟩ | ⟨go,N,hN,step⟩
 ·refine wpAny_passesOwn hp (cM (T.done X rfl rfl rfl hc i pins s3 σ3 H3 X.xe I3 (stat fr3) st3 stop) fun r s4 ⟨hr,I4⟩=>?_)
  subst hr
  exact wpAny_execs_nil ⟨σ3,H3,I4,qn⟩
 ·refine wpAny_passesOwn hp (cM (T.item X rfl rfl rfl hc i pins s3 σ3 H3 X.xe I3 (stat fr3) st3 go) fun r s4 ⟨u,hr,h4⟩=>?_)
  subst hr
  refine wpAny_passesOwn hp (cM h4 fun _ s5 ⟨x,H5,I5,r5,y5,st5,fr5⟩=>?_)
  have I5':=I5.pinned (stat fr5) (T.obj _ _ st5)
  refine wpAny_passesOwn hp (cM (hg _ s5 σ3 H5 x u _ I5' r5 (step x H5 y5)) fun _ s6 ⟨σ6,H6,I6,q6⟩=>?_)
  refine wpAny_passesOwn hp (cM (hb _ s6 σ6 H6 _ I6 q6) fun f s7 q7=>?_)
  have again:∀ {σ7:St}{H7:Hp},Inv X (pins++pinsAt fp s5.heap) σ7 H7 s7→N σ7 H7→∃ m,m < n∧∃ i σ' H',Inv X pins σ' H' s7∧tn i s7.heap∧(∀ b∈fp,H' b=none)∧W i m σ' H':=fun {σ7 H7} I7 n7=>by
   obtain⟨m',hm,w7⟩:=hN σ7 H7 n7
   refine⟨m',hm,i+1,σ7,H7,I7.unpinned,T.keep _ _ _ st5 fun b hb o e=>(I7.pin (b,o) (List.mem_append_right _ (List.mem_append_right _ (mem_pinsAt hb e)))).1,fun b hb=>?_,w7⟩
   obtain⟨o,e,d⟩:=T.obj _ _ st5 b hb
   exact (I7.pin (b,o) (List.mem_append_right _ (List.mem_append_right _ (mem_pinsAt hb e)))).2.1
  cases f with
  | next=>obtain⟨σ7,H7,I7,n7⟩:=q7;exact again I7 n7
  | cont=>obtain⟨σ7,H7,I7,n7⟩:=q7;exact again I7 n7
  | brk=>obtain⟨σ7,H7,I7,q7⟩:=q7;exact⟨σ7,H7,I7.unpinned,q7⟩
  | ret v=>obtain⟨x7,σ7,H7,I7,r7,q7⟩:=q7;exact⟨x7,σ7,H7,I7.unpinned,r7,q7⟩
end
theorem for_list {K:PySem.W.Frag}{a:Addr}{xs:List V}{g:TG}{tb:TS}{D:Ends}{σ:St}{H:Hp} (Pv:Nat→St→Hp→Prop) (h0:Pv 0 σ H) (hl:∀ i σ H,i≤xs.length→Pv i σ H→bX K H a xs)
  (hs:∀ i x σ H,xs[i]? = some x→Pv i σ H→g x σ H fun σ2 H2=>tb { D with nx:=Pv (i+1),ct:=Pv (i+1),bk:=D.nx } σ2 H2) (hd:∀ σ H,Pv xs.length σ H→D.nx σ H) :
  ∃ W:Nat→Nat→St→Hp→Prop,(∃ m,W 0 m σ H)∧∀ i m σ H,W i m σ H→
   ((Itl K a).stop i H∧D.nx σ H)∨((Itl K a).go i H∧∃ N:St→Hp→Prop,(∀ σ' H',N σ' H'→∃ m',m' < m∧W (i+1) m' σ' H')∧∀ x H',(Itl K a).yld i H x H'→g x σ H' fun σ2 H2=>tb { D with nx:=N,ct:=N,bk:=D.nx } σ2 H2):=by
 refine⟨fun i m σ H=>m=xs.length - i∧i≤xs.length∧Pv i σ H,⟨xs.length,by simp,Nat.zero_le _,h0⟩,?_⟩
 rintro i m σ H ⟨rfl,hi,p⟩
 have q:=hl i σ H hi p
 by_cases hlt:i < xs.length
 ·refine .inr ⟨⟨xs,xs[i],q,by simp [hlt]⟩,Pv (i+1),fun σ' H' p'=>⟨xs.length - (i+1),by omega,rfl,hlt,p'⟩,fun x H' y=>?_⟩
  obtain⟨e,y⟩:=y
  subst e
  exact hs i x σ _ (y xs q) p
 ·have e:i=xs.length:=by omega
  subst e
  exact .inl ⟨⟨xs,q,Nat.le_refl _⟩,hd σ H p⟩
theorem for_tup {K:PySem.W.Frag}{a:Addr}{xs:List V}{g:TG}{tb:TS}{D:Ends}{σ:St}{H:Hp} (Pv:Nat→St→Hp→Prop) (h0:Pv 0 σ H) (hl:∀ i σ H,i≤xs.length→Pv i σ H→bL K H a xs)
  (hs:∀ i x σ H,xs[i]? = some x→Pv i σ H→g x σ H fun σ2 H2=>tb { D with nx:=Pv (i+1),ct:=Pv (i+1),bk:=D.nx } σ2 H2) (hd:∀ σ H,Pv xs.length σ H→D.nx σ H) :
  ∃ W:Nat→Nat→St→Hp→Prop,(∃ m,W 0 m σ H)∧∀ i m σ H,W i m σ H→
   ((Itt K a).stop i H∧D.nx σ H)∨((Itt K a).go i H∧∃ N:St→Hp→Prop,(∀ σ' H',N σ' H'→∃ m',m' < m∧W (i+1) m' σ' H')∧∀ x H',(Itt K a).yld i H x H'→g x σ H' fun σ2 H2=>tb { D with nx:=N,ct:=N,bk:=D.nx } σ2 H2):=by
 refine⟨fun i m σ H=>m=xs.length - i∧i≤xs.length∧Pv i σ H,⟨xs.length,by simp,Nat.zero_le _,h0⟩,?_⟩
 rintro i m σ H ⟨rfl,hi,p⟩
 have q:=hl i σ H hi p
 by_cases hlt:i < xs.length
 ·refine .inr ⟨⟨xs,xs[i],q,by simp [hlt]⟩,Pv (i+1),fun σ' H' p'=>⟨xs.length - (i+1),by omega,rfl,hlt,p'⟩,fun x H' y=>?_⟩
  obtain⟨e,y⟩:=y
  subst e
  exact hs i x σ _ (y xs q) p
 ·have e:i=xs.length:=by omega
  subst e
  exact .inl ⟨⟨xs,q,Nat.le_refl _⟩,hd σ H p⟩
theorem for_range {lo:Int}{n:Nat}{g:TG}{tb:TS}{D:Ends}{σ:St}{H:Hp} (Pv:Nat→St→Hp→Prop) (h0:Pv 0 σ H)
  (hs:∀ i σ H,i < n→Pv i σ H→g (.int (lo+i)) σ H fun σ2 H2=>tb { D with nx:=Pv (i+1),ct:=Pv (i+1),bk:=D.nx } σ2 H2) (hd:∀ σ H,Pv n σ H→D.nx σ H) :
  ∃ W:Nat→Nat→St→Hp→Prop,(∃ m,W 0 m σ H)∧∀ i m σ H,W i m σ H→
   ((Itr lo n).stop i H∧D.nx σ H)∨((Itr lo n).go i H∧∃ N:St→Hp→Prop,(∀ σ' H',N σ' H'→∃ m',m' < m∧W (i+1) m' σ' H')∧∀ x H',(Itr lo n).yld i H x H'→g x σ H' fun σ2 H2=>tb { D with nx:=N,ct:=N,bk:=D.nx } σ2 H2):=by
 refine⟨fun i m σ H=>m=n - i∧i≤n∧Pv i σ H,⟨n,by simp,Nat.zero_le _,h0⟩,?_⟩
 rintro i m σ H ⟨rfl,hi,p⟩
 by_cases hlt:i < n
 ·refine .inr ⟨hlt,Pv (i+1),fun σ' H' p'=>⟨n - (i+1),by omega,rfl,hlt,p'⟩,fun x H' y=>?_⟩
  obtain⟨e,y⟩:=y
  subst e y
  exact hs i σ _ hlt p
 ·have e:i=n:=by omega
  subst e
  exact .inl ⟨Nat.le_refl _,hd σ H p⟩
end L2
namespace L2
open PySem PySem.Spec PyProof.Rows
noncomputable abbrev R2:=V→V→Hp→VK→Prop
noncomputable def OpR (X:Cx) (f:Value→Value→Sem Value) (r:R2):Prop:=
 ∀ (pins:List (Addr×Obj)) (s:Shared) (σ:St) (H:Hp) (x y:V) (v u:Value) (Q:VK),Inv X pins σ H s→aY x v→aY y u→r x y H Q→
  wpAny (model X.prog X.w) X.A (f v u) (EP X pins σ Q) X.xe s
noncomputable def UnR (X:Cx) (f:Value→Sem Value) (r:V→Hp→VK→Prop):Prop:=
 ∀ (pins:List (Addr×Obj)) (s:Shared) (σ:St) (H:Hp) (x:V) (v:Value) (Q:VK),Inv X pins σ H s→aY x v→r x H Q→
  wpAny (model X.prog X.w) X.A (f v) (EP X pins σ Q) X.xe s
noncomputable def d6 (X:Cx) (f:Value) (r:List V→Hp→VK→Prop):Prop:=
 ∀ (pins:List (Addr×Obj)) (s:Shared) (σ:St) (H:Hp) (xs:List V) (us:List Value) (Q:VK),Inv X pins σ H s→b0 xs us→r xs H Q→
  wpAny (model X.prog X.w) X.A (call f us) (EP X pins σ Q) X.xe s
noncomputable def TruR (X:Cx) (r:V→Hp→(Bool→Hp→Prop)→Prop):Prop:=
 ∀ (pins:List (Addr×Obj)) (s:Shared) (σ:St) (H:Hp) (x:V) (v:Value) (Q:Bool→Hp→Prop),Inv X pins σ H s→aY x v→r x H Q→
  wpAny (model X.prog X.w) X.A (truthy v) (TP X pins σ Q) X.xe s
noncomputable def tOp (r:R2) (ta tb:TE):TE:=fun σ H Q=>ta σ H fun x H1=>tb σ H1 fun y H2=>r x y H2 Q
noncomputable def tUn (r:V→Hp→VK→Prop) (ta:TE):TE:=fun σ H Q=>ta σ H fun x H1=>r x H1 Q
noncomputable def rI (C:Int→Int→Prop) (g:Int→Int→V):R2:=fun x y H Q=>∃ i j,x=.int i∧y=.int j∧C i j∧Q (g i j) H
noncomputable def rI0 (g:Int→Int→V):R2:=fun x y H Q=>∃ i j,x=.int i∧y=.int j∧Q (g i j) H
noncomputable def rU (g:Int→V):V→Hp→VK→Prop:=fun x H Q=>∃ i,x=.int i∧Q (g i) H
section
variable {X:Cx}{a b c:Expr}{ta tb tc:TE}{pos:Pos}
theorem binT (ha:PE X a ta) (hb:PE X b tb) {pins:List (Addr×Obj)}{s:Shared}{σ:St}{H:Hp}{R:V→V→Hp→Prop} (I:Inv X pins σ H s)
  (h:ta σ H fun x H1=>tb σ H1 fun y H2=>R x y H2) {Q:Value→Shared→Prop}{f:Value→Value→Sem Value}
  (hf:∀ v u s2 x y H2,Inv X pins σ H2 s2→aY x v→aY y u→R x y H2→wpAny (model X.prog X.w) X.A (f v u) Q X.xe s2) :
  wpAny (model X.prog X.w) X.A (eval a X.env) (fun v s₁=>wpAny (model X.prog X.w) X.A (eval b X.env) (fun u s₂=>wpAny (model X.prog X.w) X.A (f v u) Q X.xe s₂) X.xe s₁) X.xe s:=by
 refine cM (ha pins s σ H _ I h) fun v s1 ⟨x,H1,I1,r1,q1⟩=>?_
 refine cM (hb pins s1 σ H1 _ I1 q1) fun u s2 ⟨y,H2,I2,r2,q2⟩=>?_
 exact hf v u s2 x y H2 I2 r1 r2 q2
theorem b9 {op:Operator}{r:R2} (ho:OpR X (binaryOp op) r) (ha:PE X a ta) (hb:PE X b tb):PE X (.BinOp a op b pos) (tOp r ta tb):=by
 intro pins s σ H Q I h
 exact wpAny_BinOp (binT ha hb I h fun v u s2 x y H2 I2 rx ry q=>ho pins s2 σ H2 x y v u Q I2 rx ry q)
theorem pe_un {op:UnaryOp}{r:V→Hp→VK→Prop} (ho:UnR X (unaryOp op) r) (ha:PE X a ta):PE X (.UnaryOp op a pos) (tUn r ta):=by
 intro pins s σ H Q I h
 exact UnaryOp_ (cM (ha pins s σ H _ I h) fun v s1 ⟨x,H1,I1,r1,q1⟩=>ho pins s1 σ H1 x v Q I1 r1 q1)
theorem opI {f:Value→Value→Sem Value}{C:Int→Int→Prop}{g:Int→Int→Int}
  (rule:∀ (i j:Int) (t u:Tok) (s:Shared) (Q:Value→Shared→Prop) (E:Value→Shared→Prop),C i j→Q (.int (g i j) s.toks) { s with toks:=s.toks+1 }→wpAny (model X.prog X.w) X.A (f (.int i t) (.int j u)) Q E s) :
  OpR X f (rI C fun i j=>.int (g i j)):=by
 intro pins s σ H x y v u Q I rx ry h
 obtain⟨i,j,rfl,rfl,hc,q⟩:=h
 obtain⟨t,rfl⟩:=rx
 obtain⟨t',rfl⟩:=ry
 exact rule i j t t' s _ _ hc ⟨.int (g i j),H,I.tok _,⟨_,rfl⟩,q⟩
theorem opI0 {f:Value→Value→Sem Value}{g:Int→Int→Int}
  (rule:∀ (i j:Int) (t u:Tok) (s:Shared) (Q:Value→Shared→Prop) (E:Value→Shared→Prop),Q (.int (g i j) s.toks) { s with toks:=s.toks+1 }→wpAny (model X.prog X.w) X.A (f (.int i t) (.int j u)) Q E s) :
  OpR X f (rI0 fun i j=>.int (g i j)):=by
 intro pins s σ H x y v u Q I rx ry h
 obtain⟨i,j,rfl,rfl,q⟩:=h
 obtain⟨t,rfl⟩:=rx
 obtain⟨t',rfl⟩:=ry
 exact rule i j t t' s _ _ ⟨.int (g i j),H,I.tok _,⟨_,rfl⟩,q⟩
theorem opB0 {f:Value→Value→Sem Value}{g:Int→Int→Bool}
  (rule:∀ (i j:Int) (t u:Tok) (s:Shared) (Q:Value→Shared→Prop) (E:Value→Shared→Prop),Q (.bool (g i j)) s→wpAny (model X.prog X.w) X.A (f (.int i t) (.int j u)) Q E s) :
  OpR X f (rI0 fun i j=>.bl (g i j)):=by
 intro pins s σ H x y v u Q I rx ry h
 obtain⟨i,j,rfl,rfl,q⟩:=h
 obtain⟨t,rfl⟩:=rx
 obtain⟨t',rfl⟩:=ry
 exact rule i j t t' s _ _ ⟨.bl (g i j),H,I,rfl,q⟩
noncomputable def CDiv (i j:Int):Prop:=0 < j∧j < 1073741824
noncomputable def CPow (i j:Int):Prop:=0≤j∧j≤1000000∧i.natAbs < 2 ^ 64
noncomputable def CMul (i j:Int):Prop:=(-(2 ^ 64) < i∧i < 2 ^ 64)∨(-(2 ^ 64) < j∧j < 2 ^ 64)
theorem CMul.ok {i j:Int} (h:CMul i j):IntMulOk i j:=by
 rcases h with ⟨h1,h2⟩ | ⟨h1,h2⟩
 ·exact .of_left (intBits_le_64 h1 h2)
 ·exact .of_right (intBits_le_64 h1 h2)
theorem op_add:OpR X (binaryOp .Add) (rI0 fun i j=>.int (i+j)):=opI0 fun _ _ _ _ _ _ _ q=>add_int q
theorem op_sub:OpR X (binaryOp .Sub) (rI0 fun i j=>.int (i - j)):=opI0 fun _ _ _ _ _ _ _ q=>sub_int q
theorem op_mul:OpR X (binaryOp .Mult) (rI CMul fun i j=>.int (i * j)):=opI fun _ _ _ _ _ _ _ hc q=>mul_int q hc.ok
theorem op_fdiv:OpR X (binaryOp .FloorDiv) (rI CDiv fun i j=>.int (i / j)):=opI fun i j _ _ _ _ _ hc q=>by
 have h1:(0:Int) < j:=hc.1
 have h2:j < 1073741824:=hc.2
 exact floordiv_int (by omega) (by rw[Int.fdiv_eq_ediv_of_nonneg i (by omega)];exact q) (.inl (PyProof.noPylong_small (by omega)))
theorem op_mod:OpR X (binaryOp .Mod) (rI (fun _ j=>0 < j) fun i j=>.int (i % j)):=opI fun i j _ _ _ _ _ hc q=>by
 have h1:(0:Int) < j:=hc
 exact mod_int' (by omega) (by rw[Int.fmod_eq_emod_of_nonneg i (by omega)];exact q)
theorem op_pow:OpR X (binaryOp .Pow) (rI CPow fun i j=>.int (i ^ j.toNat)):=opI fun _ _ _ _ _ _ _ hc q=>pow_int_small hc.1 hc.2.1 hc.2.2 q
theorem unI {f:Value→Sem Value}{g:Int→Int}
  (rule:∀ (i:Int) (t:Tok) (s:Shared) (Q:Value→Shared→Prop) (E:Value→Shared→Prop),Q (.int (g i) s.toks) { s with toks:=s.toks+1 }→wpAny (model X.prog X.w) X.A (f (.int i t)) Q E s) :
  UnR X f (rU fun i=>.int (g i)):=by
 intro pins s σ H x v Q I rx h
 obtain⟨i,rfl,q⟩:=h
 obtain⟨t,rfl⟩:=rx
 exact rule i t s _ _ ⟨.int (g i),H,I.tok _,⟨_,rfl⟩,q⟩
theorem un_neg:UnR X (unaryOp .USub) (rU fun i=>.int (-i)):=unI fun _ _ _ _ _ q=>neg_int q
end
noncomputable def scal:V→V→Bool
 | .non,.non=>true | .non,.int _=>true | .int _,.non=>true | .non,.bl _=>true | .bl _,.non=>true | .non,.str _=>true | .str _,.non=>true
 | .int _,.int _=>true | .bl _,.bl _=>true | .str _,.str _=>true | .byt _,.byt _=>true
 | .int _,.str _=>true | .str _,.int _=>true | .bl _,.str _=>true | .str _,.bl _=>true
 | _,_=>false
noncomputable def rEq:R2:=fun x y H Q=>scal x y=true∧Q (.bl (decide (x=y))) H
noncomputable def rNe:R2:=fun x y H Q=>scal x y=true∧Q (.bl (!decide (x=y))) H
theorem dec_int {i j:Int}:decide (V.int i=V.int j)=(i == j):=by
 rw[Bool.eq_iff_iff]
 simp
theorem dec_bl {i j:Bool}:decide (V.bl i=V.bl j)=(i == j):=by
 rw[Bool.eq_iff_iff]
 simp
theorem dec_str {i j:Str}:decide (V.str i=V.str j)=(i == j):=by
 rw[Bool.eq_iff_iff]
 simp
theorem dec_byt {i j:Array UInt8}:decide (V.byt i=V.byt j)=(i.toList == j.toList):=by
 rw[Bool.eq_iff_iff]
 cases i
 cases j
 simp
section
variable {X:Cx}{a b c:Expr}{ta tb tc:TE}{pos:Pos}
theorem b8 {pins:List (Addr×Obj)}{σ:St}{H:Hp}{s:Shared}{Q:VK}{k k':Bool} (I:Inv X pins σ H s) (q:Q (.bl k) H) (e:k=k'):EP X pins σ Q (.bool k') s:=by
 subst e
 exact⟨.bl k,H,I,rfl,q⟩
theorem op_eq:OpR X (compareOp .Eq) rEq:=by
 intro pins s σ H x y v u Q I rx ry h
 obtain⟨hs,q⟩:=h
 cases x with
 | non=>
  cases rx
  cases y with
  | non=>cases ry;exact PySem.EqNone.eq_none_none (b8 I q (by simp))
  | bl j=>cases ry;exact PySem.EqNone.eq_none_bool (b8 I q (by simp))
  | int j=>obtain⟨t',rfl⟩:=ry;exact PySem.EqNone.eq_none_int (b8 I q (by simp))
  | str j=>obtain⟨t',rfl⟩:=ry;exact PySem.EqNone.eq_none_str (b8 I q (by simp))
  | _=>exact absurd (show false=true from hs) Bool.false_ne_true
 | bl i=>
  cases rx
  cases y with
  | non=>cases ry;exact PySem.EqNone.eq_bool_none (b8 I q (by simp))
  | bl j=>cases ry;exact eq_bool (b8 I q dec_bl)
  | str j=>obtain⟨t',rfl⟩:=ry;exact PySem.EqMixed.eq_bool_str (b8 I q (by simp))
  | _=>exact absurd (show false=true from hs) Bool.false_ne_true
 | int i=>
  obtain⟨t,rfl⟩:=rx
  cases y with
  | non=>cases ry;exact PySem.EqNone.eq_int_none (b8 I q (by simp))
  | int j=>obtain⟨t',rfl⟩:=ry;exact eq_int (b8 I q dec_int)
  | str j=>obtain⟨t',rfl⟩:=ry;exact PySem.EqMixed.eq_int_str (b8 I q (by simp))
  | _=>exact absurd (show false=true from hs) Bool.false_ne_true
 | str i=>
  obtain⟨t,rfl⟩:=rx
  cases y with
  | non=>cases ry;exact PySem.EqNone.eq_str_none (b8 I q (by simp))
  | bl j=>cases ry;exact PySem.EqMixed.eq_str_bool (b8 I q (by simp))
  | int j=>obtain⟨t',rfl⟩:=ry;exact PySem.EqMixed.eq_str_int (b8 I q (by simp))
  | str j=>obtain⟨t',rfl⟩:=ry;exact eq_str (b8 I q dec_str)
  | _=>exact absurd (show false=true from hs) Bool.false_ne_true
 | byt i=>
  obtain⟨t,rfl⟩:=rx
  cases y with
  | byt j=>obtain⟨t',rfl⟩:=ry;exact PySem.W.eq_bytes (b8 I q dec_byt)
  | _=>exact absurd (show false=true from hs) Bool.false_ne_true
 | _=>cases y <;> exact absurd (show false=true from hs) Bool.false_ne_true
theorem op_ne:OpR X (compareOp .NotEq) rNe:=by
 intro pins s σ H x y v u Q I rx ry h
 obtain⟨hs,q⟩:=h
 cases x with
 | non=>
  cases rx
  cases y with
  | non=>cases ry;exact PySem.EqNone.ne_none_none (b8 I q (by simp))
  | bl j=>cases ry;exact PySem.EqNone.ne_none_bool (b8 I q (by simp))
  | int j=>obtain⟨t',rfl⟩:=ry;exact PySem.EqNone.ne_none_int (b8 I q (by simp))
  | str j=>obtain⟨t',rfl⟩:=ry;exact PySem.EqNone.ne_none_str (b8 I q (by simp))
  | _=>exact absurd (show false=true from hs) Bool.false_ne_true
 | bl i=>
  cases rx
  cases y with
  | non=>cases ry;exact PySem.EqNone.ne_bool_none (b8 I q (by simp))
  | bl j=>cases ry;exact ne_bool (b8 I q (congrArg not dec_bl))
  | str j=>obtain⟨t',rfl⟩:=ry;exact PySem.EqMixed.ne_bool_str (b8 I q (by simp))
  | _=>exact absurd (show false=true from hs) Bool.false_ne_true
 | int i=>
  obtain⟨t,rfl⟩:=rx
  cases y with
  | non=>cases ry;exact PySem.EqNone.ne_int_none (b8 I q (by simp))
  | int j=>obtain⟨t',rfl⟩:=ry;exact ne_int (b8 I q (congrArg not dec_int))
  | str j=>obtain⟨t',rfl⟩:=ry;exact PySem.EqMixed.ne_int_str (b8 I q (by simp))
  | _=>exact absurd (show false=true from hs) Bool.false_ne_true
 | str i=>
  obtain⟨t,rfl⟩:=rx
  cases y with
  | non=>cases ry;exact PySem.EqNone.ne_str_none (b8 I q (by simp))
  | bl j=>cases ry;exact PySem.EqMixed.ne_str_bool (b8 I q (by simp))
  | int j=>obtain⟨t',rfl⟩:=ry;exact PySem.EqMixed.ne_str_int (b8 I q (by simp))
  | str j=>obtain⟨t',rfl⟩:=ry;exact ne_str (b8 I q (congrArg not dec_str))
  | _=>exact absurd (show false=true from hs) Bool.false_ne_true
 | byt i=>
  obtain⟨t,rfl⟩:=rx
  cases y with
  | byt j=>obtain⟨t',rfl⟩:=ry;exact PySem.W.ne_bytes (b8 I q (congrArg not dec_byt))
  | _=>exact absurd (show false=true from hs) Bool.false_ne_true
 | _=>cases y <;> exact absurd (show false=true from hs) Bool.false_ne_true
theorem op_lt:OpR X (compareOp .Lt) (rI0 fun i j=>.bl (decide (i < j))):=opB0 fun _ _ _ _ _ _ _ q=>lt_int q
theorem op_le:OpR X (compareOp .LtE) (rI0 fun i j=>.bl (decide (i≤j))):=opB0 fun _ _ _ _ _ _ _ q=>le_int q
theorem op_gt:OpR X (compareOp .Gt) (rI0 fun i j=>.bl (decide (j < i))):=opB0 fun _ _ _ _ _ _ _ q=>gt_int q
theorem op_ge:OpR X (compareOp .GtE) (rI0 fun i j=>.bl (decide (j≤i))):=opB0 fun _ _ _ _ _ _ _ q=>ge_int q
theorem op_isN:OpR X (compareOp .Is) (fun x y H Q=>y=.non∧Q (.bl (decide (x=.non))) H):=by
 intro pins s σ H x y v u Q I rx ry h
 obtain⟨rfl,q⟩:=h
 cases ry
 refine is_none_gen (b8 I q ?_)
 cases x <;> first
  | (cases rx;rfl)
  | (obtain⟨t,rfl⟩:=rx;rfl)
theorem op_notN:OpR X (compareOp .IsNot) (fun x y H Q=>y=.non∧Q (.bl (!decide (x=.non))) H):=by
 intro pins s σ H x y v u Q I rx ry h
 obtain⟨rfl,q⟩:=h
 cases ry
 refine isnot_none_gen (b8 I q ?_)
 cases x <;> first
  | (cases rx;rfl)
  | (obtain⟨t,rfl⟩:=rx;rfl)
theorem bP (b:Expr) {op:CmpOp} (h:op≠.In:=by decide) (h2:op≠.NotIn:=by decide):behindInMarks op b=false:=by
 have e1:(op == CmpOp.In)=false:=by cases op <;> first | rfl | exact absurd rfl h
 have e2:(op == CmpOp.NotIn)=false:=by cases op <;> first | rfl | exact absurd rfl h2
 cases b <;> simp [behindInMarks,e1,e2]
theorem pe_cmpR {op:CmpOp}{r:R2} (ho:OpR X (compareOp op) r) (ha:PE X a ta) (hb:PE X b tb) (hm:behindInMarks op b=false):PE X (.Compare a [op] [b] pos) (tOp r ta tb):=by
 intro pins s σ H Q I h
 exact wpAny_Compare1 (binT ha hb I h fun v u s2 x y H2 I2 rx ry q=>ho pins s2 σ H2 x y v u Q I2 rx ry q) hm
noncomputable def tTest (t:TE):TT:=fun σ H Q=>t σ H fun x H'=>∃ k,x=.bl k∧Q k H'
theorem bG {op:CmpOp}{r:R2} (ho:OpR X (compareOp op) r) (ha:PE X a ta) (hb:PE X b tb) (hm:behindInMarks op b=false):PT X (.Compare a [op] [b] pos) (tTest (tOp r ta tb)):=by
 intro pins s σ H Q I h
 refine wpAny_isTrue_Compare1 (cM (ha pins s σ H _ I h) fun v s1 ⟨x,H1,I1,r1,q1⟩=>cM (hb pins s1 σ H1 _ I1 q1) fun u s2 ⟨y,H2,I2,r2,q2⟩=>
  cM (ho pins s2 σ H2 x y v u _ I2 r1 r2 q2) fun c s3 ⟨z,H3,I3,r3,k,e,q3⟩=>?_) hm
 subst e
 cases r3
 exact wpAny_truthy_bool ⟨H3,I3,q3⟩
noncomputable def tChain (r r':R2) (ta tb tc:TE):TE:=fun σ H Q=>ta σ H fun x H1=>tb σ H1 fun y H2=>r x y H2 fun z H3=>∃ k,z=.bl k∧
 (if k=true then tc σ H3 fun w' H4=>r' y w' H4 Q else Q (.bl false) H3)
theorem pe_chain {op op':CmpOp}{r r':R2} (ho:OpR X (compareOp op) r) (ho':OpR X (compareOp op') r') (ha:PE X a ta) (hb:PE X b tb) (hc:PE X c tc)
  (hm:lastMarks [op,op'] [b,c]=false:=by with_unfolding_all rfl):PE X (.Compare a [op,op'] [b,c] pos) (tChain r r' ta tb tc):=by
 intro pins s σ H Q I h
 refine Compare_chain (cM (ha pins s σ H _ I h) fun v s1 ⟨x,H1,I1,r1,q1⟩=>chain_link (cM (hb pins s1 σ H1 _ I1 q1) fun u s2 ⟨y,H2,I2,r2,q2⟩=>
  cM (ho pins s2 σ H2 x y v u _ I2 r1 r2 q2) fun d s3 ⟨z,H3,I3,r3,k,e,q3⟩=>?_)) hm
 subst e
 cases r3
 refine wpAny_truthy_bool ?_
 cases k with
 | false=>exact ite_ff ⟨.bl false,H3,I3,rfl,q3⟩
 | true=>exact ite_tt (chain_last (cM (hc pins s3 σ H3 _ I3 q3) fun w' s4 ⟨z',H4,I4,r4,q4⟩=>ho' pins s4 σ H4 y z' u w' Q I4 r2 r4 q4))
theorem pt_chain {op op':CmpOp}{r r':R2} (ho:OpR X (compareOp op) r) (ho':OpR X (compareOp op') r') (ha:PE X a ta) (hb:PE X b tb) (hc:PE X c tc)
  (hm:lastMarks [op,op'] [b,c]=false:=by with_unfolding_all rfl):PT X (.Compare a [op,op'] [b,c] pos) (tTest (tChain r r' ta tb tc)):=by
 intro pins s σ H Q I h
 refine isTrue_chain (cM (ha pins s σ H _ I h) fun v s1 ⟨x,H1,I1,r1,q1⟩=>test_link (cM (hb pins s1 σ H1 _ I1 q1) fun u s2 ⟨y,H2,I2,r2,q2⟩=>
  cM (ho pins s2 σ H2 x y v u _ I2 r1 r2 q2) fun d s3 ⟨z,H3,I3,r3,k,e,q3⟩=>?_)) hm
 subst e
 cases r3
 refine wpAny_truthy_bool ?_
 cases k with
 | false=>
  obtain⟨k',e',q'⟩:=q3
  cases e'
  exact ite_ff ⟨H3,I3,q'⟩
 | true=>
  refine ite_tt (test_last (cM (hc pins s3 σ H3 _ I3 q3) fun w' s4 ⟨z',H4,I4,r4,q4⟩=>cM (ho' pins s4 σ H4 y z' u w' _ I4 r2 r4 q4) fun d' s5 ⟨z2,H5,I5,r5,k2,e2,q5⟩=>?_))
  subst e2
  cases r5
  exact wpAny_truthy_bool ⟨H5,I5,q5⟩
noncomputable def TruV (K:PySem.W.Frag) (x:V) (H:Hp) (k:Bool):Prop:=
 match x with
 | .non=>k=false
 | .bl b=>k=b
 | .int i=>k=(i != 0)
 | .str y=>y.length≤sizeLine∧k=((y.length:Int) != 0)
 | .byt y=>y.size≤sizeLine∧k=((y.size:Int) != 0)
 | .ref p=>(∃ xs,bX K H p xs∧k = !xs.isEmpty)∨(∃ xs,bL K H p xs∧k = !xs.isEmpty)∨∃ kvs,H p=some (.dK kvs)∧k = !kvs.isEmpty
 | _=>False
theorem isEmpty_kv {κ:Type}{kvs:List (κ×V)}{vs:List (κ×Value)} (r:KV kvs vs):(!vs.isEmpty) = !kvs.isEmpty:=by
 cases r <;> rfl
theorem isEmpty_of {xs:List V}{its:List Value} (r:b0 xs its):(!its.toArray.isEmpty) = !xs.isEmpty:=by
 cases r <;> simp
theorem line63:(sizeLine:Nat) < 2 ^ 63:=by rw[sizeLine_eq];decide
theorem tru_ok:TruR X (fun x H Q=>∃ k,TruV X.K x H k∧Q k H):=by
 intro pins s σ H x v Q I rx h
 obtain⟨k,e,q⟩:=h
 have hl:=line63
 have hs:sizeLine=16777216:=sizeLine_eq
 cases x with
 | non=>
  cases rx
  have e':k=false:=e
  subst e'
  exact truthy_none ⟨H,I,q⟩
 | bl b=>
  cases rx
  have e':k=b:=e
  subst e'
  exact wpAny_truthy_bool ⟨H,I,q⟩
 | int i=>
  obtain⟨t,rfl⟩:=rx
  have e':k=(i != 0):=e
  subst e'
  exact PySem.P.truthy_int ⟨H,I,q⟩
 | str y=>
  obtain⟨t,rfl⟩:=rx
  obtain⟨hy,e'⟩:y.length≤sizeLine∧k=((y.length:Int) != 0):=e
  subst e'
  exact PySem.P.truthy_str (by omega) ⟨H,I.tok _,q⟩
 | byt y=>
  obtain⟨t,rfl⟩:=rx
  obtain⟨hy,e'⟩:y.size≤sizeLine∧k=((y.size:Int) != 0):=e
  subst e'
  exact PySem.W.truthy_bytes (by omega) ⟨H,I.tok _,q⟩
 | ref p=>
  cases rx
  have e':(∃ xs,bX X.K H p xs∧k = !xs.isEmpty)∨(∃ xs,bL X.K H p xs∧k = !xs.isEmpty)∨∃ kvs,H p=some (.dK kvs)∧k = !kvs.isEmpty:=e
  rcases e' with ⟨xs,hx,e'⟩ | ⟨xs,hx,e'⟩ | ⟨kvs,hx,e'⟩
  ·subst e'
   obtain⟨its,r,pl,hz⟩:=I.list hx
   have hlen:=r.length
   exact wpAny_truthy_list pl.isList (by simp only [List.size_toArray];omega) ⟨H,I.tok _,by rw[isEmpty_of r];exact q⟩
  ·subst e'
   obtain⟨its,r,pl,hz⟩:=I.tuple hx
   have hlen:=r.length
   exact truthy_tuple pl (by simp only [List.size_toArray];omega) ⟨H,I.tok _,by rw[isEmpty_of r];exact q⟩
  ·subst e'
   obtain⟨hz,hS,vs,r,m⟩:kvs.length≤sizeLine∧(p == sysModules)=false∧∃ vs,KV kvs vs∧s.heap.DictOf (mixKind X.prog X.w) p vs:=I.hok p _ hx
   have hlen:kvs.length=vs.length:=Paired.length r
   exact wpAny_truthy_dict hS m (by omega) ⟨H,I.tok _,by rw[isEmpty_kv r];exact q⟩
 | _=>exact (show False from e).elim
theorem vals1 {x:V}{us:List Value} (r:b0 [x] us):∃ u,us=[u]∧aY x u:=by
 cases r with
 | cons r1 r2=>cases r2;exact⟨_,rfl,r1⟩
theorem vals2 {x y:V}{us:List Value} (r:b0 [x,y] us):∃ u w',us=[u,w']∧aY x u∧aY y w':=by
 cases r with
 | cons r1 r2=>
  cases r2 with
  | cons r3 r4=>cases r4;exact⟨_,_,rfl,r1,r3⟩
theorem call_max2 (hc:X.calm=true):d6 X (.builtin "max") (fun xs H Q=>∃ i j,xs=[.int i,.int j]∧Q (.int (if j > i then j else i)) H):=by
 intro pins s σ H xs us Q I r h
 obtain⟨i,j,rfl,q⟩:=h
 obtain⟨u,w',rfl,⟨t,rfl⟩,⟨t',rfl⟩⟩:=vals2 r
 refine max_two_ints (I.ok.hd hc) fun h' tk k=>⟨_,H,I.kept k,?_,q⟩
 by_cases hj:j > i
 ·rw[if_pos hj,if_pos hj];exact⟨_,rfl⟩
 ·rw[if_neg hj,if_neg hj];exact⟨_,rfl⟩
theorem call_min2 (hc:X.calm=true):d6 X (.builtin "min") (fun xs H Q=>∃ i j,xs=[.int i,.int j]∧Q (.int (if j < i then j else i)) H):=by
 intro pins s σ H xs us Q I r h
 obtain⟨i,j,rfl,q⟩:=h
 obtain⟨u,w',rfl,⟨t,rfl⟩,⟨t',rfl⟩⟩:=vals2 r
 refine min_two_ints (I.ok.hd hc) fun h' tk k=>⟨_,H,I.kept k,?_,q⟩
 by_cases hj:j < i
 ·rw[if_pos hj,if_pos hj];exact⟨_,rfl⟩
 ·rw[if_neg hj,if_neg hj];exact⟨_,rfl⟩
end
end L2
namespace L2
open PySem PySem.Spec PyProof.Rows
structure ObjM (h:Heap) (x dx C:Addr) (mA:Str→Option Value):Prop where
 obj:h.get? x=some (PySem.W.instObj C dx)
 ns:h.Ns1 dx mA
 ne:dx≠x
theorem lookIn_ns {h:Heap}{dx:Addr}{mA:Str→Option Value} (n:h.Ns1 dx mA):∃ od,h.get? dx=some od∧∀ name,PySem.W.lookIn name od=some (mA name):=by
 obtain⟨o,es,ep,ho,hd,hk,_,hm⟩:=n
 refine⟨o,ho,fun name=>?_⟩
 have e:=hm name
 unfold nsFind findBy at e
 rw[← Array.find?_toList] at e
 unfold PySem.W.lookIn
 rw[hd]
 dsimp only
 split
 ·rename_i y q
  rw[q] at e
  exact congrArg some e
 ·rename_i q
  rw[q] at e
  have a:es.toList.any (·.refKey)=false:=by
   rw[List.any_eq_false]
   intro y hy
   obtain⟨z,t,hkey⟩:=hk y (Array.mem_toList_iff.mp hy)
   simp [DictEntry.refKey,hkey]
  have a':¬ es.toList.any (·.refKey)=true:=by rw[a];exact Bool.false_ne_true
  rw[if_neg a']
  exact congrArg some e
theorem ObjM.look {h:Heap}{x dx C:Addr}{mA:Str→Option Value} (I:ObjM h x dx C mA):∃ od,PySem.W.InstAt h x (PySem.W.instObj C dx) C (some od)∧∀ name,PySem.W.lookIn name od=some (mA name):=
 let ⟨od,ho,hl⟩:=lookIn_ns I.ns
 ⟨od,⟨I.obj,rfl,rfl,ho⟩,hl⟩
section
variable {prog:Program}{w:World}{A:Around}{E:Value→Shared→Prop}{s:Shared}{K:PySem.W.Frag}{x dx C f:Addr}{mA:Str→Option Value}{name:Str}{v:Value}
end
theorem RelO.some_of {v:V}{o:Option Value} (r:RelO (some v) o):∃ u,o=some u∧aY v u:=by
 cases o with
 | none=>exact (show False from r).elim
 | some u=>exact⟨u,rfl,r⟩
section
variable {P:Program}{w:World}{H H':Hp}{h h':Heap}{a C dx:Addr}{fs fs':List (Str×V)}
theorem ins_get (hok:HOk P w H h) (e:H a=some (.ins C dx fs)):∃ mA,ObjM h a dx C mA∧(∀ f,RelO (fs.lookup f) (mA f))∧PySem.Within mA (fs.map (·.1))∧fs.length≤1000∧H dx=some (.own a):=by
 obtain⟨d,z,ne,ob,mA,n,r,q⟩:=(show cB P w H h a (.ins C dx fs) from hok a _ e)
 exact⟨mA,⟨ob,n,ne⟩,r,q,z,d⟩
end
structure Cls (K:PySem.W.Frag) (C:Addr):Prop where
 pg:PySem.W.plainGet K C Str.empty=true
 hd:PySem.W.hasDictIn K C=true
 po:PySem.W.plainOver K C=true
 sa:PySem.W.findIn K (.ref C) "__setattr__" = some (some (.builtin "object.__setattr__"))
theorem Cls.get {K:PySem.W.Frag}{C:Addr} (c:Cls K C) (f:Str):PySem.W.plainGet K C f=true:=c.pg
section
variable {X:Cx}{pins:List (Addr×Obj)}{σ:St}{H:Hp}{s:Shared}{a C dx:Addr}{fs:List (Str×V)}{f:Str}{v:V}{A:Around}{E:Value→Shared→Prop}
end
section
variable {X:Cx}{o e value:Expr}{f:Str}{pos pos' tpos:Pos}{ta tv:TE}
end
section
variable {X:Cx}{pins:List (Addr×Obj)}{σ:St}{H:Hp}{s:Shared}{A:Around}{E:Value→Shared→Prop}{Q:Value→Shared→Prop}{c:Value}{b:Bool}
inductive TyOf (K:PySem.W.Frag) (H:Hp):V→Value→Prop where
 | non:TyOf K H .non (.type "NoneType")
 | bl (x:Bool):TyOf K H (.bl x) (.type "bool")
 | int (i:Int):TyOf K H (.int i) (.type "int")
 | str (x:Str):TyOf K H (.str x) (.type "str")
 | flt (x:UInt64):TyOf K H (.flt x) (.type "float")
 | lst {a:Addr}{xs:List V} (e:H a=some (.lst xs)):TyOf K H (.ref a) (.type "list")
 | frz {a:Addr}{o:Obj}{xs:List V} (e:H a=some (.frz o (.lst xs))):TyOf K H (.ref a) (.type "list")
 | tup {a:Addr}{xs:List V} (e:H a=some (.tup xs)):TyOf K H (.ref a) (.type "tuple")
 | dK {a:Addr}{kvs:List (Key×V)} (e:H a=some (.dK kvs)):TyOf K H (.ref a) (.type "dict")
 | dT {a:Addr}{kvs:List (List Key×V)} (e:H a=some (.dT kvs)):TyOf K H (.ref a) (.type "dict")
 | ins {a C dx:Addr}{fs:List (Str×V)} (e:H a=some (.ins C dx fs)) (cl:Cls K C) (ha:PySem.W.findIn K (.ref C) "__class__" = some (some (.builtin "object.__class__")))
   (hn:PySem.W.specialIn K (.builtin "object.__class__") "__get__" = some (some (.builtin "getset_descriptor.__get__"))) (htk:PySem.W.takesIn K (.builtin "object.__class__")=some true)
   (hm:PySem.W.mroIn K C (.type "object")=some true):TyOf K H (.ref a) (.ref C)
theorem isinst_ok {x:V}{u t:Value} (I:Inv X pins σ H s) (rx:aY x u) (ty:TyOf X.K H x t) (e:PySem.W.kitOne X.K t c=some b) (h:∀ tk,Q (.bool b) { s with toks:=tk }) :
  wpAny (model X.prog X.w) A (call (.builtin "isinstance") [u,c]) Q E s:=by
 cases ty with
 | non=>cases (show u=Value.none from rx);exact PySem.W.kia_one PySem.W.kitx_none I.kIn True.intro e (fun z=>nomatch z) h
 | bl y=>cases (show u=Value.bool y from rx);exact PySem.W.kia_one PySem.W.kitx_bool I.kIn True.intro e (fun z=>nomatch z) h
 | int i=>obtain⟨t,q⟩:=(show ∃ t,u=Value.int i t from rx);cases q;exact PySem.W.kia_one PySem.W.kitx_int I.kIn True.intro e (fun z=>nomatch z) h
 | str y=>obtain⟨t,q⟩:=(show ∃ t,u=Value.str y t from rx);cases q;exact PySem.W.kia_one PySem.W.kitx_str I.kIn True.intro e (fun z=>nomatch z) h
 | flt y=>obtain⟨t,q⟩:=(show ∃ t,u=Value.float y t from rx);cases q;exact PySem.W.kia_one PySem.W.kitx_float I.kIn True.intro e (fun z=>nomatch z) h
 | @lst a xs ea=>
  cases (show u=Value.ref a from rx)
  obtain⟨_,_,n,_,h1⟩:=(show cB X.prog X.w H s.heap a (.lst xs) from I.hok a _ ea)
  exact PySem.W.kia_one PySem.W.kitx_list I.kIn ⟨_,h1,rfl⟩ e (fun z=>nomatch z) h
 | @frz a ob xs ea=>
  cases (show u=Value.ref a from rx)
  obtain⟨_,_,_,n,_,h1⟩:=(show cB X.prog X.w H s.heap a (.frz ob (.lst xs)) from I.hok a _ ea)
  exact PySem.W.kia_one PySem.W.kitx_list I.kIn ⟨_,h1,rfl⟩ e (fun z=>nomatch z) h
 | @tup a xs ea=>
  cases (show u=Value.ref a from rx)
  obtain⟨_,_,_,p⟩:=(show cB X.prog X.w H s.heap a (.tup xs) from I.hok a _ ea)
  obtain⟨o,h1,h2,_⟩:=p
  exact PySem.W.kia_one PySem.W.kitx_tuple I.kIn ⟨o,h1,h2⟩ e (fun z=>nomatch z) h
 | @dK a kvs ea=>
  cases (show u=Value.ref a from rx)
  obtain⟨_,_,vs,_,p⟩:=(show cB X.prog X.w H s.heap a (.dK kvs) from I.hok a _ ea)
  obtain⟨o,es,ep,h1,h2,_⟩:=p
  exact PySem.W.kia_one PySem.W.kitx_dict I.kIn ⟨o,h1,h2.1⟩ e (fun z=>nomatch z) h
 | @dT a kvs ea=>
  cases (show u=Value.ref a from rx)
  obtain⟨_,_,xs,_,o,es,ep,h1,h2,_⟩:=(show cB X.prog X.w H s.heap a (.dT kvs) from I.hok a _ ea)
  exact PySem.W.kia_one PySem.W.kitx_dict I.kIn ⟨o,h1,h2.1⟩ e (fun z=>nomatch z) h
 | @ins a C dx fs ea cl ha hn htk hm=>
  cases (show u=Value.ref a from rx)
  obtain⟨mA,O,_⟩:=ins_get I.hok ea
  obtain⟨od,J,_⟩:=O.look
  exact PySem.W.kia_one (PySem.W.kitx_own (cl.get _) cl.hd ha hn htk hm) I.kIn J e (fun z=>nomatch z) h
end
end L2
namespace L2
open PySem PySem.Spec PyProof.Rows
structure Room (k:Nat) (A:Around):Prop where
 hd:A.handled=none
 dp:A.depth+3 * k+5 < recursionLimit
 un:A.units+16 * k+200 < cLine
theorem Room.mono {j k:Nat}{A:Around} (r:Room k A) (h:j≤k):Room j A:=⟨r.hd,by have:=r.dp;omega,by have:=r.un;omega⟩
theorem Room.deeper {k:Nat}{A:Around} (r:Room (k+1) A) (env:Env):Room k (A.deeper env):=
 ⟨r.hd,by have:=r.dp;show A.depth+1+3 * k+5 < _;omega,by have:=r.un;show A.units+3+16 * k+200 < _;omega⟩
theorem Room.depth {k:Nat}{A:Around} (r:Room k A):A.depth < recursionLimit:=by have:=r.dp;omega
theorem Room.units {k:Nat}{A:Around} (r:Room k A):A.units+64 < cLine:=by have:=r.un;omega
noncomputable def cZ:TA:=fun _ H Q=>Q [] H
noncomputable def aV (ta:TE) (tr:TA):TA:=fun σ H Q=>ta σ H fun x H1=>tr σ H1 fun xs H2=>Q (x::xs) H2
section
variable {X:Cx}{e:Expr}{es:List Expr}{te:TE}{t:TA}{pos:Pos}
theorem aB:PA X [] cZ:=fun _ _ _ _ H Q I h=>Calls.spliced_nil ⟨[],H,I,.nil,h⟩
theorem aA (ha:PE X e te) (hr:PA X es t) (hs:starEach (e::es) X.env=(false,eval e X.env)::starEach es X.env:=by rfl):PA X (e::es) (aV te t):=by
 intro pos pins s σ H Q I h
 rw[hs]
 show wpAny _ _ (spliced ((false,eval e X.env)::backTo pos (starEach es X.env))) _ _ s
 refine Calls.spliced_cons (cM (ha pins s σ H _ I h) fun u s1 ⟨x,H1,I1,r1,q1⟩=>?_)
 exact cM (hr pos pins s1 σ H1 _ I1 q1) fun us s2 ⟨xs,H2,I2,r2,q2⟩=>⟨x::xs,H2,I2,.cons r1 r2,q2⟩
noncomputable def tTup (t:TA):TE:=fun σ H Q=>t σ H fun xs H1=>xs.length≤sizeLine∧∀ p,H1 p=none→Q (.ref p) (upd H1 p (.tup xs))
noncomputable def tLst (t:TA):TE:=fun σ H Q=>t σ H fun xs H1=>xs.length≤sizeLine∧∀ p,H1 p=none→Q (.ref p) (upd H1 p (.lst xs))
theorem bO {x1} (h:PA X es t):PE X (.Tuple es x1 pos) (tTup t):=by
 intro pins s σ H Q I hq
 refine wpAny_Tuple_spliced (cM (h pos pins s σ H _ I hq) fun us s1 ⟨xs,H1,I1,r,z,q⟩=>⟨by rw[← r.length];exact z,?_⟩)
 have hf:H1 s1.heap.objs.size=none:=I1.hok.fresh (Nat.le_refl _)
 refine⟨.ref s1.heap.objs.size,upd H1 s1.heap.objs.size (.tup xs),I1.laid (t':=s1.toks) (fun b u e=>Heap.get?_push_of_some _ e) (Nat.le_refl _) ?_,rfl,q _ hf⟩
 exact⟨z,us,r,⟨_,Heap.get?_push_size _ rfl,rfl,_,rfl⟩⟩
theorem dA (h:PA X es t):PE X (.List es pos) (tLst t):=by
 intro pins s σ H Q I hq
 refine wpAny_List_spliced (cM (h pos pins s σ H _ I hq) fun us s1 ⟨xs,H1,I1,r,z,q⟩=>⟨by rw[← r.length];exact z,?_⟩)
 have hf:H1 s1.heap.objs.size=none:=I1.hok.fresh (Nat.le_refl _)
 refine⟨.ref s1.heap.objs.size,upd H1 s1.heap.objs.size (.lst xs),I1.laid (t':=s1.toks) (fun b u e=>Heap.get?_push_of_some _ e) (Nat.le_refl _) ?_,rfl,q _ hf⟩
 exact⟨z,us,0,r,Heap.get?_push_size _ rfl⟩
end
noncomputable abbrev Sp:=List V→Hp→VK→XK→Prop
noncomputable abbrev CXT:=List Env→Hp→Shared→XK→Value→Shared→Prop
structure Env0 (P:Program) (w:World) (K:PySem.W.Frag) (mg:Str→Option Value) (base:Heap) (A:Around) (outer:List Env) (s:Shared) (H:Hp):Prop where
 frames:A.frames=some outer
 mod:Mod K mg base
 bs:∀ b o,base.get? b=some o→s.heap.get? b=some o∧H b=none
 bsz:base.objs.size≤s.heap.objs.size
 funs:s.heap.FunFrames base outer
 frf:∀ b∈frs outer,H b=none
 hok:HOk P w H s.heap
 bare:AllBare s.gens
noncomputable def CE (outer:List Env) (P:Program) (w:World) (H:Hp) (s:Shared) (Q:VK) (u:Value) (s':Shared):Prop:=
 ∃ v H',s'.os=s.os∧AllBare s'.gens∧Un (frs outer) [] H H' s.heap s'.heap∧HOk P w H' s'.heap∧aY v u∧Q v H'
noncomputable def CR (CX:CXT) (outer:List Env) (P:Program) (w:World) (H:Hp) (s:Shared) (Q:VK) (E:XK) (r:Result) (s':Shared):Prop:=
 match r with
 | .ok (.ret u)=>CE outer P w H s Q u s'
 | .ok _=>False
 | .error e=>CX outer H s E e s'
structure FnOk (P:Program) (w:World) (K:PySem.W.Frag) (mg:Str→Option Value) (base:Heap) (CX:CXT) (k:Nat) (f:Addr) (fd:FuncData) (ps:List Str) (sp:Sp):Prop where
 len:∀ vs H Q E,sp vs H Q E→vs.length=ps.length
 run:∀ (A:Around) (outer:List Env) (s:Shared) (H:Hp) (args:Args) (us:List Value) (vs:List V) (Q:VK) (E:XK),Room k A→Env0 P w K mg base A outer s H→BindsTo s fd args (ps.zip us)→b0 vs us→sp vs H Q E→
  codeAny (model P w) A (.call (.ref f) args) (CR CX outer P w H s Q E) s
theorem FnOk.imp {P:Program}{w:World}{K:PySem.W.Frag}{mg:Str→Option Value}{base:Heap}{CX:CXT}{k:Nat}{f:Addr}{fd:FuncData}{ps:List Str}{sp sp':Sp} (F:FnOk P w K mg base CX k f fd ps sp)
  (h:∀ vs H Q E,sp' vs H Q E→sp vs H Q E):FnOk P w K mg base CX k f fd ps sp':=
 ⟨fun vs H Q E q=>F.len vs H Q E (h _ _ _ _ q),fun A outer s H args us vs Q E hr he hb hv hs=>F.run A outer s H args us vs Q E hr he hb hv (h _ _ _ _ hs)⟩
section
variable {X:Cx}{pins:List (Addr×Obj)}{σ:St}{H:Hp}{s s':Shared}
theorem Inv.env0 (I:Inv X pins σ H s):Env0 X.prog X.w X.K X.mg X.base X.A X.stack s H:=
 ⟨I.ok.frames,I.ok.mod,I.bs,Nat.le_trans I.ok.bsz I.sz,I.stack,I.stkFree,I.hok,I.bare⟩
theorem Inv.after {Q:VK}{u:Value} (I:Inv X pins σ H s) (h:CE X.stack X.prog X.w H s Q u s'):EP X pins σ Q u s':=by
 obtain⟨v,H',os,bare,un,hok,r,q⟩:=h
 obtain⟨hh,g,d,t,os'⟩:=s'
 obtain rfl:os'=s.os:=os
 exact⟨v,H',I.call (h':=hh) (g':=g) (d':=d) (t':=t) (ch:=[]) un hok bare (fun b z=>absurd z (by simp)),r,q⟩
end
noncomputable def tCall (sp:Sp) (dvs:List V) (E:XK) (t:TA):TE:=fun σ H Q=>t σ H fun vs H1=>sp (vs++dvs) H1 Q E
noncomputable def Binds (K:PySem.W.Frag) (fd:FuncData) (ps:List Str) (ds:List Value):Prop:=
 ∀ (s:Shared) (us:List Value),K.In s.heap→(us++ds).length=ps.length→BindsTo s fd ⟨us,[]⟩ (ps.zip (us++ds))
theorem Binds.all {K:PySem.W.Frag}{fd:FuncData}{ps:List Str} (h:∀ us:List Value,us.length=ps.length→bindArgs fd ⟨us,[]⟩=pure (ps.zip us)):Binds K fd ps []:=fun s us _ hl=>by
 rw[List.append_nil] at hl ⊢
 exact .of_eq (h us hl)
noncomputable def Passes (CX:CXT) (X:Cx) (E:XK):Prop:=∀ (pins:List (Addr×Obj)) (σ:St) (H:Hp) (s:Shared) (e:Value) (s':Shared),Inv X pins σ H s→CX X.stack H s E e s'→X.xe e s'
section
variable {X:Cx}{CX:CXT}{k:Nat}{f C:Addr}{fd:FuncData}{ps:List Str}{sp:Sp}{dvs:List V}{ds:List Value}{E:XK}{x m:Str}{p pos apos:Pos}{e o:Expr}{es:List Expr}{ta:TE}{t:TA}
theorem run_fn {pins:List (Addr×Obj)}{σ:St}{H:Hp}{s:Shared}{Q:VK}{us:List Value}{vs:List V} (F:FnOk X.prog X.w X.K X.mg X.base CX k f fd ps sp) (hr:Room k X.A) (hb:Binds X.K fd ps ds) (hd:b0 dvs ds) (hx:Passes CX X E)
  (I:Inv X pins σ H s) (r:b0 vs us) (h:sp (vs++dvs) H Q E):wpAny (model X.prog X.w) X.A (call (.ref f) us) (EP X pins σ Q) X.xe s:=by
 have r2:b0 (vs++dvs) (us++ds):=r.append hd
 have hl:(us++ds).length=ps.length:=by rw[← r2.length];exact F.len _ _ _ _ h
 refine wpAny_call (codeAny_mono (F.run X.A X.stack s H ⟨us,[]⟩ (us++ds) (vs++dvs) Q E hr I.env0 (hb s us I.kIn hl) r2 h) fun r s' hq=>?_)
 cases r with
 | error e=>exact hx pins σ H s e s' I hq
 | ok fl=>
  cases fl with
  | ret u=>exact I.after hq
  | next=>exact False.elim hq
  | brk=>exact False.elim hq
  | cont=>exact False.elim hq
theorem pe_call (F:FnOk X.prog X.w X.K X.mg X.base CX k f fd ps sp) (hr:Room k X.A) (hg:Gl X x) (hm:X.mg x=some (.ref f)) (hk:PySem.W.keepIn X.K (.ref f)=true) (hb:Binds X.K fd ps ds) (hd:b0 dvs ds) (hx:Passes CX X E)
  (ha:PA X (e::es) t) (hdb:(x == ("__debug__" : Str))=false:=by decide) (he:starEach (e::es) X.env=(false,eval e X.env)::starEach es X.env:=by rfl) (hpl:(backTo pos (starEach es X.env)).any (·.1)=false:=by rfl) :
  PE X (.Call (.Name x p) (e::es) [] pos) (tCall sp dvs E t):=by
 intro pins s σ H Q I h
 refine wpAny_Call_Name_kw (ld_glob I hg hm ?_ hdb)
 refine PySem.W.callWith_K (h₀:=X.base) I.ok.mod.kin hk (cM (ha pos pins s σ H _ I h) fun us s1 ⟨vs,H1,I1,r,q⟩=>⟨I1.kIn,?_⟩) he hpl
 exact run_fn F hr hb hd hx I1 r q
end
section
variable {X:Cx}{CX:CXT}{k:Nat}{f C:Addr}{fd:FuncData}{ps ks:List Str}{sp:Sp}{E:XK}{x m:Str}{p pos apos kpos:Pos}{e o:Expr}{es:List Expr}{kws:List Keyword}{te ta:TE}{t tk:TA}{nm:Option Str}
variable {g:List Value→List Value→List Value}{gV:List V→List V→List V}
end
structure FnScope (N P:List Str) (sc:Scope):Prop where
 kind:sc.kind=.function
 co:sc.isCoroutine=false
 gen:sc.isGenerator=false
 nd:N.Nodup
 pre:N.take P.length=P
 par:∀ x∈P,sc.names.lookup x=some .local∨sc.names.lookup x=some .cell
 nofree:∀ y∈sc.names,y.2≠.free
theorem bindL_out {kindOf:Str→Option NameKind}{x:Str}:∀ {binds:List (Str×Value)}{m:Str→Option Value},(∀ v,(x,v)∉binds)→bindL kindOf binds m x=m x
 | [],_,_=>rfl
 | (n,v)::r,m,h=>by
  unfold bindL
  rw[bindL_out fun w hw=>h w (List.mem_cons_of_mem _ hw)]
  split
  ·have:x≠n:=by rintro rfl;exact h v List.mem_cons_self
   simp [this]
  ·rfl
theorem bindC_out {kindOf:Str→Option NameKind}{x:Str}:∀ {binds:List (Str×Value)}{m:Str→Option Value},(∀ v,(x,v)∉binds)→bindC kindOf binds m x=m x
 | [],_,_=>rfl
 | (n,v)::r,m,h=>by
  unfold bindC
  rw[bindC_out fun w hw=>h w (List.mem_cons_of_mem _ hw)]
  split
  ·rfl
  ·have:x≠n:=by rintro rfl;exact h v List.mem_cons_self
   simp [this]
theorem bindL_get {kindOf:Str→Option NameKind}{x:Str}{v:Value}:∀ {P:List Str}{vs:List Value}{i:Nat}{m:Str→Option Value},P.Nodup→P[i]? = some x→vs[i]? = some v→kindOf x=some .local→
  bindL kindOf (P.zip vs) m x=some v
 | [],_,_,_,_,h,_,_=>by simp at h
 | _::_,[],_,_,_,_,h,_=>by simp at h
 | p::P,w::vs,0,m,nd,h1,h2,hk=>by
  simp at h1 h2;subst h1;subst h2
  show bindL kindOf ((p,w)::P.zip vs) m p=_
  unfold bindL
  rw[bindL_out fun v hv=>(List.nodup_cons.mp nd).1 (List.of_mem_zip hv).1,if_pos hk]
  simp
 | p::P,w::vs,i+1,m,nd,h1,h2,hk=>by
  show bindL kindOf ((p,w)::P.zip vs) m x=_
  unfold bindL
  exact bindL_get (i:=i) (List.nodup_cons.mp nd).2 (by simpa using h1) (by simpa using h2) hk
theorem bindC_get {kindOf:Str→Option NameKind}{x:Str}{v:Value}:∀ {P:List Str}{vs:List Value}{i:Nat}{m:Str→Option Value},P.Nodup→P[i]? = some x→vs[i]? = some v→kindOf x≠some .local→
  bindC kindOf (P.zip vs) m x=some v
 | [],_,_,_,_,h,_,_=>by simp at h
 | _::_,[],_,_,_,_,h,_=>by simp at h
 | p::P,w::vs,0,m,nd,h1,h2,hk=>by
  simp at h1 h2;subst h1;subst h2
  show bindC kindOf ((p,w)::P.zip vs) m p=_
  unfold bindC
  rw[bindC_out fun v hv=>(List.nodup_cons.mp nd).1 (List.of_mem_zip hv).1,if_neg hk]
  simp
 | p::P,w::vs,i+1,m,nd,h1,h2,hk=>by
  show bindC kindOf ((p,w)::P.zip vs) m x=_
  unfold bindC
  exact bindC_get (i:=i) (List.nodup_cons.mp nd).2 (by simpa using h1) (by simpa using h2) hk
noncomputable def start (N:List Str) (vs:List V):St:=vs.map some++List.replicate (N.length - vs.length) none
noncomputable def cxOf (CX:CXT) (P:Program) (w:World) (K:PySem.W.Frag) (mg:Str→Option Value) (base:Heap) (N:List Str) (qual:Str) (scope:Scope) (f:Addr) (cd:Value) (A:Around) (outer:List Env) (s:Shared) (H:Hp) (E:XK):Cx where
 prog:=P
 w:=w
 K:=K
 mg:=mg
 base:=base
 A:=A.deeper (envOfC qual scope s.heap.objs.size f cd)
 N:=N
 s₀:=s
 H₀:=H
 env:=envOfC qual scope s.heap.objs.size f cd
 outer:=outer
 stack:=envOfC qual scope s.heap.objs.size f cd::outer
 ex:=[]
 calm:=true
 fn:=fun _=>true
 pn:=[]
 xe:=fun e s'=>wpAny (model P w) (A.deeper (envOfC qual scope s.heap.objs.size f cd)) (leaving (envOfC qual scope s.heap.objs.size f cd) e) (fun _ s''=>CX outer H s E e s'') (fun e' s''=>CX outer H s E e' s'') s'
theorem cell_has {sc:Scope}{n:Nat}{x:Str} (h:sc.names.lookup x=some .cell):∃ c,(cellsFrom n sc.names []).lookup x=some c:=by
 have q:=PySem.W.cellsFrom_some sc.names n [] (.inl h)
 exact Option.isSome_iff_exists.mp q
theorem inv_start {CX:CXT}{P:Program}{w:World}{K:PySem.W.Frag}{mg:Str→Option Value}{base:Heap}{N ps:List Str}{qual:Str}{scope:Scope}{f:Addr}{cd:Value}{A:Around}{outer:List Env}{s s1:Shared}{H:Hp}{E:XK}{us:List Value}{vs:List V}
  (S:FnScope N ps scope) (hd:A.handled=none) (e0:Env0 P w K mg base A outer s H) (hl:vs.length=ps.length) (r:b0 vs us)
  (x:InCallC s s.heap.objs.size (bindL (envOfC qual scope s.heap.objs.size f cd).kindOf (ps.zip us) fun _=>none) (cellsFrom (s.heap.objs.size+1) scope.names []) (bindC (envOfC qual scope s.heap.objs.size f cd).kindOf (ps.zip us) fun _=>none) s1) :
  Inv (cxOf CX P w K mg base N qual scope f cd A outer s H E) [] (start N vs) H s1:=by
 have hpl:ps.length≤N.length:=by have:=congrArg List.length S.pre;rw[List.length_take] at this;omega
 obtain⟨h1,tk,rfl,hk⟩:=x.done
 have noA:∀ b:Addr,b∉(cxOf CX P w K mg base N qual scope f cd A outer s H E).ex:=fun b z=>absurd (show b∈([]:List Addr) from z) (by simp)
 refine⟨⟨e0.mod,S.kind,rfl,rfl,Nat.le_refl _,fun y z c h1 h2=>?_,fun y hy=>?_,fun y c _ h=>?_,fun _=>hd,Around.frames_deeper e0.frames,.inr ⟨rfl,rfl⟩,fun b z=>absurd z (noA b),e0.bs,e0.bsz,fun b _ _=>noA b,fun b z=>absurd z (noA b),e0.funs,e0.frf⟩,
  rfl,e0.bare,Un.kept hk,⟨_,x.toInCall.ns,fun i y v h1 h2 h3=>?_⟩,fun y c h=>⟨_,x.cell y c h⟩,e0.hok.fresh (Nat.le_refl _),fun y c h=>?_,fun p hp=>absurd (show p∈([]:List (Addr×Obj)) from hp) (by simp),e0.hok.kept hk,?_⟩
 ·exact name_of_addr x.apart (PySem.mem_of_lookup h1) (PySem.mem_of_lookup h2)
 ·have hy:scope.names.lookup y=some .cell∨scope.names.lookup y=some .free:=hy
  rcases hy with hy | hy
  ·exact cell_has hy
  ·exact absurd rfl (S.nofree _ (PySem.mem_of_lookup hy))
 ·exact Nat.le_of_lt (x.above y c (PySem.mem_of_lookup h))
 ·have hi:i < vs.length:=by
   unfold start at h2
   by_cases hi:i < vs.length
   ·exact hi
   ·rw[List.getElem?_append_right (by simpa using hi)] at h2
    rw[List.getElem?_replicate] at h2
    split at h2 <;> cases h2
  have ha:vs[i]? = some v:=by
   unfold start at h2
   rw[List.getElem?_append_left (by simpa using hi),List.getElem?_map] at h2
   cases e:vs[i]? with
   | none=>rw[e] at h2;cases h2
   | some a=>rw[e] at h2;cases h2;rfl
  obtain⟨u,hu,rv⟩:=r.get ha
  have hp:ps[i]? = some y:=by
   rw[← S.pre,List.getElem?_take_of_lt (by omega)];exact h1
  have ndP:ps.Nodup:=by rw[← S.pre];exact S.nd.sublist (List.take_sublist _ _)
  refine⟨u,rv,?_⟩
  rcases S.par y (List.mem_of_getElem? hp) with k | k
  ·exact .inl ⟨k,bindL_get ndP hp hu k⟩
  ·obtain⟨c,e⟩:=cell_has (n:=s.heap.objs.size+1) k
   refine .inr ⟨.inl k,c,e,?_⟩
   have q:=x.cell y c e
   rw[bindC_get ndP hp hu (by show scope.names.lookup y≠_;rw[k];decide)] at q
   exact q
 ·exact e0.hok.fresh (Nat.le_of_lt (x.above y c (PySem.mem_of_lookup h)))
 ·unfold start
  show _=N.length
  rw[List.length_append,List.length_map,List.length_replicate]
  omega
theorem fn_of {CX:CXT}{P:Program}{w:World}{K:PySem.W.Frag}{mg:Str→Option Value}{base:Heap}{k:Nat}{f:Addr}{name qual:Str}{params:Arguments}{body:List Stmt}{scope:Scope}{dV kV doc pm cdv ct oc:Value}{an od:Option Addr}
  {osl:Array (Option Value)}{N ps:List Str}{sp:Sp} (lk:K.lookup f=some ⟨oc,od,.func (PySem.W.fnOf name qual params body scope dV kV doc pm an cdv ct),osl⟩) (hcd:PySem.W.codeIn K cdv qual=true) (S:FnScope N ps scope)
  (len:∀ vs H Q E,sp vs H Q E→vs.length=ps.length)
  (hbody:∀ (A:Around) (outer:List Env) (s:Shared) (H:Hp) (vs:List V) (Q:VK) (E:XK),Room k (A.deeper (envOfC qual scope s.heap.objs.size f cdv))→sp vs H Q E→
   ∃ t,PSs (cxOf CX P w K mg base N qual scope f cdv A outer s H E) body t∧t { nx:=fun _ H'=>Q .non H',rt:=Q } (start N vs) H) :
  FnOk P w K mg base CX (k+1) f (PySem.W.fnOf name qual params body scope dV kV doc pm an cdv ct) ps sp:=by
 refine⟨len,fun A outer s H args us vs Q E hr e0 hb r hsp=>?_⟩
 have hl:=len _ _ _ _ hsp
 have KX:K.In s.heap:=e0.mod.kin.keeps fun b o e=>(e0.bs b o e).1
 have lim:s.heap.NoLimit:=e0.mod.nolimit.keeps fun b o e=>(e0.bs b o e).1
 have hkind:∀ y∈ps.zip us,scope.names.lookup y.1=some .local∨(scope.names.lookup y.1=some .cell∧((cellsFrom (s.heap.objs.size+1) scope.names []).lookup y.1).isSome=true):=fun ⟨n,v⟩ hy=>by
  rcases S.par n (List.of_mem_zip hy).1 with q | q
  ·exact .inl q
  ·exact .inr ⟨q,PySem.W.cellsFrom_some _ _ _ (.inl q)⟩
 refine codeAny_call_function hr.depth (KX _ _ lk) rfl S.co S.gen rfl (PySem.W.codeRec_of KX hcd) (hb _ _ _ _ ?_)
 refine wpAny_newFunctionEnv_cells S.kind hkind fun env he s1 x=>?_
 subst he
 refine⟨lim.keeps x.toInCall.keep,codeAny_func ?_⟩
 obtain⟨t,ht,hq⟩:=hbody A outer s H vs Q E (hr.deeper _) hsp
 have I:Inv (cxOf CX P w K mg base N qual scope f cdv A outer s H E) [] (start N vs) H s1:=inv_start S hr.hd e0 hl r x
 refine wpAny_mono (ht [] s1 (start N vs) H _ I hq) (fun fl s' hs=>?_) fun e s' hs=>hs
 have fin:∀ {σ':St}{H':Hp}{v:V}{u:Value},Inv (cxOf CX P w K mg base N qual scope f cdv A outer s H E) [] σ' H' s'→aY v u→Q v H'→CE outer P w H s Q u s':=
  fun {σ' H' v u} J rv q=>⟨v,H',J.os,J.bare,J.base,J.hok,rv,q⟩
 cases fl with
 | ret u=>
  obtain⟨v,σ',H',J,rv,q⟩:=hs
  exact fin J rv q
 | next=>
  obtain⟨σ',H',J,q⟩:=hs
  exact fin (v:=V.non) (u:=Value.none) J rfl q
 | brk=>
  obtain⟨_,_,_,q⟩:=hs
  exact False.elim q
 | cont=>
  obtain⟨_,_,_,q⟩:=hs
  exact False.elim q
end L2
namespace L2
open PySem PySem.Spec PyProof.Rows
section
variable {X:Cx}{x:Str}{p pos:Pos}{e:Expr}{es:List Expr}{t:TA}{id T:String}{r:List V→Hp→VK→Prop}
noncomputable def tCB (r:List V→Hp→VK→Prop) (t:TA):TE:=fun σ H Q=>t σ H fun vs H1=>r vs H1 Q
theorem aH (hc:d6 X (.builtin id) r) (hg:Gl X x) (hm:X.mg x=none) (hv:bootBuiltins x=some (.builtin id)) (ha:PA X (e::es) t) (hn:x ≠ "__name__" := by decide) (hdb:(x == ("__debug__" : Str))=false:=by decide)
  (he:starEach (e::es) X.env=(false,eval e X.env)::starEach es X.env:=by rfl) (hpl:(backTo pos (starEach es X.env)).any (·.1)=false:=by rfl):PE X (.Call (.Name x p) (e::es) [] pos) (tCB r t):=by
 intro pins s σ H Q I h
 refine wpAny_Call_Name_kw (ld_blt I hg hm hv ?_ hn hdb)
 exact PyProof.Rows.callWith_builtin1 (cM (ha pos pins s σ H _ I h) fun us s1 ⟨vs,H1,I1,r1,q1⟩=>hc pins s1 σ H1 vs us Q I1 r1 q1) he hpl
theorem cA (hc:d6 X (.type T) r) (hg:Gl X x) (hm:X.mg x=none) (hv:bootBuiltins x=some (.type T)) (ha:PA X (e::es) t) (hn:x ≠ "__name__" := by decide) (hdb:(x == ("__debug__" : Str))=false:=by decide)
  (he:starEach (e::es) X.env=(false,eval e X.env)::starEach es X.env:=by rfl) (hpl:(backTo pos (starEach es X.env)).any (·.1)=false:=by rfl):PE X (.Call (.Name x p) (e::es) [] pos) (tCB r t):=by
 intro pins s σ H Q I h
 refine wpAny_Call_Name_kw (ld_blt I hg hm hv ?_ hn hdb)
 exact PyProof.Rows.callWith_type1 (cM (ha pos pins s σ H _ I h) fun us s1 ⟨vs,H1,I1,r1,q1⟩=>hc pins s1 σ H1 vs us Q I1 r1 q1) he hpl
end
end L2
namespace HT
open PySem PyProof.Rows
section
open PySem.SeqAt
open PySem.AutoSeq1 (wpAny_loadPart')
open PySem.MeetsSeq PySem.MeetsSeq2 PySem.MeetsSeq3
end
section
variable {prog:Program}{w:World}{A:Around}{E:Value→Shared→Prop}{s:Shared}
theorem cat_tup {t b:Addr}{vs ws:List Value}{Q:Value→Shared→Prop} (ht:IsTup s.heap t vs.toArray) (hb:IsTup s.heap b ws.toArray) (hv:vs≠[])
  (h1:ws=[]→Q (.ref t) s) (h2:ws≠[]→Q (.ref s.heap.objs.size) { s with heap:=s.heap.push { cls:=.type "tuple",data:=.seq (vs++ws).toArray } })
  (hsz:vs.length+ws.length≤sizeLine):wpAny (model prog w) A (binaryOp .Add (.ref t) (.ref b)) Q E s:=by
 obtain⟨⟨cls,dd,data,sl⟩,ho,hc,n,hd⟩:=id ht
 obtain⟨⟨cls2,dd2,data2,sl2⟩,ho2,hc2,n2,hd2⟩:=id hb
 simp only at hc hd hc2 hd2
 subst hc hd hc2 hd2
 have e:vs.toArray++ws.toArray=(vs++ws).toArray:=by simp
 by_cases hw:ws=[]
 ·exact concat_meets ⟨_,ho,rfl⟩ ⟨_,ho2,rfl⟩ noFill_tuple_add seq_tuple_add PySem.F.slot_tuple_add PySem.F.entry_tuple_add (PySem.F.args_tuple_add_2 _ _)
   (tuple_addW1 t b vs.toArray ws.toArray n n2 dd dd2 sl sl2 (by simpa using hv) (by simp [hw])) ⟨ho,ho2,h1 hw⟩
 ·refine concat_meets ⟨_,ho,rfl⟩ ⟨_,ho2,rfl⟩ noFill_tuple_add seq_tuple_add PySem.F.slot_tuple_add PySem.F.entry_tuple_add (PySem.F.args_tuple_add_2 _ _)
   (tuple_addW2 t b vs.toArray ws.toArray n n2 dd dd2 sl sl2 (by simpa using hv) (by simpa using hw) (by rw[List.size_toArray,List.size_toArray];exact hsz)) ⟨ho,ho2,?_⟩
  rw[e]
  exact h2 hw
end
end HT
namespace L2
open PySem PySem.Spec PyProof.Rows
theorem intsAre_of {ns:List Int}:∀ {us:List Value},b0 (ns.map V.int) us→IntsAre us ns:=by
 induction ns with
 | nil=>intro us r;rw[List.map_nil] at r;cases r;exact .nil
 | cons n ns ih=>
  intro us r
  rw[List.map_cons] at r
  cases r with
  | cons r1 r2=>
   obtain⟨t,e⟩:=r1
   subst e
   exact .cons n t (ih r2)
section
variable {X:Cx}{e:Expr}{te:TE}{lo hi:Option Expr}{tl th:TO}{pos p2:Pos}
noncomputable def rCatT (K:PySem.W.Frag):R2:=fun x y H Q=>∃ a b xs ys,x=.ref a∧y=.ref b∧bL K H a xs∧bL K H b ys∧xs≠[]∧xs.length+ys.length≤sizeLine∧
 (ys=[]→Q (.ref a) H)∧(ys≠[]→∀ p,H p=none→Q (.ref p) (upd H p (.tup (xs++ys))))
theorem b0.nil_iff {xs:List V}{us:List Value} (r:b0 xs us):us=[]↔xs=[]:=by
 cases r with
 | nil=>simp
 | cons _ _=>simp
theorem op_catT:OpR X (binaryOp .Add) (rCatT X.K):=by
 intro pins s σ H x y v u Q I rx ry h
 obtain⟨a,b,xs,ys,rfl,rfl,ha,hb,hx,hz,q1,q2⟩:=h
 cases rx
 cases ry
 obtain⟨its,r1,p1,_⟩:=I.tuple ha
 obtain⟨its2,r2,p2,_⟩:=I.tuple hb
 refine HT.cat_tup p1 p2 (fun z=>hx (r1.nil_iff.mp z)) (fun z=>⟨.ref a,H,I,rfl,q1 (r2.nil_iff.mp z)⟩) (fun z=>?_) (by rw[← r1.length,← r2.length];exact hz)
 refine⟨.ref s.heap.objs.size,_,I.laid (t':=s.toks) (o:=.tup (xs++ys)) (fun b ob q=>Heap.get?_push_of_some _ q) (Nat.le_refl _) ?_,rfl,q2 (fun w=>z (r2.nil_iff.mpr w)) _ (I.hok.fresh (Nat.le_refl _))⟩
 exact⟨by rw[List.length_append];exact hz,_,r1.append r2,IsTup.new _ _⟩
end
end L2
namespace L2
open PySem PySem.Spec PyProof.Rows
noncomputable def ixN (n:Nat) (i:Int):Option Nat:=if 0≤i then (if i < n then some i.toNat else none) else if -(n:Int)≤i then some (i+n).toNat else none
noncomputable def atI {α:Type} (xs:List α) (i:Int):Option α:=(ixN xs.length i).bind fun j=>xs[j]?
theorem ixN_seq {n:Nat}{i:Int}{j:Nat} (h:ixN n i=some j):seqIndex? i n=some j∧j < n∧-(n:Int)≤i∧i < n:=by
 unfold ixN at h
 by_cases h0:0≤i
 ·rw[if_pos h0] at h
  by_cases h1:i < n
  ·rw[if_pos h1] at h
   have e:i.toNat=j:=Option.some.inj h
   exact⟨by rw[seqIndex_of h0 h1,e],by omega,by omega,h1⟩
  ·rw[if_neg h1] at h;cases h
 ·rw[if_neg h0] at h
  by_cases h1 : -(n:Int)≤i
  ·rw[if_pos h1] at h
   have e:(i+n).toNat=j:=Option.some.inj h
   exact⟨by rw[seqIndex_neg (by omega) h1,e],by omega,h1,by omega⟩
  ·rw[if_neg h1] at h;cases h
theorem atI_get {α:Type}{xs:List α}{i:Int}{v:α} (h:atI xs i=some v):∃ j,seqIndex? i xs.length=some j∧xs[j]? = some v∧j < xs.length∧-(xs.length:Int)≤i∧i < xs.length:=by
 unfold atI at h
 cases e:ixN xs.length i with
 | none=>rw[e] at h;cases h
 | some j=>
  rw[e] at h
  obtain⟨h1,h2,h3,h4⟩:=ixN_seq e
  exact⟨j,h1,h,h2,h3,h4⟩
theorem cF {α:Type}{xs:List α}{j:Nat}{v:α} (h:xs[j]? = some v):atI xs (j:Int)=some v:=by
 have hj:j < xs.length:=(List.getElem?_eq_some_iff.mp h).1
 have e:ixN xs.length (j:Int)=some j:=by
  unfold ixN
  rw[if_pos (by omega),if_pos (by omega)];simp
 unfold atI;rw[e];exact h
theorem atI_last {α:Type} (xs:List α) (v:α):atI (xs++[v]) (-1)=some v:=by
 have hl:(xs++[v]).length=xs.length+1:=by simp
 have e:ixN (xs++[v]).length (-1)=some xs.length:=by
  unfold ixN
  rw[hl,if_neg (by decide),if_pos (by omega)]
  congr 1
  omega
 unfold atI
 rw[e]
 show (xs++[v])[xs.length]? = some v
 simp
noncomputable def PlainIx (b:Expr):Prop:=∀ o i,subscripted b false o i=operate [o,i] (getItem o i)
noncomputable def IxR (X:Cx) (r:R2):Prop:=
 ∀ (value slice:Expr) (pins:List (Addr×Obj)) (s:Shared) (σ:St) (H:Hp) (x y:V) (v u:Value) (Q:VK),Inv X pins σ H s→aY x v→aY y u→r x y H Q→
  subscripted slice false v u=operate [v,u] (getItem v u)→wpAny (model X.prog X.w) X.A (subscriptTail value slice v u) (EP X pins σ Q) X.xe s
noncomputable def MtR (X:Cx) (id:String) (r:V→List V→Hp→VK→Prop):Prop:=
 ∀ (pins:List (Addr×Obj)) (s:Shared) (σ:St) (H:Hp) (x:V) (xs:List V) (v:Value) (us:List Value) (Q:VK),Inv X pins σ H s→aY x v→b0 xs us→r x xs H Q→
  wpAny (model X.prog X.w) X.A (call (.builtin id) (v::us)) (EP X pins σ Q) X.xe s
section
variable {X:Cx}{a b:Expr}{ta tb:TE}{pos:Pos}
theorem IxR.or {r r':R2} (h:IxR X r) (h':IxR X r'):IxR X (fun x y H Q=>r x y H Q∨r' x y H Q):=by
 intro value slice pins s σ H x y v u Q I rx ry q hs
 rcases q with q | q
 ·exact h value slice pins s σ H x y v u Q I rx ry q hs
 ·exact h' value slice pins s σ H x y v u Q I rx ry q hs
theorem aM {r:R2} (hr:IxR X r) (ha:PE X a ta) (hb:PE X b tb) (hs:PlainIx b):PE X (.Subscript a b pos) (tOp r ta tb):=by
 intro pins s σ H Q I h
 exact Subscript_ (binT ha hb I h fun v u s2 x y H2 I2 rx ry q=>hr a b pins s2 σ H2 x y v u Q I2 rx ry q (hs _ _))
noncomputable def rIxL (K:PySem.W.Frag):R2:=fun x y H Q=>∃ p xs i v,x=.ref p∧y=.int i∧bX K H p xs∧atI xs i=some v∧Q v H
noncomputable def rIxT (K:PySem.W.Frag):R2:=fun x y H Q=>∃ p xs i v,x=.ref p∧y=.int i∧bL K H p xs∧atI xs i=some v∧Q v H
noncomputable def rIxS:R2:=fun x y H Q=>∃ z i c,x=.str z∧y=.int i∧z.length≤sizeLine∧atI z.cps.toList i=some c∧Q (.str ⟨#[c]⟩) H
theorem ix_list:IxR X (rIxL X.K):=by
 intro value slice pins s σ H x y v u Q I rx ry h hs
 obtain⟨p,xs,i,z,rfl,rfl,hq,he,q⟩:=h
 cases rx
 obtain⟨t,rfl⟩:=ry
 obtain⟨its,r,pl,hz⟩:=I.list hq
 obtain⟨j,h1,h2,h3,h4,h5⟩:=atI_get he
 obtain⟨w,ew,rw'⟩:=r.get h2
 have hl:=r.length
 have hn:=line63
 have fin:EP X pins σ Q w s:=⟨z,H,I,rw',q⟩
 by_cases h0:0≤i
 ·have hj:i.toNat=j:=by
   rw[seqIndex_of h0 h5] at h1
   exact Option.some.inj h1
  exact item_listR pl.isList h0 (by omega) (by rw[hj];simpa using ew) fin hs
 ·have hj:(i+(its.toArray.size:Int)).toNat=j:=by
   rw[seqIndex_neg (by omega) h4] at h1
   rw[List.size_toArray,← hl]
   exact Option.some.inj h1
  exact subscriptTail_builtinR (x:=w) pl.isList.typeIs slot_list_getitem.lookup
   (wpAny_getItem_list_neg (Q:=fun r s'=>r=w∧EP X pins σ Q r s') pl.isList (by omega) (by rw[List.size_toArray] <;> omega) (by omega) (by rw[hj];simpa using ew) ⟨rfl,fin⟩) hs
theorem ix_tup:IxR X (rIxT X.K):=by
 intro value slice pins s σ H x y v u Q I rx ry h hs
 obtain⟨p,xs,i,z,rfl,rfl,hq,he,q⟩:=h
 cases rx
 obtain⟨t,rfl⟩:=ry
 obtain⟨its,r,pl,hz⟩:=I.tuple hq
 obtain⟨j,h1,h2,h3,h4,h5⟩:=atI_get he
 obtain⟨w,ew,rw'⟩:=r.get h2
 have hl:=r.length
 have hn:=line63
 have fin:EP X pins σ Q w s:=⟨z,H,I,rw',q⟩
 exact subscriptTail_builtinR (x:=w) pl.typeIs slot_tuple_getitem.lookup
  (getItem_tuple (j:=j) (Q:=fun r s'=>r=w∧EP X pins σ Q r s') pl (by omega) (by omega) (by rw[List.size_toArray,← hl];exact h1) (by simpa using ew) ⟨rfl,fin⟩) hs
theorem ix_str:IxR X rIxS:=by
 intro value slice pins s σ H x y v u Q I rx ry h hs
 obtain⟨z,i,c,rfl,rfl,hz,he,q⟩:=h
 obtain⟨t,rfl⟩:=rx
 obtain⟨t',rfl⟩:=ry
 obtain⟨j,h1,h2,h3,h4,h5⟩:=atI_get he
 have hl:z.cps.toList.length=z.length:=by simp [Str.length]
 rw[hl] at h1 h4 h5
 have hn:=line63
 exact tail_any (typeIs_str s z t) slot_str_getitem.lookup (getItem_str (c:=c) (by
  have e1:decide (i < -(2 ^ 63:Int))=false:=decide_eq_false (by omega)
  have e2:decide (i ≥ 2 ^ 63)=false:=decide_eq_false (by omega)
  rw[e1,e2,Bool.or_false]) (by rw[h1];simpa using h2) ⟨.str ⟨#[c]⟩,H,I.tok _,⟨_,rfl⟩,q⟩) hs
noncomputable def rIx (K:PySem.W.Frag):R2:=fun x y H Q=>rIxL K x y H Q∨rIxT K x y H Q∨rIxS x y H Q
theorem ix_seq:IxR X (rIx X.K):=ix_list.or (ix_tup.or ix_str)
theorem mapSeq_set (its:List Value) (n j:Nat) (u:Value):Obj.mapSeq (·.setIfInBounds j u) { cls:=.type "list",data:=.seq its.toArray n }={ cls:=.type "list",data:=.seq (its.set j u).toArray n }:=by
 simp [Obj.mapSeq]
theorem Inv.lst {pins:List (Addr×Obj)}{σ:St}{H:Hp}{s:Shared}{p:Addr}{xs:List V} (I:Inv X pins σ H s) (h:H p=some (.lst xs)) :
  ∃ (its:List Value) (n:Nat),b0 xs its∧s.heap.get? p=some { cls:=.type "list",data:=.seq its.toArray n }∧xs.length≤sizeLine:=by
 obtain⟨z,its,n,r,e⟩:=I.hok p _ h
 exact⟨its,n,r,e,z⟩
theorem Inv.lstUpd {pins:List (Addr×Obj)}{σ:St}{H:Hp}{s:Shared}{p:Addr}{xs ys:List V}{its its':List Value}{n n':Nat}{f:Obj→Obj} (I:Inv X pins σ H s) (h:H p=some (.lst xs))
  (ho:s.heap.get? p=some { cls:=.type "list",data:=.seq its.toArray n }) (hf:f { cls:=.type "list",data:=.seq its.toArray n }={ cls:=.type "list",data:=.seq its'.toArray n' }) (r:b0 ys its') (hz:ys.length≤sizeLine) (t:Nat) :
  Inv X pins σ (upd H p (.lst ys)) { s with heap:=s.heap.update p f,toks:=t }:=by
 have e:(s.heap.update p f).get? p=some { cls:=.type "list",data:=.seq its'.toArray n' }:=by
  rw[Heap.get?_update_self f ho (by rw[hf] <;> rfl),hf]
 refine I.write (x:=p) (e:=p) (by rw[h];trivial) (.inl rfl) (fun b u hb q=>(Heap.get?_update_other _ _ (Ne.symm hb)).trans q) ⟨_,e⟩ ?_
 exact⟨hz,its',n',r,e⟩
noncomputable def rSetL:V→V→V→Hp→(Hp→Prop)→Prop:=fun o i v H Q=>∃ p xs k j,o=.ref p∧i=.int k∧H p=some (.lst xs)∧ixN xs.length k=some j∧Q (upd H p (.lst (xs.set j v)))
theorem set_list:PSet X rSetL:=by
 intro pins s σ H o i v ov iv u Q I ro ri rv h
 obtain⟨p,xs,k,j,rfl,rfl,hp,hj,q⟩:=h
 cases ro
 obtain⟨t,rfl⟩:=ri
 obtain⟨its,n,r,ho,hz⟩:=I.lst hp
 obtain⟨h1,h2,h3,h4⟩:=ixN_seq hj
 have hl:=r.length
 have hn:=line63
 have I':Inv X pins σ (upd H p (.lst (xs.set j v))) { s with heap:=s.heap.update p (Obj.mapSeq (·.setIfInBounds j u)) }:=
  I.lstUpd hp ho (mapSeq_set its n j u) (r.set rv j) (by rw[List.length_set];exact hz) s.toks
 by_cases h0:0≤k
 ·have hk:k.toNat=j:=by
   rw[seqIndex_of h0 h4] at h1
   exact Option.some.inj h1
  exact PySem.W.ki_setAt ho h0 (by omega) (by rw[List.size_toArray,← hl];exact h4) (by rw[hk];exact⟨_,I',q⟩)
 ·have hk:(k+(its.toArray.size:Int)).toNat=j:=by
   rw[seqIndex_neg (by omega) h3] at h1
   rw[List.size_toArray,← hl]
   exact Option.some.inj h1
  exact PySem.W.ki_setBack ho (by omega) (by rw[List.size_toArray,← hl];exact h3) (by omega) (by rw[hk];exact⟨_,I',q⟩)
noncomputable def flatV:V→Bool
 | .non=>true
 | .bl _=>true
 | .int _=>true
 | .str _=>true
 | _=>false
noncomputable def eqV:V→V→Bool
 | .non,.non=>true
 | .bl a,.bl b=>a == b
 | .bl a,.int b=>(if a then 1 else 0) == b
 | .int a,.bl b=>a == (if b then 1 else 0)
 | .int a,.int b=>a == b
 | .str a,.str b=>a == b
 | _,_=>false
theorem eqAt_V {A:Around}{s:Shared}{y x:V}{u v:Value} (ry:aY y u) (rx:aY x v) (fy:flatV y=true) (fx:flatV x=true):SeqAt.EqAt A s u v (eqV y x):=by
 cases y with
 | non=>
  cases ry
  cases x with
  | non=>cases rx;exact SeqAt.EqAt.same _
  | bl b=>cases rx;exact SeqAt.EqAt.none_bool b
  | int b=>obtain⟨t,rfl⟩:=rx;exact SeqAt.EqAt.none_int b t
  | str b=>obtain⟨t,rfl⟩:=rx;exact SeqAt.EqAt.none_str b t
  | _=>exact absurd (show false=true from fx) Bool.false_ne_true
 | bl a=>
  cases ry
  cases x with
  | non=>cases rx;exact SeqAt.EqAt.bool_none a
  | bl b=>cases rx;exact SeqAt.EqAt.bool_bool a b
  | int b=>obtain⟨t,rfl⟩:=rx;exact SeqAt.EqAt.bool_int a b t
  | str b=>obtain⟨t,rfl⟩:=rx;exact SeqAt.EqAt.bool_str a b t
  | _=>exact absurd (show false=true from fx) Bool.false_ne_true
 | int a=>
  obtain⟨t',rfl⟩:=ry
  cases x with
  | non=>cases rx;exact SeqAt.EqAt.int_none a t'
  | bl b=>cases rx;exact SeqAt.EqAt.int_bool a t' b
  | int b=>obtain⟨t,rfl⟩:=rx;exact SeqAt.EqAt.int_int a t' b t
  | str b=>obtain⟨t,rfl⟩:=rx;exact SeqAt.EqAt.int_str a t' b t
  | _=>exact absurd (show false=true from fx) Bool.false_ne_true
 | str a=>
  obtain⟨t',rfl⟩:=ry
  cases x with
  | non=>cases rx;exact SeqAt.EqAt.str_none a t'
  | bl b=>cases rx;exact SeqAt.EqAt.str_bool a t' b
  | int b=>obtain⟨t,rfl⟩:=rx;exact SeqAt.EqAt.str_int a t' b t
  | str b=>obtain⟨t,rfl⟩:=rx;exact SeqAt.EqAt.str_str a t' b t
  | _=>exact absurd (show false=true from fx) Bool.false_ne_true
 | _=>exact absurd (show false=true from fy) Bool.false_ne_true
noncomputable def eqU (x:V) (u:Value):Bool:=match u with
 | .none=>eqV .non x
 | .bool b=>eqV (.bl b) x
 | .int i _=>eqV (.int i) x
 | .str z _=>eqV (.str z) x
 | _=>false
theorem eqU_of {x y:V}{u:Value} (r:aY y u) (f:flatV y=true):eqU x u=eqV y x:=by
 cases y with
 | non=>cases r;rfl
 | bl b=>cases r;rfl
 | int i=>obtain⟨t,rfl⟩:=r;rfl
 | str z=>obtain⟨t,rfl⟩:=r;rfl
 | _=>exact absurd (show false=true from f) Bool.false_ne_true
theorem any_eqU {x:V}:∀ {xs:List V}{us:List Value},b0 xs us→xs.all flatV=true→us.any (eqU x)=xs.any fun y=>eqV y x
 | _,_,.nil,_=>rfl
 | y::xs,u::us,.cons r t,f=>by
  rw[List.all_cons,Bool.and_eq_true] at f
  rw[List.any_cons,List.any_cons,eqU_of r f.1,any_eqU t f.2]
theorem mem_eqAt {A:Around}{s:Shared}{x:V}{v:Value} (rx:aY x v) (fx:flatV x=true):∀ {xs:List V}{us:List Value},b0 xs us→xs.all flatV=true→∀ u∈us,SeqAt.EqAt A s u v (eqU x u)
 | _,_,.nil,_=>fun u hu=>by cases hu
 | y::xs,u::us,.cons r t,f=>fun u' hu=>by
  rw[List.all_cons,Bool.and_eq_true] at f
  rcases List.mem_cons.mp hu with rfl | hu
  ·rw[eqU_of r f.1];exact eqAt_V r rx f.1 fx
  ·exact mem_eqAt rx fx t f.2 u' hu
noncomputable def inV (x:V) (xs:List V):Bool:=xs.any fun y=>eqV y x
noncomputable def rIn (K:PySem.W.Frag) (neg:Bool):R2:=fun x y H Q=>∃ p xs,y=.ref p∧(bX K H p xs∨bL K H p xs)∧flatV x=true∧xs.all flatV=true∧Q (.bl (if neg then !inV x xs else inV x xs)) H
theorem op_in_seq:OpR X (compareOp .In) (rIn X.K false):=by
 intro pins s σ H x y v u Q I rx ry h
 obtain⟨p,xs,rfl,hq,fx,fs,q⟩:=h
 cases ry
 rcases hq with hq | hq
 ·obtain⟨its,r,pl,hz⟩:=I.list hq
  refine SeqAt.in_listAt (eqU x) pl.isList (fun w hw=>mem_eqAt rx fx r fs w (by simpa using hw)) ⟨.bl _,H,I,rfl,?_⟩
  rw[show its.toArray.any (eqU x)=its.any (eqU x) by simp,any_eqU r fs]
  exact q
 ·obtain⟨its,r,pl,hz⟩:=I.tuple hq
  refine SeqAt.in_tupleAt (eqU x) pl (fun w hw=>mem_eqAt rx fx r fs w (by simpa using hw)) ⟨.bl _,H,I,rfl,?_⟩
  rw[show its.toArray.any (eqU x)=its.any (eqU x) by simp,any_eqU r fs]
  exact q
theorem op_notIn_seq:OpR X (compareOp .NotIn) (rIn X.K true):=by
 intro pins s σ H x y v u Q I rx ry h
 obtain⟨p,xs,rfl,hq,fx,fs,q⟩:=h
 cases ry
 rcases hq with hq | hq
 ·obtain⟨its,r,pl,hz⟩:=I.list hq
  refine SeqAt.notIn_listAt (eqU x) pl.isList (fun w hw=>mem_eqAt rx fx r fs w (by simpa using hw)) ⟨.bl _,H,I,rfl,?_⟩
  rw[show its.toArray.any (eqU x)=its.any (eqU x) by simp,any_eqU r fs]
  exact q
 ·obtain⟨its,r,pl,hz⟩:=I.tuple hq
  refine SeqAt.notIn_tupleAt (eqU x) pl (fun w hw=>mem_eqAt rx fx r fs w (by simpa using hw)) ⟨.bl _,H,I,rfl,?_⟩
  rw[show its.toArray.any (eqU x)=its.any (eqU x) by simp,any_eqU r fs]
  exact q
theorem call_len_seq:d6 X (.builtin "len") (fun xs H Q=>∃ p ys,xs=[.ref p]∧(bX X.K H p ys∨bL X.K H p ys)∧Q (.int ys.length) H):=by
 intro pins s σ H xs us Q I r h
 obtain⟨p,ys,rfl,hq,q⟩:=h
 obtain⟨u,rfl,rx⟩:=vals1 r
 cases rx
 have hn:=line63
 rcases hq with hq | hq
 ·obtain⟨its,r',pl,hz⟩:=I.list hq
  have hlen:=r'.length
  exact Calls.call_len_list pl.isList (by simp only [List.size_toArray] <;> omega) ⟨.int ys.length,H,I.tok _,⟨s.toks+1,by rw[List.size_toArray,hlen]⟩,q⟩
 ·obtain⟨its,r',pl,hz⟩:=I.tuple hq
  have hlen:=r'.length
  exact len_tuple pl (by simp only [List.size_toArray] <;> omega) ⟨.int ys.length,H,I.tok _,⟨s.toks+1,by rw[List.size_toArray,hlen]⟩,q⟩
theorem call_list_of:d6 X (.type "list") (fun xs H Q=>∃ p ys,xs=[.ref p]∧(bX X.K H p ys∨bL X.K H p ys)∧∀ l,H l=none→Q (.ref l) (upd H l (.lst ys))):=by
 intro pins s σ H xs us Q I r h
 obtain⟨p,ys,rfl,hq,q⟩:=h
 obtain⟨u,rfl,rx⟩:=vals1 r
 cases rx
 have fin:∀ (its:List Value),b0 ys its→ys.length≤sizeLine→∀ (h':Heap) (c':Nat),(∀ b o',s.heap.get? b=some o'→h'.get? b=some o')→
   h'.get? s.heap.objs.size=some { cls:=.type "list",dict:=none,data:=.seq its.toArray c',slots:=#[] }→EP X pins σ Q (.ref s.heap.objs.size) { s with heap:=h' }:=fun its r' hz h' c' kp e=>
  ⟨.ref s.heap.objs.size,_,I.laid (t':=s.toks) kp (Nat.le_refl _) (show cB X.prog X.w _ h' _ (.lst ys) from ⟨hz,its,c',r',e⟩),rfl,q _ (I.hok.fresh (Nat.le_refl _))⟩
 rcases hq with hq | hq
 ·obtain⟨its,r',pl,hz⟩:=I.list hq
  have hlen:=r'.length
  obtain⟨o,ho,hc,n,hd⟩:=pl.isList
  exact call_list_seq p (.inl rfl) ho hc hd (fun h' c' kp e=>fin its r' hz h' c' kp e) (by simp only [List.size_toArray] <;> omega)
 ·obtain⟨its,r',pl,hz⟩:=I.tuple hq
  have hlen:=r'.length
  obtain⟨o,ho,hc,n,hd⟩:=pl
  exact call_list_seq p (.inr rfl) ho hc hd (fun h' c' kp e=>fin its r' hz h' c' kp e) (by simp only [List.size_toArray] <;> omega)
theorem call_tuple_of:d6 X (.type "tuple") (fun xs H Q=>∃ p ys,xs=[.ref p]∧((bX X.K H p ys∧∀ l,H l=none→Q (.ref l) (upd H l (.tup ys)))∨(bL X.K H p ys∧Q (.ref p) H))):=by
 intro pins s σ H xs us Q I r h
 obtain⟨p,ys,rfl,h⟩:=h
 obtain⟨u,rfl,rx⟩:=vals1 r
 cases rx
 rcases h with ⟨hq,q⟩ | ⟨hq,q⟩
 ·obtain⟨its,r',pl,hz⟩:=I.list hq
  have hlen:=r'.length
  refine call_tuple_list pl.isList (fun h' kp=>?_) (by simp only [List.size_toArray] <;> omega)
  have I1:Inv X pins σ H { s with heap:=h' }:=I.kept (t':=s.toks) kp
  have I2:Inv X pins σ (upd H h'.objs.size (.tup ys)) { s with heap:=h'.push { cls:=.type "tuple",data:=.seq its.toArray } }:=
   I1.laid (t':=s.toks) (fun b o e=>Heap.get?_push_of_some _ e) (Nat.le_refl _) (show cB X.prog X.w _ _ _ (.tup ys) from ⟨hz,its,r',IsTup.new _ _⟩)
  exact⟨.ref h'.objs.size,_,I2,rfl,q _ (I1.hok.fresh (Nat.le_refl _))⟩
 ·obtain⟨its,r',pl,hz⟩:=I.tuple hq
  exact call_tuple_same pl ⟨.ref p,H,I,rfl,q⟩
noncomputable def tyV (K:PySem.W.Frag) (T:String) (x:V) (H:Hp):Prop:=match x with
 | .str _=>T = "str"
 | .int _=>T = "int"
 | .ref p=>(T = "list" ∧ ∃ xs,bX K H p xs)∨(T = "tuple" ∧ ∃ o,K.lookup p=some o∧o.cls=.type "tuple" ∧ o.dict=none)∨
   (T = "dict" ∧ ((∃ kvs,H p=some (.dK kvs))∨∃ kvs,H p=some (.dT kvs)))∨(T = "set" ∧ ∃ S n,H p=some (.set S n))
 | _=>False
theorem tyV_is {pins:List (Addr×Obj)}{σ:St}{H:Hp}{s:Shared}{T:String}{x:V}{v:Value} (I:Inv X pins σ H s) (r:aY x v) (ty:tyV X.K T x H) :
  s.TypeIs v T∧∀ a,v=.ref a→∃ ob,s.heap.get? a=some ob∧ob.dict=none:=by
 cases x with
 | str z=>
  obtain⟨t,rfl⟩:=r
  cases (show T = "str" from ty)
  exact⟨typeIs_str s z t,fun _ e=>nomatch e⟩
 | int i=>
  obtain⟨t,rfl⟩:=r
  cases (show T = "int" from ty)
  exact⟨typeIs_int s i t,fun _ e=>nomatch e⟩
 | ref p=>
  cases r
  rcases ty with ⟨rfl,xs,hq⟩ | ⟨rfl,o,hk,hc,hd⟩ | ⟨rfl,hk⟩ | ⟨rfl,S,n,hk⟩
  ·obtain⟨its,_,pl,_⟩:=I.list hq
   refine⟨pl.isList.typeIs,fun a e=>?_⟩
   cases e
   obtain⟨o,n,e,c,hd,_⟩:=pl
   exact⟨o,e,hd⟩
  ·refine⟨⟨o,I.kIn p o hk,hc⟩,fun a e=>?_⟩
   cases e
   exact⟨o,I.kIn _ o hk,hd⟩
  ·have z:∃ o,s.heap.get? p=some o∧o.ExactDict:=by
    rcases hk with ⟨kvs,hk⟩ | ⟨kvs,hk⟩
    ·obtain⟨_,_,_,_,o,_,_,e,ex,_⟩:=I.hok p _ hk
     exact⟨o,e,ex⟩
    ·obtain⟨_,_,_,_,o,_,_,e,ex,_⟩:=I.hok p _ hk
     exact⟨o,e,ex⟩
   obtain⟨o,e,ex⟩:=z
   refine⟨⟨o,e,ex.1⟩,fun a e2=>?_⟩
   cases e2
   exact⟨o,e,ex.2.1⟩
  ·obtain⟨o,_,_,_,e,ex,_⟩:=I.hok p _ hk
   refine⟨⟨o,e,ex.1⟩,fun a e2=>?_⟩
   cases e2
   exact⟨o,e,ex.2.1⟩
 | _=>exact False.elim ty
noncomputable def tBM (K:PySem.W.Frag) (T:String) (r:V→List V→Hp→VK→Prop) (to:TE) (t:TA):TE:=fun σ H Q=>to σ H fun x H1=>tyV K T x H1∧t σ H1 fun xs H2=>r x xs H2 Q
variable {o e:Expr}{es:List Expr}{to:TE}{t:TA}{name:Str}{apos cpos:Pos}{T id:String}{r:V→List V→Hp→VK→Prop}
theorem pe_bm (pa:PlainAttrs T) (slot:Slot T name id) (hty:typeOf (.builtin id)=pure (.type "method_descriptor")) (hm:MtR X id r) (ho:PE X o to) (ha:PA X (e::es) t)
  (hbase:attributeBase o name X.env (eval o X.env)=eval o X.env:=by rfl)
  (hfew:((backTo cpos (starEach (e::es) X.env)).all (fun x=>!x.1) && (backToKw cpos (keywordEach [] X.env)).all (fun x=>x.1.isSome)
   && decide ((e::es).length+([]:List Keyword).length+(if ([]:List Keyword).isEmpty then 0 else 1) < 30))=true:=by rfl)
  (hline:(apos.endLine == cpos.line)=true:=by rfl) (hs:starEach (e::es) X.env=(false,eval e X.env)::starEach es X.env:=by rfl) (hplain:(backTo cpos (starEach es X.env)).any (·.1)=false:=by rfl) :
  PE X (.Call (.Attribute o name apos) (e::es) [] cpos) (tBM X.K T r to t):=by
 intro pins s σ H Q I h
 refine wpAny_Call_method_late hbase hfew hline rfl (cM (ho pins s σ H _ I h) fun v s1 ⟨x,H1,I1,r1,ty,q1⟩=>?_)
 obtain⟨h1,h2⟩:=tyV_is I1 r1 ty
 refine⟨T,id,pa,slot,hty,h1,h2,?_⟩
 have hA:=ha cpos pins s1 σ H1 _ I1 q1
 rw[hs] at hA ⊢
 refine Calls.callWith_builtin (by show (false || (backTo cpos (starEach es X.env)).any (·.1))=false;rw[hplain] <;> rfl) (Calls.evalArgs_plain ?_)
 exact cM hA fun us s2 ⟨vs,H2,I2,r2,q2⟩=>hm pins s2 σ H2 x vs v us Q I2 r1 r2 q2
end
end L2
namespace L2
open PySem PySem.Spec PyProof.Rows
noncomputable def MtM (X:Cx) (id:String) (r:V→List V→Hp→VK→Prop):Prop:=
 ∀ (pins:List (Addr×Obj)) (s:Shared) (σ:St) (H:Hp) (x:V) (xs:List V) (v:Value) (us:List Value) (Q:VK),Inv X pins σ H s→aY x v→b0 xs us→r x xs H Q→
  wpAny (model X.prog X.w) X.A (call (.builtin id) (v::us)) (EP X pins σ Q) X.xe s
theorem b0.one {x:V}{us:List Value} (h:b0 [x] us):∃ u,us=[u]∧aY x u:=vals1 h
theorem b0.two {x y:V}{us:List Value} (h:b0 [x,y] us):∃ u v,us=[u,v]∧aY x u∧aY y v:=vals2 h
theorem b0.rep {xs:List V}{us:List Value} (h:b0 xs us):∀ k:Nat,b0 (List.replicate k xs).flatten (List.replicate k us).flatten
 | 0=>.nil
 | k+1=>by
  rw[List.replicate_succ,List.replicate_succ,List.flatten_cons,List.flatten_cons]
  exact b0.append h (b0.rep h k)
theorem foldl_rep (its:List Value):∀ (k:Nat) (acc:List Value),
  List.foldl (fun x1 x2=>x1++x2) acc.toArray (List.replicate k its.toArray)=(acc++(List.replicate k its).flatten).toArray
 | 0,acc=>by simp
 | k+1,acc=>by
  have e:acc.toArray++its.toArray=(acc++its).toArray:=by simp
  have e2:(acc++its)++(List.replicate k its).flatten=acc++(List.replicate (k+1) its).flatten:=by
   rw[List.replicate_succ,List.flatten_cons,List.append_assoc]
  rw[← e2,← foldl_rep its k (acc++its),← e,List.replicate_succ,List.foldl_cons]
section
variable {X:Cx}{pins:List (Addr×Obj)}{σ:St}{H:Hp}{s:Shared}{l b:Addr}{xs ys zs:List V}
theorem Inv.lset {its its':List Value}{n:Nat}{f:Array Value→Array Value}{t':Nat} (I:Inv X pins σ H s) (hH:H l=some (.lst xs))
  (e:s.heap.get? l=some { cls:=.type "list",data:=.seq its.toArray n }) (hf:f its.toArray=its'.toArray) (hv:b0 ys its') (hz:ys.length≤sizeLine) :
  Inv X pins σ (upd H l (.lst ys)) { s with heap:=s.heap.update l (Obj.mapSeq f),toks:=t' }:=by
 have q:=PySem.IsL.update e f
 rw[hf] at q
 refine I.write (x:=l) (e:=l) (by rw[hH];exact trivial) (.inl rfl) (fun b' u hb hu=>(Heap.get?_update_other s.heap (Obj.mapSeq f) (Ne.symm hb)).trans hu) ⟨_,q⟩ ?_
 exact⟨hz,its',_,hv,q⟩
theorem Inv.lnew {its:List Value}{t':Nat} (I:Inv X pins σ H s) (hv:b0 ys its) (hz:ys.length≤sizeLine) :
  Inv X pins σ (upd H s.heap.objs.size (.lst ys)) { s with heap:=s.heap.push { cls:=.type "list",data:=.seq its.toArray },toks:=t' }:=
 I.laid (fun _ _ q=>Heap.get?_push_of_some _ q) (Nat.le_refl _) ⟨hz,its,0,hv,Heap.get?_push_size _ rfl⟩
theorem Inv.fresh (I:Inv X pins σ H s):H s.heap.objs.size=none:=I.hok.fresh (Nat.le_refl _)
theorem Inv.lstM (I:Inv X pins σ H s) (hH:H l=some (.lst xs)):xs.length≤sizeLine∧∃ (its:List Value) (n:Nat),b0 xs its∧xs.length=its.length∧s.heap.get? l=some { cls:=.type "list",data:=.seq its.toArray n }:=by
 obtain⟨z,its,n,r,e⟩:=I.hok l _ hH
 exact⟨z,its,n,r,r.length,e⟩
end
section
variable {X:Cx}
noncomputable def rAppend:V→List V→Hp→VK→Prop:=fun x vs H Q=>∃ l xs y,x=.ref l∧vs=[y]∧H l=some (.lst xs)∧xs.length < sizeLine∧Q .non (upd H l (.lst (xs++[y])))
theorem cI:MtM X "list.append" rAppend:=by
 intro pins s σ H x vs v us Q I rx rv h
 obtain⟨l,xs,y,rfl,rfl,hH,hz,q⟩:=h
 cases rx
 obtain⟨u,rfl,ru⟩:=rv.one
 obtain⟨z,its,n,r,hl,e⟩:=I.lstM hH
 refine call_meets F.slot_list_append ⟨_,e,rfl⟩ F.entry_list_append (F.args_list_append_2 _ _) (PySem.list_append l its.toArray n u (by rw[List.size_toArray];omega)) ⟨e,?_⟩
 refine⟨.non,_,I.lset (its':=its++[u]) hH e (by simp) (r.append (.cons ru .nil)) ?_,rfl,q⟩
 rw[List.length_append,List.length_singleton]
 omega
noncomputable def rCat:R2:=fun x y H Q=>∃ l b xs zs,x=.ref l∧y=.ref b∧H l=some (.lst xs)∧H b=some (.lst zs)∧xs.length+zs.length≤sizeLine∧∀ p,H p=none→Q (.ref p) (upd H p (.lst (xs++zs)))
theorem op_cat:OpR X (binaryOp .Add) rCat:=by
 intro pins s σ H x y v u Q I rx ry h
 obtain⟨l,b,xs,zs,rfl,rfl,hH,hB,hz,q⟩:=h
 cases rx
 cases ry
 obtain⟨z,its,n,r,hl,e⟩:=I.lstM hH
 obtain⟨z2,its2,n2,r2,hl2,e2⟩:=I.lstM hB
 refine PySem.P.add_list e e2 ?_ (by rw[List.size_toArray,List.size_toArray];omega)
 have ea:its.toArray++its2.toArray=(its++its2).toArray:=by simp
 rw[ea]
 exact⟨.ref _,_,I.lnew (t':=s.toks) (r.append r2) (by rw[List.length_append];omega),rfl,q _ I.fresh⟩
theorem len_rep {α:Type} (xs:List α) (k:Nat):(List.replicate k xs).flatten.length=k * xs.length:=by
 induction k with
 | zero=>simp
 | succ k ih=>rw[List.replicate_succ,List.flatten_cons,List.length_append,ih,Nat.succ_mul,Nat.add_comm]
end
section
variable {prog:Program}{w:World}{A:Around}{E:Value→Shared→Prop}{s:Shared}
end
section
variable {X:Cx}
end
end L2
namespace L2
open PySem PySem.Spec PyProof.Rows
section
variable {κ:Type} [DecidableEq κ]
noncomputable def valV (kvs:List (κ×V)) (k:κ):Option V:=(kvs.find? fun kv=>decide (kv.1=k)).map (·.2)
noncomputable def putK (kvs:List (κ×V)) (k:κ) (v:V):List (κ×V):=
 if (kvs.any fun kv=>decide (kv.1=k))=true then kvs.map (fun kv=>if kv.1=k then (kv.1,v) else kv) else kvs++[(k,v)]
theorem cU {p:κ×V}{r:List (κ×V)}{k:κ} (e:p.1=k):valV (p::r) k=some p.2:=by simp [valV,List.find?_cons,e]
theorem cV {p:κ×V}{r:List (κ×V)}{k:κ} (e:¬ p.1=k):valV (p::r) k=valV r k:=by simp [valV,List.find?_cons,e]
theorem valV_any (k:κ):∀ kvs:List (κ×V),(kvs.any fun kv=>decide (kv.1=k))=(valV kvs k).isSome
 | []=>rfl
 | p::r=>by
  rw[List.any_cons]
  by_cases e:p.1=k
  ·simp only [cU e,decide_eq_true e,Bool.true_or,Option.isSome_some]
  ·rw[cV e,decide_eq_false e,Bool.false_or];exact valV_any k r
theorem valV_map (k j:κ) (y:V):∀ kvs:List (κ×V),valV (kvs.map fun kv=>if kv.1=k then (kv.1,y) else kv) j=(valV kvs j).map fun x=>if j=k then y else x
 | []=>rfl
 | p::r=>by
  have ih:=valV_map k j y r
  rw[List.map_cons]
  by_cases h:p.1=k
  ·rw[if_pos h]
   by_cases e:p.1=j
   ·rw[cU (p:=(p.1,y)) e,cU e,Option.map_some,if_pos (e.symm.trans h)]
   ·rw[cV (p:=(p.1,y)) e,cV e,ih]
  ·rw[if_neg h]
   by_cases e:p.1=j
   ·rw[cU (p:=p) e,cU e,Option.map_some,if_neg (fun z=>h (e.trans z))]
   ·rw[cV (p:=p) e,cV e,ih]
theorem valV_snoc (k j:κ) (y:V):∀ kvs:List (κ×V),valV kvs k=none→valV (kvs++[(k,y)]) j=if j=k then some y else valV kvs j
 | [],_=>by
  by_cases e:k=j
  ·rw[if_pos e.symm];exact cU (p:=(k,y)) e
  ·rw[if_neg (fun z=>e z.symm)];exact cV (p:=(k,y)) e
 | p::r,hn=>by
  rw[List.cons_append]
  have hk:¬ p.1=k:=fun z=>by rw[cU z] at hn;cases hn
  rw[cV hk] at hn
  have ih:=valV_snoc k j y r hn
  by_cases e:p.1=j
  ·rw[cU e,cU e,if_neg (fun z=>hk (e.trans z))]
  ·rw[cV e,cV e,ih]
theorem valV_put (kvs:List (κ×V)) (k j:κ) (y:V):valV (putK kvs k y) j=if j=k then some y else valV kvs j:=by
 unfold putK
 by_cases a:(kvs.any fun kv=>decide (kv.1=k))=true
 ·rw[if_pos a,valV_map]
  rw[valV_any] at a
  by_cases e:j=k
  ·obtain⟨x,hx⟩:=Option.isSome_iff_exists.mp a
   rw[if_pos e,e,hx,Option.map_some,if_pos rfl]
  ·rw[if_neg e]
   cases valV kvs j with
   | none=>rfl
   | some x=>rw[Option.map_some,if_neg e]
 ·rw[if_neg a]
  refine valV_snoc k j y kvs ?_
  rw[valV_any] at a
  cases q:valV kvs k with
  | none=>rfl
  | some x=>rw[q] at a;exact (a rfl).elim
theorem length_putK (kvs:List (κ×V)) (k:κ) (v:V):(putK kvs k v).length≤kvs.length+1:=by
 unfold putK
 split
 ·rw[List.length_map];omega
 ·rw[List.length_append,List.length_cons,List.length_nil];omega
theorem RelO.isSome_eq {o:Option V}{u:Option Value} (r:RelO o u):o.isSome=u.isSome:=by
 cases o with
 | none=>cases u with
  | none=>rfl
  | some _=>exact (show False from r).elim
 | some _=>cases u with
  | none=>exact (show False from r).elim
  | some _=>rfl
end
section
variable {P:Program}{w:World}{H:Hp}{h:Heap}{a:Addr}
theorem rd_of {u:HO} (ok:HOk P w H h) (e:Rd H a u):cB P w H h a u:=e.ok ok
theorem dk_rd {kvs:List (Key×V)} (ok:HOk P w H h) (e:Rd H a (.dK kvs)):kvs.length≤sizeLine∧(a == sysModules)=false∧∃ vs,KV kvs vs∧h.DictOf (mixKind P w) a vs:=
 show cB P w H h a (.dK kvs) from rd_of ok e
theorem dk_of {kvs:List (Key×V)} (ok:HOk P w H h) (e:H a=some (.dK kvs)):kvs.length≤sizeLine∧(a == sysModules)=false∧∃ vs,KV kvs vs∧h.DictOf (mixKind P w) a vs:=dk_rd ok (.inl e)
end
section
variable {X:Cx}{pins:List (Addr×Obj)}{σ:St}{H:Hp}{s:Shared}{a:Addr}{y v:V}{u r:Value}{o:Option V}{A:Around}{E:Value→Shared→Prop}
theorem Inv.big (I:Inv X pins σ H s):sysModules < s.heap.objs.size:=by
 have h:mainGlobals < s.heap.objs.size:=(I.mod.glob.keeps I.bk).lt
 exact Nat.lt_trans (by decide) h
theorem d_write {h':Heap}{t':Nat}{ob:HO} (I:Inv X pins σ H s) (mu:Mut (H a)) (hs:Heap.SameBut a s.heap h') (he:∃ q,h'.get? a=some q) (new:cB X.prog X.w (upd H a ob) h' a ob) :
  Inv X pins σ (upd H a ob) { s with heap:=h',toks:=t' }:=
 I.write (x:=a) (e:=a) mu (.inl rfl) (fun b q hb z=>(hs.2 b hb).trans z) he new
end
section
variable {X:Cx}{pins:List (Addr×Obj)}{σ:St}{H:Hp}{s:Shared}{a:Addr}{kvs:List (Key×V)}{k:Key}{u:Value}{A:Around}{E:Value→Shared→Prop}
end
section
variable {X:Cx}{o i e value:Expr}{pos pos' tpos:Pos}{td ty tv:TE}
end
theorem dk_empty {P:Program}{w:World}{H:Hp} (h:Heap) (hb:sysModules < h.objs.size):cB P w H (h.push { cls:=.type "dict",data:=.dict #[] }) h.objs.size (.dK []):=
 ⟨Nat.zero_le _,beq_eq_false_iff_ne.mpr (Ne.symm (Nat.ne_of_lt hb)),[],.nil,Heap.DictOf.new h⟩
noncomputable def tDNewK:TE:=fun _ H Q=>∀ p,H p=none→Q (.ref p) (upd H p (.dK []))
section
variable {X:Cx}{pos:Pos}
theorem pe_dnewK:PE X (.Dict [] [] pos) tDNewK:=fun pins s σ H Q I h=>
 wpAny_Dict_empty ⟨.ref s.heap.objs.size,_,I.laid (a:=s.heap.objs.size) (o:=.dK []) (t':=s.toks) (fun _ _ q=>Heap.get?_push_of_some _ q) (Nat.le_refl _) (dk_empty s.heap I.big),rfl,h _ (I.hok.fresh (Nat.le_refl _))⟩
end
section
variable {X:Cx}{pins:List (Addr×Obj)}{σ:St}{H:Hp}{s:Shared}{a:Addr}{y d:V}{u r:Value}{o:Option V}{A:Around}{E:Value→Shared→Prop}
end
section
variable {X:Cx}{o e f:Expr}{apos cpos:Pos}{td ty tx:TE}
end
section
variable {X:Cx}{pins:List (Addr×Obj)}{σ:St}{H:Hp}{s:Shared}{a:Addr}{kvs:List (Key×V)}{A:Around}{E:Value→Shared→Prop}
end
section
variable {X:Cx}{pins:List (Addr×Obj)}{σ:St}{H:Hp}{s:Shared}{a:Addr}{y:V}{u:Value}{A:Around}{E:Value→Shared→Prop}
end
end L2
namespace Att
open PySem PySem.W PySem.Calls PyProof.Rows
theorem ints_of_wellAll {P:Params}{h:Heap}:∀ (ns:List Int) (vs:List Value),WellAll P h vs (ns.map WData.int)→IntsAre vs ns:=by
 intro ns
 induction ns with
 | nil=>
  intro vs w
  rw[List.map_nil] at w
  cases w
  exact .nil
 | cons n ns ih=>
  intro vs w
  rw[List.map_cons] at w
  cases w with
  | cons a b=>
   cases a
   exact .cons _ _ (ih _ b)
theorem script_of {l:OpenLaw}{n:Nat} (hn:l.most=some n) {P:Params}{h:Heap}{args:List WData}{vals:List Value}
  (hpre:l.row.toRowW.claim.pre args=true) (hwl:WellAll P h vals args) :
  ∃ a vs ns,vals=[Value.ref a]∧args=[WData.list (ns.map WData.int)]∧h.get? a=some { cls:=.type "list",data:=.seq vs.toArray }∧IntsAre vs ns∧ns.length≤n:=by
 have hsh:WShape.hasAll [] args [.list .int]=true:=(pre_splitW hpre).1
 have hc:l.pre.holds [] { args:=args }=true:=(pre_splitW hpre).2
 obtain⟨d,r,rfl,h1,h2⟩:=hasAllW_cons hsh
 obtain rfl:=hasAllW_nil h2
 obtain⟨xs,rfl,h3⟩:=hasW_list h1
 obtain⟨ns,rfl⟩:=items_int h3
 have hlen:ns.length≤n:=by
  unfold OpenLaw.pre at hc
  have h4:(WTm.not (.lt (.lit (.int (n:Int))) (.len (.arg 0)))).holds [] { args:=[.list (ns.map .int)] }=true:=by
   have h4:=(holds_andW hc).1
   rw[hn] at h4
   exact h4
  have h5:=condW_of h4 (w_not (w_lt w_lit (w_len_list (w_arg rfl))))
  rw[List.length_map] at h5
  refine Nat.le_of_not_lt fun q=>?_
  have q':(n:Int) < ((ns.length:Nat):Int):=by omega
  first
   | (rw[decide_eq_true q'] at h5;exact absurd h5 (by decide))
   | (simp at h5;omega)
 cases hwl with
 | cons w1 w2=>
  cases w2
  cases w1 with
  | list ho hall=>exact⟨_,_,ns,rfl,rfl,ho,ints_of_wellAll ns _ hall,hlen⟩
theorem post_true (l:OpenLaw) (args:List WData):l.row.toRowW.claim.post args (.bool true) args=true:=
 postW_of (r:=l.row.toRowW) (X:=(true == true))
  (show WShape.has [] (.bool true) .bool=true by first | rfl | decide | simp [WShape.has,WShape.arms,WShape.armsAll])
  (show (WTm.eq .res (.lit (.bool true))).value [] { args:=args,res:=some (.bool true),after:=args }=some (.bool (true == true)) from w_eq_bool (w_res rfl) w_lit) rfl
theorem attach_call {l:OpenLaw}{n:Nat}{q:Program}{loose:List Str}{XP:(Str→Option Value)→Heap→Prop}{YP:World→Heap→Prop}{d:DefRec}
  (hn:l.most=some n) (hdf:d.params.defaults=[])
  (call:∀ (w:World) (s₀ s₁:Shared) (mg mb:Str→Option Value) (fa:Addr) (o:Obj) (pm cd doc:Value) (a:Addr) (vs:List Value) (ns:List Int),
   Ground q loose [] XP w s₀ mg mb s₁.heap→YP w s₁.heap→
   s₁.heap.get? fa=some o→o.data=.func (docDef d.name d.params d.body d.scope pm cd doc)→s₁.heap.CodeRec cd d.name→mg d.name=some (.ref fa)→
   s₁.heap.get? a=some { cls:=.type "list",data:=.seq vs.toArray }→IntsAre vs ns→ns.length≤n→s₁.gens = #[]→
   codeAny (model l.prog w) callerA (.call (.ref fa) ⟨[.ref a],[]⟩) (fun r s'=>r=.ok (.ret (.bool true))∧OldK s₁.heap s'.heap∧s'.os=s₁.os∧AllBare s'.gens) s₁) :
  WalkO q loose XP YP l.row.toRowW d [] (fun f vs=>PySem.call f vs):=by
 intro w s₀ s₁ mg mb G Y fa o pm cd doc dV kV ho hd hcd hD hmg hg args vals as hpre hlay hrd hwl hlo
 obtain rfl:dV=.none:=Dflts.none hD hdf
 obtain rfl:kV=.none:=Dflts.noKw hD
 obtain⟨a,vs,ns,rfl,rfl,hobj,hints,hlen⟩:=script_of hn hpre hwl
 refine enter_call (codeAny_mono (call w s₀ s₁ mg mb fa o pm cd doc a vs ns G Y ho (fd_plain hd) hcd hmg hobj hints hlen hg) fun r s' hq=>?_)
 obtain⟨rfl,h2,h3,h4⟩:=hq
 exact⟨.inl ⟨.bool true,.bool true,[],rfl,fun _=>rfl,.bool true,post_true l _,fun _=>⟨List.Pairwise.nil,fun _ hm=>(nomatch hm)⟩⟩,h2,h3,h4⟩
section
variable {prog:Program}{w:World}{A:Around}{E:Value→Shared→Prop}{s:Shared}{K:Frag}
end
end Att
namespace L2
open PySem PySem.Spec PyProof.Rows
theorem vals_ints:∀ {vs:List Value}{ns:List Int},IntsAre vs ns→b0 (ns.map V.int) vs
 | _,_,.nil=>.nil
 | _,_,.cons n t h=>.cons ⟨t,rfl⟩ (vals_ints h)
noncomputable def Only (H:Hp):Prop:=∀ b,H b=none∨∃ o xs,H b=some (.frz o (.lst xs))
theorem law_call {P:Program}{w:World}{K:PySem.W.Frag}{mg mb:Str→Option Value}{CX:CXT}{k:Nat}{fa a:Addr}{fd:FuncData}{x:Str}{sp:Sp}{s₁:Shared}{vs:List Value}{ns:List Int}
  (KX:K.In s₁.heap) (hns:s₁.heap.Ns mainGlobals mg) (hb:s₁.heap.Ns builtinsNs mb) (hbb:∀ x:Str,x ≠ "__name__" → mb x=bootBuiltins x) (hlim:s₁.heap.NoLimit) (hg:s₁.gens = #[])
  (ha:s₁.heap.get? a=some { cls:=.type "list",data:=.seq vs.toArray }) (hi:IntsAre vs ns) (hl:ns.length≤sizeLine) (hr:Room k callerA)
  (F:∀ base:Heap,K.In base→base.Ns mainGlobals mg→FnOk P w K mg base CX k fa fd [x] sp) (hbind:∀ (s:Shared) (u:Value),BindsTo s fd ⟨[u],[]⟩ [(x,u)])
  (hsp:∀ H:Hp,Only H→bX K H a (ns.map V.int)→sp [.ref a] H (fun v _=>v=.bl true) fun _ _ _=>False)
  (hCX:∀ H e s',CX [] H s₁ (fun _ _ _=>False) e s'→False) :
  codeAny (model P w) callerA (.call (.ref fa) ⟨[.ref a],[]⟩) (fun r s'=>r=.ok (.ret (.bool true))∧OldK s₁.heap s'.heap∧s'.os=s₁.os∧AllBare s'.gens) s₁:=by
 have rv:=vals_ints hi
 have lenV:=hi.length
 have core:∀ H:Hp,Only H→bX K H a (ns.map V.int)→HOk P w H s₁.heap→(∀ b,H b≠none→b=a)→(H a≠none→K.lookup a=none)→
   codeAny (model P w) callerA (.call (.ref fa) ⟨[.ref a],[]⟩) (fun r s'=>r=.ok (.ret (.bool true))∧OldK s₁.heap s'.heap∧s'.os=s₁.os∧AllBare s'.gens) s₁:=by
  intro H hO hS hok hA hK
  have base_of:∀ {b:Addr}{o:Obj},s₁.heap.get? b=some o→H b=none→(hidT s₁.heap H).get? b=some o:=fun e n=>hidT_get e n
  have noA:∀ {b:Addr}{o:Obj}{es:Array DictEntry}{ep:Nat},s₁.heap.get? b=some o→o.data=.dict es ep→H b=none:=fun {b o es ep} e d=>by
   cases q:H b with
   | none=>rfl
   | some u=>
    have e':b=a:=hA b (by rw[q];simp)
    subst e'
    rw[ha] at e;cases e
    have d':Data.seq vs.toArray _=Data.dict es ep:=d
    cases d'
  have nsK:∀ {b:Addr}{m:Str→Option Value},s₁.heap.Ns b m→(hidT s₁.heap H).Ns b m:=fun {b m} ⟨o,es,ep,e,d,r⟩=>⟨o,es,ep,base_of e (noA e d),d,r⟩
  have hKb:K.In (hidT s₁.heap H):=fun b o e=>base_of (KX b o e) (by
   cases q:H b with
   | none=>rfl
   | some u=>
    have e':b=a:=hA b (by rw[q];simp)
    subst e'
    rw[hK (by rw[q];simp)] at e;cases e)
  have hM:Mod K mg (hidT s₁.heap H):=⟨hKb,nsK hns,⟨mb,nsK hb,hbb⟩,let ⟨mc,h1,h2⟩:=hlim;⟨mc,nsK h1,h2⟩⟩
  have e0:Env0 P w K mg (hidT s₁.heap H) callerA [] s₁ H:=⟨rfl,hM,fun b o e=>of_hidT e,Nat.le_of_eq (hidT_size _ _),trivial,fun b hb=>absurd (show b∈([]:List Addr) from hb) (by simp),hok,.of_eq hg⟩
  refine codeAny_mono ((F _ hKb (nsK hns)).run callerA [] s₁ H ⟨[.ref a],[]⟩ [.ref a] [.ref a] _ _ hr e0 (hbind s₁ (.ref a)) (.cons rfl .nil) (hsp H hO hS)) fun r s' h=>?_
  cases r with
  | error e=>exact (hCX H e s' h).elim
  | ok fl=>
   cases fl with
   | next=>exact False.elim h
   | brk=>exact False.elim h
   | cont=>exact False.elim h
   | ret u=>
    obtain⟨v,H',os,bare,un,hok',r',q⟩:=h
    have q':v=.bl true:=q
    subst q'
    obtain rfl:u=Value.bool true:=r'
    refine⟨rfl,OldK.of_keep fun b o e=>?_,os,bare⟩
    cases q:H b with
    | none=>exact un.keep b o e q (by intro z;exact absurd (show b∈([]:List Addr) from z) (by simp)) (by simp)
    | some u=>
     rcases hO b with z | ⟨ob,xs,z⟩
     ·rw[q] at z;cases z
     ·have z2:=un.frzs b ob _ z
      obtain⟨e1,_⟩:=hok b _ z
      obtain⟨e2,_⟩:=hok' b _ z2
      rw[e] at e1;cases e1
      exact e2
 cases hk:K.lookup a with
 | some o=>
  have e:=KX a o hk
  rw[ha] at e
  cases e
  refine core (fun _=>none) (fun _=>.inl rfl) (.inr ⟨_,vs.toArray,_,hk,rfl,rfl,rfl,by rw[List.size_toArray,lenV];exact hl,by simpa using rv⟩) (fun b u z=>by have z':(none:Option HO)=some u:=z;cases z') (fun b z=>absurd rfl z) fun z=>absurd rfl z
 | none=>
  refine core (fun b=>if b=a then some (.frz { cls:=.type "list",data:=.seq vs.toArray } (.lst (ns.map V.int))) else none) (fun b=>?_) (.inl (.inr ⟨{ cls:=.type "list",data:=.seq vs.toArray },if_pos rfl⟩)) (fun b u z=>?_) (fun b z=>?_) fun _=>hk
  ·by_cases hb:b=a
   ·exact .inr ⟨_,_,if_pos hb⟩
   ·exact .inl (if_neg hb)
  ·by_cases hb:b=a
   ·have z':=(if_pos hb).symm.trans z
    cases z'
    subst hb
    exact⟨ha,by rw[List.length_map];exact hl,vs,_,rv,ha⟩
   ·have z':=(if_neg hb).symm.trans z
    cases z'
  ·by_cases hb:b=a
   ·exact hb
   ·exact absurd (if_neg hb) z
end L2
namespace L2
open PySem PySem.Spec PyProof.Rows
theorem walk_of {l:PySem.W.OpenLaw}{n k:Nat}{q:Program}{loose:List Str}{XP:(Str→Option Value)→Heap→Prop}{YP:World→Heap→Prop}{d:DefRec}{K:Params→PySem.W.Frag}{CX:World→CXT}{sp:World→Sp}{x:Str}
  (hn:l.most=some n) (hn2:n≤sizeLine) (hdf:d.params.defaults=[]) (hr:Room k callerA)
  (hY:∀ (w:World) (h:Heap),YP w h→(K w.params).In h)
  (F:∀ (w:World) (mg:Str→Option Value) (fa:Addr) (h:Heap),(K w.params).In h→h.Ns mainGlobals mg→mg d.name=some (.ref fa)→
   ∃ fd:FuncData,(∀ (s:Shared) (u:Value),BindsTo s fd ⟨[u],[]⟩ [(x,u)])∧
    ∀ base:Heap,(K w.params).In base→base.Ns mainGlobals mg→FnOk l.prog w (K w.params) mg base (CX w) k fa fd [x] (sp w))
  (hsp:∀ (w:World) (H:Hp) (a:Addr) (ns:List Int),ns.length≤n→Only H→bX (K w.params) H a (ns.map V.int)→sp w [.ref a] H (fun v _=>v=.bl true) fun _ _ _=>False)
  (hCX:∀ (w:World) (H:Hp) (s:Shared) (e:Value) (s':Shared),CX w [] H s (fun _ _ _=>False) e s'→False) :
  PySem.W.WalkO q loose XP YP l.row.toRowW d [] (fun f vs=>PySem.call f vs):=by
 refine Att.attach_call hn hdf fun w s₀ s₁ mg mb fa o pm cd doc a vs ns G Y ho hd hcd hmg hobj hints hlen hg=>?_
 have KX:=hY w _ Y
 obtain⟨fd,hb,hF⟩:=F w mg fa _ KX G.T.g hmg
 exact law_call KX G.T.g G.T.b G.T.builtins G.T.nolimit hg hobj hints (Nat.le_trans hlen hn2) hr hF hb (fun H hO hS=>hsp w H a ns hlen hO hS) fun H e s'=>hCX w H s₁ e s'
end L2
namespace L2
open PySem PySem.Spec PyProof.Rows
noncomputable def bC (s:Stmt):Arguments:=match s with
 | .FunctionDef _ a _ _ _ _ _ _ _ _=>a
 | _=>{ posonlyargs:=[],args:=[],vararg:=none,kwonlyargs:=[],kw_defaults:=[],kwarg:=none,defaults:=[] }
noncomputable def bA (s:Stmt):List Stmt:=match s with
 | .FunctionDef _ _ b _ _ _ _ _ _ _=>b
 | _=>[]
noncomputable def aK (s:Stmt):Scope:=match s with
 | .FunctionDef _ _ _ _ _ _ sc _ _ _=>sc
 | _=>{ kind:=.function,names:=[],isGenerator:=false,isCoroutine:=false }
noncomputable abbrev CX0:CXT:=fun _ _ _ _ _ _=>False
noncomputable abbrev E0:XK:=fun _ _ _=>False
theorem pass0 {X:Cx}:Passes CX0 X E0:=fun _ _ _ _ _ _ _ h=>h.elim
structure Fun (K:PySem.W.Frag) (x qual:Str) (st:Stmt) (f:Addr) (fd:FuncData):Prop where
 ex:∃ (oc:Value) (od:Option Addr) (kV doc pm:Value) (an:Option Addr) (cdv ct:Value) (osl:Array (Option Value)),
  fd=PySem.W.fnOf x qual (bC st) (bA st) (aK st) .none kV doc pm an cdv ct∧K.lookup f=some ⟨oc,od,.func fd,osl⟩∧PySem.W.codeIn K cdv qual=true
 kp:PySem.W.keepIn K (.ref f)=true
section
variable {P:Program}{w:World}{K:PySem.W.Frag}{mg:Str→Option Value}{base:Heap}
theorem Fun.ok {x qual:Str}{st:Stmt}{f:Addr}{fd:FuncData}{N ps:List Str}{k:Nat}{sp:Sp} (F:Fun K x qual st f fd) (S:FnScope N ps (aK st)) (len:∀ vs H Q E,sp vs H Q E→vs.length=ps.length)
  (hbody:∀ (cdv:Value) (A:Around) (outer:List Env) (s:Shared) (H:Hp) (vs:List V) (Q:VK) (E:XK),Room k (A.deeper (envOfC qual (aK st) s.heap.objs.size f cdv))→sp vs H Q E→
   ∃ t,PSs (cxOf CX0 P w K mg base N qual (aK st) f cdv A outer s H E).nox (bA st) t∧t { nx:=fun _ H'=>Q .non H',rt:=Q } (start N vs) H):FnOk P w K mg base CX0 (k+1) f fd ps sp:=by
 obtain⟨oc,od,kV,doc,pm,an,cdv,ct,osl,rfl,lk,hcd⟩:=F.ex
 refine fn_of lk hcd S len fun A outer s H vs Q E hr hsp=>?_
 obtain⟨t,h,q⟩:=hbody cdv A outer s H vs Q E hr hsp
 exact⟨t,h.nox,q⟩
theorem Fun.binds {x qual:Str}{st:Stmt}{f:Addr}{fd:FuncData}{ps:List Str} (F:Fun K x qual st f fd)
  (h:∀ (kV doc pm:Value) (an:Option Addr) (cdv ct:Value) (us:List Value),us.length=ps.length→bindArgs (PySem.W.fnOf x qual (bC st) (bA st) (aK st) .none kV doc pm an cdv ct) ⟨us,[]⟩=pure (ps.zip us)):Binds K fd ps []:=by
 obtain⟨oc,od,kV,doc,pm,an,cdv,ct,osl,rfl,lk,hcd⟩:=F.ex
 exact .all (h kV doc pm an cdv ct)
theorem cE {x qual:Str}{st:Stmt}{f:Addr}{oc:Value}{od an:Option Addr}{osl:Array (Option Value)}{kV doc pm cdv ct:Value} (l:K.lookup f=some ⟨oc,od,.func (PySem.W.fnOf x qual (bC st) (bA st) (aK st) .none kV doc pm an cdv ct),osl⟩)
  (c:PySem.W.codeIn K cdv qual=true) (k:PySem.W.keepIn K (.ref f)=true):Fun K x qual st f (PySem.W.fnOf x qual (bC st) (bA st) (aK st) .none kV doc pm an cdv ct):=⟨⟨oc,od,kV,doc,pm,an,cdv,ct,osl,rfl,l,c⟩,k⟩
end
theorem aW {n:Nat} (h:n≤1000):n < sizeLine:=Nat.lt_of_le_of_lt h (by decide)
section
variable {X:Cx}
theorem pv (i:Nat) {x:Str}{pos:Pos} (hN:X.N[i]? = some x:=by rfl) (hv:Vis X.env.scope x:=by first | exact Or.inl rfl | exact Or.inr (Or.inl rfl) | exact Or.inr (Or.inr rfl)) (hd:(x == ("__debug__" : Str))=false:=by decide)
  (hcd:(x == ("__classdict__" : Str))=false:=by decide):PE X (.Name x pos) (tVar i):=pe_var hN hv hd hcd
end
theorem bQ {A B:Prop} (h:B):if false=true then A else B:=by
 rw[if_neg Bool.false_ne_true]
 exact h
theorem iteT {A B:Prop} (h:A):if true=true then A else B:=by
 rw[if_pos rfl]
 exact h
theorem ite2 {c A B:Prop} [Decidable c] (h1:c→A) (h2:¬ c→B):if c then A else B:=by
 by_cases h:c
 ·rw[if_pos h]
  exact h1 h
 ·rw[if_neg h]
  exact h2 h
theorem iteNS {c A B:Prop} [Decidable c] (hc:c) (h:B):if (!decide c)=true then A else B:=by
 rw[decide_eq_true hc]
 exact bQ h
noncomputable def aG (H H':Hp):Prop:=∀ b o,H b=some o→H' b=some o
theorem aG.refl (H:Hp):aG H H:=fun _ _ h=>h
theorem aG.trans {H H1 H2:Hp} (a:aG H H1) (b:aG H1 H2):aG H H2:=fun c o h=>b c o (a c o h)
theorem aG.free {H H':Hp} (e:aG H H') {l:Addr} (h:H' l=Option.none):H l=Option.none:=by
 cases q:H l with
 | none=>rfl
 | some o=>
  rw[e l o q] at h
  cases h
theorem aG.seq {K:PySem.W.Frag}{H H':Hp}{a:Addr}{xs:List V} (e:aG H H') (h:bX K H a xs):bX K H' a xs:=by
 rcases h with (h | ⟨o,h⟩) | h
 ·exact .inl (.inl (e _ _ h))
 ·exact .inl (.inr ⟨o,e _ _ h⟩)
 ·exact .inr h
end L2
set_option maxHeartbeats 0
namespace L2
open PySem PySem.Spec PyProof.Rows
theorem cS {env:Env} (hk:env.scope.kind=.function):∀ {names:List (Str×NameKind)}{x:Str},names.lookup x=some .free→env.kindOf x=some .cell→
  (names.map fun (n,k)=>if (k == NameKind.free && env.scope.kind == .function && env.kindOf n == some .cell) then (n,NameKind.cell) else (n,k)).lookup x=some .cell
 | [],_,h,_=>by simp at h
 | (n,k)::r,x,h,hc=>by
  have ih:=@cS env hk r x
  show List.lookup x ((if (k == NameKind.free && env.scope.kind == .function && env.kindOf n == some .cell)=true then (n,NameKind.cell) else (n,k))::_)=_
  cases hx:x == n with
  | true=>
   simp only [List.lookup_cons,hx] at h
   cases h
   have e:x=n:=by simpa using hx
   subst e
   rw[if_pos (by rw[hk,hc];decide)]
   simp [List.lookup_cons]
  | false=>
   simp only [List.lookup_cons,hx] at h
   by_cases hq:(k == NameKind.free && env.scope.kind == .function && env.kindOf n == some .cell)=true
   ·rw[if_pos hq];simp only [List.lookup_cons,hx];exact ih h hc
   ·rw[if_neg hq];simp only [List.lookup_cons,hx];exact ih h hc
noncomputable def ClOk (env:Env):List (Str×Addr)→Prop
 | []=>True
 | p::r=>env.cells.lookup p.1=some p.2∧ClOk env r
theorem ClOk.get {env:Env}:∀ {cl:List (Str×Addr)},ClOk env cl→∀ x c,cl.lookup x=some c→env.cells.lookup x=some c
 | [],_,_,_,e=>by simp at e
 | (n,a)::r,h,x,c,e=>by
  cases hx:x == n with
  | true=>
   simp only [List.lookup_cons,hx] at e
   cases e
   have e':x=n:=by simpa using hx
   subst e'
   exact h.1
  | false=>
   simp only [List.lookup_cons,hx] at e
   exact ClOk.get h.2 x c e
noncomputable def FrOk (X:Cx) (scope:Scope) (N':List Str):List (Option Nat)→Nat→Prop
 | [],_=>True
 | none::r,i=>FrOk X scope N' r (i+1)
 | some j::r,i=>(∃ x,N'[i]? = some x∧X.N[j]? = some x∧scope.names.lookup x=some .free∧X.env.kindOf x=some .cell)∧FrOk X scope N' r (i+1)
theorem FrOk.get {X:Cx}{scope:Scope}{N':List Str}:∀ {fr:List (Option Nat)}{k:Nat},FrOk X scope N' fr k→∀ i j,fr[i]? = some (some j)→
  ∃ x,N'[k+i]? = some x∧X.N[j]? = some x∧scope.names.lookup x=some .free∧X.env.kindOf x=some .cell
 | [],_,_,i,j,e=>by simp at e
 | none::r,k,h,0,j,e=>by simp at e
 | some _::r,k,h,0,j,e=>by simp at e;subst e;exact h.1
 | none::r,k,h,i+1,j,e=>by
  have:=FrOk.get (k:=k+1) (show FrOk X scope N' r (k+1) from h) i j (by simpa using e)
  rwa [Nat.add_right_comm] at this
 | some _::r,k,h,i+1,j,e=>by
  have:=FrOk.get (k:=k+1) h.2 i j (by simpa using e)
  rwa [Nat.add_right_comm] at this
structure LcOk (X:Cx) (scope:Scope) (cl:List (Str×Addr)) (N':List Str) (fr:List (Option Nat)):Prop where
 clos:closureFor scope X.env=pure cl
 cls:ClOk X.env cl
 kind:scope.kind=.function
 nocell:(scope.names.all fun p=>p.2 != NameKind.cell)=true
 locs:(scope.names.all fun p=>p.2 != NameKind.local || scope.names.lookup p.1 == some NameKind.local)=true
 frees:(scope.names.all fun p=>p.2 != NameKind.free || (cl.lookup p.1).isSome)=true
 len:fr.length=N'.length
 fr:FrOk X scope N' fr 0
noncomputable def frσ (fr:List (Option Nat)) (σ:St):St:=fr.map fun o=>o.bind fun j=>(σ[j]?).join
noncomputable def cxC (X:Cx) (N':List Str) (scope:Scope) (cl:List (Str×Addr)) (fp:List Addr) (s:Shared) (H:Hp):Cx:=
 { X with N:=N',s₀:=s,H₀:=H,env:=compEnvC scope cl s.heap.objs.size X.env,outer:=X.stack,ex:=fp,fn:=fun _=>false,pn:=[] }
noncomputable def PIf (X:Cx) (ifs:List Expr) (t:TT):Prop:=
 ∀ (pins:List (Addr×Obj)) (s:Shared) (σ:St) (H:Hp) (Q:Bool→Hp→Prop),Inv X pins σ H s→t σ H Q→
  wpAny (model X.prog X.w) X.A (forIn ifs true fun c r=>if r=true then do let ok ← isTrue c X.env (eval c X.env);pure (ForInStep.yield ok) else pure (ForInStep.yield r)) (TP X pins σ Q) X.xe s
noncomputable def tYes:TT:=fun _ H Q=>Q true H
theorem pif_nil {X:Cx}:PIf X [] tYes:=fun _ _ _ H _ I h=>wpAny_tests_nil ⟨H,I,h⟩
theorem pif_one {X:Cx}{c:Expr}{t:TT} (h:PT X c t):PIf X [c] t:=fun pins s σ H Q I hw=>wpAny_tests_one (h pins s σ H Q I hw)
noncomputable def lcRest (J:It) (g:TG) (tc:TT) (te:TE) (fr:List (Option Nat)) (σ:St) (H1:Hp) (Q:Addr→Hp→Prop):Prop:=
 ∀ D,H1 D=none→∃ W:Nat→Nat→List V→St→Hp→Prop,(∃ m,W 0 m [] (frσ fr σ) (upd H1 D (.lst [])))∧
  ∀ i m ys σ' H',W i m ys σ' H'→(J.stop i H'∧Q D H')∨
   (J.go i H'∧∃ N:List V→St→Hp→Prop,(∀ ys' σ'' H'',N ys' σ'' H''→∃ m',m' < m∧W (i+1) m' ys' σ'' H'')∧
    ∀ x H2,J.yld i H' x H2→g x σ' H2 fun σ3 H3=>tc σ3 H3 fun b H4=>
    if b=true then te σ3 H4 fun y H5=>H5 D=some (.lst ys)∧ys.length < sizeLine∧N (ys++[y]) σ3 (upd H5 D (.lst (ys++[y])))
    else N ys σ3 H4)
theorem lc_gen {J:It}{n:Nat}{g:TG}{tc:TT}{te:TE}{fr:List (Option Nat)}{σ:St}{H1:Hp}{Q:Addr→Hp→Prop} (Pv:Addr→Nat→List V→St→Hp→Prop)
  (h0:∀ D,H1 D=none→Pv D 0 [] (frσ fr σ) (upd H1 D (.lst [])))
  (hstop:∀ D ys σ' H',Pv D n ys σ' H'→J.stop n H'∧Q D H')
  (hgo:∀ D i ys σ' H',i < n→Pv D i ys σ' H'→J.go i H'∧∀ x H2,J.yld i H' x H2→g x σ' H2 fun σ3 H3=>tc σ3 H3 fun b H4=>
    if b=true then te σ3 H4 fun y H5=>H5 D=some (.lst ys)∧ys.length < sizeLine∧Pv D (i+1) (ys++[y]) σ3 (upd H5 D (.lst (ys++[y])))
    else Pv D (i+1) ys σ3 H4):lcRest J g tc te fr σ H1 Q:=by
 intro D hD
 refine⟨fun i m ys σ H=>m=n - i∧i≤n∧Pv D i ys σ H,⟨n,by simp,Nat.zero_le _,h0 D hD⟩,?_⟩
 rintro i m ys σ' H' ⟨rfl,hi,p⟩
 by_cases hlt:i < n
 ·obtain⟨go,step⟩:=hgo D i ys σ' H' hlt p
  exact .inr ⟨go,Pv D (i+1),fun ys' σ'' H'' p'=>⟨n - (i+1),by omega,rfl,hlt,p'⟩,step⟩
 ·have e:i=n:=by omega
  subst e
  exact .inl (hstop D ys σ' H' p)
theorem for_gen {J:It}{n:Nat}{g:TG}{tb:TS}{D:Ends}{σ:St}{H:Hp} (Pv:Nat→St→Hp→Prop) (h0:Pv 0 σ H) (hstop:∀ σ H,Pv n σ H→J.stop n H∧D.nx σ H)
  (hgo:∀ i σ H,i < n→Pv i σ H→J.go i H∧∀ x H',J.yld i H x H'→g x σ H' fun σ2 H2=>tb { D with nx:=Pv (i+1),ct:=Pv (i+1),bk:=D.nx } σ2 H2) :
  ∃ W:Nat→Nat→St→Hp→Prop,(∃ m,W 0 m σ H)∧∀ i m σ H,W i m σ H→
   (J.stop i H∧D.nx σ H)∨(J.go i H∧∃ N:St→Hp→Prop,(∀ σ' H',N σ' H'→∃ m',m' < m∧W (i+1) m' σ' H')∧∀ x H',J.yld i H x H'→g x σ H' fun σ2 H2=>tb { D with nx:=N,ct:=N,bk:=D.nx } σ2 H2):=by
 refine⟨fun i m σ H=>m=n - i∧i≤n∧Pv i σ H,⟨n,by simp,Nat.zero_le _,h0⟩,?_⟩
 rintro i m σ H ⟨rfl,hi,p⟩
 by_cases hlt:i < n
 ·obtain⟨go,step⟩:=hgo i σ H hlt p
  exact .inr ⟨go,Pv (i+1),fun σ' H' p'=>⟨n - (i+1),by omega,rfl,hlt,p'⟩,step⟩
 ·have e:i=n:=by omega
  subst e
  exact .inl (hstop σ H p)
noncomputable def tLC (wi:TI) (fr:List (Option Nat)) (g:TG) (tc:TT) (te:TE):TE:=fun σ H Q=>wi σ H fun J H1=>lcRest J g tc te fr σ H1 fun D H'=>Q (.ref D) H'
section
variable {prog:Program}{w:World}{A:Around}{R:Result→Shared→Prop}{s:Shared}
theorem compLoop_any {elt target iter:Expr}{ifs:List Expr}{scope:Scope}{pos:Pos}{it acc:Value}{env:Env} (I:Nat→Shared→Prop)
  (turn:∀ n s,I n s→wpAny (model prog w) A (pyNext it) (fun r s₁=>match r with
   | none=>R (.ok .next) s₁
   | some v=>wpAny (model prog w) A (letOwnedTupleGo target it v) (fun _ s₁'=>wpAny (model prog w) A (assign target env v) (fun _ s₂=>
     wpAny (model prog w) A (forIn ifs true fun c r=>if r=true then do let ok ← isTrue c env (eval c env);pure (ForInStep.yield ok) else pure (ForInStep.yield r)) (fun ok s₃=>
      if ok=true then wpAny (model prog w) A (eval elt env) (fun x s₄=>
       wpAny (model prog w) A (call (.builtin "list.append") [acc,x]) (fun _ s₅=>∃ m,m < n∧I m s₅) (notedBy (model prog w) A env fun e s'=>R (.error e) s') s₄) (notedBy (model prog w) A env fun e s'=>R (.error e) s') s₃
      else ∃ m,m < n∧I m s₃) (notedBy (model prog w) A env fun e s'=>R (.error e) s') s₂) (notedBy (model prog w) A env fun e s'=>R (.error e) s') s₁') (notedBy (model prog w) A env fun e s'=>R (.error e) s') s₁)
    (notedBy (model prog w) A env fun e s'=>R (.error e) s') s)
  (n:Nat) (h:I n s) :
  codeAny (model prog w) A (.compLoop (.ListComp elt [⟨target,iter,ifs,0⟩] scope pos) 0 it acc env) R s:=by
 refine codeAny_loop rfl I (fun n s hI=>?_) n h
 show wpAny _ A ((compTurn (.ListComp elt [⟨target,iter,ifs,0⟩] scope pos) 0 it acc env).onRaise (fun x=>do noteFrame x env;theTreesLotGoes x)) _ _ s
 refine wpAny_noted ?_
 rw[compTurn_list]
 refine wpAny_bind (wpAny_standAt (wpAny_bind (wpAny_mono (turn n s hI) (fun r s₁ h₁=>?_) fun _ _ h'=>h')))
 cases r with
 | none=>exact wpAny_pure h₁
 | some v=>
  refine wpAny_bind (wpAny_mono h₁ (fun _ s₁' h₁'=>?_) fun _ _ h'=>h')
  refine wpAny_bind (wpAny_mono h₁' (fun _ s₂ h₂=>wpAny_bind (wpAny_mono h₂ (fun ok s₃ h₃=>?_) fun _ _ h'=>h')) fun _ _ h'=>h')
  cases ok with
  | false=>exact wpAny_pure ⟨rfl,h₃⟩
  | true=>
   exact wpAny_bind (wpAny_bind (wpAny_mono h₃ (fun x s₄ h₄=>wpAny_bind (wpAny_mono h₄ (fun _ s₅ h₅=>wpAny_pure (wpAny_pure ⟨rfl,h₅⟩)) fun _ _ h'=>h')) fun _ _ h'=>h'))
end
section
variable {X:Cx}
theorem LcOk.invC {scope:Scope}{cl:List (Str×Addr)}{N':List Str}{fr:List (Option Nat)}{pins:List (Addr×Obj)}{σ:St}{H:Hp}{s:Shared}{h1:Heap}{fp:List Addr}{m1:Str→Option Value}{tk:Nat}
  (S:LcOk X scope cl N' fr) (I:Inv X pins σ H s) (hf:∀ b∈fp,FpOk X pins H b) (hfo:∀ b∈fp,b < s.heap.objs.size)
  (k:∀ b o,s.heap.get? b=some o→h1.get? b=some o) (hn:h1.Ns s.heap.objs.size m1):Inv (cxC X N' scope cl fp s H) [] (frσ fr σ) H { s with heap:=h1,toks:=tk }:=by
 have hfree:=S.frees
 have hcell:=S.nocell
 rw[List.all_eq_true] at hfree hcell
 have fresh:H s.heap.objs.size=none:=I.hok.fresh (Nat.le_refl _)
 have clg:=S.cls.get
 refine⟨⟨I.ok.mod,S.kind,I.ok.glob,I.ok.blt,Nat.le_refl _,fun x y c e1 e2=>I.ok.inj x y c (clg x c e1) (clg y c e2),fun x hx=>?_,(fun x c e=>nomatch e),I.ok.hd,I.ok.frames,.inl rfl,fun b hb=>⟨Nat.ne_of_lt (hfo b hb),fun x c e=>(hf b hb).2.2.2.2.1 x c (clg x c e)⟩,
  I.bs,Nat.le_trans I.ok.bsz I.sz,fun b o e hb=>?_,fun b hb hz=>?_,I.stack,I.stkFree⟩,rfl,I.bare,Un.kept k,⟨m1,hn,fun i x v e1 e2 e3=>?_⟩,fun x c e=>?_,fresh,fun x c e=>I.freeC x c (clg x c e),fun p hp=>absurd (show p∈([]:List (Addr×Obj)) from hp) (by simp),I.hok.kept k,?_⟩
 ·
  have hm:∃ k',(x,k')∈scope.names∧k'=NameKind.free:=by
   have hx':(relabel scope X.env).names.lookup x=some .cell∨(relabel scope X.env).names.lookup x=some .free:=hx
   obtain⟨k',e,hk'⟩:∃ k',(relabel scope X.env).names.lookup x=some k'∧(k'=.cell∨k'=.free):=by
    rcases hx' with e | e
    ·exact⟨_,e,.inl rfl⟩
    ·exact⟨_,e,.inr rfl⟩
   have hmem:=PySem.mem_of_lookup e
   obtain⟨⟨n,kn⟩,hp,he⟩:=List.mem_map.mp hmem
   dsimp only at he
   split at he
   ·rename_i hc
    cases he
    have:kn=.free:=by
     simp only [Bool.and_eq_true,beq_iff_eq] at hc
     exact hc.1.1
    exact⟨kn,hp,this⟩
   ·cases he
    rcases hk' with e' | e'
    ·subst e'
     have:=hcell _ hp
     simp at this
    ·exact⟨_,hp,e'⟩
  obtain⟨k',hp,rfl⟩:=hm
  have:=hfree _ hp
  simp only [bne_self_eq_false,Bool.false_or] at this
  exact Option.isSome_iff_exists.mp this
 ·rcases (hf b hb).2.2.2.1 with z | z
  ·exact I.ok.noex b o e z
  ·have:=Heap.lt_size e
   exact absurd (Nat.lt_of_lt_of_le this (Nat.le_trans I.ok.bsz z)) (Nat.lt_irrefl _)
 ·obtain⟨_,f1,f2,_⟩:=hf b hb
  rcases List.mem_cons.mp (I.stkSub b hz) with e | e
  ·exact f1 e
  ·exact f2 e
 ·
  unfold frσ at e2
  rw[List.getElem?_map] at e2
  cases ef:fr[i]? with
  | none=>rw[ef] at e2;cases e2
  | some o=>
   rw[ef] at e2
   cases o with
   | none=>simp at e2
   | some j=>
    have e2':(σ[j]?).join=some v:=by simpa using e2
    obtain⟨x',h1',h2',h3',h4'⟩:=S.fr.get i j ef
    rw[Nat.zero_add] at h1'
    have ex:x'=x:=by
     have:N'[i]? = some x:=e1
     rw[h1'] at this
     exact Option.some.inj this
    subst ex
    have e2'':σ[j]? = some (some v):=by
     cases q:σ[j]? with
     | none=>rw[q] at e2';cases e2'
     | some z=>rw[q] at e2';simp at e2';rw[e2']
    obtain⟨m,hm,hl⟩:=I.loc
    obtain⟨u,r,lk⟩:=hl j x' v h2' e2'' (.inr (.inl h4'))
    refine⟨u,r,?_⟩
    rcases lk with ⟨q,_⟩ | ⟨_,c,hc,z⟩
    ·rw[h4'] at q;cases q
    ·have hcl:∃ c',cl.lookup x'=some c':=by
      have:=hfree _ (PySem.mem_of_lookup h3')
      simp only [bne_self_eq_false,Bool.false_or] at this
      exact Option.isSome_iff_exists.mp this
     obtain⟨c',hc'⟩:=hcl
     have e':=clg x' c' hc'
     rw[hc] at e'
     cases e'
     obtain⟨oc,hoc,hd⟩:=z
     refine .inr ⟨.inl ?_,c,hc',oc,k c oc hoc,hd⟩
     exact cS I.ok.kind h3' h4'
 ·obtain⟨v,oc,hoc,hd⟩:=I.cell x c (clg x c e)
  exact⟨v,oc,k c oc hoc,hd⟩
 ·show (frσ fr σ).length=N'.length
  unfold frσ
  rw[List.length_map,S.len]
theorem Inv.outC {scope:Scope}{cl:List (Str×Addr)}{N':List Str}{pins pins':List (Addr×Obj)}{σ σ':St}{H H':Hp}{s s':Shared}{fp:List Addr} (I:Inv X pins σ H s) (J:Inv (cxC X N' scope cl fp s H) pins' σ' H' s')
  (hf:∀ b∈fp,FpOk X pins H b):Inv X pins σ H' s':=
 I.call' (ch:=fp) J.os J.base J.hok J.bare fun b hb=>by
  obtain⟨_,f1,_,f3,f4,f5⟩:=hf b hb
  exact⟨f3,f1,f4,f5⟩
theorem Inv.letgo {pins:List (Addr×Obj)}{σ:St}{H:Hp}{s:Shared}{C:Addr}{h':Heap} (I:Inv X pins σ H s) (f:FpOk X pins H C) (hsb:Heap.SameBut C s.heap h'):Inv X pins σ H { s with heap:=h' }:=by
 obtain⟨f0,f1,f2,f3,f4,f5⟩:=f
 exact I.turned (t':=s.toks) (it:=C) (h':=h') (fun b o hb e=>(hsb.2 b hb).trans e) f0 f1 f3 f4 f5
theorem lc_block {elt tg iter:Expr}{ifs:List Expr}{scope:Scope}{pos:Pos}{N':List Str}{fr:List (Option Nat)}{cl:List (Str×Addr)}{g:TG}{tc:TT}{te:TE}
  {pins:List (Addr×Obj)}{σ:St}{H:Hp}{s:Shared}{J:It}{fp:List Addr}{it:Addr}{tn:Nat→Heap→Prop}{Q:Addr→Hp→Prop}{RR:Value→Addr→Result→Shared→Prop}{E:Value→Shared→Prop}
  (hx:∀ e s,¬ X.xe e s) (hc:X.calm=true) (S:LcOk X scope cl N' fr)
  (hg:∀ fp s H,PG (cxC X N' scope cl fp s H) tg g) (ht:∀ fp s H,PIf (cxC X N' scope cl fp s H) ifs tc) (he:∀ fp s H,PE (cxC X N' scope cl fp s H) elt te)
  (I:Inv X pins σ H s) (T:Turn X.prog X.w X.K tg J fp it tn) (st:tn 0 s.heap) (hf:∀ b∈fp,FpOk X pins H b) (h:lcRest J g tc te fr σ H Q)
  (hRR:∀ D C H' s' m',Inv X pins σ H' s'→Q D H'→s'.heap.Ns C m'→FpOk X pins H' C→RR (.ref D) C (.ok .next) s') :
  wpAny (model X.prog X.w) X.A (newList []) (fun acc s₃=>wpAny (model X.prog X.w) X.A (newFunctionEnv scope X.env.globals cl [] X.env.qual none .none (some X.env)) (fun cenv s₄=>
   codeAny (model X.prog X.w) X.A (.compStart (.ListComp elt [⟨tg,iter,ifs,0⟩] scope pos) 0 (.ref it) acc { cenv with scope:=relabel scope X.env }) (RR acc cenv.locals) s₄) E s₃) E s:=by
 have hcell:=S.nocell
 rw[List.all_eq_true] at hcell
 refine wpAny_newObj_type (wpAny_newFunctionEnv (fun x hx'=>by simpa using hcell x hx') (by intro y hy;simp at hy) (fun h₁ hns₁ hsb₁=>?_) S.kind)
 dsimp only at hns₁ hsb₁ ⊢
 have fresh:H s.heap.objs.size=none:=I.hok.fresh (Nat.le_refl _)
 have I3:Inv X pins σ (upd H s.heap.objs.size (.lst [])) { s with heap:=s.heap.push { cls:=.type "list",data:=.seq ([]:List Value).toArray },toks:=s.toks }:=I.lnew (ys:=[]) (its:=[]) .nil (Nat.zero_le _)
 have hf3:∀ b∈fp,FpOk X pins (upd H s.heap.objs.size (.lst [])) b:=fun b hb=>by
  obtain⟨o,ho,_⟩:=T.obj _ _ st b hb
  exact⟨by rw[aO (Nat.ne_of_lt (Heap.lt_size ho))];exact (hf b hb).1,(hf b hb).2⟩
 generalize hs3:({ s with heap:=s.heap.push { cls:=.type "list",data:=.seq ([]:List Value).toArray },toks:=s.toks }:Shared)=s3 at I3
 have e3:s3.heap=s.heap.push { cls:=.type "list",dict:=none,data:=.seq ([]:List Value).toArray }:=by rw[← hs3]
 have e3s:({ s with heap:=s.heap.push { cls:=.type "list",dict:=none,data:=.seq ([]:List Value).toArray } }:Shared)=s3:=hs3
 have hsz3:s3.heap.objs.size=s.heap.objs.size+1:=by rw[e3,Heap.size_push]
 have hfo:∀ b∈fp,b < s3.heap.objs.size:=fun b hb=>by
  obtain⟨o,ho,_⟩:=T.obj _ _ st b hb
  rw[hsz3]
  exact Nat.lt_succ_of_lt (Heap.lt_size ho)
 rw[← e3] at hns₁ hsb₁ ⊢
 have old3:∀ b o,s3.heap.get? b=some o→h₁.get? b=some o:=fun b o e=>hsb₁.extBut b o (Nat.ne_of_lt (Heap.lt_size e)) (Heap.get?_push_of_some _ e)
 have old:∀ b o,s.heap.get? b=some o→s3.heap.get? b=some o:=fun b o e=>by rw[e3];exact Heap.get?_push_of_some _ e
 have I4:=S.invC (tk:=s3.toks) I3 hf3 hfo old3 hns₁
 obtain⟨W,⟨m0,w0⟩,turn⟩:=h s.heap.objs.size fresh
 have stat:∀ {H':Hp},(∀ b∈fp,H' b=none)→∀ b∈fp,FpOk (cxC X N' scope cl fp s3 (upd H s.heap.objs.size (.lst []))) [] H' b:=fun hn b hb=>by
  refine⟨hn b hb,Nat.ne_of_lt (hfo b hb),?_,.inl hb,fun x c e=>(hf b hb).2.2.2.2.1 x c (S.cls.get x c e),fun p hp=>absurd (show p∈([]:List (Addr×Obj)) from hp) (by simp)⟩
  intro hz
  obtain⟨_,f1,f2,_⟩:=hf b hb
  rcases List.mem_cons.mp (I.stkSub b hz) with e | e
  ·exact f1 e
  ·exact f2 e
 have loop:∀ s4:Shared,s4={ s3 with heap:=h₁,toks:=s3.toks }→
   codeAny (model X.prog X.w) X.A (.compLoop (.ListComp elt [⟨tg,iter,ifs,0⟩] scope pos) 0 (.ref it) (.ref s.heap.objs.size) (compEnvC scope cl s3.heap.objs.size X.env)) (RR (.ref s.heap.objs.size) s3.heap.objs.size) s4:=by
  intro s4 hs4
  refine compLoop_any (fun n s'=>∃ i ys σ' H',Inv (cxC X N' scope cl fp s3 (upd H s.heap.objs.size (.lst []))) [] σ' H' s'∧tn i s'.heap∧(∀ b∈fp,H' b=none)∧W i n ys σ' H') ?_ m0
   ⟨0,[],frσ fr σ,_,by rw[hs4];exact I4,by rw[hs4];exact T.keep _ _ _ st fun b _ o e=>old3 b o (old b o e),fun b hb=>(hf3 b hb).1,w0⟩
  rintro n s5 ⟨i,ys,σ5,H5,I5,st5,fr5,w5⟩
  rcases turn i n ys σ5 H5 w5 with ⟨stop,qn⟩ | ⟨go,N,hN,step⟩
  ·refine cM (T.done (cxC X N' scope cl fp s3 (upd H s.heap.objs.size (.lst []))) rfl rfl rfl hc i [] s5 σ5 H5 _ I5 (stat fr5) st5 stop) fun r s6 ⟨hr,I6⟩=>?_
   subst hr
   obtain⟨m',hm',_⟩:=I6.loc
   exact hRR _ _ H5 s6 m' (I3.outC I6 hf3) qn hm' (I3.fpOk (Nat.le_refl _) I6.free)
  ·refine cM (T.item (cxC X N' scope cl fp s3 (upd H s.heap.objs.size (.lst []))) rfl rfl rfl hc i [] s5 σ5 H5 _ I5 (stat fr5) st5 go) fun r s6 ⟨u,hr,h6⟩=>?_
   subst hr
   refine cM h6 fun _ s7 ⟨x,H7,I7,r7,y7,st7,fr7⟩=>?_
   have I7':=I7.pinned (stat fr7) (T.obj _ _ st7)
   refine wpAny_mono (hg fp s3 _ _ s7 σ5 H7 x u _ I7' r7 (step x H7 y7)) (fun _ s8 ⟨σ8,H8,I8,q8⟩=>?_) fun e s' z=>(hx e s' z).elim
   refine wpAny_mono (ht fp s3 _ _ s8 σ8 H8 _ I8 q8) (fun ok s9 ⟨H9,I9,q9⟩=>?_) fun e s' z=>(hx e s' z).elim
   have again:∀ {s10:Shared}{H10:Hp}{ys':List V},Inv (cxC X N' scope cl fp s3 (upd H s.heap.objs.size (.lst []))) ([]++pinsAt fp s7.heap) σ8 H10 s10→N ys' σ8 H10→
     ∃ m,m < n∧∃ i ys σ' H',Inv (cxC X N' scope cl fp s3 (upd H s.heap.objs.size (.lst []))) [] σ' H' s10∧tn i s10.heap∧(∀ b∈fp,H' b=none)∧W i m ys σ' H':=fun {s10 H10 ys'} I10 n10=>by
    obtain⟨m',hm,w10⟩:=hN ys' σ8 H10 n10
    refine⟨m',hm,i+1,ys',σ8,H10,I10.unpinned,T.keep _ _ _ st7 fun b hb o e=>(I10.pin (b,o) (List.mem_append_right _ (List.mem_append_right _ (mem_pinsAt hb e)))).1,fun b hb=>?_,w10⟩
    obtain⟨o,e,d⟩:=T.obj _ _ st7 b hb
    exact (I10.pin (b,o) (List.mem_append_right _ (List.mem_append_right _ (mem_pinsAt hb e)))).2.1
   cases ok with
   | false=>
    rw[if_neg Bool.false_ne_true] at q9 ⊢
    exact again I9 q9
   | true=>
    rw[if_pos rfl] at q9 ⊢
    refine wpAny_mono (he fp s3 _ _ s9 σ8 H9 _ I9 q9) (fun y s10 ⟨yv,H10,I10,r10,hD,hlen,q10⟩=>?_) fun e s' z=>(hx e s' z).elim
    refine wpAny_mono (cI (X:=cxC X N' scope cl fp s3 (upd H s.heap.objs.size (.lst []))) _ s10 σ8 H10 (.ref s.heap.objs.size) [yv] (.ref s.heap.objs.size) [y] (fun _ H11=>H11=upd H10 s.heap.objs.size (.lst (ys++[yv]))) I10 rfl (.cons r10 .nil)
     ⟨_,ys,yv,rfl,rfl,hD,hlen,rfl⟩) (fun _ s11 ⟨_,H11,I11,_,e11⟩=>?_) fun e s' z=>(hx e s' z).elim
    subst e11
    exact again I11 q10
 exact codeAny_compStart_list (loop _ (by rw[← e3s];rfl)) (T.self X.A 0 _ _ _ (T.keep _ _ _ st fun b _ o e=>old3 b o (old b o e)) (loop _ (by rw[← e3s];rfl)))
theorem pe_lc {elt tg iter:Expr}{ifs:List Expr}{scope:Scope}{pos:Pos}{N':List Str}{fr:List (Option Nat)}{cl:List (Str×Addr)}{wi:TI}{g:TG}{tc:TT}{te:TE}
  (hx:∀ e s,¬ X.xe e s) (hc:X.calm=true) (S:LcOk X scope cl N' fr) (hi:PI X tg iter wi)
  (hg:∀ fp s H,PG (cxC X N' scope cl fp s H) tg g) (ht:∀ fp s H,PIf (cxC X N' scope cl fp s H) ifs tc) (he:∀ fp s H,PE (cxC X N' scope cl fp s H) elt te)
  (hs:∀ x,foldedSetIterable iter X.env x=pure x:=by intro _;rfl):PE X (.ListComp elt [⟨tg,iter,ifs,0⟩] scope pos) (tLC wi fr g tc te):=by
 intro pins s σ H Q I h
 have hloc:=S.locs
 rw[List.all_eq_true] at hloc
 rw[eval_ListComp]
 refine wpAny_comprehension_free (use:=none) rfl hs S.clos S.kind (fun x hx' hl=>by have:=hloc x hx';rw[hl] at this;simpa using this) (cM (hi pins s σ H _ I h) fun v s1 h1=>cM h1 fun itv s2 h2=>?_)
 obtain⟨it,fp,tn,J,H2,e,I2,T,st2,f2,rest⟩:=h2
 subst e
 refine lc_block (RR:=fun acc C=>compPost (model X.prog X.w) X.A X.xe none (EP X pins σ Q) acc C) hx hc S hg ht he I2 T st2 f2 rest ?_
 intro D C H' s' m' I' q hn f
 exact⟨m',hn,fun h' hsb=>⟨.ref D,H',I'.letgo f hsb,rfl,q⟩⟩
theorem ps_set_lc {i:Nat}{y:Str}{py:Pos}{spos:Pos}{elt tg iter:Expr}{ifs:List Expr}{scope:Scope}{pos:Pos}{N':List Str}{fr:List (Option Nat)}{cl:List (Str×Addr)}{wi:TI}{g:TG}{tc:TT}{te:TE}
  (hN:X.N.Nodup) (hy:X.N[i]? = some y) (hk:X.env.scope.names.lookup y=some .local)
  (hx:∀ e s,¬ X.xe e s) (hc:X.calm=true) (S:LcOk X scope cl N' fr) (hi:PI X tg iter wi)
  (hg:∀ fp s H,PG (cxC X N' scope cl fp s H) tg g) (ht:∀ fp s H,PIf (cxC X N' scope cl fp s H) ifs tc) (he:∀ fp s H,PE (cxC X N' scope cl fp s H) elt te)
  (hsw:swapsWith (.ListComp elt [⟨tg,iter,ifs,0⟩] scope pos) (some (.Name y py)) spos.line X.env=pure true:=by rfl)
  (hs:∀ x,foldedSetIterable iter X.env x=pure x:=by intro _;rfl):PS X (.Assign [.Name y py] (.ListComp elt [⟨tg,iter,ifs,0⟩] scope pos) spos) (tAsg (tLC wi fr g tc te) (gName i)):=by
 intro pins s σ H D I h
 have hloc:=S.locs
 rw[List.all_eq_true] at hloc
 rw[exec_Assign_Name_used _ _ _ _ hsw]
 refine wpAny_bind (wpAny_standAt (wpAny_bind ?_))
 show wpAny _ X.A (do let _ ← comprehension (.ListComp elt [⟨tg,iter,ifs,0⟩] scope pos) scope X.env _ (newList []) false (eval iter X.env) (some (assign (.Name y py) X.env))) _ _ s
 refine wpAny_bind (wpAny_mono (wpAny_comprehension_free (use:=some (assign (.Name y py) X.env)) (Q:=fun _ s'=>SP X pins D .next s') rfl hs S.clos S.kind (fun x hx' hl=>by have:=hloc x hx';rw[hl] at this;simpa using this)
  (cM (hi pins s σ H _ I h) fun v s1 h1=>cM h1 fun itv s2 h2=>?_)) (fun _ s' hq=>wpAny_pure (wpAny_pure hq)) fun _ _ e=>e)
 obtain⟨it,fp,tn,J,H2,e,I2,T,st2,f2,rest⟩:=h2
 subst e
 refine lc_block (RR:=fun acc C=>compPost (model X.prog X.w) X.A X.xe (some (assign (.Name y py) X.env)) (fun _ s'=>SP X pins D .next s') acc C) hx hc S hg ht he I2 T st2 f2 rest ?_
 intro Da C H' s' m' I' q hn f
 show wpAny _ X.A (assign (.Name y py) X.env (.ref Da)) _ _ _
 refine wpAny_assign_Name (store_ok2 I' hN hy (.inl hk) (v:=.ref Da) rfl (fun s'' I'' hch=>?_) (.inr hk))
 obtain⟨a,hsb,ha⟩:=hch
 have haC:a≠C:=by
  rcases ha with e | e
  ·rw[e];exact Ne.symm f.2.1
  ·exact f.2.2.2.2.1 _ _ e
 exact⟨m',hn.sameBut hsb (Ne.symm haC),fun h' hs'=>⟨_,H',I''.letgo f hs',q⟩⟩
end
end L2
namespace TwZ
open PySem
open Sem (wp)
noncomputable def IsIt (h:Heap) (t:Bool) (it a:Addr) (i:Nat):Prop:=if t=true then h.IsTupleIter it a i else h.IsListIter it a i
noncomputable def IsSrc (h:Heap) (t:Bool) (a:Addr) (items:Array Value):Prop:=if t=true then h.IsTuple a items else h.IsList a items
theorem IsIt.at {h h':Heap}{t:Bool}{it a:Addr}{i:Nat} (x:IsIt h t it a i) (k:∀ o,h.get? it=some o→h'.get? it=some o):IsIt h' t it a i:=by
 cases t <;> (obtain⟨o,ho,r⟩:=x;exact⟨o,k o ho,r⟩)
theorem ex {h h':Heap}{b c:Addr}{o:Obj} (hs:Heap.SameBut b h h') (hc:@Ne Nat c b) (e:h.get? c=some o):h'.get? c=some o:=hs.extBut _ _ hc e
theorem IsIt.ext {h h':Heap}{t:Bool}{it a b:Addr}{i:Nat} (x:IsIt h t it a i) (hs:Heap.SameBut b h h') (hab:@Ne Nat it b):IsIt h' t it a i:=x.at fun o e=>hs.extBut _ _ hab e
theorem IsSrc.lt {h:Heap}{t:Bool}{a:Addr}{xs:Array Value} (x:IsSrc h t a xs):a < h.objs.size:=by
 cases t <;> (obtain⟨o,ho,r⟩:=x;exact Heap.lt_size ho)
theorem IsIt.obj {h:Heap}{t:Bool}{it a:Addr}{i:Nat} (x:IsIt h t it a i):∃ o,h.get? it=some o∧∀ v,o.data≠.cell v:=by
 cases t <;> (obtain⟨o,ho,_,d⟩:=x;exact⟨o,ho,fun v z=>by rw[d] at z;cases z⟩)
section
variable {prog:Program}{w:World}{M:Model}{A:Around}{E:Value→Shared→Prop}{s:Shared}
theorem wpAny_alive {a:Addr}{Q:Option Obj→Shared→Prop} (h:Q (s.heap.get? a) s):wpAny M A (loadIfAlive a) Q E s:=fun Γ p _=>by
 unfold loadIfAlive
 rw[Sem.wp_loadIfAlive]
 exact h
theorem nextOf_tuple_item {it l:Addr}{i:Nat}{items}{x:Value}{Q:Value→Shared→Prop} (hit:s.heap.IsTupleIter it l i)
  (hl:s.heap.IsTuple l items) (hx:items[i]? = some x)
  (hQ:∀ h',h'.IsTupleIter it l (i+1)→Heap.SameBut it s.heap h'→Q x { s with heap:=h' }) :
  wpAny (model prog w) A (Builtin.SmallTypes.nextOf (.ref it)) Q E s:=by
 obtain⟨o,ho,hc,hd⟩:=id hit
 obtain⟨ol,hol,_,nl,hdl⟩:=hl
 unfold Builtin.SmallTypes.nextOf
 refine wpAny_bind (wpAny_callSpecial?_slot (name:=Str.ofString "__next__") hit.typeIs F.slot_tuple_iterator_next
  (wpAny_call_entry F.slot_tuple_iterator_next hit.typeIs F.entry_tuple_iterator_next ?_ (F.args_tuple_iterator_next_1 _)))
 show wpAny _ _ (field (.ref it) 0 >>= _) _ _ s
 refine wpAny_bind (wpAny_field ho hd (x:=.ref l) rfl ?_)
 show wpAny _ _ (if (Value.ref l == Value.none)=true then _ else _) _ _ s
 rw[if_neg (show ¬ ((Value.ref l == Value.none)=true) from Bool.false_ne_true)]
 show wpAny _ _ (field (.ref it) 1 >>= _) _ _ s
 refine wpAny_bind (wpAny_field ho hd (x:=.int i 0) rfl ?_)
 show wpAny _ _ (seqItems? (.ref l) >>= _) _ _ s
 refine wpAny_bind (wpAny_seqItems hol hdl ?_)
 simp only [Int.toNat_natCast,hx]
 refine wpAny_bind (wpAny_setField ho hd (by simp) (wpAny_pure ⟨x,rfl,wpAny_pure (hQ _ ?_ (Heap.SameBut.update ..))⟩))
 exact⟨_,Heap.get?_update_self _ ho (Obj.isFreed_of_fields (Obj.data_mapFields hd _)),(Obj.cls_mapFields ..).trans hc,by
  rw[Obj.data_mapFields hd];simp [rawInt]⟩
theorem nextOf_tuple_end {it l:Addr}{i:Nat}{items}{Q:Value→Shared→Prop} (hh:A.handled=none)
  (hit:s.heap.IsTupleIter it l i) (hl:s.heap.IsTuple l items) (hx:items[i]? = none)
  (hE:∀ h' e,Heap.ExtBut it s.heap h'→(∃ o,h'.get? e=some o∧o.cls=.type "StopIteration")→E (.ref e) { s with heap:=h' }) :
  wpAny (model prog w) A (Builtin.SmallTypes.nextOf (.ref it)) Q E s:=by
 obtain⟨o,ho,hc,hd⟩:=id hit
 obtain⟨ol,hol,_,nl,hdl⟩:=hl
 unfold Builtin.SmallTypes.nextOf
 refine wpAny_bind (wpAny_callSpecial?_slot (name:=Str.ofString "__next__") hit.typeIs F.slot_tuple_iterator_next
  (wpAny_call_entry F.slot_tuple_iterator_next hit.typeIs F.entry_tuple_iterator_next ?_ (F.args_tuple_iterator_next_1 _)))
 show wpAny _ _ (field (.ref it) 0 >>= _) _ _ s
 refine wpAny_bind (wpAny_field ho hd (x:=.ref l) rfl ?_)
 show wpAny _ _ (if (Value.ref l == Value.none)=true then _ else _) _ _ s
 rw[if_neg (show ¬ ((Value.ref l == Value.none)=true) from Bool.false_ne_true)]
 show wpAny _ _ (field (.ref it) 1 >>= _) _ _ s
 refine wpAny_bind (wpAny_field ho hd (x:=.int i 0) rfl ?_)
 show wpAny _ _ (seqItems? (.ref l) >>= _) _ _ s
 refine wpAny_bind (wpAny_seqItems hol hdl ?_)
 simp only [Int.toNat_natCast,hx]
 refine wpAny_bind (wpAny_rule (wpAny_bind (wpAny_setField ho hd (by simp) ?_)))
 show wpAny _ _ (newExc (.type "StopIteration") [] >>= _) _ _ _
 refine wpAny_bind ?_
 simp only [newExc,newTuple]
 refine wpAny_bind (wpAny_newObj_type ?_ (by size_fits))
 refine wpAny_bind (m:=firstArgMember _ _) (wpAny_of_eq (a:=Value.none) (by first | rfl | (simp only [firstArgMember];rfl)) ?_)
 refine wpAny_newObj_type ?_ (by size_fits)
 simp only [raiseNew]
 refine wpAny_bind (wpAny_handled ?_)
 first | rw[show A.in1.handled=none from hh] | rw[hh]
 refine wpAny_bind (wpAny_pure (wpAny_throw ?_))
 exact hE _ _ (((Heap.SameBut.update ..).extBut.push _).push _) ⟨_,Heap.get?_push_size _ rfl,rfl⟩
theorem nextOf_item {t:Bool}{it l:Addr}{i:Nat}{items}{x:Value}{Q:Value→Shared→Prop} (hit:IsIt s.heap t it l i)
  (hl:IsSrc s.heap t l items) (hx:items[i]? = some x)
  (hQ:∀ h',IsIt h' t it l (i+1)→Heap.SameBut it s.heap h'→Q x { s with heap:=h' }) :
  wpAny (model prog w) A (Builtin.SmallTypes.nextOf (.ref it)) Q E s:=by
 cases t with
 | true=>exact nextOf_tuple_item hit hl hx hQ
 | false=>exact wpAny_nextOf_list_item hit hl hx hQ
theorem nextOf_end {t:Bool}{it l:Addr}{i:Nat}{items}{Q:Value→Shared→Prop} (hh:A.handled=none)
  (hit:IsIt s.heap t it l i) (hl:IsSrc s.heap t l items) (hx:items[i]? = none)
  (hE:∀ h' e,Heap.ExtBut it s.heap h'→(∃ o,h'.get? e=some o∧o.cls=.type "StopIteration")→E (.ref e) { s with heap:=h' }) :
  wpAny (model prog w) A (Builtin.SmallTypes.nextOf (.ref it)) Q E s:=by
 cases t with
 | true=>exact nextOf_tuple_end hh hit hl hx hE
 | false=>exact wpAny_nextOf_list_end hh hit hl hx hE
noncomputable abbrev IsTp (h:Heap) (T:Addr) (vs:Array Value):Prop:=h.get? T=some { cls:=.type "tuple",data:=.seq vs }
noncomputable def Free0 (f0:Value):Prop:=f0=.none∨∃ a:Int,f0=.int a 0
noncomputable def itObj (t:Bool) (a:Addr):Obj:={ cls:=.type (if t=true then "tuple_iterator" else "list_iterator"),data:=.fields #[.ref a,.int 0 0] }
theorem pyIter_src {t:Bool}{a:Addr}{items:Array Value}{Q:Value→Shared→Prop} (hs:IsSrc s.heap t a items) (hQ:Q (.ref s.heap.objs.size) { s with heap:=s.heap.push (itObj t a) }) :
  wpAny (model prog w) A (pyIter (.ref a)) Q E s:=by
 cases t with
 | true=>exact wpAny_pyIter_tuple hs hQ
 | false=>exact wpAny_pyIter_list hs hQ
theorem itObj_is {h:Heap}{t:Bool}{a it:Addr} (e:h.get? it=some (itObj t a)):IsIt h t it a 0:=by
 cases t <;> exact⟨_,e,rfl,rfl⟩
noncomputable abbrev zA (h:Heap) (t:Bool) (a:Addr):Heap:=h.push (itObj t a)
end
end TwZ
namespace TwZ
open PySem
open Sem (wp)
open AutoSeq1 (wpAny_loadPart')
section
variable {prog:Program}{w:World}{M:Model}{A:Around}{E:Value→Shared→Prop}{s:Shared}
noncomputable abbrev IsEn (h:Heap) (e it:Addr) (f0:Value) (f1:Bool) (i:Int) (old:Value):Prop:=
 h.get? e=some { cls:=.type "enumerate",dict:=none,data:=.fields #[f0,.bool f1,.ref it,rawInt i,.none,old],slots:=#[] }
theorem ownedE_free {e it:Addr}{f0:Value}{f1:Bool}{i:Int}{old:Value}{Q:Bool→Shared→Prop} (hz:IsEn s.heap e it f0 f1 i old) (hf:Free0 f0) (yes:Q true s)
  (no:∀ h',IsEn h' e it f0 true i old→Heap.SameBut e s.heap h'→Q false { s with heap:=h' }):wpAny (model prog w) A (Builtin.SmallTypes.ownedTupleIsFree (.ref e)) Q E s:=by
 unfold Builtin.SmallTypes.ownedTupleIsFree
 refine wpAny_bind (wpAny_field hz rfl (x:=f0) rfl ?_)
 rcases hf with rfl | ⟨a,rfl⟩
 ·exact wpAny_pure yes
 ·refine wpAny_bind (wpAny_alive ?_)
  cases h:s.heap.get? a.toNat with
  | none=>exact wpAny_pure yes
  | some o=>
   show wpAny _ _ (field (.ref e) 1 >>= _) _ _ _
   refine wpAny_bind (wpAny_field hz rfl (x:=.bool f1) rfl ?_)
   cases f1 with
   | true=>exact wpAny_pure (no s.heap hz (Heap.SameBut.refl ..))
   | false=>
    show wpAny _ _ (setField (.ref e) 1 (.bool true) >>= _) _ _ _
    refine wpAny_bind (wpAny_setField_rec hz (by simp) fun h₁ hz₁ hs₁=>wpAny_pure (no h₁ hz₁ hs₁))
theorem handOutE {e it:Addr}{f0:Value}{f1:Bool}{i:Int}{old:Value}{T:Addr}{Q:Unit→Shared→Prop} (hz:IsEn s.heap e it f0 f1 i old)
  (h:∀ h',IsEn h' e it (rawInt T) false i old→Heap.SameBut e s.heap h'→Q () { s with heap:=h' }):wpAny (model prog w) A (Builtin.SmallTypes.ownedTupleHandOut (.ref e) (.ref T)) Q E s:=by
 unfold Builtin.SmallTypes.ownedTupleHandOut
 refine wpAny_bind (wpAny_setField_rec hz (by simp) fun h₁ hz₁ hs₁=>?_)
 replace hz₁:IsEn h₁ e it (rawInt T) f1 i old:=hz₁
 refine wpAny_setField_rec hz₁ (by simp) fun h₂ hz₂ hs₂=>?_
 exact h h₂ hz₂ (Heap.SameBut.trans hs₁ hs₂)
theorem enum_next {n a:Nat}{t:Bool}{k:Nat}{xs:Array Value}{x old f0:Value}{f1:Bool}{Q:Value→Shared→Prop} (hf:Free0 f0)
  (he:IsEn s.heap (n+1) n f0 f1 k old) (i1:IsIt s.heap t n a k) (s1:IsSrc s.heap t a xs) (l1:a < n) (hx:xs[k]? = some x)
  (hQ:∀ (T:Nat) h' f0' f1' old',s.heap.objs.size≤T→Free0 f0'→IsEn h' (n+1) n f0' f1' ((k:Int)+1) old'→IsIt h' t n a (k+1)→IsTp h' T #[.int k s.toks,x]→
   (∀ (c:Nat) o,(c < n∨n+1 < c)→s.heap.get? c=some o→h'.get? c=some o)→Q (.ref T) { s with heap:=h',toks:=s.toks+1 }) :
  wpAny (model prog w) A (Builtin.«enumerate.__next__» ⟨[.ref (n+1)],[]⟩) (fun fin s'=>∃ v,fin=.done (.ret v)∧Q v s') E s:=by
 obtain⟨hp,g,d,tk,os⟩:=s
 have helt:n+1 < hp.objs.size:=Heap.lt_size he
 show wpAny _ _ (field (.ref (n+1)) 2 >>= _) _ _ _
 refine wpAny_bind (wpAny_field he rfl (x:=.ref n) rfl ?_)
 refine wpAny_bind (nextOf_item i1 s1 hx fun h₁ i1₁ hs₁=>?_)
 replace hs₁:Heap.SameBut n hp h₁:=hs₁
 have he₁:IsEn h₁ (n+1) n f0 f1 k old:=ex hs₁ (by omega) he
 show wpAny _ _ (field (.ref (n+1)) 3 >>= _) _ _ ⟨h₁,g,d,tk,os⟩
 refine wpAny_bind (wpAny_field he₁ rfl (x:=rawInt k) rfl ?_)
 show wpAny _ _ (field (.ref (n+1)) 4 >>= _) _ _ ⟨h₁,g,d,tk,os⟩
 refine wpAny_bind (wpAny_field he₁ rfl (x:=.none) rfl ?_)
 show wpAny _ _ (mkInt k >>= _) _ _ ⟨h₁,g,d,tk,os⟩
 refine wpAny_bind (wpAny_mkInt ?_)
 show wpAny _ _ (setField (.ref (n+1)) 3 (rawInt ((k:Int)+1)) >>= _) _ _ ⟨h₁,g,d,tk+1,os⟩
 refine wpAny_bind (wpAny_setField_rec he₁ (by simp) fun h₂ he₂ hs₂=>?_)
 replace hs₂:Heap.SameBut (n+1) h₁ h₂:=hs₂
 replace he₂:IsEn h₂ (n+1) n f0 f1 ((k:Int)+1) old:=he₂
 show wpAny _ _ (setField (.ref (n+1)) 4 .none >>= _) _ _ ⟨h₂,g,d,tk+1,os⟩
 refine wpAny_bind (wpAny_setField_rec he₂ (by simp) fun h₃ he₃ hs₃=>?_)
 replace hs₃:Heap.SameBut (n+1) h₂ h₃:=hs₃
 replace he₃:IsEn h₃ (n+1) n f0 f1 ((k:Int)+1) old:=he₃
 show wpAny _ _ (newTuple [.int k tk,x] >>= _) _ _ ⟨h₃,g,d,tk+1,os⟩
 refine wpAny_bind (wpAny_newTuple ?_)
 have he₄:IsEn (h₃.push { cls:=.type "tuple",data:=.seq #[.int k tk,x] }) (n+1) n f0 f1 ((k:Int)+1) old:=Heap.get?_push_of_some _ he₃
 have hsz:h₃.objs.size=hp.objs.size:=by rw[hs₃.1,hs₂.1,hs₁.1]
 have ht₄:IsTp (h₃.push { cls:=.type "tuple",data:=.seq #[.int k tk,x] }) h₃.objs.size #[.int k tk,x]:=Heap.get?_push_size _ rfl
 have k₄:∀ (c:Nat) o,(c < n∨n+1 < c)→hp.get? c=some o→(h₃.push { cls:=.type "tuple",data:=.seq #[.int k tk,x] }).get? c=some o:=fun c o hc e=>
  Heap.get?_push_of_some _ (ex hs₃ (by omega) (ex hs₂ (by omega) (ex hs₁ (by omega) e)))
 have i1₄:IsIt (h₃.push { cls:=.type "tuple",data:=.seq #[.int k tk,x] }) t n a (k+1):=((i1₁.ext hs₂ (by omega)).ext hs₃ (by omega)).at fun o e=>Heap.get?_push_of_some _ e
 have hlt₃:n+1 < h₃.objs.size:=by rw[hsz];exact helt
 generalize hh₄:h₃.push { cls:=.type "tuple",data:=.seq #[.int k tk,x] }=h₄ at he₄ ht₄ k₄ i1₄
 have hTle:hp.objs.size≤h₃.objs.size:=Nat.le_of_eq hsz.symm
 show wpAny _ _ (Builtin.SmallTypes.ownedTupleIsFree (.ref (n+1)) >>= _) _ _ ⟨h₄,g,d,tk+1,os⟩
 refine wpAny_bind (ownedE_free he₄ hf ?_ ?_)
 ·simp only [if_true]
  refine wpAny_bind (wpAny_rule ?_)
  refine wpAny_bind (wpAny_field he₄ rfl (x:=old) rfl ?_)
  refine wpAny_bind (wpAny_setField_rec he₄ (by simp) fun h₅ he₅ hs₅=>?_)
  replace hs₅:Heap.SameBut (n+1) h₄ h₅:=hs₅
  replace he₅:IsEn h₅ (n+1) n f0 f1 ((k:Int)+1) x:=he₅
  refine wpAny_bind (handOutE (s:=⟨h₅,g,d,tk+1,os⟩) he₅ fun h₆ he₆ hs₆=>?_)
  replace hs₆:Heap.SameBut (n+1) h₅ h₆:=hs₆
  refine wpAny_bind (wpAny_letGo (wpAny_pure ⟨_,rfl,?_⟩))
  exact hQ h₃.objs.size h₆ _ _ _ hTle (.inr ⟨_,rfl⟩) he₆ ((i1₄.ext hs₅ (by omega)).ext hs₆ (by omega)) (ex hs₆ (by omega) (ex hs₅ (by omega) ht₄)) fun c o hc e=>ex hs₆ (by omega) (ex hs₅ (by omega) (k₄ c o hc e))
 ·intro h₅ he₅ hs₅
  replace hs₅:Heap.SameBut (n+1) h₄ h₅:=hs₅
  simp only [Bool.false_eq_true,if_false]
  refine wpAny_pure ⟨_,rfl,?_⟩
  exact hQ h₃.objs.size h₅ _ _ _ hTle hf he₅ (i1₄.ext hs₅ (by omega)) (ex hs₅ (by omega) ht₄) fun c o hc e=>ex hs₅ (by omega) (k₄ c o hc e)
theorem enum_end {n a:Nat}{t:Bool}{k:Nat}{xs:Array Value}{old f0:Value}{f1:Bool}{Q:Fin→Shared→Prop} (hh:A.handled=none)
  (he:IsEn s.heap (n+1) n f0 f1 k old) (i1:IsIt s.heap t n a k) (s1:IsSrc s.heap t a xs) (hx:xs[k]? = none)
  (hE:∀ h' e,(∀ (c:Nat) o,(c < n∨n+1 < c)→s.heap.get? c=some o→h'.get? c=some o)→(∃ o,h'.get? e=some o∧o.cls=.type "StopIteration")→E (.ref e) { s with heap:=h' }) :
  wpAny (model prog w) A (Builtin.«enumerate.__next__» ⟨[.ref (n+1)],[]⟩) Q E s:=by
 show wpAny _ _ (field (.ref (n+1)) 2 >>= _) _ _ _
 refine wpAny_bind (wpAny_field he rfl (x:=.ref n) rfl ?_)
 refine wpAny_bind (nextOf_end hh i1 s1 hx fun h' e hk he'=>hE h' e (fun c o hc q=>hk c o (show @Ne Nat c n by omega) q) he')
theorem pyNext_enum {e it:Addr}{f0:Value}{f1:Bool}{i:Int}{old:Value}{Q:Option Value→Shared→Prop} (he:IsEn s.heap e it f0 f1 i old)
  (h:wpAny (model prog w) A.in1 (Builtin.«enumerate.__next__» ⟨[.ref e],[]⟩) (fun fin s'=>∃ v,fin=.done (.ret v)∧Q (some v) s') (fun e s'=>(∃ a o,e=.ref a∧s'.heap.get? a=some o∧o.cls=.type "StopIteration")∧Q none s') s) :
  wpAny (model prog w) A (pyNext (.ref e)) Q E s:=by
 have hT:s.TypeIs (.ref e) "enumerate" := ⟨_,he,rfl⟩
 unfold pyNext
 refine wpAny_bind (wpAny_attempt (wpAny_callSpecial?_slot (name:=Str.ofString "__next__") hT F.slot_enumerate_next
  (wpAny_call_entry F.slot_enumerate_next hT F.entry_enumerate_next (wpAny_mono h (fun fin s' h'=>?_) fun e s' h'=>?_) (F.args_enumerate_next_1 _))))
 ·obtain⟨v,rfl,q⟩:=h'
  exact⟨v,rfl,wpAny_pure q⟩
 ·obtain⟨⟨a,o,rfl,ho,hc⟩,q⟩:=h'
  exact wpAny_bind (wpAny_isInstance (T := "StopIteration") (b:=true) ⟨o,ho,hc⟩ isSubtype_stop (wpAny_pure q))
theorem letGo_enum {tg:Expr}{e it T:Addr}{f0:Value}{f1:Bool}{i:Int}{old:Value}{Q:Unit→Shared→Prop} (hf:Free0 f0) (hz:IsEn s.heap e it f0 f1 i old)
  (hQ:∀ h' f0',Free0 f0'→IsEn h' e it f0' f1 i old→Heap.SameBut e s.heap h'→Q () { s with heap:=h' }):wpAny (model prog w) A (letOwnedTupleGo tg (.ref e) (.ref T)) Q E s:=by
 have same:Q () s:=hQ s.heap f0 hf hz (Heap.SameBut.refl ..)
 have core:wpAny (model prog w) A (do
   let o ← load e
   match o.cls,o.data with
   | .type n,.fields vs=>
    if ["enumerate","zip","dict_itemiterator","dict_reverseitemiterator","odict_iterator","itertools.zip_longest","itertools.pairwise"].contains n && vs[0]? == some (rawInt T) then
     rule "for.unpacks-the-owned-tuple"
     updateField e 0 .none
   | _,_=>pure ()) Q E s:=by
  refine wpAny_bind (wpAny_load hz ?_)
  show wpAny _ _ (if (["enumerate","zip","dict_itemiterator","dict_reverseitemiterator","odict_iterator","itertools.zip_longest","itertools.pairwise"].contains "enumerate" &&
   (#[f0,.bool f1,.ref it,rawInt i,.none,old]:Array Value)[0]? == some (rawInt T))=true then _ else _) Q E s
  split
  ·refine wpAny_bind (wpAny_rule ?_)
   show wpAny _ _ (setField (.ref e) 0 .none) Q E s
   exact wpAny_setField_rec hz (by simp) fun h' hz' hs'=>hQ h' .none (.inl rfl) hz' hs'
  ·exact wpAny_pure same
 unfold letOwnedTupleGo
 cases tg <;> first
  | exact wpAny_pure same
  | exact core
theorem pyIter_enum {e it:Addr}{f0:Value}{f1:Bool}{i:Int}{old:Value}{Q:Value→Shared→Prop} (he:IsEn s.heap e it f0 f1 i old) (h:Q (.ref e) s):wpAny (model prog w) A (pyIter (.ref e)) Q E s:=by
 have hT:s.TypeIs (.ref e) "enumerate" := ⟨_,he,rfl⟩
 refine wpAny_pyIter_slot hT F.slot_enumerate_iter (wpAny_call_entry F.slot_enumerate_iter hT F.entry_enumerate_iter ?_ (F.args_enumerate_iter_1 _))
 show wpAny _ _ (ret (.ref e)) _ _ s
 exact wpAny_pure ⟨_,rfl,"enumerate",_,hT,F.slot_enumerate_next.lookup,h⟩
theorem meets_enum (t:Bool) (l:Addr) (xs:Array Value) :
  Meets (Builtin.«enumerate.__new__» ⟨[.type "enumerate",.ref l],[]⟩) (fun _ R s=>IsSrc s.heap t l xs∧
   R (.ok (.ret (.ref (zA s.heap t l).objs.size))) { s with heap:=(zA s.heap t l).push { cls:=.type "enumerate",data:=.fields #[.none,.bool false,.ref s.heap.objs.size,rawInt 0,.none,.none] } }):=
 .of_wp fun prog w A R s h=>by
  obtain⟨hp,g,d,tk,os⟩:=s;obtain⟨hl,h⟩:=h
  have hsub:=sub_enumerate
  have hL:IsSrc (Shared.heap ⟨hp,g,d,tk,os⟩) t l xs:=hl
  wp_walk
  refine wpAny_stack_any fun st=>wpAny_pure ?_
  split
  ·rename_i c _ _ _ _ _
   cases (c == Value.type "enumerate")
   ·wp_walk using pyIter_src hL
    exact⟨_,rfl,h⟩
   ·wp_walk using pyIter_src hL
    exact⟨_,rfl,h⟩
  ·wp_walk using pyIter_src hL
   exact⟨_,rfl,h⟩
theorem call_enum {t:Bool}{l:Addr}{xs:Array Value}{Q:Value→Shared→Prop} (hL:IsSrc s.heap t l xs)
  (h:∀ h',IsEn h' (s.heap.objs.size+1) s.heap.objs.size .none false 0 .none→IsIt h' t s.heap.objs.size l 0→(∀ b o,s.heap.get? b=some o→h'.get? b=some o)→Q (.ref (s.heap.objs.size+1)) { s with heap:=h' }) :
  wpAny (model prog w) A (call (.type "enumerate") [.ref l]) Q E s:=by
 refine callType_new F.called_enumerate (by decide) (F.typeCall_enumerate_1 _) (F.newCall_enumerate_1 _) (fun obj=>F.args_object_init_2 obj _) F.entry_enumerate_new (meets_enum t l xs) ⟨hL,?_⟩
 have hz:(zA s.heap t l).objs.size=s.heap.objs.size+1:=Heap.size_push ..
 show _∧_
 rw[hz]
 have he:IsEn ((zA s.heap t l).push { cls:=.type "enumerate",data:=.fields #[.none,.bool false,.ref s.heap.objs.size,rawInt 0,.none,.none] }) (s.heap.objs.size+1) s.heap.objs.size .none false 0 .none:=by
  have:=Heap.get?_push_size (zA s.heap t l) (o:={ cls:=.type "enumerate",data:=.fields #[.none,.bool false,.ref s.heap.objs.size,rawInt 0,.none,.none] }) rfl
  rw[hz] at this;exact this
 exact⟨⟨_,he,rfl⟩,h _ he (itObj_is (Heap.get?_push_of_some _ (Heap.get?_push_size _ rfl))) fun b o x=>Heap.get?_push_of_some _ (Heap.get?_push_of_some _ x)⟩
end
end TwZ
namespace L2
open PySem PySem.Spec PyProof.Rows TwZ
noncomputable def SqB (K:PySem.W.Frag) (H:Hp) (t:Bool) (a:Addr) (xs:List V):Prop:=if t=true then bL K H a xs else bX K H a xs
section
variable {X:Cx}{pins:List (Addr×Obj)}{σ:St}{H:Hp}{s:Shared}
theorem Inv.src {t:Bool}{a:Addr}{xs:List V} (I:Inv X pins σ H s) (h:SqB X.K H t a xs):∃ its:List Value,b0 xs its∧IsSrc s.heap t a its.toArray∧xs.length≤sizeLine:=by
 cases t with
 | true=>
  obtain⟨its,r,p,z⟩:=I.tuple h
  exact⟨its,r,(show s.heap.IsTuple a its.toArray from p),z⟩
 | false=>
  obtain⟨its,r,p,z⟩:=I.list h
  exact⟨its,r,p.isList,z⟩
theorem Inv.src_inj {t:Bool}{a:Addr}{xs ys:List V} (I:Inv X pins σ H s) (h:SqB X.K H t a xs) (h':SqB X.K H t a ys):xs=ys:=by
 cases t with
 | true=>exact I.tuple_inj h h'
 | false=>exact I.list_inj h h'
theorem Inv.turnedT {fp:List Addr}{h':Heap}{t':Nat}{T:Addr}{xs:List V}{its:List Value} (I:Inv X pins σ H s) (hf:∀ b∈fp,FpOk X pins H b) (k:∀ b o,b∉fp→s.heap.get? b=some o→h'.get? b=some o)
  (hT:s.heap.objs.size≤T) (hv:b0 xs its) (hz:xs.length≤sizeLine) (ht:IsTup h' T its.toArray):Inv X pins σ (upd H T (.tup xs)) { s with heap:=h',toks:=t' }:=by
 have hn:H T=none:=I.hok.fresh hT
 have nT:∀ b u,H b=some u→b≠T:=fun b u e=>aP e hn
 have nfp:∀ b u,H b=some u→b∉fp:=fun b u e hb=>by rw[(hf b hb).1] at e;cases e
 have nTh:∀ b o,s.heap.get? b=some o→b≠T:=fun b o e z=>by rw[z] at e;exact absurd (Nat.lt_of_lt_of_le (Heap.lt_size e) hT) (Nat.lt_irrefl _)
 refine I.step (g':=s.gens) (d':=s.drawn) (ch:=fp) (fun b hb=>?_) (fun b o _ _ hc e _=>k b o hc e) (fun b o _ _ hc e _=>⟨o.slots,k b o hc e⟩) (fun b o hc e n=>by rw[aO (nTh b o e)];exact n)
  (fun b o hc e=>⟨o,k b o hc e⟩) (fun b ys e=>by rw[aO (nT b _ e)];exact e) (fun b o u e=>by rw[aO (nT b _ e)];exact e) (fun b ps e=>⟨#[],by rw[aO (nT b _ e),e];simp⟩) (fun m hm=>?_) (fun b u e=>?_) I.bare
 ·obtain⟨_,f1,_,f3,f4,f5⟩:=hf b hb
  exact⟨f3,f1,f4,f5⟩
 ·obtain⟨o,es,ep,ho,r⟩:=hm
  exact⟨o,es,ep,k _ o (fun hb=>(hf _ hb).2.1 rfl) ho,r⟩
 ·by_cases hb:b=T
  ·subst hb
   rw[aC] at e
   cases e
   exact⟨hz,its,hv,ht⟩
  ·rw[aO hb] at e
   refine (I.hok b u e).stay (fun c v hc q=>k c v ?_ q) (fun c q=>by rw[aO (nT c _ q)];exact q) fun c ys q=>by rw[aO (nT c _ q)];exact q
   rcases hc with z | z
   ·rw[z];exact nfp b u e
   ·exact nfp c _ z
theorem Inv.turnedL {fp:List Addr}{h':Heap}{t':Nat} (I:Inv X pins σ H s) (hf:∀ b∈fp,FpOk X pins H b) (k:∀ b o,b∉fp→s.heap.get? b=some o→h'.get? b=some o):Inv X pins σ H { s with heap:=h',toks:=t' }:=by
 have nfp:∀ b u,H b=some u→b∉fp:=fun b u e hb=>by rw[(hf b hb).1] at e;cases e
 refine I.step (g':=s.gens) (d':=s.drawn) (ch:=fp) (fun b hb=>?_) (fun b o _ _ hc e _=>k b o hc e) (fun b o _ _ hc e _=>⟨o.slots,k b o hc e⟩) (fun b o hc e n=>n)
  (fun b o hc e=>⟨o,k b o hc e⟩) (fun b ys e=>e) (fun b o u e=>e) (fun b ps e=>⟨#[],by rw[e];simp⟩) (fun m hm=>?_) (fun b u e=>?_) I.bare
 ·obtain⟨_,f1,_,f3,f4,f5⟩:=hf b hb
  exact⟨f3,f1,f4,f5⟩
 ·obtain⟨o,es,ep,ho,r⟩:=hm
  exact⟨o,es,ep,k _ o (fun hb=>(hf _ hb).2.1 rfl) ho,r⟩
 ·refine (I.hok b u e).stay (fun c v hc q=>k c v ?_ q) (fun c q=>q) fun c ys q=>q
  rcases hc with z | z
  ·rw[z];exact nfp b u e
  ·exact nfp c _ z
end
noncomputable def fpz (n:Nat) (m:Nat):List Addr:=(List.range m).map fun k=>(n+k:Nat)
theorem mem_fpz {n m:Nat}{b:Addr}:b∈fpz n m↔∃ k,k < m∧b=n+k:=by
 unfold fpz
 rw[List.mem_map]
 constructor
 ·rintro⟨k,hk,e⟩;exact⟨k,List.mem_range.mp hk,e.symm⟩
 ·rintro⟨k,hk,e⟩;exact⟨k,List.mem_range.mpr hk,e.symm⟩
theorem not_fpz {n m:Nat}{b:Nat} (h:(b:Addr)∉fpz n m) (hm:0 < m):b < n∨n+(m - 1) < b:=by
 by_cases h1:b < n
 ·exact .inl h1
 ·by_cases h2:n+(m - 1) < b
  ·exact .inr h2
  ·exact absurd (mem_fpz.mpr ⟨b - n,by omega,by show (b:Nat)=n+(b - n);omega⟩) h
noncomputable def Ite (K:PySem.W.Frag) (t:Bool) (a:Addr):It:=
 ⟨fun i H=>∃ xs x,SqB K H t a xs∧xs[i]? = some x,
  fun i H v H'=>∃ T x,H T=none∧v=.ref T∧(∀ xs,SqB K H t a xs→xs[i]? = some x)∧H'=upd H T (.tup [.int i,x]),
  fun i H=>∃ xs,SqB K H t a xs∧xs.length≤i⟩
noncomputable def tne (n a:Nat) (t:Bool) (i:Nat) (h:Heap):Prop:=∃ f0 f1 old,Free0 f0∧IsEn h (n+1) n f0 f1 i old∧IsIt h t n a i∧a < n
theorem turn_enum {P:Program}{w:World}{K:PySem.W.Frag}{tg:Expr} (n a:Nat) (t:Bool):Turn P w K tg (Ite K t a) (fpz n 2) (n+1) (tne n a t) where
 mem:=mem_fpz.mpr ⟨1,by decide,rfl⟩
 obj:=fun i h st b hb=>by
  obtain⟨f0,f1,old,hf,he,i1,_⟩:=st
  obtain⟨k,hk,rfl⟩:=mem_fpz.mp hb
  have hk':k=0∨k=1:=by omega
  rcases hk' with rfl | rfl
  ·exact i1.obj
  ·exact⟨_,he,fun v z=>by cases z⟩
 keep:=fun i h h' st k=>by
  obtain⟨f0,f1,old,hf,he,i1,l⟩:=st
  have m:∀ j,j < 2→((n+j:Nat):Addr)∈fpz n 2:=fun j hj=>mem_fpz.mpr ⟨j,hj,rfl⟩
  exact⟨f0,f1,old,hf,k _ (m 1 (by decide)) _ he,i1.at fun o e=>k _ (m 0 (by decide)) _ e,l⟩
 item:=by
  intro X hP hw hK hc i pins s σ H E I hf st hg
  subst hP hw hK
  obtain⟨f0,f1,old,f,he,i1,l1⟩:=st
  obtain⟨xs,x,q1,hx⟩:=hg
  obtain⟨us,r1,p1,_⟩:=I.src q1
  obtain⟨u,hu,ru⟩:=r1.get hx
  refine pyNext_enum he (enum_next f he i1 p1 l1 (by simpa using hu) fun T h' f0' f1' old' hT f' he' i1' hTp hk=>?_)
  refine⟨_,rfl,letGo_enum (s:={ s with heap:=h',toks:=s.toks+1 }) f' he' fun h'' f0'' f'' he'' hs=>?_⟩
  replace hs:Heap.SameBut (n+1) h' h'':=hs
  have hTn:n+1 < T:=Nat.lt_of_lt_of_le (Heap.lt_size he) hT
  have hTp':IsTp h'' T #[.int i s.toks,u]:=ex hs (by omega) hTp
  have IT:Inv X pins σ (upd H T (.tup [.int i,x])) { s with heap:=h'',toks:=s.toks+1 }:=I.turnedT (fp:=fpz n 2) hf (fun b o hb e=>ex (c:=b) hs (by have:=not_fpz (b:=b) hb (by decide);have:n+(2 - 1)=n+1:=rfl;omega) (hk b o (not_fpz (b:=b) hb (by decide)) e)) hT (its:=[.int i s.toks,u]) (.cons ⟨_,rfl⟩ (.cons ru .nil)) (by show 2≤sizeLine;decide) ⟨_,hTp',rfl,_,rfl⟩
  have he2:IsEn h'' (n+1) n f0'' f1' ((i+1:Nat):Int) old':=by
   have:((i+1:Nat):Int)=(i:Int)+1:=by push_cast;rfl
   rw[this];exact he''
  refine⟨.ref T,upd H T (.tup [.int i,x]),IT,rfl,⟨T,x,I.hok.fresh hT,rfl,fun as q=>by rw[I.src_inj q q1];exact hx,rfl⟩,⟨f0'',f1',old',f'',he2,i1'.ext hs (by omega),l1⟩,fun b hb=>?_⟩
  ·obtain⟨j,hj,rfl⟩:=mem_fpz.mp hb
   rw[aO (show ((n+j:Nat):Addr)≠T from (show @Ne Nat (n+j) T by omega))]
   exact (hf _ hb).1
 done:=by
  intro X hP hw hK hc i pins s σ H E I hf st hg
  subst hP hw hK
  obtain⟨f0,f1,old,f,he,i1,l1⟩:=st
  obtain⟨xs,q1,hend⟩:=hg
  obtain⟨us,r1,p1,_⟩:=I.src q1
  have e1:=r1.length
  refine pyNext_enum he (enum_end (I.ok.hd hc) he i1 p1 (by simp;omega) fun h' e hk he=>?_)
  obtain⟨o,ho,hcl⟩:=he
  exact⟨⟨e,o,rfl,ho,hcl⟩,rfl,I.turnedL (t':=s.toks) hf fun b o hb q=>hk b o (not_fpz (b:=b) hb (by decide)) q⟩
 self:=fun _ _ _ _ _ st h=>by
  obtain⟨f0,f1,old,f,he,_⟩:=st
  exact pyIter_enum he h
section
variable {X:Cx}{tg:Expr}
theorem boot_enum:bootBuiltins "enumerate" = some (.type "enumerate"):=by decide +kernel
noncomputable def iEnum (K:PySem.W.Frag) (ta:TA):TI:=fun σ H R=>ta σ H fun vs H1=>∃ t a,vs=[.ref a]∧(∃ xs,SqB K H1 t a xs)∧R (Ite K t a) H1
theorem pi_enum {a:Expr}{ta:TA}{p pos:Pos} (hg:Gl X "enumerate") (hm:X.mg "enumerate" = none) (ha:PA X [a] ta) (hs:starEach [a] X.env=[(false,eval a X.env)]:=by rfl):PI X tg (.Call (.Name "enumerate" p) [a] [] pos) (iEnum X.K ta):=by
 intro pins s σ H R I h
 refine Call_ (ld_blt I hg hm boot_enum (PyProof.Rows.callWith_type1 (cM (ha pos pins s σ H _ I h) fun us s1 ⟨vs,H1,I1,r1,q1⟩=>?_) hs rfl))
 obtain⟨t,a1,e,⟨xs,hq⟩,q⟩:=q1
 subst e
 cases r1 with
 | cons r rr=>
  cases rr
  cases r
  obtain⟨its,rv,p,hz⟩:=I1.src hq
  refine call_enum p fun h' he i1 hk=>?_
  refine pyIter_enum (s:={ s1 with heap:=h' }) he ?_
  refine⟨_,fpz s1.heap.objs.size 2,tne s1.heap.objs.size a1 t,_,H1,rfl,I1.kept (t':=s1.toks) hk,turn_enum _ _ _,⟨.none,false,.none,.inl rfl,he,i1,p.lt⟩,fun b hb=>?_,q⟩
  obtain⟨k,_,rfl⟩:=mem_fpz.mp hb
  exact I1.fpOk (Nat.le_add_right _ _) (I1.hok.fresh (Nat.le_add_right _ _))
end
end L2
namespace L2
open PySem PySem.Spec PyProof.Rows TwZ
section
variable {prog:Program}{w:World}{A:Around}{E:Value→Shared→Prop}{s:Shared}{l:Addr}{xs:Array (Int×Tok)}
theorem sum_intTup {Q:Value→Shared→Prop} (hh:A.handled=none) (hl:s.heap.IsTuple l (intItems xs))
  (h:∀ h' tk t',(∀ b o,s.heap.get? b=some o→h'.get? b=some o)→Q (.int (preSum (numAt xs) xs.size) t') { s with heap:=h',toks:=tk }) :
  wpAny (model prog w) A (call (.builtin "sum") [.ref l]) Q E s:=by
 have hlt:l < s.heap.objs.size:=by obtain⟨_,e,_⟩:=hl;exact Heap.lt_size e
 refine call_sum_walkG (wpAny_pyIter_tuple hl ?_)
 refine⟨_,_,_,_,_,_,numAt xs,rfl,Walks.tuple (A:=A.in1) hh _ l (Nat.ne_of_lt hlt) (intItems xs),⟨⟨_,Heap.get?_push_size _ rfl,rfl,rfl⟩,hl.push _⟩,fun b hb=>?_,(fun _ _=>intItems_at),fun h' tk t' hk=>?_⟩
 ·show b < (s.heap.push _).objs.size
  rw[Heap.size_push]
  rcases List.mem_cons.mp hb with rfl | hb
  ·exact Nat.lt_succ_self _
  ·rcases List.mem_cons.mp hb with rfl | hb
   ·exact Nat.lt_succ_of_lt hlt
   ·cases hb
 ·have:=h h' tk t' (fun b o e=>hk b o (fun hm=>by rw[List.mem_singleton.mp hm] at e;exact Nat.lt_irrefl _ (Heap.lt_size e)) (Heap.get?_push_of_some _ e))
  simpa [intItems] using this
theorem sum_intSrc {t:Bool}{vs:List Value}{ns:List Int}{Q:Value→Shared→Prop} (hh:A.handled=none) (hl:IsSrc s.heap t l vs.toArray) (hi:IntsAre vs ns)
  (h:∀ h' tk t',(∀ b o,s.heap.get? b=some o→h'.get? b=some o)→Q (.int ns.sum t') { s with heap:=h',toks:=tk }) :
  wpAny (model prog w) A (call (.builtin "sum") [.ref l]) Q E s:=by
 obtain⟨xs,hx⟩:=hi.allInts.items
 have hn:numsOf vs.toArray.toList=ns:=by rw[show vs.toArray.toList=vs from rfl,hi.numsOf]
 rw[hx] at hl hn
 rw[nums_intItems] at hn
 have e:preSum (numAt xs) xs.size=ns.sum:=by rw[preSum_eq,List.take_of_length_le (by simp),hn]
 cases t with
 | true=>exact sum_intTup hh hl fun h' tk t' hk=>by rw[e];exact h h' tk t' hk
 | false=>exact sum_intListG hh hl fun h' tk t' hk=>by rw[e];exact h h' tk t' hk
theorem all_src {t:Bool}{vs:List Value}{bs:List Bool}{Q:Value→Shared→Prop} (hh:A.handled=none) (hl:IsSrc s.heap t l vs.toArray) (hb:b0 (bs.map V.bl) vs)
  (h:∀ h' tk,(∀ b o,s.heap.get? b=some o→h'.get? b=some o)→Q (.bool (bs.all id)) { s with heap:=h',toks:=tk }):wpAny (model prog w) A (call (.builtin "all") [.ref l]) Q E s:=by
 have hlt:l < s.heap.objs.size:=hl.lt
 have hlen:=hb.length
 rw[List.length_map] at hlen
 have key:∀ (P:Nat→Value→Prop),(∀ i v,P i v→vs[i]? = some v)→TruthOf prog w A.in1 P (fun i=>(bs[i]?).getD true):=fun P hP i v s' Q' E' hp hQ=>by
  have hv:=hP i v hp
  have hi:i < vs.length:=(List.getElem?_eq_some_iff.mp hv).1
  have hb':(bs.map V.bl)[i]? = some (V.bl bs[i]):=by simp [show i < bs.length by omega]
  obtain⟨u,hu,ru⟩:=hb.get hb'
  rw[hv] at hu
  cases hu
  cases ru
  have e:(bs[i]?).getD true=bs[i]:=by simp [show i < bs.length by omega]
  have hQ2:Q' ((bs[i]?).getD true) s':=hQ
  rw[e] at hQ2
  exact wpAny_truthy_bool hQ2
 have rng:((List.range vs.toArray.size).all fun i=>(bs[i]?).getD true)=bs.all id:=by
  rw[List.size_toArray,← hlen,Bool.eq_iff_iff,List.all_eq_true,List.all_eq_true]
  constructor
  ·intro hq b hb'
   obtain⟨i,hi,rfl⟩:=List.getElem_of_mem hb'
   have:=hq i (List.mem_range.mpr hi)
   simpa [hi] using this
  ·intro hq i hi
   have hi':=List.mem_range.mp hi
   have:=hq bs[i] (List.getElem_mem hi')
   simpa [hi'] using this
 have kept:∀ {h':Heap}{o:Obj},(∀ b x,b∉[s.heap.objs.size]→(s.heap.push o).get? b=some x→h'.get? b=some x)→∀ b x,s.heap.get? b=some x→h'.get? b=some x:=fun hk b x e=>
  hk b x (fun hm=>by rw[List.mem_singleton.mp hm] at e;exact Nat.lt_irrefl _ (Heap.lt_size e)) (Heap.get?_push_of_some _ e)
 cases t with
 | true=>
  refine call_all_walk (wpAny_pyIter_tuple hl ?_)
  refine⟨s.heap.objs.size,[s.heap.objs.size,l],[s.heap.objs.size],vs.toArray.size,_,_,fun i=>(bs[i]?).getD true,rfl,Walks.tuple (A:=A.in1) hh _ l (Nat.ne_of_lt hlt) vs.toArray,
   ⟨⟨_,Heap.get?_push_size _ rfl,rfl,rfl⟩,Heap.IsTuple.push hl _⟩,key _ (fun i v hp=>by simpa using hp),fun h' tk hk=>?_⟩
  rw[rng]
  exact h h' tk (kept hk)
 | false=>
  refine call_all_walk (wpAny_pyIter_list hl ?_)
  refine⟨s.heap.objs.size,[s.heap.objs.size,l],[s.heap.objs.size],vs.toArray.size,_,_,fun i=>(bs[i]?).getD true,rfl,Walks.list (A:=A.in1) hh _ l (Nat.ne_of_lt hlt) vs.toArray,
   ⟨⟨_,Heap.get?_push_size _ rfl,rfl,rfl⟩,Heap.IsList.push hl _⟩,key _ (fun i v hp=>by simpa using hp),fun h' tk hk=>?_⟩
  rw[rng]
  exact h h' tk (kept hk)
end
section
variable {X:Cx}
noncomputable def rSum (K:PySem.W.Frag):List V→Hp→VK→Prop:=fun xs H Q=>∃ (t:Bool) (p:Addr) (ns:List Int),xs=[.ref p]∧SqB K H t p (ns.map V.int)∧Q (.int ns.sum) H
theorem call_sumB (hc:X.calm=true):d6 X (.builtin "sum") (rSum X.K):=by
 intro pins s σ H xs us Q I r h
 obtain⟨t,p,ns,rfl,hq,q⟩:=h
 obtain⟨u,rfl,ru⟩:=r.one
 cases ru
 obtain⟨its,rv,p1,hz⟩:=I.src hq
 refine sum_intSrc (I.ok.hd hc) p1 (intsAre_of rv) fun h' tk t' hk=>⟨.int ns.sum,H,I.kept hk,⟨t',rfl⟩,q⟩
noncomputable def rAll (K:PySem.W.Frag):List V→Hp→VK→Prop:=fun xs H Q=>∃ (t:Bool) (p:Addr) (bs:List Bool),xs=[.ref p]∧SqB K H t p (bs.map V.bl)∧Q (.bl (bs.all id)) H
theorem call_allB (hc:X.calm=true):d6 X (.builtin "all") (rAll X.K):=by
 intro pins s σ H xs us Q I r h
 obtain⟨t,p,bs,rfl,hq,q⟩:=h
 obtain⟨u,rfl,ru⟩:=r.one
 cases ru
 obtain⟨its,rv,p1,hz⟩:=I.src hq
 refine all_src (I.ok.hd hc) p1 rv fun h' tk hk=>⟨.bl (bs.all id),H,I.kept hk,rfl,q⟩
noncomputable def TyS (K:PySem.W.Frag) (H:Hp) (x:V) (t:Value):Prop:=TyOf K H x t∨∃ a ys,x=.ref a∧bL K H a ys∧t=.type "tuple"
noncomputable def rIsi (K:PySem.W.Frag):List V→Hp→VK→Prop:=fun xs H Q=>∃ x T t b,xs=[x,.ty T]∧TyS K H x t∧PySem.W.kitOne K t (.type T)=some b∧Q (.bl b) H
theorem call_isi:d6 X (.builtin "isinstance") (rIsi X.K):=by
 intro pins s σ H xs us Q I r h
 obtain⟨x,T,t,b,rfl,ty,e,q⟩:=h
 obtain⟨u,v,rfl,ru,rv⟩:=r.two
 cases rv
 rcases ty with ty | ⟨a,ys,rfl,hq,rfl⟩
 ·exact isinst_ok I ru ty e fun tk=>⟨.bl b,H,I.tok tk,rfl,q⟩
 ·cases (show u=Value.ref a from ru)
  obtain⟨its,rv',⟨o,h1,h2,_⟩,_⟩:=I.tuple hq
  exact PySem.W.kia_one PySem.W.kitx_tuple I.kIn ⟨o,h1,h2⟩ e (fun z=>nomatch z) fun tk=>⟨.bl b,H,I.tok tk,rfl,q⟩
end
theorem noFill_tuple_mul:fillsNumberSlot (.type "tuple") "mul" = pure false:=
 PySem.fillsNumberSlot_seq (id := "tuple.__mul__") (r:=some (.builtin "tuple.__rmul__")) F.slot_tuple_mul.lookup (by decide +kernel) F.slot_tuple_rmul.lookup (by decide +kernel)
theorem repeat_tuple:seqRepeat? (.type "tuple")=pure (some (.builtin "tuple.__mul__")):=by
 unfold seqRepeat?
 rw[PySem.seqSlot_of (T := "tuple") (name := "__mul__") (id := "tuple.__mul__") F.slot_tuple_mul.lookup (by decide +kernel),PySem.seqSlot_of (T := "tuple") (name := "__rmul__") (id := "tuple.__rmul__") F.slot_tuple_rmul.lookup (by decide +kernel)]
 rfl
theorem int_rmul_tuple (a:Int) (t:Tok) (l:Addr) (items:Array Value) (n:Nat) (dd:Option Addr) (sl:Array (Option Value)) :
  Meets (Builtin.«int.__rmul__» ⟨[.int a t,.ref l],[]⟩) (fun _ R s=>s.heap.get? l=some { cls:=.type "tuple",dict:=dd,data:=.seq items n,slots:=sl }∧R (.ok (.ret Value.notImplemented)) s):=
 .of_wp fun prog w A R s h=>by obtain⟨hp,g,d,tk,os⟩:=s;obtain⟨hl,h⟩:=h;wp_walk;exact⟨_,rfl,h⟩
theorem tuple_mul_one (l:Addr) (items:Array Value) (n:Nat) (u:Tok) (dd:Option Addr) (sl:Array (Option Value)) :
  Meets (Builtin.«tuple.__mul__» ⟨[.ref l,.int 1 u],[]⟩) (fun _ R s=>s.heap.get? l=some { cls:=.type "tuple",dict:=dd,data:=.seq items n,slots:=sl }∧R (.ok (.ret (.ref l))) s):=
 .of_wp fun prog w A R s h=>by
  obtain⟨hp,g,d,tk,os⟩:=s;obtain⟨hl,h⟩:=h
  have c1:(items.isEmpty || (1:Int) == 1)=true:=by simp
  wp_walk
  exact⟨_,rfl,h⟩
theorem tuple_mul_many (l:Addr) (items:Array Value) (n:Nat) (x:Int) (u:Tok) (dd:Option Addr) (sl:Array (Option Value)) (c0:¬ (decide (x < -(2 ^ 63)) || decide (x ≥ 2 ^ 63))=true) (c1:¬ (items.isEmpty || x == 1)=true)
  (c2:¬ (decide (x≤0) || items.isEmpty)=true) (c3:¬ (items.size:Int) * x > (2 ^ 63 - 1) / 8) (c4:¬ Builtin.Tuple.tupleTooMany ((items.size:Int) * x)=true) (hsz:(List.foldl (fun x1 x2=>x1++x2) #[] (List.replicate x.toNat items)).size≤sizeLine) :
  Meets (Builtin.«tuple.__mul__» ⟨[.ref l,.int x u],[]⟩) (fun _ R s=>s.heap.get? l=some { cls:=.type "tuple",dict:=dd,data:=.seq items n,slots:=sl }∧
   R (.ok (.ret (.ref s.heap.objs.size))) { s with heap:=s.heap.push { cls:=.type "tuple",data:=.seq (List.foldl (fun x1 x2=>x1++x2) #[] (List.replicate x.toNat items)) } }):=
 .of_wp fun prog w A R s h=>by
  obtain⟨hp,g,d,tk,os⟩:=s;obtain⟨hl,h⟩:=h
  wp_walk
  rw[if_neg c0]
  wp_walk
  all_goals (try rw[if_neg c1])
  wp_walk
  all_goals (try rw[if_neg c2])
  wp_walk
  all_goals (try rw[if_neg c3])
  wp_walk
  all_goals (try rw[if_neg c4])
  wp_walk
  exact⟨_,rfl,h⟩
theorem aG.tup {K:PySem.W.Frag}{H H':Hp}{a:Addr}{xs:List V} (e:aG H H') (h:bL K H a xs):bL K H' a xs:=by
 rcases h with (h | ⟨o,h⟩) | h
 ·exact .inl (.inl (e _ _ h))
 ·exact .inl (.inr ⟨o,e _ _ h⟩)
 ·exact .inr h
theorem aG.new {H:Hp}{p:Addr}{o:HO} (h:H p=none):aG H (upd H p o):=fun b u e=>by rw[aO (aP e h)];exact e
section
variable {X:Cx}
noncomputable def rRepT (K:PySem.W.Frag):R2:=fun x y H Q=>∃ (l:Addr) (k:Int) (xs:List V),x=.ref l∧y=.int k∧bL K H l xs∧1≤k∧k < 1000000∧xs≠[]∧xs.length≤10∧
 ∀ p H',aG H H'→bL K H' p (List.replicate k.toNat xs).flatten→Q (.ref p) H'
theorem op_repT:OpR X (binaryOp .Mult) (rRepT X.K):=by
 intro pins s σ H x y v u Q I rx ry h
 obtain⟨l,k,xs,rfl,rfl,hq,h1,h2,hne,hl10,q⟩:=h
 cases rx
 obtain⟨t,rfl⟩:=ry
 obtain⟨its,r,ht,z⟩:=I.tuple hq
 have hlen:=r.length
 obtain⟨⟨cls,dd,data,sl⟩,e,hc,n,hd⟩:=id ht
 simp only at hc hd
 subst hc hd
 refine wpAny_binaryOp_repeat_ref (T := "tuple") (U := "int") (by decide) ⟨_,e,rfl⟩ (fun s'=>typeIs_int s' k t) noFill_tuple_mul F.fills_int_mul F.slot_int_rmul repeat_tuple F.slot_int_index.lookup
  (call_meets F.slot_int_rmul (typeIs_int s k t) F.entry_int_rmul (F.args_int_rmul_2 _ _) (int_rmul_tuple k t l its.toArray n dd sl) ⟨e,rfl,⟨_,e,rfl⟩,?_⟩)
 by_cases hk:k=1
 ·subst hk
  refine call_meets F.slot_tuple_mul ⟨_,e,rfl⟩ F.entry_tuple_mul (F.args_tuple_mul_2 _ _) (tuple_mul_one l its.toArray n t dd sl) ⟨e,?_⟩
  refine⟨.ref l,H,I,rfl,q l H (aG.refl H) ?_⟩
  have e1:(List.replicate (1:Int).toNat xs).flatten=xs:=by simp
  rw[e1];exact hq
 ·have hne':its≠[]:=fun z=>by rw[z] at hlen;exact hne (List.eq_nil_of_length_eq_zero hlen)
  have f0:List.foldl (fun x1 x2=>x1++x2) #[] (List.replicate k.toNat its.toArray)=(List.replicate k.toNat its).flatten.toArray:=by
   have:=foldl_rep its k.toNat []
   rw[List.nil_append] at this
   exact this
  have hemp:its.toArray.isEmpty=false:=by cases its with
   | nil=>exact absurd rfl hne'
   | cons a r=>rfl
  have hszN:k.toNat * its.length≤sizeLine:=by
   have a1:its.length≤10:=by omega
   have a2:k.toNat≤1000000:=by omega
   have:=Nat.mul_le_mul a2 a1
   rw[sizeLine_eq];omega
  have hprod:((its.toArray.size:Nat):Int) * k≤16777216:=by
   have a1:((its.toArray.size:Nat):Int)≤10:=by rw[List.size_toArray];omega
   have:=Int.mul_le_mul a1 (show k≤1000000 by omega) (by omega) (by omega)
   omega
  refine call_meets F.slot_tuple_mul ⟨_,e,rfl⟩ F.entry_tuple_mul (F.args_tuple_mul_2 _ _) (tuple_mul_many l its.toArray n k t dd sl (by simp;omega) (by rw[hemp];simp;exact hk) (by rw[hemp];simp;omega) (by omega) (by
    unfold Builtin.Tuple.tupleTooMany
    rw[decide_eq_true_iff]
    rw[sizeLine_eq]
    omega) (by rw[f0,List.size_toArray,len_rep];exact hszN)) ⟨e,?_⟩
  have I1:=I.laid (a:=s.heap.objs.size) (o:=.tup (List.replicate k.toNat xs).flatten) (h':=s.heap.push { cls:=.type "tuple",data:=.seq (List.foldl (fun x1 x2=>x1++x2) #[] (List.replicate k.toNat its.toArray)) }) (t':=s.toks)
   (fun _ _ q=>Heap.get?_push_of_some _ q) (Nat.le_refl _) ⟨by rw[len_rep,hlen];exact hszN,(List.replicate k.toNat its).flatten,r.rep k.toNat,⟨_,Heap.get?_push_size _ rfl,rfl,0,by simp only [f0]⟩⟩
  exact⟨.ref _,_,I1,rfl,q _ _ (aG.new I.fresh) (bL.of aC)⟩
end
inductive D where
 | non | bl (b:Bool) | int (i:Int) | str (x:Str) | tup (ds:List D)
mutual
noncomputable def Is (K:PySem.W.Frag) (H:Hp):D→V→Prop
 | .non,v=>v=.non
 | .bl b,v=>v=.bl b
 | .int i,v=>v=.int i
 | .str x,v=>v=.str x
 | .tup ds,v=>∃ a xs,v=.ref a∧bL K H a xs∧IsL K H ds xs
noncomputable def IsL (K:PySem.W.Frag) (H:Hp):List D→List V→Prop
 | [],xs=>xs=[]
 | d::ds,xs=>∃ x r,xs=x::r∧Is K H d x∧IsL K H ds r
end
noncomputable def bW (K:PySem.W.Frag) (H H':Hp):Prop:=∀ a xs,bL K H a xs→bL K H' a xs
theorem bW.refl {K:PySem.W.Frag} (H:Hp):bW K H H:=fun _ _ h=>h
theorem bW.trans {K:PySem.W.Frag}{H H1 H2:Hp} (a:bW K H H1) (b:bW K H1 H2):bW K H H2:=fun c xs h=>b c xs (a c xs h)
theorem aG.ts {K:PySem.W.Frag}{H H':Hp} (e:aG H H'):bW K H H':=fun _ _ h=>e.tup h
mutual
theorem Is.mono {K:PySem.W.Frag}{H H':Hp} (t:bW K H H'):∀ (d:D) (v:V),Is K H d v→Is K H' d v
 | .non,_,h=>h
 | .bl _,_,h=>h
 | .int _,_,h=>h
 | .str _,_,h=>h
 | .tup ds,v,h=>by
  rw[Is] at h ⊢
  obtain⟨a,xs,e,q,l⟩:=h
  exact⟨a,xs,e,t a xs q,IsL.mono t ds xs l⟩
theorem IsL.mono {K:PySem.W.Frag}{H H':Hp} (t:bW K H H'):∀ (ds:List D) (xs:List V),IsL K H ds xs→IsL K H' ds xs
 | [],xs,h=>h
 | d::ds,xs,h=>by
  rw[IsL] at h ⊢
  obtain⟨x,r,e,hx,hr⟩:=h
  exact⟨x,r,e,Is.mono t d x hx,IsL.mono t ds r hr⟩
end
theorem IsL.length {K:PySem.W.Frag}{H:Hp}:∀ {ds:List D}{xs:List V},IsL K H ds xs→xs.length=ds.length
 | [],xs,h=>by rw[IsL] at h;subst h;rfl
 | d::ds,xs,h=>by
  rw[IsL] at h
  obtain⟨x,r,rfl,_,hr⟩:=h
  rw[List.length_cons,List.length_cons,IsL.length hr]
theorem IsL.get {K:PySem.W.Frag}{H:Hp}:∀ {ds:List D}{xs:List V}{i:Nat}{d:D},IsL K H ds xs→ds[i]? = some d→∃ x,xs[i]? = some x∧Is K H d x
 | [],_,_,_,_,e=>by simp at e
 | d::ds,xs,0,d',h,e=>by
  rw[IsL] at h
  obtain⟨x,r,rfl,hx,hr⟩:=h
  simp at e
  subst e
  exact⟨x,rfl,hx⟩
 | d::ds,xs,i+1,d',h,e=>by
  rw[IsL] at h
  obtain⟨x,r,rfl,hx,hr⟩:=h
  obtain⟨y,h1,h2⟩:=IsL.get hr (i:=i) (by simpa using e)
  exact⟨y,by simpa using h1,h2⟩
theorem IsL.get' {K:PySem.W.Frag}{H:Hp}{ds:List D}{xs:List V}{i:Nat}{x:V} (h:IsL K H ds xs) (e:xs[i]? = some x):∃ d,ds[i]? = some d∧Is K H d x:=by
 have hl:=h.length
 have hi:i < ds.length:=by rw[← hl];exact (List.getElem?_eq_some_iff.mp e).1
 obtain⟨y,h1,h2⟩:=h.get (i:=i) (d:=ds[i]) (by simp [hi])
 rw[e] at h1
 cases h1
 exact⟨ds[i],by simp [hi],h2⟩
theorem IsL.snoc {K:PySem.W.Frag}{H:Hp}{d:D}{x:V} (hd:Is K H d x):∀ {ds:List D}{xs:List V},IsL K H ds xs→IsL K H (ds++[d]) (xs++[x])
 | [],xs,h=>by
  rw[IsL] at h
  subst h
  show IsL K H [d] [x]
  rw[IsL]
  exact⟨x,[],rfl,hd,by rw[IsL]⟩
 | d'::ds,xs,h=>by
  rw[IsL] at h
  obtain⟨y,r,rfl,hy,hr⟩:=h
  show IsL K H (d'::(ds++[d])) (y::(r++[x]))
  rw[IsL]
  exact⟨y,r++[x],rfl,hy,IsL.snoc hd hr⟩
theorem IsL.ints {K:PySem.W.Frag}{H:Hp}:∀ {ns:List Int}{xs:List V},IsL K H (ns.map D.int) xs→xs=ns.map V.int
 | [],xs,h=>by rw[List.map_nil,IsL] at h;exact h
 | n::ns,xs,h=>by
  rw[List.map_cons,IsL] at h
  obtain⟨x,r,rfl,hx,hr⟩:=h
  rw[Is] at hx
  rw[hx,IsL.ints hr,List.map_cons]
theorem IsL.of_ints {K:PySem.W.Frag}{H:Hp}:∀ (ns:List Int),IsL K H (ns.map D.int) (ns.map V.int)
 | []=>by rw[List.map_nil,List.map_nil,IsL]
 | n::ns=>by
  rw[List.map_cons,List.map_cons,IsL]
  exact⟨_,_,rfl,by rw[Is],IsL.of_ints ns⟩
theorem IsL.bools {K:PySem.W.Frag}{H:Hp}:∀ {ns:List Bool}{xs:List V},IsL K H (ns.map D.bl) xs→xs=ns.map V.bl
 | [],xs,h=>by rw[List.map_nil,IsL] at h;exact h
 | n::ns,xs,h=>by
  rw[List.map_cons,IsL] at h
  obtain⟨x,r,rfl,hx,hr⟩:=h
  rw[Is] at hx
  rw[hx,IsL.bools hr,List.map_cons]
theorem IsL.of_bools {K:PySem.W.Frag}{H:Hp}:∀ (ns:List Bool),IsL K H (ns.map D.bl) (ns.map V.bl)
 | []=>by rw[List.map_nil,List.map_nil,IsL]
 | n::ns=>by
  rw[List.map_cons,List.map_cons,IsL]
  exact⟨_,_,rfl,by rw[Is],IsL.of_bools ns⟩
mutual
noncomputable def D.depth:D→Nat
 | .tup ds=>cT ds+1
 | _=>0
noncomputable def cT:List D→Nat
 | []=>0
 | d::ds=>max d.depth (cT ds)
end
section
variable {X:Cx}{pins:List (Addr×Obj)}{σ:St}{H:Hp}{s:Shared}
end
section
variable {X:Cx}
noncomputable def rIndex:V→List V→Hp→VK→Prop:=fun x vs H Q=>∃ (l:Addr) (xs:List V) (y:V) (j:Nat),x=.ref l∧vs=[y]∧H l=some (.lst xs)∧flatV y=true∧xs.all flatV=true∧j < xs.length∧(∀ z,xs[j]? = some z→eqV z y=true)∧(∀ i z,i < j→xs[i]? = some z→eqV z y=false)∧Q (.int j) H
theorem mt_index:MtM X "list.index" rIndex:=by
 intro pins s σ H x vs v us Q I rx rv h
 obtain⟨l,xs,y,j,rfl,rfl,hH,fy,fx,hj,h1,h2,q⟩:=h
 cases rx
 obtain⟨u,rfl,ru⟩:=rv.one
 obtain⟨z,its,n,r,hl,e⟩:=I.lstM hH
 have key:∀ i (hi:i < its.length),∃ x,xs[i]? = some x∧aY x its[i]∧flatV x=true:=fun i hi=>by
  have hx:xs[i]? = some xs[i]:=by simp [show i < xs.length by omega]
  obtain⟨w',h1,h2⟩:=r.get hx
  have:its[i]? = some its[i]:=by simp [hi]
  rw[this] at h1
  cases h1
  exact⟨_,hx,h2,(List.all_eq_true.mp fx) _ (List.getElem_mem _)⟩
 refine call_meets F.slot_list_index ⟨_,e,rfl⟩ F.entry_list_index (F.args_list_index_2 _ _)
  (SeqAt.list_indexAt l its.toArray n none #[] u (eqU y) j (by rw[List.size_toArray];omega) (by rw[sizeLine_eq] at z;omega) ?_ ?_) ⟨e,fun w' hw=>?_,⟨.int j,H,I.tok _,⟨_,rfl⟩,q⟩⟩
 ·obtain⟨x,hx,rx,fx'⟩:=key j (by omega)
  have:=eqU_of (x:=y) rx fx'
  show eqU y its[j]=true
  rw[this]
  exact h1 x hx
 ·intro i hi hlt
  have hi':i < its.length:=by simpa using hi
  obtain⟨x,hx,rx,fx'⟩:=key i hi'
  have:=eqU_of (x:=y) rx fx'
  show eqU y its[i]=false
  rw[this]
  exact h2 i x hlt hx
 ·exact mem_eqAt ru fy r fx w' (by simpa using hw)
end
end L2
namespace L2
open PySem PySem.Spec PyProof.Rows TwZ
structure Callee (P:Program) (w:World) (K:PySem.W.Frag) (mg:Str→Option Value) (base:Heap) (x:Str) (ps:List Str) (k:Nat) (sp:Sp) (f:Addr) (fd:FuncData):Prop where
 ok:FnOk P w K mg base CX0 k f fd ps sp
 mg:mg x=some (.ref f)
 kp:PySem.W.keepIn K (.ref f)=true
 bd:Binds K fd ps []
theorem pcG {X:Cx}{x:Str}{ps:List Str}{k n:Nat}{sp:Sp}{f:Addr}{fd:FuncData}{e:Expr}{es:List Expr}{t:TA}{p pos:Pos} (G:Callee X.prog X.w X.K X.mg X.base x ps k sp f fd) (hr:Room n X.A) (ha:PA X (e::es) t) (hg:Gl X x:=by rfl) (hle:k≤n:=by decide)
  (hdb:(x == ("__debug__" : Str))=false:=by decide) (he:starEach (e::es) X.env=(false,eval e X.env)::starEach es X.env:=by rfl) (hpl:(backTo pos (starEach es X.env)).any (·.1)=false:=by rfl) :
  PE X (.Call (.Name x p) (e::es) [] pos) (tCall sp [] E0 t):=pe_call G.ok (hr.mono hle) hg G.mg G.kp G.bd .nil pass0 ha hdb he hpl
theorem bK:bootBuiltins "isinstance" = some (.builtin "isinstance"):=by decide +kernel
noncomputable def But (t:Addr) (H H':Hp):Prop:=∀ b o,b≠t→H b=some o→H' b=some o
theorem But.refl {t:Addr} (H:Hp):But t H H:=fun _ _ _ h=>h
theorem But.trans {t:Addr}{H H1 H2:Hp} (a:But t H H1) (b:But t H1 H2):But t H H2:=fun c o hc h=>b c o hc (a c o hc h)
theorem But.upd {t:Addr}{H:Hp}{o:HO}:But t H (upd H t o):=fun b u hb h=>by rw[aO hb];exact h
theorem But.ts {K:PySem.W.Frag}{t:Addr}{H H':Hp} (a:But t H H') (hm:Mut (H t)):bW K H H':=by
 intro b xs h
 have ne:∀ {o:HO},H b=some o→¬ Mut (some o)→b≠t:=fun e n z=>by rw[← z,e] at hm;exact n hm
 rcases h with (h | ⟨o,h⟩) | h
 ·exact .inl (.inl (a _ _ (ne h (fun z=>z)) h))
 ·exact .inl (.inr ⟨o,a _ _ (ne h (fun z=>z)) h⟩)
 ·exact .inr h
theorem ixN_nat {n:Nat}{k:Int} (h0:0≤k) (h1:k < n):ixN n k=some k.toNat:=by
 unfold ixN
 rw[if_pos h0,if_pos h1]
theorem atI_int {α:Type}{xs:List α}{k:Int}{v:α} (h0:0≤k) (h:xs[k.toNat]? = some v):atI xs k=some v:=by
 obtain⟨j,rfl⟩:=Int.eq_ofNat_of_zero_le h0
 exact cF (by simpa using h)
theorem Is.tupOf {K:PySem.W.Frag}{H:Hp}{ds:List D}{a:Addr}{xs:List V} (q:bL K H a xs) (l:IsL K H ds xs):Is K H (.tup ds) (.ref a):=by
 rw[Is];exact⟨a,xs,rfl,q,l⟩
theorem Is.un {K:PySem.W.Frag}{H:Hp}{ds:List D}{v:V} (h:Is K H (.tup ds) v):∃ a xs,v=.ref a∧bL K H a xs∧IsL K H ds xs:=by
 rw[Is] at h;exact h
theorem IsL.un {K:PySem.W.Frag}{H:Hp}{d:D}{ds:List D}{xs:List V} (h:IsL K H (d::ds) xs):∃ x r,xs=x::r∧Is K H d x∧IsL K H ds r:=by
 rw[IsL] at h;exact h
theorem IsL.un0 {K:PySem.W.Frag}{H:Hp}{xs:List V} (h:IsL K H [] xs):xs=[]:=by
 rw[IsL] at h;exact h
theorem IsL.cons {K:PySem.W.Frag}{H:Hp}{d:D}{ds:List D}{x:V}{xs:List V} (hd:Is K H d x) (h:IsL K H ds xs):IsL K H (d::ds) (x::xs):=by
 rw[IsL];exact⟨x,xs,rfl,hd,h⟩
theorem IsL.nil {K:PySem.W.Frag}{H:Hp}:IsL K H [] []:=by rw[IsL]
theorem Is.i {K:PySem.W.Frag}{H:Hp} (i:Int):Is K H (.int i) (.int i):=by rw[Is]
theorem Is.b {K:PySem.W.Frag}{H:Hp} (i:Bool):Is K H (.bl i) (.bl i):=by rw[Is]
theorem Is.s {K:PySem.W.Frag}{H:Hp} (i:Str):Is K H (.str i) (.str i):=by rw[Is]
theorem Is.n {K:PySem.W.Frag}{H:Hp}:Is K H .non .non:=by rw[Is]
theorem Is.ui {K:PySem.W.Frag}{H:Hp}{i:Int}{v:V} (h:Is K H (.int i) v):v=.int i:=by rw[Is] at h;exact h
theorem Is.ub {K:PySem.W.Frag}{H:Hp}{i:Bool}{v:V} (h:Is K H (.bl i) v):v=.bl i:=by rw[Is] at h;exact h
theorem Is.us {K:PySem.W.Frag}{H:Hp}{i:Str}{v:V} (h:Is K H (.str i) v):v=.str i:=by rw[Is] at h;exact h
theorem Is.u0 {K:PySem.W.Frag}{H:Hp}{v:V} (h:Is K H .non v):v=.non:=by rw[Is] at h;exact h
end L2
namespace Tw
open PySem L2
structure Vs where
 size:Int
 brim:Int
 outs:List (Option Int×Int)
 holds:Bool
 spill:Option Int
 acts:List (Str×Int)
noncomputable abbrev Spt:=Int×Int×Bool
structure Net where
 vs:List Vs
 sps:List Spt
noncomputable def tgD:Option Int→D
 | none=>.non
 | some i=>.int i
noncomputable def tgV:Option Int→V
 | none=>.non
 | some i=>.int i
noncomputable def outD (o:Option Int×Int):D:=.tup [tgD o.1,.int o.2]
noncomputable def actD (a:Str×Int):D:=.tup [.str a.1,.int a.2]
noncomputable def vsD (v:Vs):D:=.tup [.int v.size,.int v.brim,.tup (v.outs.map outD),.bl v.holds,tgD v.spill,.tup (v.acts.map actD)]
noncomputable def spD (s:Spt):D:=.tup [.int s.1,.int s.2.1,.bl s.2.2]
noncomputable def netD (n:Net):D:=.tup [.tup (n.vs.map vsD),.tup (n.sps.map spD)]
noncomputable def stD (held coming:List Int) (doors:List Bool):D:=.tup [.tup (held.map D.int),.tup (coming.map D.int),.tup (doors.map D.bl)]
theorem Is.tg {K:PySem.W.Frag}{H:Hp}{t:Option Int}{v:V} (h:Is K H (tgD t) v):v=tgV t:=by
 cases t with
 | none=>exact h.u0
 | some i=>exact h.ui
theorem Is.tgOf {K:PySem.W.Frag}{H:Hp} (t:Option Int):Is K H (tgD t) (tgV t):=by
 cases t with
 | none=>exact Is.n
 | some i=>exact Is.i i
structure OutOk (n:Nat) (o:Option Int×Int):Prop where
 tg:∀ t,o.1=some t→0≤t∧t < n
 lo:1≤o.2
 hi:o.2≤60
structure ActOk (m:Nat) (a:Str×Int):Prop where
 word:a.1 = "open" ∨ a.1 = "shut" ∨ a.1 = "turn"
 lo:0≤a.2
 hi:a.2 < m
structure VOk (n m:Nat) (v:Vs):Prop where
 size:1≤v.size
 ne:v.outs≠[]
 o3:v.outs.length≤3
 outs:∀ o∈v.outs,OutOk n o
 spill:∀ t,v.spill=some t→0≤t∧t < n
 a3:v.acts.length≤3
 acts:∀ a∈v.acts,ActOk m a
structure NetOk (net:Net):Prop where
 lo:1≤net.vs.length
 hi:net.vs.length≤12
 sp:net.sps.length≤12
 vs:∀ v∈net.vs,VOk net.vs.length net.sps.length v
 sps:∀ s∈net.sps,0≤s.1∧s.1 < net.vs.length
noncomputable def whole (outs:List (Option Int×Int)):Int:=(outs.map (·.2)).sum
theorem whole_pos {n:Nat}:∀ {outs:List (Option Int×Int)},outs≠[]→(∀ o∈outs,OutOk n o)→1≤whole outs
 | [],h,_=>absurd rfl h
 | o::r,_,h=>by
  have h1:=(h o List.mem_cons_self).lo
  have h2:0≤whole r:=by
   clear h1
   have:∀ (r:List (Option Int×Int)),(∀ o∈r,OutOk n o)→0≤whole r:=by
    intro r
    induction r with
    | nil=>intro _;exact Int.le_refl _
    | cons o r ih=>
     intro h
     have h1:=(h o List.mem_cons_self).lo
     have h2:=ih fun o ho=>h o (List.mem_cons_of_mem _ ho)
     show 0≤o.2+whole r
     omega
   exact this r fun o ho=>h o (List.mem_cons_of_mem _ ho)
  show 1≤o.2+whole r
  omega
theorem whole_le {n:Nat}:∀ {outs:List (Option Int×Int)},(∀ o∈outs,OutOk n o)→whole outs≤60 * outs.length
 | [],_=>Int.le_refl _
 | o::r,h=>by
  have h1:=(h o List.mem_cons_self).hi
  have h2:=whole_le fun o ho=>h o (List.mem_cons_of_mem _ ho)
  show o.2+whole r≤_
  rw[List.length_cons]
  omega
noncomputable def bN (k:Option Int):List (Option Int×Int)→Int
 | []=>0
 | g::r=>(if g.1=k then g.2 else 0)+bN k r
theorem sumFor_append (k:Option Int):∀ (a b:List (Option Int×Int)),bN k (a++b)=bN k a+bN k b
 | [],b=>by simp [bN]
 | g::r,b=>by
  show (if g.1=k then g.2 else 0)+bN k (r++b)=(if g.1=k then g.2 else 0)+bN k r+bN k b
  rw[sumFor_append k r b];omega
noncomputable def bM (v:Vs) (has:Int):Int:=min has v.brim
noncomputable def vTips (v:Vs) (has:Int):Bool:=decide (v.size≤bM v has)
noncomputable def shared (v:Vs) (here:Int):List (Option Int×Int):=v.outs.map fun o=>(o.1,here / whole v.outs * o.2)
noncomputable def vGoes (v:Vs) (has:Int):List (Option Int×Int):=
 (v.spill,has - bM v has)::(if vTips v has=true then shared v (bM v has)++(if v.holds=true then [] else [(none,bM v has % whole v.outs)]) else [])
noncomputable def vStay (v:Vs) (has:Int):Int:=if vTips v has=true then (if v.holds=true then bM v has % whole v.outs else 0) else bM v has
theorem vGoes_len {n m:Nat}{v:Vs} (ok:VOk n m v) (has:Int):(vGoes v has).length≤5:=by
 unfold vGoes shared
 have:=ok.o3
 split
 ·split <;> simp <;> omega
 ·simp
noncomputable def fill1 (has:List Int) (s:Spt) (d:Bool):List Int:=if d=true then has.set s.1.toNat (has.getD s.1.toNat 0+s.2.1) else has
noncomputable def fillL:List Int→List Spt→List Bool→List Int
 | has,s::ss,d::ds=>fillL (fill1 has s d) ss ds
 | has,_,_=>has
noncomputable def add3:List Int→List Int→List Int→List Int
 | a::as,b::bs,c::cs=>(a+b+c)::add3 as bs cs
 | _,_,_=>[]
noncomputable def aN (net:Net) (held coming poured:List Int) (doors:List Bool):List Int:=fillL (add3 held coming poured) net.sps doors
noncomputable def bH:List Vs→List Int→List (Option Int×Int)
 | v::vs,h::hs=>vGoes v h++bH vs hs
 | _,_=>[]
noncomputable def cC:List Vs→List Int→List Int
 | v::vs,h::hs=>vStay v h::cC vs hs
 | _,_=>[]
noncomputable def aU:Nat→List Vs→List Int→List Nat
 | i,v::vs,h::hs=>if vTips v h=true then i::aU (i+1) vs hs else aU (i+1) vs hs
 | _,_,_=>[]
noncomputable def act1 (doors:List Bool) (a:Str×Int):List Bool:=doors.set a.2.toNat (if a.1 = "open" then true else if a.1 = "turn" then !(doors.getD a.2.toNat false) else false)
noncomputable def actsL (doors:List Bool) (as:List (Str×Int)):List Bool:=as.foldl act1 doors
noncomputable def bU (vs:List Vs) (doors:List Bool) (tip:List Nat):List Bool:=tip.foldl (fun ds i=>match vs[i]? with | some v=>actsL ds v.acts | none=>ds) doors
noncomputable def dD (n:Nat) (goes:List (Option Int×Int)):List Int:=(List.range n).map fun (k:Nat)=>bN (some (k:Int)) goes
structure Tick where
 held:List Int
 coming:List Int
 doors:List Bool
 tip:List Nat
 ground:Int
noncomputable def cN (net:Net) (held coming poured:List Int) (doors:List Bool):Tick:=
 let hs:=aN net held coming poured doors
 ⟨cC net.vs hs,dD net.vs.length (bH net.vs hs),bU net.vs doors (aU 0 net.vs hs),aU 0 net.vs hs,bN none (bH net.vs hs)⟩
end Tw
namespace Tw
open PySem L2
noncomputable def bD (i:Nat):Stmt:=PySem.Challenge.pw_tipwell_k10_bells.main.body.getD i (.Pass ⟨0,0,0,0⟩)
structure Txt (mg:Str→Option Value):Prop where
 b_len:mg "len" = none
 b_sum:mg "sum" = none
 b_all:mg "all" = none
 b_max:mg "max" = none
 b_min:mg "min" = none
 b_int:mg "int" = none
 b_tuple:mg "tuple" = none
 b_list:mg "list" = none
 b_bool:mg "bool" = none
 b_range:mg "range" = none
 b_zip:mg "zip" = none
 b_enumerate:mg "enumerate" = none
 b_isinstance:mg "isinstance" = none
 b_divmod:mg "divmod" = none
 b_set:mg "set" = none
 b_sorted:mg "sorted" = none
section
variable {P:Program}{w:World}{K:PySem.W.Frag}{mg:Str→Option Value}{base:Heap}
end
end Tw
namespace L2
open PySem PySem.Spec PyProof.Rows TwZ
section
variable {K:PySem.W.Frag}{g:TG}{tc:TT}{te:TE}{fr:List (Option Nat)}{σ:St}{H1:Hp}{Q:Addr→Hp→Prop}
theorem lc_tup {a:Addr}{xs:List V} (Pv:Addr→Nat→List V→St→Hp→Prop) (hq:∀ D i ys σ H,Pv D i ys σ H→bL K H a xs)
  (h0:∀ D,H1 D=none→Pv D 0 [] (frσ fr σ) (upd H1 D (.lst []))) (hstop:∀ D ys σ' H',Pv D xs.length ys σ' H'→Q D H')
  (hgo:∀ D i x ys σ' H',xs[i]? = some x→Pv D i ys σ' H'→g x σ' H' fun σ3 H3=>tc σ3 H3 fun b H4=>
    if b=true then te σ3 H4 fun y H5=>H5 D=some (.lst ys)∧ys.length < sizeLine∧Pv D (i+1) (ys++[y]) σ3 (upd H5 D (.lst (ys++[y])))
    else Pv D (i+1) ys σ3 H4):lcRest (Itt K a) g tc te fr σ H1 Q:=by
 refine lc_gen (n:=xs.length) Pv h0 (fun D ys σ' H' p=>⟨⟨xs,hq D _ ys σ' H' p,Nat.le_refl _⟩,hstop D ys σ' H' p⟩) fun D i ys σ' H' hi p=>⟨⟨xs,xs[i],hq D _ ys σ' H' p,by simp [hi]⟩,fun x H2 y=>?_⟩
 obtain⟨e,y⟩:=y
 subst e
 exact hgo D i x ys σ' _ (y xs (hq D _ ys σ' _ p)) p
theorem lc_list {a:Addr}{xs:List V} (Pv:Addr→Nat→List V→St→Hp→Prop) (hq:∀ D i ys σ H,Pv D i ys σ H→bX K H a xs)
  (h0:∀ D,H1 D=none→Pv D 0 [] (frσ fr σ) (upd H1 D (.lst []))) (hstop:∀ D ys σ' H',Pv D xs.length ys σ' H'→Q D H')
  (hgo:∀ D i x ys σ' H',xs[i]? = some x→Pv D i ys σ' H'→g x σ' H' fun σ3 H3=>tc σ3 H3 fun b H4=>
    if b=true then te σ3 H4 fun y H5=>H5 D=some (.lst ys)∧ys.length < sizeLine∧Pv D (i+1) (ys++[y]) σ3 (upd H5 D (.lst (ys++[y])))
    else Pv D (i+1) ys σ3 H4):lcRest (Itl K a) g tc te fr σ H1 Q:=by
 refine lc_gen (n:=xs.length) Pv h0 (fun D ys σ' H' p=>⟨⟨xs,hq D _ ys σ' H' p,Nat.le_refl _⟩,hstop D ys σ' H' p⟩) fun D i ys σ' H' hi p=>⟨⟨xs,xs[i],hq D _ ys σ' H' p,by simp [hi]⟩,fun x H2 y=>?_⟩
 obtain⟨e,y⟩:=y
 subst e
 exact hgo D i x ys σ' _ (y xs (hq D _ ys σ' _ p)) p
theorem lc_range {n:Nat} (Pv:Addr→Nat→List V→St→Hp→Prop)
  (h0:∀ D,H1 D=none→Pv D 0 [] (frσ fr σ) (upd H1 D (.lst []))) (hstop:∀ D ys σ' H',Pv D n ys σ' H'→Q D H')
  (hgo:∀ D i ys σ' H',i < n→Pv D i ys σ' H'→g (.int (i:Int)) σ' H' fun σ3 H3=>tc σ3 H3 fun b H4=>
    if b=true then te σ3 H4 fun y H5=>H5 D=some (.lst ys)∧ys.length < sizeLine∧Pv D (i+1) (ys++[y]) σ3 (upd H5 D (.lst (ys++[y])))
    else Pv D (i+1) ys σ3 H4):lcRest (Itr 0 n) g tc te fr σ H1 Q:=by
 refine lc_gen (n:=n) Pv h0 (fun D ys σ' H' p=>⟨Nat.le_refl _,hstop D ys σ' H' p⟩) fun D i ys σ' H' hi p=>⟨hi,fun x H2 y=>?_⟩
 obtain⟨e,y⟩:=y
 subst e y
 rw[Int.zero_add]
 exact hgo D i ys σ' _ hi p
end
section
variable {K:PySem.W.Frag}{g:TG}{tb:TS}{D:Ends}{σ:St}{H:Hp}
noncomputable abbrev ForRest (J:It) (g:TG) (tb:TS) (D:Ends) (σ:St) (H:Hp):Prop:=
 ∃ W:Nat→Nat→St→Hp→Prop,(∃ m,W 0 m σ H)∧∀ i m σ H,W i m σ H→
   (J.stop i H∧D.nx σ H)∨(J.go i H∧∃ N:St→Hp→Prop,(∀ σ' H',N σ' H'→∃ m',m' < m∧W (i+1) m' σ' H')∧∀ x H',J.yld i H x H'→g x σ H' fun σ2 H2=>tb { D with nx:=N,ct:=N,bk:=D.nx } σ2 H2)
theorem for_enum {t:Bool}{a:Addr}{xs:List V} (Pv:Nat→St→Hp→Prop) (hq:∀ i σ H,Pv i σ H→SqB K H t a xs)
  (h0:Pv 0 σ H) (hstop:∀ σ H,Pv xs.length σ H→D.nx σ H)
  (hgo:∀ i x σ H T,xs[i]? = some x→Pv i σ H→H T=none→g (.ref T) σ (upd H T (.tup [.int (i:Int),x])) fun σ2 H2=>tb { D with nx:=Pv (i+1),ct:=Pv (i+1),bk:=D.nx } σ2 H2):ForRest (Ite K t a) g tb D σ H:=by
 refine for_gen (n:=xs.length) Pv h0 (fun σ H p=>?_) fun i σ H hi p=>?_
 ·exact⟨⟨xs,hq _ σ H p,Nat.le_refl _⟩,hstop σ H p⟩
 ·refine⟨⟨xs,xs[i],hq _ σ H p,by simp [hi]⟩,?_⟩
  rintro v H2 ⟨T,x,hT,rfl,e1,rfl⟩
  exact hgo i x σ H T (e1 xs (hq _ σ H p)) p hT
end
theorem yes_of {σ:St}{H:Hp}{A B:Hp→Prop} (h:A H):tYes σ H fun b H4=>if b=true then A H4 else B H4:=by
 show if true=true then A H else B H
 rw[if_pos rfl];exact h
theorem dC {i:Nat}{v:V}{σ:St}{H:Hp}{A B:St→Hp→Prop} (h:A (σ.set i (some v)) H):gName i v σ H fun σ3 H3=>tYes σ3 H3 fun b H4=>if b=true then A σ3 H4 else B σ3 H4:=yes_of (σ:=σ.set i (some v)) (A:=A (σ.set i (some v))) (B:=B (σ.set i (some v))) h
theorem aG.put {H H':Hp}{p:Addr}{o:HO} (a:aG H H') (h:H p=none):aG H (upd H' p o):=fun b u e=>by rw[aO (aP e h)];exact a b u e
theorem bW.put {K:PySem.W.Frag}{H H':Hp}{p:Addr}{o:HO} (a:bW K H H') (h:H' p=none∨Mut (H' p)):bW K H (upd H' p o):=a.trans (by
 rcases h with h | h
 ·exact (aG.new h).ts
 ·exact But.ts But.upd h)
noncomputable def CDivB (i j:Int):Prop:=0 < j∧j < 2 ^ 200
theorem op_fdivB {X:Cx}:OpR X (binaryOp .FloorDiv) (rI CDivB fun i j=>.int (i / j)):=opI fun i j _ _ _ _ _ hc q=>by
 have h1:(0:Int) < j:=hc.1
 have h2:j < 2 ^ 200:=hc.2
 refine floordiv_int (by omega) (by rw[Int.fdiv_eq_ediv_of_nonneg i (by omega)];exact q) (.inl (PyProof.noPylong_of_log2 ?_))
 have h0:j.natAbs≠0:=by omega
 have h3:j.natAbs < 2 ^ 200:=by omega
 have:=(Nat.log2_lt h0).mpr h3
 omega
theorem bt_int:bootBuiltins "int" = some (.type "int"):=by decide +kernel
theorem bV:bootBuiltins "tuple" = some (.type "tuple"):=by decide +kernel
theorem bt_list:bootBuiltins "list" = some (.type "list"):=by decide +kernel
theorem bt_bool:bootBuiltins "bool" = some (.type "bool"):=by decide +kernel
section
variable {X:Cx}{K:PySem.W.Frag}{tg:Expr}{pos:Pos}
theorem cD {es:List Expr}{k:Nat}{t:TGs}{n:Nat} (hK:X.K=K) (hc:X.calm=true) (h:PGs X es t)
  (hn:(assignEach es X.env).length=n:=by rfl) (hst:(assignEach es X.env).findIdx? (·.1)=none:=by rfl):PG X (.Tuple es k pos) (gTup K n t):=by
 subst hK;exact pg_tup hc h hn hst
theorem aF (hK:X.K=K):IxR X (rIx K):=by subst hK;exact ix_seq
noncomputable def rLen (K:PySem.W.Frag):List V→Hp→VK→Prop:=fun xs H Q=>∃ p ys,xs=[.ref p]∧(bX K H p ys∨bL K H p ys)∧Q (.int ys.length) H
theorem aQ (hK:X.K=K):d6 X (.builtin "len") (rLen K):=by subst hK;exact call_len_seq
theorem call_sumK (hK:X.K=K) (hc:X.calm=true):d6 X (.builtin "sum") (rSum K):=by subst hK;exact call_sumB hc
theorem call_allK (hK:X.K=K) (hc:X.calm=true):d6 X (.builtin "all") (rAll K):=by subst hK;exact call_allB hc
theorem bB (hK:X.K=K):d6 X (.builtin "isinstance") (rIsi K):=by subst hK;exact call_isi
noncomputable def rTupOf (K:PySem.W.Frag):List V→Hp→VK→Prop:=fun xs H Q=>∃ p ys,xs=[.ref p]∧((bX K H p ys∧∀ l,H l=none→Q (.ref l) (upd H l (.tup ys)))∨(bL K H p ys∧Q (.ref p) H))
theorem call_tupK (hK:X.K=K):d6 X (.type "tuple") (rTupOf K):=by subst hK;exact call_tuple_of
noncomputable def rLstOf (K:PySem.W.Frag):List V→Hp→VK→Prop:=fun xs H Q=>∃ p ys,xs=[.ref p]∧(bX K H p ys∨bL K H p ys)∧∀ l,H l=none→Q (.ref l) (upd H l (.lst ys))
theorem call_lstK (hK:X.K=K):d6 X (.type "list") (rLstOf K):=by subst hK;exact call_list_of
theorem pi_listK {l:Expr}{tl:TE} (hK:X.K=K) (hl:PE X l tl):PI X tg l (iList K tl):=by subst hK;exact pi_list hl
theorem cY {l:Expr}{tl:TE} (hK:X.K=K) (hl:PE X l tl):PI X tg l (iTup K tl):=by subst hK;exact pi_tup hl
theorem pi_enumK {a:Expr}{ta:TA}{p:Pos} (hK:X.K=K) (hg:Gl X "enumerate") (hm:X.mg "enumerate" = none) (ha:PA X [a] ta) (hs:starEach [a] X.env=[(false,eval a X.env)]:=by rfl):PI X tg (.Call (.Name "enumerate" p) [a] [] pos) (iEnum K ta):=by
 subst hK;exact pi_enum hg hm ha hs
theorem op_repTK (hK:X.K=K):OpR X (binaryOp .Mult) (rRepT K):=by subst hK;exact op_repT
theorem pe_bmK {o e:Expr}{es:List Expr}{to:TE}{t:TA}{name:Str}{apos cpos:Pos}{T id:String}{r:V→List V→Hp→VK→Prop} (hK:X.K=K)
  (pa:PlainAttrs T) (slot:Slot T name id) (hty:typeOf (.builtin id)=pure (.type "method_descriptor")) (hm:MtR X id r) (ho:PE X o to) (ha:PA X (e::es) t)
  (hbase:attributeBase o name X.env (eval o X.env)=eval o X.env:=by rfl)
  (hfew:((backTo cpos (starEach (e::es) X.env)).all (fun x=>!x.1) && (backToKw cpos (keywordEach [] X.env)).all (fun x=>x.1.isSome)
   && decide ((e::es).length+([]:List Keyword).length+(if ([]:List Keyword).isEmpty then 0 else 1) < 30))=true:=by rfl)
  (hline:(apos.endLine == cpos.line)=true:=by rfl) (hs:starEach (e::es) X.env=(false,eval e X.env)::starEach es X.env:=by rfl) (hplain:(backTo cpos (starEach es X.env)).any (·.1)=false:=by rfl) :
  PE X (.Call (.Attribute o name apos) (e::es) [] cpos) (tBM K T r to t):=by subst hK;exact pe_bm pa slot hty hm ho ha hbase hfew hline hs hplain
end
end L2
namespace Tw
open PySem L2
section
variable {P:Program}{w:World}{K:PySem.W.Frag}{mg:Str→Option Value}{base:Heap}
theorem bE {α:Type}{xs:List α}{i:Nat}{x:α} (h:xs[i]? = some x):xs.take (i+1)=xs.take i++[x]:=by
 rw[List.take_succ,h];rfl
theorem outs_at {H:Hp}{outs:List (Option Int×Int)}{xs:List V}{i:Nat}{x:V} (l:IsL K H (outs.map outD) xs) (h:xs[i]? = some x) :
  ∃ o,outs[i]? = some o∧∃ a,x=.ref a∧bL K H a [tgV o.1,.int o.2]:=by
 obtain⟨d,hd,hx⟩:=l.get' h
 rw[List.getElem?_map] at hd
 cases e:outs[i]? with
 | none=>rw[e] at hd;cases hd
 | some o=>
  rw[e] at hd
  cases hd
  refine⟨o,rfl,?_⟩
  obtain⟨a,ys,rfl,q,l⟩:=(show Is K H (.tup [tgD o.1,.int o.2]) x from hx).un
  obtain⟨y,r,rfl,hy,l⟩:=l.un
  obtain⟨z,r,rfl,hz,l⟩:=l.un
  have:=l.un0
  subst this
  rw[Is.tg hy,hz.ui] at q
  exact⟨a,rfl,q⟩
theorem vs_un {H:Hp}{v:Vs}{x:V} (h:Is K H (vsD v) x):∃ (a:Addr) (o c:V),x=.ref a∧bL K H a [.int v.size,.int v.brim,o,.bl v.holds,tgV v.spill,c]∧Is K H (.tup (v.outs.map outD)) o∧Is K H (.tup (v.acts.map actD)) c:=by
 obtain⟨a,xs,rfl,q,l⟩:=(show Is K H (.tup [.int v.size,.int v.brim,.tup (v.outs.map outD),.bl v.holds,tgD v.spill,.tup (v.acts.map actD)]) x from h).un
 obtain⟨x1,r,rfl,h1,l⟩:=l.un
 obtain⟨x2,r,rfl,h2,l⟩:=l.un
 obtain⟨x3,r,rfl,h3,l⟩:=l.un
 obtain⟨x4,r,rfl,h4,l⟩:=l.un
 obtain⟨x5,r,rfl,h5,l⟩:=l.un
 obtain⟨x6,r,rfl,h6,l⟩:=l.un
 have:=l.un0
 subst this
 rw[h1.ui,h2.ui,h4.ub,Is.tg h5] at q
 exact⟨a,x3,x6,rfl,q,h3,h6⟩
end
end Tw
namespace Tw
open PySem L2
section
variable {P:Program}{w:World}{K:PySem.W.Frag}{mg:Str→Option Value}{base:Heap}
theorem acts_at {H:Hp}{acts:List (Str×Int)}{xs:List V}{i:Nat}{x:V} (l:IsL K H (acts.map actD) xs) (h:xs[i]? = some x) :
  ∃ o,acts[i]? = some o∧∃ a,x=.ref a∧bL K H a [.str o.1,.int o.2]:=by
 obtain⟨d,hd,hx⟩:=l.get' h
 rw[List.getElem?_map] at hd
 cases e:acts[i]? with
 | none=>rw[e] at hd;cases hd
 | some o=>
  rw[e] at hd
  cases hd
  refine⟨o,rfl,?_⟩
  obtain⟨a,ys,rfl,q,l⟩:=(show Is K H (.tup [.str o.1,.int o.2]) x from hx).un
  obtain⟨y,r,rfl,hy,l⟩:=l.un
  obtain⟨z,r,rfl,hz,l⟩:=l.un
  have:=l.un0
  subst this
  rw[hy.us,hz.ui] at q
  exact⟨a,rfl,q⟩
theorem act1_len (ds:List Bool) (a:Str×Int):(act1 ds a).length=ds.length:=by unfold act1;simp
theorem actsL_len:∀ (as:List (Str×Int)) (ds:List Bool),(actsL ds as).length=ds.length
 | [],ds=>rfl
 | a::as,ds=>by
  show (actsL (act1 ds a) as).length=_
  rw[actsL_len as,act1_len]
theorem doorsL_len (vs:List Vs):∀ (tip:List Nat) (ds:List Bool),(bU vs ds tip).length=ds.length
 | [],ds=>rfl
 | i::r,ds=>by
  show (bU vs (match vs[i]? with | some v=>actsL ds v.acts | none=>ds) r).length=_
  rw[doorsL_len vs r]
  cases vs[i]? with
  | none=>rfl
  | some v=>exact actsL_len _ _
theorem actsL_snoc (ds:List Bool) (as:List (Str×Int)) (a:Str×Int):actsL ds (as++[a])=act1 (actsL ds as) a:=by
 unfold actsL;rw[List.foldl_append];rfl
theorem doorsL_snoc (vs:List Vs) (ds:List Bool) (tip:List Nat) (i:Nat) (v:Vs) (h:vs[i]? = some v):bU vs ds (tip++[i])=actsL (bU vs ds tip) v.acts:=by
 unfold bU;rw[List.foldl_append]
 show (match vs[i]? with | some v=>_ | none=>_)=_
 rw[h]
end
end Tw
namespace Tw
open PySem L2
theorem add3_len:∀ {a b c:List Int}{n:Nat},a.length=n→b.length=n→c.length=n→(add3 a b c).length=n
 | [],b,c,n,h,_,_=>by simp at h;subst h;rfl
 | x::a,[],c,n,h1,h2,_=>by simp at h1 h2;omega
 | x::a,y::b,[],n,h1,_,h3=>by simp at h1 h3;omega
 | x::a,y::b,z::c,n,h1,h2,h3=>by
  simp at h1 h2 h3
  show (add3 a b c).length+1=n
  rw[add3_len (n:=n - 1) (by omega) (by omega) (by omega)];omega
theorem add3_get:∀ {a b c:List Int}{i:Nat}{x y z:Int},a[i]? = some x→b[i]? = some y→c[i]? = some z→(add3 a b c)[i]? = some (x+y+z)
 | [],_,_,i,_,_,_,h,_,_=>by simp at h
 | _::_,[],_,i,_,_,_,_,h,_=>by simp at h
 | _::_,_::_,[],i,_,_,_,_,_,h=>by simp at h
 | a::as,b::bs,c::cs,0,x,y,z,h1,h2,h3=>by simp at h1 h2 h3;subst h1 h2 h3;rfl
 | a::as,b::bs,c::cs,i+1,x,y,z,h1,h2,h3=>by
  show (add3 as bs cs)[i]? = _
  exact add3_get (by simpa using h1) (by simpa using h2) (by simpa using h3)
theorem fill1_len (has:List Int) (s:Spt) (d:Bool):(fill1 has s d).length=has.length:=by unfold fill1;split <;> simp
theorem fillL_len:∀ (ss:List Spt) (ds:List Bool) (has:List Int),(fillL has ss ds).length=has.length
 | [],ds,has=>by cases ds <;> rfl
 | s::ss,[],has=>rfl
 | s::ss,d::ds,has=>by show (fillL (fill1 has s d) ss ds).length=_;rw[fillL_len ss ds,fill1_len]
theorem fillL_snoc:∀ (ss:List Spt) (ds:List Bool) (i:Nat) (has:List Int) (s:Spt) (d:Bool),ss[i]? = some s→ds[i]? = some d→fillL has (ss.take (i+1)) (ds.take (i+1))=fill1 (fillL has (ss.take i) (ds.take i)) s d
 | [],_,i,_,_,_,h,_=>by simp at h
 | _::_,[],i,_,_,_,_,h=>by simp at h
 | a::ss,b::ds,0,has,s,d,h1,h2=>by simp at h1 h2;subst h1 h2;simp [fillL]
 | a::ss,b::ds,i+1,has,s,d,h1,h2=>by
  simp only [List.take_succ_cons,fillL]
  exact fillL_snoc ss ds i _ s d (by simpa using h1) (by simpa using h2)
theorem goesL_snoc:∀ (vs:List Vs) (hs:List Int) (i:Nat) (v:Vs) (h:Int),vs[i]? = some v→hs[i]? = some h→bH (vs.take (i+1)) (hs.take (i+1))=bH (vs.take i) (hs.take i)++vGoes v h
 | [],_,i,_,_,h,_=>by simp at h
 | _::_,[],i,_,_,_,h=>by simp at h
 | a::vs,b::hs,0,v,h,h1,h2=>by simp at h1 h2;subst h1 h2;simp [bH]
 | a::vs,b::hs,i+1,v,h,h1,h2=>by
  simp only [List.take_succ_cons,bH,List.append_assoc]
  rw[goesL_snoc vs hs i v h (by simpa using h1) (by simpa using h2)]
theorem staysL_snoc:∀ (vs:List Vs) (hs:List Int) (i:Nat) (v:Vs) (h:Int),vs[i]? = some v→hs[i]? = some h→cC (vs.take (i+1)) (hs.take (i+1))=cC (vs.take i) (hs.take i)++[vStay v h]
 | [],_,i,_,_,h,_=>by simp at h
 | _::_,[],i,_,_,_,h=>by simp at h
 | a::vs,b::hs,0,v,h,h1,h2=>by simp at h1 h2;subst h1 h2;simp [cC]
 | a::vs,b::hs,i+1,v,h,h1,h2=>by
  simp only [List.take_succ_cons,cC,List.cons_append]
  rw[staysL_snoc vs hs i v h (by simpa using h1) (by simpa using h2)]
theorem tipsL_snoc:∀ (vs:List Vs) (hs:List Int) (i j:Nat) (v:Vs) (h:Int),vs[i]? = some v→hs[i]? = some h→aU j (vs.take (i+1)) (hs.take (i+1))=aU j (vs.take i) (hs.take i)++(if vTips v h=true then [j+i] else [])
 | [],_,i,_,_,_,h,_=>by simp at h
 | _::_,[],i,_,_,_,_,h=>by simp at h
 | a::vs,b::hs,0,j,v,h,h1,h2=>by
  simp at h1 h2;subst h1 h2
  simp only [List.take_succ_cons,List.take_zero,aU,Nat.add_zero,List.nil_append]
 | a::vs,b::hs,i+1,j,v,h,h1,h2=>by
  simp only [List.take_succ_cons,aU]
  rw[tipsL_snoc vs hs i (j+1) v h (by simpa using h1) (by simpa using h2)]
  have e:j+1+i=j+(i+1):=by omega
  rw[e]
  split <;> simp
theorem tipsL_lt:∀ (vs:List Vs) (hs:List Int) (j k:Nat),k∈aU j vs hs→j≤k∧k < j+vs.length
 | [],_,_,k,h=>by simp [aU] at h
 | _::_,[],_,k,h=>by simp [aU] at h
 | a::vs,b::hs,j,k,h=>by
  simp only [aU] at h
  have ih:=tipsL_lt vs hs (j+1) k
  simp only [List.length_cons]
  split at h
  ·rcases List.mem_cons.mp h with rfl | h
   ·omega
   ·have:=ih h;omega
  ·have:=ih h;omega
theorem tipsL_len:∀ (vs:List Vs) (hs:List Int) (j:Nat),(aU j vs hs).length≤vs.length
 | [],_,_=>by simp [aU]
 | _::_,[],_=>by simp [aU]
 | a::vs,b::hs,j=>by
  simp only [aU,List.length_cons]
  have:=tipsL_len vs hs (j+1)
  split
  ·rw[List.length_cons];omega
  ·omega
theorem goesL_len {n m:Nat}:∀ (vs:List Vs) (hs:List Int),(∀ v∈vs,VOk n m v)→(bH vs hs).length≤5 * vs.length
 | [],_,_=>by simp [bH]
 | _::_,[],_=>by simp [bH]
 | a::vs,b::hs,h=>by
  simp only [bH,List.length_append,List.length_cons]
  have h1:=vGoes_len (h a List.mem_cons_self) b
  have h2:=goesL_len vs hs fun v hv=>h v (List.mem_cons_of_mem _ hv)
  omega
section
variable {P:Program}{w:World}{K:PySem.W.Frag}{mg:Str→Option Value}{base:Heap}
theorem sps_at {H:Hp}{sps:List Spt}{xs:List V}{i:Nat}{x:V} (l:IsL K H (sps.map spD) xs) (h:xs[i]? = some x) :
  ∃ s,sps[i]? = some s∧∃ a,x=.ref a∧bL K H a [.int s.1,.int s.2.1,.bl s.2.2]:=by
 obtain⟨d,hd,hx⟩:=l.get' h
 rw[List.getElem?_map] at hd
 cases e:sps[i]? with
 | none=>rw[e] at hd;cases hd
 | some o=>
  rw[e] at hd
  cases hd
  refine⟨o,rfl,?_⟩
  obtain⟨a,ys,rfl,q,l⟩:=(show Is K H (.tup [.int o.1,.int o.2.1,.bl o.2.2]) x from hx).un
  obtain⟨y,r,rfl,hy,l⟩:=l.un
  obtain⟨z,r,rfl,hz,l⟩:=l.un
  obtain⟨z2,r,rfl,hz2,l⟩:=l.un
  have:=l.un0
  subst this
  rw[hy.ui,hz.ui,hz2.ub] at q
  exact⟨a,rfl,q⟩
theorem st_un {H:Hp}{held coming:List Int}{doors:List Bool}{y:V} (h:Is K H (stD held coming doors) y):∃ (a b c d:Addr),y=.ref a∧bL K H a [.ref b,.ref c,.ref d]∧bL K H b (held.map V.int)∧bL K H c (coming.map V.int)∧bL K H d (doors.map V.bl):=by
 obtain⟨a,xs,rfl,q,l⟩:=(show Is K H (.tup [.tup (held.map D.int),.tup (coming.map D.int),.tup (doors.map D.bl)]) y from h).un
 obtain⟨x1,r,rfl,h1,l⟩:=l.un
 obtain⟨x2,r,rfl,h2,l⟩:=l.un
 obtain⟨x3,r,rfl,h3,l⟩:=l.un
 have:=l.un0
 subst this
 obtain⟨b,ys,rfl,q1,l1⟩:=h1.un
 obtain⟨c,zs,rfl,q2,l2⟩:=h2.un
 obtain⟨d,us,rfl,q3,l3⟩:=h3.un
 rw[l1.ints] at q1
 rw[l2.ints] at q2
 rw[l3.bools] at q3
 exact⟨a,b,c,d,rfl,q,q1,q2,q3⟩
theorem st_of {H:Hp}{held coming:List Int}{doors:List Bool}{a b c d:Addr} (q:bL K H a [.ref b,.ref c,.ref d]) (q1:bL K H b (held.map V.int)) (q2:bL K H c (coming.map V.int)) (q3:bL K H d (doors.map V.bl)):Is K H (stD held coming doors) (.ref a):=
 Is.tupOf q (.cons (Is.tupOf q1 (IsL.of_ints _)) (.cons (Is.tupOf q2 (IsL.of_ints _)) (.cons (Is.tupOf q3 (IsL.of_bools _)) .nil)))
end
end Tw
namespace Tw
open PySem L2
theorem staysL_len:∀ (vs:List Vs) (hs:List Int),vs.length=hs.length→(cC vs hs).length=vs.length
 | [],_,_=>by simp [cC]
 | _::_,[],h=>by simp at h
 | a::vs,b::hs,h=>by simp only [cC,List.length_cons];rw[staysL_len vs hs (by simpa using h)]
section
variable {P:Program}{w:World}{K:PySem.W.Frag}{mg:Str→Option Value}{base:Heap}
theorem net_un {H:Hp}{net:Net}{x:V} (h:Is K H (netD net) x):∃ (a b c:Addr) (xs ys:List V),x=.ref a∧bL K H a [.ref b,.ref c]∧bL K H b xs∧IsL K H (net.vs.map vsD) xs∧bL K H c ys∧IsL K H (net.sps.map spD) ys:=by
 obtain⟨a,zs,rfl,q,l⟩:=(show Is K H (.tup [.tup (net.vs.map vsD),.tup (net.sps.map spD)]) x from h).un
 obtain⟨x1,r,rfl,h1,l⟩:=l.un
 obtain⟨x2,r,rfl,h2,l⟩:=l.un
 have:=l.un0
 subst this
 obtain⟨b,xs,rfl,q1,l1⟩:=h1.un
 obtain⟨c,ys,rfl,q2,l2⟩:=h2.un
 exact⟨a,b,c,xs,ys,rfl,q,q1,l1,q2,l2⟩
structure StOk (net:Net) (held coming:List Int) (doors:List Bool):Prop where
 h:held.length=net.vs.length
 c:coming.length=net.vs.length
 d:doors.length=net.sps.length
end
end Tw
namespace Tw
open PySem L2
section
variable {P:Program}{w:World}{K:PySem.W.Frag}{mg:Str→Option Value}{base:Heap}
noncomputable def Tape (H:Hp) (t sl:Addr):Prop:=∃ (ns:List Int) (pos cell:Int),H t=some (.lst [.ref sl,.int pos,.int cell])∧H sl=some (.lst (ns.map V.int))∧ns.length≤1000
theorem Tape.same {H H':Hp}{t sl:Addr} (h:Tape H t sl) (s:aG H H'):Tape H' t sl:=by
 obtain⟨ns,pos,cell,e,f,g⟩:=h;exact⟨ns,pos,cell,s _ _ e,s _ _ f,g⟩
noncomputable def spDraw:Sp:=fun vs H Q _=>∃ (t sl:Addr) (many:Int),vs=[.ref t,.int many]∧Tape H t sl∧0 < many∧many < 1000000∧
 ∀ (r:Int) H',But t H H'→Tape H' t sl→0≤r→r < many→Q (.int r) H'
noncomputable def spDrawB:Sp:=fun vs H Q _=>∃ (t sl:Addr) (many:Int),vs=[.ref t,.int many]∧Tape H t sl∧0 < many∧many < 2 ^ 200∧
 ∀ (r:Int) H',But t H H'→Tape H' t sl→0≤r→r < many→Q (.int r) H'
noncomputable abbrev rdTail (K:PySem.W.Frag):TS:=tSeq (tAsg (tOp (rI (fun _ j=>0 < j) fun i j=>.int (i % j)) (tOp (rIx K) (tVar 0) (tC (.int 2))) (tVar 1)) (gName 4)) (tSeq (tAsg (tOp (rI CDivB fun i j=>.int (i / j)) (tOp (rIx K) (tVar 0) (tC (.int 2))) (tVar 1)) (gSub (tVar 0) (tC (.int 2)) rSetL)) (tRet (tVar 4)))
noncomputable abbrev rdMid (K:PySem.W.Frag):TS:=tSeq (tAsg (tOp (rI0 fun i j=>.int (i+j)) (tOp (rIx K) (tVar 0) (tC (.int 1))) (tC (.int 1))) (gSub (tVar 0) (tC (.int 1)) rSetL)) (tAsg (tVar 3) (gSub (tVar 0) (tC (.int 2)) rSetL))
noncomputable abbrev rdBody (K:PySem.W.Frag):TS:=tSeq (tAsg (tOp (rI (fun _ j=>0 < j) fun i j=>.int (i % j)) (tOp (rI0 fun i j=>.int (i+j)) (tVar 3) (tOp (rI CMul fun i j=>.int (i * j)) (tC (.int 1000003)) (tOp (rIx K) (tVar 0) (tC (.int 1))))) (tVar 2)) (gName 3)) (tSeq (tAsg (tOp (rI (fun _ j=>0 < j) fun i j=>.int (i % j)) (tOp (rI0 fun i j=>.int (i+j)) (tOp (rI0 fun i j=>.int (i+j)) (tOp (rI CMul fun i j=>.int (i * j)) (tVar 3) (tVar 3)) (tOp (rI CMul fun i j=>.int (i * j)) (tC (.int 1181783497276652981)) (tVar 3))) (tC (.int 2049848353892358983))) (tVar 2)) (gName 3)) (tAsg (tOp (rI (fun _ j=>0 < j) fun i j=>.int (i % j)) (tOp (rI0 fun i j=>.int (i+j)) (tOp (rI CMul fun i j=>.int (i * j)) (tVar 3) (tVar 3)) (tC (.int 1442695040888963407))) (tVar 2)) (gName 3)))
noncomputable abbrev rdTest (K:PySem.W.Frag):TT:=tOr (tTest (tOp (rI0 fun i j=>.bl (decide (j≤i))) (tOp (rIx K) (tVar 0) (tC (.int 1))) (tCB (rLen K) (aV (tOp (rIx K) (tVar 0) (tC (.int 0))) cZ)))) (tTest (tOp (rI0 fun i j=>.bl (decide (i < j))) (tVar 3) (tOp (rI CPow fun i j=>.int (i ^ j.toNat)) (tC (.int 10)) (tC (.int 18)))))
noncomputable abbrev dE (Q:VK):Ends:={ nx:=fun _ H'=>Q .non H',rt:=Q }
theorem sc__law_draw:FnScope ["tape","many","prime","cell","found"] ["tape","many"] (aK (bD 21)):=⟨rfl,rfl,rfl,by decide +kernel,rfl,by decide +kernel,by decide +kernel⟩
theorem ok__law_drawB {f:Addr}{fd:FuncData} (F:Fun K "_law_draw" "_law_draw" (bD 21) f fd) (T:Txt mg):FnOk P w K mg base CX0 1 f fd ["tape","many"] spDrawB:=by
 refine F.ok sc__law_draw (fun vs H Q E h=>?_) (fun cdv A outer s H vs Q E hr h=>?_)
 ·obtain⟨t,sl,many,rfl,_⟩:=h;rfl
 ·obtain⟨t,sl,many,rfl,⟨ns,pos,cell,ht,hsl,hns⟩,hm0,hm1,k⟩:=h
  have sc:=sc__law_draw
  refine⟨_,(aE (bF (i:=2) sc.nd rfl (Or.inl rfl) aD)
   (aE (bS (bG op_lt (aM (aF (K:=K) rfl) (pv 0) aD (fun _ _=>rfl)) (pv 1) (bP _)) (aE (bF (i:=3) sc.nd rfl (Or.inl rfl) aD)
   (aE (bS (bG op_gt (aH (aQ (K:=K) rfl) rfl T.b_len PySem.boot_len (aA (aM (aF (K:=K) rfl) (pv 0) aD (fun _ _=>rfl)) aB)) aD (bP _)) (aI (bF (i:=3) sc.nd rfl (Or.inl rfl) (aM (aF (K:=K) rfl) (aM (aF (K:=K) rfl) (pv 0) aD (fun _ _=>rfl)) (b9 op_mod (aM (aF (K:=K) rfl) (pv 0) aD (fun _ _=>rfl)) (aH (aQ (K:=K) rfl) rfl T.b_len PySem.boot_len (aA (aM (aF (K:=K) rfl) (pv 0) aD (fun _ _=>rfl)) aB))) (fun _ _=>rfl)))) aT)
   (aE (bS (PW.pt (cW (bG op_ge (aM (aF (K:=K) rfl) (pv 0) aD (fun _ _=>rfl)) (aH (aQ (K:=K) rfl) rfl T.b_len PySem.boot_len (aA (aM (aF (K:=K) rfl) (pv 0) aD (fun _ _=>rfl)) aB)) (bP _)) (cR (bG op_lt (pv 3) (b9 op_pow aD aD) (bP _))))) (aE (bF (i:=3) sc.nd rfl (Or.inl rfl) (b9 op_mod (b9 op_add (pv 3) (b9 op_mul aD (aM (aF (K:=K) rfl) (pv 0) aD (fun _ _=>rfl)))) (pv 2)))
   (aE (bF (i:=3) sc.nd rfl (Or.inl rfl) (b9 op_mod (b9 op_add (b9 op_add (b9 op_mul (pv 3) (pv 3)) (b9 op_mul aD (pv 3))) aD) (pv 2)))
   (aI (bF (i:=3) sc.nd rfl (Or.inl rfl) (b9 op_mod (b9 op_add (b9 op_mul (pv 3) (pv 3)) aD) (pv 2)))))) aT)
   (aE (ps_asg (b9 op_add (aM (aF (K:=K) rfl) (pv 0) aD (fun _ _=>rfl)) aD) (pg_sub (pv 0) aD set_list))
   (aI (ps_asg (pv 3) (pg_sub (pv 0) aD set_list))))))) aT)
   (aE (bF (i:=4) sc.nd rfl (Or.inl rfl) (b9 op_mod (aM (aF (K:=K) rfl) (pv 0) aD (fun _ _=>rfl)) (pv 1)))
   (aE (ps_asg (b9 op_fdivB (aM (aF (K:=K) rfl) (pv 0) aD (fun _ _=>rfl)) (pv 1)) (pg_sub (pv 0) aD set_list))
   (aI (aS (pv 4))))))),?_⟩
  have nst:sl≠t:=ne_of hsl ht (by intro z;injection z with z;cases ns <;> simp at z)
  have ix:∀ {H1:Hp}{p' c':Int}{Q:VK},H1 t=some (.lst [.ref sl,.int p',.int c'])→Q (.ref sl) H1→rIx K (.ref t) (.int 0) H1 Q:=fun e q=>.inl ⟨t,_,0,_,rfl,rfl,bX.of e,rfl,q⟩
  have ix1:∀ {H1:Hp}{p' c':Int}{Q:VK},H1 t=some (.lst [.ref sl,.int p',.int c'])→Q (.int p') H1→rIx K (.ref t) (.int 1) H1 Q:=fun e q=>.inl ⟨t,_,1,_,rfl,rfl,bX.of e,rfl,q⟩
  have ix2:∀ {H1:Hp}{p' c':Int}{Q:VK},H1 t=some (.lst [.ref sl,.int p',.int c'])→Q (.int c') H1→rIx K (.ref t) (.int 2) H1 Q:=fun e q=>.inl ⟨t,_,2,_,rfl,rfl,bX.of e,rfl,q⟩
  have tail:∀ (v3:Option V) (H1:Hp) (p' c':Int),But t H H1→H1 t=some (.lst [.ref sl,.int p',.int c'])→rdTail K (dE Q) [some (.ref t),some (.int many),some (.int 2305843009213693951),v3,none] H1:=by
   intro v3 H1 p' c' bt e
   refine⟨_,rfl,ix2 e ⟨_,rfl,_,_,rfl,rfl,hm0,?_⟩⟩
   refine⟨_,rfl,ix2 e ⟨_,rfl,_,_,rfl,rfl,⟨hm0,hm1⟩,_,rfl,t,_,2,2,rfl,rfl,e,rfl,_,rfl,?_⟩⟩
   refine k _ _ (bt.trans But.upd) ⟨ns,p',c' / many,aC,?_,hns⟩ (Int.emod_nonneg _ (by omega)) (Int.emod_lt_of_pos _ hm0)
   rw[aO nst];exact bt sl _ nst hsl
  refine⟨_,rfl,ix2 ht ⟨_,rfl,_,_,rfl,rfl,_,rfl,?_⟩⟩
  refine ite2 (fun _=>?_) (fun _=>tail none H pos cell (But.refl H) ht)
  have mid:∀ (c':Int),rdMid K { nx:=rdTail K (dE Q),rt:=Q } [some (.ref t),some (.int many),some (.int 2305843009213693951),some (.int c'),none] H:=by
   intro c'
   refine⟨_,rfl,ix1 ht ⟨_,_,rfl,rfl,_,rfl,t,_,1,1,rfl,rfl,ht,rfl,?_⟩⟩
   refine⟨_,rfl,_,rfl,t,_,2,2,rfl,rfl,aC,rfl,?_⟩
   exact tail (some (.int c')) _ (pos+1) c' (But.upd.trans But.upd) aC
  have big:∀ (c':Int),tSeq (tIfS (rdTest K) (rdBody K) tNext) (rdMid K) { nx:=rdTail K (dE Q),rt:=Q } [some (.ref t),some (.int many),some (.int 2305843009213693951),some (.int c'),none] H:=by
   intro c'
   have body:∀ σ,σ=[some (.ref t),some (.int many),some (.int 2305843009213693951),some (.int c'),none]→rdBody K { nx:=rdMid K { nx:=rdTail K (dE Q),rt:=Q },rt:=Q } σ H:=by
    rintro σ rfl
    have prime:(0:Int) < 2305843009213693951:=by decide
    refine⟨_,rfl,_,rfl,ix1 ht ⟨_,_,rfl,rfl,.inl ⟨by decide,by decide⟩,_,_,rfl,rfl,_,rfl,_,_,rfl,rfl,prime,?_⟩⟩
    have b1:=Int.emod_nonneg (c'+1000003 * pos) (show (2305843009213693951:Int)≠0 by decide)
    have b2:=Int.emod_lt_of_pos (c'+1000003 * pos) prime
    generalize (c'+1000003 * pos) % 2305843009213693951=c1 at b1 b2
    refine⟨_,rfl,_,rfl,_,_,rfl,rfl,.inl ⟨by omega,by omega⟩,_,rfl,_,_,rfl,rfl,.inl ⟨by decide,by decide⟩,_,_,rfl,rfl,_,_,rfl,rfl,_,rfl,_,_,rfl,rfl,prime,?_⟩
    have b3:=Int.emod_nonneg (c1 * c1+1181783497276652981 * c1+2049848353892358983) (show (2305843009213693951:Int)≠0 by decide)
    have b4:=Int.emod_lt_of_pos (c1 * c1+1181783497276652981 * c1+2049848353892358983) prime
    generalize (c1 * c1+1181783497276652981 * c1+2049848353892358983) % 2305843009213693951=c2 at b3 b4
    refine⟨_,rfl,_,rfl,_,_,rfl,rfl,.inl ⟨by omega,by omega⟩,_,_,rfl,rfl,_,rfl,_,_,rfl,rfl,prime,?_⟩
    exact mid _
   refine⟨_,rfl,ix1 ht ⟨_,rfl,ix ht ⟨sl,_,rfl,.inl (bX.of hsl),_,_,rfl,rfl,_,rfl,?_⟩⟩⟩
   refine ite2 (fun _=>?_) (fun _=>?_)
   ·refine iteT ?_
    exact body _ rfl
   ·refine⟨_,rfl,_,_,rfl,rfl,⟨by decide,by decide,by decide⟩,_,_,rfl,rfl,_,rfl,?_⟩
    refine ite2 (fun _=>body _ rfl) (fun _=>mid _)
  refine⟨_,rfl,ix ht ⟨sl,_,rfl,.inl (bX.of hsl),_,_,rfl,rfl,_,rfl,?_⟩⟩
  refine ite2 (fun hlen=>?_) (fun _=>big 0)
  have hpos:0 < ns.length:=by have:=of_decide_eq_true hlen;simpa using this
  refine⟨_,rfl,ix ht ⟨_,rfl,ix1 ht ⟨_,rfl,ix ht ⟨sl,_,rfl,.inl (bX.of hsl),_,_,rfl,rfl,(show (0:Int) < (((ns.map V.int).length:Nat):Int) by rw[List.length_map];omega),?_⟩⟩⟩⟩
  have m1:=Int.emod_nonneg pos (show (((ns.map V.int).length:Nat):Int)≠0 by rw[List.length_map];omega)
  have m2:=Int.emod_lt_of_pos pos (show (0:Int) < (((ns.map V.int).length:Nat):Int) by rw[List.length_map];omega)
  rw[List.length_map] at m1 m2
  have hix:(ns.map V.int)[(pos % ((ns.map V.int).length:Int)).toNat]? = some (.int (ns[(pos % (ns.length:Int)).toNat]'(by omega))):=by
   rw[List.length_map,List.getElem?_map];simp [show (pos % (ns.length:Int)).toNat < ns.length by omega]
  refine .inl ⟨sl,_,_,_,rfl,rfl,bX.of hsl,atI_int (by rw[List.length_map];exact m1) hix,?_⟩
  exact big _
theorem ok__law_draw {f:Addr}{fd:FuncData} (F:Fun K "_law_draw" "_law_draw" (bD 21) f fd) (T:Txt mg):FnOk P w K mg base CX0 1 f fd ["tape","many"] spDraw:=
 (ok__law_drawB F T).imp fun vs H Q E ⟨t,sl,many,e,tp,h0,h1,k⟩=>⟨t,sl,many,e,tp,h0,Int.lt_of_lt_of_le h1 (by decide),k⟩
end
end Tw
namespace Tw
open PySem L2
theorem Tape.some {H:Hp}{t sl:Addr} (h:Tape H t sl):∃ o,H t=some o:=by obtain⟨ns,pos,cell,e,_⟩:=h;exact⟨_,e⟩
theorem Tape.put {H:Hp}{t sl p:Addr}{o:HO} (h:Tape H t sl) (h1:p≠t) (h2:p≠sl):Tape (upd H p o) t sl:=by
 obtain⟨ns,pos,cell,e,f,g⟩:=h
 exact⟨ns,pos,cell,by rw[aO (Ne.symm h1)];exact e,by rw[aO (Ne.symm h2)];exact f,g⟩
theorem Tape.ne_sl {H:Hp}{t sl p:Addr} (h:Tape H t sl) (hp:H p=none):p≠sl:=by
 obtain⟨ns,pos,cell,e,f,g⟩:=h
 exact fun z=>by rw[z,f] at hp;cases hp
section
variable {K:PySem.W.Frag}{t sl:Addr}{σ:St}{H0:Hp}{P:V→Prop}{a b c d:TE}
end
section
variable {P:Program}{w:World}{K:PySem.W.Frag}{mg:Str→Option Value}{base:Heap}
end
end Tw
namespace L2
theorem if_by {c:TT}{a b:TS}{D:Ends}{σ:St}{H:Hp} (I:St→Hp→Prop) (h1:∀ D':Ends,(∀ σ' H',I σ' H'→D'.nx σ' H')→tIfS c a b D' σ H) (h2:∀ σ' H',I σ' H'→D.nx σ' H'):tIfS c a b D σ H:=h1 D h2
theorem seq_by {s R:TS}{D:Ends}{σ:St}{H:Hp} (I:St→Hp→Prop) (h1:∀ D':Ends,(∀ σ' H',I σ' H'→D'.nx σ' H')→s D' σ H) (h2:∀ σ' H',I σ' H'→R D σ' H'):tSeq s R D σ H:=h1 _ h2
end L2
namespace Tw
open PySem L2
section
variable {K:PySem.W.Frag}{t sl:Addr}{σ:St}{H0:Hp}{P:V→Prop}{a b c d:TE}
end
section
variable {P:Program}{w:World}{K:PySem.W.Frag}{mg:Str→Option Value}{base:Heap}
structure VFull (i:Nat) (v:Vs):Prop where
 sz:v.size≤60
 br:v.size≤v.brim
 bh:v.brim≤200
 sp:∀ t,v.spill=some t→(i:Int) < t
structure NetFull (net:Net):Prop where
 vs:∀ i v,net.vs[i]? = some v→VFull i v
 sps:∀ s∈net.sps,0≤s.2.1∧s.2.1≤60
end
end Tw
namespace Tw
open PySem L2
section
variable {P:Program}{w:World}{K:PySem.W.Frag}{mg:Str→Option Value}{base:Heap}
end
end Tw
namespace Tw
open PySem L2
section
variable {P:Program}{w:World}{K:PySem.W.Frag}{mg:Str→Option Value}{base:Heap}
theorem rep0:∀ n:Nat,(List.replicate n [V.int 0]).flatten=(List.replicate n (0:Int)).map V.int
 | 0=>rfl
 | n+1=>by rw[List.replicate_succ,List.replicate_succ,List.flatten_cons,rep0 n,List.map_cons];rfl
noncomputable def bI (n:Nat):List Int:=List.replicate n 0
noncomputable def spFirst (K:PySem.W.Frag):Sp:=fun args H Q _=>∃ (x:V) (net:Net),args=[x]∧Is K H (netD net) x∧NetOk net∧
 ∀ p H',aG H H'→Is K H' (stD (bI net.vs.length) (bI net.vs.length) (net.sps.map (·.2.2))) p→Q p H'
theorem sc__law_first:FnScope ["net","none"] ["net"] (aK (bD 23)):=⟨rfl,rfl,rfl,by decide +kernel,rfl,by decide +kernel,by decide +kernel⟩
theorem ok__law_first {f:Addr}{fd:FuncData} (F:Fun K "_law_first" "_law_first" (bD 23) f fd) (T:Txt mg):FnOk P w K mg base CX0 1 f fd ["net"] (spFirst K):=by
 refine F.ok sc__law_first (fun vs H Q E h=>?_) (fun cdv A outer s H vs Q E hr h=>?_)
 ·obtain⟨x,net,rfl,_⟩:=h;rfl
 ·obtain⟨x,net,rfl,hx,nok,k⟩:=h
  have sc:=sc__law_first
  refine⟨_,(aE (bF (i:=1) sc.nd rfl (Or.inl rfl) (b9 (op_repTK (K:=K) rfl) (bO (aA aD aB)) (aH (aQ (K:=K) rfl) rfl T.b_len PySem.boot_len (aA (aM (aF (K:=K) rfl) (pv 0) aD (fun _ _=>rfl)) aB))))
   (aI (aS (bO (aA (pv 1) (aA (pv 1) (aA (cA (call_tupK (K:=K) rfl) rfl T.b_tuple bV (aA (pe_lc (fun _ _ h=>h) rfl (LcOk.mk (N':=["spout"]) (fr:=[none]) rfl trivial rfl rfl rfl rfl rfl trivial) (cY (K:=K) rfl (aM (aF (K:=K) rfl) (pv 0) aD (fun _ _=>rfl))) (fun _ _ _=>(aJ (i:=0) (show (["spout"]:List Str).Nodup by decide +kernel) rfl (Or.inl rfl) (Or.inr rfl))) (fun _ _ _=>pif_nil) (fun _ _ _=>(aM (aF (K:=K) rfl) (pv 0) aD (fun _ _=>rfl)))) aB)) aB))))))),?_⟩
  obtain⟨a,b,c,xs,ys,rfl,q,q1,l1,q2,l2⟩:=net_un hx
  have exl:xs.length=net.vs.length:=by rw[l1.length,List.length_map]
  have eyl:ys.length=net.sps.length:=by rw[l2.length,List.length_map]
  have n1:=nok.lo
  have n2:=nok.hi
  have n3:=nok.sp
  refine⟨(show 1≤sizeLine by decide),fun z hz=>⟨_,rfl,.inr (.inl ⟨a,_,0,_,rfl,rfl,(aG.new hz).tup q,rfl,b,xs,rfl,.inr ((aG.new hz).tup q1),z,_,[.int 0],rfl,rfl,bL.of aC,by omega,by omega,by simp,by simp,fun e H1 sm1 qe=>?_⟩)⟩⟩
  have s1:aG H H1:=(aG.new hz).trans sm1
  have en:((xs.length:Nat):Int).toNat=net.vs.length:=by rw[exl];simp
  rw[en,rep0] at qe
  refine⟨_,rfl,_,rfl,_,rfl,.inr (.inl ⟨a,_,1,_,rfl,rfl,s1.tup q,rfl,c,rfl,⟨_,s1.tup q2⟩,lc_tup (K:=K) (a:=c) (xs:=ys) (fun D i r σ' H'=>H1 D=none∧aG H1 H'∧H' D=some (.lst r)∧r=((net.sps.take i).map (·.2.2)).map V.bl∧∃ u,σ'=[u])
   (fun D i r σ' H' p=>p.2.1.tup (s1.tup q2)) (fun D hD=>⟨hD,aG.new hD,aC,by simp,none,rfl⟩) ?_ ?_⟩)⟩
  rotate_left
  ·rintro D i x r σ' H2 hx ⟨hD,sm,hDl,rfl,u,rfl⟩
   obtain⟨sp,hsi,sa,rfl,qs⟩:=sps_at l2 hx
   have hil:=(List.getElem?_eq_some_iff.mp hsi).1
   refine dC ?_
   refine⟨_,rfl,.inr (.inl ⟨sa,_,2,_,rfl,rfl,sm.tup (s1.tup qs),rfl,hDl,aW (by simp;omega),hD,sm.put hD,aC,?_,_,rfl⟩)⟩
   rw[bE hsi];simp
  ·rintro D r σ' H2 ⟨hD,sm,hDl,rfl,_⟩
   rw[eyl,List.take_length] at hDl
   refine⟨D,_,rfl,.inl ⟨bX.of hDl,fun d hd=>⟨(show 3≤sizeLine by decide),fun r hr'=>?_⟩⟩⟩
   have m1:aG H2 (upd H2 d (.tup ((net.sps.map (·.2.2)).map V.bl))):=aG.new hd
   have m2:aG (upd H2 d (.tup ((net.sps.map (·.2.2)).map V.bl))) (upd (upd H2 d (.tup ((net.sps.map (·.2.2)).map V.bl))) r (.tup [.ref e,.ref e,.ref d])):=aG.new hr'
   refine k _ _ (((s1.trans sm).trans m1).trans m2) (st_of (bL.of aC) ?_ ?_ (m2.tup (bL.of aC)))
   ·exact m2.tup (m1.tup (sm.tup qe))
   ·exact m2.tup (m1.tup (sm.tup qe))
end
end Tw
namespace Tw
end Tw
namespace Tw
open PySem L2
theorem depth_map {α:Type} (f:α→L2.D) (hf:∀ a,(f a).depth=0):∀ l:List α,cT (l.map f)=0
 | []=>by rw[List.map_nil,cT]
 | a::r=>by rw[List.map_cons,cT,hf,depth_map f hf r];rfl
theorem depth_int (i:Int):(L2.D.int i).depth=0:=by rw[L2.D.depth] <;> intros <;> (first | rfl | (intro z;cases z) | (rename_i z;cases z))
theorem depth_bl (i:Bool):(L2.D.bl i).depth=0:=by rw[L2.D.depth] <;> intros <;> (first | rfl | (intro z;cases z) | (rename_i z;cases z))
theorem depth_st (held coming:List Int) (doors:List Bool):cT [.tup (held.map L2.D.int),.tup (coming.map L2.D.int),.tup (doors.map L2.D.bl)]=1:=by
 simp only [cT,L2.D.depth,depth_map _ depth_int,depth_map _ depth_bl];rfl
theorem kit_tt (K:PySem.W.Frag):PySem.W.kitOne K (.type "tuple") (.type "tuple")=some true:=by
 unfold PySem.W.kitOne;rw[if_pos (by decide +kernel)]
theorem kit_bb (K:PySem.W.Frag):PySem.W.kitOne K (.type "bool") (.type "bool")=some true:=by
 unfold PySem.W.kitOne;rw[if_pos (by decide +kernel)]
theorem kit_ib (K:PySem.W.Frag):PySem.W.kitOne K (.type "int") (.type "bool")=some false:=by
 unfold PySem.W.kitOne
 rw[if_neg (by decide +kernel)]
 show (if PySem.W.kitMeta "bool" = true then PySem.W.subIn K (.type "int") (.type "bool") else none)=some false
 rw[if_pos (by decide +kernel)]
 show (PySem.fastBuiltinMro "int").map (·.contains (.type "bool"))=some false
 decide +kernel
theorem all_true (n:Nat):(List.replicate n true).all id=true:=by
 rw[List.all_eq_true];intro x hx;rw[List.eq_of_mem_replicate hx];rfl
section
variable {P:Program}{w:World}{K:PySem.W.Frag}{mg:Str→Option Value}{base:Heap}
noncomputable def spLaw (K:PySem.W.Frag):Sp:=fun vs H Q _=>∃ (a:Addr) (ns:List Int),vs=[.ref a]∧bX K H a (ns.map V.int)∧ns.length≤63∧∀ H',Q (.bl true) H'
end
end Tw
namespace L2
open PySem PySem.Spec PyProof.Rows TwZ
section
variable {X:Cx}{K:PySem.W.Frag}
theorem dB {x:Str}{v:V}{pos:Pos} (hg:Gl X x) (h:∃ u,X.mg x=some u∧aY v u) (hd:(x == ("__debug__" : Str))=false:=by decide):PE X (.Name x pos) (tC v):=by
 obtain⟨u,e,r⟩:=h
 exact pe_glob hg e r hd
theorem op_inK (hK:X.K=K):OpR X (compareOp .In) (rIn K false):=by subst hK;exact op_in_seq
theorem op_ninK (hK:X.K=K):OpR X (compareOp .NotIn) (rIn K true):=by subst hK;exact op_notIn_seq
end
theorem iteD {c A B:Prop} [Decidable c] (hc:c) (h:A):if decide c=true then A else B:=by
 rw[if_pos (decide_eq_true hc)];exact h
end L2
namespace Tw
open PySem L2
structure TxtN (K:PySem.W.Frag) (mg:Str→Option Value) (aw:Addr):Prop where
 g_MOST_VESSELS:∃ u,mg "MOST_VESSELS" = some u∧aY (.int 12) u
 g_MOST_SPOUTS:∃ u,mg "MOST_SPOUTS" = some u∧aY (.int 12) u
 g_MOST_SIZE:∃ u,mg "MOST_SIZE" = some u∧aY (.int 60) u
 g_MOST_BRIM:∃ u,mg "MOST_BRIM" = some u∧aY (.int 200) u
 g_MOST_OUTS:∃ u,mg "MOST_OUTS" = some u∧aY (.int 3) u
 g_MOST_PARTS:∃ u,mg "MOST_PARTS" = some u∧aY (.int 60) u
 g_MOST_ACTS:∃ u,mg "MOST_ACTS" = some u∧aY (.int 3) u
 g_MOST_FLOW:∃ u,mg "MOST_FLOW" = some u∧aY (.int 60) u
 g_ACT_WORDS:∃ u,mg "ACT_WORDS" = some u∧aY (.ref aw) u
 words:∀ H,bL K H aw [.str "open",.str "shut",.str "turn"]
theorem kit_ii (K:PySem.W.Frag):PySem.W.kitOne K (.type "int") (.type "int")=some true:=by
 unfold PySem.W.kitOne;rw[if_pos (by decide +kernel)]
section
variable {P:Program}{w:World}{K:PySem.W.Frag}{mg:Str→Option Value}{base:Heap}{aw:Addr}
noncomputable def spTupN (K:PySem.W.Frag):Sp:=fun vs H Q _=>∃ (a:Addr) (xs:List V) (lo hi:Int),vs=[.ref a,.int lo,.int hi]∧bL K H a xs∧lo≤(xs.length:Int)∧(xs.length:Int)≤hi∧Q (.bl true) H
noncomputable def spWhole:Sp:=fun vs H Q _=>∃ (n lo hi:Int),vs=[.int n,.int lo,.int hi]∧lo≤n∧n≤hi∧Q (.bl true) H
noncomputable def spIsOut (K:PySem.W.Frag):Sp:=fun vs H Q _=>∃ (a:Addr) (n:Nat) (o:Option Int×Int),vs=[.ref a,.int (n:Int)]∧bL K H a [tgV o.1,.int o.2]∧OutOk n o∧Q (.bl true) H
noncomputable def spIsAct (K:PySem.W.Frag):Sp:=fun vs H Q _=>∃ (a:Addr) (m:Nat) (c:Str×Int),vs=[.ref a,.int (m:Int)]∧bL K H a [.str c.1,.int c.2]∧ActOk m c∧Q (.bl true) H
noncomputable def spIsSpout (K:PySem.W.Frag):Sp:=fun vs H Q _=>∃ (a:Addr) (n:Nat) (s:Spt),vs=[.ref a,.int (n:Int)]∧bL K H a [.int s.1,.int s.2.1,.bl s.2.2]∧(0≤s.1∧s.1 < n)∧(0≤s.2.1∧s.2.1≤60)∧Q (.bl true) H
noncomputable def spIsVessel (K:PySem.W.Frag):Sp:=fun vs H Q _=>∃ (x:V) (i n m:Nat) (v:Vs),vs=[x,.int (i:Int),.int (n:Int),.int (m:Int)]∧Is K H (vsD v) x∧VOk n m v∧VFull i v∧∀ H',aG H H'→Q (.bl true) H'
noncomputable def spIsNet (K:PySem.W.Frag):Sp:=fun vs H Q _=>∃ (x:V) (net:Net),vs=[x]∧Is K H (netD net) x∧NetOk net∧NetFull net∧∀ H',aG H H'→Q (.bl true) H'
theorem sc_is_tuple:FnScope ["thing","least","most"] ["thing","least","most"] (aK (bD 18)):=⟨rfl,rfl,rfl,by decide +kernel,rfl,by decide +kernel,by decide +kernel⟩
theorem ok_is_tuple {f:Addr}{fd:FuncData} (F:Fun K "is_tuple" "is_tuple" (bD 18) f fd) (T:Txt mg):FnOk P w K mg base CX0 1 f fd ["thing","least","most"] (spTupN K):=by
 refine F.ok sc_is_tuple (fun vs H Q E h=>?_) (fun cdv A outer s H vs Q E hr h=>?_)
 ·obtain⟨a,xs,lo,hi,rfl,_⟩:=h;rfl
 ·obtain⟨a,xs,lo,hi,rfl,q,h1,h2,k⟩:=h
  have sc:=sc_is_tuple
  refine⟨_,(aI (aS (pe_and (aH (bB (K:=K) rfl) rfl T.b_isinstance bK (aA (pv 0) (aA (bZ (v:=.ty "tuple") rfl T.b_tuple bV rfl) aB))) (pe_one (pe_chain op_le op_le (pv 1) (aH (aQ (K:=K) rfl) rfl T.b_len PySem.boot_len (aA (pv 0) aB)) (pv 2)))))),?_⟩
  refine⟨_,rfl,_,"tuple",_,true,rfl,.inr ⟨a,xs,rfl,q,rfl⟩,kit_tt K,_,rfl,iteT ?_⟩
  refine⟨_,rfl,_,rfl,a,xs,rfl,.inr q,_,_,rfl,rfl,_,rfl,iteD h1 ⟨_,rfl,_,_,rfl,rfl,?_⟩⟩
  show Q (.bl (decide _)) H
  rw[decide_eq_true h2];exact k
theorem sc_is_whole:FnScope ["thing","least","most"] ["thing","least","most"] (aK (bD 19)):=⟨rfl,rfl,rfl,by decide +kernel,rfl,by decide +kernel,by decide +kernel⟩
theorem ok_is_whole {f:Addr}{fd:FuncData} (F:Fun K "is_whole" "is_whole" (bD 19) f fd) (T:Txt mg):FnOk P w K mg base CX0 1 f fd ["thing","least","most"] spWhole:=by
 refine F.ok sc_is_whole (fun vs H Q E h=>?_) (fun cdv A outer s H vs Q E hr h=>?_)
 ·obtain⟨n,lo,hi,rfl,_⟩:=h;rfl
 ·obtain⟨n,lo,hi,rfl,h1,h2,k⟩:=h
  have sc:=sc_is_whole
  refine⟨_,(aI (aS (pe_and (aH (bB (K:=K) rfl) rfl T.b_isinstance bK (aA (pv 0) (aA (bZ (v:=.ty "int") rfl T.b_int bt_int rfl) aB))) (pe_and (pe_not (aH (bB (K:=K) rfl) rfl T.b_isinstance bK (aA (pv 0) (aA (bZ (v:=.ty "bool") rfl T.b_bool bt_bool rfl) aB)))) (pe_one (pe_chain op_le op_le (pv 1) (pv 0) (pv 2))))))),?_⟩
  refine⟨_,rfl,_,"int",_,true,rfl,.inl (.int _),kit_ii K,_,rfl,iteT ?_⟩
  refine⟨_,rfl,_,"bool",_,false,rfl,.inl (.int _),kit_ib K,_,rfl,_,rfl,iteT ?_⟩
  refine⟨_,rfl,_,rfl,_,_,rfl,rfl,_,rfl,iteD h1 ⟨_,rfl,_,_,rfl,rfl,?_⟩⟩
  show Q (.bl (decide _)) H
  rw[decide_eq_true h2];exact k
theorem sc_is_out:FnScope ["thing","vessel_count","target","parts"] ["thing","vessel_count"] (aK (bD 15)):=⟨rfl,rfl,rfl,by decide +kernel,rfl,by decide +kernel,by decide +kernel⟩
theorem ok_is_out {f f1 f2:Addr}{fd fd1 fd2:FuncData} (F:Fun K "is_out" "is_out" (bD 15) f fd) (T:Txt mg) (U:TxtN K mg aw) (G_is_tuple:Callee P w K mg base "is_tuple" ["thing","least","most"] 1 (spTupN K) f1 fd1)
  (G_is_whole:Callee P w K mg base "is_whole" ["thing","least","most"] 1 spWhole f2 fd2):FnOk P w K mg base CX0 2 f fd ["thing","vessel_count"] (spIsOut K):=by
 refine F.ok sc_is_out (fun vs H Q E h=>?_) (fun cdv A outer s H vs Q E hr h=>?_)
 ·obtain⟨a,n,o,rfl,_⟩:=h;rfl
 ·obtain⟨a,n,o,rfl,q,ok,k⟩:=h
  have sc:=sc_is_out
  refine⟨_,(aE (bS (aZ (b7 (pcG G_is_tuple hr (aA (pv 0) (aA aD (aA aD aB)))))) (aI (aS bT)) aT)
   (aE (ps_asg (pv 0) (cD (K:=K) (n:=2) rfl rfl (aL (aJ (i:=2) sc.nd rfl (Or.inl rfl)) (aL (aJ (i:=3) sc.nd rfl (Or.inl rfl)) bY))))
   (aI (aS (pe_and (pe_or (pe_cmpR op_isN (pv 2) pe_non (bP _)) (pe_one (pcG G_is_whole hr (aA (pv 2) (aA aD (aA (b9 op_sub (pv 1) aD) aB)))))) (pe_one (pcG G_is_whole hr (aA (pv 3) (aA aD (aA (dB rfl U.g_MOST_PARTS) aB)))))))))),?_⟩
  refine⟨_,rfl,a,_,2,2,rfl,q,(show (2:Int)≤2 by decide),(show (2:Int)≤2 by decide),_,rfl,bQ ?_⟩
  refine⟨_,rfl,a,_,rfl,q,rfl,_,_,rfl,_,_,rfl,rfl,?_⟩
  obtain⟨tg,pa⟩:=o
  cases tg with
  | none=>
   refine⟨_,rfl,rfl,_,rfl,iteD rfl ⟨_,rfl,iteT ?_⟩⟩
   exact⟨_,rfl,pa,1,60,rfl,ok.lo,ok.hi,k⟩
  | some i=>
   have hi:=ok.tg i rfl
   refine⟨_,rfl,rfl,_,rfl,bQ ⟨_,rfl,_,rfl,_,_,rfl,rfl,i,0,_,rfl,hi.1,by omega,_,rfl,iteT ?_⟩⟩
   exact⟨_,rfl,pa,1,60,rfl,ok.lo,ok.hi,k⟩
theorem sc_is_act:FnScope ["thing","spout_count","word","spout"] ["thing","spout_count"] (aK (bD 16)):=⟨rfl,rfl,rfl,by decide +kernel,rfl,by decide +kernel,by decide +kernel⟩
theorem ok_is_act {f f1 f2:Addr}{fd fd1 fd2:FuncData} (F:Fun K "is_act" "is_act" (bD 16) f fd) (T:Txt mg) (U:TxtN K mg aw) (G_is_tuple:Callee P w K mg base "is_tuple" ["thing","least","most"] 1 (spTupN K) f1 fd1)
  (G_is_whole:Callee P w K mg base "is_whole" ["thing","least","most"] 1 spWhole f2 fd2):FnOk P w K mg base CX0 2 f fd ["thing","spout_count"] (spIsAct K):=by
 refine F.ok sc_is_act (fun vs H Q E h=>?_) (fun cdv A outer s H vs Q E hr h=>?_)
 ·obtain⟨a,m,c,rfl,_⟩:=h;rfl
 ·obtain⟨a,m,c,rfl,q,ok,k⟩:=h
  have sc:=sc_is_act
  refine⟨_,(aE (bS (aZ (b7 (pcG G_is_tuple hr (aA (pv 0) (aA aD (aA aD aB)))))) (aI (aS bT)) aT)
   (aE (ps_asg (pv 0) (cD (K:=K) (n:=2) rfl rfl (aL (aJ (i:=2) sc.nd rfl (Or.inl rfl)) (aL (aJ (i:=3) sc.nd rfl (Or.inl rfl)) bY))))
   (aI (aS (pe_and (pe_cmpR (op_inK (K:=K) rfl) (pv 2) (dB rfl U.g_ACT_WORDS) (by rfl)) (pe_one (pcG G_is_whole hr (aA (pv 3) (aA aD (aA (b9 op_sub (pv 1) aD) aB)))))))))),?_⟩
  refine⟨_,rfl,a,_,2,2,rfl,q,(show (2:Int)≤2 by decide),(show (2:Int)≤2 by decide),_,rfl,bQ ?_⟩
  refine⟨_,rfl,a,_,rfl,q,rfl,_,_,rfl,_,_,rfl,rfl,?_⟩
  have hin:inV (.str c.1) [.str "open",.str "shut",.str "turn"]=true:=by
   rcases ok.word with e | e | e <;> rw[e] <;> decide +kernel
  refine⟨_,rfl,aw,_,rfl,.inr (U.words _),rfl,rfl,_,rfl,?_⟩
  rw[show (if false=true then !inV (V.str c.1) [.str "open",.str "shut",.str "turn"] else inV (V.str c.1) [.str "open",.str "shut",.str "turn"])=true from hin]
  refine iteT ?_
  exact⟨_,rfl,_,rfl,_,_,rfl,rfl,c.2,0,_,rfl,ok.lo,by have:=ok.hi;omega,k⟩
theorem sc_is_spout:FnScope ["thing","vessel_count","target","flow","door"] ["thing","vessel_count"] (aK (bD 17)):=⟨rfl,rfl,rfl,by decide +kernel,rfl,by decide +kernel,by decide +kernel⟩
theorem ok_is_spout {f f1 f2:Addr}{fd fd1 fd2:FuncData} (F:Fun K "is_spout" "is_spout" (bD 17) f fd) (T:Txt mg) (U:TxtN K mg aw) (G_is_tuple:Callee P w K mg base "is_tuple" ["thing","least","most"] 1 (spTupN K) f1 fd1)
  (G_is_whole:Callee P w K mg base "is_whole" ["thing","least","most"] 1 spWhole f2 fd2):FnOk P w K mg base CX0 2 f fd ["thing","vessel_count"] (spIsSpout K):=by
 refine F.ok sc_is_spout (fun vs H Q E h=>?_) (fun cdv A outer s H vs Q E hr h=>?_)
 ·obtain⟨a,n,s,rfl,_⟩:=h;rfl
 ·obtain⟨a,n,s,rfl,q,ok1,ok2,k⟩:=h
  have sc:=sc_is_spout
  refine⟨_,(aE (bS (aZ (b7 (pcG G_is_tuple hr (aA (pv 0) (aA aD (aA aD aB)))))) (aI (aS bT)) aT)
   (aE (ps_asg (pv 0) (cD (K:=K) (n:=3) rfl rfl (aL (aJ (i:=2) sc.nd rfl (Or.inl rfl)) (aL (aJ (i:=3) sc.nd rfl (Or.inl rfl)) (aL (aJ (i:=4) sc.nd rfl (Or.inl rfl)) bY)))))
   (aI (aS (pe_and (pcG G_is_whole hr (aA (pv 2) (aA aD (aA (b9 op_sub (pv 1) aD) aB)))) (pe_and (pcG G_is_whole hr (aA (pv 3) (aA aD (aA (dB rfl U.g_MOST_FLOW) aB)))) (pe_one (aH (bB (K:=K) rfl) rfl T.b_isinstance bK (aA (pv 4) (aA (bZ (v:=.ty "bool") rfl T.b_bool bt_bool rfl) aB)))))))))),?_⟩
  refine⟨_,rfl,a,_,3,3,rfl,q,(show (3:Int)≤3 by decide),(show (3:Int)≤3 by decide),_,rfl,bQ ?_⟩
  refine⟨_,rfl,a,_,rfl,q,rfl,_,_,rfl,_,_,rfl,_,_,rfl,rfl,?_⟩
  refine⟨_,rfl,_,rfl,_,_,rfl,rfl,s.1,0,_,rfl,ok1.1,by omega,_,rfl,iteT ?_⟩
  refine⟨_,rfl,s.2.1,0,60,rfl,ok2.1,ok2.2,_,rfl,iteT ?_⟩
  exact⟨_,rfl,_,"bool",_,true,rfl,.inl (.bl _),kit_bb K,k⟩
theorem sc_is_vessel:FnScope ["thing","number","vessel_count","spout_count","size","brim","outs","holds","spill","acts"] ["thing","number","vessel_count","spout_count"] (aK (bD 14)):=⟨rfl,rfl,rfl,by decide +kernel,rfl,by decide +kernel,by decide +kernel⟩
theorem ok_is_vessel {f f1 f2 f3 f4:Addr}{fd fd1 fd2 fd3 fd4:FuncData} (F:Fun K "is_vessel" "is_vessel" (bD 14) f fd) (T:Txt mg) (U:TxtN K mg aw) (G_is_tuple:Callee P w K mg base "is_tuple" ["thing","least","most"] 1 (spTupN K) f1 fd1)
  (G_is_whole:Callee P w K mg base "is_whole" ["thing","least","most"] 1 spWhole f2 fd2) (G_is_out:Callee P w K mg base "is_out" ["thing","vessel_count"] 2 (spIsOut K) f3 fd3) (G_is_act:Callee P w K mg base "is_act" ["thing","spout_count"] 2 (spIsAct K) f4 fd4) :
  FnOk P w K mg base CX0 3 f fd ["thing","number","vessel_count","spout_count"] (spIsVessel K):=by
 refine F.ok sc_is_vessel (fun vs H Q E h=>?_) (fun cdv A outer s H vs Q E hr h=>?_)
 ·obtain⟨x,i,n,m,v,rfl,_⟩:=h;rfl
 ·obtain⟨x,i,n,m,v,rfl,hx,ok,fu,k⟩:=h
  have sc:=sc_is_vessel
  refine⟨_,(aE (bS (aZ (b7 (pcG G_is_tuple hr (aA (pv 0) (aA aD (aA aD aB)))))) (aI (aS bT)) aT)
   (aE (ps_asg (pv 0) (cD (K:=K) (n:=6) rfl rfl (aL (aJ (i:=4) sc.nd rfl (Or.inl rfl)) (aL (aJ (i:=5) sc.nd rfl (Or.inl rfl)) (aL (aJ (i:=6) sc.nd rfl (Or.inl rfl)) (aL (aJ (i:=7) sc.nd rfl (Or.inl rfl)) (aL (aJ (i:=8) sc.nd rfl (Or.inl rfl)) (aL (aJ (i:=9) sc.nd rfl (Or.inl rfl)) bY))))))))
   (aE (bS (PW.pt (cW (aZ (b7 (pcG G_is_whole hr (aA (pv 4) (aA aD (aA (dB rfl U.g_MOST_SIZE) aB)))))) (cR (aZ (b7 (pcG G_is_whole hr (aA (pv 5) (aA (pv 4) (aA (dB rfl U.g_MOST_BRIM) aB))))))))) (aI (aS bT)) aT)
   (aE (bS (PW.pt (cW (aZ (b7 (pcG G_is_tuple hr (aA (pv 6) (aA aD (aA (dB rfl U.g_MOST_OUTS) aB)))))) (cR (aZ (b7 (pcG G_is_tuple hr (aA (pv 9) (aA aD (aA (dB rfl U.g_MOST_ACTS) aB))))))))) (aI (aS bT)) aT)
   (aI (aS (pe_and (aH (call_allK (K:=K) rfl rfl) rfl T.b_all PyProof.Rows.boot_all (aA (pe_lc (fun _ _ h=>h) rfl (LcOk.mk (N':=["out","vessel_count"]) (fr:=[none,some 2]) rfl ⟨rfl,trivial⟩ rfl rfl rfl rfl rfl ⟨⟨_,rfl,rfl,rfl,rfl⟩,trivial⟩) (cY (K:=K) rfl (pv 6)) (fun _ _ _=>(aJ (i:=0) (show (["out","vessel_count"]:List Str).Nodup by decide +kernel) rfl (Or.inl rfl) (Or.inr rfl))) (fun _ _ _=>pif_nil) (fun _ _ _=>(pcG G_is_out hr (aA (pv 0) (aA (pv 1) aB))))) aB)) (pe_and (aH (bB (K:=K) rfl) rfl T.b_isinstance bK (aA (pv 7) (aA (bZ (v:=.ty "bool") rfl T.b_bool bt_bool rfl) aB))) (pe_and (pe_or (pe_cmpR op_isN (pv 8) pe_non (bP _)) (pe_one (pcG G_is_whole hr (aA (pv 8) (aA (b9 op_add (pv 1) aD) (aA (b9 op_sub (pv 2) aD) aB)))))) (pe_one (aH (call_allK (K:=K) rfl rfl) rfl T.b_all PyProof.Rows.boot_all (aA (pe_lc (fun _ _ h=>h) rfl (LcOk.mk (N':=["act","spout_count"]) (fr:=[none,some 3]) rfl ⟨rfl,trivial⟩ rfl rfl rfl rfl rfl ⟨⟨_,rfl,rfl,rfl,rfl⟩,trivial⟩) (cY (K:=K) rfl (pv 9)) (fun _ _ _=>(aJ (i:=0) (show (["act","spout_count"]:List Str).Nodup by decide +kernel) rfl (Or.inl rfl) (Or.inr rfl))) (fun _ _ _=>pif_nil) (fun _ _ _=>(pcG G_is_act hr (aA (pv 0) (aA (pv 1) aB))))) aB)))))))))))),?_⟩
  obtain⟨va,o,cc,rfl,qv,ho,hc⟩:=vs_un hx
  obtain⟨oa,os,rfl,qo,lo⟩:=ho.un
  obtain⟨ca,cs,rfl,qc,lc⟩:=hc.un
  have eol:os.length=v.outs.length:=by rw[lo.length,List.length_map]
  have ecl:cs.length=v.acts.length:=by rw[lc.length,List.length_map]
  have ne1:1≤v.outs.length:=by
   rcases Nat.eq_zero_or_pos v.outs.length with e | e
   ·exact absurd (List.eq_nil_of_length_eq_zero e) ok.ne
   ·exact e
  have o3:=ok.o3
  have a3:=ok.a3
  refine⟨_,rfl,va,_,6,6,rfl,qv,(show (6:Int)≤6 by decide),(show (6:Int)≤6 by decide),_,rfl,bQ ?_⟩
  refine⟨_,rfl,va,_,rfl,qv,rfl,_,_,rfl,_,_,rfl,_,_,rfl,_,_,rfl,_,_,rfl,_,_,rfl,rfl,?_⟩
  refine⟨_,rfl,v.size,1,60,rfl,ok.size,fu.sz,_,rfl,bQ ?_⟩
  refine⟨_,rfl,_,rfl,v.brim,v.size,200,rfl,fu.br,fu.bh,_,rfl,bQ ?_⟩
  refine⟨_,rfl,oa,_,1,3,rfl,qo,by omega,by omega,_,rfl,bQ ?_⟩
  refine⟨_,rfl,ca,_,0,3,rfl,qc,by omega,by omega,_,rfl,bQ ?_⟩
  refine⟨_,rfl,oa,rfl,⟨_,qo⟩,lc_tup (K:=K) (a:=oa) (xs:=os) (fun D i r σ' H'=>H D=none∧aG H H'∧H' D=some (.lst r)∧r=(List.replicate i true).map V.bl∧∃ u,σ'=[u,some (.int (n:Int))])
   (fun D i r σ' H' p=>p.2.1.tup qo) (fun D hD=>⟨hD,aG.new hD,aC,rfl,none,rfl⟩) ?_ ?_⟩
  rotate_left
  ·rintro D j y r σ' H2 hy ⟨hD,sm,hDl,rfl,u,rfl⟩
   obtain⟨ot,hot,oad,rfl,qot⟩:=outs_at lo hy
   have hjl:=(List.getElem?_eq_some_iff.mp hot).1
   refine dC ?_
   refine⟨_,rfl,_,rfl,oad,n,ot,rfl,sm.tup qot,ok.outs _ (List.mem_of_getElem? hot),hDl,aW (by simp;omega),hD,sm.put hD,aC,?_,_,rfl⟩
   rw[List.replicate_succ',List.map_append];rfl
  rintro D r σ' H2 ⟨hD,sm2,hDl,rfl,_⟩
  refine⟨false,D,_,rfl,bX.of hDl,_,rfl,?_⟩
  rw[all_true]
  refine iteT ?_
  refine⟨_,rfl,_,"bool",_,true,rfl,.inl (.bl _),kit_bb K,_,rfl,iteT ?_⟩
  cases hsp:v.spill with
  | none=>
   rw[hsp] at qv
   refine⟨_,rfl,rfl,_,rfl,iteD rfl ⟨_,rfl,iteT ?_⟩⟩
   refine⟨_,rfl,ca,rfl,⟨_,sm2.tup qc⟩,lc_tup (K:=K) (a:=ca) (xs:=cs) (fun D i r σ' H'=>H2 D=none∧aG H2 H'∧H' D=some (.lst r)∧r=(List.replicate i true).map V.bl∧∃ u,σ'=[u,some (.int (m:Int))])
    (fun D i r σ' H' p=>p.2.1.tup (sm2.tup qc)) (fun D hD=>⟨hD,aG.new hD,aC,rfl,none,rfl⟩) ?_ ?_⟩
   rotate_left
   ·rintro D j y r σ' H3 hy ⟨hD,sm,hDl,rfl,u,rfl⟩
    obtain⟨at',hat,aa,rfl,qa⟩:=acts_at lc hy
    have hjl:=(List.getElem?_eq_some_iff.mp hat).1
    refine dC ?_
    refine⟨_,rfl,_,rfl,aa,m,at',rfl,sm.tup (sm2.tup qa),ok.acts _ (List.mem_of_getElem? hat),hDl,aW (by simp;omega),hD,sm.put hD,aC,?_,_,rfl⟩
    rw[List.replicate_succ',List.map_append];rfl
   rintro D r σ' H3 ⟨hD,sm3,hDl,rfl,_⟩
   refine⟨false,D,_,rfl,bX.of hDl,?_⟩
   rw[all_true]
   exact k _ (sm2.trans sm3)
  | some t=>
   have h1:=ok.spill t hsp
   have h2:=fu.sp t hsp
   rw[hsp] at qv
   refine⟨_,rfl,rfl,_,rfl,bQ ⟨_,rfl,_,rfl,_,_,rfl,rfl,_,rfl,_,_,rfl,rfl,t,_,_,rfl,by omega,by omega,_,rfl,iteT ?_⟩⟩
   refine⟨_,rfl,ca,rfl,⟨_,sm2.tup qc⟩,lc_tup (K:=K) (a:=ca) (xs:=cs) (fun D i r σ' H'=>H2 D=none∧aG H2 H'∧H' D=some (.lst r)∧r=(List.replicate i true).map V.bl∧∃ u,σ'=[u,some (.int (m:Int))])
    (fun D i r σ' H' p=>p.2.1.tup (sm2.tup qc)) (fun D hD=>⟨hD,aG.new hD,aC,rfl,none,rfl⟩) ?_ ?_⟩
   rotate_left
   ·rintro D j y r σ' H3 hy ⟨hD,sm,hDl,rfl,u,rfl⟩
    obtain⟨at',hat,aa,rfl,qa⟩:=acts_at lc hy
    have hjl:=(List.getElem?_eq_some_iff.mp hat).1
    refine dC ?_
    refine⟨_,rfl,_,rfl,aa,m,at',rfl,sm.tup (sm2.tup qa),ok.acts _ (List.mem_of_getElem? hat),hDl,aW (by simp;omega),hD,sm.put hD,aC,?_,_,rfl⟩
    rw[List.replicate_succ',List.map_append];rfl
   rintro D r σ' H3 ⟨hD,sm3,hDl,rfl,_⟩
   refine⟨false,D,_,rfl,bX.of hDl,?_⟩
   rw[all_true]
   exact k _ (sm2.trans sm3)
theorem sc_is_net:FnScope ["thing","vessels","spouts","number","vessel"] ["thing"] (aK (bD 13)):=⟨rfl,rfl,rfl,by decide +kernel,rfl,by decide +kernel,by decide +kernel⟩
theorem ok_is_net {f f1 f2 f3:Addr}{fd fd1 fd2 fd3:FuncData} (F:Fun K "is_net" "is_net" (bD 13) f fd) (T:Txt mg) (U:TxtN K mg aw) (G_is_tuple:Callee P w K mg base "is_tuple" ["thing","least","most"] 1 (spTupN K) f1 fd1)
  (G_is_vessel:Callee P w K mg base "is_vessel" ["thing","number","vessel_count","spout_count"] 3 (spIsVessel K) f2 fd2) (G_is_spout:Callee P w K mg base "is_spout" ["thing","vessel_count"] 2 (spIsSpout K) f3 fd3):FnOk P w K mg base CX0 4 f fd ["thing"] (spIsNet K):=by
 refine F.ok sc_is_net (fun vs H Q E h=>?_) (fun cdv A outer s H vs Q E hr h=>?_)
 ·obtain⟨x,net,rfl,_⟩:=h;rfl
 ·obtain⟨x,net,rfl,hx,nok,nfu,k⟩:=h
  have sc:=sc_is_net
  refine⟨_,(aE (bS (aZ (b7 (pcG G_is_tuple hr (aA (pv 0) (aA aD (aA aD aB)))))) (aI (aS bT)) aT)
   (aE (ps_asg (pv 0) (cD (K:=K) (n:=2) rfl rfl (aL (aJ (i:=1) sc.nd rfl (Or.inr rfl)) (aL (aJ (i:=2) sc.nd rfl (Or.inl rfl)) bY))))
   (aE (bS (PW.pt (cW (aZ (b7 (pcG G_is_tuple hr (aA (pv 1) (aA aD (aA (dB rfl U.g_MOST_VESSELS) aB)))))) (cR (aZ (b7 (pcG G_is_tuple hr (aA (pv 2) (aA aD (aA (dB rfl U.g_MOST_SPOUTS) aB))))))))) (aI (aS bT)) aT)
   (aE (d9 PassesOwn.never rfl (pi_enumK (K:=K) rfl rfl T.b_enumerate (aA (pv 1) aB)) (cD (K:=K) (n:=2) rfl rfl (aL (aJ (i:=3) sc.nd rfl (Or.inl rfl)) (aL (aJ (i:=4) sc.nd rfl (Or.inl rfl)) bY))) (aI (bS (aZ (b7 (pcG G_is_vessel hr (aA (pv 4) (aA (pv 3) (aA (aH (aQ (K:=K) rfl) rfl T.b_len PySem.boot_len (aA (pv 1) aB)) (aA (aH (aQ (K:=K) rfl) rfl T.b_len PySem.boot_len (aA (pv 2) aB)) aB))))))) (aI (aS bT)) aT)))
   (aI (aS (aH (call_allK (K:=K) rfl rfl) rfl T.b_all PyProof.Rows.boot_all (aA (pe_lc (fun _ _ h=>h) rfl (LcOk.mk (N':=["spout","vessels"]) (fr:=[none,some 1]) rfl ⟨rfl,trivial⟩ rfl rfl rfl rfl rfl ⟨⟨_,rfl,rfl,rfl,rfl⟩,trivial⟩) (cY (K:=K) rfl (pv 2)) (fun _ _ _=>(aJ (i:=0) (show (["spout","vessels"]:List Str).Nodup by decide +kernel) rfl (Or.inl rfl) (Or.inr rfl))) (fun _ _ _=>pif_nil) (fun _ _ _=>(pcG G_is_spout hr (aA (pv 0) (aA (aH (aQ (K:=K) rfl) rfl T.b_len PySem.boot_len (aA (pv 1) aB)) aB))))) aB)))))))),?_⟩
  obtain⟨a,b,c,xs,ys,rfl,q,q1,l1,q2,l2⟩:=net_un hx
  have exl:xs.length=net.vs.length:=by rw[l1.length,List.length_map]
  have eyl:ys.length=net.sps.length:=by rw[l2.length,List.length_map]
  have n1:=nok.lo
  have n2:=nok.hi
  have n3:=nok.sp
  refine⟨_,rfl,a,_,2,2,rfl,q,(show (2:Int)≤2 by decide),(show (2:Int)≤2 by decide),_,rfl,bQ ?_⟩
  refine⟨_,rfl,a,_,rfl,q,rfl,_,_,rfl,_,_,rfl,rfl,?_⟩
  refine⟨_,rfl,b,_,1,12,rfl,q1,by omega,by omega,_,rfl,bQ ?_⟩
  refine⟨_,rfl,c,_,0,12,rfl,q2,by omega,by omega,_,rfl,bQ ?_⟩
  refine⟨_,rfl,true,b,rfl,⟨_,q1⟩,for_enum (K:=K) (t:=true) (a:=b) (xs:=xs) (fun i σ' H'=>aG H H'∧∃ v3 v4,σ'=[some (.ref a),some (.ref b),some (.ref c),v3,v4])
   (fun i σ' H' p=>p.1.tup q1) ⟨fun _ _ h=>h,none,none,rfl⟩ ?_ ?_⟩
  rotate_left
  ·rintro i y σ' H2 Tt hy ⟨sm,v3,v4,rfl⟩ hT
   obtain⟨d,hd,iy⟩:=l1.get' hy
   rw[List.getElem?_map] at hd
   obtain⟨v,hv,rfl⟩:=Option.map_eq_some_iff.mp hd
   have smT:=aG.new (o:=HO.tup [.int (i:Int),y]) hT
   have sm3:=sm.trans smT
   refine⟨Tt,_,rfl,bL.of aC,rfl,_,_,rfl,_,_,rfl,rfl,?_⟩
   refine⟨_,rfl,_,rfl,_,rfl,b,xs,rfl,.inr (sm3.tup q1),_,rfl,c,ys,rfl,.inr (sm3.tup q2),y,i,net.vs.length,net.sps.length,v,by rw[exl,eyl];rfl,Is.mono sm3.ts _ _ iy,nok.vs v (List.mem_of_getElem? hv),nfu.vs i v hv,fun H4 sm4=>⟨_,rfl,bQ ?_⟩⟩
   exact⟨sm3.trans sm4,_,_,rfl⟩
  rintro σ' H2 ⟨sm2,v3,v4,rfl⟩
  refine⟨_,rfl,c,rfl,⟨_,sm2.tup q2⟩,lc_tup (K:=K) (a:=c) (xs:=ys) (fun D i r σ' H'=>H2 D=none∧aG H2 H'∧H' D=some (.lst r)∧r=(List.replicate i true).map V.bl∧∃ u,σ'=[u,some (.ref b)])
   (fun D i r σ' H' p=>p.2.1.tup (sm2.tup q2)) (fun D hD=>⟨hD,aG.new hD,aC,rfl,none,rfl⟩) ?_ ?_⟩
  rotate_left
  ·rintro D j y r σ' H3 hy ⟨hD,sm,hDl,rfl,u,rfl⟩
   obtain⟨sp,hsi,sa,rfl,qs⟩:=sps_at l2 hy
   have hjl:=(List.getElem?_eq_some_iff.mp hsi).1
   have hm:=List.mem_of_getElem? hsi
   refine dC ?_
   refine⟨_,rfl,_,rfl,b,xs,rfl,.inr (sm.tup (sm2.tup q1)),sa,net.vs.length,sp,by rw[exl];rfl,sm.tup (sm2.tup qs),nok.sps sp hm,nfu.sps sp hm,hDl,aW (by simp;omega),hD,sm.put hD,aC,?_,_,rfl⟩
   rw[List.replicate_succ',List.map_append];rfl
  rintro D r σ' H3 ⟨hD,sm3,hDl,rfl,_⟩
  refine⟨false,D,_,rfl,bX.of hDl,?_⟩
  rw[all_true]
  exact k _ (sm2.trans sm3)
end
end Tw
namespace L2
open PySem PySem.Spec PyProof.Rows
noncomputable def gLst (K:PySem.W.Frag) (n:Nat) (t:TGs):TG:=fun v σ H Q=>∃ a xs,v=.ref a∧bX K H a xs∧xs.length=n∧t xs σ H Q
theorem pg_lst {X:Cx}{pos:Pos}{es:List Expr}{k:Nat}{t:TGs}{n:Nat} (hc:X.calm=true) (h:PGs X es t)
  (hn:(assignEach es X.env).length=n:=by rfl) (hst:(assignEach es X.env).findIdx? (·.1)=none:=by rfl):PG X (.Tuple es k pos) (gLst X.K n t):=by
 intro pins s σ H v u Q I r hw
 obtain⟨a,xs,e1,hq,hl,hw⟩:=hw
 subst e1
 cases r
 obtain⟨its,rv,ht,hz⟩:=I.list hq
 rw[assign_Tuple]
 refine wpAny_bind (wpAny_standAt ?_)
 unfold unpack
 have e:(assignEach es X.env).length=its.toArray.size:=by simp [hn,← hl,rv.length]
 rw[e,hst]
 refine wpAny_bind (wpAny_holding (PySem.W.kun_itemsOf (I.ok.hd hc) ht.isList fun h' hx=>?_))
 have I1:Inv X pins σ H { s with heap:=h' }:=I.kept (t':=s.toks) fun b o e=>hx b o (Nat.ne_of_lt (Heap.lt_size e)) e
 exact h pins _ σ H xs _ Q I1 (by simpa using rv) hw
theorem pg_lstK {X:Cx}{K:PySem.W.Frag}{pos:Pos}{es:List Expr}{k:Nat}{t:TGs}{n:Nat} (hK:X.K=K) (hc:X.calm=true) (h:PGs X es t)
  (hn:(assignEach es X.env).length=n:=by rfl) (hst:(assignEach es X.env).findIdx? (·.1)=none:=by rfl):PG X (.Tuple es k pos) (gLst K n t):=by
 subst hK;exact pg_lst hc h hn hst
end L2
namespace L2
open PySem PySem.Spec PyProof.Rows TwZ
section
variable {X:Cx}{K:PySem.W.Frag}
end
end L2
namespace L2
open PySem PySem.Spec PyProof.Rows TwZ
section
variable {K:PySem.W.Frag}{g:TG}{tc:TT}{te:TE}{fr:List (Option Nat)}{σ:St}{H1:Hp}{Q:Addr→Hp→Prop}
end
end L2
namespace Tw
open PySem L2
section
variable {K:PySem.W.Frag}{C r dx R M T:Addr}{H H':Hp}{S:RunS}{fp:List Addr}{np mv:V}{ts:List Addr}{rs ms:List V}
end
section
variable {P:Program}{w:World}{K:PySem.W.Frag}{mg:Str→Option Value}{base:Heap}{C:Addr}
end
end Tw
namespace L2
open PySem PySem.Spec PyProof.Rows TwZ
section
variable {X:Cx}{pins:List (Addr×Obj)}{σ:St}{H:Hp}{s:Shared}
end
section
variable {K:PySem.W.Frag}{H:Hp}
end
end L2
namespace L2
open PySem PySem.Spec PyProof.Rows TwZ
section
variable {X:Cx}{pins:List (Addr×Obj)}{σ:St}{H H':Hp}{s s':Shared}{E:XK}
end
end L2
namespace L2
open PySem PySem.Spec PyProof.Rows TwZ
section
variable {X:Cx}{pins:List (Addr×Obj)}{σ:St}{H:Hp}{s:Shared}{pn:List (Addr×Obj)}{E:Value→Shared→Prop}{ea:Addr}
end
end L2
namespace L2
open PySem PySem.Spec PyProof.Rows TwZ PySem.Builtin PySem.Builtin.ObjectAttr PySem.Builtin.Getset_descriptor
section
variable {prog:Program}{w:World}{K:PySem.W.Frag}{x D:Addr}
end
section
variable {X:Cx}
end
end L2
namespace L2
open PySem PySem.Spec PyProof.Rows TwZ
section
variable {X:Cx}{K:PySem.W.Frag}
noncomputable def rCatTZ (K:PySem.W.Frag):R2:=fun x y H Q=>∃ a b xs ys,x=.ref a∧y=.ref b∧bL K H a xs∧bL K H b ys∧xs.length+ys.length≤sizeLine∧∀ p H',aG H H'→bL K H' p (xs++ys)→Q (.ref p) H'
theorem op_catTZ:OpR X (binaryOp .Add) (rCatTZ X.K):=by
 intro pins s σ H x y v u Q I rx ry h
 obtain⟨a,b,xs,ys,rfl,rfl,ha,hb,hz,q⟩:=h
 by_cases hx:xs=[]
 ·subst hx
  cases rx
  cases ry
  obtain⟨its,r1,p1,_⟩:=I.tuple ha
  obtain⟨its2,r2,p2,_⟩:=I.tuple hb
  cases r1
  obtain⟨⟨cls,dd,data,sl⟩,ho,hc,n,hd⟩:=id p1
  obtain⟨⟨cls2,dd2,data2,sl2⟩,ho2,hc2,n2,hd2⟩:=id p2
  simp only at hc hd hc2 hd2
  subst hc hd hc2 hd2
  exact concat_meets ⟨_,ho,rfl⟩ ⟨_,ho2,rfl⟩ noFill_tuple_add seq_tuple_add PySem.F.slot_tuple_add PySem.F.entry_tuple_add (PySem.F.args_tuple_add_2 _ _) (tuple_addW0 a b _ its2.toArray n n2 dd dd2 sl sl2 (by simp)) ⟨ho,ho2,⟨.ref b,H,I,rfl,q b H (aG.refl H) hb⟩⟩
 ·refine op_catT pins s σ H _ _ v u Q I rx ry ⟨a,b,xs,ys,rfl,rfl,ha,hb,hx,hz,fun e=>?_,fun _ p hp=>?_⟩
  ·subst e
   exact q a H (aG.refl H) (by rw[List.append_nil];exact ha)
  ·exact q p _ (aG.new hp) (bL.of aC)
theorem op_catTZK (hK:X.K=K):OpR X (binaryOp .Add) (rCatTZ K):=by subst hK;exact op_catTZ
end
end L2
namespace L2
open PySem PySem.Spec PyProof.Rows TwZ
section
variable {P:Program}{w:World}{K:PySem.W.Frag}{mg:Str→Option Value}{base:Heap}
end
end L2
namespace Tw
open PySem L2
section
variable {P:Program}{w:World}{K:PySem.W.Frag}{mg:Str→Option Value}{base:Heap}{C c_TipError c_NoNet c_NoVessel c_TooLong c_TooMany c_TooMuch c_Nothing c_NoText c_NoRow:Addr}
end
end Tw
namespace L2
open PySem PySem.Spec PyProof.Rows TwZ
mutual
noncomputable def d7 (h:Heap):D→Value→Prop
 | .int i,v=>∃ t,v=.int i t
 | .bl b,v=>v=.bool b
 | .tup ds,v=>∃ a o items n,v=.ref a∧h.get? a=some o∧o.cls=.type "tuple" ∧ o.data=.seq items n∧cG h ds items.toList
 | .non,_=>False
 | .str _,_=>False
noncomputable def cG (h:Heap):List D→List Value→Prop
 | [],vs=>vs=[]
 | d::ds,vs=>∃ v r,vs=v::r∧d7 h d v∧cG h ds r
end
mutual
noncomputable def sh:D→D
 | .int _=>.int 0
 | .bl _=>.bl false
 | .tup ds=>.tup (shL ds)
 | d=>d
noncomputable def shL:List D→List D
 | []=>[]
 | d::ds=>sh d::shL ds
end
mutual
noncomputable def hashD:D→Int
 | .int i=>hashInt i
 | .bl b=>hashInt (if b=true then 1 else 0)
 | .tup ds=>reduceHash (Builtin.Tuple.tupleHashOf (cP ds))
 | _=>0
noncomputable def cP:List D→List Int
 | []=>[]
 | d::ds=>hashD d::cP ds
end
mutual
noncomputable def drawsD:D→Nat
 | .tup ds=>cK ds+1
 | _=>1
noncomputable def cK:List D→Nat
 | []=>0
 | d::ds=>drawsD d+cK ds
end
mutual
theorem d7.inj {h:Heap}:∀ {x y:D}{v:Value},sh x=sh y→d7 h x v→d7 h y v→x=y
 | .int i,.int j,v,_,hx,hy=>by
  rw[d7] at hx hy
  obtain⟨t,rfl⟩:=hx
  obtain⟨t',e⟩:=hy
  injection e with e _
  rw[e]
 | .bl i,.bl j,v,_,hx,hy=>by
  rw[d7] at hx hy
  subst hx
  injection hy with e
  rw[e]
 | .tup ds,.tup es,v,hs,hx,hy=>by
  rw[d7] at hx hy
  obtain⟨a,o,items,n,rfl,h1,h2,h3,l1⟩:=hx
  obtain⟨a',o',items',n',e,h1',h2',h3',l2⟩:=hy
  cases e
  rw[h1] at h1'
  cases h1'
  rw[h3] at h3'
  cases h3'
  rw[sh,sh] at hs
  injection hs with hs
  rw[cG.inj hs l1 l2]
 | .non,_,_,_,hx,_=>by rw[d7] at hx;exact hx.elim
 | .str _,_,_,_,hx,_=>by rw[d7] at hx;exact hx.elim
 | .int _,.bl _,_,hs,_,_=>by rw[sh,sh] at hs;cases hs
 | .int _,.tup _,_,hs,_,_=>by rw[sh,sh] at hs;cases hs
 | .int _,.non,_,_,_,hy=>by rw[d7] at hy;exact hy.elim
 | .int _,.str _,_,_,_,hy=>by rw[d7] at hy;exact hy.elim
 | .bl _,.int _,_,hs,_,_=>by rw[sh,sh] at hs;cases hs
 | .bl _,.tup _,_,hs,_,_=>by rw[sh,sh] at hs;cases hs
 | .bl _,.non,_,_,_,hy=>by rw[d7] at hy;exact hy.elim
 | .bl _,.str _,_,_,_,hy=>by rw[d7] at hy;exact hy.elim
 | .tup _,.int _,_,hs,_,_=>by rw[sh,sh] at hs;cases hs
 | .tup _,.bl _,_,hs,_,_=>by rw[sh,sh] at hs;cases hs
 | .tup _,.non,_,_,_,hy=>by rw[d7] at hy;exact hy.elim
 | .tup _,.str _,_,_,_,hy=>by rw[d7] at hy;exact hy.elim
theorem cG.inj {h:Heap}:∀ {x y:List D}{vs:List Value},shL x=shL y→cG h x vs→cG h y vs→x=y
 | [],[],_,_,_,_=>rfl
 | [],_::_,_,hs,_,_=>by rw[shL,shL] at hs;cases hs
 | _::_,[],_,hs,_,_=>by rw[shL,shL] at hs;cases hs
 | x::xs,y::ys,vs,hs,hx,hy=>by
  rw[cG] at hx hy
  obtain⟨v,r,rfl,h1,l1⟩:=hx
  obtain⟨v',r',e,h2,l2⟩:=hy
  cases e
  rw[shL,shL] at hs
  injection hs with e1 e2
  rw[d7.inj e1 h1 h2,cG.inj e2 l1 l2]
end
mutual
theorem d7.keeps {h h':Heap} (k:∀ a o items n,h.get? a=some o→o.data=.seq items n→h'.get? a=some o):∀ {x:D}{v:Value},d7 h x v→d7 h' x v
 | .int i,v,hx=>by rw[d7] at hx ⊢;exact hx
 | .bl i,v,hx=>by rw[d7] at hx ⊢;exact hx
 | .tup ds,v,hx=>by
  rw[d7] at hx ⊢
  obtain⟨a,o,items,n,e,h1,h2,h3,l1⟩:=hx
  exact⟨a,o,items,n,e,k a o items n h1 h3,h2,h3,cG.keeps k l1⟩
 | .non,_,hx=>by rw[d7] at hx;exact hx.elim
 | .str _,_,hx=>by rw[d7] at hx;exact hx.elim
theorem cG.keeps {h h':Heap} (k:∀ a o items n,h.get? a=some o→o.data=.seq items n→h'.get? a=some o):∀ {x:List D}{vs:List Value},cG h x vs→cG h' x vs
 | [],_,hx=>by rw[cG] at hx ⊢;exact hx
 | x::xs,vs,hx=>by
  rw[cG] at hx ⊢
  obtain⟨v,r,e,h1,l1⟩:=hx
  exact⟨v,r,e,d7.keeps k h1,cG.keeps k l1⟩
end
theorem cG.length {h:Heap}:∀ {x:List D}{vs:List Value},cG h x vs→vs.length=x.length
 | [],_,hx=>by rw[cG] at hx;subst hx;rfl
 | x::xs,vs,hx=>by
  rw[cG] at hx
  obtain⟨v,r,rfl,_,l⟩:=hx
  rw[List.length_cons,List.length_cons,cG.length l]
theorem cG.get {h:Heap}:∀ {x:List D}{vs:List Value}{j:Nat}{d:D}{v:Value},cG h x vs→x[j]? = some d→vs[j]? = some v→d7 h d v
 | [],_,_,_,_,_,e,_=>by simp at e
 | d::ds,vs,0,d',v,hx,e1,e2=>by
  rw[cG] at hx
  obtain⟨v',r,rfl,h1,_⟩:=hx
  simp at e1 e2
  subst e1 e2
  exact h1
 | d::ds,vs,j+1,d',v,hx,e1,e2=>by
  rw[cG] at hx
  obtain⟨v',r,rfl,_,l⟩:=hx
  exact cG.get l (by simpa using e1) (by simpa using e2)
section
variable {prog:Program}{w:World}
theorem wpAny_pyHash_bool {A:Around}{E:Value→Shared→Prop}{s:Shared}{b:Bool}{Q:Int→Shared→Prop} (h:Q (hashInt (if b=true then 1 else 0)) { s with toks:=s.toks+1 }):wpAny (model prog w) A (pyHash (.bool b)) Q E s:=by
 have hT:s.TypeIs (.bool b) "bool" := rfl
 have hr:=rawHash_range (if b=true then 1 else 0)
 unfold pyHash;have hv:[Value.bool b].any Value.onHeap=false:=rfl
 refine wpAny_bind ?_;rw[cRoomFor,if_neg (by rw[hv];exact Bool.false_ne_true)];refine wpAny_pure (wpAny_bind (wpAny_specialOf hT F.slot_bool_hash.lookup ?_))
 show wpAny _ _ (if (some (Value.builtin "int.__hash__") == some Value.none)=true then _ else _) Q E s;rw[if_neg (by rw[beq_builtin_none];exact Bool.false_ne_true)]
 refine wpAny_bind (wpAny_specialOf hT F.slot_bool_hash.lookup ?_);show wpAny _ _ (callSpecialIfBoundUnlessNone? (.bool b) "__hash__" _ >>= _) Q E s
 refine wpAny_bind (wpAny_callSpecialIfBoundUnlessNone?_slot hT F.slot_bool_hash (wpAny_call_entry F.slot_bool_hash hT F.entry_int_hash (show wpAny _ _ (do ret (← mkInt (rawHash (if b=true then 1 else 0)))) _ _ s from wpAny_ret_mkInt ?_) (F.args_int_hash_1 _)))
 show wpAny _ _ (if (decide (-(2:Int) ^ 63≤rawHash (if b=true then 1 else 0)) && decide (rawHash (if b=true then 1 else 0) < 2 ^ 63))=true then _ else _) Q E _;rw[if_pos (by rw[decide_eq_true hr.1,decide_eq_true hr.2];rfl)]
 exact wpAny_pure h
theorem hashDL_append:∀ (a b:List D),cP (a++b)=cP a++cP b
 | [],b=>by rw[cP];rfl
 | d::a,b=>by rw[List.cons_append,cP,cP,hashDL_append a b];rfl
theorem drawsDL_append:∀ (a b:List D),cK (a++b)=cK a+cK b
 | [],b=>by rw[cK,List.nil_append,Nat.zero_add]
 | d::a,b=>by rw[List.cons_append,cK,cK,drawsDL_append a b,Nat.add_assoc]
theorem depth_mem:∀ (ds:List D) (d:D),d∈ds→d.depth≤cT ds:=by
 intro ds
 induction ds with
 | nil=>intro d h;cases h
 | cons e r ih=>
  intro d h
  rw[cT]
  rcases List.mem_cons.1 h with rfl | h
  ·omega
  ·have:=ih d h;omega
noncomputable def HashOk (prog:Program) (w:World) (d:D):Prop:=∀ (A:Around) (E:Value→Shared→Prop) (s:Shared) (v:Value) (Q:Int→Shared→Prop),A.units+d.depth < cLine→d7 s.heap d v→Q (hashD d) { s with toks:=s.toks+drawsD d }→wpAny (model prog w) A (pyHash v) Q E s
mutual
theorem hash_D:∀ (d:D),HashOk prog w d
 | .int i=>fun A E s v Q _ hx h=>by
  rw[d7] at hx
  obtain⟨t,rfl⟩:=hx
  rw[hashD,drawsD] at h
  ·exact wpAny_pyHash_int h
  ·intros;contradiction
 | .bl b=>fun A E s v Q _ hx h=>by
  rw[d7] at hx
  subst hx
  rw[hashD,drawsD] at h
  ·exact wpAny_pyHash_bool h
  ·intros;contradiction
 | .tup ds=>fun A E s v Q hu hx h=>by
  have all:=hash_DL ds
  rw[d7] at hx
  obtain⟨a,o,items,n,rfl,ho,hc,hd,hi⟩:=hx
  have hT:s.TypeIs (.ref a) "tuple" := ⟨o,ho,hc⟩
  have hdep:D.depth (.tup ds)=cT ds+1:=by rw[D.depth]
  rw[hdep] at hu
  rw[hashD,drawsD] at h
  unfold pyHash
  first | unfold pyHashByItsType | skip
  first | refine wpAny_bind (wpAny_cRoomFor_or (.inr (by omega)) ?_) | skip
  refine wpAny_bind (wpAny_specialOf hT F.slot_tuple_hash.lookup ?_);show wpAny _ _ (if (some (Value.builtin "tuple.__hash__") == some Value.none)=true then _ else _) Q E s
  rw[if_neg (by rw[beq_builtin_none];exact Bool.false_ne_true)];refine wpAny_bind (wpAny_specialOf hT F.slot_tuple_hash.lookup ?_)
  show wpAny _ _ (callSpecialIfBoundUnlessNone? (.ref a) "__hash__" _ >>= _) Q E s;refine wpAny_bind (wpAny_callSpecialIfBoundUnlessNone?_slot hT F.slot_tuple_hash (wpAny_call_entry F.slot_tuple_hash hT F.entry_tuple_hash ?_ (F.args_tuple_hash_1 _)))
  show wpAny _ _ (Builtin.Tuple.tupleItemsOf (.ref a) >>= _) _ _ s;refine wpAny_bind (wpAny_tupleItemsOf ho hd (wpAny_bind ?_))
  rw[← Array.forIn_toList]
  refine wpAny_forIn_list _ (fun rest (b:Array Int) s'=>∃ done left,ds=done++left∧cG s.heap left rest∧b.toList=cP done∧s'={ s with toks:=s.toks+cK done }) _ ?_ ?_ _ _ ⟨[],ds,rfl,hi,by rw[cP],by rw[cK];rfl⟩
  ·rintro x rest b s' ⟨done,left,rfl,hl,hb,rfl⟩
   cases left with
   | nil=>rw[cG] at hl;cases hl
   | cons k ks'=>
    rw[cG] at hl
    obtain⟨v',r',e,h1,l1⟩:=hl
    cases e
    have hk:=all k (by simp)
    have hdk:=depth_mem (done++k::ks') k (by simp)
    have fin:∃ done' left',done++k::ks'=done'++left'∧cG s.heap left' rest∧(b.push (hashD k)).toList=cP done'∧({ s with toks:=s.toks+cK done+drawsD k }:Shared)={ s with toks:=s.toks+cK done' }:=
     ⟨done++[k],ks',by simp,l1,by rw[Array.toList_push,hb,hashDL_append,cP,cP],by rw[drawsDL_append,cK,cK,Nat.add_zero,Nat.add_assoc]⟩
    refine wpAny_bind (hk _ _ _ _ _ ?_ h1 ?_)
    ·have hin:A.in1.units=A.units+1:=rfl
     omega
    ·first
      | exact wpAny_pure fin
      | exact wpAny_bind (wpAny_pure (wpAny_pure fin))
  ·rintro b s' ⟨done,left,rfl,hl,hb,rfl⟩
   cases left with
   | cons k ks'=>rw[cG] at hl;obtain⟨_,_,e,_⟩:=hl;cases e
   | nil=>
    rw[List.append_nil] at h
    show wpAny _ _ (retInt (Builtin.Tuple.tupleHashOf b.toList)) _ _ _;rw[hb];refine wpAny_ret_mkInt ?_
    show wpAny _ _ (if (decide (-(2:Int) ^ 63≤Builtin.Tuple.tupleHashOf (cP done)) && decide (Builtin.Tuple.tupleHashOf (cP done) < 2 ^ 63))=true then _ else _) Q E _
    unfold reduceHash at h
    by_cases hr:(decide (-(2:Int) ^ 63≤Builtin.Tuple.tupleHashOf (cP done)) && decide (Builtin.Tuple.tupleHashOf (cP done) < 2 ^ 63))=true
    ·rw[if_pos hr] at h ⊢;exact wpAny_pure (by simpa [Nat.add_assoc] using h)
    ·rw[if_neg hr] at h ⊢;exact wpAny_bind (wpAny_rule (wpAny_pure (by simpa [Nat.add_assoc] using h)))
 | .non=>fun _ _ _ _ _ _ hx _=>by rw[d7] at hx;exact hx.elim
 | .str _=>fun _ _ _ _ _ _ hx _=>by rw[d7] at hx;exact hx.elim
theorem hash_DL:∀ (ds:List D),∀ d∈ds,HashOk prog w d
 | [],_,h=>(nomatch h)
 | e::es,d,h=>by
  have h0:=hash_D e
  have h1:=hash_DL es
  rcases List.mem_cons.1 h with z | z
  ·rw[z];exact h0
  ·exact h1 d z
end
end
noncomputable instance decD:DecidableEq D:=fun a b=>Classical.propDecidable (a=b)
mutual
theorem depth_sh:∀ (d:D),(sh d).depth=d.depth
 | .int _=>by rw[sh,D.depth,D.depth] <;> (intros;contradiction)
 | .bl _=>by rw[sh,D.depth,D.depth] <;> (intros;contradiction)
 | .tup ds=>by rw[sh,D.depth,D.depth,depth_shL ds]
 | .non=>by rw[sh] <;> (intros;contradiction)
 | .str _=>by rw[sh] <;> (intros;contradiction)
theorem depth_shL:∀ (ds:List D),cT (shL ds)=cT ds
 | []=>by rw[shL]
 | d::ds=>by rw[shL,cT,cT,depth_sh d,depth_shL ds]
end
theorem shL_len:∀ (ds:List D),(shL ds).length=ds.length
 | []=>by rw[shL]
 | d::ds=>by rw[shL,List.length_cons,List.length_cons,shL_len ds]
noncomputable def EqOk (x y:D):Prop:=∀ (A:Around) (s:Shared) (u v:Value),A.units+x.depth < cLine→d7 s.heap x u→d7 s.heap y v→SeqAt.EqAt A s u v (decide (x=y))
mutual
theorem eq_D:∀ (x y:D),sh x=sh y→EqOk x y
 | .int i,.int j,_=>fun A s u v _ hx hy=>by
  rw[d7] at hx hy
  obtain⟨t,rfl⟩:=hx
  obtain⟨t',rfl⟩:=hy
  have:=SeqAt.EqAt.int_int (A:=A) (s:=s) i t j t'
  have e:decide (D.int i=D.int j)=(i == j):=by
   rw[Bool.eq_iff_iff,decide_eq_true_eq,beq_iff_eq,D.int.injEq]
  rw[e];exact this
 | .bl i,.bl j,_=>fun A s u v _ hx hy=>by
  rw[d7] at hx hy
  subst hx hy
  have:=SeqAt.EqAt.bool_bool (A:=A) (s:=s) i j
  have e:decide (D.bl i=D.bl j)=(i == j):=by
   rw[Bool.eq_iff_iff,decide_eq_true_eq,beq_iff_eq,D.bl.injEq]
  rw[e];exact this
 | .tup ds,.tup es,hs=>fun A s u v hu hx hy=>by
  rw[sh,sh] at hs
  injection hs with hs
  have all:=eq_DL ds es hs
  have hl:ds.length=es.length:=by rw[← shL_len ds,hs,shL_len]
  have hinj:=fun (a:Value) (h1:d7 s.heap (.tup ds) a) (h2:d7 s.heap (.tup es) a)=>d7.inj (by rw[sh,sh,hs]) h1 h2
  have hx0:=hx
  have hy0:=hy
  rw[d7] at hx hy
  obtain⟨a,o,items,n,rfl,h1,h2,h3,l1⟩:=hx
  obtain⟨b,o',items',n',rfl,h1',h2',h3',l2⟩:=hy
  by_cases hab:a=b
  ·subst hab
   rw[decide_eq_true (hinj _ hx0 hy0)]
   exact SeqAt.EqAt.same _
  ·have hdep:D.depth (.tup ds)=cT ds+1:=by rw[D.depth]
   rw[hdep] at hu
   have hin:A.in1.units=A.units+1:=rfl
   have k1:=l1.length
   have k2:=l2.length
   have z1:items.size=ds.length:=by rw[← k1];simp
   have z2:items'.size=es.length:=by rw[← k2];simp
   have:=SeqAt.RcAt.tuples (A:=A) (s:=s) (e:=fun j=>match ds[j]?,es[j]? with | some x,some y=>decide (x=y) | _,_=>true) (show s.heap.IsTuple a items from ⟨o,h1,h2,n,h3⟩) (show s.heap.IsTuple b items' from ⟨o',h1',h2',n',h3'⟩) (by omega) fun j j1 j2=>by
    have i1:j < ds.length:=by omega
    have i2:j < es.length:=by omega
    rw[List.getElem?_eq_getElem i1,List.getElem?_eq_getElem i2]
    have hd:=depth_mem ds ds[j] (List.getElem_mem i1)
    exact all j ds[j] es[j] (by simp) (by simp) A.in1 s items[j] items'[j] (by omega) (cG.get (j:=j) l1 (by simp) (by simp)) (cG.get (j:=j) l2 (by simp) (by simp))
   have e5:((List.range (min items.size items'.size)).all (fun j=>match ds[j]?,es[j]? with | some x,some y=>decide (x=y) | _,_=>true) && items.size == items'.size)=decide (D.tup ds=D.tup es):=by
    have e0:(items.size == items'.size)=true:=by rw[beq_iff_eq];omega
    rw[e0,Bool.and_true,Bool.eq_iff_iff,decide_eq_true_eq,List.all_eq_true,D.tup.injEq]
    constructor
    ·intro h
     apply List.ext_getElem hl
     intro j j1 j2
     have:=h j (List.mem_range.mpr (by omega))
     rw[List.getElem?_eq_getElem j1,List.getElem?_eq_getElem j2] at this
     exact of_decide_eq_true this
    ·rintro rfl j hj
     cases ds[j]? with
     | none=>rfl
     | some x=>exact decide_eq_true rfl
   rw[e5] at this
   exact SeqAt.EqAt.of_refs hab this
 | .non,_,_=>fun _ _ _ _ _ hx _=>by rw[d7] at hx;exact hx.elim
 | .str _,_,_=>fun _ _ _ _ _ hx _=>by rw[d7] at hx;exact hx.elim
 | .int _,.bl _,hs=>by rw[sh,sh] at hs;cases hs
 | .int _,.tup _,hs=>by rw[sh,sh] at hs;cases hs
 | .int _,.non,_=>fun _ _ _ _ _ _ hy=>by rw[d7] at hy;exact hy.elim
 | .int _,.str _,_=>fun _ _ _ _ _ _ hy=>by rw[d7] at hy;exact hy.elim
 | .bl _,.int _,hs=>by rw[sh,sh] at hs;cases hs
 | .bl _,.tup _,hs=>by rw[sh,sh] at hs;cases hs
 | .bl _,.non,_=>fun _ _ _ _ _ _ hy=>by rw[d7] at hy;exact hy.elim
 | .bl _,.str _,_=>fun _ _ _ _ _ _ hy=>by rw[d7] at hy;exact hy.elim
 | .tup _,.int _,hs=>by rw[sh,sh] at hs;cases hs
 | .tup _,.bl _,hs=>by rw[sh,sh] at hs;cases hs
 | .tup _,.non,_=>fun _ _ _ _ _ _ hy=>by rw[d7] at hy;exact hy.elim
 | .tup _,.str _,_=>fun _ _ _ _ _ _ hy=>by rw[d7] at hy;exact hy.elim
theorem eq_DL:∀ (ds es:List D),shL ds=shL es→∀ (j:Nat) (x y:D),ds[j]? = some x→es[j]? = some y→EqOk x y
 | [],_,_,j,x,y,h,_=>by simp at h
 | _::_,[],_,j,x,y,_,h=>by simp at h
 | d::ds,e::es,hs,j,x,y,h1,h2=>by
  rw[shL,shL] at hs
  injection hs with s1 s2
  have k0:=eq_D d e s1
  have k1:=eq_DL ds es s2
  cases j with
  | zero=>simp at h1 h2;rw[← h1,← h2];exact k0
  | succ j=>exact k1 j x y (by simpa using h1) (by simpa using h2)
end
noncomputable def QuietOk (prog:Program) (w:World) (d:D):Prop:=∀ (n:Nat) (A:Around) (E:Value→Shared→Prop) (s:Shared) (v:Value) (Q:Bool→Shared→Prop),d.depth≤n→d7 s.heap d v→Q true s→wpAny (model prog w) A (eqIsQuiet n v) Q E s
section
variable {prog:Program}{w:World}
mutual
theorem quiet_D:∀ (d:D),QuietOk prog w d
 | .int i=>fun n A E s v Q _ hx h=>by
  rw[d7] at hx
  obtain⟨t,rfl⟩:=hx
  rw[eqIsQuiet_byValue n (v:=.int i t) rfl]
  exact wpAny_pure h
 | .bl b=>fun n A E s v Q _ hx h=>by
  rw[d7] at hx
  subst hx
  rw[eqIsQuiet_byValue n (v:=.bool b) rfl]
  exact wpAny_pure h
 | .tup ds=>fun n A E s v Q hn hx h=>by
  have all:=quiet_DL ds
  have hdep:D.depth (.tup ds)=cT ds+1:=by rw[D.depth]
  rw[hdep] at hn
  rw[d7] at hx
  obtain⟨a,o,items,m,rfl,ho,hc,hd,hi⟩:=hx
  have hT:s.TypeIs (.ref a) "tuple" := ⟨o,ho,hc⟩
  obtain⟨n',rfl⟩:∃ n',n=n'+1:=⟨n - 1,by omega⟩
  unfold eqIsQuiet
  refine wpAny_bind (wpAny_specialOf hT F.slot_tuple_eq.lookup ?_);show wpAny _ _ (isInstance (.ref a) (.type "tuple") >>= _) _ _ s
  refine wpAny_bind (wpAny_isInstance hT isSubtype_tuple_tuple ?_);simp only [Bool.not_true,Bool.false_eq_true,if_false]
  refine wpAny_bind (wpAny_seqItems ho hd (wpAny_bind ?_));show wpAny _ _ (forIn items _ _) _ _ s
  rw[← Array.forIn_toList]
  refine wpAny_forIn_list _ (fun rest r s'=>r.1=none∧s'=s∧∃ left,cG s.heap left rest∧∀ d∈left,d∈ds) _ ?_ ?_ _ _ ⟨rfl,rfl,ds,hi,fun _ z=>z⟩
  ·rintro v rest r s' ⟨hr,rfl,left,hl,hsub⟩
   cases left with
   | nil=>rw[cG] at hl;cases hl
   | cons k ks=>
    rw[cG] at hl
    obtain⟨v',r',e,h1,l1⟩:=hl
    cases e
    have hk:=hsub k (by simp)
    refine wpAny_bind (all k hk n' _ _ _ _ _ (by have:=depth_mem ds k hk;omega) h1 ?_)
    simp only [Bool.not_true,Bool.false_eq_true,if_false]
    exact wpAny_pure ⟨rfl,rfl,ks,l1,fun d hd=>hsub d (List.mem_cons_of_mem _ hd)⟩
  ·rintro⟨r1,r2⟩ s' ⟨hr,rfl,_⟩
   simp only at hr
   subst hr
   exact wpAny_pure h
 | .non=>fun _ _ _ _ _ _ _ hx _=>by rw[d7] at hx;exact hx.elim
 | .str _=>fun _ _ _ _ _ _ _ hx _=>by rw[d7] at hx;exact hx.elim
theorem quiet_DL:∀ (ds:List D),∀ d∈ds,QuietOk prog w d
 | [],_,h=>(nomatch h)
 | e::es,d,h=>by
  have h0:=quiet_D e
  have h1:=quiet_DL es
  rcases List.mem_cons.1 h with z | z
  ·rw[z];exact h0
  ·exact h1 d z
end
noncomputable def shapeKind (prog:Program) (w:World) (S:D):HeapKind prog w D where
 is:=fun h d a=>sh d=S∧d.depth≤7∧d7 h d (.ref a)
 hash:=hashD
 draws:=drawsD
 room:=fun A=>A.units+8 < cLine
 inj:=fun hx hy=>d7.inj (hx.1.trans hy.1.symm) hx.2.2 hy.2.2
 keeps:=fun {h h' k a d o es ep} x ho hd hs=>⟨x.1,x.2.1,d7.keeps (fun a' o' items n h1 h3=>by
  by_cases e:a'=d
  ·subst e
   rw[ho] at h1
   cases h1
   rw[hd] at h3
   cases h3
  ·exact (hs.2 a' e).trans h1) x.2.2⟩
 pyHash:=fun {A E s k a Q} hu hk h=>hash_D k A E s _ Q (by have:=hk.2.1;omega) hk.2.2 h
 eqBool:=fun {A E s x y a b Q} hu hx hy h=>eq_D x y (hx.1.trans hy.1.symm) A s _ _ (by have:=hx.2.1;omega) hx.2.2 hy.2.2 prog w E Q h
 quiet:=fun {A E s k a Q} hk h=>quiet_D k 8 A E s _ Q (by have:=hk.2.1;omega) hk.2.2 h
end
end L2
namespace L2
open PySem PySem.Spec PyProof.Rows TwZ
mutual
noncomputable def dF:D→Prop
 | .int _=>True
 | .bl _=>True
 | .tup ds=>cL ds
 | .non=>False
 | .str _=>False
noncomputable def cL:List D→Prop
 | []=>True
 | d::ds=>dF d∧cL ds
end
section
variable {X:Cx}{pins:List (Addr×Obj)}{σ:St}{H:Hp}{s:Shared}
mutual
theorem Is.toU (I:Inv X pins σ H s):∀ (d:D) (v:V) (u:Value),dF d→Is X.K H d v→aY v u→d7 s.heap d u
 | .int i,v,u,_,h,r=>by rw[Is] at h;subst h;rw[d7];exact r
 | .bl b,v,u,_,h,r=>by rw[Is] at h;subst h;rw[d7];exact r
 | .tup ds,v,u,p,h,r=>by
  rw[Is] at h
  obtain⟨a,xs,rfl,q,l⟩:=h
  cases r
  obtain⟨its,rv,⟨o,e,c,n,d⟩,_⟩:=I.tuple q
  rw[d7]
  exact⟨a,o,its.toArray,n,rfl,e,c,d,by simpa using IsL.toU I ds xs its (by rw[dF] at p;exact p) l rv⟩
 | .non,_,_,p,_,_=>by rw[dF] at p;exact p.elim
 | .str _,_,_,p,_,_=>by rw[dF] at p;exact p.elim
theorem IsL.toU (I:Inv X pins σ H s):∀ (ds:List D) (vs:List V) (us:List Value),cL ds→IsL X.K H ds vs→b0 vs us→cG s.heap ds us
 | [],vs,us,_,h,r=>by rw[IsL] at h;subst h;cases r;rw[cG]
 | d::ds,vs,us,p,h,r=>by
  rw[IsL] at h
  obtain⟨x,xs,rfl,h1,h2⟩:=h
  rw[cL] at p
  cases r with
  | cons r1 r2=>
   rw[cG]
   exact⟨_,_,rfl,Is.toU I d x _ p.1 h1 r1,IsL.toU I ds xs _ p.2 h2 r2⟩
end
end
structure KeyD (K:PySem.W.Frag) (H:Hp) (S:D) (k:D) (v:V):Prop where
 sh:sh k=S
 dp:k.depth≤7
 pl:dF k
 is:Is K H k v
 tup:∃ b,v=.ref b
theorem KeyD.mono {K:PySem.W.Frag}{H H':Hp}{S k:D}{v:V} (h:KeyD K H S k v) (t:bW K H H'):KeyD K H' S k v:=⟨h.sh,h.dp,h.pl,Is.mono t _ _ h.is,h.tup⟩
noncomputable def dictF (P:Program) (w:World) (S:D) (a:Addr) (xs:List (D×Addr×Value)) (h:Heap):Prop:=
 ∃ o es ep,h.get? a=some o∧o.ExactDict∧o.data=.dict es ep∧es.toList=xs.map (entryOfKey (shapeKind P w S))∧(xs.map (·.1)).Nodup
noncomputable abbrev KD (K:PySem.W.Frag) (H:Hp) (S:D):List (D×V)→List (D×Addr×Value)→Prop:=Paired fun p q=>p.1=q.1∧KeyD K H S p.1 (.ref q.2.1)∧aY p.2 q.2.2
noncomputable def DictD (P:Program) (w:World) (K:PySem.W.Frag) (H:Hp) (a:Addr) (S:D) (kvs:List (D×V)):Prop:=
 (H a=some (.dK [])∧kvs=[])∨∃ xs,H a=some (.ext (dictF P w S a xs))∧(a == sysModules)=false∧kvs.length≤sizeLine∧KD K H S kvs xs
section
variable {P:Program}{w:World}{K:PySem.W.Frag}{H H':Hp}{a:Addr}{S:D}{kvs:List (D×V)}
theorem KD.mono {xs:List (D×Addr×Value)} (h:KD K H S kvs xs) (t:bW K H H'):KD K H' S kvs xs:=Paired.mapP h fun p q z=>⟨z.1,z.2.1.mono t,z.2.2⟩
theorem DictD.mono (h:DictD P w K H a S kvs) (t:bW K H H') (e:∀ o,H a=some o→H' a=some o):DictD P w K H' a S kvs:=by
 rcases h with ⟨h,z⟩ | ⟨xs,h,y,z,p⟩
 ·exact .inl ⟨e _ h,z⟩
 ·exact .inr ⟨xs,e _ h,y,z,KD.mono p t⟩
theorem DictD.same (h:DictD P w K H a S kvs) (m:aG H H'):DictD P w K H' a S kvs:=h.mono m.ts fun o e=>m _ _ e
theorem DictD.mut (h:DictD P w K H a S kvs):Mut (H a):=by
 rcases h with ⟨h,_⟩ | ⟨_,h,_⟩ <;> (rw[h];exact trivial)
theorem DictD.new (h:H a=Option.some (.dK [])):DictD P w K H a S []:=.inl ⟨h,rfl⟩
theorem KD.val {xs:List (D×Addr×Value)} (k:D):∀ {kvs:List (D×V)},KD K H S kvs xs→RelO (valV kvs k) ((atKey xs k).map (·.2))
 | [],h=>by cases h;exact trivial
 | p::r,h=>by
  cases h with
  | cons h1 h2=>
   rename_i q m
   by_cases e:p.1=k
   ·rw[cU e]
    have:atKey (q::m) k=Option.some q.2:=by unfold atKey;rw[List.find?_cons_of_pos (by rw[← h1.1];exact decide_eq_true e)];rfl
    rw[this];exact h1.2.2
   ·rw[cV e]
    have:atKey (q::m) k=atKey m k:=by unfold atKey;rw[List.find?_cons_of_neg (by rw[← h1.1];simpa using e)]
    rw[this];exact KD.val k h2
theorem KD.put {xs:List (D×Addr×Value)}{k:D}{v:V}{b:Addr}{u:Value} (h:KD K H S kvs xs) (hk:KeyD K H S k (.ref b)) (r:aY v u):KD K H S (putK kvs k v) (storedH xs k b u):=by
 unfold putK storedH
 have e:(kvs.any fun kv=>decide (kv.1=k))=(atKey xs k).isSome:=by
  rw[valV_any,(KD.val k h).isSome_eq,Option.isSome_map]
 rw[e]
 by_cases c:(atKey xs k).isSome=true
 ·rw[if_pos c,if_pos c]
  clear e c
  induction h with
  | nil=>exact .nil
  | cons h1 h2 ih=>
   rename_i p q l m
   refine .cons ?_ ih
   unfold putAt
   dsimp only
   by_cases z:p.1=k
   ·rw[if_pos z,if_pos (by rw[← h1.1];exact z)];exact⟨h1.1,h1.2.1,r⟩
   ·rw[if_neg z,if_neg (by rw[← h1.1];exact z)];exact h1
 ·rw[if_neg c,if_neg c]
  clear e c
  induction h with
  | nil=>exact .cons ⟨rfl,hk,r⟩ .nil
  | cons h1 h2 ih=>exact .cons h1 ih
end
section
variable {X:Cx}{pins:List (Addr×Obj)}{σ:St}{H:Hp}{s:Shared}{a:Addr}{S:D}{kvs:List (D×V)}
theorem KD.keys (I:Inv X pins σ H s):∀ {kvs:List (D×V)}{xs:List (D×Addr×Value)},KD X.K H S kvs xs→∀ x∈xs,(shapeKind X.prog X.w S).is s.heap x.1 x.2.1
 | _,_,.nil,x,hx=>by simp at hx
 | _,_,.cons h1 h2,x,hx=>by
  rcases List.mem_cons.mp hx with e | hx
  ·subst e
   have k:=h1.2.1
   rw[h1.1] at k
   exact⟨k.sh,k.dp,Is.toU I _ _ _ k.pl k.is rfl⟩
  ·exact KD.keys I h2 x hx
theorem DictD.at (I:Inv X pins σ H s) (g:DictD X.prog X.w X.K H a S kvs):(a == sysModules)=false∧kvs.length≤sizeLine∧∃ xs,KD X.K H S kvs xs∧s.heap.DictOfH (shapeKind X.prog X.w S) a xs:=by
 rcases g with ⟨e,rfl⟩ | ⟨xs,e,y,z,p⟩
 ·obtain⟨z,hd,vs,rel,o,es,ep,h1,h2,h3,_,h4,_⟩:=dk_of I.hok e
  cases rel
  have e0:es.toList=[]:=by
   revert h4
   generalize es.toList=l
   intro h4
   cases h4
   rfl
  exact⟨hd,Nat.zero_le _,[],.nil,o,es,ep,h1,h2,h3,by rw[e0];rfl,fun x hx=>(nomatch hx),List.nodup_nil⟩
 ·obtain⟨⟨o,es,ep,h1,h2,h3,h4,h5⟩,_⟩:=(show cB X.prog X.w H s.heap a (.ext (dictF X.prog X.w S a xs)) from I.hok a _ e)
  exact⟨y,z,xs,p,o,es,ep,h1,h2,h3,h4,KD.keys I p,h5⟩
theorem KeyD.at (I:Inv X pins σ H s) {k:D}{b:Addr} (h:KeyD X.K H S k (.ref b)):(shapeKind X.prog X.w S).is s.heap k b:=⟨h.sh,h.dp,Is.toU I _ _ _ h.pl h.is rfl⟩
noncomputable def rInD (P:Program) (w:World) (K:PySem.W.Frag):R2:=fun x y H Q=>∃ a S kvs k,y=.ref a∧DictD P w K H a S kvs∧KeyD K H S k x∧Q (.bl (valV kvs k).isSome) H
theorem op_inD (hu:X.A.units+64 < cLine):OpR X (compareOp .In) (rInD X.prog X.w X.K):=by
 intro pins s σ H x y v u Q I rx ry h
 obtain⟨a,S,kvs,k,rfl,g,hk,q⟩:=h
 obtain⟨b,rfl⟩:=hk.tup
 cases rx
 cases ry
 obtain⟨hd,hz,xs,p,dd⟩:=g.at I
 refine wpAny_in_heap (knd:=shapeKind X.prog X.w S) (show X.A.in1.units+8 < cLine by show X.A.units+1+8 < cLine;omega) (hk.at I) hd dd ?_
 have e:=(KD.val k p).isSome_eq
 rw[Option.isSome_map] at e
 rw[← e]
 exact⟨.bl _,H,I.tok _,rfl,q⟩
noncomputable def rIxD (P:Program) (w:World) (K:PySem.W.Frag):R2:=fun x y H Q=>∃ a S kvs k v,x=.ref a∧DictD P w K H a S kvs∧KeyD K H S k y∧valV kvs k=some v∧Q v H
theorem ix_D (hu:X.A.units+64 < cLine):IxR X (rIxD X.prog X.w X.K):=by
 intro value slice pins s σ H x y v u Q I rx ry h hs
 obtain⟨a,S,kvs,k,z,rfl,g,hk,hv,q⟩:=h
 obtain⟨b,rfl⟩:=hk.tup
 cases rx
 cases ry
 obtain⟨hd,hz,xs,p,dd⟩:=g.at I
 obtain⟨w',hw,rw'⟩:=RelO.some_of (v:=z) (o:=(atKey xs k).map (·.2)) (by rw[← hv];exact KD.val k p)
 obtain⟨pp,hp,hp2⟩:=Option.map_eq_some_iff.mp hw
 refine subscriptTail_builtinR (x:=w') dd.typeIs PySem.F.slot_dict_getitem.lookup
  (wpAny_getItem_heap (knd:=shapeKind X.prog X.w S) (Q:=fun r s'=>r=w'∧EP X pins σ Q r s') (show X.A.in1.units+8 < cLine by show X.A.units+1+8 < cLine;omega) (hk.at I) dd hp ⟨hp2,?_⟩) hs
 rw[hp2]
 exact⟨z,H,I.tok _,rw',q⟩
noncomputable def sDPutD (P:Program) (w:World) (K:PySem.W.Frag) (td ty tv:TE):TS:=fun D σ H=>tv σ H fun v H1=>td σ H1 fun x H2=>ty σ H2 fun y H3=>∃ a S kvs k,x=.ref a∧DictD P w K H3 a S kvs∧KeyD K H3 S k y∧kvs.length < sizeLine∧
 ∀ H4,But a H3 H4→DictD P w K H4 a S (putK kvs k v)→D.nx σ H4
theorem ps_dputD {o i value:Expr}{pos pos':Pos}{td ty tv:TE} (hu:X.A.units+64 < cLine) (ho:PE X o td) (hi:PE X i ty) (hv:PE X value tv) (hs:swapsWith value (some (.Subscript o i pos')) pos.line X.env=pure false) :
  PS X (.Assign [.Subscript o i pos'] value pos) (sDPutD X.prog X.w X.K td ty tv):=by
 intro pins s σ H D I h
 refine wpAny_Assign_Subscript (cM (hv pins s σ H _ I h) fun r s1 ⟨v,H1,I1,rv,q1⟩=>cM (ho pins s1 σ H1 _ I1 q1) fun u s2 ⟨x,H2,I2,rx,q2⟩=>cM (hi pins s2 σ H2 _ I2 q2) fun iv s3 ⟨y,H3,I3,ry,a,S,kvs,k,ex,g,hk,hl,q3⟩=>?_) hs
 subst ex
 obtain rfl:u=Value.ref a:=rx
 obtain⟨b,rfl⟩:=hk.tup
 cases ry
 obtain⟨hd,hz,xs,p,dd⟩:=g.at I3
 have hz':xs.length≤sizeLine:=by rw[← Paired.length p];exact hz
 have hlp:(putK kvs k v).length≤sizeLine:=by have:=length_putK kvs k v;omega
 refine wpAny_setItem_heap (knd:=shapeKind X.prog X.w S) (hsz:=hz') (show X.A.in1.units+8 < cLine by show X.A.units+1+8 < cLine;omega) (hk.at I3) dd fun h' dd' hsb=>?_
 obtain⟨qo,es,ep,hq,h2,h3,h4,_,h5⟩:=dd'
 have mu:=g.mut
 have bt:But a H3 (upd H3 a (.ext (dictF X.prog X.w S a (storedH xs k b r)))):=But.upd
 have ts:=bt.ts (K:=X.K) mu
 refine⟨σ,_,d_write I3 mu hsb ⟨qo,hq⟩ (ob:=.ext (dictF X.prog X.w S a (storedH xs k b r))) ⟨⟨qo,es,ep,hq,h2,h3,h4,h5⟩,⟨qo,hq⟩,fun h1 h2' ⟨o',es',ep',z1,z⟩ kk=>⟨o',es',ep',kk _ z1,z⟩⟩,q3 _ bt (.inr ⟨_,aC,hd,hlp,KD.mono (KD.put p hk rv) ts⟩)⟩
theorem op_inDK {P:Program}{w:World}{K:PySem.W.Frag} (hP:X.prog=P) (hw:X.w=w) (hK:X.K=K) (hu:X.A.units+64 < cLine):OpR X (compareOp .In) (rInD P w K):=by subst hP hw hK;exact op_inD hu
theorem ix_DK {P:Program}{w:World}{K:PySem.W.Frag} (hP:X.prog=P) (hw:X.w=w) (hK:X.K=K) (hu:X.A.units+64 < cLine):IxR X (rIxD P w K):=by subst hP hw hK;exact ix_D hu
theorem ps_dputDK {P:Program}{w:World}{K:PySem.W.Frag}{o i value:Expr}{pos pos':Pos}{td ty tv:TE} (hP:X.prog=P) (hw:X.w=w) (hK:X.K=K) (hu:X.A.units+64 < cLine) (ho:PE X o td) (hi:PE X i ty) (hv:PE X value tv)
  (hs:swapsWith value (some (.Subscript o i pos')) pos.line X.env=pure false):PS X (.Assign [.Subscript o i pos'] value pos) (sDPutD P w K td ty tv):=by subst hP hw hK;exact ps_dputD hu ho hi hv hs
end
end L2
namespace Tw
open PySem L2
structure Sta where
 held:List Int
 coming:List Int
 doors:List Bool
noncomputable def sta0 (net:Net):Sta:=⟨bI net.vs.length,bI net.vs.length,net.sps.map (·.2.2)⟩
noncomputable def Sta.tk (net:Net) (s:Sta):Tick:=cN net s.held s.coming (bI net.vs.length) s.doors
noncomputable def Sta.next (net:Net) (s:Sta):Sta:=⟨(s.tk net).held,(s.tk net).coming,(s.tk net).doors⟩
noncomputable def cO (net:Net):Nat→Sta
 | 0=>sta0 net
 | t+1=>(cO net t).next net
noncomputable def staD (s:Sta):L2.D:=stD s.held s.coming s.doors
noncomputable def seenN (net:Net):Nat→List (L2.D×V)
 | 0=>[]
 | t+1=>putK (seenN net t) (staD (cO net t)) (.int (t:Int))
noncomputable def repAt (net:Net) (t:Nat):Option V:=valV (seenN net t) (staD (cO net t))
noncomputable def Rep (net:Net) (t:Nat) (j:Int):Prop:=t≤2000∧repAt net t=some (.int j)∧∀ i,i < t→repAt net i=none
noncomputable def Long (net:Net):Prop:=∀ i,i≤2000→repAt net i=none
theorem seen_len (net:Net):∀ t,(seenN net t).length≤t
 | 0=>Nat.le_refl _
 | t+1=>by
  have h1:=length_putK (seenN net t) (staD (cO net t)) (.int (t:Int))
  have h2:=seen_len net t
  show (putK _ _ _).length≤_
  omega
theorem seen_int (net:Net) (k:L2.D) (v:V):∀ t,valV (seenN net t) k=some v→∃ j,v=.int j
 | 0,h=>by cases h
 | t+1,h=>by
  rw[show seenN net (t+1)=putK (seenN net t) (staD (cO net t)) (.int (t:Int)) from rfl,valV_put] at h
  by_cases e:k=staD (cO net t)
  ·rw[if_pos e] at h;cases h;exact⟨_,rfl⟩
  ·rw[if_neg e] at h;exact seen_int net k v t h
theorem zeros_l (n:Nat):(bI n).length=n:=by simp [bI]
theorem sta_ok {net:Net} (nok:NetOk net):∀ t,StOk net (cO net t).held (cO net t).coming (cO net t).doors
 | 0=>⟨zeros_l _,zeros_l _,by show (net.sps.map _).length=_;rw[List.length_map]⟩
 | t+1=>by
  have ih:=sta_ok nok t
  have hs:(aN net (cO net t).held (cO net t).coming (bI net.vs.length) (cO net t).doors).length=net.vs.length:=by
   unfold aN;rw[fillL_len,add3_len ih.h ih.c (zeros_l _)]
  exact⟨staysL_len _ _ hs.symm,by show (dD _ _).length=_;unfold dD;simp,by show (bU _ _ _).length=_;rw[doorsL_len];exact ih.d⟩
noncomputable def shN (net:Net):L2.D:=.tup [.tup (List.replicate net.vs.length (.int 0)),.tup (List.replicate net.vs.length (.int 0)),.tup (List.replicate net.sps.length (.bl false))]
theorem shL_ints:∀ xs:List Int,shL (xs.map L2.D.int)=List.replicate xs.length (.int 0)
 | []=>by rw[List.map_nil,shL];rfl
 | x::xs=>by rw[List.map_cons,shL,sh,shL_ints xs];rfl
theorem shL_bls:∀ xs:List Bool,shL (xs.map L2.D.bl)=List.replicate xs.length (.bl false)
 | []=>by rw[List.map_nil,shL];rfl
 | x::xs=>by rw[List.map_cons,shL,sh,shL_bls xs];rfl
theorem plainL_ints:∀ xs:List Int,cL (xs.map L2.D.int)
 | []=>by rw[List.map_nil,cL];trivial
 | x::xs=>by rw[List.map_cons,cL,dF];exact⟨trivial,plainL_ints xs⟩
theorem plainL_bls:∀ xs:List Bool,cL (xs.map L2.D.bl)
 | []=>by rw[List.map_nil,cL];trivial
 | x::xs=>by rw[List.map_cons,cL,dF];exact⟨trivial,plainL_bls xs⟩
theorem sh_sta {net:Net}{s:Sta} (ok:StOk net s.held s.coming s.doors):sh (staD s)=shN net:=by
 show sh (.tup [.tup (s.held.map L2.D.int),.tup (s.coming.map L2.D.int),.tup (s.doors.map L2.D.bl)])=_
 rw[sh,shL,shL,shL,shL,sh,sh,sh,shL_ints,shL_ints,shL_bls,ok.h,ok.c,ok.d];rfl
theorem plain_sta (s:Sta):dF (staD s):=by
 show dF (.tup [.tup (s.held.map L2.D.int),.tup (s.coming.map L2.D.int),.tup (s.doors.map L2.D.bl)])
 rw[dF,cL,cL,cL,cL,dF,dF,dF]
 exact⟨plainL_ints _,plainL_ints _,plainL_bls _,trivial⟩
theorem depth_sta (s:Sta):(staD s).depth≤7:=by
 show (L2.D.tup [.tup (s.held.map L2.D.int),.tup (s.coming.map L2.D.int),.tup (s.doors.map L2.D.bl)]).depth≤7
 rw[L2.D.depth,depth_st];decide
theorem key_sta {K:PySem.W.Frag}{H:Hp}{net:Net}{s:Sta}{v:V} (ok:StOk net s.held s.coming s.doors) (h:Is K H (staD s) v):KeyD K H (shN net) (staD s) v:=by
 refine⟨sh_sta ok,depth_sta s,plain_sta s,h,?_⟩
 obtain⟨a,xs,rfl,_⟩:=(show Is K H (.tup [.tup (s.held.map L2.D.int),.tup (s.coming.map L2.D.int),.tup (s.doors.map L2.D.bl)]) v from h).un
 exact⟨a,rfl⟩
end Tw
namespace Tw
open PySem L2
theorem small1M' {n:Nat} (h:n≤10000000):n < sizeLine:=by rw[sizeLine_eq];omega
end Tw
namespace Tw
open PySem L2
section
variable {P:Program}{w:World}{K:PySem.W.Frag}{mg:Str→Option Value}{base:Heap}
noncomputable def Sq2 (K:PySem.W.Frag) (H:Hp) (a:Addr) (xs:List V):Prop:=bL K H a xs∨bX K H a xs
theorem Sq2.same {H H':Hp}{a:Addr}{xs:List V} (h:Sq2 K H a xs) (s:aG H H'):Sq2 K H' a xs:=h.elim (fun h=>.inl (s.tup h)) fun h=>.inr (s.seq h)
theorem ix2 {H:Hp}{z:Addr}{xs:List V}{i:Int}{v:V}{Q:VK} (h:Sq2 K H z xs) (e:atI xs i=some v) (k:Q v H):rIx K (.ref z) (.int i) H Q:=h.elim (fun h=>.inr (.inl ⟨z,xs,i,v,rfl,rfl,h,e,k⟩)) fun h=>.inl ⟨z,xs,i,v,rfl,rfl,h,e,k⟩
noncomputable def spFilledL (K:PySem.W.Frag):Sp:=fun args H Q _=>∃ (x y:V) (z:Addr) (net:Net) (held coming poured:List Int) (doors:List Bool),args=[x,y,.ref z]∧Is K H (netD net) x∧Is K H (stD held coming doors) y∧Sq2 K H z (poured.map V.int)∧
 NetOk net∧StOk net held coming doors∧poured.length=net.vs.length∧∀ p H',aG H H'→H p=none→H' p=some (.lst ((aN net held coming poured doors).map V.int))→Q (.ref p) H'
theorem sc__law_filled:FnScope ["net","state","poured","has","k"] ["net","state","poured"] (aK (bD 24)):=⟨rfl,rfl,rfl,by decide +kernel,rfl,by decide +kernel,by decide +kernel⟩
theorem ok__law_filled {f:Addr}{fd:FuncData} (F:Fun K "_law_filled" "_law_filled" (bD 24) f fd) (T:Txt mg):FnOk P w K mg base CX0 1 f fd ["net","state","poured"] (spFilledL K):=by
 refine F.ok sc__law_filled (fun vs H Q E h=>?_) (fun cdv A outer s H vs Q E hr h=>?_)
 ·obtain⟨x,y,z,net,held,coming,poured,doors,rfl,_⟩:=h;rfl
 ·obtain⟨x,y,z,net,held,coming,poured,doors,rfl,hx,hy,qz,nok,sok,hpl,k⟩:=h
  have sc:=sc__law_filled
  refine⟨_,(aE (ps_set_lc (i:=3) sc.nd rfl rfl (fun _ _ h=>h) rfl (LcOk.mk (N':=["k","poured","state"]) (fr:=[none,some 2,some 1]) rfl ⟨rfl,rfl,trivial⟩ rfl rfl rfl rfl rfl ⟨⟨_,rfl,rfl,rfl,rfl⟩,⟨_,rfl,rfl,rfl,rfl⟩,trivial⟩) (cH rfl T.b_range (aA (aH (aQ (K:=K) rfl) rfl T.b_len PySem.boot_len (aA (aM (aF (K:=K) rfl) (pv 0) aD (fun _ _=>rfl)) aB)) aB)) (fun _ _ _=>(aJ (i:=0) (show (["k","poured","state"]:List Str).Nodup by decide +kernel) rfl (Or.inl rfl) (Or.inr rfl))) (fun _ _ _=>pif_nil) (fun _ _ _=>(b9 op_add (b9 op_add (aM (aF (K:=K) rfl) (aM (aF (K:=K) rfl) (pv 2) aD (fun _ _=>rfl)) (pv 0) (fun _ _=>rfl)) (aM (aF (K:=K) rfl) (aM (aF (K:=K) rfl) (pv 2) aD (fun _ _=>rfl)) (pv 0) (fun _ _=>rfl))) (aM (aF (K:=K) rfl) (pv 1) (pv 0) (fun _ _=>rfl)))))
   (aE (d9 PassesOwn.never rfl (cH rfl T.b_range (aA (aH (aQ (K:=K) rfl) rfl T.b_len PySem.boot_len (aA (aM (aF (K:=K) rfl) (pv 0) aD (fun _ _=>rfl)) aB)) aB)) (aJ (i:=4) sc.nd rfl (Or.inl rfl)) (aI (bS (b7 (aM (aF (K:=K) rfl) (aM (aF (K:=K) rfl) (pv 1) aD (fun _ _=>rfl)) (pv 4) (fun _ _=>rfl))) (aI (ps_asg (b9 op_add (aM (aF (K:=K) rfl) (pv 3) (aM (aF (K:=K) rfl) (aM (aF (K:=K) rfl) (aM (aF (K:=K) rfl) (pv 0) aD (fun _ _=>rfl)) (pv 4) (fun _ _=>rfl)) aD (fun _ _=>rfl)) (fun _ _=>rfl)) (aM (aF (K:=K) rfl) (aM (aF (K:=K) rfl) (aM (aF (K:=K) rfl) (pv 0) aD (fun _ _=>rfl)) (pv 4) (fun _ _=>rfl)) aD (fun _ _=>rfl))) (pg_sub (pv 3) (aM (aF (K:=K) rfl) (aM (aF (K:=K) rfl) (aM (aF (K:=K) rfl) (pv 0) aD (fun _ _=>rfl)) (pv 4) (fun _ _=>rfl)) aD (fun _ _=>rfl)) set_list))) aT)))
   (aI (aS (pv 3))))),?_⟩
  obtain⟨a,b,c,xs,ys,rfl,q,q1,l1,q2,l2⟩:=net_un hx
  obtain⟨ay,a1,a2,a3,rfl,qy,p1,p2,p3⟩:=st_un hy
  have exl:xs.length=net.vs.length:=by rw[l1.length,List.length_map]
  have eyl:ys.length=net.sps.length:=by rw[l2.length,List.length_map]
  have n1:=nok.lo
  have n2:=nok.hi
  have n3:=nok.sp
  have la:=add3_len sok.h sok.c hpl
  refine⟨_,rfl,.inr (.inl ⟨a,_,0,_,rfl,rfl,q,rfl,b,xs,rfl,.inr q1,_,rfl,by omega,by omega,?_⟩)⟩
  have hn:((xs.length:Nat):Int).toNat=net.vs.length:=by rw[exl];simp
  rw[hn]
  refine lc_range (n:=net.vs.length) (fun D i r σ' H'=>H D=none∧aG H H'∧H' D=some (.lst r)∧r=((add3 held coming poured).take i).map V.int∧∃ v,σ'=[v,some (.ref z),some (.ref ay)])
   (fun D hD=>⟨hD,aG.new hD,aC,by simp,none,rfl⟩) ?_ ?_
  rotate_left
  ·rintro D i r σ' H' hi ⟨hD,sm,hDl,rfl,v,rfl⟩
   refine dC ?_
   have g1:held[i]? = some (held[i]'(by rw[sok.h];exact hi)):=by simp
   have g2:coming[i]? = some (coming[i]'(by rw[sok.c];exact hi)):=by simp
   have g3:poured[i]? = some (poured[i]'(by rw[hpl];exact hi)):=by simp
   have g4:=add3_get g1 g2 g3
   have m1:∀ {l:List Int}{u:Int},l[i]? = some u→(l.map V.int)[i]? = some (.int u):=fun e=>by rw[List.getElem?_map,e];rfl
   refine⟨_,rfl,.inr (.inl ⟨ay,_,0,_,rfl,rfl,sm.tup qy,rfl,_,rfl,.inr (.inl ⟨a1,_,(i:Int),_,rfl,rfl,sm.tup p1,cF (m1 g1),?_⟩)⟩)⟩
   refine⟨_,rfl,.inr (.inl ⟨ay,_,1,_,rfl,rfl,sm.tup qy,rfl,_,rfl,.inr (.inl ⟨a2,_,(i:Int),_,rfl,rfl,sm.tup p2,cF (m1 g2),?_⟩)⟩)⟩
   refine⟨_,_,rfl,rfl,_,rfl,_,rfl,ix2 (qz.same sm) (cF (m1 g3)) ⟨_,_,rfl,rfl,hDl,aW (by simp;omega),hD,sm.put hD,aC,?_,_,rfl⟩⟩
   rw[bE g4,List.map_append];rfl
  rintro D r σ' H1 ⟨hD,sm,hDl,rfl,_⟩
  rw[← la,List.take_length] at hDl
  refine⟨_,rfl,.inr (.inl ⟨a,_,1,_,rfl,rfl,sm.tup q,rfl,c,ys,rfl,.inr (sm.tup q2),_,rfl,by omega,by omega,?_⟩)⟩
  have hm:((ys.length:Nat):Int).toNat=net.sps.length:=by rw[eyl];simp
  rw[hm]
  refine for_range (lo:=0) (n:=net.sps.length) (fun i σ' H'=>aG H H'∧H' D=some (.lst ((fillL (add3 held coming poured) (net.sps.take i) (doors.take i)).map V.int))∧
   ∃ v4,σ'=[some (.ref a),some (.ref ay),some (.ref z),some (.ref D),v4]) ⟨sm,by cases net.sps <;> exact hDl,none,rfl⟩ ?_ ?_
  ·rintro i σ' H2 hi ⟨sm2,h2,v4,rfl⟩
   rw[Int.zero_add]
   have hsi:net.sps[i]? = some net.sps[i]:=by simp [hi]
   have hdi:doors[i]? = some (doors[i]'(by rw[sok.d];exact hi)):=by simp
   obtain⟨xv,hxv,ixv⟩:=l2.get (i:=i) (d:=spD net.sps[i]) (by rw[List.getElem?_map,hsi];rfl)
   obtain⟨sp,hsi',sa,rfl,qs⟩:=sps_at l2 hxv
   rw[hsi] at hsi'
   cases hsi'
   have snoc:=fillL_snoc net.sps doors i (add3 held coming poured) _ _ hsi hdi
   have hs:=nok.sps net.sps[i] (List.getElem_mem hi)
   have hdm:(doors.map V.bl)[i]? = some (.bl (doors[i]'(by rw[sok.d];exact hi))):=by rw[List.getElem?_map,hdi];rfl
   refine⟨_,rfl,.inr (.inl ⟨ay,_,2,_,rfl,rfl,sm2.tup qy,rfl,_,rfl,.inr (.inl ⟨a3,_,(i:Int),_,rfl,rfl,sm2.tup p3,cF hdm,_,rfl,?_⟩)⟩)⟩
   cases hdr:(doors[i]'(by rw[sok.d];exact hi)) with
   | false=>
    rw[hdr] at snoc
    refine bQ ?_
    exact⟨sm2,by rw[snoc];exact h2,_,rfl⟩
   | true=>
    rw[hdr] at snoc
    refine iteT ?_
    have hlen:(fillL (add3 held coming poured) (net.sps.take i) (doors.take i)).length=net.vs.length:=by rw[fillL_len,la]
    have hlt:net.sps[i].1.toNat < (fillL (add3 held coming poured) (net.sps.take i) (doors.take i)).length:=by rw[hlen];omega
    have hg:((fillL (add3 held coming poured) (net.sps.take i) (doors.take i)).map V.int)[net.sps[i].1.toNat]? = some (.int ((fillL (add3 held coming poured) (net.sps.take i) (doors.take i)).getD net.sps[i].1.toNat 0)):=by
     rw[List.getElem?_map,List.getD_eq_getElem?_getD];simp [hlt]
    refine⟨_,rfl,_,rfl,.inr (.inl ⟨a,_,1,_,rfl,rfl,sm2.tup q,rfl,_,rfl,.inr (.inl ⟨c,ys,(i:Int),_,rfl,rfl,sm2.tup q2,cF hxv,.inr (.inl ⟨sa,_,0,_,rfl,rfl,sm2.tup qs,rfl,.inl ⟨D,_,_,_,rfl,rfl,bX.of h2,atI_int hs.1 hg,?_⟩⟩)⟩)⟩)⟩
    refine⟨_,rfl,.inr (.inl ⟨a,_,1,_,rfl,rfl,sm2.tup q,rfl,_,rfl,.inr (.inl ⟨c,ys,(i:Int),_,rfl,rfl,sm2.tup q2,cF hxv,.inr (.inl ⟨sa,_,1,_,rfl,rfl,sm2.tup qs,rfl,_,_,rfl,rfl,?_⟩)⟩)⟩)⟩
    refine⟨_,rfl,_,rfl,.inr (.inl ⟨a,_,1,_,rfl,rfl,sm2.tup q,rfl,_,rfl,.inr (.inl ⟨c,ys,(i:Int),_,rfl,rfl,sm2.tup q2,cF hxv,.inr (.inl ⟨sa,_,0,_,rfl,rfl,sm2.tup qs,rfl,D,_,_,net.sps[i].1.toNat,rfl,rfl,h2,ixN_nat hs.1 (by rw[List.length_map,hlen];omega),?_⟩)⟩)⟩)⟩
    refine⟨sm2.put hD,?_,_,rfl⟩
    rw[aC,snoc,fill1,if_pos rfl,List.map_set]
  ·rintro σ' H2 ⟨sm2,h2,v4,rfl⟩
   rw[← sok.d,List.take_length,sok.d,List.take_length] at h2
   exact⟨_,rfl,k D H2 sm2 hD h2⟩
end
end Tw
namespace L2
open PySem PySem.Spec PyProof.Rows
theorem cf_at:∀ (names:List (Str×NameKind)) (h:Heap) (acc:List (Str×Addr)) (x:Str) (c:Addr),(cellsFrom h.objs.size names acc).lookup x=some c→
  (h.objs.size≤c∧(x,NameKind.cell)∈names∧(pushCells h names).IsCell c none)∨acc.lookup x=some c
 | [],h,acc,x,c,e=>.inr e
 | (name,kind)::r,h,acc,x,c,e=>by
  unfold cellsFrom at e
  unfold pushCells
  cases hk:kind == NameKind.cell with
  | true=>
   rw[hk,if_pos rfl] at e
   rw[if_pos rfl]
   have hk':kind=.cell:=by simpa using hk
   have ih:=cf_at r (h.push { cls:=.type "cell",data:=.cell none }) ((name,h.objs.size)::acc) x c (by rw[Heap.size_push];exact e)
   rw[Heap.size_push] at ih
   rcases ih with ⟨a,b,d⟩ | ih
   ·exact .inl ⟨Nat.le_of_succ_le a,List.mem_cons_of_mem _ b,d⟩
   ·cases hx:x == name with
    | true=>
     simp only [List.lookup_cons,hx] at ih
     cases ih
     have e':x=name:=by simpa using hx
     subst e' hk'
     exact .inl ⟨Nat.le_refl _,List.mem_cons_self,_,pushCells_keeps _ _ _ _ (Heap.get?_push_size _ rfl),rfl⟩
    | false=>
     simp only [List.lookup_cons,hx] at ih
     exact .inr ih
  | false=>
   rw[hk,if_neg Bool.false_ne_true] at e
   rw[if_neg Bool.false_ne_true]
   rcases cf_at r h acc x c e with ⟨a,b,d⟩ | ih
   ·exact .inl ⟨a,List.mem_cons_of_mem _ b,d⟩
   ·exact .inr ih
theorem cf_own:∀ (names:List (Str×NameKind)) (n m:Nat) (acc:List (Str×Addr)) (x:Str),m≤n→((x,NameKind.cell)∈names∨∃ c,m≤c∧acc.lookup x=some c)→∃ c,m≤c∧(cellsFrom n names acc).lookup x=some c
 | [],n,m,acc,x,_,h=>by
  rcases h with h | h
  ·simp at h
  ·exact h
 | (name,kind)::r,n,m,acc,x,hm,h=>by
  unfold cellsFrom
  cases hk:kind == NameKind.cell with
  | true=>
   rw[if_pos rfl]
   have hk':kind=.cell:=by simpa using hk
   refine cf_own r (n+1) m _ x (by omega) ?_
   cases hx:x == name with
   | true=>exact .inr ⟨n,hm,by simp only [List.lookup_cons,hx]⟩
   | false=>
    have ne:x≠name:=fun z=>by rw[z] at hx;simp at hx
    rcases h with h | ⟨c,h1,h2⟩
    ·rcases List.mem_cons.mp h with h | h
     ·exact absurd (by injection h) ne
     ·exact .inl h
    ·exact .inr ⟨c,h1,by simp only [List.lookup_cons,hx];exact h2⟩
  | false=>
   rw[if_neg Bool.false_ne_true]
   refine cf_own r n m _ x hm ?_
   rcases h with h | h
   ·rcases List.mem_cons.mp h with h | h
    ·injection h with h1 h2
     rw[← h2] at hk;simp at hk
    ·exact .inl h
   ·exact .inr h
theorem cf_acc:∀ (names:List (Str×NameKind)) (n:Nat) (acc:List (Str×Addr)) (x:Str),(x,NameKind.cell)∉names→(cellsFrom n names acc).lookup x=acc.lookup x
 | [],_,_,_,_=>rfl
 | (name,kind)::r,n,acc,x,h=>by
  unfold cellsFrom
  have hr:(x,NameKind.cell)∉r:=fun z=>h (List.mem_cons_of_mem _ z)
  cases hk:kind == NameKind.cell with
  | true=>
   rw[if_pos rfl,cf_acc r (n+1) _ x hr]
   have hk':kind=.cell:=by simpa using hk
   have hx:(x == name)=false:=by
    cases hx:x == name with
    | false=>rfl
    | true=>
     have e':x=name:=by simpa using hx
     subst e' hk'
     exact absurd List.mem_cons_self h
   simp only [List.lookup_cons,hx]
  | false=>rw[if_neg Bool.false_ne_true,cf_acc r n _ x hr]
theorem cf_inj:∀ (names:List (Str×NameKind)) (n:Nat) (acc:List (Str×Addr)),(∀ x y c,acc.lookup x=some c→acc.lookup y=some c→x=y)→(∀ x c,acc.lookup x=some c→c < n)→
  ∀ x y c,(cellsFrom n names acc).lookup x=some c→(cellsFrom n names acc).lookup y=some c→x=y
 | [],_,_,h,_=>h
 | (name,kind)::r,n,acc,h,hb=>by
  unfold cellsFrom
  split
  ·refine cf_inj r (n+1) _ (fun x y c e1 e2=>?_) fun x c e=>?_
   ·cases hx:x == name <;> cases hy:y == name <;> simp only [List.lookup_cons,hx,hy] at e1 e2
    ·exact h x y c e1 e2
    ·cases e2;exact absurd (hb x _ e1) (Nat.lt_irrefl _)
    ·cases e1;exact absurd (hb y _ e2) (Nat.lt_irrefl _)
    ·have a:x=name:=by simpa using hx
     have b:y=name:=by simpa using hy
     rw[a,b]
   ·cases hx:x == name <;> simp only [List.lookup_cons,hx] at e
    ·exact Nat.lt_succ_of_lt (hb x c e)
    ·cases e;exact Nat.lt_succ_self _
  ·exact cf_inj r n acc h hb
section
variable {M:Model}{A:Around}{E:Value→Shared→Prop}{s:Shared}
theorem wpAny_newEnvC {scope:Scope}{globals:Addr}{cl:List (Str×Addr)}{qual:Str}{func:Option Addr}{code:Value}{env:Env}{builtins:Addr}{Q:Env→Shared→Prop}
  (h:Q { scope,locals:=s.heap.objs.size,globals,cells:=cellsFrom (s.heap.objs.size+1) scope.names cl,qual,func,code:=env.code,frame:=env.frame,builtins:=env.builtins }
   { s with heap:=pushCells (s.heap.push { cls:=.type "dict",data:=.dict #[] }) scope.names }):wpAny M A (newFunctionEnv scope globals cl [] qual func code (some env) builtins) Q E s:=by
 simp only [newFunctionEnv,Option.isSome_some,if_true]
 refine wpAny_bind (wpAny_alloc ?_)
 refine wpAny_bind (wpAny_layCells _ (fun name kind cells=>by cases hkc:kind == NameKind.cell <;> simp [hkc]) _ _ _ _ ?_)
 rw[show ({ s with heap:=s.heap.push { cls:=.type "dict",data:=.dict #[] } }:Shared).heap.objs.size=s.heap.objs.size+1 from Heap.size_push ..]
 rw[List.forIn_nil]
 exact wpAny_bind (wpAny_pure (wpAny_pure h))
end
structure LcOk2 (X:Cx) (scope:Scope) (cl:List (Str×Addr)) (N':List Str) (fr:List (Option Nat)):Prop where
 clos:closureFor scope X.env=pure cl
 cls:ClOk X.env cl
 kind:scope.kind=.function
 owns:(scope.names.all fun p=>p.2 != NameKind.cell || scope.names.lookup p.1 == some NameKind.cell)=true
 locs:(scope.names.all fun p=>p.2 != NameKind.local || scope.names.lookup p.1 == some NameKind.local)=true
 frees:(scope.names.all fun p=>p.2 != NameKind.free || (cl.lookup p.1).isSome)=true
 len:fr.length=N'.length
 fr:FrOk X scope N' fr 0
noncomputable def cxD (X:Cx) (N':List Str) (scope:Scope) (cl:List (Str×Addr)) (fp:List Addr) (s:Shared) (H:Hp):Cx:=
 { X with N:=N',s₀:=s,H₀:=H,env:=compEnvC scope (cellsFrom (s.heap.objs.size+1) scope.names cl) s.heap.objs.size X.env,outer:=X.stack,ex:=fp,fn:=fun x=>scope.names.lookup x == some .cell,pn:=[] }
section
variable {X:Cx}
theorem LcOk2.cells {scope:Scope}{cl:List (Str×Addr)}{N':List Str}{fr:List (Option Nat)} (S:LcOk2 X scope cl N' fr) {s:Shared}{o:Obj}{x:Str}{c:Addr} (e:(cellsFrom (s.heap.objs.size+1) scope.names cl).lookup x=some c) :
  (s.heap.objs.size < c∧(x,NameKind.cell)∈scope.names∧(pushCells (s.heap.push o) scope.names).IsCell c none)∨X.env.cells.lookup x=some c:=by
 have:=cf_at scope.names (s.heap.push o) cl x c (by rw[Heap.size_push];exact e)
 rw[Heap.size_push] at this
 rcases this with ⟨a,b,d⟩ | h
 ·exact .inl ⟨a,b,d⟩
 ·exact .inr (S.cls.get x c h)
theorem LcOk2.invC {scope:Scope}{cl:List (Str×Addr)}{N':List Str}{fr:List (Option Nat)}{pins:List (Addr×Obj)}{σ:St}{H:Hp}{s:Shared}{o:Obj}{fp:List Addr}{m1:Str→Option Value}{tk:Nat}
  (S:LcOk2 X scope cl N' fr) (I:Inv X pins σ H s) (hf:∀ b∈fp,FpOk X pins H b) (hfo:∀ b∈fp,b < s.heap.objs.size)
  (hn:(pushCells (s.heap.push o) scope.names).Ns s.heap.objs.size m1):Inv (cxD X N' scope cl fp s H) [] (frσ fr σ) H { s with heap:=pushCells (s.heap.push o) scope.names,toks:=tk }:=by
 have hfree:=S.frees
 have hown:=S.owns
 rw[List.all_eq_true] at hfree hown
 have k:∀ b o',s.heap.get? b=some o'→(pushCells (s.heap.push o) scope.names).get? b=some o':=fun b o' e=>pushCells_keeps _ _ b o' (Heap.get?_push_of_some _ e)
 have fresh:H s.heap.objs.size=none:=I.hok.fresh (Nat.le_refl _)
 have clg:=S.cls.get
 have cg:=fun x c e=>S.cells (s:=s) (o:=o) (x:=x) (c:=c) e
 have clt:∀ x c,cl.lookup x=some c→c < s.heap.objs.size:=fun x c e=>by
  obtain⟨v,oc,hoc,hd⟩:=I.cell x c (clg x c e)
  exact Heap.lt_size hoc
 have notown:∀ x,scope.names.lookup x=some .free→(x,NameKind.cell)∉scope.names:=fun x e hm=>by
  have:=hown _ hm
  simp only [bne_self_eq_false,Bool.false_or,beq_iff_eq] at this
  rw[e] at this;cases this
 refine⟨⟨I.ok.mod,S.kind,I.ok.glob,I.ok.blt,Nat.le_refl _,cf_inj scope.names _ cl (fun x y c e1 e2=>I.ok.inj x y c (clg x c e1) (clg y c e2)) (fun x c e=>Nat.lt_succ_of_lt (clt x c e)),fun x hx=>?_,fun x c e1 e2=>?_,I.ok.hd,I.ok.frames,.inl rfl,fun b hb=>⟨Nat.ne_of_lt (hfo b hb),fun x c e=>?_⟩,
  I.bs,Nat.le_trans I.ok.bsz I.sz,fun b o e hb=>?_,fun b hb hz=>?_,I.stack,I.stkFree⟩,rfl,I.bare,Un.kept k,⟨m1,hn,fun i x v e1 e2 e3=>?_⟩,fun x c e=>?_,fresh,fun x c e=>?_,fun p hp=>absurd (show p∈([]:List (Addr×Obj)) from hp) (by simp),I.hok.kept k,?_⟩
 ·
  have hm:∃ k',(x,k')∈scope.names∧(k'=NameKind.free∨k'=NameKind.cell):=by
   have hx':(relabel scope X.env).names.lookup x=some .cell∨(relabel scope X.env).names.lookup x=some .free:=hx
   obtain⟨k',e,hk'⟩:∃ k',(relabel scope X.env).names.lookup x=some k'∧(k'=.cell∨k'=.free):=by
    rcases hx' with e | e
    ·exact⟨_,e,.inl rfl⟩
    ·exact⟨_,e,.inr rfl⟩
   have hmem:=PySem.mem_of_lookup e
   obtain⟨⟨n,kn⟩,hp,he⟩:=List.mem_map.mp hmem
   dsimp only at he
   split at he
   ·rename_i hc
    cases he
    have:kn=.free:=by
     simp only [Bool.and_eq_true,beq_iff_eq] at hc
     exact hc.1.1
    exact⟨kn,hp,.inl this⟩
   ·cases he
    rcases hk' with e' | e'
    ·exact⟨_,hp,.inr e'⟩
    ·exact⟨_,hp,.inl e'⟩
  obtain⟨k',hp,hk'⟩:=hm
  by_cases hc:(x,NameKind.cell)∈scope.names
  ·obtain⟨c,_,e⟩:=cf_own scope.names (s.heap.objs.size+1) 0 cl x (Nat.zero_le _) (.inl hc)
   exact⟨c,e⟩
  ·rcases hk' with rfl | rfl
   ·have:=hfree _ hp
    simp only [bne_self_eq_false,Bool.false_or] at this
    obtain⟨c,e⟩:=Option.isSome_iff_exists.mp this
    exact⟨c,by show (cellsFrom _ _ _).lookup x=_;rw[cf_acc _ _ _ _ hc];exact e⟩
   ·exact absurd hp hc
 ·have e1':scope.names.lookup x=some .cell:=by simpa using (show (scope.names.lookup x == some NameKind.cell)=true from e1)
  obtain⟨c',hc',e'⟩:=cf_own scope.names (s.heap.objs.size+1) (s.heap.objs.size+1) cl x (Nat.le_refl _) (.inl (PySem.mem_of_lookup e1'))
  have e2':(cellsFrom (s.heap.objs.size+1) scope.names cl).lookup x=some c:=e2
  rw[e'] at e2'
  cases e2'
  exact Nat.le_of_succ_le hc'
 ·rcases cg x c e with ⟨a,_⟩ | e'
  ·exact Ne.symm (Nat.ne_of_lt (Nat.lt_trans (hfo b hb) a))
  ·exact (hf b hb).2.2.2.2.1 x c e'
 ·rcases (hf b hb).2.2.2.1 with z | z
  ·exact I.ok.noex b o e z
  ·have:=Heap.lt_size e
   exact absurd (Nat.lt_of_lt_of_le this (Nat.le_trans I.ok.bsz z)) (Nat.lt_irrefl _)
 ·obtain⟨_,f1,f2,_⟩:=hf b hb
  rcases List.mem_cons.mp (I.stkSub b hz) with e | e
  ·exact f1 e
  ·exact f2 e
 ·
  unfold frσ at e2
  rw[List.getElem?_map] at e2
  cases ef:fr[i]? with
  | none=>rw[ef] at e2;cases e2
  | some o=>
   rw[ef] at e2
   cases o with
   | none=>simp at e2
   | some j=>
    have e2':(σ[j]?).join=some v:=by simpa using e2
    obtain⟨x',h1',h2',h3',h4'⟩:=S.fr.get i j ef
    rw[Nat.zero_add] at h1'
    have ex:x'=x:=by
     have:N'[i]? = some x:=e1
     rw[h1'] at this
     exact Option.some.inj this
    subst ex
    have e2'':σ[j]? = some (some v):=by
     cases q:σ[j]? with
     | none=>rw[q] at e2';cases e2'
     | some z=>rw[q] at e2';simp at e2';rw[e2']
    obtain⟨m,hm,hl⟩:=I.loc
    obtain⟨u,r,lk⟩:=hl j x' v h2' e2'' (.inr (.inl h4'))
    refine⟨u,r,?_⟩
    rcases lk with ⟨q,_⟩ | ⟨_,c,hc,z⟩
    ·rw[h4'] at q;cases q
    ·have hcl:∃ c',cl.lookup x'=some c':=by
      have:=hfree _ (PySem.mem_of_lookup h3')
      simp only [bne_self_eq_false,Bool.false_or] at this
      exact Option.isSome_iff_exists.mp this
     obtain⟨c',hc'⟩:=hcl
     have e':=clg x' c' hc'
     rw[hc] at e'
     cases e'
     obtain⟨oc,hoc,hd⟩:=z
     refine .inr ⟨.inl ?_,c,?_,oc,k c oc hoc,hd⟩
     ·exact cS I.ok.kind h3' h4'
     ·show (cellsFrom _ _ _).lookup x'=_
      rw[cf_acc _ _ _ _ (notown x' h3')];exact hc'
 ·rcases cg x c e with ⟨_,_,z⟩ | e'
  ·exact⟨_,z⟩
  ·obtain⟨v,oc,hoc,hd⟩:=I.cell x c e'
   exact⟨v,oc,k c oc hoc,hd⟩
 ·rcases cg x c e with ⟨a,_⟩ | e'
  ·exact I.hok.fresh (Nat.le_of_lt a)
  ·exact I.freeC x c e'
 ·show (frσ fr σ).length=N'.length
  unfold frσ
  rw[List.length_map,S.len]
theorem Inv.outD {scope:Scope}{cl:List (Str×Addr)}{N':List Str}{pins pins':List (Addr×Obj)}{σ σ':St}{H H':Hp}{s s':Shared}{fp:List Addr} (I:Inv X pins σ H s) (J:Inv (cxD X N' scope cl fp s H) pins' σ' H' s')
  (hf:∀ b∈fp,FpOk X pins H b):Inv X pins σ H' s':=
 I.call' (ch:=fp) J.os J.base J.hok J.bare fun b hb=>by
  obtain⟨_,f1,_,f3,f4,f5⟩:=hf b hb
  exact⟨f3,f1,f4,f5⟩
theorem lc_blockD {elt tg iter:Expr}{ifs:List Expr}{scope:Scope}{pos:Pos}{N':List Str}{fr:List (Option Nat)}{cl:List (Str×Addr)}{g:TG}{tc:TT}{te:TE}
  {pins:List (Addr×Obj)}{σ:St}{H:Hp}{s:Shared}{J:It}{fp:List Addr}{it:Addr}{tn:Nat→Heap→Prop}{Q:Addr→Hp→Prop}{RR:Value→Addr→Result→Shared→Prop}{E:Value→Shared→Prop}
  (hx:∀ e s,¬ X.xe e s) (hc:X.calm=true) (S:LcOk2 X scope cl N' fr)
  (hg:∀ fp s H,PG (cxD X N' scope cl fp s H) tg g) (ht:∀ fp s H,PIf (cxD X N' scope cl fp s H) ifs tc) (he:∀ fp s H,PE (cxD X N' scope cl fp s H) elt te)
  (I:Inv X pins σ H s) (T:Turn X.prog X.w X.K tg J fp it tn) (st:tn 0 s.heap) (hf:∀ b∈fp,FpOk X pins H b) (h:lcRest J g tc te fr σ H Q)
  (hRR:∀ D C H' s' m',Inv X pins σ H' s'→Q D H'→s'.heap.Ns C m'→FpOk X pins H' C→RR (.ref D) C (.ok .next) s') :
  wpAny (model X.prog X.w) X.A (newList []) (fun acc s₃=>wpAny (model X.prog X.w) X.A (newFunctionEnv scope X.env.globals cl [] X.env.qual none .none (some X.env)) (fun cenv s₄=>
   codeAny (model X.prog X.w) X.A (.compStart (.ListComp elt [⟨tg,iter,ifs,0⟩] scope pos) 0 (.ref it) acc { cenv with scope:=relabel scope X.env }) (RR acc cenv.locals) s₄) E s₃) E s:=by
 refine wpAny_newObj_type (wpAny_newEnvC ?_)
 dsimp only
 have fresh:H s.heap.objs.size=none:=I.hok.fresh (Nat.le_refl _)
 have I3:Inv X pins σ (upd H s.heap.objs.size (.lst [])) { s with heap:=s.heap.push { cls:=.type "list",data:=.seq ([]:List Value).toArray },toks:=s.toks }:=I.lnew (ys:=[]) (its:=[]) .nil (Nat.zero_le _)
 have hf3:∀ b∈fp,FpOk X pins (upd H s.heap.objs.size (.lst [])) b:=fun b hb=>by
  obtain⟨o,ho,_⟩:=T.obj _ _ st b hb
  exact⟨by rw[aO (Nat.ne_of_lt (Heap.lt_size ho))];exact (hf b hb).1,(hf b hb).2⟩
 generalize hs3:({ s with heap:=s.heap.push { cls:=.type "list",data:=.seq ([]:List Value).toArray },toks:=s.toks }:Shared)=s3 at I3
 have e3:s3.heap=s.heap.push { cls:=.type "list",dict:=none,data:=.seq ([]:List Value).toArray }:=by rw[← hs3]
 have e3s:({ s with heap:=s.heap.push { cls:=.type "list",dict:=none,data:=.seq ([]:List Value).toArray } }:Shared)=s3:=hs3
 have hsz3:s3.heap.objs.size=s.heap.objs.size+1:=by rw[e3,Heap.size_push]
 have hfo:∀ b∈fp,b < s3.heap.objs.size:=fun b hb=>by
  obtain⟨o,ho,_⟩:=T.obj _ _ st b hb
  rw[hsz3]
  exact Nat.lt_succ_of_lt (Heap.lt_size ho)
 rw[← e3]
 generalize hh1:pushCells (s3.heap.push { cls:=.type "dict",data:=.dict #[] }) scope.names=h₁
 have hns₁:(pushCells (s3.heap.push { cls:=.type "dict",data:=.dict #[] }) scope.names).Ns s3.heap.objs.size (fun _=>none):=(Heap.Ns.new s3.heap (.type "dict")).keeps (pushCells_keeps _ _)
 have old3:∀ b o,s3.heap.get? b=some o→h₁.get? b=some o:=fun b o e=>by rw[← hh1];exact pushCells_keeps _ _ b o (Heap.get?_push_of_some _ e)
 have old:∀ b o,s.heap.get? b=some o→s3.heap.get? b=some o:=fun b o e=>by rw[e3];exact Heap.get?_push_of_some _ e
 have I4:=S.invC (tk:=s3.toks) I3 hf3 hfo hns₁
 rw[hh1] at I4
 obtain⟨W,⟨m0,w0⟩,turn⟩:=h s.heap.objs.size fresh
 have stat:∀ {H':Hp},(∀ b∈fp,H' b=none)→∀ b∈fp,FpOk (cxD X N' scope cl fp s3 (upd H s.heap.objs.size (.lst []))) [] H' b:=fun hn b hb=>by
  refine⟨hn b hb,Nat.ne_of_lt (hfo b hb),?_,.inl hb,fun x c e=>?_,fun p hp=>absurd (show p∈([]:List (Addr×Obj)) from hp) (by simp)⟩
  ·intro hz
   obtain⟨_,f1,f2,_⟩:=hf b hb
   rcases List.mem_cons.mp (I.stkSub b hz) with e | e
   ·exact f1 e
   ·exact f2 e
  ·rcases S.cells (s:=s3) (o:={ cls:=.type "dict",data:=.dict #[] }) e with ⟨a,_⟩ | e'
   ·exact Ne.symm (Nat.ne_of_lt (Nat.lt_trans (hfo b hb) a))
   ·exact (hf b hb).2.2.2.2.1 x c e'
 have loop:∀ s4:Shared,s4={ s3 with heap:=h₁,toks:=s3.toks }→
   codeAny (model X.prog X.w) X.A (.compLoop (.ListComp elt [⟨tg,iter,ifs,0⟩] scope pos) 0 (.ref it) (.ref s.heap.objs.size) (compEnvC scope (cellsFrom (s3.heap.objs.size+1) scope.names cl) s3.heap.objs.size X.env)) (RR (.ref s.heap.objs.size) s3.heap.objs.size) s4:=by
  intro s4 hs4
  refine compLoop_any (fun n s'=>∃ i ys σ' H',Inv (cxD X N' scope cl fp s3 (upd H s.heap.objs.size (.lst []))) [] σ' H' s'∧tn i s'.heap∧(∀ b∈fp,H' b=none)∧W i n ys σ' H') ?_ m0
   ⟨0,[],frσ fr σ,_,by rw[hs4];exact I4,by rw[hs4];exact T.keep _ _ _ st fun b _ o e=>old3 b o (old b o e),fun b hb=>(hf3 b hb).1,w0⟩
  rintro n s5 ⟨i,ys,σ5,H5,I5,st5,fr5,w5⟩
  rcases turn i n ys σ5 H5 w5 with ⟨stop,qn⟩ | ⟨go,N,hN,step⟩
  ·refine cM (T.done (cxD X N' scope cl fp s3 (upd H s.heap.objs.size (.lst []))) rfl rfl rfl hc i [] s5 σ5 H5 _ I5 (stat fr5) st5 stop) fun r s6 ⟨hr,I6⟩=>?_
   subst hr
   obtain⟨m',hm',_⟩:=I6.loc
   exact hRR _ _ H5 s6 m' (I3.outD I6 hf3) qn hm' (I3.fpOk (Nat.le_refl _) I6.free)
  ·refine cM (T.item (cxD X N' scope cl fp s3 (upd H s.heap.objs.size (.lst []))) rfl rfl rfl hc i [] s5 σ5 H5 _ I5 (stat fr5) st5 go) fun r s6 ⟨u,hr,h6⟩=>?_
   subst hr
   refine cM h6 fun _ s7 ⟨x,H7,I7,r7,y7,st7,fr7⟩=>?_
   have I7':=I7.pinned (stat fr7) (T.obj _ _ st7)
   refine wpAny_mono (hg fp s3 _ _ s7 σ5 H7 x u _ I7' r7 (step x H7 y7)) (fun _ s8 ⟨σ8,H8,I8,q8⟩=>?_) fun e s' z=>(hx e s' z).elim
   refine wpAny_mono (ht fp s3 _ _ s8 σ8 H8 _ I8 q8) (fun ok s9 ⟨H9,I9,q9⟩=>?_) fun e s' z=>(hx e s' z).elim
   have again:∀ {s10:Shared}{H10:Hp}{ys':List V},Inv (cxD X N' scope cl fp s3 (upd H s.heap.objs.size (.lst []))) ([]++pinsAt fp s7.heap) σ8 H10 s10→N ys' σ8 H10→
     ∃ m,m < n∧∃ i ys σ' H',Inv (cxD X N' scope cl fp s3 (upd H s.heap.objs.size (.lst []))) [] σ' H' s10∧tn i s10.heap∧(∀ b∈fp,H' b=none)∧W i m ys σ' H':=fun {s10 H10 ys'} I10 n10=>by
    obtain⟨m',hm,w10⟩:=hN ys' σ8 H10 n10
    refine⟨m',hm,i+1,ys',σ8,H10,I10.unpinned,T.keep _ _ _ st7 fun b hb o e=>(I10.pin (b,o) (List.mem_append_right _ (List.mem_append_right _ (mem_pinsAt hb e)))).1,fun b hb=>?_,w10⟩
    obtain⟨o,e,d⟩:=T.obj _ _ st7 b hb
    exact (I10.pin (b,o) (List.mem_append_right _ (List.mem_append_right _ (mem_pinsAt hb e)))).2.1
   cases ok with
   | false=>
    rw[if_neg Bool.false_ne_true] at q9 ⊢
    exact again I9 q9
   | true=>
    rw[if_pos rfl] at q9 ⊢
    refine wpAny_mono (he fp s3 _ _ s9 σ8 H9 _ I9 q9) (fun y s10 ⟨yv,H10,I10,r10,hD,hlen,q10⟩=>?_) fun e s' z=>(hx e s' z).elim
    refine wpAny_mono (cI (X:=cxD X N' scope cl fp s3 (upd H s.heap.objs.size (.lst []))) _ s10 σ8 H10 (.ref s.heap.objs.size) [yv] (.ref s.heap.objs.size) [y] (fun _ H11=>H11=upd H10 s.heap.objs.size (.lst (ys++[yv]))) I10 rfl (.cons r10 .nil)
     ⟨_,ys,yv,rfl,rfl,hD,hlen,rfl⟩) (fun _ s11 ⟨_,H11,I11,_,e11⟩=>?_) fun e s' z=>(hx e s' z).elim
    subst e11
    exact again I11 q10
 exact codeAny_compStart_list (loop _ (by rw[← e3s])) (T.self X.A 0 _ _ _ (T.keep _ _ _ st fun b _ o e=>old3 b o (old b o e)) (loop _ (by rw[← e3s])))
theorem ps_set_lcD {i:Nat}{y:Str}{py:Pos}{spos:Pos}{elt tg iter:Expr}{ifs:List Expr}{scope:Scope}{pos:Pos}{N':List Str}{fr:List (Option Nat)}{cl:List (Str×Addr)}{wi:TI}{g:TG}{tc:TT}{te:TE}
  (hN:X.N.Nodup) (hy:X.N[i]? = some y) (hk:X.env.scope.names.lookup y=some .local)
  (hx:∀ e s,¬ X.xe e s) (hc:X.calm=true) (S:LcOk2 X scope cl N' fr) (hi:PI X tg iter wi)
  (hg:∀ fp s H,PG (cxD X N' scope cl fp s H) tg g) (ht:∀ fp s H,PIf (cxD X N' scope cl fp s H) ifs tc) (he:∀ fp s H,PE (cxD X N' scope cl fp s H) elt te)
  (hsw:swapsWith (.ListComp elt [⟨tg,iter,ifs,0⟩] scope pos) (some (.Name y py)) spos.line X.env=pure true:=by rfl)
  (hs:∀ x,foldedSetIterable iter X.env x=pure x:=by intro _;rfl):PS X (.Assign [.Name y py] (.ListComp elt [⟨tg,iter,ifs,0⟩] scope pos) spos) (tAsg (tLC wi fr g tc te) (gName i)):=by
 intro pins s σ H D I h
 have hloc:=S.locs
 rw[List.all_eq_true] at hloc
 rw[exec_Assign_Name_used _ _ _ _ hsw]
 refine wpAny_bind (wpAny_standAt (wpAny_bind ?_))
 show wpAny _ X.A (do let _ ← comprehension (.ListComp elt [⟨tg,iter,ifs,0⟩] scope pos) scope X.env _ (newList []) false (eval iter X.env) (some (assign (.Name y py) X.env))) _ _ s
 refine wpAny_bind (wpAny_mono (wpAny_comprehension_free (use:=some (assign (.Name y py) X.env)) (Q:=fun _ s'=>SP X pins D .next s') rfl hs S.clos S.kind (fun x hx' hl=>by have:=hloc x hx';rw[hl] at this;simpa using this)
  (cM (hi pins s σ H _ I h) fun v s1 h1=>cM h1 fun itv s2 h2=>?_)) (fun _ s' hq=>wpAny_pure (wpAny_pure hq)) fun _ _ e=>e)
 obtain⟨it,fp,tn,J,H2,e,I2,T,st2,f2,rest⟩:=h2
 subst e
 refine lc_blockD (RR:=fun acc C=>compPost (model X.prog X.w) X.A X.xe (some (assign (.Name y py) X.env)) (fun _ s'=>SP X pins D .next s') acc C) hx hc S hg ht he I2 T st2 f2 rest ?_
 intro Da C H' s' m' I' q hn f
 show wpAny _ X.A (assign (.Name y py) X.env (.ref Da)) _ _ _
 refine wpAny_assign_Name (store_ok2 I' hN hy (.inl hk) (v:=.ref Da) rfl (fun s'' I'' hch=>?_) (.inr hk))
 obtain⟨a,hsb,ha⟩:=hch
 have haC:a≠C:=by
  rcases ha with e | e
  ·rw[e];exact Ne.symm f.2.1
  ·exact f.2.2.2.2.1 _ _ e
 exact⟨m',hn.sameBut hsb (Ne.symm haC),fun h' hs'=>⟨_,H',I''.letgo f hs',q⟩⟩
end
end L2
namespace Tw
open PySem L2
noncomputable def amts (k:Option Int) (gs:List (Option Int×Int)):List Int:=(gs.filter fun g=>decide (g.1=k)).map (·.2)
theorem amts_sum (k:Option Int):∀ gs:List (Option Int×Int),(amts k gs).sum=bN k gs
 | []=>rfl
 | g::r=>by
  have ih:=amts_sum k r
  unfold amts at ih ⊢
  unfold bN
  by_cases h:g.1=k
  ·simp [h,← ih]
  ·simp [h,← ih]
theorem amts_snoc (k:Option Int) (gs:List (Option Int×Int)) (g:Option Int×Int):amts k (gs++[g])=amts k gs++(if g.1=k then [g.2] else []):=by
 unfold amts
 rw[List.filter_append,List.map_append]
 by_cases h:g.1=k <;> simp [h]
theorem amts_len (k:Option Int) (gs:List (Option Int×Int)):(amts k gs).length≤gs.length:=by
 unfold amts;rw[List.length_map];exact List.length_filter_le _ _
section
variable {P:Program}{w:World}{K:PySem.W.Frag}{mg:Str→Option Value}{base:Heap}
theorem word_ix {wd:Str} (h:wd = "open" ∨ wd = "shut" ∨ wd = "turn"):∃ j:Nat,j < 3∧(∀ z,[V.str "turn",V.str "open",V.str "shut"][j]? = some z→eqV z (.str wd)=true)∧(∀ i z,i < j→[V.str "turn",V.str "open",V.str "shut"][i]? = some z→eqV z (.str wd)=false)∧
  ∀ old:Bool,[V.bl (!old),V.bl true,V.bl false][j]? = some (.bl (if wd = "open" then true else if wd = "turn" then !old else false)):=by
 rcases h with rfl | rfl | rfl
 ·refine⟨1,by decide,fun z hz=>by cases hz;rfl,fun i z hi hz=>?_,fun old=>rfl⟩
  have:i=0:=by omega
  subst this;cases hz;rfl
 ·refine⟨2,by decide,fun z hz=>by cases hz;rfl,fun i z hi hz=>?_,fun old=>rfl⟩
  rcases (show i=0∨i=1 by omega) with rfl | rfl <;> cases hz <;> rfl
 ·exact⟨0,by decide,fun z hz=>by cases hz;rfl,fun i z hi hz=>absurd hi (Nat.not_lt_zero _),fun old=>rfl⟩
theorem IsL.append {H:Hp}:∀ {ds es:List L2.D}{xs ys:List V},L2.IsL K H ds xs→L2.IsL K H es ys→L2.IsL K H (ds++es) (xs++ys)
 | [],es,xs,ys,h1,h2=>by rw[h1.un0];exact h2
 | d::ds,es,xs,ys,h1,h2=>by
  obtain⟨x,r,rfl,hx,hr⟩:=h1.un
  exact .cons hx (IsL.append hr h2)
theorem goes_put {H1 H2:Hp}{gl gq:Addr}{gs:List (Option Int×Int)}{gxs:List V} (sm:aG H1 H2) (fg:H1 gl=none) (hg:H2 gl=some (.lst gxs)) (ig:L2.IsL K H2 (gs.map outD) gxs) (hq:H2 gq=none) (t:Option Int) (n:Int) :
  aG H1 (upd (upd H2 gq (.tup [tgV t,.int n])) gl (.lst (gxs++[.ref gq])))∧upd (upd H2 gq (.tup [tgV t,.int n])) gl (.lst (gxs++[.ref gq])) gl=some (.lst (gxs++[.ref gq]))∧
  L2.IsL K (upd (upd H2 gq (.tup [tgV t,.int n])) gl (.lst (gxs++[.ref gq]))) ((gs++[(t,n)]).map outD) (gxs++[.ref gq])∧∀ p o,p≠gl→H2 p=some o→upd (upd H2 gq (.tup [tgV t,.int n])) gl (.lst (gxs++[.ref gq])) p=some o:=by
 have nq:gl≠gq:=aP hg hq
 have mt:Mut (upd H2 gq (.tup [tgV t,.int n]) gl):=by rw[aO nq,hg];exact trivial
 refine⟨fun b o e=>by rw[aO (aP e fg)];exact aG.new hq b o (sm b o e),aC,?_,fun p o hp e=>by rw[aO hp];exact aG.new hq p o e⟩
 rw[List.map_append]
 exact L2.IsL.snoc (Is.tupOf (ds:=[tgD t,.int n]) (bW.put (bW.refl _) (.inr mt) _ _ (bL.of aC)) (.cons (Is.tgOf _) (.cons (Is.i _) .nil))) (L2.IsL.mono (bW.put (aG.new hq).ts (.inr mt)) _ _ ig)
noncomputable def spTickL (K:PySem.W.Frag):Sp:=fun args H Q _=>∃ (x y:V) (z:Addr) (net:Net) (held coming poured:List Int) (doors:List Bool),args=[x,y,.ref z,.non]∧Is K H (netD net) x∧Is K H (stD held coming doors) y∧Sq2 K H z (poured.map V.int)∧
 NetOk net∧StOk net held coming doors∧poured.length=net.vs.length∧∀ (l:Addr) (p1 p2:V) H',aG H H'→H' l=some (.lst [p1,p2,.int (cN net held coming poured doors).ground])→
  Is K H' (stD (cN net held coming poured doors).held (cN net held coming poured doors).coming (cN net held coming poured doors).doors) p1→
  Is K H' (.tup ((cN net held coming poured doors).tip.map fun (i:Nat)=>D.int (i:Int))) p2→Q (.ref l) H'
theorem sc__law_tick:FnScope ["net","state","poured","fast","has","goes","tipped","stays","number","size","brim","outs","holds","spill","acts","here","whole","doors","word","spout","later","ground"] ["net","state","poured","fast"] (aK (bD 25)):=⟨rfl,rfl,rfl,by decide +kernel,rfl,by decide +kernel,by decide +kernel⟩
end
end Tw
namespace L2
open PySem PySem.Spec PyProof.Rows TwZ
section
variable {X:Cx}
end
end L2
namespace Tw
open PySem L2
section
variable {P:Program}{w:World}{K:PySem.W.Frag}{mg:Str→Option Value}{base:Heap}{C c_TipError c_NoNet c_NoVessel c_TooLong c_TooMany c_TooMuch c_Nothing c_NoText c_NoRow:Addr}
noncomputable def spRoundL (K:PySem.W.Frag):Sp:=fun vs H Q _=>∃ (x:V) (net:Net),vs=[x]∧Is K H (netD net) x∧NetOk net∧
 (∀ t j p H',Rep net t j→aG H H'→bL K H' p [.int j,.int ((t:Int) - j)]→Q (.ref p) H')∧(Long net→∀ H',aG H H'→Q .non H')
theorem sc__law_round:FnScope ["net","seen","state","tick"] ["net"] (aK (bD 29)):=⟨rfl,rfl,rfl,by decide +kernel,rfl,by decide +kernel,by decide +kernel⟩
theorem ok__law_round {f f1 f2:Addr}{fd fd1 fd2:FuncData} (F:Fun K "_law_round" "_law_round" (bD 29) f fd) (T:Txt mg)
  (G__law_first:Callee P w K mg base "_law_first" ["net"] 1 (spFirst K) f1 fd1) (G__law_tick:Callee P w K mg base "_law_tick" ["net","state","poured","fast"] 2 (spTickL K) f2 fd2) :
  FnOk P w K mg base CX0 3 f fd ["net"] (spRoundL K):=by
 refine F.ok sc__law_round (fun vs H Q E h=>?_) (fun cdv A outer s H vs Q E hr h=>?_)
 ·obtain⟨x,net,rfl,_⟩:=h;rfl
 ·obtain⟨x,net,rfl,hx,nok,kR,kL⟩:=h
  have sc:=sc__law_round
  refine⟨_,(aE (bF (i:=1) sc.nd rfl (Or.inl rfl) pe_dnewK)
   (aE (bF (i:=2) sc.nd rfl (Or.inl rfl) (pcG G__law_first hr (aA (pv 0) aB)))
   (aE (d9 PassesOwn.never rfl (cH rfl T.b_range (aA aD aB)) (aJ (i:=3) sc.nd rfl (Or.inl rfl)) (aE (bS (bG (op_inDK (P:=P) (w:=w) (K:=K) rfl rfl rfl hr.units) (pv 2) (pv 1) (by rfl)) (aI (aS (bO (aA (aM (ix_DK (P:=P) (w:=w) (K:=K) rfl rfl rfl hr.units) (pv 1) (pv 2) (fun _ _=>rfl)) (aA (b9 op_sub (pv 3) (aM (ix_DK (P:=P) (w:=w) (K:=K) rfl rfl rfl hr.units) (pv 1) (pv 2) (fun _ _=>rfl))) aB))))) aT)
   (aE (ps_dputDK (P:=P) (w:=w) (K:=K) rfl rfl rfl hr.units (pv 1) (pv 2) (pv 3) rfl)
   (aI (bF (i:=2) sc.nd rfl (Or.inl rfl) (aM (aF (K:=K) rfl) (pcG G__law_tick hr (aA (pv 0) (aA (pv 2) (aA (b9 (op_repTK (K:=K) rfl) (bO (aA aD aB)) (aH (aQ (K:=K) rfl) rfl T.b_len PySem.boot_len (aA (aM (aF (K:=K) rfl) (pv 0) aD (fun _ _=>rfl)) aB))) (aA pe_non aB))))) aD (fun _ _=>rfl)))))))
   (aI (aS pe_non))))),?_⟩
  refine fun sd hsd=>?_
  have s0:=aG.new (o:=HO.dK []) hsd
  refine⟨_,rfl,x,net,rfl,Is.mono s0.ts _ _ hx,nok,fun st H1 sm1 hst=>?_⟩
  have g1:=sm1 _ _ (show upd H sd (.dK []) sd=some (.dK []) from aC)
  have s1:=s0.trans sm1
  refine⟨_,rfl,by decide,by decide,?_⟩
  refine for_range (lo:=0) (n:=2001) (fun i σ' H'=>aG H H'∧(∀ m,m < i→repAt net m=none)∧DictD P w K H' sd (shN net) (seenN net i)∧
   ∃ st v3,Is K H' (staD (cO net i)) st∧σ'=[some x,some (.ref sd),some st,v3]) ?_ ?_ ?_
  ·exact⟨s1,fun m hm=>absurd hm (Nat.not_lt_zero _),DictD.new g1,st,_,hst,rfl⟩
  ·rintro i σ' H4 hi ⟨s4,hno,dd,st,v3,hst4,rfl⟩
   rw[Int.zero_add]
   have sok:=sta_ok nok i
   have key:=key_sta sok hst4
   have hsl:=seen_len net i
   dsimp only [tSeq]
   refine⟨_,rfl,_,rfl,sd,shN net,seenN net i,staD (cO net i),rfl,dd,key,_,rfl,?_⟩
   cases hr:repAt net i with
   | some v=>
    have hr':valV (seenN net i) (staD (cO net i))=some v:=hr
    rw[hr']
    refine iteT ?_
    obtain⟨j,rfl⟩:=seen_int net _ v i hr'
    refine⟨_,rfl,_,rfl,sd,shN net,seenN net i,staD (cO net i),.int j,rfl,dd,key,hr',_,rfl,_,rfl,_,rfl,sd,shN net,seenN net i,staD (cO net i),.int j,rfl,dd,key,hr',_,_,rfl,rfl,(show 2≤sizeLine by decide),fun p hp=>?_⟩
    exact kR i j p _ ⟨by omega,hr,hno⟩ (s4.trans (aG.new hp)) (bL.of aC)
   | none=>
    have hr':valV (seenN net i) (staD (cO net i))=none:=hr
    rw[hr']
    refine bQ ?_
    refine⟨_,rfl,_,rfl,_,rfl,sd,shN net,seenN net i,staD (cO net i),rfl,dd,key,small1M' (by omega),fun H5 b5 dd5=>?_⟩
    have ts5:=b5.ts (K:=K) dd.mut
    have s5:aG H H5:=fun b o e=>b5 b o (aP e hsd) (s4 b o e)
    have hx5:=Is.mono s5.ts _ _ hx
    have hst5:=Is.mono ts5 _ _ hst4
    obtain⟨a,b,c,xs,ys,rfl,q,q1,l1,q2,l2⟩:=net_un hx5
    have exl:xs.length=net.vs.length:=by rw[l1.length,List.length_map]
    have n1:=nok.lo
    have n2:=nok.hi
    refine⟨_,rfl,_,rfl,(show 1≤sizeLine by decide),fun o ho=>?_⟩
    have so:=aG.new (o:=HO.tup [.int 0]) ho
    refine⟨_,rfl,.inr (.inl ⟨a,_,0,_,rfl,rfl,so.tup q,rfl,b,xs,rfl,.inr (so.tup q1),o,_,[.int 0],rfl,rfl,bL.of aC,by omega,by omega,by simp,by decide,fun z H6 sm6 qz=>?_⟩)⟩
    have s56:=so.trans sm6
    have en:((xs.length:Nat):Int).toNat=net.vs.length:=by rw[exl];simp
    rw[en,rep0] at qz
    refine⟨.ref a,st,z,net,_,_,bI net.vs.length,_,rfl,Is.mono s56.ts _ _ hx5,Is.mono s56.ts _ _ hst5,.inl qz,nok,sok,zeros_l _,fun l p1 p2 H7 sm7 hl7 i1 i2=>?_⟩
    refine .inl ⟨l,_,0,_,rfl,rfl,bX.of hl7,rfl,?_⟩
    have s57:=s56.trans sm7
    refine⟨s5.trans s57,fun m hm=>?_,dd5.same s57,p1,_,i1,rfl⟩
    rcases (show m < i∨m=i by omega) with h | rfl
    ·exact hno m h
    ·exact hr
  ·rintro σ' H4 ⟨s4,hno,_⟩
   exact kL (fun i hi=>hno i (by omega)) _ s4
end
end Tw
namespace L2
open PySem PySem.Spec PyProof.Rows TwZ
inductive G where
 | non
 | bl (b:Bool)
 | int (i:Int)
 | str (z:Str)
 | tup (gs:List G)
 | lst (gs:List G)
mutual
noncomputable def aR (K:PySem.W.Frag) (H:Hp):G→V→Prop
 | .non,v=>v=.non
 | .bl b,v=>v=.bl b
 | .int i,v=>v=.int i
 | .str z,v=>v=.str z
 | .tup gs,v=>∃ a xs,v=.ref a∧bL K H a xs∧cX K H gs xs
 | .lst gs,v=>∃ a xs,v=.ref a∧bX K H a xs∧cX K H gs xs
noncomputable def cX (K:PySem.W.Frag) (H:Hp):List G→List V→Prop
 | [],vs=>vs=[]
 | g::gs,vs=>∃ v r,vs=v::r∧aR K H g v∧cX K H gs r
end
mutual
noncomputable def aX:G→G→Bool
 | .non,.non=>true
 | .bl a,.bl b=>a == b
 | .bl a,.int b=>(if a then 1 else 0) == b
 | .int a,.bl b=>a == (if b then 1 else 0)
 | .int a,.int b=>a == b
 | .str a,.str b=>a == b
 | .tup a,.tup b=>eqGL a b
 | .lst a,.lst b=>eqGL a b
 | _,_=>false
noncomputable def eqGL:List G→List G→Bool
 | [],[]=>true
 | a::as,b::bs=>aX a b && eqGL as bs
 | _,_=>false
end
mutual
noncomputable def depG:G→Nat
 | .tup gs=>depGL gs+1
 | .lst gs=>depGL gs+1
 | _=>0
noncomputable def depGL:List G→Nat
 | []=>0
 | g::gs=>max (depG g) (depGL gs)
end
mutual
theorem eqG_refl:∀ g:G,aX g g=true
 | .non=>by rw[aX]
 | .bl b=>by rw[aX];simp
 | .int i=>by rw[aX];simp
 | .str z=>by rw[aX];simp
 | .tup gs=>by rw[aX];exact eqGL_refl gs
 | .lst gs=>by rw[aX];exact eqGL_refl gs
theorem eqGL_refl:∀ gs:List G,eqGL gs gs=true
 | []=>by rw[eqGL]
 | g::gs=>by rw[eqGL,eqG_refl g,eqGL_refl gs];rfl
end
theorem cX.length {K:PySem.W.Frag}{H:Hp}:∀ {gs:List G}{xs:List V},cX K H gs xs→xs.length=gs.length
 | [],_,h=>by rw[cX] at h;subst h;rfl
 | g::gs,_,h=>by rw[cX] at h;obtain⟨v,r,rfl,_,h⟩:=h;rw[List.length_cons,List.length_cons,cX.length h]
theorem cX.get {K:PySem.W.Frag}{H:Hp}:∀ {gs:List G}{xs:List V}{i:Nat}{g:G},cX K H gs xs→gs[i]? = some g→∃ x,xs[i]? = some x∧aR K H g x
 | [],_,_,_,_,e=>by simp at e
 | g::gs,_,0,g',h,e=>by rw[cX] at h;obtain⟨v,r,rfl,h1,_⟩:=h;simp at e;subst e;exact⟨v,by simp,h1⟩
 | g::gs,_,i+1,g',h,e=>by
  rw[cX] at h;obtain⟨v,r,rfl,_,h⟩:=h
  obtain⟨x,h1,h2⟩:=cX.get h (i:=i) (by simpa using e)
  exact⟨x,by simpa using h1,h2⟩
theorem depGL_mem {g:G}:∀ {gs:List G},g∈gs→depG g≤depGL gs
 | [],h=>by cases h
 | a::gs,h=>by
  rw[depGL]
  rcases List.mem_cons.1 h with rfl | h
  ·omega
  ·have:=depGL_mem h;omega
noncomputable def eAt (gs hs:List G) (j:Nat):Bool:=match gs[j]?,hs[j]? with
 | some g,some h=>aX g h
 | _,_=>true
theorem range_all_succ (n:Nat) (e:Nat→Bool):(List.range (n+1)).all e=(e 0 && (List.range n).all fun j=>e (j+1)):=by
 rw[List.range_succ_eq_map,List.all_cons,List.all_map];rfl
theorem all_eAt:∀ (gs hs:List G),gs.length=hs.length→(List.range gs.length).all (eAt gs hs)=eqGL gs hs
 | [],[],_=>by rw[eqGL];rfl
 | [],_::_,h=>by simp at h
 | _::_,[],h=>by simp at h
 | g::gs,h::hs,hl=>by
  rw[List.length_cons,range_all_succ,eqGL,← all_eAt gs hs (by simpa using hl)]
  congr 1
theorem all_eAtT:∀ (gs hs:List G),((List.range (min gs.length hs.length)).all (eAt gs hs) && gs.length == hs.length)=eqGL gs hs
 | [],[]=>by rw[eqGL];rfl
 | [],_::_=>by simp [eqGL]
 | _::_,[]=>by simp [eqGL]
 | g::gs,h::hs=>by
  have e1:min (g::gs).length (h::hs).length=min gs.length hs.length+1:=by rw[List.length_cons,List.length_cons];omega
  have e2:((g::gs).length == (h::hs).length)=(gs.length == hs.length):=by simp
  rw[e1,e2,range_all_succ,eqGL,← all_eAtT gs hs,Bool.and_assoc]
  congr 1
theorem eqGL_len:∀ (gs hs:List G),gs.length≠hs.length→eqGL gs hs=false
 | [],[],h=>absurd rfl h
 | [],_::_,_=>by simp [eqGL]
 | _::_,[],_=>by simp [eqGL]
 | g::gs,h::hs,hl=>by rw[eqGL,eqGL_len gs hs (by simpa using hl),Bool.and_false]
theorem isTuple_uniq {h:Heap}{a:Addr}{xs ys:Array Value} (h1:h.IsTuple a xs) (h2:h.IsTuple a ys):xs=ys:=by
 obtain⟨o,e,_,n,d⟩:=h1
 obtain⟨o',e',_,n',d'⟩:=h2
 rw[e] at e'
 cases e'
 rw[d] at d'
 injection d'
theorem isList_uniq {h:Heap}{a:Addr}{xs ys:Array Value} (h1:h.IsList a xs) (h2:h.IsList a ys):xs=ys:=by
 obtain⟨o,e,_,n,d⟩:=h1
 obtain⟨o',e',_,n',d'⟩:=h2
 rw[e] at e'
 cases e'
 rw[d] at d'
 injection d'
section
variable {X:Cx}{pins:List (Addr×Obj)}{σ:St}{H:Hp}{s:Shared}
mutual
theorem uniqG (I:Inv X pins σ H s):∀ (g h:G) (x y:V) (u:Value),aR X.K H g x→aR X.K H h y→aY x u→aY y u→g=h
 | .non,h,x,y,u,hx,hy,rx,ry=>by
  rw[aR] at hx;subst hx;cases rx
  cases h <;> rw[aR] at hy
  ·subst hy;cases ry
  ·subst hy;obtain⟨_,e⟩:=ry;cases e
  ·subst hy;obtain⟨_,e⟩:=ry;cases e
  ·obtain⟨_,_,rfl,_⟩:=hy;cases ry
  ·obtain⟨_,_,rfl,_⟩:=hy;cases ry
 | .bl b,h,x,y,u,hx,hy,rx,ry=>by
  rw[aR] at hx;subst hx;cases rx
  cases h <;> rw[aR] at hy
  ·subst hy;cases ry
  ·subst hy;injection ry with e;rw[e]
  ·subst hy;obtain⟨_,e⟩:=ry;cases e
  ·subst hy;obtain⟨_,e⟩:=ry;cases e
  ·obtain⟨_,_,rfl,_⟩:=hy;cases ry
  ·obtain⟨_,_,rfl,_⟩:=hy;cases ry
 | .int b,h,x,y,u,hx,hy,rx,ry=>by
  rw[aR] at hx;subst hx;obtain⟨t,rfl⟩:=rx
  cases h <;> rw[aR] at hy
  ·subst hy;cases ry
  ·subst hy;cases ry
  ·subst hy;obtain⟨_,e⟩:=ry;injection e with e;rw[e]
  ·subst hy;obtain⟨_,e⟩:=ry;cases e
  ·obtain⟨_,_,rfl,_⟩:=hy;cases ry
  ·obtain⟨_,_,rfl,_⟩:=hy;cases ry
 | .str b,h,x,y,u,hx,hy,rx,ry=>by
  rw[aR] at hx;subst hx;obtain⟨t,rfl⟩:=rx
  cases h <;> rw[aR] at hy
  ·subst hy;cases ry
  ·subst hy;cases ry
  ·subst hy;obtain⟨_,e⟩:=ry;cases e
  ·subst hy;obtain⟨_,e⟩:=ry;injection e with e;rw[e]
  ·obtain⟨_,_,rfl,_⟩:=hy;cases ry
  ·obtain⟨_,_,rfl,_⟩:=hy;cases ry
 | .tup gs,h,x,y,u,hx,hy,rx,ry=>by
  rw[aR] at hx;obtain⟨a,xs,rfl,q1,l1⟩:=hx;cases rx
  cases h <;> rw[aR] at hy
  ·subst hy;cases ry
  ·subst hy;cases ry
  ·subst hy;obtain⟨_,e⟩:=ry;cases e
  ·subst hy;obtain⟨_,e⟩:=ry;cases e
  ·obtain⟨b,ys,rfl,q2,l2⟩:=hy;cases ry
   obtain⟨us,r1,p1,_⟩:=I.tuple q1
   obtain⟨vs,r2,p2,_⟩:=I.tuple q2
   have e:=isTuple_uniq p1 p2
   have e':us=vs:=by simpa using e
   subst e'
   rw[uniqGL I gs _ xs ys us l1 l2 r1 r2]
  ·obtain⟨b,ys,rfl,q2,l2⟩:=hy;cases ry
   obtain⟨us,r1,p1,_⟩:=I.tuple q1
   obtain⟨vs,r2,p2,_⟩:=I.list q2
   exact absurd rfl (SeqAt.ne_of_list_tuple p2.isList p1)
 | .lst gs,h,x,y,u,hx,hy,rx,ry=>by
  rw[aR] at hx;obtain⟨a,xs,rfl,q1,l1⟩:=hx;cases rx
  cases h <;> rw[aR] at hy
  ·subst hy;cases ry
  ·subst hy;cases ry
  ·subst hy;obtain⟨_,e⟩:=ry;cases e
  ·subst hy;obtain⟨_,e⟩:=ry;cases e
  ·obtain⟨b,ys,rfl,q2,l2⟩:=hy;cases ry
   obtain⟨us,r1,p1,_⟩:=I.list q1
   obtain⟨vs,r2,p2,_⟩:=I.tuple q2
   exact absurd rfl (SeqAt.ne_of_list_tuple p1.isList p2)
  ·obtain⟨b,ys,rfl,q2,l2⟩:=hy;cases ry
   obtain⟨us,r1,p1,_⟩:=I.list q1
   obtain⟨vs,r2,p2,_⟩:=I.list q2
   have e:=isList_uniq p1.isList p2.isList
   have e':us=vs:=by simpa using e
   subst e'
   rw[uniqGL I gs _ xs ys us l1 l2 r1 r2]
theorem uniqGL (I:Inv X pins σ H s):∀ (gs hs:List G) (xs ys:List V) (us:List Value),cX X.K H gs xs→cX X.K H hs ys→b0 xs us→b0 ys us→gs=hs
 | [],hs,xs,ys,us,h1,h2,r1,r2=>by
  rw[cX] at h1;subst h1;cases r1;cases r2
  cases hs with
  | nil=>rfl
  | cons h hs=>rw[cX] at h2;obtain⟨_,_,e,_⟩:=h2;cases e
 | g::gs,hs,xs,ys,us,h1,h2,r1,r2=>by
  rw[cX] at h1;obtain⟨x,r,rfl,i1,l1⟩:=h1
  cases r1 with
  | cons ra rb=>
   cases hs with
   | nil=>rw[cX] at h2;subst h2;cases r2
   | cons h hs=>
    rw[cX] at h2;obtain⟨y,r',rfl,i2,l2⟩:=h2
    cases r2 with
    | cons ra' rb'=>rw[uniqG I g h _ _ _ i1 i2 ra ra',uniqGL I gs hs _ _ _ l1 l2 rb rb']
end
theorem get_arr {us:List Value}{j:Nat}{w:Value} (h1:j < us.toArray.size) (h:us[j]? = some w):us.toArray[j]=w:=by
 have:us[j]? = some us.toArray[j]:=by simp
 rw[this] at h;exact Option.some.inj h
theorem el_eqAt {n:Nat}{gs hs:List G}{xs ys:List V}{us vs:List Value}{A:Around}
  (ih:∀ (g h:G) (x y:V) (u v:Value),g∈gs→aR X.K H g x→aR X.K H h y→aY x u→aY y v→SeqAt.EqAt A s u v (aX g h))
  (l1:cX X.K H gs xs) (l2:cX X.K H hs ys) (r1:b0 xs us) (r2:b0 ys vs) (j:Nat) (h1:j < us.toArray.size) (h2:j < vs.toArray.size):SeqAt.EqAt A s us.toArray[j] vs.toArray[j] (eAt gs hs j):=by
 have e1:=r1.length
 have e2:=r2.length
 have e3:=l1.length
 have e4:=l2.length
 have j1:j < gs.length:=by rw[← e3,e1];simpa using h1
 have j2:j < hs.length:=by rw[← e4,e2];simpa using h2
 obtain⟨x,gx,ix⟩:=l1.get (i:=j) (g:=gs[j]) (by simp)
 obtain⟨y,gy,iy⟩:=l2.get (i:=j) (g:=hs[j]) (by simp)
 obtain⟨w1,g1,t1⟩:=r1.get gx
 obtain⟨w2,g2,t2⟩:=r2.get gy
 rw[get_arr h1 g1,get_arr h2 g2]
 have:eAt gs hs j=aX gs[j] hs[j]:=by unfold eAt;simp [j1,j2]
 rw[this]
 exact ih _ _ x y w1 w2 (List.getElem_mem j1) ix iy t1 t2
end
section
variable {X:Cx}{pins:List (Addr×Obj)}{σ:St}{H:Hp}{s:Shared}
theorem eqAtG (I:Inv X pins σ H s):∀ (n:Nat) (g h:G) (A:Around) (x y:V) (u v:Value),depG g≤n→A.units+n < cLine→aR X.K H g x→aR X.K H h y→aY x u→aY y v→SeqAt.EqAt A s u v (aX g h)
 | n,.non,.non,A,x,y,u,v,hd,hu,hx,hy,rx,ry=>by
  rw[aR] at hx;subst hx;cases rx
  rw[aR] at hy;subst hy;cases ry
  rw[aX];exact SeqAt.EqAt.same _
 | n,.non,.bl gy,A,x,y,u,v,hd,hu,hx,hy,rx,ry=>by
  rw[aR] at hx;subst hx;cases rx
  rw[aR] at hy;subst hy;cases ry
  rw[show aX (.non) (.bl gy)=false from by simp [aX]];exact SeqAt.EqAt.none_bool gy
 | n,.non,.int gy,A,x,y,u,v,hd,hu,hx,hy,rx,ry=>by
  rw[aR] at hx;subst hx;cases rx
  rw[aR] at hy;subst hy;obtain⟨ty,rfl⟩:=ry
  rw[show aX (.non) (.int gy)=false from by simp [aX]];exact SeqAt.EqAt.none_int gy ty
 | n,.non,.str gy,A,x,y,u,v,hd,hu,hx,hy,rx,ry=>by
  rw[aR] at hx;subst hx;cases rx
  rw[aR] at hy;subst hy;obtain⟨ty,rfl⟩:=ry
  rw[show aX (.non) (.str gy)=false from by simp [aX]];exact SeqAt.EqAt.none_str gy ty
 | n,.non,.tup gy,A,x,y,u,v,hd,hu,hx,hy,rx,ry=>by
  rw[aR] at hx;subst hx;cases rx
  rw[aR] at hy;obtain⟨ay,xsy,rfl,qy,ly⟩:=hy;cases ry;obtain⟨usy,vy,py,_⟩:=I.tuple qy
  rw[show aX (.non) (.tup gy)=false from by simp [aX]];exact SeqAt.EqAt.none_tuple py (by omega)
 | n,.non,.lst gy,A,x,y,u,v,hd,hu,hx,hy,rx,ry=>by
  rw[aR] at hx;subst hx;cases rx
  rw[aR] at hy;obtain⟨ay,xsy,rfl,qy,ly⟩:=hy;cases ry;obtain⟨usy,vy,py,_⟩:=I.list qy
  rw[show aX (.non) (.lst gy)=false from by simp [aX]];exact SeqAt.EqAt.none_list py.isList (by omega)
 | n,.bl gx,.non,A,x,y,u,v,hd,hu,hx,hy,rx,ry=>by
  rw[aR] at hx;subst hx;cases rx
  rw[aR] at hy;subst hy;cases ry
  rw[show aX (.bl gx) (.non)=false from by simp [aX]];exact SeqAt.EqAt.bool_none gx
 | n,.bl gx,.bl gy,A,x,y,u,v,hd,hu,hx,hy,rx,ry=>by
  rw[aR] at hx;subst hx;cases rx
  rw[aR] at hy;subst hy;cases ry
  rw[aX];exact SeqAt.EqAt.bool_bool gx gy
 | n,.bl gx,.int gy,A,x,y,u,v,hd,hu,hx,hy,rx,ry=>by
  rw[aR] at hx;subst hx;cases rx
  rw[aR] at hy;subst hy;obtain⟨ty,rfl⟩:=ry
  rw[aX];exact SeqAt.EqAt.bool_int gx gy ty
 | n,.bl gx,.str gy,A,x,y,u,v,hd,hu,hx,hy,rx,ry=>by
  rw[aR] at hx;subst hx;cases rx
  rw[aR] at hy;subst hy;obtain⟨ty,rfl⟩:=ry
  rw[show aX (.bl gx) (.str gy)=false from by simp [aX]];exact SeqAt.EqAt.bool_str gx gy ty
 | n,.bl gx,.tup gy,A,x,y,u,v,hd,hu,hx,hy,rx,ry=>by
  rw[aR] at hx;subst hx;cases rx
  rw[aR] at hy;obtain⟨ay,xsy,rfl,qy,ly⟩:=hy;cases ry;obtain⟨usy,vy,py,_⟩:=I.tuple qy
  rw[show aX (.bl gx) (.tup gy)=false from by simp [aX]];exact SeqAt.EqAt.bool_tuple gx py (by omega)
 | n,.bl gx,.lst gy,A,x,y,u,v,hd,hu,hx,hy,rx,ry=>by
  rw[aR] at hx;subst hx;cases rx
  rw[aR] at hy;obtain⟨ay,xsy,rfl,qy,ly⟩:=hy;cases ry;obtain⟨usy,vy,py,_⟩:=I.list qy
  rw[show aX (.bl gx) (.lst gy)=false from by simp [aX]];exact SeqAt.EqAt.bool_list gx py.isList (by omega)
 | n,.int gx,.non,A,x,y,u,v,hd,hu,hx,hy,rx,ry=>by
  rw[aR] at hx;subst hx;obtain⟨tx,rfl⟩:=rx
  rw[aR] at hy;subst hy;cases ry
  rw[show aX (.int gx) (.non)=false from by simp [aX]];exact SeqAt.EqAt.int_none gx tx
 | n,.int gx,.bl gy,A,x,y,u,v,hd,hu,hx,hy,rx,ry=>by
  rw[aR] at hx;subst hx;obtain⟨tx,rfl⟩:=rx
  rw[aR] at hy;subst hy;cases ry
  rw[aX];exact SeqAt.EqAt.int_bool gx tx gy
 | n,.int gx,.int gy,A,x,y,u,v,hd,hu,hx,hy,rx,ry=>by
  rw[aR] at hx;subst hx;obtain⟨tx,rfl⟩:=rx
  rw[aR] at hy;subst hy;obtain⟨ty,rfl⟩:=ry
  rw[aX];exact SeqAt.EqAt.int_int gx tx gy ty
 | n,.int gx,.str gy,A,x,y,u,v,hd,hu,hx,hy,rx,ry=>by
  rw[aR] at hx;subst hx;obtain⟨tx,rfl⟩:=rx
  rw[aR] at hy;subst hy;obtain⟨ty,rfl⟩:=ry
  rw[show aX (.int gx) (.str gy)=false from by simp [aX]];exact SeqAt.EqAt.int_str gx tx gy ty
 | n,.int gx,.tup gy,A,x,y,u,v,hd,hu,hx,hy,rx,ry=>by
  rw[aR] at hx;subst hx;obtain⟨tx,rfl⟩:=rx
  rw[aR] at hy;obtain⟨ay,xsy,rfl,qy,ly⟩:=hy;cases ry;obtain⟨usy,vy,py,_⟩:=I.tuple qy
  rw[show aX (.int gx) (.tup gy)=false from by simp [aX]];exact SeqAt.EqAt.int_tuple gx tx py (by omega)
 | n,.int gx,.lst gy,A,x,y,u,v,hd,hu,hx,hy,rx,ry=>by
  rw[aR] at hx;subst hx;obtain⟨tx,rfl⟩:=rx
  rw[aR] at hy;obtain⟨ay,xsy,rfl,qy,ly⟩:=hy;cases ry;obtain⟨usy,vy,py,_⟩:=I.list qy
  rw[show aX (.int gx) (.lst gy)=false from by simp [aX]];exact SeqAt.EqAt.int_list gx tx py.isList (by omega)
 | n,.str gx,.non,A,x,y,u,v,hd,hu,hx,hy,rx,ry=>by
  rw[aR] at hx;subst hx;obtain⟨tx,rfl⟩:=rx
  rw[aR] at hy;subst hy;cases ry
  rw[show aX (.str gx) (.non)=false from by simp [aX]];exact SeqAt.EqAt.str_none gx tx
 | n,.str gx,.bl gy,A,x,y,u,v,hd,hu,hx,hy,rx,ry=>by
  rw[aR] at hx;subst hx;obtain⟨tx,rfl⟩:=rx
  rw[aR] at hy;subst hy;cases ry
  rw[show aX (.str gx) (.bl gy)=false from by simp [aX]];exact SeqAt.EqAt.str_bool gx tx gy
 | n,.str gx,.int gy,A,x,y,u,v,hd,hu,hx,hy,rx,ry=>by
  rw[aR] at hx;subst hx;obtain⟨tx,rfl⟩:=rx
  rw[aR] at hy;subst hy;obtain⟨ty,rfl⟩:=ry
  rw[show aX (.str gx) (.int gy)=false from by simp [aX]];exact SeqAt.EqAt.str_int gx tx gy ty
 | n,.str gx,.str gy,A,x,y,u,v,hd,hu,hx,hy,rx,ry=>by
  rw[aR] at hx;subst hx;obtain⟨tx,rfl⟩:=rx
  rw[aR] at hy;subst hy;obtain⟨ty,rfl⟩:=ry
  rw[aX];exact SeqAt.EqAt.str_str gx tx gy ty
 | n,.str gx,.tup gy,A,x,y,u,v,hd,hu,hx,hy,rx,ry=>by
  rw[aR] at hx;subst hx;obtain⟨tx,rfl⟩:=rx
  rw[aR] at hy;obtain⟨ay,xsy,rfl,qy,ly⟩:=hy;cases ry;obtain⟨usy,vy,py,_⟩:=I.tuple qy
  rw[show aX (.str gx) (.tup gy)=false from by simp [aX]];exact SeqAt.EqAt.str_tuple gx tx py (by omega)
 | n,.str gx,.lst gy,A,x,y,u,v,hd,hu,hx,hy,rx,ry=>by
  rw[aR] at hx;subst hx;obtain⟨tx,rfl⟩:=rx
  rw[aR] at hy;obtain⟨ay,xsy,rfl,qy,ly⟩:=hy;cases ry;obtain⟨usy,vy,py,_⟩:=I.list qy
  rw[show aX (.str gx) (.lst gy)=false from by simp [aX]];exact SeqAt.EqAt.str_list gx tx py.isList (by omega)
 | n,.tup gx,.non,A,x,y,u,v,hd,hu,hx,hy,rx,ry=>by
  rw[aR] at hx;obtain⟨ax,xsx,rfl,qx,lx⟩:=hx;cases rx;obtain⟨usx,vx,px,_⟩:=I.tuple qx
  rw[aR] at hy;subst hy;cases ry
  rw[show aX (.tup gx) (.non)=false from by simp [aX]];exact SeqAt.EqAt.tuple_none px (by omega)
 | n,.tup gx,.bl gy,A,x,y,u,v,hd,hu,hx,hy,rx,ry=>by
  rw[aR] at hx;obtain⟨ax,xsx,rfl,qx,lx⟩:=hx;cases rx;obtain⟨usx,vx,px,_⟩:=I.tuple qx
  rw[aR] at hy;subst hy;cases ry
  rw[show aX (.tup gx) (.bl gy)=false from by simp [aX]];exact SeqAt.EqAt.tuple_bool gy px (by omega)
 | n,.tup gx,.int gy,A,x,y,u,v,hd,hu,hx,hy,rx,ry=>by
  rw[aR] at hx;obtain⟨ax,xsx,rfl,qx,lx⟩:=hx;cases rx;obtain⟨usx,vx,px,_⟩:=I.tuple qx
  rw[aR] at hy;subst hy;obtain⟨ty,rfl⟩:=ry
  rw[show aX (.tup gx) (.int gy)=false from by simp [aX]];exact SeqAt.EqAt.tuple_int gy ty px (by omega)
 | n,.tup gx,.str gy,A,x,y,u,v,hd,hu,hx,hy,rx,ry=>by
  rw[aR] at hx;obtain⟨ax,xsx,rfl,qx,lx⟩:=hx;cases rx;obtain⟨usx,vx,px,_⟩:=I.tuple qx
  rw[aR] at hy;subst hy;obtain⟨ty,rfl⟩:=ry
  rw[show aX (.tup gx) (.str gy)=false from by simp [aX]];exact SeqAt.EqAt.tuple_str gy ty px (by omega)
 | 0,.tup gx,.tup gy,A,x,y,u,v,hd,_,_,_,_,_=>by rw[depG] at hd;omega
 | n+1,.tup gx,.tup gy,A,x,y,u,v,hd,hu,hx,hy,rx,ry=>by
  rw[aR] at hx;obtain⟨ax,xsx,rfl,qx,lx⟩:=hx;cases rx;obtain⟨usx,vx,px,_⟩:=I.tuple qx
  rw[aR] at hy;obtain⟨ay,xsy,rfl,qy,ly⟩:=hy;cases ry;obtain⟨usy,vy,py,_⟩:=I.tuple qy
  by_cases hab:ax=ay
  ·subst hab
   have e:=uniqG I (.tup gx) (.tup gy) (.ref ax) (.ref ax) _ (by rw[aR];exact⟨_,_,rfl,qx,lx⟩) (by rw[aR];exact⟨_,_,rfl,qy,ly⟩) rfl rfl
   rw[e,eqG_refl];exact SeqAt.EqAt.same _
  have e1:=vx.length
  have e2:=vy.length
  have e3:=lx.length
  have e4:=ly.length
  rw[show aX (.tup gx) (.tup gy)=eqGL gx gy from by rw[aX],← all_eAtT gx gy]
  have ex:gx.length=usx.toArray.size:=by rw[← e3,e1,List.size_toArray]
  have ey:gy.length=usy.toArray.size:=by rw[← e4,e2,List.size_toArray]
  rw[ex,ey]
  refine SeqAt.EqAt.of_refs hab ?_;exact SeqAt.RcAt.tuples px py (by omega) (fun j h1 h2=>el_eqAt (n:=0) (fun g h x y u v hm ix iy tx ty=>eqAtG I n g h A.in1 x y u v (by have:=depGL_mem hm;rw[depG] at hd;omega) (by show A.units+1+n < cLine;omega) ix iy tx ty) lx ly vx vy j h1 h2)
 | n,.tup gx,.lst gy,A,x,y,u,v,hd,hu,hx,hy,rx,ry=>by
  rw[aR] at hx;obtain⟨ax,xsx,rfl,qx,lx⟩:=hx;cases rx;obtain⟨usx,vx,px,_⟩:=I.tuple qx
  rw[aR] at hy;obtain⟨ay,xsy,rfl,qy,ly⟩:=hy;cases ry;obtain⟨usy,vy,py,_⟩:=I.list qy
  rw[show aX (.tup gx) (.lst gy)=false from by simp [aX]];exact SeqAt.EqAt.tuple_list px py.isList (by omega)
 | n,.lst gx,.non,A,x,y,u,v,hd,hu,hx,hy,rx,ry=>by
  rw[aR] at hx;obtain⟨ax,xsx,rfl,qx,lx⟩:=hx;cases rx;obtain⟨usx,vx,px,_⟩:=I.list qx
  rw[aR] at hy;subst hy;cases ry
  rw[show aX (.lst gx) (.non)=false from by simp [aX]];exact SeqAt.EqAt.list_none px.isList (by omega)
 | n,.lst gx,.bl gy,A,x,y,u,v,hd,hu,hx,hy,rx,ry=>by
  rw[aR] at hx;obtain⟨ax,xsx,rfl,qx,lx⟩:=hx;cases rx;obtain⟨usx,vx,px,_⟩:=I.list qx
  rw[aR] at hy;subst hy;cases ry
  rw[show aX (.lst gx) (.bl gy)=false from by simp [aX]];exact SeqAt.EqAt.list_bool gy px.isList (by omega)
 | n,.lst gx,.int gy,A,x,y,u,v,hd,hu,hx,hy,rx,ry=>by
  rw[aR] at hx;obtain⟨ax,xsx,rfl,qx,lx⟩:=hx;cases rx;obtain⟨usx,vx,px,_⟩:=I.list qx
  rw[aR] at hy;subst hy;obtain⟨ty,rfl⟩:=ry
  rw[show aX (.lst gx) (.int gy)=false from by simp [aX]];exact SeqAt.EqAt.list_int gy ty px.isList (by omega)
 | n,.lst gx,.str gy,A,x,y,u,v,hd,hu,hx,hy,rx,ry=>by
  rw[aR] at hx;obtain⟨ax,xsx,rfl,qx,lx⟩:=hx;cases rx;obtain⟨usx,vx,px,_⟩:=I.list qx
  rw[aR] at hy;subst hy;obtain⟨ty,rfl⟩:=ry
  rw[show aX (.lst gx) (.str gy)=false from by simp [aX]];exact SeqAt.EqAt.list_str gy ty px.isList (by omega)
 | n,.lst gx,.tup gy,A,x,y,u,v,hd,hu,hx,hy,rx,ry=>by
  rw[aR] at hx;obtain⟨ax,xsx,rfl,qx,lx⟩:=hx;cases rx;obtain⟨usx,vx,px,_⟩:=I.list qx
  rw[aR] at hy;obtain⟨ay,xsy,rfl,qy,ly⟩:=hy;cases ry;obtain⟨usy,vy,py,_⟩:=I.tuple qy
  rw[show aX (.lst gx) (.tup gy)=false from by simp [aX]];exact SeqAt.EqAt.list_tuple px.isList py (by omega)
 | 0,.lst gx,.lst gy,A,x,y,u,v,hd,_,_,_,_,_=>by rw[depG] at hd;omega
 | n+1,.lst gx,.lst gy,A,x,y,u,v,hd,hu,hx,hy,rx,ry=>by
  rw[aR] at hx;obtain⟨ax,xsx,rfl,qx,lx⟩:=hx;cases rx;obtain⟨usx,vx,px,_⟩:=I.list qx
  rw[aR] at hy;obtain⟨ay,xsy,rfl,qy,ly⟩:=hy;cases ry;obtain⟨usy,vy,py,_⟩:=I.list qy
  by_cases hab:ax=ay
  ·subst hab
   have e:=uniqG I (.lst gx) (.lst gy) (.ref ax) (.ref ax) _ (by rw[aR];exact⟨_,_,rfl,qx,lx⟩) (by rw[aR];exact⟨_,_,rfl,qy,ly⟩) rfl rfl
   rw[e,eqG_refl];exact SeqAt.EqAt.same _
  have e1:=vx.length
  have e2:=vy.length
  have e3:=lx.length
  have e4:=ly.length
  rw[show aX (.lst gx) (.lst gy)=eqGL gx gy from by rw[aX]]
  have ex:gx.length=usx.toArray.size:=by rw[← e3,e1,List.size_toArray]
  have ey:gy.length=usy.toArray.size:=by rw[← e4,e2,List.size_toArray]
  by_cases hl:gx.length=gy.length
  ·rw[← all_eAt gx gy hl,ex]
   refine SeqAt.EqAt.of_refs hab ?_;exact SeqAt.RcAt.lists px.isList py.isList (by omega) (by omega) (fun j h1 h2=>el_eqAt (n:=0) (fun g h x y u v hm ix iy tx ty=>eqAtG I n g h A.in1 x y u v (by have:=depGL_mem hm;rw[depG] at hd;omega) (by show A.units+1+n < cLine;omega) ix iy tx ty) lx ly vx vy j h1 h2)
  ·rw[eqGL_len gx gy hl]
   refine SeqAt.EqAt.of_refs hab ?_;exact SeqAt.RcAt.lists_lengths px.isList py.isList (by rw[← ex,← ey];simpa using hl) (by omega)
theorem rneG (I:Inv X pins σ H s) {A:Around} (hu:A.units+40 < cLine):∀ (g h:G) (x y:V) (u v:Value),depG g≤30→aR X.K H g x→aR X.K H h y→aY x u→aY y v→SeqAt.RcNeAt A s u v (!aX g h)
 | .non,.non,x,y,u,v,hd,hx,hy,rx,ry=>by
  rw[aR] at hx;subst hx;cases rx
  rw[aR] at hy;subst hy;cases ry
  rw[aX];exact SeqAt.RcNeAt.none_none
 | .non,.bl gy,x,y,u,v,hd,hx,hy,rx,ry=>by
  rw[aR] at hx;subst hx;cases rx
  rw[aR] at hy;subst hy;cases ry
  rw[show aX (.non) (.bl gy)=false from by simp [aX]];exact SeqAt.RcNeAt.none_bool gy
 | .non,.int gy,x,y,u,v,hd,hx,hy,rx,ry=>by
  rw[aR] at hx;subst hx;cases rx
  rw[aR] at hy;subst hy;obtain⟨ty,rfl⟩:=ry
  rw[show aX (.non) (.int gy)=false from by simp [aX]];exact SeqAt.RcNeAt.none_int gy ty
 | .non,.str gy,x,y,u,v,hd,hx,hy,rx,ry=>by
  rw[aR] at hx;subst hx;cases rx
  rw[aR] at hy;subst hy;obtain⟨ty,rfl⟩:=ry
  rw[show aX (.non) (.str gy)=false from by simp [aX]];exact SeqAt.RcNeAt.none_str gy ty
 | .non,.tup gy,x,y,u,v,hd,hx,hy,rx,ry=>by
  rw[aR] at hx;subst hx;cases rx
  rw[aR] at hy;obtain⟨ay,xsy,rfl,qy,ly⟩:=hy;cases ry;obtain⟨usy,vy,py,_⟩:=I.tuple qy
  rw[show aX (.non) (.tup gy)=false from by simp [aX]];exact SeqAt.RcNeAt.none_tuple py (by omega)
 | .non,.lst gy,x,y,u,v,hd,hx,hy,rx,ry=>by
  rw[aR] at hx;subst hx;cases rx
  rw[aR] at hy;obtain⟨ay,xsy,rfl,qy,ly⟩:=hy;cases ry;obtain⟨usy,vy,py,_⟩:=I.list qy
  rw[show aX (.non) (.lst gy)=false from by simp [aX]];exact SeqAt.RcNeAt.none_list py.isList (by omega)
 | .bl gx,.non,x,y,u,v,hd,hx,hy,rx,ry=>by
  rw[aR] at hx;subst hx;cases rx
  rw[aR] at hy;subst hy;cases ry
  rw[show aX (.bl gx) (.non)=false from by simp [aX]];exact SeqAt.RcNeAt.bool_none gx
 | .bl gx,.bl gy,x,y,u,v,hd,hx,hy,rx,ry=>by
  rw[aR] at hx;subst hx;cases rx
  rw[aR] at hy;subst hy;cases ry
  rw[aX];exact SeqAt.RcNeAt.bool_bool gx gy
 | .bl gx,.int gy,x,y,u,v,hd,hx,hy,rx,ry=>by
  rw[aR] at hx;subst hx;cases rx
  rw[aR] at hy;subst hy;obtain⟨ty,rfl⟩:=ry
  rw[aX];exact SeqAt.RcNeAt.bool_int gx gy ty
 | .bl gx,.str gy,x,y,u,v,hd,hx,hy,rx,ry=>by
  rw[aR] at hx;subst hx;cases rx
  rw[aR] at hy;subst hy;obtain⟨ty,rfl⟩:=ry
  rw[show aX (.bl gx) (.str gy)=false from by simp [aX]];exact SeqAt.RcNeAt.bool_str gx gy ty
 | .bl gx,.tup gy,x,y,u,v,hd,hx,hy,rx,ry=>by
  rw[aR] at hx;subst hx;cases rx
  rw[aR] at hy;obtain⟨ay,xsy,rfl,qy,ly⟩:=hy;cases ry;obtain⟨usy,vy,py,_⟩:=I.tuple qy
  rw[show aX (.bl gx) (.tup gy)=false from by simp [aX]];exact SeqAt.RcNeAt.bool_tuple gx py (by omega)
 | .bl gx,.lst gy,x,y,u,v,hd,hx,hy,rx,ry=>by
  rw[aR] at hx;subst hx;cases rx
  rw[aR] at hy;obtain⟨ay,xsy,rfl,qy,ly⟩:=hy;cases ry;obtain⟨usy,vy,py,_⟩:=I.list qy
  rw[show aX (.bl gx) (.lst gy)=false from by simp [aX]];exact SeqAt.RcNeAt.bool_list gx py.isList (by omega)
 | .int gx,.non,x,y,u,v,hd,hx,hy,rx,ry=>by
  rw[aR] at hx;subst hx;obtain⟨tx,rfl⟩:=rx
  rw[aR] at hy;subst hy;cases ry
  rw[show aX (.int gx) (.non)=false from by simp [aX]];exact SeqAt.RcNeAt.int_none gx tx
 | .int gx,.bl gy,x,y,u,v,hd,hx,hy,rx,ry=>by
  rw[aR] at hx;subst hx;obtain⟨tx,rfl⟩:=rx
  rw[aR] at hy;subst hy;cases ry
  rw[aX];exact SeqAt.RcNeAt.int_bool gx tx gy
 | .int gx,.int gy,x,y,u,v,hd,hx,hy,rx,ry=>by
  rw[aR] at hx;subst hx;obtain⟨tx,rfl⟩:=rx
  rw[aR] at hy;subst hy;obtain⟨ty,rfl⟩:=ry
  rw[aX];exact SeqAt.RcNeAt.int_int gx tx gy ty
 | .int gx,.str gy,x,y,u,v,hd,hx,hy,rx,ry=>by
  rw[aR] at hx;subst hx;obtain⟨tx,rfl⟩:=rx
  rw[aR] at hy;subst hy;obtain⟨ty,rfl⟩:=ry
  rw[show aX (.int gx) (.str gy)=false from by simp [aX]];exact SeqAt.RcNeAt.int_str gx tx gy ty
 | .int gx,.tup gy,x,y,u,v,hd,hx,hy,rx,ry=>by
  rw[aR] at hx;subst hx;obtain⟨tx,rfl⟩:=rx
  rw[aR] at hy;obtain⟨ay,xsy,rfl,qy,ly⟩:=hy;cases ry;obtain⟨usy,vy,py,_⟩:=I.tuple qy
  rw[show aX (.int gx) (.tup gy)=false from by simp [aX]];exact SeqAt.RcNeAt.int_tuple gx tx py (by omega)
 | .int gx,.lst gy,x,y,u,v,hd,hx,hy,rx,ry=>by
  rw[aR] at hx;subst hx;obtain⟨tx,rfl⟩:=rx
  rw[aR] at hy;obtain⟨ay,xsy,rfl,qy,ly⟩:=hy;cases ry;obtain⟨usy,vy,py,_⟩:=I.list qy
  rw[show aX (.int gx) (.lst gy)=false from by simp [aX]];exact SeqAt.RcNeAt.int_list gx tx py.isList (by omega)
 | .str gx,.non,x,y,u,v,hd,hx,hy,rx,ry=>by
  rw[aR] at hx;subst hx;obtain⟨tx,rfl⟩:=rx
  rw[aR] at hy;subst hy;cases ry
  rw[show aX (.str gx) (.non)=false from by simp [aX]];exact SeqAt.RcNeAt.str_none gx tx
 | .str gx,.bl gy,x,y,u,v,hd,hx,hy,rx,ry=>by
  rw[aR] at hx;subst hx;obtain⟨tx,rfl⟩:=rx
  rw[aR] at hy;subst hy;cases ry
  rw[show aX (.str gx) (.bl gy)=false from by simp [aX]];exact SeqAt.RcNeAt.str_bool gx tx gy
 | .str gx,.int gy,x,y,u,v,hd,hx,hy,rx,ry=>by
  rw[aR] at hx;subst hx;obtain⟨tx,rfl⟩:=rx
  rw[aR] at hy;subst hy;obtain⟨ty,rfl⟩:=ry
  rw[show aX (.str gx) (.int gy)=false from by simp [aX]];exact SeqAt.RcNeAt.str_int gx tx gy ty
 | .str gx,.str gy,x,y,u,v,hd,hx,hy,rx,ry=>by
  rw[aR] at hx;subst hx;obtain⟨tx,rfl⟩:=rx
  rw[aR] at hy;subst hy;obtain⟨ty,rfl⟩:=ry
  rw[aX];exact SeqAt.RcNeAt.str_str gx tx gy ty
 | .str gx,.tup gy,x,y,u,v,hd,hx,hy,rx,ry=>by
  rw[aR] at hx;subst hx;obtain⟨tx,rfl⟩:=rx
  rw[aR] at hy;obtain⟨ay,xsy,rfl,qy,ly⟩:=hy;cases ry;obtain⟨usy,vy,py,_⟩:=I.tuple qy
  rw[show aX (.str gx) (.tup gy)=false from by simp [aX]];exact SeqAt.RcNeAt.str_tuple gx tx py (by omega)
 | .str gx,.lst gy,x,y,u,v,hd,hx,hy,rx,ry=>by
  rw[aR] at hx;subst hx;obtain⟨tx,rfl⟩:=rx
  rw[aR] at hy;obtain⟨ay,xsy,rfl,qy,ly⟩:=hy;cases ry;obtain⟨usy,vy,py,_⟩:=I.list qy
  rw[show aX (.str gx) (.lst gy)=false from by simp [aX]];exact SeqAt.RcNeAt.str_list gx tx py.isList (by omega)
 | .tup gx,.non,x,y,u,v,hd,hx,hy,rx,ry=>by
  rw[aR] at hx;obtain⟨ax,xsx,rfl,qx,lx⟩:=hx;cases rx;obtain⟨usx,vx,px,_⟩:=I.tuple qx
  rw[aR] at hy;subst hy;cases ry
  rw[show aX (.tup gx) (.non)=false from by simp [aX]];exact SeqAt.RcNeAt.tuple_none px (by omega)
 | .tup gx,.bl gy,x,y,u,v,hd,hx,hy,rx,ry=>by
  rw[aR] at hx;obtain⟨ax,xsx,rfl,qx,lx⟩:=hx;cases rx;obtain⟨usx,vx,px,_⟩:=I.tuple qx
  rw[aR] at hy;subst hy;cases ry
  rw[show aX (.tup gx) (.bl gy)=false from by simp [aX]];exact SeqAt.RcNeAt.tuple_bool gy px (by omega)
 | .tup gx,.int gy,x,y,u,v,hd,hx,hy,rx,ry=>by
  rw[aR] at hx;obtain⟨ax,xsx,rfl,qx,lx⟩:=hx;cases rx;obtain⟨usx,vx,px,_⟩:=I.tuple qx
  rw[aR] at hy;subst hy;obtain⟨ty,rfl⟩:=ry
  rw[show aX (.tup gx) (.int gy)=false from by simp [aX]];exact SeqAt.RcNeAt.tuple_int gy ty px (by omega)
 | .tup gx,.str gy,x,y,u,v,hd,hx,hy,rx,ry=>by
  rw[aR] at hx;obtain⟨ax,xsx,rfl,qx,lx⟩:=hx;cases rx;obtain⟨usx,vx,px,_⟩:=I.tuple qx
  rw[aR] at hy;subst hy;obtain⟨ty,rfl⟩:=ry
  rw[show aX (.tup gx) (.str gy)=false from by simp [aX]];exact SeqAt.RcNeAt.tuple_str gy ty px (by omega)
 | .tup gx,.tup gy,x,y,u,v,hd,hx,hy,rx,ry=>by
  rw[aR] at hx;obtain⟨ax,xsx,rfl,qx,lx⟩:=hx;cases rx;obtain⟨usx,vx,px,_⟩:=I.tuple qx
  rw[aR] at hy;obtain⟨ay,xsy,rfl,qy,ly⟩:=hy;cases ry;obtain⟨usy,vy,py,_⟩:=I.tuple qy
  have e1:=vx.length
  have e2:=vy.length
  have e3:=lx.length
  have e4:=ly.length
  rw[show aX (.tup gx) (.tup gy)=eqGL gx gy from by rw[aX],← all_eAtT gx gy]
  have ex:gx.length=usx.toArray.size:=by rw[← e3,e1,List.size_toArray]
  have ey:gy.length=usy.toArray.size:=by rw[← e4,e2,List.size_toArray]
  rw[ex,ey]
  exact SeqAt.RcNeAt.tuples px py (by omega) (fun j h1 h2=>el_eqAt (n:=0) (fun g h x y u v hm ix iy tx ty=>eqAtG I 30 g h A.in1 x y u v (by have:=depGL_mem hm;rw[depG] at hd;omega) (by show A.units+1+30 < cLine;omega) ix iy tx ty) lx ly vx vy j h1 h2)
 | .tup gx,.lst gy,x,y,u,v,hd,hx,hy,rx,ry=>by
  rw[aR] at hx;obtain⟨ax,xsx,rfl,qx,lx⟩:=hx;cases rx;obtain⟨usx,vx,px,_⟩:=I.tuple qx
  rw[aR] at hy;obtain⟨ay,xsy,rfl,qy,ly⟩:=hy;cases ry;obtain⟨usy,vy,py,_⟩:=I.list qy
  rw[show aX (.tup gx) (.lst gy)=false from by simp [aX]];exact SeqAt.RcNeAt.tuple_list px py.isList (by omega)
 | .lst gx,.non,x,y,u,v,hd,hx,hy,rx,ry=>by
  rw[aR] at hx;obtain⟨ax,xsx,rfl,qx,lx⟩:=hx;cases rx;obtain⟨usx,vx,px,_⟩:=I.list qx
  rw[aR] at hy;subst hy;cases ry
  rw[show aX (.lst gx) (.non)=false from by simp [aX]];exact SeqAt.RcNeAt.list_none px.isList (by omega)
 | .lst gx,.bl gy,x,y,u,v,hd,hx,hy,rx,ry=>by
  rw[aR] at hx;obtain⟨ax,xsx,rfl,qx,lx⟩:=hx;cases rx;obtain⟨usx,vx,px,_⟩:=I.list qx
  rw[aR] at hy;subst hy;cases ry
  rw[show aX (.lst gx) (.bl gy)=false from by simp [aX]];exact SeqAt.RcNeAt.list_bool gy px.isList (by omega)
 | .lst gx,.int gy,x,y,u,v,hd,hx,hy,rx,ry=>by
  rw[aR] at hx;obtain⟨ax,xsx,rfl,qx,lx⟩:=hx;cases rx;obtain⟨usx,vx,px,_⟩:=I.list qx
  rw[aR] at hy;subst hy;obtain⟨ty,rfl⟩:=ry
  rw[show aX (.lst gx) (.int gy)=false from by simp [aX]];exact SeqAt.RcNeAt.list_int gy ty px.isList (by omega)
 | .lst gx,.str gy,x,y,u,v,hd,hx,hy,rx,ry=>by
  rw[aR] at hx;obtain⟨ax,xsx,rfl,qx,lx⟩:=hx;cases rx;obtain⟨usx,vx,px,_⟩:=I.list qx
  rw[aR] at hy;subst hy;obtain⟨ty,rfl⟩:=ry
  rw[show aX (.lst gx) (.str gy)=false from by simp [aX]];exact SeqAt.RcNeAt.list_str gy ty px.isList (by omega)
 | .lst gx,.tup gy,x,y,u,v,hd,hx,hy,rx,ry=>by
  rw[aR] at hx;obtain⟨ax,xsx,rfl,qx,lx⟩:=hx;cases rx;obtain⟨usx,vx,px,_⟩:=I.list qx
  rw[aR] at hy;obtain⟨ay,xsy,rfl,qy,ly⟩:=hy;cases ry;obtain⟨usy,vy,py,_⟩:=I.tuple qy
  rw[show aX (.lst gx) (.tup gy)=false from by simp [aX]];exact SeqAt.RcNeAt.list_tuple px.isList py (by omega)
 | .lst gx,.lst gy,x,y,u,v,hd,hx,hy,rx,ry=>by
  rw[aR] at hx;obtain⟨ax,xsx,rfl,qx,lx⟩:=hx;cases rx;obtain⟨usx,vx,px,_⟩:=I.list qx
  rw[aR] at hy;obtain⟨ay,xsy,rfl,qy,ly⟩:=hy;cases ry;obtain⟨usy,vy,py,_⟩:=I.list qy
  have e1:=vx.length
  have e2:=vy.length
  have e3:=lx.length
  have e4:=ly.length
  rw[show aX (.lst gx) (.lst gy)=eqGL gx gy from by rw[aX]]
  have ex:gx.length=usx.toArray.size:=by rw[← e3,e1,List.size_toArray]
  have ey:gy.length=usy.toArray.size:=by rw[← e4,e2,List.size_toArray]
  by_cases hl:gx.length=gy.length
  ·rw[← all_eAt gx gy hl,ex]
   exact SeqAt.RcNeAt.lists px.isList py.isList (by omega) (by omega) (fun j h1 h2=>el_eqAt (n:=0) (fun g h x y u v hm ix iy tx ty=>eqAtG I 30 g h A.in1 x y u v (by have:=depGL_mem hm;rw[depG] at hd;omega) (by show A.units+1+30 < cLine;omega) ix iy tx ty) lx ly vx vy j h1 h2)
  ·rw[eqGL_len gx gy hl]
   exact SeqAt.RcNeAt.lists_lengths px.isList py.isList (by rw[← ex,← ey];simpa using hl) (by omega)
noncomputable def rNeG (K:PySem.W.Frag):R2:=fun x y H Q=>∃ g h,depG g≤30∧aR K H g x∧aR K H h y∧Q (.bl (!aX g h)) H
theorem op_neG (hu:X.A.units+64 < cLine):OpR X (compareOp .NotEq) (rNeG X.K):=by
 intro pins s σ H x y v u Q I rx ry h
 obtain⟨g,h,hd,ix,iy,q⟩:=h
 exact rneG I (by omega) g h x y v u hd ix iy rx ry X.prog X.w X.xe _ ⟨.bl _,H,I,rfl,q⟩
theorem op_neGK {K:PySem.W.Frag} (hK:X.K=K) (hu:X.A.units+64 < cLine):OpR X (compareOp .NotEq) (rNeG K):=by subst hK;exact op_neG hu
end
section
variable {K:PySem.W.Frag}{H:Hp}
theorem cX.nil:cX K H [] []:=by rw[cX]
theorem cX.cons {g:G}{gs:List G}{x:V}{xs:List V} (h1:aR K H g x) (h2:cX K H gs xs):cX K H (g::gs) (x::xs):=by rw[cX];exact⟨x,xs,rfl,h1,h2⟩
theorem aR.i (i:Int):aR K H (.int i) (.int i):=by rw[aR]
theorem aR.l {a:Addr}{gs:List G}{xs:List V} (q:bX K H a xs) (l:cX K H gs xs):aR K H (.lst gs) (.ref a):=by rw[aR];exact⟨a,xs,rfl,q,l⟩
end
end L2
namespace L2
open PySem PySem.Spec PyProof.Rows TwZ
section
variable {X:Cx}
end
end L2
namespace L2
open PySem PySem.Spec PyProof.Rows TwZ
section
variable {X:Cx}{K:PySem.W.Frag}
end
end L2
namespace Tw
open PySem L2
section
variable {P:Program}{w:World}{K:PySem.W.Frag}{mg:Str→Option Value}{base:Heap}
end
end Tw
namespace Tw
open PySem L2
section
variable {P:Program}{w:World}{K:PySem.W.Frag}{mg:Str→Option Value}{base:Heap}{C c_TipError c_NoNet c_NoVessel c_TooLong c_TooMany c_TooMuch c_Nothing c_NoText c_NoRow:Addr}
end
end Tw
namespace Tw
open PySem L2
end Tw
namespace Tw
open PySem L2
noncomputable def cJ (fo:Option Nat) (i:Nat) (v:Vs):Vs:=if fo=some i then { v with size:=v.brim+1 } else v
noncomputable def cQ (vs:List Vs) (fo:Option Nat):List Vs:=vs.mapIdx fun i v=>cJ fo i v
noncomputable def b6 (net:Net) (fo:Option Nat):Net:=⟨cQ net.vs fo,net.sps⟩
noncomputable def fastV:Option Nat→V
 | none=>.non
 | some j=>.int (j:Int)
theorem stickL_len (vs:List Vs) (fo:Option Nat):(cQ vs fo).length=vs.length:=by unfold cQ;rw[List.length_mapIdx]
theorem stick_at {vs:List Vs} (fo:Option Nat) {i:Nat}{v:Vs} (h:vs[i]? = some v):(cQ vs fo)[i]? = some (cJ fo i v):=by unfold cQ;rw[List.getElem?_mapIdx,h];rfl
theorem stickV_acts (fo:Option Nat) (i:Nat) (v:Vs):(cJ fo i v).acts=v.acts:=by unfold cJ;split <;> rfl
theorem stickV_spill (fo:Option Nat) (i:Nat) (v:Vs):(cJ fo i v).spill=v.spill:=by unfold cJ;split <;> rfl
theorem stickV_here (fo:Option Nat) (i:Nat) (v:Vs) (h:Int):bM (cJ fo i v) h=bM v h:=by unfold cJ;split <;> rfl
theorem stick_yes {fo:Option Nat}{i:Nat}{v:Vs}{h:Int} (z:fo=some i):vTips (cJ fo i v) h=false:=by
 have:vTips { v with size:=v.brim+1 } h=false:=by
  unfold vTips bM
  rw[decide_eq_false]
  show ¬ v.brim+1≤min h v.brim
  omega
 unfold cJ
 rw[if_pos z];exact this
theorem stick_not {fo:Option Nat}{i:Nat}{v:Vs}{h:Int} (z:¬ fo≠some i):vTips (cJ fo i v) h=false:=stick_yes (Classical.not_not.1 z)
theorem fast_ne {fo:Option Nat}{i:Nat} (z:fo≠some i):(!decide (V.int (i:Int)=fastV fo))=true:=by
 cases fo with
 | none=>rfl
 | some j=>
  rw[Bool.not_eq_true',decide_eq_false]
  intro e
  injection e with e
  exact z (by congr 1;omega)
theorem scal_fast (fo:Option Nat) (i:Nat):scal (.int (i:Int)) (fastV fo)=true:=by cases fo <;> rfl
theorem stickN_none (net:Net):b6 net none=net:=by
 have:cQ net.vs none=net.vs:=by
  apply List.ext_getElem?
  intro i
  unfold cQ
  rw[List.getElem?_mapIdx]
  cases net.vs[i]? <;> rfl
 unfold b6
 rw[this]
section
variable {P:Program}{w:World}{K:PySem.W.Frag}{mg:Str→Option Value}{base:Heap}
noncomputable def spTickF (K:PySem.W.Frag):Sp:=fun args H Q _=>∃ (x y:V) (z:Addr) (net:Net) (held coming poured:List Int) (doors:List Bool) (fo:Option Nat),args=[x,y,.ref z,fastV fo]∧Is K H (netD net) x∧Is K H (stD held coming doors) y∧Sq2 K H z (poured.map V.int)∧
 NetOk net∧NetOk (b6 net fo)∧StOk net held coming doors∧poured.length=net.vs.length∧∀ (l:Addr) (p1 p2:V) H',aG H H'→H' l=some (.lst [p1,p2,.int (cN (b6 net fo) held coming poured doors).ground])→
  Is K H' (stD (cN (b6 net fo) held coming poured doors).held (cN (b6 net fo) held coming poured doors).coming (cN (b6 net fo) held coming poured doors).doors) p1→
  Is K H' (.tup ((cN (b6 net fo) held coming poured doors).tip.map fun (i:Nat)=>D.int (i:Int))) p2→Q (.ref l) H'
theorem ok__law_tickF {f fF:Addr}{fd fdF:FuncData} (F:Fun K "_law_tick" "_law_tick" (bD 25) f fd) (T:Txt mg) (G__law_filled:Callee P w K mg base "_law_filled" ["net","state","poured"] 1 (spFilledL K) fF fdF):FnOk P w K mg base CX0 2 f fd ["net","state","poured","fast"] (spTickF K):=by
 refine F.ok sc__law_tick (fun vs H Q E h=>?_) (fun cdv A outer s H vs Q E hr h=>?_)
 ·obtain⟨x,y,z,net,held,coming,poured,doors,fo,rfl,_⟩:=h;rfl
 ·obtain⟨x,y,z,net,held,coming,poured,doors,fo,rfl,hx,hy,qz,nok,nokw,sok,hpl,k⟩:=h
  have wl:(cQ net.vs fo).length=net.vs.length:=stickL_len _ _
  have wat:∀ {i:Nat}{v:Vs},net.vs[i]? = some v→(cQ net.vs fo)[i]? = some (cJ fo i v):=fun h=>stick_at fo h
  have wok:∀ v∈cQ net.vs fo,VOk net.vs.length net.sps.length v:=fun v hv=>by have:=nokw.vs v hv;rw[show (b6 net fo).vs.length=net.vs.length from wl] at this;exact this
  generalize hws:cQ net.vs fo=ws at wl wat wok
  have sc:=sc__law_tick
  refine⟨_,(aE (bF (i:=4) sc.nd rfl (Or.inl rfl) (pcG G__law_filled hr (aA (pv 0) (aA (pv 1) (aA (pv 2) aB)))))
   (aE (bF (i:=5) sc.nd rfl (Or.inr rfl) (dA aB))
   (aE (bF (i:=6) sc.nd rfl (Or.inl rfl) (dA aB))
   (aE (bF (i:=7) sc.nd rfl (Or.inl rfl) (dA aB))
   (aE (d9 PassesOwn.never rfl (cH rfl T.b_range (aA (aH (aQ (K:=K) rfl) rfl T.b_len PySem.boot_len (aA (aM (aF (K:=K) rfl) (pv 0) aD (fun _ _=>rfl)) aB)) aB)) (aJ (i:=8) sc.nd rfl (Or.inl rfl)) (aE (ps_asg (aM (aF (K:=K) rfl) (aM (aF (K:=K) rfl) (pv 0) aD (fun _ _=>rfl)) (pv 8) (fun _ _=>rfl)) (cD (K:=K) (n:=6) rfl rfl (aL (aJ (i:=9) sc.nd rfl (Or.inl rfl)) (aL (aJ (i:=10) sc.nd rfl (Or.inl rfl)) (aL (aJ (i:=11) sc.nd rfl (Or.inl rfl)) (aL (aJ (i:=12) sc.nd rfl (Or.inl rfl)) (aL (aJ (i:=13) sc.nd rfl (Or.inl rfl)) (aL (aJ (i:=14) sc.nd rfl (Or.inl rfl)) bY))))))))
   (aE (bF (i:=15) sc.nd rfl (Or.inr rfl) (aH (call_min2 rfl) rfl T.b_min PyProof.Rows.boot_min (aA (aM (aF (K:=K) rfl) (pv 4) (pv 8) (fun _ _=>rfl)) (aA (pv 10) aB))))
   (aE (ps_expr (pe_bmK (K:=K) rfl PySem.F.plainAttrs_list PySem.F.slot_list_append PySem.F.type_list_append cI (pv 5) (aA (bO (aA (pv 13) (aA (b9 op_sub (aM (aF (K:=K) rfl) (pv 4) (pv 8) (fun _ _=>rfl)) (pv 15)) aB))) aB)))
   (aE (bS (PW.pt (pw_and (bG op_ge (pv 15) (pv 9) (bP _)) (pw_and1 (bG op_ne (pv 8) (pv 3) (bP _))))) (aE (bF (i:=16) sc.nd rfl (Or.inr rfl) (aH (call_sumK (K:=K) rfl rfl) rfl T.b_sum PyProof.Rows.boot_sum (aA (pe_lc (fun _ _ h=>h) rfl (LcOk.mk (N':=["target","parts"]) (fr:=[none,none]) rfl trivial rfl rfl rfl rfl rfl trivial) (cY (K:=K) rfl (pv 11)) (fun _ _ _=>(cD (K:=K) (n:=2) rfl rfl (aL (aJ (i:=0) (show (["target","parts"]:List Str).Nodup by decide +kernel) rfl (Or.inl rfl) (Or.inr rfl)) (aL (aJ (i:=1) (show (["target","parts"]:List Str).Nodup by decide +kernel) rfl (Or.inl rfl) (Or.inr rfl)) bY)))) (fun _ _ _=>pif_nil) (fun _ _ _=>(pv 1))) aB)))
   (aE (bF (i:=5) sc.nd rfl (Or.inr rfl) (b9 op_cat (pv 5) (pe_lc (fun _ _ h=>h) rfl (LcOk.mk (N':=["target","parts","here","whole"]) (fr:=[none,none,some 15,some 16]) rfl ⟨rfl,rfl,trivial⟩ rfl rfl rfl rfl rfl ⟨⟨_,rfl,rfl,rfl,rfl⟩,⟨_,rfl,rfl,rfl,rfl⟩,trivial⟩) (cY (K:=K) rfl (pv 11)) (fun _ _ _=>(cD (K:=K) (n:=2) rfl rfl (aL (aJ (i:=0) (show (["target","parts","here","whole"]:List Str).Nodup by decide +kernel) rfl (Or.inl rfl) (Or.inr rfl)) (aL (aJ (i:=1) (show (["target","parts","here","whole"]:List Str).Nodup by decide +kernel) rfl (Or.inl rfl) (Or.inr rfl)) bY)))) (fun _ _ _=>pif_nil) (fun _ _ _=>(bO (aA (pv 0) (aA (b9 op_mul (b9 op_fdiv (pv 2) (pv 3)) (pv 1)) aB)))))))
   (aE (bF (i:=15) sc.nd rfl (Or.inr rfl) (b9 op_mod (pv 15) (pv 16)))
   (aE (ps_expr (pe_bmK (K:=K) rfl PySem.F.plainAttrs_list PySem.F.slot_list_append PySem.F.type_list_append cI (pv 6) (aA (pv 8) aB)))
   (aI (bS (aZ (b7 (pv 12))) (aE (ps_expr (pe_bmK (K:=K) rfl PySem.F.plainAttrs_list PySem.F.slot_list_append PySem.F.type_list_append cI (pv 5) (aA (bO (aA pe_non (aA (pv 15) aB))) aB)))
   (aI (bF (i:=15) sc.nd rfl (Or.inr rfl) aD))) aT)))))) aT)
   (aI (ps_expr (pe_bmK (K:=K) rfl PySem.F.plainAttrs_list PySem.F.slot_list_append PySem.F.type_list_append cI (pv 7) (aA (pv 15) aB)))))))))
   (aE (bF (i:=17) sc.nd rfl (Or.inl rfl) (cA (call_lstK (K:=K) rfl) rfl T.b_list bt_list (aA (aM (aF (K:=K) rfl) (pv 1) aD (fun _ _=>rfl)) aB)))
   (aE (d9 PassesOwn.never rfl (pi_listK (K:=K) rfl (pv 6)) (aJ (i:=8) sc.nd rfl (Or.inl rfl)) (aI (d9 PassesOwn.never rfl (cY (K:=K) rfl (aM (aF (K:=K) rfl) (aM (aF (K:=K) rfl) (aM (aF (K:=K) rfl) (pv 0) aD (fun _ _=>rfl)) (pv 8) (fun _ _=>rfl)) aD (fun _ _=>rfl))) (cD (K:=K) (n:=2) rfl rfl (aL (aJ (i:=18) sc.nd rfl (Or.inl rfl)) (aL (aJ (i:=19) sc.nd rfl (Or.inl rfl)) bY))) (aI (ps_asg (aM (aF (K:=K) rfl) (dA (aA (pe_not (aM (aF (K:=K) rfl) (pv 17) (pv 19) (fun _ _=>rfl))) (aA bT (aA bT aB)))) (pe_bmK (K:=K) rfl PySem.F.plainAttrs_list PySem.F.slot_list_index PySem.F.type_list_index mt_index (dA (aA pe_str (aA pe_str (aA pe_str aB)))) (aA (pv 18) aB)) (fun _ _=>rfl)) (pg_sub (pv 17) (pv 19) set_list))))))
   (aE (ps_set_lcD (i:=20) sc.nd rfl rfl (fun _ _ h=>h) rfl (LcOk2.mk (N':=["k","goes"]) (fr:=[none,some 5]) rfl ⟨rfl,trivial⟩ rfl rfl rfl rfl rfl ⟨⟨_,rfl,rfl,rfl,rfl⟩,trivial⟩) (cH rfl T.b_range (aA (aH (aQ (K:=K) rfl) rfl T.b_len PySem.boot_len (aA (aM (aF (K:=K) rfl) (pv 0) aD (fun _ _=>rfl)) aB)) aB)) (fun _ _ _=>(aJ (i:=0) (show (["k","goes"]:List Str).Nodup by decide +kernel) rfl (Or.inr rfl) (Or.inl rfl))) (fun _ _ _=>pif_nil) (fun _ _ _=>(aH (call_sumK (K:=K) rfl rfl) rfl T.b_sum PyProof.Rows.boot_sum (aA (pe_lc (fun _ _ h=>h) rfl (LcOk.mk (N':=["target","amount","k"]) (fr:=[none,none,some 0]) rfl ⟨rfl,trivial⟩ rfl rfl rfl rfl rfl ⟨⟨_,rfl,rfl,rfl,rfl⟩,trivial⟩) (pi_listK (K:=K) rfl (pv 1)) (fun _ _ _=>(cD (K:=K) (n:=2) rfl rfl (aL (aJ (i:=0) (show (["target","amount","k"]:List Str).Nodup by decide +kernel) rfl (Or.inl rfl) (Or.inr rfl)) (aL (aJ (i:=1) (show (["target","amount","k"]:List Str).Nodup by decide +kernel) rfl (Or.inl rfl) (Or.inr rfl)) bY)))) (fun _ _ _=>pif_one (bG op_eq (pv 0) (pv 2) (bP _))) (fun _ _ _=>(pv 1))) aB))))
   (aE (bF (i:=21) sc.nd rfl (Or.inl rfl) (aH (call_sumK (K:=K) rfl rfl) rfl T.b_sum PyProof.Rows.boot_sum (aA (pe_lc (fun _ _ h=>h) rfl (LcOk.mk (N':=["target","amount"]) (fr:=[none,none]) rfl trivial rfl rfl rfl rfl rfl trivial) (pi_listK (K:=K) rfl (pv 5)) (fun _ _ _=>(cD (K:=K) (n:=2) rfl rfl (aL (aJ (i:=0) (show (["target","amount"]:List Str).Nodup by decide +kernel) rfl (Or.inl rfl) (Or.inr rfl)) (aL (aJ (i:=1) (show (["target","amount"]:List Str).Nodup by decide +kernel) rfl (Or.inl rfl) (Or.inr rfl)) bY)))) (fun _ _ _=>pif_one (bG op_isN (pv 0) pe_non (bP _))) (fun _ _ _=>(pv 1))) aB)))
   (aI (aS (dA (aA (bO (aA (cA (call_tupK (K:=K) rfl) rfl T.b_tuple bV (aA (pv 7) aB)) (aA (cA (call_tupK (K:=K) rfl) rfl T.b_tuple bV (aA (pv 20) aB)) (aA (cA (call_tupK (K:=K) rfl) rfl T.b_tuple bV (aA (pv 17) aB)) aB)))) (aA (cA (call_tupK (K:=K) rfl) rfl T.b_tuple bV (aA (pv 6) aB)) (aA (pv 21) aB))))))))))))))),?_⟩
  obtain⟨a,b,c,xs,ys,rfl,q,q1,l1,q2,l2⟩:=net_un hx
  obtain⟨ay,a1,a2,a3,rfl,qy,p1,p2,p3⟩:=st_un hy
  have exl:xs.length=net.vs.length:=by rw[l1.length,List.length_map]
  have n1:=nok.lo
  have n2:=nok.hi
  have n3:=nok.sp
  have hn:((xs.length:Nat):Int).toNat=net.vs.length:=by rw[exl];simp
  have hsl:(aN net held coming poured doors).length=net.vs.length:=by
   unfold aN;rw[fillL_len,add3_len sok.h sok.c hpl]
  have hgl60:(bH ws (aN net held coming poured doors)).length≤60:=by
   have:=goesL_len ws (aN net held coming poured doors) wok;omega
  have hgt:∀ i,(bH (ws.take i) ((aN net held coming poured doors).take i)).length≤60:=fun i=>by
   have h1:=goesL_len (ws.take i) ((aN net held coming poured doors).take i) fun v hv=>wok v (List.mem_of_mem_take hv)
   have h2:(ws.take i).length≤12:=by rw[List.length_take];omega
   omega
  have htt:∀ i,(aU 0 (ws.take i) ((aN net held coming poured doors).take i)).length≤12:=fun i=>by
   have h1:=tipsL_len (ws.take i) ((aN net held coming poured doors).take i) 0
   have h2:(ws.take i).length≤12:=by rw[List.length_take];omega
   omega
  have hst:∀ i,(cC (ws.take i) ((aN net held coming poured doors).take i)).length≤12:=fun i=>by
   rw[staysL_len _ _ (by rw[List.length_take,List.length_take,hsl,wl]),List.length_take];omega
  refine⟨_,rfl,_,rfl,_,rfl,.ref a,.ref ay,z,net,held,coming,poured,doors,rfl,hx,hy,qz,nok,sok,hpl,fun hl H1 sm1 fr1 hH1=>?_⟩
  refine⟨Nat.zero_le _,fun gl hgl=>⟨Nat.zero_le _,fun tl htl=>⟨Nat.zero_le _,fun sl hsl'=>?_⟩⟩⟩
  have ft:H1 tl=none:=aG.free (aG.new hgl) htl
  have fs:H1 sl=none:=aG.free (aG.new hgl) (aG.free (aG.new htl) hsl')
  have nts:tl≠sl:=aP (show upd _ tl (.lst []) tl=_ from aC) hsl'
  have ngt:gl≠tl:=aP (show upd H1 gl (.lst []) gl=_ from aC) htl
  have ngs:gl≠sl:=aP (show upd (upd H1 gl (.lst [])) tl (.lst []) gl=some (.lst []) by rw[aO ngt];exact aC) hsl'
  refine⟨_,rfl,.inr (.inl ⟨a,_,0,_,rfl,rfl,((((sm1.trans (aG.new hgl)).trans (aG.new htl)).trans (aG.new hsl')).tup q),rfl,b,xs,rfl,.inr ((((sm1.trans (aG.new hgl)).trans (aG.new htl)).trans (aG.new hsl')).tup q1),_,rfl,by omega,by omega,?_⟩)⟩
  rw[hn]
  refine for_range (lo:=0) (n:=net.vs.length) (fun i σ' H'=>aG H1 H'∧H' tl=some (.lst ((aU 0 (ws.take i) ((aN net held coming poured doors).take i)).map fun (j:Nat)=>V.int (j:Int)))∧
   H' sl=some (.lst ((cC (ws.take i) ((aN net held coming poured doors).take i)).map V.int))∧∃ (gl:Addr) (gxs:List V),H1 gl=none∧gl≠tl∧gl≠sl∧H' gl=some (.lst gxs)∧L2.IsL K H' ((bH (ws.take i) ((aN net held coming poured doors).take i)).map outD) gxs∧
   ∃ v8 v9 v10 v11 v12 v13 v14 v15 v16,σ'=[some (.ref a),some (.ref ay),some (.ref z),some (fastV fo),some (.ref hl),some (.ref gl),some (.ref tl),some (.ref sl),v8,v9,v10,v11,v12,v13,v14,v15,v16,none,none,none,none,none]) ?_ ?_ ?_
  ·refine⟨((aG.new hgl).trans (aG.new htl)).trans (aG.new hsl'),by rw[aO nts,aC];simp [aU],by rw[aC];simp [cC],gl,[],hgl,ngt,ngs,by rw[aO ngs,aO ngt,aC],?_,none,none,none,none,none,none,none,none,none,rfl⟩
   simp only [List.take_zero,bH,List.map_nil];exact .nil
  ·rintro i σ' H2 hi ⟨sm,ht2,hs2,gl,gxs,fg,ngt,ngs,hg2,ig2,v8,v9,v10,v11,v12,v13,v14,v15,v16,rfl⟩
   rw[Int.zero_add]
   have hv:net.vs[i]? = some net.vs[i]:=by simp [hi]
   have vok:=nok.vs net.vs[i] (List.getElem_mem hi)
   have hil:i < (aN net held coming poured doors).length:=by rw[hsl];exact hi
   have hhi:(aN net held coming poured doors)[i]? = some ((aN net held coming poured doors)[i]'hil):=by simp
   generalize hh:(aN net held coming poured doors)[i]'hil=h at hhi
   have hhm:((aN net held coming poured doors).map V.int)[i]? = some (.int h):=by rw[List.getElem?_map,hhi];rfl
   have sA:aG H H2:=sm1.trans sm
   have s1:=staysL_snoc ws (aN net held coming poured doors) i _ _ (wat hv) hhi
   have s2:=tipsL_snoc ws (aN net held coming poured doors) i 0 _ _ (wat hv) hhi
   have s3:=goesL_snoc ws (aN net held coming poured doors) i _ _ (wat hv) hhi
   generalize hvv:net.vs[i]=v at hv vok s1 s2 s3
   obtain⟨xv,hxv,ixv⟩:=l1.get (i:=i) (d:=vsD v) (by rw[List.getElem?_map,hv];rfl)
   obtain⟨va,o,cc,rfl,qv,ho,hc⟩:=vs_un ixv
   obtain⟨oa,os,rfl,qo,lo⟩:=ho.un
   have eol:os.length=v.outs.length:=by rw[lo.length,List.length_map]
   have hw1:=whole_pos vok.ne vok.outs
   have hw2:=whole_le vok.outs
   have ho3:=vok.o3
   refine⟨_,rfl,.inr (.inl ⟨a,_,0,_,rfl,rfl,sA.tup q,rfl,_,rfl,.inr (.inl ⟨b,xs,(i:Int),_,rfl,rfl,sA.tup q1,cF hxv,va,_,rfl,sA.tup qv,rfl,_,_,rfl,_,_,rfl,_,_,rfl,_,_,rfl,_,_,rfl,_,_,rfl,rfl,?_⟩)⟩)⟩
   refine⟨_,rfl,_,rfl,.inl ⟨hl,_,(i:Int),_,rfl,rfl,bX.of (sm _ _ hH1),cF hhm,_,rfl,_,_,rfl,?_⟩⟩
   have eh:(if v.brim < h then v.brim else h)=bM v h:=by unfold bM;split <;> omega
   rw[eh]
   refine⟨_,rfl,.inl ⟨rfl,_,bX.of hg2⟩,_,rfl,_,rfl,_,rfl,.inl ⟨hl,_,(i:Int),_,rfl,rfl,bX.of (sm _ _ hH1),cF hhm,_,rfl,_,_,rfl,rfl,(show 2≤sizeLine by decide),fun gq hgq=>?_⟩⟩
   have ngq:gl≠gq:=aP hg2 hgq
   have hgxl:gxs.length=(bH (ws.take i) ((aN net held coming poured doors).take i)).length:=by rw[ig2.length,List.length_map]
   have hg60:=hgt i
   refine⟨gl,gxs,_,rfl,rfl,by rw[aO ngq];exact hg2,aW (by omega),?_⟩
   obtain⟨sm3,hg3,ig3,kp3⟩:=goes_put sm fg hg2 ig2 hgq v.spill (h - bM v h)
   have ht3:=kp3 tl _ (Ne.symm ngt) ht2
   have hs3:=kp3 sl _ (Ne.symm ngs) hs2
   generalize upd (upd H2 gq (.tup [tgV v.spill,.int (h - bM v h)])) gl (.lst (gxs++[.ref gq]))=H3 at sm3 hg3 ig3 kp3 ht3 hs3 ⊢
   have sA3:aG H H3:=sm1.trans sm3
   dsimp only [tSeq,tAsg,tC,gName]
   refine if_by (fun σ' H'=>aG H1 H'∧H' tl=some (.lst ((aU 0 (ws.take (i+1)) ((aN net held coming poured doors).take (i+1))).map fun (j:Nat)=>V.int (j:Int)))∧
    H' sl=some (.lst ((cC (ws.take i) ((aN net held coming poured doors).take i)).map V.int))∧∃ (gl:Addr) (gxs:List V),H1 gl=none∧gl≠tl∧gl≠sl∧H' gl=some (.lst gxs)∧L2.IsL K H' ((bH (ws.take (i+1)) ((aN net held coming poured doors).take (i+1))).map outD) gxs∧
    ∃ v8 v9 v10 v11 v12 v13 v14 v16,σ'=[some (.ref a),some (.ref ay),some (.ref z),some (fastV fo),some (.ref hl),some (.ref gl),some (.ref tl),some (.ref sl),v8,v9,v10,v11,v12,v13,v14,some (.int (vStay (cJ fo i v) h)),v16,none,none,none,none,none]) (fun D' hD=>?_) ?_
   ·refine⟨_,rfl,_,rfl,_,_,rfl,rfl,_,rfl,?_⟩
    have other:∀ σ'',(∃ v8 v9 v10 v11 v12 v13 v14 v16,σ''=[some (.ref a),some (.ref ay),some (.ref z),some (fastV fo),some (.ref hl),some (.ref gl),some (.ref tl),some (.ref sl),v8,v9,v10,v11,v12,v13,v14,some (.int (bM v h)),v16,none,none,none,none,none])→vTips (cJ fo i v) h=false→D'.nx σ'' H3:=by
     rintro σ'' ⟨v8,v9,v10,v11,v12,v13,v14,v16,rfl⟩ tips
     have es:bM v h=vStay (cJ fo i v) h:=by unfold vStay;rw[tips,stickV_here];rfl
     have eg:vGoes (cJ fo i v) h=[(v.spill,h - bM v h)]:=by unfold vGoes;rw[tips,stickV_here,stickV_spill];rfl
     rw[tips,if_neg Bool.false_ne_true,List.append_nil] at s2
     exact hD _ _ ⟨sm3,by rw[s2];exact ht3,hs3,gl,_,fg,ngt,ngs,hg3,by rw[s3,eg];exact ig3,_,_,_,_,_,_,_,_,by rw[← es]⟩
    refine ite2 (fun hge=>?_) (fun hlt=>bQ ?_)
    ·refine⟨_,rfl,_,rfl,scal_fast fo i,_,rfl,?_⟩
     refine ite2 (fun hnf=>?_) (fun hst=>other _ ⟨_,_,_,_,_,_,_,_,rfl⟩ (stick_not fun z=>hst (fast_ne z)))
     have ev:cJ fo i v=v:=if_neg fun z=>by rw[z] at hnf;simp [fastV] at hnf
     rw[ev] at s1 s2 s3 hD
     have tips:vTips v h=true:=hge
     refine⟨_,rfl,oa,rfl,⟨_,sA3.tup qo⟩,lc_tup (K:=K) (a:=oa) (xs:=os) (fun D j ys σ' H'=>H3 D=none∧aG H3 H'∧H' D=some (.lst ys)∧ys=(v.outs.take j).map (fun x=>V.int x.2)∧∃ x y,σ'=[x,y])
      (fun D j ys σ' H' p=>p.2.1.tup (sA3.tup qo)) (fun D hD=>⟨hD,aG.new hD,aC,by simp,none,none,rfl⟩) ?_ ?_⟩
     rotate_left
     ·rintro D j x ys σ' H' hx ⟨hD,smx,hDl,rfl,v1,v2,rfl⟩
      obtain⟨ot,hot,oq,rfl,qa⟩:=outs_at lo hx
      have hjl:=(List.getElem?_eq_some_iff.mp hot).1
      refine⟨oq,_,rfl,smx.tup (sA3.tup qa),rfl,_,_,rfl,_,_,rfl,rfl,?_⟩
      refine yes_of ⟨_,rfl,hDl,aW (by simp;omega),hD,smx.put hD,aC,?_,_,_,rfl⟩
      rw[bE hot];simp
     rintro D ys σ' H4 ⟨hD4,sm4,hDl,rfl,_⟩
     rw[eol,List.take_length] at hDl
     refine⟨false,D,v.outs.map (·.2),rfl,bX.of (by rw[List.map_map];exact hDl),?_⟩
     have ew:(v.outs.map (·.2)).sum=whole v.outs:=rfl
     rw[ew]
     have sA4:aG H H4:=sA3.trans sm4
     refine⟨_,rfl,_,rfl,oa,rfl,⟨_,sA4.tup qo⟩,lc_tup (K:=K) (a:=oa) (xs:=os) (fun D j ys σ' H'=>H4 D=none∧aG H4 H'∧H' D=some (.lst ys)∧L2.IsL K H' (((shared v (bM v h)).take j).map outD) ys∧∃ x y,σ'=[x,y,some (.int (bM v h)),some (.int (whole v.outs))])
      (fun D j ys σ' H' p=>p.2.1.tup (sA4.tup qo)) (fun D hD=>⟨hD,aG.new hD,aC,by simp only [List.take_zero,List.map_nil];exact .nil,none,none,rfl⟩) ?_ ?_⟩
     rotate_left
     ·rintro D j x ys σ' H' hx ⟨hD,smx,hDl,hys,v1,v2,rfl⟩
      obtain⟨ot,hot,oq,rfl,qa⟩:=outs_at lo hx
      have hjl:=(List.getElem?_eq_some_iff.mp hot).1
      have hom:=vok.outs ot (List.mem_of_getElem? hot)
      refine⟨oq,_,rfl,smx.tup (sA4.tup qa),rfl,_,_,rfl,_,_,rfl,rfl,?_⟩
      refine yes_of ⟨_,rfl,_,rfl,_,rfl,_,_,rfl,rfl,⟨by omega,by omega⟩,_,rfl,_,_,rfl,rfl,.inr ⟨by have:=hom.lo;omega,by have:=hom.hi;omega⟩,(show 2≤sizeLine by decide),fun tq htq=>?_⟩
      have nD:D≠tq:=aP hDl htq
      have hysl:ys.length≤3:=by rw[hys.length,List.length_map,List.length_take];unfold shared;rw[List.length_map];omega
      have mt:Mut (upd H' tq (.tup [tgV ot.1,.int (bM v h / whole v.outs * ot.2)]) D):=by rw[aO nD,hDl];exact trivial
      have hsh:(shared v (bM v h))[j]? = some (ot.1,bM v h / whole v.outs * ot.2):=by unfold shared;rw[List.getElem?_map,hot];rfl
      refine⟨by rw[aO nD];exact hDl,aW (by omega),hD,fun b o e=>by rw[aO (aP e hD)];exact aG.new htq b o (smx b o e),aC,?_,_,_,rfl⟩
      rw[bE hsh,List.map_append]
      exact L2.IsL.snoc (Is.tupOf (ds:=[tgD ot.1,.int (bM v h / whole v.outs * ot.2)]) (bW.put (bW.refl _) (.inr mt) _ _ (bL.of aC)) (.cons (Is.tgOf _) (.cons (Is.i _) .nil))) (L2.IsL.mono (bW.put (aG.new htq).ts (.inr mt)) _ _ hys)
     rintro D2 ys σ' H5 ⟨hD5,sm5,hD5l,hys,_⟩
     have esh:(shared v (bM v h)).length=os.length:=by unfold shared;rw[List.length_map,eol]
     rw[List.take_of_length_le (Nat.le_of_eq esh)] at hys
     have hysl:ys.length≤3:=by rw[hys.length,List.length_map,esh,eol];exact ho3
     have hg5:=sm5 _ _ (sm4 _ _ hg3)
     refine⟨gl,D2,gxs++[.ref gq],ys,rfl,rfl,hg5,hD5l,Nat.le_of_lt (aW (by simp;omega)),fun gl2 hgl2=>?_⟩
     have fg2:H1 gl2=none:=aG.free (sm3.trans (sm4.trans sm5)) hgl2
     have ht5:=sm5 _ _ (sm4 _ _ ht3)
     have hs5:=sm5 _ _ (sm4 _ _ hs3)
     have ngt2:gl2≠tl:=Ne.symm (aP ht5 hgl2)
     have ngs2:gl2≠sl:=Ne.symm (aP hs5 hgl2)
     have m6:aG H5 (upd H5 gl2 (.lst (gxs++[.ref gq]++ys))):=aG.new hgl2
     have ig6:L2.IsL K (upd H5 gl2 (.lst (gxs++[.ref gq]++ys))) ((bH (ws.take i) ((aN net held coming poured doors).take i)++[(v.spill,h - bM v h)]++shared v (bM v h)).map outD) (gxs++[.ref gq]++ys):=by
      rw[List.map_append]
      exact IsL.append (L2.IsL.mono m6.ts _ _ (L2.IsL.mono sm5.ts _ _ (L2.IsL.mono sm4.ts _ _ ig3))) (L2.IsL.mono m6.ts _ _ hys)
     have hg6:upd H5 gl2 (.lst (gxs++[.ref gq]++ys)) gl2=some (.lst (gxs++[.ref gq]++ys)):=aC
     have sm6:aG H1 (upd H5 gl2 (.lst (gxs++[.ref gq]++ys))):=(sm3.trans (sm4.trans sm5)).trans m6
     have ht6:=m6 _ _ ht5
     have hs6:=m6 _ _ hs5
     generalize upd H5 gl2 (.lst (gxs++[.ref gq]++ys))=H6 at sm6 hg6 ig6 ht6 hs6 ⊢
     refine⟨_,rfl,_,rfl,_,_,rfl,rfl,(show 0 < whole v.outs by omega),?_⟩
     have htl:=htt i
     refine⟨_,rfl,.inl ⟨rfl,_,bX.of ht6⟩,_,rfl,tl,_,_,rfl,rfl,ht6,aW (by rw[List.length_map];omega),?_⟩
     have mtt:Mut (H6 tl):=by rw[ht6];exact trivial
     rw[tips,if_pos rfl,Nat.zero_add] at s2
     have hg7:upd H6 tl (.lst (((aU 0 (ws.take i) ((aN net held coming poured doors).take i)).map fun (j:Nat)=>V.int (j:Int))++[.int (i:Int)])) gl2=some (.lst (gxs++[.ref gq]++ys)):=by rw[aO ngt2];exact hg6
     have ig7:=L2.IsL.mono (bW.put (o:=HO.lst (((aU 0 (ws.take i) ((aN net held coming poured doors).take i)).map fun (j:Nat)=>V.int (j:Int))++[.int (i:Int)])) (bW.refl H6) (.inr mtt)) _ _ ig6
     have sm7:aG H1 (upd H6 tl (.lst (((aU 0 (ws.take i) ((aN net held coming poured doors).take i)).map fun (j:Nat)=>V.int (j:Int))++[.int (i:Int)]))):=sm6.put ft
     have ht7:upd H6 tl (.lst (((aU 0 (ws.take i) ((aN net held coming poured doors).take i)).map fun (j:Nat)=>V.int (j:Int))++[.int (i:Int)])) tl=some (.lst ((aU 0 (ws.take (i+1)) ((aN net held coming poured doors).take (i+1))).map fun (j:Nat)=>V.int (j:Int))):=by
      rw[aC,s2,List.map_append];rfl
     have hs7:upd H6 tl (.lst (((aU 0 (ws.take i) ((aN net held coming poured doors).take i)).map fun (j:Nat)=>V.int (j:Int))++[.int (i:Int)])) sl=_:=(aO (Ne.symm nts)).trans hs6
     generalize upd H6 tl (.lst (((aU 0 (ws.take i) ((aN net held coming poured doors).take i)).map fun (j:Nat)=>V.int (j:Int))++[.int (i:Int)]))=H7 at hg7 ig7 sm7 ht7 hs7 ⊢
     refine⟨_,rfl,_,rfl,?_⟩
     cases hhd:v.holds with
     | true=>
      refine bQ ?_
      have es:bM v h % whole v.outs=vStay v h:=by unfold vStay;rw[tips,hhd];rfl
      refine hD _ _ ⟨sm7,ht7,hs7,gl2,_,fg2,ngt2,ngs2,hg7,?_,_,_,_,_,_,_,_,_,by rw[← es];rfl⟩
      have eg:vGoes v h=[(v.spill,h - bM v h)]++shared v (bM v h):=by unfold vGoes;rw[tips,hhd];simp
      rw[s3,eg,← List.append_assoc]
      exact ig7
     | false=>
      refine iteT ?_
      refine⟨_,rfl,.inl ⟨rfl,_,bX.of hg7⟩,_,rfl,(show 2≤sizeLine by decide),fun gq2 hgq2=>?_⟩
      have ngq2:gl2≠gq2:=aP hg7 hgq2
      refine⟨gl2,_,_,rfl,rfl,by rw[aO ngq2];exact hg7,aW (by simp;omega),?_⟩
      obtain⟨sm8,hg8,ig8,kp8⟩:=goes_put sm7 fg2 hg7 ig7 hgq2 none (bM v h % whole v.outs)
      have es:vStay v h=0:=by unfold vStay;rw[tips,hhd];rfl
      refine hD _ _ ⟨sm8,kp8 tl _ (Ne.symm ngt2) ht7,kp8 sl _ (Ne.symm ngs2) hs7,gl2,_,fg2,ngt2,ngs2,hg8,?_,_,_,_,_,_,_,_,_,by rw[es];rfl⟩
      have eg:vGoes v h=[(v.spill,h - bM v h)]++shared v (bM v h)++[(none,bM v h % whole v.outs)]:=by unfold vGoes;rw[tips,hhd];simp
      rw[s3,eg,← List.append_assoc,← List.append_assoc]
      exact ig8
    ·refine other _ ⟨_,_,_,_,_,_,_,_,rfl⟩ ?_
     by_cases z:fo=some i
     ·exact stick_yes z
     ·rw[show cJ fo i v=v from if_neg z]
      cases e:vTips v h with
      | false=>rfl
      | true=>exact absurd e hlt
   rintro σ3 H4 ⟨sm4,ht4,hs4,gl,gxs,fg,ngt,ngs,hg4,ig4,v8,v9,v10,v11,v12,v13,v14,v16,rfl⟩
   have hsl2:=hst i
   refine⟨_,rfl,.inl ⟨rfl,_,bX.of hs4⟩,_,rfl,sl,_,_,rfl,rfl,hs4,aW (by rw[List.length_map];omega),?_⟩
   refine⟨sm4.put fs,by rw[aO nts];exact ht4,by rw[aC,s1,List.map_append];rfl,gl,gxs,fg,ngt,ngs,by rw[aO ngs];exact hg4,L2.IsL.mono (bW.put (bW.refl _) (.inr (by rw[hs4];exact trivial))) _ _ ig4,_,_,_,_,_,_,_,_,_,rfl⟩
  ·rintro σ' H2 ⟨sm,ht2,hs2,gl,gxs,fg,ngt,ngs,hg2,ig2,v8,v9,v10,v11,v12,v13,v14,v15,v16,rfl⟩
   have ek:ws.take net.vs.length=ws:=by rw[← wl,List.take_length]
   have ek2:(aN net held coming poured doors).take net.vs.length=aN net held coming poured doors:=by rw[← hsl,List.take_length]
   rw[ek,ek2] at ht2 hs2 ig2
   have sA:aG H H2:=sm1.trans sm
   have etl:(aU 0 ws (aN net held coming poured doors)).length≤12:=by have:=tipsL_len ws (aN net held coming poured doors) 0;omega
   refine⟨_,rfl,.inr (.inl ⟨ay,_,2,_,rfl,rfl,sA.tup qy,rfl,a3,_,rfl,.inr (sA.tup p3),fun dl hdl=>?_⟩)⟩
   have m3:aG H2 (upd H2 dl (.lst (doors.map V.bl))):=aG.new hdl
   refine⟨_,rfl,tl,rfl,⟨_,bX.of (m3 _ _ ht2)⟩,for_list (K:=K) (a:=tl) (xs:=(aU 0 ws (aN net held coming poured doors)).map fun (j:Nat)=>V.int (j:Int))
    (fun i σ' H'=>aG H2 H'∧H' dl=some (.lst ((bU ws doors ((aU 0 ws (aN net held coming poured doors)).take i)).map V.bl))∧
     ∃ v8 v9 v10 v11 v12 v13 v14 v15 v16 v18 v19,σ'=[some (.ref a),some (.ref ay),some (.ref z),some (fastV fo),some (.ref hl),some (.ref gl),some (.ref tl),some (.ref sl),v8,v9,v10,v11,v12,v13,v14,v15,v16,some (.ref dl),v18,v19,none,none])
    ⟨m3,aC,_,_,_,_,_,_,_,_,_,_,_,rfl⟩ (fun i σ' H' _ p=>bX.of (p.1 _ _ ht2)) ?_ ?_⟩
   ·rintro i x σ' H3 hx' ⟨sm3,hd3,v8,v9,v10,v11,v12,v13,v14,v15,v16,v18,v19,rfl⟩
    rw[List.getElem?_map] at hx'
    obtain⟨j,hj,rfl⟩:=Option.map_eq_some_iff.mp hx'
    have hjv:j < net.vs.length:=by have:=tipsL_lt _ _ _ _ (List.mem_of_getElem? hj);omega
    have hv:net.vs[j]? = some net.vs[j]:=by simp [hjv]
    have vok:=nok.vs net.vs[j] (List.getElem_mem hjv)
    have dsn:=doorsL_snoc ws doors ((aU 0 ws (aN net held coming poured doors)).take i) j _ (wat hv)
    rw[stickV_acts] at dsn
    generalize hvv:net.vs[j]=v at hv vok dsn
    obtain⟨xv,hxv,ixv⟩:=l1.get (i:=j) (d:=vsD v) (by rw[List.getElem?_map,hv];rfl)
    obtain⟨va,o,cc,rfl,qv,ho,hc⟩:=vs_un ixv
    obtain⟨ca,cs,rfl,qc,lc⟩:=hc.un
    have ecs:cs.length=v.acts.length:=by rw[lc.length,List.length_map]
    have sA3:aG H H3:=sA.trans sm3
    refine⟨_,rfl,.inr (.inl ⟨a,_,0,_,rfl,rfl,sA3.tup q,rfl,_,rfl,.inr (.inl ⟨b,xs,(j:Int),_,rfl,rfl,sA3.tup q1,cF hxv,.inr (.inl ⟨va,_,5,_,rfl,rfl,sA3.tup qv,rfl,ca,rfl,⟨_,sA3.tup qc⟩,for_tup (K:=K) (a:=ca) (xs:=cs)
     (fun l σ' H'=>aG H2 H'∧H' dl=some (.lst ((actsL (bU ws doors ((aU 0 ws (aN net held coming poured doors)).take i)) (v.acts.take l)).map V.bl))∧
      ∃ v8 v9 v10 v11 v12 v13 v14 v15 v16 v18 v19,σ'=[some (.ref a),some (.ref ay),some (.ref z),some (fastV fo),some (.ref hl),some (.ref gl),some (.ref tl),some (.ref sl),v8,v9,v10,v11,v12,v13,v14,v15,v16,some (.ref dl),v18,v19,none,none])
     ⟨sm3,hd3,_,_,_,_,_,_,_,_,_,_,_,rfl⟩ (fun l σ' H' _ p=>(sA.trans p.1).tup qc) ?_ ?_⟩)⟩)⟩)⟩
    ·rintro l x σ' H4 hl' ⟨sm4,hd4,v8,v9,v10,v11,v12,v13,v14,v15,v16,v18,v19,rfl⟩
     obtain⟨at',hat,aa,rfl,qa⟩:=acts_at lc hl'
     have aok:=vok.acts at' (List.mem_of_getElem? hat)
     refine⟨aa,_,rfl,(sA.trans sm4).tup qa,rfl,_,_,rfl,_,_,rfl,rfl,?_⟩
     have asn:=actsL_snoc (bU ws doors ((aU 0 ws (aN net held coming poured doors)).take i)) (v.acts.take l) at'
     have hdl':(actsL (bU ws doors ((aU 0 ws (aN net held coming poured doors)).take i)) (v.acts.take l)).length=doors.length:=by rw[actsL_len,doorsL_len]
     generalize actsL (bU ws doors ((aU 0 ws (aN net held coming poured doors)).take i)) (v.acts.take l)=DS at hd4 asn hdl'
     have hsp:at'.2.toNat < DS.length:=by rw[hdl',sok.d];have:=aok.lo;have:=aok.hi;omega
     have hg:(DS.map V.bl)[at'.2.toNat]? = some (.bl (DS.getD at'.2.toNat false)):=by
      rw[List.getElem?_map,List.getD_eq_getElem?_getD];simp [hsp]
     obtain⟨jj,hj3,w1,w2,w3⟩:=word_ix aok.word
     refine⟨_,rfl,_,rfl,.inl ⟨dl,_,at'.2,_,rfl,rfl,bX.of hd4,atI_int aok.lo hg,_,rfl,(show 3≤sizeLine by decide),fun b1 hb1=>⟨(show 3≤sizeLine by decide),fun b2 hb2=>⟨.inl ⟨rfl,_,bX.of aC⟩,_,rfl,?_⟩⟩⟩⟩
     have m5:aG H4 (upd H4 b1 (.lst [.bl (!DS.getD at'.2.toNat false),.bl true,.bl false])):=aG.new hb1
     have m6:aG (upd H4 b1 (.lst [.bl (!DS.getD at'.2.toNat false),.bl true,.bl false])) (upd (upd H4 b1 (.lst [.bl (!DS.getD at'.2.toNat false),.bl true,.bl false])) b2 (.lst [.str "turn",.str "open",.str "shut"])):=aG.new hb2
     refine⟨b2,_,_,jj,rfl,rfl,aC,rfl,rfl,hj3,w1,w2,.inl ⟨b1,_,(jj:Int),_,rfl,rfl,bX.of (m6 _ _ aC),cF (w3 _),?_⟩⟩
     refine⟨_,rfl,_,rfl,dl,_,at'.2,at'.2.toNat,rfl,rfl,m6 _ _ (m5 _ _ hd4),ixN_nat aok.lo (by rw[List.length_map];have:=aok.lo;omega),?_⟩
     refine⟨((sm4.trans m5).trans m6).put hdl,?_,_,_,_,_,_,_,_,_,_,_,_,rfl⟩
     rw[aC,bE hat,asn,act1,List.map_set]
    ·rintro σ' H4 ⟨sm4,hd4,v8,v9,v10,v11,v12,v13,v14,v15,v16,v18,v19,rfl⟩
     rw[ecs,List.take_length] at hd4
     refine⟨sm4,?_,_,_,_,_,_,_,_,_,_,_,_,rfl⟩
     rw[bE hj,dsn]
     exact hd4
   ·rintro σ' H3 ⟨sm3,hd3,v8,v9,v10,v11,v12,v13,v14,v15,v16,v18,v19,rfl⟩
    rw[List.length_map,List.take_length] at hd3
    have sA3:aG H H3:=sA.trans sm3
    have hg3:=sm3 _ _ hg2
    have ig3:=L2.IsL.mono sm3.ts _ _ ig2
    have hgxl:gxs.length=(bH ws (aN net held coming poured doors)).length:=by rw[ig2.length,List.length_map]
    refine⟨_,rfl,.inr (.inl ⟨a,_,0,_,rfl,rfl,sA3.tup q,rfl,b,xs,rfl,.inr (sA3.tup q1),_,rfl,by omega,by omega,?_⟩)⟩
    rw[hn]
    refine lc_range (n:=net.vs.length) (fun D i r σ' H'=>H3 D=none∧aG H3 H'∧H' D=some (.lst r)∧r=((dD net.vs.length (bH ws (aN net held coming poured doors))).take i).map V.int∧∃ v,σ'=[v,some (.ref gl)])
     (fun D hD=>⟨hD,aG.new hD,aC,by simp,none,rfl⟩) ?_ ?_
    rotate_left
    ·rintro D i r σ' H4 hi ⟨hD,sm4,hDl,rfl,v,rfl⟩
     refine dC ?_
     refine⟨_,rfl,gl,rfl,⟨_,bX.of (sm4 _ _ hg3)⟩,lc_list (K:=K) (a:=gl) (xs:=gxs) (fun D' j r' σ' H'=>H4 D'=none∧aG H4 H'∧H' D'=some (.lst r')∧r'=(amts (some (i:Int)) ((bH ws (aN net held coming poured doors)).take j)).map V.int∧∃ u1 u2,σ'=[u1,u2,some (.int (i:Int))])
      (fun D' j r' σ' H' p=>bX.of (p.2.1 _ _ (sm4 _ _ hg3))) (fun D' hD'=>⟨hD',aG.new hD',aC,by simp [amts],none,none,rfl⟩) ?_ ?_⟩
     rotate_left
     ·rintro D' j x r' σ' H5 hx' ⟨hD',sm5,hD'l,rfl,u1,u2,rfl⟩
      obtain⟨g,hg,ga,rfl,qg⟩:=outs_at (L2.IsL.mono sm4.ts _ _ ig3) hx'
      refine⟨ga,_,rfl,sm5.tup qg,rfl,_,_,rfl,_,_,rfl,rfl,?_⟩
      have hsc:scal (tgV g.1) (.int (i:Int))=true:=by cases g.1 <;> rfl
      have hiff:tgV g.1=.int (i:Int)↔g.1=some (i:Int):=by cases g.1 <;> simp [tgV]
      have hal:=amts_len (some (i:Int)) ((bH ws (aN net held coming poured doors)).take j)
      rw[List.length_take] at hal
      refine⟨_,rfl,_,rfl,hsc,_,rfl,?_⟩
      refine ite2 (fun ht=>?_) (fun hf=>?_)
      ·refine⟨_,rfl,hD'l,aW (by rw[List.length_map];omega),hD',sm5.put hD',aC,?_,_,_,rfl⟩
       rw[bE hg,amts_snoc,if_pos (hiff.mp (of_decide_eq_true ht)),List.map_append];rfl
      ·refine⟨hD',sm5,hD'l,?_,_,_,rfl⟩
       rw[bE hg,amts_snoc,if_neg (fun e=>hf (decide_eq_true (hiff.mpr e))),List.append_nil]
     rintro D' r' σ' H5 ⟨hD',sm5,hD'l,rfl,_⟩
     rw[hgxl,List.take_length] at hD'l
     refine⟨false,D',_,rfl,bX.of hD'l,sm5 _ _ hDl,aW (by simp [dD];omega),hD,(sm4.trans sm5).put hD,aC,?_,_,rfl⟩
     have e:(dD net.vs.length (bH ws (aN net held coming poured doors)))[i]? = some (bN (some (i:Int)) (bH ws (aN net held coming poured doors))):=by
      unfold dD;simp [hi]
     rw[bE e,List.map_append,amts_sum];rfl
    rintro D r σ' H4 ⟨hD,sm4,hDl,rfl,_⟩
    have ll:(dD net.vs.length (bH ws (aN net held coming poured doors))).length=net.vs.length:=by unfold dD;simp
    rw[List.take_of_length_le (Nat.le_of_eq ll)] at hDl
    refine⟨_,rfl,gl,rfl,⟨_,bX.of (sm4 _ _ hg3)⟩,lc_list (K:=K) (a:=gl) (xs:=gxs) (fun D' j r' σ' H'=>H4 D'=none∧aG H4 H'∧H' D'=some (.lst r')∧r'=(amts none ((bH ws (aN net held coming poured doors)).take j)).map V.int∧∃ u1 u2,σ'=[u1,u2])
     (fun D' j r' σ' H' p=>bX.of (p.2.1 _ _ (sm4 _ _ hg3))) (fun D' hD'=>⟨hD',aG.new hD',aC,by simp [amts],none,none,rfl⟩) ?_ ?_⟩
    rotate_left
    ·rintro D' j x r' σ' H5 hx' ⟨hD',sm5,hD'l,rfl,u1,u2,rfl⟩
     obtain⟨g,hg,ga,rfl,qg⟩:=outs_at (L2.IsL.mono sm4.ts _ _ ig3) hx'
     refine⟨ga,_,rfl,sm5.tup qg,rfl,_,_,rfl,_,_,rfl,rfl,?_⟩
     have hiff:tgV g.1=.non↔g.1=none:=by cases g.1 <;> simp [tgV]
     have hal:=amts_len none ((bH ws (aN net held coming poured doors)).take j)
     rw[List.length_take] at hal
     refine⟨_,rfl,rfl,_,rfl,?_⟩
     refine ite2 (fun ht=>?_) (fun hf=>?_)
     ·refine⟨_,rfl,hD'l,aW (by rw[List.length_map];omega),hD',sm5.put hD',aC,?_,_,_,rfl⟩
      rw[bE hg,amts_snoc,if_pos (hiff.mp (of_decide_eq_true ht)),List.map_append];rfl
     ·refine⟨hD',sm5,hD'l,?_,_,_,rfl⟩
      rw[bE hg,amts_snoc,if_neg (fun e=>hf (decide_eq_true (hiff.mpr e))),List.append_nil]
    rintro D' r' σ' H5 ⟨hD',sm5,hD'l,rfl,_⟩
    rw[hgxl,List.take_length] at hD'l
    refine⟨false,D',_,rfl,bX.of hD'l,?_⟩
    rw[amts_sum]
    have c1:=sm5 _ _ (sm4 _ _ (sm3 _ _ hs2))
    have c2:=sm5 _ _ hDl
    have c3:=sm5 _ _ (sm4 _ _ hd3)
    have c4:=sm5 _ _ (sm4 _ _ (sm3 _ _ ht2))
    refine⟨_,rfl,sl,_,rfl,.inl ⟨bX.of c1,fun t1 ht1=>?_⟩⟩
    have m1:=aG.new (o:=HO.tup ((cC ws (aN net held coming poured doors)).map V.int)) ht1
    refine⟨_,rfl,D,_,rfl,.inl ⟨bX.of (m1 _ _ c2),fun t2 ht2=>?_⟩⟩
    have m2:=aG.new (o:=HO.tup ((dD net.vs.length (bH ws (aN net held coming poured doors))).map V.int)) ht2
    refine⟨_,rfl,dl,_,rfl,.inl ⟨bX.of (m2 _ _ (m1 _ _ c3)),fun t3 ht3=>?_⟩⟩
    have m3:=aG.new (o:=HO.tup ((bU ws doors (aU 0 ws (aN net held coming poured doors))).map V.bl)) ht3
    refine⟨(show 3≤sizeLine by decide),fun t4 ht4=>?_⟩
    have m4:=aG.new (o:=HO.tup [.ref t1,.ref t2,.ref t3]) ht4
    refine⟨_,rfl,tl,_,rfl,.inl ⟨bX.of (m4 _ _ (m3 _ _ (m2 _ _ (m1 _ _ c4)))),fun t5 ht5=>?_⟩⟩
    have m5:=aG.new (o:=HO.tup ((aU 0 ws (aN net held coming poured doors)).map fun (j:Nat)=>V.int (j:Int))) ht5
    refine⟨_,rfl,(show 3≤sizeLine by decide),fun t6 ht6=>?_⟩
    have m6:aG _ _:=aG.new (o:=HO.lst [.ref t4,.ref t5,.int (bN none (bH ws (aN net held coming poured doors)))]) ht6
    refine k t6 (.ref t4) (.ref t5) _ (((((((((sA3.trans sm4).trans sm5).trans m1).trans m2).trans m3).trans m4).trans m5)).trans m6) (by rw[show (cN (b6 net fo) held coming poured doors).ground=bN none (bH ws (aN net held coming poured doors)) by rw[← hws];rfl];exact aC) ?_ ?_
    ·have ecm:(cN (b6 net fo) held coming poured doors).coming=dD net.vs.length (bH ws (aN net held coming poured doors)):=by
      show dD (cQ net.vs fo).length (bH (cQ net.vs fo) _)=_
      rw[hws,wl];rfl
     have ehd:(cN (b6 net fo) held coming poured doors).held=cC ws (aN net held coming poured doors):=by rw[← hws];rfl
     have edr:(cN (b6 net fo) held coming poured doors).doors=bU ws doors (aU 0 ws (aN net held coming poured doors)):=by rw[← hws];rfl
     rw[ecm,ehd,edr]
     exact Is.mono m6.ts _ _ (Is.mono m5.ts _ _ (st_of (bL.of aC) (m4.tup (m3.tup (m2.tup (bL.of aC)))) (m4.tup (m3.tup (bL.of aC))) (m4.tup (bL.of aC))))
    ·refine Is.mono m6.ts _ _ (Is.tupOf (bL.of aC) ?_)
     rw[show (cN (b6 net fo) held coming poured doors).tip=aU 0 ws (aN net held coming poured doors) by rw[← hws];rfl]
     have e1:((aU 0 ws (aN net held coming poured doors)).map fun (i:Nat)=>L2.D.int (i:Int))=((aU 0 ws (aN net held coming poured doors)).map fun (i:Nat)=>(i:Int)).map L2.D.int:=by rw[List.map_map];rfl
     have e2:((aU 0 ws (aN net held coming poured doors)).map fun (i:Nat)=>V.int (i:Int))=((aU 0 ws (aN net held coming poured doors)).map fun (i:Nat)=>(i:Int)).map V.int:=by rw[List.map_map];rfl
     rw[e1,e2]
     exact L2.IsL.of_ints _
end
end Tw
namespace L2
open PySem PySem.Spec PyProof.Rows TwZ
section
variable {X:Cx}{K:PySem.W.Frag}
end
end L2
namespace Tw
open PySem L2
theorem sta0_stick (net:Net) (fo:Option Nat):sta0 (b6 net fo)=sta0 net:=by
 unfold sta0
 show (⟨bI (cQ net.vs fo).length,bI (cQ net.vs fo).length,_⟩:Sta)=_
 rw[stickL_len];rfl
theorem zeros_stick (net:Net) (fo:Option Nat):bI (b6 net fo).vs.length=bI net.vs.length:=by
 show bI (cQ net.vs fo).length=_
 rw[stickL_len]
theorem stok_stick {net:Net}{fo:Option Nat}{h c:List Int}{d:List Bool} (s:StOk (b6 net fo) h c d):StOk net h c d:=
 ⟨by have:=s.h;rw[show (b6 net fo).vs.length=net.vs.length from stickL_len _ _] at this;exact this,by have:=s.c;rw[show (b6 net fo).vs.length=net.vs.length from stickL_len _ _] at this;exact this,s.d⟩
theorem inV_tip (k:Nat):∀ l:List Nat,inV (.int (k:Int)) (l.map fun (i:Nat)=>V.int (i:Int))=decide (k∈l)
 | []=>rfl
 | x::l=>by
  show (eqV (.int (x:Int)) (.int (k:Int)) || inV (.int (k:Int)) (l.map fun (i:Nat)=>V.int (i:Int)))=_
  rw[inV_tip k l]
  show (((x:Int) == (k:Int)) || decide (k∈l))=decide (k∈x::l)
  by_cases h:k=x
  ·subst h;simp
  ·have h1:((x:Int) == (k:Int))=false:=by simp;omega
   have h2:decide (k∈x::l)=decide (k∈l):=by simp [h]
   rw[h1,h2,Bool.false_or]
theorem flat_tip (l:List Nat):(l.map fun (i:Nat)=>V.int (i:Int)).all flatV=true:=by
 rw[List.all_eq_true]
 intro z hz
 obtain⟨i,_,rfl⟩:=List.mem_map.1 hz
 rfl
theorem tip_un {K:PySem.W.Frag}{H:Hp}{l:List Nat}{v:V} (h:Is K H (.tup (l.map fun (i:Nat)=>L2.D.int (i:Int))) v):∃ a,v=.ref a∧bL K H a (l.map fun (i:Nat)=>V.int (i:Int)):=by
 obtain⟨a,xs,rfl,q,l'⟩:=h.un
 have e1:(l.map fun (i:Nat)=>L2.D.int (i:Int))=(l.map fun (i:Nat)=>(i:Int)).map L2.D.int:=by rw[List.map_map];rfl
 rw[e1] at l'
 have:=l'.ints
 subst this
 rw[List.map_map] at q
 exact⟨a,rfl,q⟩
end Tw
namespace Tw
open PySem L2
noncomputable def tipAt (net:Net) (t:Nat):List Nat:=((cO net t).tk net).tip
noncomputable def tipLD (l:List Nat):L2.D:=.tup (l.map fun (i:Nat)=>L2.D.int (i:Int))
noncomputable def tipsOf (net:Net) (n k:Nat):List Nat:=(List.range n).filter fun t=>decide (k∈tipAt net t)
theorem tipsOf_succ (net:Net) (n k:Nat):tipsOf net (n+1) k=tipsOf net n k++(if k∈tipAt net n then [n] else []):=by
 unfold tipsOf
 rw[List.range_succ,List.filter_append]
 by_cases h:k∈tipAt net n
 ·simp [h]
 ·simp [h]
theorem tipsOf_len (net:Net) (n k:Nat):(tipsOf net n k).length≤n:=by
 unfold tipsOf
 exact Nat.le_trans (List.length_filter_le _ _) (by simp)
theorem range_map_succ {α:Type} (f:Nat→α) (n:Nat):(List.range (n+1)).map f=(List.range n).map f++[f n]:=by rw[List.range_succ,List.map_append];rfl
noncomputable def natV (l:List Nat):List V:=l.map fun (i:Nat)=>V.int (i:Int)
theorem small1W {n:Nat} (h:n≤10000000):n < sizeLine:=by rw[sizeLine_eq];omega
section
variable {P:Program}{w:World}{K:PySem.W.Frag}{mg:Str→Option Value}{base:Heap}
theorem tickL_of_F {f:Addr}{fd:FuncData}{ps:List Str} (F:FnOk P w K mg base CX0 2 f fd ps (spTickF K)):FnOk P w K mg base CX0 2 f fd ps (spTickL K):=by
 refine F.imp fun vs H Q E h=>?_
 obtain⟨x,y,z,net,held,coming,poured,doors,rfl,h1,h2,h3,h4,h5,h6,k⟩:=h
 refine⟨x,y,z,net,held,coming,poured,doors,none,rfl,h1,h2,h3,h4,by rw[stickN_none];exact h4,h5,h6,fun l p1 p2 H' s e i1 i2=>?_⟩
 rw[stickN_none] at e i1 i2
 exact k l p1 p2 H' s e i1 i2
theorem ok__law_tickLF {f fF:Addr}{fd fdF:FuncData} (F:Fun K "_law_tick" "_law_tick" (bD 25) f fd) (T:Txt mg) (G__law_filled:Callee P w K mg base "_law_filled" ["net","state","poured"] 1 (spFilledL K) fF fdF):FnOk P w K mg base CX0 2 f fd ["net","state","poured","fast"] (spTickL K):=
 tickL_of_F (ok__law_tickF F T G__law_filled)
noncomputable def spWalk (K:PySem.W.Frag):Sp:=fun vs H Q _=>∃ (x:V) (net:Net) (fo:Option Nat) (n:Nat),vs=[x,.int (n:Int),fastV fo]∧Is K H (netD net) x∧NetOk net∧NetOk (b6 net fo)∧n≤100000∧
 ∀ l p1 p2 sts tvs H',aG H H'→H' l=some (.lst [.ref p1,.ref p2])→H' p1=some (.lst sts)→IsL K H' ((List.range (n+1)).map fun t=>staD (cO (b6 net fo) t)) sts→H' p2=some (.lst tvs)→
  IsL K H' ((List.range n).map fun t=>tipLD (tipAt (b6 net fo) t)) tvs→H l=none→H p1=none→H p2=none→Q (.ref l) H'
theorem sc__law_walk:FnScope ["net","ticks","fast","states","tips","k","state","tipped","ground"] ["net","ticks","fast"] (aK (bD 26)):=⟨rfl,rfl,rfl,by decide +kernel,rfl,by decide +kernel,by decide +kernel⟩
theorem ok__law_walk {f f1 f2:Addr}{fd fd1 fd2:FuncData} (F:Fun K "_law_walk" "_law_walk" (bD 26) f fd) (T:Txt mg) (G__law_first:Callee P w K mg base "_law_first" ["net"] 1 (spFirst K) f1 fd1)
  (G__law_tick:Callee P w K mg base "_law_tick" ["net","state","poured","fast"] 2 (spTickF K) f2 fd2):FnOk P w K mg base CX0 3 f fd ["net","ticks","fast"] (spWalk K):=by
 refine F.ok sc__law_walk (fun vs H Q E h=>?_) (fun cdv A outer s H vs Q E hr h=>?_)
 ·obtain⟨x,net,fo,n,rfl,_⟩:=h;rfl
 ·obtain⟨x,net,fo,n,rfl,hx,nok,nok',hn,k⟩:=h
  have sc:=sc__law_walk
  refine⟨_,(aE (bF (i:=3) sc.nd rfl (Or.inl rfl) (dA (aA (pcG G__law_first hr (aA (pv 0) aB)) aB)))
   (aE (bF (i:=4) sc.nd rfl (Or.inl rfl) (dA aB))
   (aE (d9 PassesOwn.never rfl (cH rfl T.b_range (aA (pv 1) aB)) (aJ (i:=5) sc.nd rfl (Or.inl rfl)) (aE (ps_asg (pcG G__law_tick hr (aA (pv 0) (aA (aM (aF (K:=K) rfl) (pv 3) (pe_un un_neg aD) (fun _ _=>rfl)) (aA (b9 (op_repTK (K:=K) rfl) (bO (aA aD aB)) (aH (aQ (K:=K) rfl) rfl T.b_len PySem.boot_len (aA (aM (aF (K:=K) rfl) (pv 0) aD (fun _ _=>rfl)) aB))) (aA (pv 2) aB))))) (pg_lstK (K:=K) (n:=3) rfl rfl (aL (aJ (i:=6) sc.nd rfl (Or.inl rfl)) (aL (aJ (i:=7) sc.nd rfl (Or.inl rfl)) (aL (aJ (i:=8) sc.nd rfl (Or.inl rfl)) bY)))))
   (aE (ps_expr (pe_bmK (K:=K) rfl PySem.F.plainAttrs_list PySem.F.slot_list_append PySem.F.type_list_append cI (pv 3) (aA (pv 6) aB)))
   (aI (ps_expr (pe_bmK (K:=K) rfl PySem.F.plainAttrs_list PySem.F.slot_list_append PySem.F.type_list_append cI (pv 4) (aA (pv 7) aB)))))))
   (aI (aS (dA (aA (pv 3) (aA (pv 4) aB)))))))),?_⟩
  have n1:=nok.lo
  have n2:=nok.hi
  refine⟨_,rfl,x,net,rfl,hx,nok,fun st H1 s1 hst=>⟨(show 1≤sizeLine by decide),fun sl hsl=>?_⟩⟩
  have s2:=aG.new (o:=HO.lst [st]) hsl
  have e2:upd H1 sl (.lst [st]) sl=some (.lst [st]):=aC
  generalize upd H1 sl (.lst [st])=H2 at s2 e2
  refine⟨Nat.zero_le _,fun tl htl=>?_⟩
  have s3:=aG.new (o:=HO.lst []) htl
  have e3:upd H2 tl (.lst []) tl=some (.lst []):=aC
  have nst:sl≠tl:=aP e2 htl
  have e3s:=s3 _ _ e2
  have s13:aG H1 _:=s2.trans s3
  generalize upd H2 tl (.lst [])=H3 at s3 e3 e3s s13
  have fs:H sl=none:=s1.free hsl
  have ft:H tl=none:=(s1.trans s2).free htl
  refine⟨_,rfl,_,rfl,by omega,by omega,?_⟩
  refine for_range (lo:=0) (n:=n) (fun i σ' H'=>aG H H'∧(∃ sts mv,H' sl=some (.lst (sts++[mv]))∧IsL K H' ((List.range i).map fun t=>staD (cO (b6 net fo) t)) sts∧Is K H' (staD (cO (b6 net fo) i)) mv)∧
   (∃ tvs,H' tl=some (.lst tvs)∧IsL K H' ((List.range i).map fun t=>tipLD (tipAt (b6 net fo) t)) tvs)∧
   ∃ v5 v6 v7 v8,σ'=[some x,some (.int (n:Int)),some (fastV fo),some (.ref sl),some (.ref tl),v5,v6,v7,v8]) ?_ ?_ ?_
  ·refine⟨s1.trans s13,⟨[],st,e3s,.nil,?_⟩,⟨[],e3,.nil⟩,_,_,_,_,rfl⟩
   rw[show cO (b6 net fo) 0=sta0 (b6 net fo) from rfl,sta0_stick]
   exact Is.mono s13.ts _ _ hst
  ·rintro i σ' H4 hi ⟨s4,⟨sts,mv,hsl4,ls,im⟩,⟨tvs,htl4,lt⟩,v5,v6,v7,v8,rfl⟩
   have lsl:sts.length=i:=by rw[ls.length];simp
   have ltl:tvs.length=i:=by rw[lt.length];simp
   obtain⟨a,b,c,xs,ys,ex,q,q1,l1,q2,l2⟩:=net_un (Is.mono s4.ts _ _ hx)
   have exl:xs.length=net.vs.length:=by rw[l1.length,List.length_map]
   have sok:=stok_stick (sta_ok nok' i)
   refine⟨_,rfl,_,rfl,1,rfl,.inl ⟨sl,_,-1,_,rfl,rfl,bX.of hsl4,atI_last _ _,(show 1≤sizeLine by decide),fun o ho=>?_⟩⟩
   have so:=aG.new (o:=HO.tup [.int 0]) ho
   refine⟨_,rfl,.inr (.inl ⟨a,_,0,_,ex,rfl,so.tup q,rfl,b,xs,rfl,.inr (so.tup q1),o,_,[.int 0],rfl,rfl,bL.of aC,by omega,by omega,by simp,by decide,fun z H6 sm6 qz=>?_⟩)⟩
   have s56:=so.trans sm6
   have en:((xs.length:Nat):Int).toNat=net.vs.length:=by rw[exl];simp
   rw[en,rep0] at qz
   refine⟨_,rfl,x,mv,z,net,_,_,bI net.vs.length,_,fo,rfl,Is.mono (s4.trans s56).ts _ _ hx,Is.mono s56.ts _ _ im,.inl qz,nok,nok',sok,zeros_l _,fun l p1 p2 H7 sm7 hl7 i1 i2=>?_⟩
   refine⟨l,_,rfl,bX.of hl7,rfl,_,_,rfl,_,_,rfl,_,_,rfl,rfl,?_⟩
   have s47:aG H4 H7:=s56.trans sm7
   have hsl7:=s47 _ _ hsl4
   have htl7:=s47 _ _ htl4
   have ls7:=L2.IsL.mono s47.ts _ _ ls
   have im7:=Is.mono s47.ts _ _ im
   have lt7:=L2.IsL.mono s47.ts _ _ lt
   have s07:aG H H7:=s4.trans s47
   rw[show cN (b6 net fo) (cO (b6 net fo) i).held (cO (b6 net fo) i).coming (bI net.vs.length) (cO (b6 net fo) i).doors=(cO (b6 net fo) i).tk (b6 net fo) from by unfold Sta.tk;rw[zeros_stick]] at i1 i2
   refine⟨_,rfl,.inl ⟨rfl,_,bX.of hsl7⟩,_,rfl,sl,_,_,rfl,rfl,hsl7,small1W (by simp;omega),?_⟩
   have mu7:Mut (H7 sl):=by rw[hsl7];exact trivial
   have ts8:bW K H7 (upd H7 sl (.lst (sts++[mv]++[p1]))):=But.ts But.upd mu7
   have htl8:upd H7 sl (.lst (sts++[mv]++[p1])) tl=some (.lst tvs):=by rw[aO (Ne.symm nst)];exact htl7
   have hsl8:upd H7 sl (.lst (sts++[mv]++[p1])) sl=some (.lst (sts++[mv]++[p1])):=aC
   have s08:aG H (upd H7 sl (.lst (sts++[mv]++[p1]))):=s07.put fs
   generalize upd H7 sl (.lst (sts++[mv]++[p1]))=H8 at ts8 htl8 hsl8 s08
   refine⟨_,rfl,.inl ⟨rfl,_,bX.of htl8⟩,_,rfl,tl,_,_,rfl,rfl,htl8,small1W (by omega),?_⟩
   have mu8:Mut (H8 tl):=by rw[htl8];exact trivial
   have ts9:bW K H8 (upd H8 tl (.lst (tvs++[p2]))):=But.ts But.upd mu8
   have ts79:=ts8.trans ts9
   refine⟨s08.put ft,⟨sts++[mv],p1,by rw[aO nst];exact hsl8,?_,Is.mono ts79 _ _ i1⟩,⟨tvs++[p2],aC,?_⟩,_,_,_,_,rfl⟩
   ·rw[range_map_succ]
    exact L2.IsL.snoc (Is.mono ts79 _ _ im7) (L2.IsL.mono ts79 _ _ ls7)
   ·rw[range_map_succ]
    exact L2.IsL.snoc (Is.mono ts79 _ _ i2) (L2.IsL.mono ts79 _ _ lt7)
  ·rintro σ' H4 ⟨s4,⟨sts,mv,hsl4,ls,im⟩,⟨tvs,htl4,lt⟩,v5,v6,v7,v8,rfl⟩
   refine⟨_,rfl,_,rfl,(show 2≤sizeLine by decide),fun l hl=>?_⟩
   have s5:=aG.new (o:=HO.lst [.ref sl,.ref tl]) hl
   refine k l sl tl (sts++[mv]) tvs _ (s4.trans s5) aC (s5 _ _ hsl4) ?_ (s5 _ _ htl4) (L2.IsL.mono s5.ts _ _ lt) (s4.free hl) fs ft
   rw[range_map_succ]
   exact L2.IsL.snoc (Is.mono s5.ts _ _ im) (L2.IsL.mono s5.ts _ _ ls)
theorem tipLD_at {H:Hp}{net:Net}{n t:Nat}{tvs:List V} (lt:IsL K H ((List.range n).map fun t=>tipLD (tipAt net t)) tvs) (ht:t < n):∃ a,tvs[t]? = some (.ref a)∧bL K H a (natV (tipAt net t)):=by
 obtain⟨v,hv,iv⟩:=lt.get (i:=t) (d:=tipLD (tipAt net t)) (by rw[List.getElem?_map,List.getElem?_range ht];rfl)
 obtain⟨a,rfl,q⟩:=tip_un iv
 exact⟨a,hv,q⟩
end
end Tw
namespace Tw
open PySem L2
theorem seen_nat {net:Net}{d:L2.D}{v:V}:∀ t,valV (seenN net t) d=some v→∃ a:Nat,a < t∧v=.int (a:Int)∧staD (cO net a)=d
 | 0,h=>by cases h
 | t+1,h=>by
  rw[show seenN net (t+1)=putK (seenN net t) (staD (cO net t)) (.int (t:Int)) from rfl,valV_put] at h
  by_cases e:d=staD (cO net t)
  ·rw[if_pos e] at h;cases h;exact⟨t,by omega,rfl,e.symm⟩
  ·rw[if_neg e] at h
   obtain⟨a,h1,h2,h3⟩:=seen_nat t h
   exact⟨a,by omega,h2,h3⟩
theorem mapD_inj' {α:Type}{f:α→L2.D} (hf:∀ a b,f a=f b→a=b):∀ {xs ys:List α},xs.map f=ys.map f→xs=ys
 | [],[],_=>rfl
 | [],_::_,h=>by cases h
 | _::_,[],h=>by cases h
 | x::xs,y::ys,h=>by
  rw[List.map_cons,List.map_cons] at h
  injection h with h1 h2
  rw[hf _ _ h1,mapD_inj' hf h2]
theorem staD_inj' {s s':Sta} (h:staD s=staD s'):s=s':=by
 have h':L2.D.tup [.tup (s.held.map L2.D.int),.tup (s.coming.map L2.D.int),.tup (s.doors.map L2.D.bl)]=.tup [.tup (s'.held.map L2.D.int),.tup (s'.coming.map L2.D.int),.tup (s'.doors.map L2.D.bl)]:=h
 injection h' with h'
 injection h' with h1 h'
 injection h' with h2 h'
 injection h' with h3 _
 injection h1 with h1
 injection h2 with h2
 injection h3 with h3
 obtain⟨a,b,c⟩:=s
 obtain⟨a',b',c'⟩:=s'
 have e1:a=a':=mapD_inj' (fun x y e=>by injection e) h1
 have e2:b=b':=mapD_inj' (fun x y e=>by injection e) h2
 have e3:c=c':=mapD_inj' (fun x y e=>by injection e) h3
 rw[e1,e2,e3]
structure Rnd (net:Net) (a t:Nat):Prop where
 lt:a < t
 le:t≤2000
 eq:cO net a=cO net t
theorem Rep.rnd {net:Net}{t:Nat}{j:Int} (h:Rep net t j):∃ a:Nat,j=(a:Int)∧Rnd net a t:=by
 obtain⟨h1,h2,_⟩:=h
 obtain⟨a,h3,h4,h5⟩:=seen_nat t h2
 injection h4 with h4
 exact⟨a,h4,h3,h1,staD_inj' h5⟩
end Tw
namespace Tw
open PySem L2
section
variable {P:Program}{w:World}{K:PySem.W.Frag}{mg:Str→Option Value}{base:Heap}{C c_TipError c_NoNet c_NoVessel c_TooLong c_TooMany c_TooMuch c_Nothing c_NoText c_NoRow:Addr}
end
end Tw
namespace Tw
open PySem L2
end Tw
namespace L2
open PySem PySem.Spec PyProof.Rows TwZ
end L2
namespace Tw
open PySem L2
section
variable {P:Program}{w:World}{K:PySem.W.Frag}{mg:Str→Option Value}{base:Heap}{C c_TipError c_NoNet c_NoVessel c_TooLong c_TooMany c_TooMuch c_Nothing c_NoText c_NoRow:Addr}
end
end Tw
namespace Tw
open PySem L2
noncomputable def d3 (t:Option Int) (s:Nat):List (Option Int×Int):=if 1 < s then [(t,1),(none,(s:Int) - 1)] else [(t,1)]
theorem whole_one (t:Option Int) {s:Nat} (hs:1≤s):whole (d3 t s)=(s:Int):=by
 unfold d3 whole
 split
 ·simp;omega
 ·simp;omega
end Tw
namespace Tw
open PySem L2
noncomputable def oneV (t:Option Int) (s:Nat) (acts:List (Str×Int)):Vs:=⟨(s:Int),(s:Int),d3 t s,false,none,acts⟩
theorem o_here {t:Option Int}{s h:Nat}{ac:List (Str×Int)} (hh:h≤s):bM (oneV t s ac) (h:Int)=(h:Int):=by
 show min (h:Int) (s:Int)=_
 omega
theorem o_tips {t:Option Int}{s h:Nat}{ac:List (Str×Int)} (hh:h≤s):vTips (oneV t s ac) (h:Int)=decide (h=s):=by
 unfold vTips
 rw[o_here hh]
 show decide ((s:Int)≤(h:Int))=_
 by_cases e:h=s
 ·rw[decide_eq_true e,decide_eq_true (by omega)]
 ·rw[decide_eq_false e,decide_eq_false (by omega)]
theorem o_stay {t:Option Int}{s h:Nat}{ac:List (Str×Int)} (hh:h≤s):vStay (oneV t s ac) (h:Int)=((if h=s then 0 else h:Nat):Int):=by
 unfold vStay
 rw[o_tips hh,o_here hh]
 by_cases e:h=s
 ·rw[decide_eq_true e,if_pos rfl,if_pos e];rfl
 ·rw[decide_eq_false e,if_neg (by simp),if_neg e]
theorem o_goes {t:Option Int}{s h:Nat}{ac:List (Str×Int)} (hs:1≤s) (hh:h≤s) (u:Int):bN (some u) (vGoes (oneV t s ac) (h:Int))=if h=s∧t=some u then 1 else 0:=by
 unfold vGoes
 rw[o_tips hh,o_here hh]
 by_cases e:h=s
 ·subst e
  rw[decide_eq_true rfl,if_pos rfl]
  have e1:(h:Int) / whole (d3 t h)=1:=by rw[whole_one _ hs];exact Int.ediv_self (by omega)
  have e3:shared (oneV t h ac) (h:Int)=(d3 t h).map fun o=>(o.1,o.2):=by
   show (d3 t h).map (fun o=>(o.1,(h:Int) / whole (d3 t h) * o.2))=_
   rw[e1]
   simp
  rw[e3]
  show (if (none:Option Int)=some u then _ else (0:Int))+bN (some u) (_++(if false=true then [] else [(none,_)]))=_
  rw[if_neg (by simp),if_neg (by simp),sumFor_append]
  unfold d3
  split
  ·by_cases g:t=some u <;> simp [bN,g]
  ·by_cases g:t=some u <;> simp [bN,g]
 ·rw[decide_eq_false e,if_neg (by simp),if_neg (fun z=>e z.1)]
  show (if (none:Option Int)=some u then _ else (0:Int))+0=0
  rw[if_neg (by simp)];rfl
noncomputable def belV (k s:Nat):Vs:=oneV (some 0) s [("shut",(k:Int))]
noncomputable def belL:Nat→List Nat→List Vs
 | _,[]=>[]
 | k,s::r=>belV k s::belL (k+1) r
noncomputable def belP:Nat→List Nat→List Spt
 | _,[]=>[]
 | k,_::r=>(((k+1:Nat):Int),1,true)::belP (k+1) r
noncomputable def bR (S:List Nat):Net:=⟨oneV none 1 []::belL 0 S,belP 0 S⟩
theorem belL_len:∀ (r:List Nat) (k:Nat),(belL k r).length=r.length
 | [],_=>rfl
 | s::r,k=>by show (belL (k+1) r).length+1=r.length+1;rw[belL_len r]
theorem belP_len:∀ (r:List Nat) (k:Nat),(belP k r).length=r.length
 | [],_=>rfl
 | s::r,k=>by show (belP (k+1) r).length+1=r.length+1;rw[belP_len r]
theorem belL_at:∀ (r:List Nat) (k j s:Nat),r[j]? = some s→(belL k r)[j]? = some (belV (k+j) s)
 | [],_,_,_,h=>by cases h
 | x::r,k,0,s,h=>by cases h;rfl
 | x::r,k,j+1,s,h=>by
  have:=belL_at r (k+1) j s h
  rw[show k+1+j=k+(j+1) by omega] at this
  exact this
theorem belP_at:∀ (r:List Nat) (k j s:Nat),r[j]? = some s→(belP k r)[j]? = some (((k+j+1:Nat):Int),1,true)
 | [],_,_,_,h=>by cases h
 | x::r,k,0,s,h=>rfl
 | x::r,k,j+1,s,h=>by
  have:=belP_at r (k+1) j s h
  rw[show k+1+j+1=k+(j+1)+1 by omega] at this
  exact this
theorem belL_get {r:List Nat}{k j:Nat}{v:Vs} (h:(belL k r)[j]? = some v):∃ s,r[j]? = some s∧v=belV (k+j) s:=by
 have hj:=(List.getElem?_eq_some_iff.mp h).1
 rw[belL_len] at hj
 have e:=belL_at r k j r[j] (List.getElem?_eq_getElem hj)
 rw[h] at e
 injection e with e
 exact⟨_,List.getElem?_eq_getElem hj,e⟩
theorem belP_get {r:List Nat}{k j:Nat}{p:Spt} (h:(belP k r)[j]? = some p):p=(((k+j+1:Nat):Int),1,true)∧j < r.length:=by
 have hj:=(List.getElem?_eq_some_iff.mp h).1
 rw[belP_len] at hj
 have e:=belP_at r k j r[j] (List.getElem?_eq_getElem hj)
 rw[h] at e
 injection e with e
 exact⟨e,hj⟩
noncomputable def hasB (j s:Nat):Nat:=if j < s then j+1 else 0
noncomputable def helB (j s:Nat):Nat:=if j < s then j else 0
noncomputable def d0 (f:Nat→Nat) (r:List Nat):List Int:=r.map fun s=>((f s:Nat):Int)
theorem hasB_le {j s:Nat}:hasB j s≤s:=by unfold hasB;split <;> omega
theorem hasB_tip {j s:Nat} (hs:1≤s):hasB j s=s↔s=j+1:=by unfold hasB;split <;> omega
theorem fill_bel (j:Nat):∀ (r:List Nat) (pre:List Int) (k:Nat),pre.length=k+1→fillL (pre++d0 (helB j) r) (belP k r) (r.map fun s=>decide (j < s))=pre++d0 (hasB j) r
 | [],pre,k,_=>by
  show fillL (pre++[]) [] []=_
  rfl
 | s::r,pre,k,hk=>by
  have e:fill1 (pre++d0 (helB j) (s::r)) (((k+1:Nat):Int),1,true) (decide (j < s))=(pre++[((hasB j s:Nat):Int)])++d0 (helB j) r:=by
   unfold fill1
   dsimp only
   rw[Int.toNat_natCast,← hk]
   unfold hasB d0
   rw[List.map_cons]
   by_cases c:j < s
   ·rw[decide_eq_true c,if_pos rfl,if_pos c]
    have e1:(pre++((helB j s:Nat):Int)::r.map fun s=>((helB j s:Nat):Int)).getD pre.length 0=((helB j s:Nat):Int):=by
     rw[List.getD_eq_getElem?_getD,List.getElem?_append_right (Nat.le_refl _),Nat.sub_self];rfl
    rw[e1,List.set_append_right _ _ (Nat.le_refl _),Nat.sub_self]
    unfold helB
    rw[if_pos c]
    simp
   ·rw[decide_eq_false c,if_neg (by simp),if_neg c]
    unfold helB
    rw[if_neg c]
    simp
  show fillL (fill1 (pre++d0 (helB j) (s::r)) (((k+1:Nat):Int),1,true) (decide (j < s))) (belP (k+1) r) (r.map fun s=>decide (j < s))=_
  rw[e,fill_bel j r _ (k+1) (by simp;omega)]
  simp [d0]
theorem add3_zero (f:Nat→Nat):∀ r:List Nat,add3 (d0 f r) (bI r.length) (bI r.length)=d0 f r
 | []=>rfl
 | s::r=>by
  show (((f s:Nat):Int)+0+0)::add3 (d0 f r) (bI r.length) (bI r.length)=((f s:Nat):Int)::d0 f r
  rw[add3_zero f r,Int.add_zero,Int.add_zero]
noncomputable def inI (j:Nat) (S:List Nat):Nat:=if j∈S then 1 else 0
theorem inI_le (j:Nat) (S:List Nat):inI j S≤1:=by unfold inI;split <;> omega
noncomputable def belS (S:List Nat) (j:Nat):Sta:=⟨0::d0 (helB j) S,((inI j S:Nat):Int)::bI S.length,S.map fun s=>decide (j < s)⟩
theorem bel_n (S:List Nat):(bR S).vs.length=S.length+1:=by show (belL 0 S).length+1=_;rw[belL_len]
theorem bel_has (S:List Nat) (j:Nat):aN (bR S) (belS S j).held (belS S j).coming (bI (bR S).vs.length) (belS S j).doors=((inI j S:Nat):Int)::d0 (hasB j) S:=by
 rw[bel_n]
 show fillL ((0+((inI j S:Nat):Int)+0)::add3 (d0 (helB j) S) (bI S.length) (bI S.length)) (belP 0 S) (S.map fun s=>decide (j < s))=_
 rw[add3_zero]
 have:=fill_bel j S [0+((inI j S:Nat):Int)+0] 0 rfl
 rw[show (0:Int)+((inI j S:Nat):Int)+0=((inI j S:Nat):Int) by omega] at this ⊢
 exact this
theorem stays_bel (j:Nat):∀ (r:List Nat) (k:Nat),(∀ s∈r,1≤s)→cC (belL k r) (d0 (hasB j) r)=d0 (helB (j+1)) r
 | [],_,_=>rfl
 | s::r,k,h=>by
  have hs:=h s List.mem_cons_self
  show vStay (belV k s) ((hasB j s:Nat):Int)::cC (belL (k+1) r) (d0 (hasB j) r)=((helB (j+1) s:Nat):Int)::d0 (helB (j+1)) r
  rw[show vStay (belV k s) ((hasB j s:Nat):Int)=_ from o_stay hasB_le,stays_bel j r (k+1) fun s hs=>h s (List.mem_cons_of_mem _ hs)]
  congr 2
  unfold hasB helB
  by_cases c:j < s
  ·rw[if_pos c]
   by_cases d:j+1=s
   ·rw[if_pos d,if_neg (by omega)]
   ·rw[if_neg d,if_pos (by omega)]
  ·rw[if_neg c,if_neg (by omega),if_neg (by omega)]
theorem tips_bel (j:Nat):∀ (r:List Nat) (k i:Nat),(∀ s∈r,1≤s)→∀ m,m∈aU i (belL k r) (d0 (hasB j) r)↔∃ q,r[q]? = some (j+1)∧m=i+q
 | [],_,_,_,m=>by
  constructor
  ·intro z;exact absurd z (by show ¬ m∈([]:List Nat);simp)
  ·rintro⟨q,hq,_⟩;cases hq
 | s::r,k,i,h,m=>by
  have hs:=h s List.mem_cons_self
  have ih:=tips_bel j r (k+1) (i+1) (fun s hs=>h s (List.mem_cons_of_mem _ hs)) m
  show m∈(if vTips (belV k s) ((hasB j s:Nat):Int)=true then i::aU (i+1) (belL (k+1) r) (d0 (hasB j) r) else aU (i+1) (belL (k+1) r) (d0 (hasB j) r))↔_
  rw[show vTips (belV k s) ((hasB j s:Nat):Int)=_ from o_tips hasB_le]
  have tail:(∃ q,r[q]? = some (j+1)∧m=i+1+q)↔∃ q,0 < q∧(s::r)[q]? = some (j+1)∧m=i+q:=by
   constructor
   ·rintro⟨q,h1,h2⟩
    exact⟨q+1,by omega,h1,by omega⟩
   ·rintro⟨q,h0,h1,h2⟩
    obtain⟨q,rfl⟩:∃ q',q=q'+1:=⟨q - 1,by omega⟩
    exact⟨q,h1,by omega⟩
  by_cases e:s=j+1
  ·rw[decide_eq_true ((hasB_tip hs).2 e),if_pos rfl,List.mem_cons,ih,tail]
   constructor
   ·rintro (z | ⟨q,_,z⟩)
    ·exact⟨0,by rw[e];rfl,by omega⟩
    ·exact⟨q,z⟩
   ·rintro⟨q,z⟩
    rcases Nat.eq_zero_or_pos q with e0 | e0
    ·subst e0;exact .inl z.2
    ·exact .inr ⟨q,e0,z⟩
  ·rw[decide_eq_false (fun z=>e ((hasB_tip hs).1 z)),if_neg (by simp),ih,tail]
   constructor
   ·rintro⟨q,_,z⟩;exact⟨q,z⟩
   ·rintro⟨q,z⟩
    rcases Nat.eq_zero_or_pos q with e0 | e0
    ·subst e0
     have z1:some s=some (j+1):=z.1
     injection z1 with z1
     exact absurd z1 e
    ·exact⟨q,e0,z⟩
theorem goes_bel (j:Nat) (u:Nat):∀ (r:List Nat) (k:Nat),(∀ s∈r,1≤s)→r.Nodup→bN (some (u:Int)) (bH (belL k r) (d0 (hasB j) r))=if u=0 then ((inI (j+1) r:Nat):Int) else 0
 | [],_,_,_=>by
  show (0:Int)=_
  split <;> rfl
 | s::r,k,h,nd=>by
  have hs:=h s List.mem_cons_self
  rw[List.nodup_cons] at nd
  have ih:=goes_bel j u r (k+1) (fun s hs=>h s (List.mem_cons_of_mem _ hs)) nd.2
  show bN (some (u:Int)) (vGoes (belV k s) ((hasB j s:Nat):Int)++bH (belL (k+1) r) (d0 (hasB j) r))=_
  rw[sumFor_append,ih,show bN (some (u:Int)) (vGoes (belV k s) ((hasB j s:Nat):Int))=_ from o_goes hs hasB_le _]
  by_cases e0:u=0
  ·subst e0
   rw[if_pos rfl,if_pos rfl]
   unfold inI
   by_cases e:s=j+1
   ·rw[if_pos ⟨(hasB_tip hs).2 e,rfl⟩,if_neg (fun z=>nd.1 (e ▸ z)),if_pos (by rw[e];exact List.mem_cons_self)];rfl
   ·rw[if_neg (fun z=>e ((hasB_tip hs).1 z.1))]
    by_cases c:j+1∈r
    ·rw[if_pos c,if_pos (List.mem_cons_of_mem _ c)];rfl
    ·rw[if_neg c,if_neg (fun z=>(List.mem_cons.1 z).elim (fun y=>e y.symm) c)];rfl
  ·rw[if_neg e0,if_neg e0,if_neg (fun z=>by have:=z.2;injection this with this;omega)];rfl
theorem doors_bel {S:List Nat}:∀ (tip:List Nat) (ds:List Bool) (q:Nat),ds.length=S.length→(bU (bR S).vs ds tip)[q]? = if q+1∈tip∧q < S.length then some false else ds[q]?
 | [],ds,q,_=>by
  show ds[q]? = _
  rw[if_neg (fun z=>by simp at z)]
 | i::tip,ds,q,hl=>by
  show (bU (bR S).vs (match (bR S).vs[i]? with | some v=>actsL ds v.acts | none=>ds) tip)[q]? = _
  have stay:(bU (bR S).vs ds tip)[q]? = if q+1∈tip∧q < S.length then some false else ds[q]?:=doors_bel tip ds q hl
  cases i with
  | zero=>
   show (bU (bR S).vs (actsL ds []) tip)[q]? = _
   show (bU (bR S).vs ds tip)[q]? = _
   rw[stay]
   by_cases c:q+1∈tip∧q < S.length
   ·rw[if_pos c,if_pos ⟨List.mem_cons_of_mem _ c.1,c.2⟩]
   ·rw[if_neg c,if_neg (fun z=>c ⟨(List.mem_cons.1 z.1).elim (fun y=>by omega) id,z.2⟩)]
  | succ i=>
   show (bU (bR S).vs (match (belL 0 S)[i]? with | some v=>actsL ds v.acts | none=>ds) tip)[q]? = _
   rcases Nat.lt_or_ge i S.length with hi | hi
   ·rw[belL_at S 0 i S[i] (List.getElem?_eq_getElem hi)]
    show (bU (bR S).vs (act1 ds ("shut",((0+i:Nat):Int))) tip)[q]? = _
    have ea:act1 ds ("shut",((0+i:Nat):Int))=ds.set i false:=by
     unfold act1
     rw[Nat.zero_add,Int.toNat_natCast,if_neg (show ¬ (("shut" : Str) = "open") by decide),if_neg (show ¬ (("shut" : Str) = "turn") by decide)]
    rw[ea,doors_bel tip (ds.set i false) q (by rw[List.length_set];exact hl)]
    by_cases c:q+1∈tip∧q < S.length
    ·rw[if_pos c,if_pos ⟨List.mem_cons_of_mem _ c.1,c.2⟩]
    ·rw[if_neg c,List.getElem?_set]
     by_cases e:i=q
     ·subst e
      rw[if_pos rfl,if_pos (by omega),if_pos ⟨List.mem_cons_self,hi⟩]
     ·rw[if_neg e,if_neg (fun z=>c ⟨(List.mem_cons.1 z.1).elim (fun y=>by omega) id,z.2⟩)]
   ·rw[show (belL 0 S)[i]? = none from List.getElem?_eq_none (by rw[belL_len];exact hi)]
    show (bU (bR S).vs ds tip)[q]? = _
    rw[stay]
    by_cases c:q+1∈tip∧q < S.length
    ·rw[if_pos c,if_pos ⟨List.mem_cons_of_mem _ c.1,c.2⟩]
    ·rw[if_neg c,if_neg (fun z=>c ⟨(List.mem_cons.1 z.1).elim (fun y=>by omega) id,z.2⟩)]
theorem bel_tips {S:List Nat} (h:∀ s∈S,1≤s) (j m:Nat):m∈aU 0 (bR S).vs (((inI j S:Nat):Int)::d0 (hasB j) S)↔(m=0∧j∈S)∨∃ q,S[q]? = some (j+1)∧m=1+q:=by
 show m∈(if vTips (oneV none 1 []) ((inI j S:Nat):Int)=true then 0::aU 1 (belL 0 S) (d0 (hasB j) S) else aU 1 (belL 0 S) (d0 (hasB j) S))↔_
 rw[o_tips (inI_le j S),← tips_bel j S 0 1 h m]
 unfold inI
 by_cases c:j∈S
 ·rw[if_pos c,decide_eq_true rfl,if_pos rfl,List.mem_cons]
  exact⟨fun z=>z.imp (fun y=>⟨y,c⟩) id,fun z=>z.imp (fun y=>y.1) id⟩
 ·rw[if_neg c,decide_eq_false (by decide),if_neg (by simp)]
  exact⟨.inr,fun z=>z.elim (fun y=>absurd y.2 c) id⟩
theorem bel_next {S:List Nat} (h:∀ s∈S,1≤s) (nd:S.Nodup) (j:Nat):(belS S j).next (bR S)=belS S (j+1):=by
 show Sta.mk (cC (bR S).vs (aN (bR S) (belS S j).held (belS S j).coming (bI (bR S).vs.length) (belS S j).doors)) (dD (bR S).vs.length (bH (bR S).vs (aN (bR S) (belS S j).held (belS S j).coming (bI (bR S).vs.length) (belS S j).doors)))
  (bU (bR S).vs (belS S j).doors (aU 0 (bR S).vs (aN (bR S) (belS S j).held (belS S j).coming (bI (bR S).vs.length) (belS S j).doors)))=_
 rw[bel_has,bel_n]
 unfold belS
 congr 1
 ·show vStay (oneV none 1 []) ((inI j S:Nat):Int)::cC (belL 0 S) (d0 (hasB j) S)=_
  rw[o_stay (inI_le j S),stays_bel j S 0 h]
  congr 1
  unfold inI
  by_cases c:j∈S
  ·rw[if_pos c,if_pos rfl];rfl
  ·rw[if_neg c,if_neg (by decide)];rfl
 ·unfold dD
  rw[List.range_succ_eq_map,List.map_cons,List.map_map]
  have key:∀ u:Nat,bN (some (u:Int)) (bH (bR S).vs (((inI j S:Nat):Int)::d0 (hasB j) S))=if u=0 then ((inI (j+1) S:Nat):Int) else 0:=fun u=>by
   show bN (some (u:Int)) (vGoes (oneV none 1 []) ((inI j S:Nat):Int)++bH (belL 0 S) (d0 (hasB j) S))=_
   rw[sumFor_append,goes_bel j u S 0 h nd,o_goes (Nat.le_refl _) (inI_le j S),if_neg (fun z=>by cases z.2),Int.zero_add]
  congr 1
  ·exact (key 0).trans (if_pos rfl)
  ·unfold bI
   rw[List.eq_replicate_iff]
   refine⟨by simp,fun b hb=>?_⟩
   obtain⟨u,_,rfl⟩:=List.mem_map.1 hb
   exact (key (u+1)).trans (if_neg (by omega))
 ·apply List.ext_getElem?
  intro q
  rw[doors_bel _ _ _ (by simp),List.getElem?_map,List.getElem?_map]
  rcases Nat.lt_or_ge q S.length with hq | hq
  ·rw[List.getElem?_eq_getElem hq]
   have hm:=bel_tips h j (q+1)
   have hs:=h S[q] (List.getElem_mem hq)
   by_cases c:S[q]=j+1
   ·rw[if_pos ⟨hm.2 (.inr ⟨q,by rw[List.getElem?_eq_getElem hq,c],by omega⟩),hq⟩]
    show some false=some (decide (j+1 < S[q]))
    rw[decide_eq_false (by omega)]
   ·rw[if_neg (fun z=>by
     rcases hm.1 z.1 with y | ⟨q',y1,y2⟩
     ·omega
     ·have:q'=q:=by omega
      subst this
      rw[List.getElem?_eq_getElem hq] at y1
      injection y1 with y1
      exact c y1)]
    show some (decide (j < S[q]))=some (decide (j+1 < S[q]))
    by_cases d:j < S[q]
    ·rw[decide_eq_true d,decide_eq_true (by omega)]
    ·rw[decide_eq_false d,decide_eq_false (by omega)]
  ·rw[List.getElem?_eq_none hq,if_neg (fun z=>by omega)];rfl
theorem bel_sta {S:List Nat} (h:∀ s∈S,1≤s) (nd:S.Nodup):∀ j,cO (bR S) j=belS S j
 | 0=>by
  show Sta.mk (bI (bR S).vs.length) (bI (bR S).vs.length) ((bR S).sps.map (·.2.2))=_
  rw[bel_n]
  unfold belS
  congr 1
  ·show (0:Int)::bI S.length=0::d0 (helB 0) S
   congr 1
   unfold bI d0
   rw[eq_comm,List.eq_replicate_iff]
   refine⟨by simp,fun b hb=>?_⟩
   obtain⟨u,_,rfl⟩:=List.mem_map.1 hb
   unfold helB
   split <;> rfl
  ·show (0:Int)::bI S.length=((inI 0 S:Nat):Int)::bI S.length
   unfold inI
   rw[if_neg (fun z=>by have:=h 0 z;omega)];rfl
  ·apply List.ext_getElem?
   intro q
   rw[List.getElem?_map,List.getElem?_map]
   rcases Nat.lt_or_ge q S.length with hq | hq
   ·show Option.map _ ((belP 0 S)[q]?)=_
    rw[List.getElem?_eq_getElem hq,belP_at S 0 q S[q] (List.getElem?_eq_getElem hq)]
    have:=h S[q] (List.getElem_mem hq)
    show some true=some (decide (0 < S[q]))
    rw[decide_eq_true (by omega)]
   ·show Option.map _ ((belP 0 S)[q]?)=_
    rw[List.getElem?_eq_none hq,List.getElem?_eq_none (by rw[belP_len];exact hq)];rfl
 | j+1=>by
  show (cO (bR S) j).next (bR S)=_
  rw[bel_sta h nd j,bel_next h nd j]
theorem bel_tip {S:List Nat} (h:∀ s∈S,1≤s) (nd:S.Nodup) (j:Nat):0∈tipAt (bR S) j↔j∈S:=by
 unfold tipAt Sta.tk
 rw[bel_sta h nd j]
 show 0∈aU 0 (bR S).vs (aN (bR S) (belS S j).held (belS S j).coming (bI (bR S).vs.length) (belS S j).doors)↔_
 rw[bel_has,bel_tips h j 0]
 constructor
 ·rintro (z | ⟨q,_,z⟩)
  ·exact z.2
  ·omega
 ·exact fun z=>.inl ⟨rfl,z⟩
theorem up_ext:∀ (a b:List Nat),a.Pairwise (· < ·)→b.Pairwise (· < ·)→(∀ x,x∈a↔x∈b)→a=b
 | [],[],_,_,_=>rfl
 | [],y::b,_,_,h=>absurd ((h y).2 List.mem_cons_self) (by simp)
 | x::a,[],_,_,h=>absurd ((h x).1 List.mem_cons_self) (by simp)
 | x::a,y::b,ha,hb,h=>by
  rw[List.pairwise_cons] at ha hb
  have e:x=y:=by
   rcases List.mem_cons.1 ((h x).1 List.mem_cons_self) with z | z
   ·exact z
   ·rcases List.mem_cons.1 ((h y).2 List.mem_cons_self) with u | u
    ·exact u.symm
    ·have:=hb.1 x z;have:=ha.1 y u;omega
  subst e
  congr 1
  refine up_ext a b ha.2 hb.2 fun z=>⟨fun hz=>?_,fun hz=>?_⟩
  ·rcases List.mem_cons.1 ((h z).1 (List.mem_cons_of_mem _ hz)) with u | u
   ·have:=ha.1 z hz;omega
   ·exact u
  ·rcases List.mem_cons.1 ((h z).2 (List.mem_cons_of_mem _ hz)) with u | u
   ·have:=hb.1 z hz;omega
   ·exact u
theorem bel_rings {S:List Nat} (h:∀ s∈S,1≤s) (up:S.Pairwise (· < ·)) {n:Nat} (hn:∀ s∈S,s < n):tipsOf (bR S) n 0=S:=by
 have nd:S.Nodup:=up.imp fun z=>Nat.ne_of_lt z
 refine up_ext _ _ ?_ up fun x=>?_
 ·exact List.Pairwise.filter _ List.pairwise_lt_range
 ·unfold tipsOf
  rw[List.mem_filter,List.mem_range,decide_eq_true_eq,bel_tip h nd x]
  exact⟨fun z=>z.2,fun z=>⟨hn x z,z⟩⟩
theorem one_ok {n m:Nat}{t:Option Int}{s:Nat}{ac:List (Str×Int)} (ht:∀ u,t=some u→0≤u∧u < n) (h1:1≤s) (h2:s≤60) (a3:ac.length≤3) (ha:∀ a∈ac,ActOk m a):VOk n m (oneV t s ac):=by
 have ot:OutOk n (t,1):=⟨ht,(by show (1:Int)≤1;decide),(by show (1:Int)≤60;decide)⟩
 refine { size:=by show (1:Int)≤(s:Int);omega,ne:=?_,o3:=?_,outs:=?_,spill:=fun t ht=>(by cases ht),a3:=a3,acts:=ha }
 ·show d3 _ _≠[]
  unfold d3;split <;> simp
 ·show (d3 _ _).length≤3
  unfold d3;split <;> simp
 ·show ∀ o∈d3 _ _,_
  unfold d3
  split
  ·intro o ho
   rcases List.mem_cons.1 ho with z | z
   ·subst z;exact ot
   ·have:=List.mem_singleton.1 z
    subst this
    exact⟨fun t ht=>(by cases ht),by show (1:Int)≤(s:Int) - 1;omega,by show (s:Int) - 1≤60;omega⟩
  ·intro o ho
   have:=List.mem_singleton.1 ho
   subst this
   exact ot
theorem bel_ok {S:List Nat} (h8:S.length≤11) (h:∀ s∈S,1≤s∧s≤60):NetOk (bR S) where
 lo:=by rw[bel_n];omega
 hi:=by rw[bel_n];omega
 sp:=by show (belP 0 S).length≤12;rw[belP_len];omega
 vs:=fun v hv=>by
  rw[bel_n,show (bR S).sps.length=S.length from belP_len _ _]
  rcases List.mem_cons.1 (show v∈oneV none 1 []::belL 0 S from hv) with e | e
  ·subst e
   exact one_ok (fun u hu=>by cases hu) (Nat.le_refl _) (by decide) (by decide) fun a ha=>by cases ha
  ·obtain⟨j,hj⟩:=List.mem_iff_getElem?.1 e
   obtain⟨s,hs,rfl⟩:=belL_get hj
   have hjl:=(List.getElem?_eq_some_iff.mp hs).1
   have h1:=h s (List.mem_of_getElem? hs)
   refine one_ok (fun u hu=>?_) h1.1 h1.2 (by simp) fun a ha=>?_
   ·injection hu with hu;omega
   ·have:=List.mem_singleton.1 ha
    subst this
    exact⟨.inr (.inl rfl),by show (0:Int)≤((0+j:Nat):Int);omega,by show ((0+j:Nat):Int) < (S.length:Int);omega⟩
 sps:=fun p hp=>by
  obtain⟨j,hj⟩:=List.mem_iff_getElem?.1 hp
  obtain⟨e,hl⟩:=belP_get hj
  rw[e,bel_n]
  exact⟨by show (0:Int)≤((0+j+1:Nat):Int);omega,by show ((0+j+1:Nat):Int) < ((S.length+1:Nat):Int);omega⟩
theorem bel_full {S:List Nat} (h:∀ s∈S,1≤s∧s≤60):NetFull (bR S) where
 vs:=fun i v hv=>by
  have key:∃ t s ac,v=oneV t s ac∧s≤60:=by
   cases i with
   | zero=>cases hv;exact⟨_,_,_,rfl,by decide⟩
   | succ i=>
    obtain⟨s,hs,rfl⟩:=belL_get (show (belL 0 S)[i]? = some v from hv)
    exact⟨_,_,_,rfl,(h s (List.mem_of_getElem? hs)).2⟩
  obtain⟨t,s,ac,rfl,hs⟩:=key
  exact⟨by show (s:Int)≤60;omega,Int.le_refl _,by show (s:Int)≤200;omega,fun t ht=>(by cases ht)⟩
 sps:=fun p hp=>by
  obtain⟨j,hj⟩:=List.mem_iff_getElem?.1 hp
  obtain⟨e,hl⟩:=belP_get hj
  rw[e]
  exact⟨(by show (0:Int)≤1;decide),(by show (1:Int)≤60;decide)⟩
end Tw
namespace L2
open PySem PySem.Spec PyProof.Rows TwZ
section
variable {X:Cx}
end
end L2
namespace L2
open PySem PySem.Spec PyProof.Rows
theorem op_notB {X:Cx}:OpR X (compareOp .IsNot) (fun x y H Q=>∃ b c:Bool,x=.bl b∧y=.bl c∧Q (.bl (!(b == c))) H):=by
 intro pins s σ H x y v u Q I rx ry h
 obtain⟨b,c,rfl,rfl,q⟩:=h
 cases rx
 cases ry
 refine wpAny_isNot_plain (by cases b <;> cases c <;> rfl) (b8 I q ?_)
 cases b <;> cases c <;> rfl
end L2
namespace Tw
open PySem L2
section
variable {P:Program}{w:World}{K:PySem.W.Frag}{mg:Str→Option Value}{base:Heap}{C c_TooLong c_NoVessel:Addr}
noncomputable def spOneOn (K:PySem.W.Frag):Sp:=fun vs H Q _=>∃ (t:Option Int) (s:Nat),vs=[tgV t,.int (s:Int)]∧∀ p H',aG H H'→Is K H' (.tup ((d3 t s).map outD)) p→Q p H'
theorem sc_one_on:FnScope ["target","size"] ["target","size"] (aK (bD 2)):=⟨rfl,rfl,rfl,by decide +kernel,rfl,by decide +kernel,by decide +kernel⟩
theorem ok_one_on {f:Addr}{fd:FuncData} (F:Fun K "one_on" "one_on" (bD 2) f fd) (T:Txt mg):FnOk P w K mg base CX0 1 f fd ["target","size"] (spOneOn K):=by
 refine F.ok sc_one_on (fun vs H Q E h=>?_) (fun cdv A outer s H vs Q E hr h=>?_)
 ·obtain⟨t,n,rfl,_⟩:=h;rfl
 ·obtain⟨t,n,rfl,k⟩:=h
  have sc:=sc_one_on
  refine⟨_,(aE (bS (bG op_gt (pv 1) aD (bP _)) (aI (aS (bO (aA (bO (aA (pv 0) (aA aD aB))) (aA (bO (aA pe_non (aA (b9 op_sub (pv 1) aD) aB))) aB))))) aT)
   (aI (aS (bO (aA (bO (aA (pv 0) (aA aD aB))) aB))))),?_⟩
  refine⟨_,rfl,_,_,rfl,rfl,_,rfl,ite2 (fun hT=>?_) fun hF=>?_⟩
  ·have hT:(1:Int) < (n:Int):=of_decide_eq_true hT
   have e:d3 t n=[(t,1),(none,(n:Int) - 1)]:=by unfold d3;rw[if_pos (by omega)]
   rw[e] at k
   refine⟨_,rfl,(show 2≤sizeLine by decide),fun e1 he1=>⟨_,rfl,_,_,rfl,rfl,(show 2≤sizeLine by decide),fun e2 he2=>⟨(show 2≤sizeLine by decide),fun e3 he3=>?_⟩⟩⟩
   have s1:=aG.new (o:=HO.tup [tgV t,.int 1]) he1
   have s2:=aG.new (o:=HO.tup [.non,.int ((n:Int) - 1)]) he2
   have s3:=aG.new (o:=HO.tup [.ref e1,.ref e2]) he3
   refine k _ _ ((s1.trans s2).trans s3) ?_
   refine Is.tupOf (ds:=[outD (t,1),outD (none,(n:Int) - 1)]) (bL.of aC) (.cons (Is.tupOf (ds:=[tgD t,.int 1]) ((s2.trans s3).tup (bL.of aC)) (.cons (Is.tgOf t) (.cons (Is.i _) .nil))) (.cons (Is.tupOf (ds:=[.non,.int ((n:Int) - 1)]) (s3.tup (bL.of aC)) (.cons Is.n (.cons (Is.i _) .nil))) .nil))
  ·have hF:¬ 1 < n:=fun z=>hF (decide_eq_true (show (1:Int) < (n:Int) by omega))
   have e:d3 t n=[(t,1)]:=by unfold d3;rw[if_neg hF]
   rw[e] at k
   refine⟨_,rfl,(show 2≤sizeLine by decide),fun e1 he1=>⟨(show 1≤sizeLine by decide),fun e3 he3=>?_⟩⟩
   have s1:=aG.new (o:=HO.tup [tgV t,.int 1]) he1
   have s3:=aG.new (o:=HO.tup [.ref e1]) he3
   refine k _ _ (s1.trans s3) ?_
   exact Is.tupOf (ds:=[outD (t,1)]) (bL.of aC) (.cons (Is.tupOf (ds:=[tgD t,.int 1]) (s3.tup (bL.of aC)) (.cons (Is.tgOf t) (.cons (Is.i _) .nil))) .nil)
theorem take_snoc {α:Type}{xs:List α}{i:Nat}{x:α} (h:xs[i]? = some x):xs.take (i+1)=xs.take i++[x]:=by
 rw[List.take_succ,h];rfl
end
end Tw
namespace TwS
open PySem
noncomputable def Up (xs:Array Nat):Prop:=∀ i j a b:Nat,i < j→xs[i]? = some a→xs[j]? = some b→a < b
theorem below_go (xs:Array Nat) (h:Up xs) (j:Nat):∀ (fuel lo hi:Nat),hi≤xs.size→lo≤hi→hi - lo≤fuel→(∀ i a,i < lo→xs[i]? = some a→a < j)→(∀ i a,hi≤i→xs[i]? = some a→j≤a)→
  (∀ i a,i < SetTable.below.go xs j fuel lo hi→xs[i]? = some a→a < j)∧(∀ i a,SetTable.below.go xs j fuel lo hi≤i→xs[i]? = some a→j≤a)∧SetTable.below.go xs j fuel lo hi≤xs.size
 | 0,lo,hi,h1,h2,h3,l,r=>by
  have:lo=hi:=by omega
  subst this
  show (∀ i a,i < lo→_)∧(∀ i a,lo≤i→_)∧lo≤_
  exact⟨l,r,h1⟩
 | fuel+1,lo,hi,h1,h2,h3,l,r=>by
  have e0:SetTable.below.go xs j (fuel+1) lo hi=if lo < hi then (if xs.getD ((lo+hi) / 2) j < j then SetTable.below.go xs j fuel ((lo+hi) / 2+1) hi else SetTable.below.go xs j fuel lo ((lo+hi) / 2)) else lo:=rfl
  rw[e0]
  by_cases hlt:lo < hi
  ·rw[if_pos hlt]
   have hm:(lo+hi) / 2 < xs.size:=by omega
   have hg:xs[(lo+hi) / 2]? = some (xs.getD ((lo+hi) / 2) j):=by
    rw[Array.getElem?_eq_getElem hm,Array.getD_eq_getD_getElem?,Array.getElem?_eq_getElem hm];rfl
   by_cases hc:xs.getD ((lo+hi) / 2) j < j
   ·rw[if_pos hc]
    refine below_go xs h j fuel ((lo+hi) / 2+1) hi h1 (by omega) (by omega) (fun i a hi' e=>?_) r
    rcases Nat.lt_or_ge i ((lo+hi) / 2) with z | z
    ·exact Nat.lt_trans (h _ _ _ _ z e hg) hc
    ·have:i=(lo+hi) / 2:=by omega
     subst this
     rw[hg] at e;cases e;exact hc
   ·rw[if_neg hc]
    refine below_go xs h j fuel lo ((lo+hi) / 2) (by omega) (by omega) (by omega) l (fun i a hi' e=>?_)
    rcases Nat.lt_or_ge ((lo+hi) / 2) i with z | z
    ·exact Nat.le_trans (Nat.le_of_not_lt hc) (Nat.le_of_lt (h _ _ _ _ z hg e))
    ·have:i=(lo+hi) / 2:=by omega
     subst this
     rw[hg] at e;cases e;exact Nat.le_of_not_lt hc
  ·rw[if_neg hlt]
   have:lo=hi:=by omega
   subst this
   exact⟨l,r,h1⟩
theorem below_at {xs:Array Nat} (h:Up xs) (j:Nat):(∀ i a,i < SetTable.below xs j→xs[i]? = some a→a < j)∧(∀ i a,SetTable.below xs j≤i→xs[i]? = some a→j≤a)∧SetTable.below xs j≤xs.size:=
 below_go xs h j xs.size 0 xs.size (Nat.le_refl _) (Nat.zero_le _) (by omega) (fun i a hi _=>absurd hi (Nat.not_lt_zero _)) (fun i a hi e=>by
  have:=(Array.getElem?_eq_some_iff.mp e).1
  omega)
theorem below_next {xs:Array Nat} (h:Up xs) {i a:Nat} (e:xs[i]? = some a):SetTable.below xs (a+1)=i+1:=by
 obtain⟨h1,h2,h3⟩:=below_at h (a+1)
 have hi:=(Array.getElem?_eq_some_iff.mp e).1
 rcases Nat.lt_trichotomy (SetTable.below xs (a+1)) (i+1) with z | z | z
 ·have:=h2 i a (by omega) e;omega
 ·exact z
 ·have hlt:i+1 < xs.size:=by omega
  have e2:xs[i+1]? = some xs[i+1]:=Array.getElem?_eq_getElem hlt
  have l1:=h1 (i+1) _ z e2
  have l2:=h i (i+1) _ _ (Nat.lt_succ_self _) e e2
  omega
theorem below_0 {xs:Array Nat} (h:Up xs):SetTable.below xs 0=0:=by
 obtain⟨h1,_,h3⟩:=below_at h 0
 rcases Nat.eq_zero_or_pos (SetTable.below xs 0) with z | z
 ·exact z
 ·have e2:xs[0]? = some xs[0]:=Array.getElem?_eq_getElem (by omega)
  have:=h1 0 _ z e2
  omega
theorem up_nil:Up #[]:=fun i j a b _ e _=>by simp at e
theorem up_list {xs:Array Nat}:Up xs↔xs.toList.Pairwise (· < ·):=by
 rw[List.pairwise_iff_getElem]
 constructor
 ·intro h i j hi hj hij
  exact h i j _ _ hij (by rw[← Array.getElem?_toList];exact List.getElem?_eq_getElem hi) (by rw[← Array.getElem?_toList];exact List.getElem?_eq_getElem hj)
 ·intro h i j a b hij e1 e2
  rw[← Array.getElem?_toList] at e1 e2
  obtain⟨p1,rfl⟩:=List.getElem?_eq_some_iff.mp e1
  obtain⟨p2,rfl⟩:=List.getElem?_eq_some_iff.mp e2
  exact h i j p1 p2 hij
theorem up_put {xs:Array Nat} (h:Up xs) {j:Nat} (hn:xs[SetTable.below xs j]?≠some j):Up (SetTable.insertAt xs (SetTable.below xs j) j):=by
 obtain⟨h1,h2,h3⟩:=below_at h j
 rw[up_list,SetTable.toList_insertAt,List.pairwise_append,List.pairwise_cons]
 have hl:=up_list.1 h
 refine⟨hl.take,⟨fun a ha=>?_,hl.drop⟩,fun a ha b hb=>?_⟩
 ·obtain⟨i,hi⟩:=List.mem_iff_getElem?.1 ha
  rw[List.getElem?_drop,Array.getElem?_toList] at hi
  have le:=h2 _ _ (Nat.le_add_right _ _) hi
  rcases Nat.lt_or_ge j a with z | z
  ·exact z
  ·have ej:j=a:=by omega
   subst ej
   rcases Nat.eq_zero_or_pos i with e0 | e0
   ·subst e0;exact absurd hi hn
   ·have hlt:SetTable.below xs j < xs.size:=by
     have:=(Array.getElem?_eq_some_iff.mp hi).1;omega
    have e2:xs[SetTable.below xs j]? = some xs[SetTable.below xs j]:=Array.getElem?_eq_getElem hlt
    have l2:=h2 _ _ (Nat.le_refl _) e2
    have l3:=h _ _ _ _ (show SetTable.below xs j < SetTable.below xs j+i by omega) e2 hi
    omega
 ·obtain⟨i,hi⟩:=List.mem_iff_getElem?.1 ha
  rw[List.getElem?_take] at hi
  split at hi
  ·rename_i hlt
   rw[Array.getElem?_toList] at hi
   have l1:=h1 _ _ hlt hi
   rcases List.mem_cons.1 hb with z | z
   ·subst z;exact l1
   ·obtain⟨i2,hi2⟩:=List.mem_iff_getElem?.1 z
    rw[List.getElem?_drop,Array.getElem?_toList] at hi2
    have:=h2 _ _ (Nat.le_add_right _ _) hi2
    omega
  ·cases hi
theorem up_range (n:Nat):Up (Array.range n):=by
 rw[up_list,Array.toList_range]
 exact List.pairwise_lt_range
structure Tidy (b:Bool) (t:SetTable):Prop where
 led:t.led=b
 up:Up t.place
 dm:t.dummies = #[]
theorem tidy_fresh (b:Bool):Tidy b (.fresh 0 0 b):=⟨rfl,up_nil,rfl⟩
theorem tidy_stand {b:Bool}{t:SetTable} (h:Tidy b t) (n:Nat):Tidy b (t.standIn n):=⟨h.led,up_range n,rfl⟩
theorem tidy_or {b:Bool}{t:SetTable} (h:Tidy b t) (n:Nat):Tidy b (t.orStandIn n):=by
 unfold SetTable.orStandIn
 split
 ·exact h
 ·exact tidy_stand h n
theorem has_none (j:Nat):SetTable.has #[] j=false:=by
 unfold SetTable.has;simp
theorem slot_free {b:Bool}{t:SetTable} (h:Tidy b t) (j:Nat):t.slot j≠.dummy:=by
 unfold SetTable.slot
 rw[h.dm,has_none]
 dsimp only
 by_cases c:(t.place[SetTable.below t.place j]? == some j)=true
 ·rw[if_pos c];intro z;cases z
 ·rw[if_neg c,if_neg (by decide)];intro z;cases z
theorem probe_free {b:Bool}{t:SetTable} (h:Tidy b t) (hash:Int):∀ (fuel:Nat) (p:SetTable.Probe) (m:SetTable.Met),p.dummy=none→SetTable.probe.go t (fun _=>hash+1) hash fuel p=some m→
  ∃ j,m=.empty j none∧t.place[SetTable.below t.place j]?≠some j
 | 0,p,m,_,e=>by cases e
 | fuel+1,p,m,hd,e=>by
  unfold SetTable.probe.go at e
  have adv:(t.advance p).dummy=none:=by
   unfold SetTable.advance
   split <;> exact hd
  split at e
  ·rename_i hs
   cases e
   refine⟨p.j,by rw[hd],fun z=>?_⟩
   unfold SetTable.slot at hs
   simp [z] at hs
  ·rename_i hs
   exact absurd hs (slot_free h _)
  ·rename_i i hs
   split at e
   ·rename_i hh
    simp at hh
    omega
   ·exact probe_free h hash fuel _ m adv e
theorem tidy_new {b:Bool}{t:SetTable} (h:Tidy b t) (es:Array (Int×Value)) (hash:Int) (x:Value):Tidy b (layNew t es hash x).2.1:=by
 unfold layNew
 split
 ·rename_i slot wasDummy hf
  unfold SetTable.freeSlot at hf
  split at hf
  ·rename_i j dummy hp
   obtain⟨j',e,hn⟩:=probe_free h hash _ (t.probeStart hash) _ rfl hp
   cases e
   cases hf
   refine tidy_or (t:=(t.put _).1) ⟨h.led,up_put h.up hn,?_⟩ _
   show (if SetTable.has t.dummies _ then _ else t.dummies) = #[]
   rw[h.dm,has_none]
   rfl
  ·cases hf
 ·exact tidy_stand h _
theorem tidy_relay {b:Bool}{t:SetTable} (h:Tidy b t) (es:Array (Int×Value)) (n:Nat):Tidy b (relayAll t es n).2.1:=by
 unfold relayAll
 split
 ·rename_i t' order hr
  dsimp only
  split
  ·show Tidy b t'
   unfold SetTable.relaid SetTable.laid at hr
   obtain⟨owner,ho,e⟩:=Option.bind_eq_some_iff.mp hr
   cases e
   refine⟨h.led,?_,rfl⟩
   rw[up_list]
   dsimp only
   rw[List.pairwise_map,List.pairwise_filterMap]
   refine List.pairwise_lt_range.imp fun {a c} hac x hx y hy=>?_
   obtain⟨x',_,rfl⟩:=Option.map_eq_some_iff.mp hx
   obtain⟨y',_,rfl⟩:=Option.map_eq_some_iff.mp hy
   exact hac
  ·exact tidy_stand h _
 ·exact tidy_stand h _
end TwS
namespace TwS
open PySem PyProof.Rows
noncomputable def intOf:Value→Int
 | .int i _=>i
 | _=>0
structure Cnt (prog:Program) (w:World) (b:Bool) (L:List Int) (es:Array (Int×Value)) (t:SetTable):Prop where
 el:ElemsOf (intKind prog w) es.toList
 pm:(es.toList.map fun e=>intOf e.2).Perm L
 bd:es.size < scanBound
 ft:t.fits es.size=true
 td:Tidy b t
noncomputable def SetI (prog:Program) (w:World) (b:Bool) (h:Heap) (a:Addr) (L:List Int):Prop:=
 ∃ o es ep t,h.get? a=some o∧o.ExactSet∧o.data=.set es ep t∧Cnt prog w b L es t
section
variable {prog:Program}{w:World}{b:Bool}{A:Around}{E:Value→Shared→Prop}{s:Shared}{a:Addr}{L:List Int}
theorem el_int {es:List (Int×Value)} (h:ElemsOf (intKind prog w) es) {e:Int×Value} (he:e∈es):∃ i t,e.2=.int i t:=by
 obtain⟨⟨k,hk,_⟩,_⟩:=h e he
 obtain⟨t,z⟩:=Value.isInt_shape hk
 exact⟨k,t,z⟩
theorem is_int {es:List (Int×Value)} (h:ElemsOf (intKind prog w) es) {e:Int×Value} (he:e∈es) (k:Int):(intKind prog w).is k e.2=decide (intOf e.2=k):=by
 obtain⟨i,t,z⟩:=el_int h he
 rw[z]
 show (i == k)=decide (i=k)
 rfl
theorem mem_cnt {es:Array (Int×Value)}{t:SetTable} (c:Cnt prog w b L es t) (k:Int):k∈L↔∃ e∈es.toList,(intKind prog w).is k e.2=true:=by
 rw[← c.pm.mem_iff,List.mem_map]
 constructor
 ·rintro⟨e,he,z⟩
  exact⟨e,he,by rw[is_int c.el he];exact decide_eq_true z⟩
 ·rintro⟨e,he,z⟩
  rw[is_int c.el he] at z
  exact⟨e,he,of_decide_eq_true z⟩
theorem len_cnt {es:Array (Int×Value)}{t:SetTable} (c:Cnt prog w b L es t):es.size=L.length:=by
 rw[← c.pm.length_eq,List.length_map,Array.length_toList]
theorem cnt_store {o:Obj}{es es':Array (Int×Value)}{ep:Nat}{t t':SetTable}{h:Heap}{L':List Int} (g:h.get? a=some o) (x:o.ExactSet) (d:o.data=.set es ep t) (c:Cnt prog w b L' es' t') :
  (h.update a (Obj.putSet es' t')).get? a=some { o with data:=.set es' (ep+1) t' }∧SetI prog w b (h.update a (Obj.putSet es' t')) a L':=by
 have u:(h.update a (Obj.putSet es' t')).get? a=some { o with data:=.set es' (ep+1) t' }:=by
  have:=Heap.get?_update_self (Obj.putSet es' t') g (by rw[putSet_of es' t' d];rfl)
  rw[putSet_of es' t' d] at this
  exact this
 exact⟨u,_,_,_,_,u,x,rfl,c⟩
theorem gave_pass (q:Bool) {s1:Shared}{R:Unit→Shared→Prop} (h:R () s1):wpAny (model prog w) A (match q with | true=>rule "set.scan.the-table-gave-way" | false=>pure ()) R E s1:=by
 cases q
 ·exact wpAny_pure h
 ·exact wpAny_rule h
theorem add_int {k:Int}{tk:Tok}{R:Bool→Shared→Prop} (hS:SetI prog w b s.heap a L) (room:L.length+1 < scanBound)
  (hR:∀ h',Heap.SameBut a s.heap h'→SetI prog w b h' a (if k∈L then L else L++[k])→R (!decide (k∈L)) { s with heap:=h' }) :
  wpAny (model prog w) A (setAddHashed a (.int k tk) ((intKind prog w).hash k)) R E s:=by
 obtain⟨o,es,ep,t,g,x,d,c⟩:=hS
 have ln:=len_cnt c
 have isk:(intKind prog w).is k (.int k tk)=true:=intKind_is _ _ _ _
 have sc:(Value.int k tk).scannable=true:=rfl
 unfold setAddHashed setAddHashedIn
 refine wpAny_holding (wpAny_bind (wpAny_setState_of (prog:=prog) g d c.ft ?_))
 dsimp only
 rw[byScan_of sc c.bd c.el,if_pos rfl]
 unfold setAddByScan
 refine wpAny_bind (wpAny_bind (wpAny_rule (wpAny_bind (wpAny_setScan_of isk g d c.ft c.el ?_))))
 by_cases m:k∈L
 ·obtain⟨e,he,z⟩:=(mem_cnt c k).1 m
  cases q:es.toList.findIdx? (fun e=>(intKind prog w).is k e.2) with
  | none=>have:=List.findIdx?_eq_none_iff.mp q e he;rw[z] at this;cases this
  | some j=>
   have r:=hR s.heap (Heap.SameBut.refl a s.heap)
   rw[if_pos m,decide_eq_true m] at r
   exact wpAny_pure (wpAny_pure (r ⟨o,es,ep,t,g,x,d,c⟩))
 ·cases q:es.toList.findIdx? (fun e=>(intKind prog w).is k e.2) with
  | some j=>
   obtain⟨hj,z,_⟩:=List.findIdx?_eq_some_iff_getElem.mp q
   exact absurd ((mem_cnt c k).2 ⟨_,List.getElem_mem hj,z⟩) m
  | none=>
   dsimp only
   rw[if_neg m,decide_eq_false m] at hR
   have p1:=layNew_perm t es ((intKind prog w).hash k) (.int k tk)
   have f1:=layNew_fits t es ((intKind prog w).hash k) (.int k tk)
   have t1:=tidy_new c.td es ((intKind prog w).hash k) (.int k tk)
   generalize layNew t es ((intKind prog w).hash k) (.int k tk)=Y at p1 f1 t1 ⊢
   obtain⟨es1,tb1,wd,gv⟩:=Y
   dsimp only at p1 f1 t1 ⊢
   rw[Array.toList_push] at p1
   have c1:Cnt prog w b (L++[k]) es1 tb1:=by
    refine⟨(c.el.push isk sc).perm p1,?_,?_,f1,t1⟩
    ·refine (p1.map _).trans ?_
     rw[List.map_append]
     exact c.pm.append_right _
    ·rw[← Array.length_toList,p1.length_eq,List.length_append,Array.length_toList,ln]
     exact room
   have fin:∀ (tb2:SetTable),Cnt prog w b (L++[k]) es1 tb2→wpAny (model prog w) A (do
     storeSet a es1 tb2
     if (!wd && tb2.tooFull)=true then do
       (match (relayAll tb2 es1 (SetTable.grown es1.size)).2.2 with | true=>rule "set.scan.the-table-gave-way" | false=>pure ())
       storeSet a (relayAll tb2 es1 (SetTable.grown es1.size)).1 (relayAll tb2 es1 (SetTable.grown es1.size)).2.1
       pure (some true)
      else pure (some true)) (fun r s'=>wpAny (model prog w) A (match r with | some added=>pure added | none=>setAddHashedIn a (.int k tk) ((intKind prog w).hash k) 99999) R E s') E s:=by
    intro tb2 c2
    refine wpAny_bind (wpAny_storeSet_of g d ?_ (fits_of_scanBound c2.bd))
    obtain⟨g1,S1⟩:=cnt_store g x d c2
    have sb:=Heap.SameBut.update s.heap a (Obj.putSet es1 tb2)
    split
    ·have p3:=relayAll_perm tb2 es1 (SetTable.grown es1.size)
     have f3:=relayAll_fits tb2 es1 (SetTable.grown es1.size)
     have t3:=tidy_relay c2.td es1 (SetTable.grown es1.size)
     generalize relayAll tb2 es1 (SetTable.grown es1.size)=Y at p3 f3 t3 ⊢
     obtain⟨es3,tb3,gv3⟩:=Y
     dsimp only at p3 f3 t3 ⊢
     have c3:Cnt prog w b (L++[k]) es3 tb3:=⟨c2.el.perm p3,(p3.map _).trans c2.pm,by rw[← Array.length_toList,p3.length_eq,Array.length_toList];exact c2.bd,f3,t3⟩
     refine wpAny_bind (gave_pass gv3 (wpAny_bind (wpAny_storeSet_of g1 rfl ?_ (fits_of_scanBound c3.bd))))
     exact wpAny_pure (wpAny_pure (hR _ (sb.trans (Heap.SameBut.update _ a _)) (cnt_store g1 x rfl c3).2))
    ·exact wpAny_pure (wpAny_pure (hR _ sb S1))
   refine wpAny_bind (gave_pass gv ?_)
   split
   ·refine wpAny_bind ?_
    rw[hashByValue_scannable 8 sc]
    refine wpAny_pure ?_
    exact fin _ c1
   ·refine wpAny_bind (wpAny_pure ?_)
    exact fin _ c1
end
end TwS
namespace TwS
open PySem PySem.Spec PyProof.Rows
noncomputable def dd (val:Nat→Int):Nat→List Int
 | 0=>[]
 | i+1=>if val i∈dd val i then dd val i else dd val i++[val i]
theorem dd_succ (val:Nat→Int) (i:Nat):dd val (i+1)=if val i∈dd val i then dd val i else dd val i++[val i]:=rfl
theorem dd_len (val:Nat→Int):∀ i,(dd val i).length≤i
 | 0=>Nat.le_refl _
 | i+1=>by
  have ih:=dd_len val i
  rw[dd_succ]
  split
  ·omega
  ·rw[List.length_append,List.length_singleton];omega
theorem dd_mem (val:Nat→Int) (k:Int):∀ n,k∈dd val n↔∃ i,i < n∧val i=k
 | 0=>⟨fun z=>(by cases z),fun z=>(by obtain⟨i,hi,_⟩:=z;exact absurd hi (Nat.not_lt_zero _))⟩
 | n+1=>by
  have ih:=dd_mem val k n
  have key:k∈dd val (n+1)↔k∈dd val n∨val n=k:=by
   rw[dd_succ]
   split
   ·rename_i z
    exact⟨.inl,fun y=>y.elim id fun e=>e ▸ z⟩
   ·rw[List.mem_append,List.mem_singleton]
    exact⟨fun y=>y.imp id Eq.symm,fun y=>y.imp id Eq.symm⟩
  rw[key,ih]
  constructor
  ·rintro (⟨i,hi,e⟩ | e)
   ·exact⟨i,by omega,e⟩
   ·exact⟨n,by omega,e⟩
  ·rintro⟨i,hi,e⟩
   rcases Nat.lt_or_ge i n with z | z
   ·exact .inl ⟨i,z,e⟩
   ·have:i=n:=by omega
    subst this
    exact .inr e
theorem dd_nodup (val:Nat→Int):∀ n,(dd val n).Nodup
 | 0=>List.nodup_nil
 | n+1=>by
  have ih:=dd_nodup val n
  rw[dd_succ]
  split
  ·exact ih
  ·rename_i z
   rw[List.nodup_append]
   refine⟨ih,by simp,fun x hx y hy=>?_⟩
   rw[List.mem_singleton] at hy
   subst hy
   exact fun e=>z (e ▸ hx)
section
variable {prog:Program}{w:World}{b:Bool}{A:Around}{R:Result→Shared→Prop}{I:Addr}{fp wr:List Addr}{G:Array GenState→Array GenState→Prop}{n:Nat}{P:Nat→Value→Prop}{St:Nat→Shared→Prop}
theorem SetI.at {h h':Heap}{a:Addr}{L:List Int} (x:SetI prog w b h a L) (e:∀ o,h.get? a=some o→h'.get? a=some o):SetI prog w b h' a L:=by
 obtain⟨o,es,ep,t,g,r⟩:=x
 exact⟨o,es,ep,t,e o g,r⟩
theorem set_loop (Wk:WalksS prog w A.in1 I fp wr G n P St) (S:Addr) (off:S∉fp) (val:Nat→Int) (vals:∀ i v,P i v→∃ t,v=.int (val i) t) (small:n+1 < scanBound) :
  ∀ (m i:Nat) (s:Shared),n - i=m→i≤n→St i s→SetI prog w b s.heap S (dd val i)→(∀ s',Moved (S::wr) G s s'→SetI prog w b s'.heap S (dd val n)→R (.ok (.ret .none)) s')→
   codeAny (model prog w) A (.builtin "set.update.loop" ⟨[.ref S,.ref I],[]⟩) R s:=by
 have offw:S∉wr:=fun z=>off (Wk.sub _ z)
 have more:∀ c∈wr,c∈S::wr:=fun c hc=>List.mem_cons_of_mem _ hc
 intro m
 induction m with
 | zero=>
  intro i s hm hi st hS k
  obtain rfl:i=n:=by omega
  refine codeAny_builtin F.entry_set_update_loop ?_
  rw[Around.under_plainId F.plain_set_update_loop _]
  show wpAny _ A.in1 (pyNext (.ref I) >>= _) _ _ s
  refine wpAny_bind (Wk.done s _ _ st fun s1 mv=>?_)
  exact wpAny_pure (k s1 (mv.mono more) (hS.at fun o e=>mv.heap S o offw e))
 | succ m ih=>
  intro i s hm hi st hS k
  have lt:i < n:=by omega
  refine codeAny_builtin F.entry_set_update_loop ?_
  rw[Around.under_plainId F.plain_set_update_loop _]
  show wpAny _ A.in1 (pyNext (.ref I) >>= _) _ _ s
  refine wpAny_bind (Wk.item i s _ _ lt st fun v s1 hv st1 mv=>?_)
  obtain⟨t,rfl⟩:=vals i v hv
  have hS1:SetI prog w b s1.heap S (dd val i):=hS.at fun o e=>mv.heap S o offw e
  show wpAny _ A.in1 (holding [Value.int (val i) t] (setAdd S (.int (val i) t)) >>= _) _ _ s1
  refine wpAny_bind (wpAny_holding ?_)
  unfold setAdd
  refine wpAny_holding (wpAny_bind ((intKind prog w).pyHash (k:=val i) (intKind_is _ _ _ _) ?_))
  have rm:(dd val i).length+1 < scanBound:=by have:=dd_len val i;omega
  refine add_int (s:={ s1 with toks:=s1.toks+1 }) hS1 rm fun h2 sb hS2=>?_
  refine wpAny_pure ⟨plainId_quiet F.plain_set_update_loop _,ih (i+1) _ (by omega) lt (Wk.frame _ s1 _ _ st1 (Nat.le_succ _) fun c hc o e=>?_) hS2 fun s3 mv3 hS3=>?_⟩
  ·rw[sb.2 c fun z:c=S=>off (z ▸ hc)];exact e
  ·refine k s3 (Moved.trans Wk.gtrans ((mv.mono more).then_heap (Nat.le_succ _) fun c o hc e=>?_) mv3) hS3
   rw[sb.2 c fun z:c=S=>hc (by rw[z];exact List.mem_cons_self)];exact e
end
section
variable {prog:Program}{w:World}{A:Around}{E:Value→Shared→Prop}{s:Shared}
noncomputable abbrev freshS (w:World):Obj:={ cls:=.type "set",dict:=none,data:=.set #[] 0 (.fresh 0 0 (!w.params.followText "set-order")) }
theorem new_set (v:Value) {Q:Value→Shared→Prop} (k:Q (.ref s.heap.objs.size) { s with heap:=s.heap.push (freshS w) }) :
  codeAny (model prog w) A (.call (.builtin "set.__new__") ⟨[.type "set",v],[]⟩) (wants Q E) s:=by
 refine codeAny_of_tree ?_
 show wpAny _ A.in1 (checkBuiltinCall "set.__new__" ⟨[.type "set",v],[]⟩ >>= fun _=>again (.builtin "set.__new__" ⟨[.type "set",v],[]⟩)) _ _ s
 refine wpAny_bind (wpAny_of_eq (F.newCall_set_1 v) (wpAny_pure ⟨plainId_quiet F.plain_set_new _,codeAny_builtin F.entry_set_new ?_⟩))
 rw[Around.under_plainId F.plain_set_new _]
 unfold Builtin.«set.__new__» Builtin.Frozenset.newClass
 have su:=sub_set_self
 obtain⟨hp,g,d,tk,os⟩:=s
 dsimp only
 wp_walk
 refine wpAny_askSetting (wpAny_pure ?_)
 dsimp only
 simp only [newObj]
 exact wpAny_bind (wpAny_alloc (wpAny_pure (wpAny_pure k)))
theorem fresh_cnt:Cnt prog w (!w.params.followText "set-order") [] #[] (.fresh 0 0 (!w.params.followText "set-order")):=
 ⟨fun e he=>by simp at he,by simp,by unfold scanBound;decide,by rfl,tidy_fresh _⟩
theorem call_set {l:Addr}{items:Array Value}{ns:List Int}{Q:Value→Shared→Prop} (hh:A.handled=none) (hl:s.heap.IsList l items) (hi:IntsAre items.toList ns) (small:items.size+1 < scanBound)
  (k:∀ (h':Heap) (tk:Nat),SetI prog w (!w.params.followText "set-order") h' s.heap.objs.size (dd (fun i=>ns.getD i 0) items.size)→(∀ c o,c < s.heap.objs.size→s.heap.get? c=some o→h'.get? c=some o)→
   Q (.ref s.heap.objs.size) { s with heap:=h',toks:=tk }) :
  wpAny (model prog w) A (call (.type "set") [.ref l]) Q E s:=by
 obtain⟨c0,tl0,mro0⟩:=F.called_set.mro
 have made0:=F.called_set.made
 have sub0:=F.called_set.sub
 refine wpAny_call (codeAny_of_tree ?_)
 show wpAny _ _ (callAny (.type "set") _) _ _ _
 refine wpAny_pure ⟨Code.quiet_builtin _ (by decide +kernel),codeAny_builtin F.entry_type_call ?_⟩
 rw[Around.under_plain (weight_type_call_type "set" [.ref l] []) rfl]
 have nt:=F.called_set.notType
 have cc:=F.called_set.canCreate
 have tc:=F.typeCall_set_1 (.ref l)
 repeat (any_goals (first | assumption | wp_step))
 refine codeAny_mono (new_set (.ref l) (E:=E) (Q:=fun v s1=>v=.ref s.heap.objs.size∧s1={ s with heap:=s.heap.push (freshS w) }) ⟨rfl,rfl⟩) fun r s1 hr=>?_
 cases r with
 | error e=>exact hr
 | ok fl=>
  cases fl with
  | ret obj=>
   obtain⟨rfl,rfl⟩:=hr
   have gS:(s.heap.push (freshS w)).get? s.heap.objs.size=some (freshS w):=Heap.get?_push_size _ rfl
   have ty:Shared.TypeIs { s with heap:=s.heap.push (freshS w) } (.ref s.heap.objs.size) "set" := ⟨_,gS,rfl⟩
   have il:=F.called_set.init.lookup
   have ib:=F.called_set.init.bind (.ref s.heap.objs.size)
   repeat (any_goals (first | assumption | wp_step))
   refine codeAny_mono (codeAny_call_builtin (R:=wants (fun r s2=>r=.none∧∃ h' tk,s2={ s with heap:=h',toks:=tk }∧SetI prog w (!w.params.followText "set-order") h' s.heap.objs.size (dd (fun i=>ns.getD i 0) items.size)∧
     (∀ c o,c < s.heap.objs.size→s.heap.get? c=some o→h'.get? c=some o)) E) F.called_set.init.plain F.entry_set_init (check_set_init_1 ty ?_)) fun r2 s2 hr2=>?_
   ·obtain⟨ol,hol,cl,nl,dl⟩:=hl
    obtain⟨ocls,odict,odata,oslots⟩:=ol
    simp only at cl dl
    subst cl dl
    have hol1:(s.heap.push (freshS w)).get? l=some { cls:=.type "list",dict:=odict,data:=.seq items nl,slots:=oslots }:=Heap.get?_push_of_some _ hol
    have s1:=F.sub_list_set
    have s2:=F.sub_list_frozenset
    have ne:(Value.type "list" == Value.type "dict")=false:=by decide
    have hl1:(s.heap.push (freshS w)).IsList l items:=⟨_,hol1,rfl,nl,rfl⟩
    unfold Builtin.«set.__init__» noKeywords Builtin.Frozenset.updateFrom
    generalize hPI:pyIter=PI
    wp_walk
    subst hPI
    refine wpAny_pyIter_list hl1 (wpAny_bind (wpAny_runValue ?_))
    have ll:l < s.heap.objs.size:=Heap.lt_size hol
    have h3:A.in1.in1.in1.handled=none:=by simp [hh]
    have zz:(s.heap.push (freshS w)).objs.size=s.heap.objs.size+1:=Heap.size_push _ _
    have neI:l≠(s.heap.push (freshS w)).objs.size:=by rw[zz];exact Nat.ne_of_lt (Nat.lt_succ_of_lt ll)
    have offS:s.heap.objs.size∉[(s.heap.push (freshS w)).objs.size,l]:=by
     rw[zz];simp only [List.mem_cons,List.mem_singleton,List.not_mem_nil,or_false,not_or]
     exact⟨Nat.ne_of_lt (Nat.lt_succ_self _),Nat.ne_of_gt ll⟩
    refine set_loop ((Walks.list h3 _ l neI items).toS) s.heap.objs.size offS (fun i=>ns.getD i 0) (fun i v hv=>IntsAre.int_at hi i v (by rw[Array.getElem?_toList];exact hv)) small (items.size - 0) 0 _ (by omega) (Nat.zero_le _)
     ⟨⟨_,Heap.get?_push_size _ rfl,rfl,rfl⟩,hl1.push _⟩ ⟨_,#[],0,_,Heap.get?_push_of_some _ gS,⟨rfl,rfl,rfl⟩,rfl,fresh_cnt⟩ ?_
    intro s4 mv hS4
    obtain⟨h4,g4,d4,tk4,os4⟩:=s4
    obtain rfl:g4=s.gens:=mv.gens
    obtain rfl:d4=s.drawn:=mv.drawn
    obtain rfl:os4=s.os:=mv.os
    show wpAny _ _ _ _ _ _
    refine wpAny_pure ?_
    show wpAny _ _ (ret Value.none) _ _ _
    refine wpAny_pure ⟨rfl,h4,tk4,rfl,hS4,fun c o hc e=>?_⟩
    exact mv.heap c o (by
     simp only [List.mem_cons,List.mem_singleton,List.not_mem_nil,or_false,not_or]
     exact⟨Nat.ne_of_lt hc,by rw[zz];exact Nat.ne_of_lt (Nat.lt_succ_of_lt hc)⟩) (Heap.get?_push_of_some _ (Heap.get?_push_of_some _ e))
   ·cases r2 with
    | error e=>exact hr2
    | ok fl2=>
     cases fl2 with
     | ret r=>
      obtain⟨rfl,h',tk,rfl,hS2,hk2⟩:=hr2
      repeat (any_goals (first | assumption | wp_step))
      exact k _ _ hS2 hk2
     | _=>exact hr2.elim
  | _=>exact hr.elim
end
end TwS
namespace TwS
open PySem PySem.Spec PyProof.Rows
theorem d8:Slot "set_iterator" "__next__" "set_iterator.__next__" :=
 .of (owner := "set_iterator") (n := "__next__") (by rw[typeLookup_type,builtinLookup_eq_fast];kernel_rfl) (by decide +kernel) (by decide +kernel) (by decide +kernel)
  (by first | exact .inl (by decide +kernel) | exact .inr (by decide +kernel)) (by rw[isSubtype_type];kernel_rfl)
theorem entry_si_next:entryFor table "set_iterator.__next__" = some Builtin.«set_iterator.__next__»:=entryFor_of_fast (by kernel_rfl)
theorem args_si_next (a:Value):argsOk "set_iterator.__next__" ⟨[a],[]⟩:=by unfold argsOk;kernel_rfl
theorem slot_set_iter:Slot "set" "__iter__" "set.__iter__" :=
 .of (owner := "set") (n := "__iter__") (by rw[typeLookup_type,builtinLookup_eq_fast];kernel_rfl) (by decide +kernel) (by decide +kernel) (by decide +kernel)
  (by first | exact .inl (by decide +kernel) | exact .inr (by decide +kernel)) (by rw[isSubtype_type];kernel_rfl)
theorem entry_set_iter:entryFor table "set.__iter__" = some Builtin.«frozenset.__iter__»:=entryFor_alias (id' := "frozenset.__iter__") (by kernel_rfl) rfl (by decide +kernel) (by kernel_rfl)
theorem slot_si_iter:Slot "set_iterator" "__iter__" "set_iterator.__iter__" :=
 .of (owner := "set_iterator") (n := "__iter__") (by rw[typeLookup_type,builtinLookup_eq_fast];kernel_rfl) (by decide +kernel) (by decide +kernel) (by decide +kernel)
  (by first | exact .inl (by decide +kernel) | exact .inr (by decide +kernel)) (by rw[isSubtype_type];kernel_rfl)
theorem entry_si_iter:entryFor table "set_iterator.__iter__" = some Builtin.«dict_keyiterator.__iter__»:=entryFor_alias (id' := "dict_keyiterator.__iter__") (by kernel_rfl) rfl (by decide +kernel) (by kernel_rfl)
theorem args_si_iter (a:Value):argsOk "set_iterator.__iter__" ⟨[a],[]⟩:=by unfold argsOk;kernel_rfl
theorem args_set_iter (a:Value):argsOk "set.__iter__" ⟨[a],[]⟩:=by unfold argsOk;kernel_rfl
noncomputable abbrev itO (f:Value) (i:Nat) (S:Addr) (n ep:Nat):Obj:={ cls:=.type "set_iterator",data:=.fields #[f,rawInt (i:Int),.ref S,rawInt (n:Int),rawInt (ep:Int)] }
section
variable {prog:Program}{w:World}{A:Around}{E:Value→Shared→Prop}{s:Shared}{I S:Addr}{o:Obj}{es:Array (Int×Value)}{ep i:Nat}{t:SetTable}
theorem stop_now {Q:Fin→Shared→Prop} (hh:A.handled=none) (hE:∀ h' e,(∀ c q,s.heap.get? c=some q→h'.get? c=some q)→(∃ q,h'.get? e=some q∧q.cls=.type "StopIteration")→E (.ref e) { s with heap:=h' }) :
  wpAny (model prog w) A (newExc (.type "StopIteration") [] >>= fun x=>raiseNew x) Q E s:=by
 refine wpAny_bind ?_
 simp only [newExc,newTuple]
 refine wpAny_bind (wpAny_newObj_type ?_ (by size_fits))
 refine wpAny_bind (m:=firstArgMember _ _) (wpAny_of_eq (a:=Value.none) (by first | rfl | (simp only [firstArgMember];rfl)) (wpAny_newObj_type ?_ (by size_fits)))
 simp only [raiseNew]
 refine wpAny_bind (wpAny_handled ?_)
 rw[hh]
 exact wpAny_bind (wpAny_pure (wpAny_throw (hE _ _ (fun c q e=>Heap.get?_push_of_some _ (Heap.get?_push_of_some _ e)) ⟨_,Heap.get?_push_size _ rfl,rfl⟩)))
theorem pyNext_si {f:Value}{n:Nat}{Q:Option Value→Shared→Prop} (hI:s.heap.get? I=some (itO f i S n ep))
  (h:wpAny (model prog w) A.in1 (Builtin.«set_iterator.__next__» ⟨[.ref I],[]⟩) (fun fin s'=>∃ v,fin=.done (.ret v)∧Q (some v) s') (fun e s'=>(∃ a q,e=.ref a∧s'.heap.get? a=some q∧q.cls=.type "StopIteration")∧Q none s') s) :
  wpAny (model prog w) A (pyNext (.ref I)) Q E s:=by
 have ty:s.TypeIs (.ref I) "set_iterator" := ⟨_,hI,rfl⟩
 unfold pyNext
 refine wpAny_bind (wpAny_attempt (wpAny_callSpecial?_slot (name:=Str.ofString "__next__") ty d8
  (wpAny_call_entry d8 ty entry_si_next (wpAny_mono h (fun fin s' z=>?_) fun e s' z=>?_) (args_si_next _))))
 ·obtain⟨v,rfl,q⟩:=z
  exact⟨v,rfl,wpAny_pure q⟩
 ·obtain⟨⟨a,q,rfl,ho,hc⟩,z⟩:=z
  exact wpAny_bind (wpAny_isInstance (T := "StopIteration") (b:=true) ⟨q,ho,hc⟩ isSubtype_stop (wpAny_pure z))
theorem pyIter_si {f:Value}{n:Nat}{Q:Value→Shared→Prop} (hI:s.heap.get? I=some (itO f i S n ep)) (k:Q (.ref I) s):wpAny (model prog w) A (pyIter (.ref I)) Q E s:=by
 have ty:s.TypeIs (.ref I) "set_iterator" := ⟨_,hI,rfl⟩
 refine wpAny_pyIter_slot ty slot_si_iter (wpAny_call_entry slot_si_iter ty entry_si_iter ?_ (args_si_iter _))
 show wpAny _ _ (ret (.ref I)) _ _ s
 exact wpAny_pure ⟨_,rfl,"set_iterator",_,ty,d8.lookup,k⟩
theorem next_num {slot nx:Nat}{x:Value}{Q:Fin→Shared→Prop} (hI:s.heap.get? I=some (itO (rawInt (slot:Int)) i S es.size ep)) (g:s.heap.get? S=some o) (d:o.data=.set es ep t) (ft:t.fits es.size=true)
  (hn:∀ (R:Option (Value×Nat)→Shared→Prop),R (some (x,nx)) s→wpAny (model prog w) A (setNext S slot i ep) R E s)
  (k:∀ h',h'.get? I=some (itO (rawInt (nx:Int)) (i+1) S es.size ep)→Heap.SameBut I s.heap h'→Q (.done (.ret x)) { s with heap:=h' }) :
  wpAny (model prog w) A (Builtin.«set_iterator.__next__» ⟨[.ref I],[]⟩) Q E s:=by
 show wpAny _ _ (fieldsOf (.ref I) >>= _) _ _ s
 refine wpAny_bind (wpAny_fieldsOf hI rfl ?_)
 show wpAny _ _ (setEntries S >>= _) _ _ s
 unfold setEntries
 refine wpAny_bind (wpAny_bind (wpAny_setState_of g d ft (wpAny_pure ?_)))
 dsimp only
 rw[if_neg (by simp)]
 show wpAny _ _ (setNext S (slot:Int).toNat (i:Int).toNat (ep:Int).toNat >>= _) _ _ s
 rw[Int.toNat_natCast,Int.toNat_natCast,Int.toNat_natCast]
 refine wpAny_bind (hn _ ?_)
 refine wpAny_bind (wpAny_setField_rec hI (by simp) fun h1 g1 b1=>?_)
 refine wpAny_bind (wpAny_setField_rec (s:={ s with heap:=h1 }) g1 (by simp) fun h2 g2 b2=>?_)
 exact wpAny_pure (k h2 (by simp at g2;exact g2) (b1.trans b2))
theorem end_num {slot:Nat}{Q:Fin→Shared→Prop} (hh:A.handled=none) (hI:s.heap.get? I=some (itO (rawInt (slot:Int)) i S es.size ep)) (g:s.heap.get? S=some o) (d:o.data=.set es ep t) (ft:t.fits es.size=true)
  (hn:∀ (R:Option (Value×Nat)→Shared→Prop),R none s→wpAny (model prog w) A (setNext S slot i ep) R E s)
  (hE:∀ h' e,(∀ c q,c≠I→s.heap.get? c=some q→h'.get? c=some q)→(∃ q,h'.get? e=some q∧q.cls=.type "StopIteration")→E (.ref e) { s with heap:=h' }) :
  wpAny (model prog w) A (Builtin.«set_iterator.__next__» ⟨[.ref I],[]⟩) Q E s:=by
 show wpAny _ _ (fieldsOf (.ref I) >>= _) _ _ s
 refine wpAny_bind (wpAny_fieldsOf hI rfl ?_)
 show wpAny _ _ (setEntries S >>= _) _ _ s
 unfold setEntries
 refine wpAny_bind (wpAny_bind (wpAny_setState_of g d ft (wpAny_pure ?_)))
 dsimp only
 rw[if_neg (by simp)]
 show wpAny _ _ (setNext S (slot:Int).toNat (i:Int).toNat (ep:Int).toNat >>= _) _ _ s
 rw[Int.toNat_natCast,Int.toNat_natCast,Int.toNat_natCast]
 refine wpAny_bind (hn _ ?_)
 refine wpAny_bind (wpAny_setField_rec hI (by simp) fun h1 g1 b1=>?_)
 exact stop_now (s:={ s with heap:=h1 }) hh fun h' e kp st=>hE h' e (fun c q hc z=>kp c q (by rw[b1.2 c hc];exact z)) st
theorem next_drawn {T:Addr}{ps:Array Value}{m p:Nat}{tk:Tok}{hx:Int}{x:Value}{Q:Fin→Shared→Prop} (hI:s.heap.get? I=some (itO (.ref T) i S es.size ep)) (g:s.heap.get? S=some o) (d:o.data=.set es ep t) (ft:t.fits es.size=true)
  (hT:s.heap.get? T=some { cls:=.type "tuple",data:=.seq ps m }) (hp:ps[i]? = some (.int (p:Int) tk)) (hx:es[p]? = some (hx,x))
  (k:∀ h',h'.get? I=some (itO (.ref T) (i+1) S es.size ep)→Heap.SameBut I s.heap h'→Q (.done (.ret x)) { s with heap:=h' }) :
  wpAny (model prog w) A (Builtin.«set_iterator.__next__» ⟨[.ref I],[]⟩) Q E s:=by
 show wpAny _ _ (fieldsOf (.ref I) >>= _) _ _ s
 refine wpAny_bind (wpAny_fieldsOf hI rfl ?_)
 show wpAny _ _ (setEntries S >>= _) _ _ s
 unfold setEntries
 refine wpAny_bind (wpAny_bind (wpAny_setState_of g d ft (wpAny_pure ?_)))
 dsimp only
 rw[if_neg (by simp)]
 show wpAny _ _ (seqItems? (.ref T) >>= _) _ _ s
 refine wpAny_bind (wpAny_seqItems hT rfl ?_)
 dsimp only
 rw[Int.toNat_natCast,hp]
 dsimp only
 unfold setNextDrawn
 refine wpAny_bind (wpAny_bind (wpAny_setState_of g d ft ?_))
 dsimp only
 rw[Int.toNat_natCast,Int.toNat_natCast,if_neg (by simp),hx]
 refine wpAny_pure (wpAny_bind (wpAny_setField_rec hI (by simp) fun h1 g1 b1=>?_))
 exact wpAny_pure (k h1 (by simp at g1;exact g1) b1)
theorem end_drawn {T:Addr}{ps:Array Value}{m:Nat}{Q:Fin→Shared→Prop} (hh:A.handled=none) (hI:s.heap.get? I=some (itO (.ref T) i S es.size ep)) (g:s.heap.get? S=some o) (d:o.data=.set es ep t) (ft:t.fits es.size=true)
  (hT:s.heap.get? T=some { cls:=.type "tuple",data:=.seq ps m }) (hp:ps[i]? = none)
  (hE:∀ h' e,(∀ c q,c≠I→s.heap.get? c=some q→h'.get? c=some q)→(∃ q,h'.get? e=some q∧q.cls=.type "StopIteration")→E (.ref e) { s with heap:=h' }) :
  wpAny (model prog w) A (Builtin.«set_iterator.__next__» ⟨[.ref I],[]⟩) Q E s:=by
 show wpAny _ _ (fieldsOf (.ref I) >>= _) _ _ s
 refine wpAny_bind (wpAny_fieldsOf hI rfl ?_)
 show wpAny _ _ (setEntries S >>= _) _ _ s
 unfold setEntries
 refine wpAny_bind (wpAny_bind (wpAny_setState_of g d ft (wpAny_pure ?_)))
 dsimp only
 rw[if_neg (by simp)]
 show wpAny _ _ (seqItems? (.ref T) >>= _) _ _ s
 refine wpAny_bind (wpAny_seqItems hT rfl ?_)
 dsimp only
 rw[Int.toNat_natCast,hp]
 dsimp only
 refine wpAny_bind (wpAny_setField_rec hI (by simp) fun h1 g1 b1=>?_)
 refine wpAny_bind (wpAny_setField_rec (s:={ s with heap:=h1 }) g1 (by simp) fun h2 g2 b2=>?_)
 exact stop_now (s:={ s with heap:=h2 }) hh fun h' e kp st=>hE h' e (fun c q hc z=>kp c q (by rw[b2.2 c hc,b1.2 c hc];exact z)) st
theorem setNext_text {slot:Nat}{R:Option (Value×Nat)→Shared→Prop} (tx:w.params.followText "set-order" = true) (g:s.heap.get? S=some o) (d:o.data=.set es ep t) (ft:t.fits es.size=true)
  (k:R (((pickOrder (w.params.setOrder S ep) es)[i]?).map fun e=>(e.2,slot)) s):wpAny (model prog w) A (setNext S slot i ep) R E s:=by
 unfold setNext
 refine wpAny_bind (wpAny_setState_of g d ft ?_)
 dsimp only
 refine wpAny_bind (wpAny_bind (wpAny_askSetting (wpAny_pure ?_)))
 rw[show (Setting.mk (model prog w).prog (model prog w).w.params).params.followText "set-order" = true from tx,if_pos rfl,if_neg (by simp)]
 unfold setWalk
 refine wpAny_bind (wpAny_bind (wpAny_setState_of g d ft ?_))
 dsimp only
 refine wpAny_bind (wpAny_bind (wpAny_askSetting (wpAny_pure ?_)))
 rw[show (Setting.mk (model prog w).prog (model prog w).w.params).params.followText "set-order" = true from tx,if_pos rfl]
 exact wpAny_bind (wpAny_askSetting (wpAny_pure (wpAny_pure k)))
theorem setNext_place {slot:Nat}{R:Option (Value×Nat)→Shared→Prop} (tx:w.params.followText "set-order" = false) (g:s.heap.get? S=some o) (d:o.data=.set es ep t) (ft:t.fits es.size=true) (pl:t.plain=true∨es.size≤1) (ld:t.led=true)
  (k:R (match es[SetTable.below t.place slot]?,t.place[SetTable.below t.place slot]? with | some (_,x),some j=>some (x,j+1) | _,_=>none) s):wpAny (model prog w) A (setNext S slot i ep) R E s:=by
 unfold setNext
 refine wpAny_bind (wpAny_setState_of g d ft ?_)
 dsimp only
 refine wpAny_bind (wpAny_bind (wpAny_askSetting (wpAny_pure ?_)))
 rw[show (Setting.mk (model prog w).prog (model prog w).w.params).params.followText "set-order" = false from tx,if_neg (by simp)]
 have nd:¬ ((!t.plain && decide (es.size > 1))=true):=by
  rcases pl with z | z
  ·rw[z];simp
  ·rw[decide_eq_false (by omega)];simp
 show wpAny _ _ (if (!t.plain && decide (es.size > 1))=true then _ else _) _ _ s
 rw[if_neg nd]
 refine wpAny_bind ?_
 show wpAny _ _ (if (!t.led && !es.isEmpty)=true then _ else _) _ _ s
 rw[ld,if_neg (by simp)]
 exact wpAny_pure (wpAny_pure k)
end
end TwS
namespace TwS
open PySem PySem.Spec PyProof.Rows
theorem erase_perm {α:Type}:∀ {l:List α}{i:Nat}{x:α},l[i]? = some x→(x::l.eraseIdx i).Perm l
 | [],_,_,h=>by cases h
 | y::l,0,x,h=>by cases h;exact List.Perm.refl _
 | y::l,i+1,x,h=>by
  have ih:=erase_perm (l:=l) (i:=i) (x:=x) h
  exact (List.Perm.swap y x _).trans (ih.cons y)
theorem pick_go {α:Type} (next:Nat→Nat):∀ (fuel k:Nat) (left:List α) (out:Array α),left.length=fuel→(pickOrder.go next fuel k left out).toList.Perm (out.toList++left)
 | 0,k,left,out,h=>by
  have:left=[]:=List.eq_nil_of_length_eq_zero h
  subst this
  show out.toList.Perm _
  rw[List.append_nil]
 | fuel+1,k,left,out,h=>by
  have hm:next k % left.length < left.length:=Nat.mod_lt _ (by omega)
  have e:left[next k % left.length]? = some left[next k % left.length]:=List.getElem?_eq_getElem hm
  show (match left[next k % left.length]? with | some x=>pickOrder.go next fuel (k+1) (left.eraseIdx (next k % left.length)) (out.push x) | none=>out).toList.Perm _
  rw[e]
  refine (pick_go next fuel (k+1) _ _ (by rw[List.length_eraseIdx,if_pos hm];omega)).trans ?_
  rw[Array.toList_push,List.append_assoc]
  exact (erase_perm e).append_left _
theorem pick_perm {α:Type} (next:Nat→Nat) (xs:Array α):(pickOrder next xs).toList.Perm xs.toList:=by
 have:=pick_go next xs.size 0 xs.toList #[] (Array.length_toList)
 simpa [pickOrder] using this
section
variable {prog:Program}{w:World}{A:Around}{E:Value→Shared→Prop}
theorem choose_any {src:Source}{n:Nat}{s:Shared}{R:Nat→Shared→Prop} (hn:n≠0) (k:∀ i d,i < n→R i { s with drawn:=d }):wpAny (model prog w) A (choose src n) R E s:=fun Γ p _=>by
 unfold choose
 rw[Sem.wp_choose]
 refine⟨hn,?_⟩
 rw[Sem.wp_pure]
 exact k _ _ (Nat.mod_lt _ (Nat.pos_of_ne_zero hn))
theorem draw_any {α:Type}:∀ (n:Nat) (xs:List α) (s:Shared) (R:List α→Shared→Prop),xs.length=n→(∀ ys d,ys.Perm xs→R ys { s with drawn:=d })→wpAny (model prog w) A (drawOrder n xs) R E s
 | 0,xs,s,R,h,k=>by
  have:xs=[]:=List.eq_nil_of_length_eq_zero h
  subst this
  exact wpAny_pure (k [] s.drawn (List.Perm.refl _))
 | n+1,[],s,R,h,k=>by cases h
 | n+1,x::xs,s,R,h,k=>by
  unfold drawOrder
  refine wpAny_bind (choose_any (by simp) fun i d hi=>?_)
  have e:(x::xs)[i]? = some (x::xs)[i]:=List.getElem?_eq_getElem hi
  rw[e]
  refine wpAny_bind (draw_any n _ _ _ (by rw[List.length_eraseIdx,if_pos hi];omega) fun ys d2 p=>?_)
  exact wpAny_pure (k _ _ ((p.cons _).trans (erase_perm e)))
end
theorem ints_of:∀ (vs:List Value),(∀ v∈vs,∃ i t,v=.int i t)→IntsAre vs (vs.map intOf)
 | [],_=>.nil
 | v::vs,h=>by
  obtain⟨i,t,rfl⟩:=h v List.mem_cons_self
  exact .cons i t (ints_of vs fun v hv=>h v (List.mem_cons_of_mem _ hv))
theorem items_are {P:Nat→Value→Prop}{acc:Array Value}{vs:List Value} (h:ItemsOf P acc vs.length) (hP:∀ j v,P j v→vs[j]? = some v):acc.toList=vs:=by
 apply List.ext_getElem?
 intro j
 rcases Nat.lt_or_ge j acc.size with hj | hj
 ·have e:acc[j]? = some acc[j]:=Array.getElem?_eq_getElem hj
  rw[Array.getElem?_toList,e,hP j _ (h.2 j _ e)]
 ·rw[List.getElem?_eq_none (by rw[Array.length_toList];exact hj),List.getElem?_eq_none (by rw[← h.1];exact hj)]
section
variable {prog:Program}{w:World}{S I T:Addr}{o:Obj}{es:Array (Int×Value)}{ep:Nat}{t:SetTable}{L:List Int}
theorem yields {b:Bool}{vs:List Value}{es':List (Int×Value)} (c:Cnt prog w b L es t) (hp:es'.Perm es.toList) (e:vs=es'.map (·.2)):IntsAre vs (vs.map intOf)∧(vs.map intOf).Perm L:=by
 subst e
 refine⟨ints_of _ fun v hv=>?_,?_⟩
 ·obtain⟨x,hx,rfl⟩:=List.mem_map.1 hv
  exact el_int c.el (hp.mem_iff.1 hx)
 ·rw[List.map_map]
  exact (hp.map _).trans c.pm
noncomputable def slotAt (pl:Array Nat):Nat→Nat
 | 0=>0
 | i+1=>pl.getD i 0+1
theorem slot_below {pl:Array Nat} (h:Up pl):∀ i,i≤pl.size→SetTable.below pl (slotAt pl i)=i
 | 0,_=>below_0 h
 | i+1,hi=>by
  have e:pl[i]? = some (pl.getD i 0):=by rw[Array.getD_eq_getD_getElem?,Array.getElem?_eq_getElem (by omega)];rfl
  exact below_next h e
theorem walk_text {A:Around} (hh:A.handled=none) (tx:w.params.followText "set-order" = true) (d:o.data=.set es ep t) (ft:t.fits es.size=true) (ne:S≠I) :
  Walks prog w A I [I,S] [I] es.size (fun i v=>((pickOrder (w.params.setOrder S ep) es).toList.map (·.2))[i]? = some v) (fun i h=>h.get? I=some (itO (rawInt ((0:Nat):Int)) i S es.size ep)∧h.get? S=some o) where
 sub:=fun c hc=>by simp at hc;simp [hc]
 frame:=fun _ _ _ st k=>⟨k I (by simp) _ st.1,k S (by simp) _ st.2⟩
 item:=fun i s Q E hi st k=>by
  have ln:(pickOrder (w.params.setOrder S ep) es).size=es.size:=by rw[← Array.length_toList,(pick_perm _ es).length_eq,Array.length_toList]
  have e:(pickOrder (w.params.setOrder S ep) es)[i]? = some ((pickOrder (w.params.setOrder S ep) es)[i]'(by omega)):=Array.getElem?_eq_getElem _
  refine pyNext_si st.1 (next_num (x:=((pickOrder (w.params.setOrder S ep) es)[i]'(by omega)).2) (nx:=0) st.1 st.2 d ft (fun R r=>setNext_text tx st.2 d ft (by rw[e];exact r)) fun h' g b=>⟨_,rfl,?_⟩)
  refine k _ h' s.toks ?_ ⟨g,by rw[b.2 S ne];exact st.2⟩ fun c q hc z=>by rw[b.2 c (fun y=>hc (by simp [y]))];exact z
  rw[List.getElem?_map,Array.getElem?_toList,e];rfl
 done:=fun s Q E st k=>by
  have ln:(pickOrder (w.params.setOrder S ep) es).size=es.size:=by rw[← Array.length_toList,(pick_perm _ es).length_eq,Array.length_toList]
  have e:(pickOrder (w.params.setOrder S ep) es)[es.size]? = none:=Array.getElem?_eq_none (by omega)
  refine pyNext_si st.1 (end_num hh st.1 st.2 d ft (fun R r=>setNext_text tx st.2 d ft (by rw[e];exact r)) fun h' x kp sp=>⟨?_,k h' s.toks fun c q hc z=>kp c q (fun y=>hc (by simp [y])) z⟩)
  obtain⟨q,e1,e2⟩:=sp
  exact⟨_,q,rfl,e1,e2⟩
 self:=fun i s Q E st k=>pyIter_si st.1 k
theorem walk_place {A:Around} (hh:A.handled=none) (tx:w.params.followText "set-order" = false) (d:o.data=.set es ep t) (ft:t.fits es.size=true) (pl:t.plain=true∨es.size≤1) (td:Tidy true t) (ne:S≠I) :
  Walks prog w A I [I,S] [I] es.size (fun i v=>(es.toList.map (·.2))[i]? = some v) (fun i h=>h.get? I=some (itO (rawInt ((slotAt t.place i:Nat):Int)) i S es.size ep)∧h.get? S=some o) where
 sub:=fun c hc=>by simp at hc;simp [hc]
 frame:=fun _ _ _ st k=>⟨k I (by simp) _ st.1,k S (by simp) _ st.2⟩
 item:=fun i s Q E hi st k=>by
  have psz:t.place.size=es.size:=by
   simp only [SetTable.fits,Bool.and_eq_true,beq_iff_eq] at ft
   exact ft.1
  have e1:es[i]? = some es[i]:=Array.getElem?_eq_getElem hi
  have e2:t.place[i]? = some (t.place.getD i 0):=by rw[Array.getD_eq_getD_getElem?,Array.getElem?_eq_getElem (by omega)];rfl
  have sb:=slot_below td.up i (by omega)
  refine pyNext_si st.1 (next_num (x:=es[i].2) (nx:=slotAt t.place (i+1)) st.1 st.2 d ft (fun R r=>setNext_place tx st.2 d ft pl td.led (by rw[sb,e1,e2];exact r)) fun h' g b=>⟨_,rfl,?_⟩)
  refine k _ h' s.toks ?_ ⟨g,by rw[b.2 S ne];exact st.2⟩ fun c q hc z=>by rw[b.2 c (fun y=>hc (by simp [y]))];exact z
  rw[List.getElem?_map,Array.getElem?_toList,e1];rfl
 done:=fun s Q E st k=>by
  have psz:t.place.size=es.size:=by
   simp only [SetTable.fits,Bool.and_eq_true,beq_iff_eq] at ft
   exact ft.1
  have e1:es[es.size]? = none:=Array.getElem?_eq_none (Nat.le_refl _)
  have sb:=slot_below td.up es.size (by omega)
  refine pyNext_si st.1 (end_num hh st.1 st.2 d ft (fun R r=>setNext_place tx st.2 d ft pl td.led (by rw[sb,e1];exact r)) fun h' x kp sp=>⟨?_,k h' s.toks fun c q hc z=>kp c q (fun y=>hc (by simp [y])) z⟩)
  obtain⟨q,e1,e2⟩:=sp
  exact⟨_,q,rfl,e1,e2⟩
 self:=fun i s Q E st k=>pyIter_si st.1 k
theorem fm_get {α β:Type}{f:α→Option β}:∀ (l:List α) (j:Nat),(∀ p∈l,∃ y,f p=some y)→(l.filterMap f)[j]? = l[j]?.bind f
 | [],j,_=>by simp
 | p::l,j,h=>by
  obtain⟨y,hy⟩:=h p List.mem_cons_self
  rw[List.filterMap_cons_some hy]
  cases j with
  | zero=>simp [hy]
  | succ j=>simpa using fm_get l j fun q hq=>h q (List.mem_cons_of_mem _ hq)
theorem walk_drawn {A:Around} (hh:A.handled=none) (d:o.data=.set es ep t) (ft:t.fits es.size=true) {ord:List Nat}{m:Nat} (hord:ord.Perm (List.range es.size)) (ne:S≠I) (neT:T≠I) :
  Walks prog w A I [I,S,T] [I] es.size (fun i v=>((ord.filterMap fun p=>es[p]?).map (·.2))[i]? = some v)
   (fun i h=>h.get? I=some (itO (.ref T) i S es.size ep)∧h.get? S=some o∧h.get? T=some { cls:=.type "tuple",data:=.seq (ord.map fun (i:Nat)=>rawInt (i:Int)).toArray m }) where
 sub:=fun c hc=>by simp at hc;simp [hc]
 frame:=fun _ _ _ st k=>⟨k I (by simp) _ st.1,k S (by simp) _ st.2.1,k T (by simp) _ st.2.2⟩
 item:=fun i s Q E hi st k=>by
  have ln:ord.length=es.size:=by rw[hord.length_eq,List.length_range]
  have all:∀ p∈ord,∃ y,es[p]? = some y:=fun p hp=>⟨_,Array.getElem?_eq_getElem (List.mem_range.1 (hord.mem_iff.1 hp))⟩
  have e0:ord[i]? = some (ord[i]'(by omega)):=List.getElem?_eq_getElem _
  obtain⟨y,hy⟩:=all _ (List.mem_of_getElem? e0)
  have e1:(ord.map fun (i:Nat)=>rawInt (i:Int)).toArray[i]? = some (.int (((ord[i]'(by omega)):Nat):Int) 0):=by
   rw[List.getElem?_toArray,List.getElem?_map,e0];rfl
  refine pyNext_si st.1 (next_drawn (x:=y.2) st.1 st.2.1 d ft st.2.2 e1 (show es[ord[i]'(by omega)]? = some (y.1,y.2) from hy) fun h' g b=>⟨_,rfl,?_⟩)
  refine k _ h' s.toks ?_ ⟨g,by rw[b.2 S ne];exact st.2.1,by rw[b.2 T neT];exact st.2.2⟩ fun c q hc z=>by rw[b.2 c (fun y=>hc (by simp [y]))];exact z
  rw[List.getElem?_map,fm_get _ _ all,e0]
  show Option.map _ (es[ord[i]'(by omega)]?)=_
  rw[hy];rfl
 done:=fun s Q E st k=>by
  have ln:ord.length=es.size:=by rw[hord.length_eq,List.length_range]
  have e1:(ord.map fun (i:Nat)=>rawInt (i:Int)).toArray[es.size]? = none:=by
   rw[List.getElem?_toArray,List.getElem?_map,List.getElem?_eq_none (by omega)];rfl
  refine pyNext_si st.1 (end_drawn hh st.1 st.2.1 d ft st.2.2 e1 fun h' x kp sp=>⟨?_,k h' s.toks fun c q hc z=>kp c q (fun y=>hc (by simp [y])) z⟩)
  obtain⟨q,e1,e2⟩:=sp
  exact⟨_,q,rfl,e1,e2⟩
 self:=fun i s Q E st k=>pyIter_si st.1 k
theorem set_iter {A:Around}{E:Value→Shared→Prop}{s:Shared}{Q:Value→Shared→Prop} (hS:SetI prog w (!w.params.followText "set-order") s.heap S L)
  (k:∀ (I:Addr) (h':Heap) (d':Drawn) (fp:List Addr) (P:Nat→Value→Prop) (St:Nat→Heap→Prop),(∀ A':Around,A'.handled=none→Walks prog w A' I fp [I] L.length P St)→St 0 h'→I∈fp→(∀ c∈fp,c=S∨s.heap.objs.size≤c)→
   s.heap.objs.size≤I→(∀ c q,s.heap.get? c=some q→h'.get? c=some q)→(∀ acc:Array Value,ItemsOf P acc L.length→∃ ms,IntsAre acc.toList ms∧ms.Perm L)→Q (.ref I) { s with heap:=h',drawn:=d' }) :
  wpAny (model prog w) A (pyIter (.ref S)) Q E s:=by
 obtain⟨o,es,ep,t,g,x,d,c⟩:=hS
 have ln:=len_cnt c
 rw[← ln] at k
 have ty:s.TypeIs (.ref S) "set" := ⟨o,g,x.1⟩
 have sz:S < s.heap.objs.size:=Heap.lt_size g
 refine wpAny_pyIter_slot ty slot_set_iter (wpAny_call_entry slot_set_iter ty entry_set_iter ?_ (args_set_iter _))
 show wpAny _ _ (Builtin.Frozenset.sizeOf S >>= _) _ _ s
 unfold Builtin.Frozenset.sizeOf setEntries
 refine wpAny_bind (wpAny_bind (wpAny_bind (wpAny_setState_of g d c.ft (wpAny_pure (wpAny_pure ?_)))))
 dsimp only
 unfold setDrawn
 refine wpAny_bind (wpAny_bind (wpAny_setState_of g d c.ft ?_))
 dsimp only
 refine wpAny_bind (wpAny_bind (wpAny_askSetting (wpAny_pure (wpAny_pure ?_))))
 show wpAny _ _ (if (!w.params.followText "set-order" && (!t.plain && decide (es.size > 1)))=true then _ else _) _ _ s
 by_cases cd:(!w.params.followText "set-order" && (!t.plain && decide (es.size > 1)))=true
 ·rw[if_pos cd]
  refine wpAny_bind (draw_any es.size _ _ _ (by rw[List.length_range]) fun ord d' hord=>?_)
  refine wpAny_bind (wpAny_newTuple ?_ (by rw[List.length_map,hord.length_eq,List.length_range];exact fits_of_scanBound c.bd))
  unfold setEpoch
  refine wpAny_bind (wpAny_bind (wpAny_setState_of (Heap.get?_push_of_some _ g) d c.ft (wpAny_pure ?_)))
  refine wpAny_bind (wpAny_newObj_type (wpAny_pure ⟨_,rfl,"set_iterator",_,⟨_,Heap.get?_push_size _ rfl,rfl⟩,d8.lookup,?_⟩))
  have z1:(s.heap.push { cls:=.type "tuple",data:=.seq (ord.map fun (i:Nat)=>rawInt (i:Int)).toArray }).objs.size=s.heap.objs.size+1:=Heap.size_push _ _
  refine k _ _ d' _ _ _ (fun A' hh=>walk_drawn hh d c.ft hord (T:=s.heap.objs.size) (Nat.ne_of_lt (by rw[z1];exact Nat.lt_succ_of_lt sz)) (Nat.ne_of_lt (by rw[z1];exact Nat.lt_succ_self _)))
   ⟨Heap.get?_push_size _ rfl,Heap.get?_push_of_some _ (Heap.get?_push_of_some _ g),Heap.get?_push_of_some _ (Heap.get?_push_size _ rfl)⟩ (by simp) (fun b hb=>?_) (by rw[z1];exact Nat.le_succ _) (fun b q e=>Heap.get?_push_of_some _ (Heap.get?_push_of_some _ e)) fun acc ha=>?_
  ·simp only [List.mem_cons,List.mem_singleton,List.not_mem_nil,or_false] at hb
   rcases hb with rfl | rfl | rfl
   ·right;rw[z1];exact Nat.le_succ _
   ·exact .inl rfl
   ·exact .inr (Nat.le_refl _)
  ·have pm:(ord.filterMap fun p=>es[p]?).Perm es.toList:=(hord.filterMap _).trans (by rw[filterMap_getElem?_range])
   have hv:=yields c pm rfl
   rw[show es.size=((ord.filterMap fun p=>es[p]?).map (·.2)).length by rw[List.length_map,pm.length_eq,Array.length_toList]] at ha
   rw[items_are ha fun j v h=>h]
   exact⟨_,hv⟩
 ·rw[if_neg cd]
  refine wpAny_bind (wpAny_pure ?_)
  unfold setEpoch
  refine wpAny_bind (wpAny_bind (wpAny_setState_of g d c.ft (wpAny_pure ?_)))
  refine wpAny_bind (wpAny_newObj_type (wpAny_pure ⟨_,rfl,"set_iterator",_,⟨_,Heap.get?_push_size _ rfl,rfl⟩,d8.lookup,?_⟩))
  have fr:∀ b∈[s.heap.objs.size,S],b=S∨s.heap.objs.size≤b:=fun b hb=>by
   simp only [List.mem_cons,List.mem_singleton,List.not_mem_nil,or_false] at hb
   rcases hb with rfl | rfl
   ·exact .inr (Nat.le_refl _)
   ·exact .inl rfl
  cases tx:w.params.followText "set-order" with
  | true=>
   refine k s.heap.objs.size _ s.drawn _ _ _ (fun A' hh=>walk_text hh tx d c.ft (Nat.ne_of_lt sz)) ⟨Heap.get?_push_size _ rfl,Heap.get?_push_of_some _ g⟩ (by simp) fr (Nat.le_refl _) (fun b q e=>Heap.get?_push_of_some _ e) fun acc ha=>?_
   have pm:=pick_perm (w.params.setOrder S ep) es
   have hv:=yields c pm rfl
   rw[show es.size=((pickOrder (w.params.setOrder S ep) es).toList.map (·.2)).length by rw[List.length_map,pm.length_eq,Array.length_toList]] at ha
   rw[items_are ha fun j v h=>h]
   exact⟨_,hv⟩
  | false=>
   rw[tx] at cd c
   have pl:t.plain=true∨es.size≤1:=by
    cases hp:t.plain with
    | true=>exact .inl rfl
    | false=>
     rw[hp] at cd
     refine .inr (Nat.le_of_not_lt fun z=>cd ?_)
     simp [z]
   refine k s.heap.objs.size _ s.drawn _ _ _ (fun A' hh=>walk_place hh tx d c.ft pl c.td (Nat.ne_of_lt sz)) ⟨Heap.get?_push_size _ rfl,Heap.get?_push_of_some _ g⟩ (by simp) fr (Nat.le_refl _) (fun b q e=>Heap.get?_push_of_some _ e) fun acc ha=>?_
   have hv:=yields c (List.Perm.refl _) rfl
   rw[show es.size=(es.toList.map (·.2)).length by rw[List.length_map,Array.length_toList]] at ha
   rw[items_are ha fun j v h=>h]
   exact⟨_,hv⟩
end
end TwS
namespace TwS
open PySem PySem.Spec PyProof.Rows
theorem len_look:typeLookup (.type "set") "__len__" = pure (some (.builtin "set.__len__")):=by rw[typeLookup_type,builtinLookup_eq_fast];kernel_rfl
theorem set_self:isSubtype (.type "set") (.type "set")=pure true:=by rw[isSubtype_type];kernel_rfl
section
variable {prog:Program}{w:World}{A:Around}{E:Value→Shared→Prop}{s:Shared}{S:Addr}{L:List Int}
theorem ite_of {α:Type}{M:Model}{c:Prop} [Decidable c] {x y:Sem α}{Q:α→Shared→Prop} (hc:c) (h:wpAny M A x Q E s):wpAny M A (if c then x else y) Q E s:=by rw[if_pos hc];exact h
theorem hint_set {Q:Bool→Shared→Prop} (ty:s.TypeIs (.ref S) "set") (k:Q false s):wpAny (model prog w) A (Builtin.List.listLengthHint (.ref S)) Q E s:=by
 unfold Builtin.List.listLengthHint
 refine wpAny_bind (wpAny_specialOf ty len_look ?_)
 show wpAny _ _ (isInstance (.ref S) (.type "set") >>= _) _ _ s
 refine wpAny_bind (wpAny_isInstance ty set_self ?_)
 rw[if_neg (by simp)]
 refine ite_of (by decide +kernel) ?_
 exact wpAny_bind (wpAny_typeOf ty (wpAny_pure k))
theorem collect_set {Q:List Value→Shared→Prop} (hh:A.handled=none) (hS:SetI prog w (!w.params.followText "set-order") s.heap S L) (hL:L.length≤sizeLine)
  (k:∀ (h':Heap) (d':Drawn) (tk:Nat) (vs:List Value) (ms:List Int),IntsAre vs ms→ms.Perm L→(∀ c q,s.heap.get? c=some q→h'.get? c=some q)→s.heap.objs.size≤h'.objs.size→Q vs { s with heap:=h',drawn:=d',toks:=tk }) :
  wpAny (model prog w) A (collect (.ref S)) Q E s:=by
 obtain⟨o,_,_,_,g,x,_⟩:=id hS
 have sz:S < s.heap.objs.size:=Heap.lt_size g
 unfold collect
 refine wpAny_bind (wpAny_runValue (codeAny_builtin F.entry_proto_collect ?_))
 rw[Around.under_plainId F.plain_proto_collect _]
 show wpAny _ A.in1 (newList [] >>= fun l=>again (.builtin "list.__iadd__" ⟨[l,.ref S],[]⟩)) _ _ s
 refine wpAny_bind (wpAny_newObj_type (wpAny_pure ⟨plainId_quiet F.plain_list_iadd _,codeAny_builtin F.entry_list_iadd ?_⟩))
 rw[Around.under_plainId F.plain_list_iadd _]
 show wpAny _ A.in1 (Builtin.List.listExtendWith (.ref s.heap.objs.size) (.ref S) (.ref s.heap.objs.size)) _ _ { s with heap:=s.heap.push { cls:=.type "list",data:=.seq ([]:List Value).toArray } }
 have hl1:(s.heap.push { cls:=.type "list",data:=.seq ([]:List Value).toArray }).get? s.heap.objs.size=some { cls:=.type "list",data:=.seq ([]:List Value).toArray }:=Heap.get?_push_size _ rfl
 have kp1:∀ c q,s.heap.get? c=some q→(s.heap.push { cls:=.type "list",data:=.seq ([]:List Value).toArray }).get? c=some q:=fun c q e=>Heap.get?_push_of_some _ e
 have zz:(s.heap.push { cls:=.type "list",data:=.seq ([]:List Value).toArray }).objs.size=s.heap.objs.size+1:=Heap.size_push _ _
 generalize s.heap.push { cls:=.type "list",data:=.seq ([]:List Value).toArray }=h1 at hl1 kp1 zz ⊢
 have hS1:SetI prog w (!w.params.followText "set-order") h1 S L:=hS.at fun q e=>kp1 S q e
 unfold Builtin.List.listExtendWith
 refine wpAny_bind (wpAny_typeOf (T := "set") ⟨o,kp1 S o g,x.1⟩ ?_)
 have e1:Builtin.List.listSameRef (.ref s.heap.objs.size) (.ref S)=false:=by
  have:s.heap.objs.size≠S:=Nat.ne_of_gt sz
  simp [Builtin.List.listSameRef,this]
 have e2:(Value.type "set" == Value.type "list")=false:=by decide
 have e3:(Value.type "set" == Value.type "tuple")=false:=by decide
 simp only [e1,e2,e3,Bool.or_false,Bool.false_eq_true,if_false]
 refine wpAny_bind (set_iter (s:={ s with heap:=h1 }) hS1 fun I h2 d2 fp P St Wk st0 hI hfp hIge kp2 yl=>?_)
 refine wpAny_bind (wpAny_holding (hint_set ⟨o,kp2 S o (kp1 S o g),x.1⟩ ?_))
 refine ite_of (by decide +kernel) ?_
 refine wpAny_bind (wpAny_rule (wpAny_bind ?_))
 show wpAny _ A.in1 (updateSeq s.heap.objs.size (·.push .none) >>= fun _=>updateSeq s.heap.objs.size (·.pop)) _ _ _
 have hl2:=kp2 _ _ hl1
 refine wpAny_bind (wpAny_updateSeq hl2 rfl ?_)
 have hl3:=Heap.get?_update_self (Obj.mapSeq (·.push Value.none)) hl2 rfl
 refine wpAny_updateSeq hl3 rfl ?_
 have hl4:=Heap.get?_update_self (Obj.mapSeq (·.pop)) hl3 rfl
 have kp4:∀ c q,c≠s.heap.objs.size→h2.get? c=some q→((h2.update s.heap.objs.size (Obj.mapSeq (·.push Value.none))).update s.heap.objs.size (Obj.mapSeq (·.pop))).get? c=some q:=
  fun c q hc e=>(Heap.get?_update_other _ _ (Ne.symm hc)).trans ((Heap.get?_update_other _ _ (Ne.symm hc)).trans e)
 have off:s.heap.objs.size∉fp:=fun z=>by
  rcases hfp _ z with e | e
  ·exact absurd e (Nat.ne_of_gt sz)
  ·rw[zz] at e;exact absurd e (Nat.not_succ_le_self _)
 have neI:∀ c,c < s.heap.objs.size→c≠I:=fun c hc e=>by
  rw[zz] at hIge
  exact absurd (Nat.lt_of_lt_of_le (Nat.lt_succ_of_lt hc) hIge) (by rw[e];exact Nat.lt_irrefl _)
 refine wpAny_pure ⟨plainId_quiet F.plain_extend_loop _,codeAny_extend_loopS ((Wk A.in1 hh).toS) hL _ off _ L.length 0 _ _ _ rfl (Nat.zero_le _)
  ((Wk A.in1 hh).frame 0 h2 _ st0 fun c hc q e=>kp4 c q (fun z=>off (z ▸ hc)) e) hl4 (ItemsOf.nil P) fun s5 acc n5 mv hl5 ha=>?_⟩
 obtain⟨h5,g5,d5,tk5,os5⟩:=s5
 obtain rfl:g5=s.gens:=mv.gens
 obtain rfl:d5=d2:=mv.drawn
 obtain rfl:os5=s.os:=mv.os
 show wpAny _ A (load s.heap.objs.size >>= _) _ _ _
 refine wpAny_bind (wpAny_load hl5 (wpAny_pure ?_))
 obtain⟨ms,i1,i2⟩:=yl acc ha
 have keep:∀ c q,s.heap.get? c=some q→h5.get? c=some q:=fun c q e=>by
  have hc:=Heap.lt_size e
  refine mv.heap c q ?_ (kp4 c q (Nat.ne_of_lt hc) (kp2 c q (kp1 c q e)))
  simp only [List.mem_cons,List.mem_singleton,List.not_mem_nil,or_false,not_or]
  exact⟨Nat.ne_of_lt hc,neI c hc⟩
 refine k h5 _ tk5 _ ms i1 i2 keep ?_
 exact Nat.le_of_lt (Heap.lt_size hl5)
theorem sorted_set {Q:Value→Shared→Prop} (hh:A.handled=none) (hS:SetI prog w (!w.params.followText "set-order") s.heap S L) (h64:L.length < 64)
  (k:∀ (l:Addr) (h':Heap) (d':Drawn) (tk:Nat) (out:Array Value) (ms:List Int) (e:Nat),IntsAre out.toList ms→ms.Perm L→ms.Pairwise (·≤·)→s.heap.objs.size≤l→h'.get? l=some (seqObj "list" out e)→
   (∀ c q,s.heap.get? c=some q→h'.get? c=some q)→Q (.ref l) { s with heap:=h',drawn:=d',toks:=tk }) :
  wpAny (model prog w) A (call (.builtin "sorted") [.ref S]) Q E s:=by
 refine Calls.call_function_entry kind_sorted plain_sorted entry_sorted (args_sorted1 _) ?_
 unfold Builtin.«sorted»
 refine wpAny_bind (m:=checkCount "sorted" 1 1 _) (wpAny_pure ?_)
 refine wpAny_bind (collect_set hh hS (by rw[sizeLine_eq];omega) fun h1 d1 tk1 vs ns i1 i2 keep le=>?_)
 have hv:vs.length < 64:=by rw[IntsAre.length i1,i2.length_eq];exact h64
 refine wpAny_bind (wpAny_newList ?_)
 have hoL:(h1.push (seqObj "list" vs.toArray 0)).get? h1.objs.size=some (seqObj "list" vs.toArray 0):=Heap.get?_push_size _ rfl
 refine wpAny_bind (wpAny_holding (wpAny_call_entry slot_list_sort ⟨_,hoL,rfl⟩ entry_list_sort (list_sort_tree hoL i1 hv fun out ms a1 a2 a3=>⟨_,rfl,?_⟩) (args_list_sort _)))
 obtain⟨e,he⟩:=sortedHeap_at (vs:=vs) (out:=out) hoL
 refine wpAny_pure ⟨_,rfl,k h1.objs.size _ _ _ out ms e a1 (a2.trans i2) a3 le he fun c q hc=>?_⟩
 have hlt:=Heap.lt_size (keep c q hc)
 rw[sortedHeap_old (Nat.ne_of_lt hlt) (by rw[size_push'];exact Nat.lt_succ_of_lt hlt)]
 exact Heap.get?_push_of_some _ (keep c q hc)
end
end TwS
namespace L2
open PySem PySem.Spec PyProof.Rows TwZ TwS
noncomputable def setO (P:Program) (w:World) (a:Addr) (L:List Int):HO:=.ext fun h=>SetI P w (!w.params.followText "set-order") h a L
noncomputable def ddL (ns:List Int):List Int:=dd (fun i=>ns.getD i 0) ns.length
theorem ddL_mem {ns:List Int}{k:Int}:k∈ddL ns↔k∈ns:=by
 unfold ddL
 rw[dd_mem]
 constructor
 ·rintro⟨i,hi,e⟩
  rw[List.getD_eq_getElem?_getD,List.getElem?_eq_getElem hi] at e
  rw[← e]
  exact List.getElem_mem hi
 ·intro h
  obtain⟨i,hi,e⟩:=List.mem_iff_getElem.1 h
  exact⟨i,hi,by rw[List.getD_eq_getElem?_getD,List.getElem?_eq_getElem hi,e];rfl⟩
theorem ddL_nodup (ns:List Int):(ddL ns).Nodup:=dd_nodup _ _
theorem ddL_len (ns:List Int):(ddL ns).length≤ns.length:=dd_len _ _
section
variable {X:Cx}{pins:List (Addr×Obj)}{σ:St}{H:Hp}{s:Shared}
theorem Inv.drew {d:Drawn} (I:Inv X pins σ H s):Inv X pins σ H { s with drawn:=d }:=⟨I.ok,I.os,I.bare,I.base,I.loc,I.cell,I.free,I.freeC,I.pin,I.hok,I.len⟩
noncomputable def rSet (P:Program) (w:World) (K:PySem.W.Frag):List V→Hp→VK→Prop:=fun xs H Q=>∃ (p:Addr) (ns:List Int),xs=[.ref p]∧bX K H p (ns.map V.int)∧ns.length≤1000∧∀ a,H a=none→Q (.ref a) (upd H a (setO P w a (ddL ns)))
theorem call_setB (hc:X.calm=true):d6 X (.type "set") (rSet X.prog X.w X.K):=by
 intro pins s σ H xs us Q I r h
 obtain⟨p,ns,rfl,hq,hn,q⟩:=h
 obtain⟨u,rfl,ru⟩:=r.one
 cases ru
 obtain⟨its,rv,p1,hz⟩:=I.list hq
 have ia:=intsAre_of rv
 have il:its.length=ns.length:=IntsAre.length ia
 refine call_set (I.ok.hd hc) p1.isList (by simpa using ia) (by rw[List.size_toArray,il];unfold scanBound;omega) fun h' tk hS hk=>?_
 rw[show its.toArray.size=ns.length by rw[List.size_toArray,il]] at hS
 obtain⟨o,es,ep,t,g,r⟩:=id hS
 exact⟨.ref s.heap.objs.size,_,I.laid (fun b u e=>hk b u (Heap.lt_size e) e) (Nat.le_refl _) (show cB X.prog X.w _ h' _ (setO X.prog X.w s.heap.objs.size (ddL ns)) from ⟨hS,⟨o,g⟩,fun h1 h2 x e=>x.at e⟩),rfl,q _ I.fresh⟩
noncomputable def rSrt (P:Program) (w:World):List V→Hp→VK→Prop:=fun xs H Q=>∃ (a:Addr) (L:List Int),xs=[.ref a]∧H a=some (setO P w a L)∧L.length < 64∧∀ (l:Addr) (ms:List Int),H l=none→ms.Perm L→ms.Pairwise (·≤·)→Q (.ref l) (upd H l (.lst (ms.map V.int)))
theorem vals_intsS:∀ {vs:List Value}{ns:List Int},IntsAre vs ns→b0 (ns.map V.int) vs
 | _,_,.nil=>.nil
 | _,_,.cons n t h=>.cons ⟨t,rfl⟩ (vals_intsS h)
theorem call_srtB (hc:X.calm=true):d6 X (.builtin "sorted") (rSrt X.prog X.w):=by
 intro pins s σ H xs us Q I r h
 obtain⟨a,L,rfl,hq,hn,q⟩:=h
 obtain⟨u,rfl,ru⟩:=r.one
 cases ru
 obtain⟨hS,_,_⟩:SetI X.prog X.w (!X.w.params.followText "set-order") s.heap a L∧_:=I.hok a _ hq
 refine sorted_set (I.ok.hd hc) hS hn fun l h' d' tk out ms e i1 i2 i3 le hl keep=>?_
 refine⟨.ref l,upd H l (.lst (ms.map V.int)),(I.drew (d:=d')).laid keep le (show cB X.prog X.w _ h' _ (.lst (ms.map V.int)) from ⟨?_,out.toList,e,vals_intsS i1,by rw[Array.toArray_toList];exact hl⟩),rfl,q l ms (I.hok.fresh le) i2 i3⟩
 rw[List.length_map,i2.length_eq,sizeLine_eq]
 omega
theorem call_setK {P:Program}{w:World}{K:PySem.W.Frag} (hP:X.prog=P) (hw:X.w=w) (hK:X.K=K) (hc:X.calm=true):d6 X (.type "set") (rSet P w K):=by
 subst hP hw hK
 exact call_setB hc
theorem call_srtK {P:Program}{w:World} (hP:X.prog=P) (hw:X.w=w) (hc:X.calm=true):d6 X (.builtin "sorted") (rSrt P w):=by
 subst hP hw
 exact call_srtB hc
theorem boot_setT:bootBuiltins "set" = some (.type "set"):=by decide +kernel
end
structure Rises (ns ms:List Int):Prop where
 up:ms.Pairwise (· < ·)
 mem:∀ k,k∈ms↔k∈ns
theorem rises_of {ns ms:List Int} (p:ms.Perm (ddL ns)) (h:ms.Pairwise (·≤·)):Rises ns ms where
 up:=by
  have nd:ms.Nodup:=p.nodup_iff.2 (ddL_nodup ns)
  exact (h.and nd).imp fun {a b} z=>by have:=z.1;have:=z.2;omega
 mem:=fun k=>by rw[p.mem_iff,ddL_mem]
end L2
namespace Tw
open PySem L2
structure TxtS (mg:Str→Option Value):Prop where
 b_str:mg "str" = none
theorem boot_str:bootBuiltins "str" = some (.type "str"):=by decide +kernel
theorem kit_ss (K:PySem.W.Frag):PySem.W.kitOne K (.type "str") (.type "str")=some true:=by
 unfold PySem.W.kitOne;rw[if_pos (by decide +kernel)]
section
variable {P:Program}{w:World}{K:PySem.W.Frag}{mg:Str→Option Value}{base:Heap}{aw:Addr}
theorem sc__law_whole:FnScope ["thing","low","high"] ["thing","low","high"] (aK (bD 22)):=⟨rfl,rfl,rfl,by decide +kernel,rfl,by decide +kernel,by decide +kernel⟩
theorem ok__law_whole {f:Addr}{fd:FuncData} (F:Fun K "_law_whole" "_law_whole" (bD 22) f fd) (T:Txt mg):FnOk P w K mg base CX0 1 f fd ["thing","low","high"] spWhole:=by
 refine F.ok sc__law_whole (fun vs H Q E h=>?_) (fun cdv A outer s H vs Q E hr h=>?_)
 ·obtain⟨n,lo,hi,rfl,_⟩:=h;rfl
 ·obtain⟨n,lo,hi,rfl,h1,h2,k⟩:=h
  have sc:=sc__law_whole
  refine⟨_,(aI (aS (pe_and (aH (bB (K:=K) rfl) rfl T.b_isinstance bK (aA (pv 0) (aA (bZ (v:=.ty "int") rfl T.b_int bt_int rfl) aB))) (pe_and (pe_not (aH (bB (K:=K) rfl) rfl T.b_isinstance bK (aA (pv 0) (aA (bZ (v:=.ty "bool") rfl T.b_bool bt_bool rfl) aB)))) (pe_and (pe_cmpR op_le (pv 1) (pv 0) (bP _)) (pe_one (pe_cmpR op_le (pv 0) (pv 2) (bP _)))))))),?_⟩
  refine⟨_,rfl,_,"int",_,true,rfl,.inl (.int _),kit_ii K,_,rfl,iteT ?_⟩
  refine⟨_,rfl,_,"bool",_,false,rfl,.inl (.int _),kit_ib K,_,rfl,_,rfl,iteT ?_⟩
  refine⟨_,rfl,_,rfl,_,_,rfl,rfl,_,rfl,iteD h1 ⟨_,rfl,_,rfl,_,_,rfl,rfl,?_⟩⟩
  show Q (.bl (decide _)) H
  rw[decide_eq_true h2];exact k
theorem sc__law_is_vessel:FnScope ["thing","number","many","spouts","pair","target","parts","word","spout"] ["thing","number","many","spouts"] (aK (bD 28)):=⟨rfl,rfl,rfl,by decide +kernel,rfl,by decide +kernel,by decide +kernel⟩
theorem ok__law_is_vessel {f f1:Addr}{fd fd1:FuncData} (F:Fun K "_law_is_vessel" "_law_is_vessel" (bD 28) f fd) (T:Txt mg) (TS:TxtS mg) (G__law_whole:Callee P w K mg base "_law_whole" ["thing","low","high"] 1 spWhole f1 fd1) :
  FnOk P w K mg base CX0 2 f fd ["thing","number","many","spouts"] (spIsVessel K):=by
 refine F.ok sc__law_is_vessel (fun vs H Q E h=>?_) (fun cdv A outer s H vs Q E hr h=>?_)
 ·obtain⟨x,i,n,m,v,rfl,_⟩:=h;rfl
 ·obtain⟨x,i,n,m,v,rfl,hx,ok,fu,k⟩:=h
  have sc:=sc__law_is_vessel
  refine⟨_,(aE (bS (PW.pt (cW (aZ (b7 (aH (bB (K:=K) rfl) rfl T.b_isinstance bK (aA (pv 0) (aA (bZ (v:=.ty "tuple") rfl T.b_tuple bV rfl) aB))))) (cW (bG op_ne (aH (aQ (K:=K) rfl) rfl T.b_len PySem.boot_len (aA (pv 0) aB)) aD (bP _)) (cR (aZ (b7 (pcG G__law_whole hr (aA (aM (aF (K:=K) rfl) (pv 0) aD (fun _ _=>rfl)) (aA aD (aA aD aB)))))))))) (aI (aS bT)) aT)
   (aE (bS (PW.pt (cW (aZ (b7 (pcG G__law_whole hr (aA (aM (aF (K:=K) rfl) (pv 0) aD (fun _ _=>rfl)) (aA (aM (aF (K:=K) rfl) (pv 0) aD (fun _ _=>rfl)) (aA aD aB)))))) (cR (aZ (b7 (aH (bB (K:=K) rfl) rfl T.b_isinstance bK (aA (aM (aF (K:=K) rfl) (pv 0) aD (fun _ _=>rfl)) (aA (bZ (v:=.ty "bool") rfl T.b_bool bt_bool rfl) aB)))))))) (aI (aS bT)) aT)
   (aE (bS (PW.pt (cW (aZ (b7 (aH (bB (K:=K) rfl) rfl T.b_isinstance bK (aA (aM (aF (K:=K) rfl) (pv 0) aD (fun _ _=>rfl)) (aA (bZ (v:=.ty "tuple") rfl T.b_tuple bV rfl) aB))))) (cR (aZ (pt_chain op_le op_le aD (aH (aQ (K:=K) rfl) rfl T.b_len PySem.boot_len (aA (aM (aF (K:=K) rfl) (pv 0) aD (fun _ _=>rfl)) aB)) aD))))) (aI (aS bT)) aT)
   (aE (bS (PW.pt (cW (aZ (b7 (aH (bB (K:=K) rfl) rfl T.b_isinstance bK (aA (aM (aF (K:=K) rfl) (pv 0) aD (fun _ _=>rfl)) (aA (bZ (v:=.ty "tuple") rfl T.b_tuple bV rfl) aB))))) (cR (bG op_gt (aH (aQ (K:=K) rfl) rfl T.b_len PySem.boot_len (aA (aM (aF (K:=K) rfl) (pv 0) aD (fun _ _=>rfl)) aB)) aD (bP _))))) (aI (aS bT)) aT)
   (aE (d9 PassesOwn.never rfl (cY (K:=K) rfl (b9 (op_catTZK (K:=K) rfl) (aM (aF (K:=K) rfl) (pv 0) aD (fun _ _=>rfl)) (aM (aF (K:=K) rfl) (pv 0) aD (fun _ _=>rfl)))) (aJ (i:=4) sc.nd rfl (Or.inl rfl)) (aI (bS (PW.pt (cW (aZ (b7 (aH (bB (K:=K) rfl) rfl T.b_isinstance bK (aA (pv 4) (aA (bZ (v:=.ty "tuple") rfl T.b_tuple bV rfl) aB))))) (cR (bG op_ne (aH (aQ (K:=K) rfl) rfl T.b_len PySem.boot_len (aA (pv 4) aB)) aD (bP _))))) (aI (aS bT)) aT)))
   (aE (d9 PassesOwn.never rfl (cY (K:=K) rfl (aM (aF (K:=K) rfl) (pv 0) aD (fun _ _=>rfl))) (cD (K:=K) (n:=2) rfl rfl (aL (aJ (i:=5) sc.nd rfl (Or.inl rfl)) (aL (aJ (i:=6) sc.nd rfl (Or.inl rfl)) bY))) (aI (bS (PW.pt (cW (PW.pt (pw_and (bG op_notN (pv 5) pe_non (bP _)) (pw_and1 (aZ (b7 (pcG G__law_whole hr (aA (pv 5) (aA aD (aA (b9 op_sub (pv 2) aD) aB))))))))) (cR (aZ (b7 (pcG G__law_whole hr (aA (pv 6) (aA aD (aA aD aB))))))))) (aI (aS bT)) aT)))
   (aE (d9 PassesOwn.never rfl (cY (K:=K) rfl (aM (aF (K:=K) rfl) (pv 0) aD (fun _ _=>rfl))) (cD (K:=K) (n:=2) rfl rfl (aL (aJ (i:=7) sc.nd rfl (Or.inl rfl)) (aL (aJ (i:=8) sc.nd rfl (Or.inl rfl)) bY))) (aI (bS (PW.pt (cW (aZ (b7 (aH (bB (K:=K) rfl) rfl T.b_isinstance bK (aA (pv 7) (aA (bZ (v:=.ty "str") rfl TS.b_str boot_str rfl) aB))))) (cW (bG (op_ninK (K:=K) rfl) (pv 7) (dA (aA pe_str (aA pe_str (aA pe_str aB)))) (by rfl)) (cR (aZ (b7 (pcG G__law_whole hr (aA (pv 8) (aA aD (aA (b9 op_sub (pv 3) aD) aB)))))))))) (aI (aS bT)) aT)))
   (aI (aS (pe_or (pe_cmpR op_isN (aM (aF (K:=K) rfl) (pv 0) aD (fun _ _=>rfl)) pe_non (bP _)) (pe_one (pcG G__law_whole hr (aA (aM (aF (K:=K) rfl) (pv 0) aD (fun _ _=>rfl)) (aA (b9 op_add (pv 1) aD) (aA (b9 op_sub (pv 2) aD) aB))))))))))))))),?_⟩
  obtain⟨va,o,cc,rfl,qv,ho,hc⟩:=vs_un hx
  obtain⟨oa,os,rfl,qo,lo⟩:=ho.un
  obtain⟨ca,cs,rfl,qc,lc⟩:=hc.un
  have eol:os.length=v.outs.length:=by rw[lo.length,List.length_map]
  have ecl:cs.length=v.acts.length:=by rw[lc.length,List.length_map]
  have ne1:1≤v.outs.length:=by
   rcases Nat.eq_zero_or_pos v.outs.length with e | e
   ·exact absurd (List.eq_nil_of_length_eq_zero e) ok.ne
   ·exact e
  have o3:=ok.o3
  have a3:=ok.a3
  refine⟨_,rfl,_,"tuple",_,true,rfl,.inr ⟨va,_,rfl,qv,rfl⟩,kit_tt K,_,rfl,bQ ?_⟩
  refine⟨_,rfl,va,_,rfl,.inr qv,rfl,_,rfl,bQ ?_⟩
  refine⟨_,rfl,.inr (.inl ⟨va,_,0,_,rfl,rfl,qv,rfl,v.size,1,60,rfl,ok.size,fu.sz,_,rfl,bQ ?_⟩)⟩
  refine⟨_,rfl,.inr (.inl ⟨va,_,1,_,rfl,rfl,qv,rfl,_,rfl,.inr (.inl ⟨va,_,0,_,rfl,rfl,qv,rfl,v.brim,v.size,200,rfl,fu.br,fu.bh,_,rfl,bQ ?_⟩)⟩)⟩
  refine⟨_,rfl,.inr (.inl ⟨va,_,3,_,rfl,rfl,qv,rfl,_,"bool",_,true,rfl,.inl (.bl _),kit_bb K,_,rfl,bQ ?_⟩)⟩
  refine⟨_,rfl,.inr (.inl ⟨va,_,2,_,rfl,rfl,qv,rfl,_,"tuple",_,true,rfl,.inr ⟨oa,_,rfl,qo,rfl⟩,kit_tt K,_,rfl,bQ ?_⟩)⟩
  refine⟨_,rfl,.inr (.inl ⟨va,_,2,_,rfl,rfl,qv,rfl,oa,os,rfl,.inr qo,_,_,rfl,rfl,_,rfl,iteD (show (1:Int)≤(os.length:Int) by omega) ⟨_,_,rfl,rfl,_,rfl,?_⟩⟩)⟩
  rw[decide_eq_true (show (os.length:Int)≤3 by omega)]
  refine bQ ?_
  refine⟨_,rfl,.inr (.inl ⟨va,_,5,_,rfl,rfl,qv,rfl,_,"tuple",_,true,rfl,.inr ⟨ca,_,rfl,qc,rfl⟩,kit_tt K,_,rfl,bQ ?_⟩)⟩
  refine⟨_,rfl,.inr (.inl ⟨va,_,5,_,rfl,rfl,qv,rfl,ca,cs,rfl,.inr qc,_,_,rfl,rfl,_,rfl,ite2 (fun z=>?_) fun _=>?_⟩)⟩
  ·have z':(3:Int) < (cs.length:Int):=of_decide_eq_true z
   omega
  refine⟨_,rfl,.inr (.inl ⟨va,_,2,_,rfl,rfl,qv,rfl,_,rfl,.inr (.inl ⟨va,_,5,_,rfl,rfl,qv,rfl,oa,ca,os,cs,rfl,rfl,qo,qc,Nat.le_of_lt (aW (by omega)),fun pp H1 s1 qp=>?_⟩)⟩)⟩
  have pairs:∀ (j:Nat) (x:V),(os++cs)[j]? = some x→∃ a y z,x=.ref a∧bL K H a [y,z]:=fun j x hx=>by
   by_cases h:j < os.length
   ·rw[List.getElem?_append_left h] at hx
    obtain⟨ot,_,oad,rfl,qot⟩:=outs_at lo hx
    exact⟨oad,_,_,rfl,qot⟩
   ·rw[List.getElem?_append_right (by omega)] at hx
    obtain⟨at',_,aa,rfl,qa⟩:=acts_at lc hx
    exact⟨aa,_,_,rfl,qa⟩
  refine⟨pp,rfl,⟨_,qp⟩,for_tup (K:=K) (a:=pp) (xs:=os++cs) (fun j σ' H'=>aG H1 H'∧∃ v4,σ'=[some (.ref va),some (.int (i:Int)),some (.int (n:Int)),some (.int (m:Int)),v4,none,none,none,none]) ⟨aG.refl _,_,rfl⟩ (fun j σ' H' _ p=>p.1.tup qp) ?_ ?_⟩
  ·rintro j x σ' H2 hx ⟨s2,v4,rfl⟩
   obtain⟨a,y,z,rfl,qa⟩:=pairs j x hx
   have qa2:=(s1.trans s2).tup qa
   dsimp only [gName]
   refine⟨_,rfl,_,"tuple",_,true,rfl,.inr ⟨a,_,rfl,qa2,rfl⟩,kit_tt K,_,rfl,bQ ?_⟩
   refine⟨_,rfl,a,_,rfl,.inr qa2,rfl,_,rfl,iteNS rfl ?_⟩
   exact⟨s2,_,rfl⟩
  rintro σ' H2 ⟨s2,v4,rfl⟩
  have s02:=s1.trans s2
  refine⟨_,rfl,.inr (.inl ⟨va,_,2,_,rfl,rfl,s02.tup qv,rfl,oa,rfl,⟨_,s02.tup qo⟩,for_tup (K:=K) (a:=oa) (xs:=os) (fun j σ' H'=>aG H2 H'∧∃ v5 v6,σ'=[some (.ref va),some (.int (i:Int)),some (.int (n:Int)),some (.int (m:Int)),v4,v5,v6,none,none]) ⟨aG.refl _,_,_,rfl⟩ (fun j σ' H' _ p=>(s02.trans p.1).tup qo) ?_ ?_⟩)⟩
  ·rintro j x σ' H3 hx ⟨s3,v5,v6,rfl⟩
   obtain⟨ot,hot,oad,rfl,qot⟩:=outs_at lo hx
   have ook:=ok.outs _ (List.mem_of_getElem? hot)
   refine⟨oad,_,rfl,(s02.trans s3).tup qot,rfl,_,_,rfl,_,_,rfl,rfl,?_⟩
   cases ho1:ot.1 with
   | none=>
    refine⟨_,rfl,rfl,_,rfl,iteNS rfl (bQ ?_)⟩
    refine⟨_,rfl,ot.2,1,60,rfl,ook.lo,ook.hi,_,rfl,bQ ?_⟩
    exact⟨s3,_,_,rfl⟩
   | some t=>
    have ht:=ook.tg t ho1
    refine⟨_,rfl,rfl,_,rfl,iteT ?_⟩
    refine⟨_,rfl,_,rfl,_,_,rfl,rfl,t,0,_,rfl,ht.1,by omega,_,rfl,bQ ?_⟩
    refine⟨_,rfl,ot.2,1,60,rfl,ook.lo,ook.hi,_,rfl,bQ ?_⟩
    exact⟨s3,_,_,rfl⟩
  rintro σ' H3 ⟨s3,v5,v6,rfl⟩
  have s03:=s02.trans s3
  refine⟨_,rfl,.inr (.inl ⟨va,_,5,_,rfl,rfl,s03.tup qv,rfl,ca,rfl,⟨_,s03.tup qc⟩,for_tup (K:=K) (a:=ca) (xs:=cs) (fun j σ' H'=>aG H3 H'∧∃ v7 v8,σ'=[some (.ref va),some (.int (i:Int)),some (.int (n:Int)),some (.int (m:Int)),v4,v5,v6,v7,v8]) ⟨aG.refl _,_,_,rfl⟩ (fun j σ' H' _ p=>(s03.trans p.1).tup qc) ?_ ?_⟩)⟩
  ·rintro j x σ' H4 hx ⟨s4,v7,v8,rfl⟩
   obtain⟨at',hat,aa,rfl,qa⟩:=acts_at lc hx
   have aok:=ok.acts _ (List.mem_of_getElem? hat)
   have ah:=aok.hi
   refine⟨aa,_,rfl,(s03.trans s4).tup qa,rfl,_,_,rfl,_,_,rfl,rfl,?_⟩
   refine⟨_,rfl,_,"str",_,true,rfl,.inl (.str _),kit_ss K,_,rfl,bQ ?_⟩
   refine⟨_,rfl,(show 3≤sizeLine by decide),fun l hl=>?_⟩
   have s5:=aG.new (o:=HO.lst [.str "open",.str "shut",.str "turn"]) hl
   have hin:inV (.str at'.1) [.str "open",.str "shut",.str "turn"]=true:=by
    rcases aok.word with e | e | e <;> rw[e] <;> decide +kernel
   refine⟨l,_,rfl,.inl (bX.of aC),rfl,rfl,_,rfl,?_⟩
   rw[show (if true=true then !inV (V.str at'.1) [.str "open",.str "shut",.str "turn"] else inV (V.str at'.1) [.str "open",.str "shut",.str "turn"])=false by rw[hin];rfl]
   refine bQ ?_
   refine⟨_,rfl,_,rfl,_,_,rfl,rfl,at'.2,0,_,rfl,aok.lo,by omega,_,rfl,bQ ?_⟩
   exact⟨s4.trans s5,_,_,rfl⟩
  rintro σ' H4 ⟨s4,v7,v8,rfl⟩
  have s04:=s03.trans s4
  have qv4:=s04.tup qv
  cases hsp:v.spill with
  | none=>
   rw[hsp] at qv4
   exact⟨_,rfl,.inr (.inl ⟨va,_,4,_,rfl,rfl,qv4,rfl,rfl,_,rfl,iteT (k _ s04)⟩)⟩
  | some t=>
   rw[hsp] at qv4
   have h1:=ok.spill t hsp
   have h2:=fu.sp t hsp
   refine⟨_,rfl,.inr (.inl ⟨va,_,4,_,rfl,rfl,qv4,rfl,rfl,_,rfl,bQ ?_⟩)⟩
   exact⟨_,rfl,.inr (.inl ⟨va,_,4,_,rfl,rfl,qv4,rfl,_,rfl,_,_,rfl,rfl,_,rfl,_,_,rfl,rfl,t,_,_,rfl,by omega,by omega,k _ s04⟩)⟩
theorem sc__law_is_net:FnScope ["thing","number","spout"] ["thing"] (aK (bD 27)):=⟨rfl,rfl,rfl,by decide +kernel,rfl,by decide +kernel,by decide +kernel⟩
theorem ok__law_is_net {f f1 f2:Addr}{fd fd1 fd2:FuncData} (F:Fun K "_law_is_net" "_law_is_net" (bD 27) f fd) (T:Txt mg) (G__law_whole:Callee P w K mg base "_law_whole" ["thing","low","high"] 1 spWhole f1 fd1)
  (G__law_is_vessel:Callee P w K mg base "_law_is_vessel" ["thing","number","many","spouts"] 2 (spIsVessel K) f2 fd2):FnOk P w K mg base CX0 3 f fd ["thing"] (spIsNet K):=by
 refine F.ok sc__law_is_net (fun vs H Q E h=>?_) (fun cdv A outer s H vs Q E hr h=>?_)
 ·obtain⟨x,net,rfl,_⟩:=h;rfl
 ·obtain⟨x,net,rfl,hx,nok,nfu,k⟩:=h
  have sc:=sc__law_is_net
  refine⟨_,(aE (bS (PW.pt (cW (aZ (b7 (aH (bB (K:=K) rfl) rfl T.b_isinstance bK (aA (pv 0) (aA (bZ (v:=.ty "tuple") rfl T.b_tuple bV rfl) aB))))) (cW (bG op_ne (aH (aQ (K:=K) rfl) rfl T.b_len PySem.boot_len (aA (pv 0) aB)) aD (bP _)) (cR (aZ (b7 (aH (call_allK (K:=K) rfl rfl) rfl T.b_all PyProof.Rows.boot_all (aA (pe_lc (fun _ _ h=>h) rfl (LcOk.mk (N':=["part"]) (fr:=[none]) rfl trivial rfl rfl rfl rfl rfl trivial) (cY (K:=K) rfl (pv 0)) (fun _ _ _=>(aJ (i:=0) (show (["part"]:List Str).Nodup by decide +kernel) rfl (Or.inl rfl) (Or.inr rfl))) (fun _ _ _=>pif_nil) (fun _ _ _=>(aH (bB (K:=K) rfl) rfl T.b_isinstance bK (aA (pv 0) (aA (bZ (v:=.ty "tuple") rfl T.b_tuple bV rfl) aB))))) aB)))))))) (aI (aS bT)) aT)
   (aE (bS (PW.pt (cW (aZ (pt_chain op_le op_le aD (aH (aQ (K:=K) rfl) rfl T.b_len PySem.boot_len (aA (aM (aF (K:=K) rfl) (pv 0) aD (fun _ _=>rfl)) aB)) aD)) (cR (bG op_gt (aH (aQ (K:=K) rfl) rfl T.b_len PySem.boot_len (aA (aM (aF (K:=K) rfl) (pv 0) aD (fun _ _=>rfl)) aB)) aD (bP _))))) (aI (aS bT)) aT)
   (aE (d9 PassesOwn.never rfl (cH rfl T.b_range (aA (aH (aQ (K:=K) rfl) rfl T.b_len PySem.boot_len (aA (aM (aF (K:=K) rfl) (pv 0) aD (fun _ _=>rfl)) aB)) aB)) (aJ (i:=1) sc.nd rfl (Or.inl rfl)) (aI (bS (aZ (b7 (pcG G__law_is_vessel hr (aA (aM (aF (K:=K) rfl) (aM (aF (K:=K) rfl) (pv 0) aD (fun _ _=>rfl)) (pv 1) (fun _ _=>rfl)) (aA (pv 1) (aA (aH (aQ (K:=K) rfl) rfl T.b_len PySem.boot_len (aA (aM (aF (K:=K) rfl) (pv 0) aD (fun _ _=>rfl)) aB)) (aA (aH (aQ (K:=K) rfl) rfl T.b_len PySem.boot_len (aA (aM (aF (K:=K) rfl) (pv 0) aD (fun _ _=>rfl)) aB)) aB))))))) (aI (aS bT)) aT)))
   (aE (d9 PassesOwn.never rfl (cY (K:=K) rfl (aM (aF (K:=K) rfl) (pv 0) aD (fun _ _=>rfl))) (aJ (i:=2) sc.nd rfl (Or.inl rfl)) (aE (bS (PW.pt (cW (aZ (b7 (aH (bB (K:=K) rfl) rfl T.b_isinstance bK (aA (pv 2) (aA (bZ (v:=.ty "tuple") rfl T.b_tuple bV rfl) aB))))) (cW (bG op_ne (aH (aQ (K:=K) rfl) rfl T.b_len PySem.boot_len (aA (pv 2) aB)) aD (bP _)) (cR (aZ (b7 (aH (bB (K:=K) rfl) rfl T.b_isinstance bK (aA (aM (aF (K:=K) rfl) (pv 2) aD (fun _ _=>rfl)) (aA (bZ (v:=.ty "bool") rfl T.b_bool bt_bool rfl) aB))))))))) (aI (aS bT)) aT)
   (aI (bS (PW.pt (cW (aZ (b7 (pcG G__law_whole hr (aA (aM (aF (K:=K) rfl) (pv 2) aD (fun _ _=>rfl)) (aA aD (aA (b9 op_sub (aH (aQ (K:=K) rfl) rfl T.b_len PySem.boot_len (aA (aM (aF (K:=K) rfl) (pv 0) aD (fun _ _=>rfl)) aB)) aD) aB)))))) (cR (aZ (b7 (pcG G__law_whole hr (aA (aM (aF (K:=K) rfl) (pv 2) aD (fun _ _=>rfl)) (aA aD (aA aD aB))))))))) (aI (aS bT)) aT))))
   (aI (aS bT)))))),?_⟩
  obtain⟨a,b,c,xs,ys,rfl,q,q1,l1,q2,l2⟩:=net_un hx
  have exl:xs.length=net.vs.length:=by rw[l1.length,List.length_map]
  have eyl:ys.length=net.sps.length:=by rw[l2.length,List.length_map]
  have n1:=nok.lo
  have n2:=nok.hi
  have n3:=nok.sp
  refine⟨_,rfl,_,"tuple",_,true,rfl,.inr ⟨a,_,rfl,q,rfl⟩,kit_tt K,_,rfl,bQ ?_⟩
  refine⟨_,rfl,a,_,rfl,.inr q,rfl,_,rfl,iteNS rfl ?_⟩
  refine⟨_,rfl,a,rfl,⟨_,q⟩,lc_tup (K:=K) (a:=a) (xs:=[.ref b,.ref c]) (fun D i r σ' H'=>H D=none∧aG H H'∧H' D=some (.lst r)∧r=(List.replicate i true).map V.bl∧∃ u,σ'=[u])
   (fun D i r σ' H' p=>p.2.1.tup q) (fun D hD=>⟨hD,aG.new hD,aC,rfl,none,rfl⟩) ?_ ?_⟩
  rotate_left
  ·rintro D j y r σ' H2 hy ⟨hD,sm,hDl,rfl,u,rfl⟩
   have hjl:=(List.getElem?_eq_some_iff.mp hy).1
   have hj2:j < 2:=hjl
   have ty:∃ e zs,y=.ref e∧bL K H2 e zs:=by
    match j,hy with
    | 0,hy=>cases hy;exact⟨b,_,rfl,sm.tup q1⟩
    | 1,hy=>cases hy;exact⟨c,_,rfl,sm.tup q2⟩
   obtain⟨e,zs,rfl,qe⟩:=ty
   refine dC ?_
   refine⟨_,rfl,_,"tuple",_,true,rfl,.inr ⟨e,_,rfl,qe,rfl⟩,kit_tt K,hDl,aW (by simp;omega),hD,sm.put hD,aC,?_,_,rfl⟩
   rw[List.replicate_succ',List.map_append];rfl
  rintro D r σ' H2 ⟨hD,sm2,hDl,rfl,_⟩
  refine⟨false,D,_,rfl,bX.of hDl,_,rfl,?_⟩
  rw[all_true]
  refine bQ ?_
  have qa:=sm2.tup q
  have qb:=sm2.tup q1
  have qc:=sm2.tup q2
  refine⟨_,rfl,.inr (.inl ⟨a,_,0,_,rfl,rfl,qa,rfl,b,xs,rfl,.inr qb,_,_,rfl,rfl,_,rfl,iteD (show (1:Int)≤(xs.length:Int) by omega) ⟨_,_,rfl,rfl,_,rfl,?_⟩⟩)⟩
  rw[decide_eq_true (show (xs.length:Int)≤12 by omega)]
  refine bQ ?_
  refine⟨_,rfl,.inr (.inl ⟨a,_,1,_,rfl,rfl,qa,rfl,c,ys,rfl,.inr qc,_,_,rfl,rfl,_,rfl,ite2 (fun z=>?_) fun _=>?_⟩)⟩
  ·have z':(12:Int) < (ys.length:Int):=of_decide_eq_true z
   omega
  refine⟨_,rfl,.inr (.inl ⟨a,_,0,_,rfl,rfl,qa,rfl,b,xs,rfl,.inr qb,?_⟩)⟩
  rw[exl]
  refine⟨_,rfl,by omega,by omega,for_range (lo:=0) (n:=net.vs.length) (fun j σ' H'=>aG H2 H'∧∃ v1,σ'=[some (.ref a),v1,none]) ⟨aG.refl _,_,rfl⟩ ?_ ?_⟩
  ·rintro j σ' H3 hj ⟨s3,v1,rfl⟩
   rw[Int.zero_add]
   have s03:=sm2.trans s3
   obtain⟨xj,hxj⟩:∃ x,xs[j]? = some x:=⟨xs[j]'(by omega),by simp⟩
   obtain⟨d,hd,iv⟩:=l1.get' hxj
   rw[List.getElem?_map] at hd
   obtain⟨v,hv,rfl⟩:=Option.map_eq_some_iff.mp hd
   dsimp only [gName]
   refine⟨_,rfl,.inr (.inl ⟨a,_,0,_,rfl,rfl,s03.tup q,rfl,_,rfl,.inr (.inl ⟨b,xs,(j:Int),_,rfl,rfl,s03.tup q1,cF hxj,_,rfl,?_⟩)⟩)⟩
   refine⟨_,rfl,.inr (.inl ⟨a,_,0,_,rfl,rfl,s03.tup q,rfl,b,xs,rfl,.inr (s03.tup q1),_,rfl,.inr (.inl ⟨a,_,1,_,rfl,rfl,s03.tup q,rfl,c,ys,rfl,.inr (s03.tup q2),_,j,net.vs.length,net.sps.length,v,by rw[exl,eyl];rfl,Is.mono s03.ts _ _ iv,nok.vs v (List.mem_of_getElem? hv),nfu.vs j v hv,fun H4 s4=>⟨_,rfl,bQ ?_⟩⟩)⟩)⟩
   exact⟨s3.trans s4,_,rfl⟩
  rintro σ' H3 ⟨s3,v1,rfl⟩
  have s03:=sm2.trans s3
  refine⟨_,rfl,.inr (.inl ⟨a,_,1,_,rfl,rfl,s03.tup q,rfl,c,rfl,⟨_,s03.tup q2⟩,for_tup (K:=K) (a:=c) (xs:=ys) (fun j σ' H'=>aG H3 H'∧∃ v2,σ'=[some (.ref a),v1,v2]) ⟨aG.refl _,_,rfl⟩ (fun j σ' H' _ p=>(s03.trans p.1).tup q2) ?_ ?_⟩)⟩
  ·rintro j x σ' H4 hx' ⟨s4,v2,rfl⟩
   have s04:=s03.trans s4
   obtain⟨sp,hsi,sa,rfl,qs⟩:=sps_at l2 hx'
   have hm:=List.mem_of_getElem? hsi
   have h1:=nok.sps sp hm
   have h2:=nfu.sps sp hm
   have qs4:=s04.tup qs
   dsimp only [gName]
   refine⟨_,rfl,_,"tuple",_,true,rfl,.inr ⟨sa,_,rfl,qs4,rfl⟩,kit_tt K,_,rfl,bQ ?_⟩
   refine⟨_,rfl,sa,_,rfl,.inr qs4,rfl,_,rfl,iteNS rfl ?_⟩
   refine⟨_,rfl,.inr (.inl ⟨sa,_,2,_,rfl,rfl,qs4,rfl,_,"bool",_,true,rfl,.inl (.bl _),kit_bb K,_,rfl,bQ ?_⟩)⟩
   refine⟨_,rfl,.inr (.inl ⟨sa,_,0,_,rfl,rfl,qs4,rfl,_,rfl,.inr (.inl ⟨a,_,0,_,rfl,rfl,s04.tup q,rfl,b,xs,rfl,.inr (s04.tup q1),_,_,rfl,rfl,sp.1,0,_,rfl,h1.1,by omega,_,rfl,bQ ?_⟩)⟩)⟩
   refine⟨_,rfl,.inr (.inl ⟨sa,_,1,_,rfl,rfl,qs4,rfl,sp.2.1,0,60,rfl,h2.1,h2.2,_,rfl,bQ ?_⟩)⟩
   exact⟨s4,_,rfl⟩
  rintro σ' H4 ⟨s4,v2,rfl⟩
  exact k _ (s03.trans s4)
end
end Tw
namespace L2
open PySem PySem.Spec PyProof.Rows
noncomputable def tOrT (K:PySem.W.Frag) (ta tb:TE):TE:=fun σ H Q=>ta σ H fun x H1=>∃ c,TruV K x H1 c∧if c=true then Q x H1 else tb σ H1 Q
theorem pe_orT {X:Cx}{K:PySem.W.Frag}{a b:Expr}{rest:List Expr}{ta tb:TE}{pos:Pos} (hK:X.K=K) (ha:PE X a ta) (hb:PE X (.BoolOp .Or (b::rest) pos) tb):PE X (.BoolOp .Or (a::b::rest) pos) (tOrT K ta tb):=by
 subst hK
 intro pins s σ H Q I h
 refine BoolOp_or (cM (ha pins s σ H _ I h) fun v s1 ⟨x,H1,I1,r1,q1⟩=>?_)
 obtain⟨c,tv,q1⟩:=q1
 refine cM (tru_ok pins s1 σ H1 x v (fun d H2=>d=c∧H2=H1) I1 r1 ⟨c,tv,rfl,rfl⟩) fun d s2 z=>?_
 obtain⟨H2,I2,rfl,rfl⟩:=z
 cases d with
 | false=>exact hb pins s2 σ H2 Q I2 q1
 | true=>exact⟨x,H2,I2,r1,q1⟩
theorem pe_t2 {X:Cx}{e1 e2:Expr}{t1 t2:TE}{x1}{pos:Pos} (g1:PE X e1 t1) (g2:PE X e2 t2)
  (s1:starEach [e1,e2] X.env=(false,eval e1 X.env)::starEach [e2] X.env:=by rfl) (s2:starEach [e2] X.env=(false,eval e2 X.env)::starEach [] X.env:=by rfl):PE X (.Tuple [e1,e2] x1 pos) (tTup (aV t1 (aV t2 cZ))):=
 have a2:=aA g2 aB s2
 have a1:=aA g1 a2 s1
 bO a1
theorem pe_t3 {X:Cx}{e1 e2 e3:Expr}{t1 t2 t3:TE}{x1}{pos:Pos} (g1:PE X e1 t1) (g2:PE X e2 t2) (g3:PE X e3 t3)
  (s1:starEach [e1,e2,e3] X.env=(false,eval e1 X.env)::starEach [e2,e3] X.env:=by rfl) (s2:starEach [e2,e3] X.env=(false,eval e2 X.env)::starEach [e3] X.env:=by rfl) (s3:starEach [e3] X.env=(false,eval e3 X.env)::starEach [] X.env:=by rfl):PE X (.Tuple [e1,e2,e3] x1 pos) (tTup (aV t1 (aV t2 (aV t3 cZ)))):=
 have a3:=aA g3 aB s3
 have a2:=aA g2 a3 s2
 have a1:=aA g1 a2 s1
 bO a1
theorem pe_t6 {X:Cx}{e1 e2 e3 e4 e5 e6:Expr}{t1 t2 t3 t4 t5 t6:TE}{x1}{pos:Pos} (g1:PE X e1 t1) (g2:PE X e2 t2) (g3:PE X e3 t3) (g4:PE X e4 t4) (g5:PE X e5 t5) (g6:PE X e6 t6)
  (s1:starEach [e1,e2,e3,e4,e5,e6] X.env=(false,eval e1 X.env)::starEach [e2,e3,e4,e5,e6] X.env:=by rfl) (s2:starEach [e2,e3,e4,e5,e6] X.env=(false,eval e2 X.env)::starEach [e3,e4,e5,e6] X.env:=by rfl) (s3:starEach [e3,e4,e5,e6] X.env=(false,eval e3 X.env)::starEach [e4,e5,e6] X.env:=by rfl) (s4:starEach [e4,e5,e6] X.env=(false,eval e4 X.env)::starEach [e5,e6] X.env:=by rfl) (s5:starEach [e5,e6] X.env=(false,eval e5 X.env)::starEach [e6] X.env:=by rfl) (s6:starEach [e6] X.env=(false,eval e6 X.env)::starEach [] X.env:=by rfl):PE X (.Tuple [e1,e2,e3,e4,e5,e6] x1 pos) (tTup (aV t1 (aV t2 (aV t3 (aV t4 (aV t5 (aV t6 cZ))))))):=
 have a6:=aA g6 aB s6
 have a5:=aA g5 a6 s5
 have a4:=aA g4 a5 s4
 have a3:=aA g3 a4 s3
 have a2:=aA g2 a3 s2
 have a1:=aA g1 a2 s1
 bO a1
theorem pe_none1 {X:Cx}{i:Int}{k1 k2:Nat}{p1 p2 q1 q2:Pos}{x1 x2:Nat}:PE X (.Tuple [.Tuple [.Constant .none k1 p1,.Constant (.int i) k2 p2] x1 q1] x2 q2) (tTup (aV (tTup (aV (tC .non) (aV (tC (.int i)) cZ))) cZ)):=
 have a2:PA X [.Constant (.int i) k2 p2] (aV (tC (.int i)) cZ):=aA aD aB
 have a1:PA X [.Constant .none k1 p1,.Constant (.int i) k2 p2] (aV (tC .non) (aV (tC (.int i)) cZ)):=aA pe_non a2
 have b1:PE X (.Tuple [.Constant .none k1 p1,.Constant (.int i) k2 p2] x1 q1) (tTup (aV (tC .non) (aV (tC (.int i)) cZ))):=bO a1
 have c1:PA X [.Tuple [.Constant .none k1 p1,.Constant (.int i) k2 p2] x1 q1] (aV (tTup (aV (tC .non) (aV (tC (.int i)) cZ))) cZ):=aA b1 aB
 bO c1
theorem pe_bell0 {X:Cx}{i1 i2 i3:Int}{bb:Bool}{k1 k2 k3 k4 k5 k6:Nat}{p1 p2 p3 p4 p5 p6 q1 q2 q3 q4 q5:Pos}{x1 x2 x3 x4:Nat} :
  PE X (.List [.Tuple [.Constant (.int i1) k1 p1,.Constant (.int i2) k2 p2,.Tuple [.Tuple [.Constant .none k3 p3,.Constant (.int i3) k4 p4] x1 q1] x2 q2,.Constant (.bool bb) k5 p5,.Constant .none k6 p6,.Tuple [] x3 q3] x4 q4] q5)
   (tLst (aV (tTup (aV (tC (.int i1)) (aV (tC (.int i2)) (aV (tTup (aV (tTup (aV (tC .non) (aV (tC (.int i3)) cZ))) cZ)) (aV (tC (.bl bb)) (aV (tC .non) (aV (tTup cZ) cZ))))))) cZ)):=
 have e0:PE X (.Tuple [] x3 q3) (tTup cZ):=bO aB
 have a6:PA X [.Tuple [] x3 q3] (aV (tTup cZ) cZ):=aA e0 aB
 have a5:PA X [.Constant .none k6 p6,.Tuple [] x3 q3] (aV (tC .non) (aV (tTup cZ) cZ)):=aA pe_non a6
 have a4:PA X [.Constant (.bool bb) k5 p5,.Constant .none k6 p6,.Tuple [] x3 q3] (aV (tC (.bl bb)) (aV (tC .non) (aV (tTup cZ) cZ))):=aA bT a5
 have n1:PE X (.Tuple [.Tuple [.Constant .none k3 p3,.Constant (.int i3) k4 p4] x1 q1] x2 q2) _:=pe_none1
 have a3:=aA n1 a4
 have a2:=aA (aD (X:=X) (i:=i2) (j:=k2) (pos:=p2)) a3
 have a1:=aA (aD (X:=X) (i:=i1) (j:=k1) (pos:=p1)) a2
 have b1:=bO (x1:=x4) (pos:=q4) a1
 have c1:=aA b1 aB
 dA c1
theorem pe_shut {X:Cx}{z:Str}{e:Expr}{te:TE}{k1:Nat}{p1 q1 q2:Pos}{x1 x2:Nat} (h:PE X e te) (hs:starEach [e] X.env=(false,eval e X.env)::starEach [] X.env:=by rfl):PE X (.Tuple [.Tuple [.Constant (.str z) k1 p1,e] x1 q1] x2 q2) (tTup (aV (tTup (aV (tC (.str z)) (aV te cZ))) cZ)):=
 have a2:PA X [e] (aV te cZ):=aA h aB hs
 have a1:PA X [.Constant (.str z) k1 p1,e] (aV (tC (.str z)) (aV te cZ)):=aA pe_str a2
 have b1:PE X (.Tuple [.Constant (.str z) k1 p1,e] x1 q1) (tTup (aV (tC (.str z)) (aV te cZ))):=bO a1
 have c1:PA X [.Tuple [.Constant (.str z) k1 p1,e] x1 q1] (aV (tTup (aV (tC (.str z)) (aV te cZ))) cZ):=aA b1 aB
 bO c1
end L2
namespace Tw
open PySem L2
theorem gl_nat10 {K:PySem.W.Frag}{H:Hp}:∀ l:List Nat,cX K H (l.map fun (i:Nat)=>G.int (i:Int)) (natV l)
 | []=>cX.nil
 | i::l=>.cons (aR.i _) (gl_nat10 l)
theorem dep_nat10:∀ l:List Nat,depGL (l.map fun (i:Nat)=>G.int (i:Int))=0
 | []=>by rw[List.map_nil,depGL]
 | i::l=>by rw[List.map_cons,depGL,dep_nat10 l];simp [depG]
section
variable {P:Program}{w:World}{K:PySem.W.Frag}{mg:Str→Option Value}{base:Heap}
noncomputable def spBell (K:PySem.W.Frag):Sp:=fun vs H Q _=>∃ (a:Addr) (S:List Nat),vs=[.ref a]∧H a=some (.lst (natV S))∧S.length≤11∧∀ p H',aG H H'→Is K H' (netD (bR S)) p→Q p H'
theorem sc_bell_for:FnScope ["ticks","vessels","spouts","number","tick"] ["ticks"] (aK (bD 1)):=⟨rfl,rfl,rfl,by decide +kernel,rfl,by decide +kernel,by decide +kernel⟩
theorem ok_bell_for {f f1:Addr}{fd fd1:FuncData} (F:Fun K "bell_for" "bell_for" (bD 1) f fd) (T:Txt mg) (G_one_on:Callee P w K mg base "one_on" ["target","size"] 1 (spOneOn K) f1 fd1):FnOk P w K mg base CX0 2 f fd ["ticks"] (spBell K):=by
 refine F.ok sc_bell_for (fun vs H Q E h=>?_) (fun cdv A outer s H vs Q E hr h=>?_)
 ·obtain⟨a,S,rfl,_⟩:=h;rfl
 ·obtain⟨a,S,rfl,ha,h11,k⟩:=h
  have sc:=sc_bell_for
  refine⟨_,(aE (ps_par (i:=1) (j:=2) rfl sc.nd rfl rfl (by decide) rfl rfl (aA pe_bell0 (aA (dA aB) aB)) rfl)
   (aE (d9 PassesOwn.never rfl (pi_enumK (K:=K) rfl rfl T.b_enumerate (aA (pv 0) aB)) (cD (K:=K) (n:=2) rfl rfl (aL (aJ (i:=3) sc.nd rfl (Or.inl rfl)) (aL (aJ (i:=4) sc.nd rfl (Or.inl rfl)) bY))) (aE (ps_expr (pe_bmK (K:=K) rfl PySem.F.plainAttrs_list PySem.F.slot_list_append PySem.F.type_list_append cI (pv 1) (aA (pe_t6 (pv 4) (pv 4) (pcG G_one_on hr (aA aD (aA (pv 4) aB))) bT pe_non (pe_shut (pv 3))) aB)))
   (aI (ps_expr (pe_bmK (K:=K) rfl PySem.F.plainAttrs_list PySem.F.slot_list_append PySem.F.type_list_append cI (pv 2) (aA (pe_t3 (b9 op_add (pv 3) aD) aD bT) aB))))))
   (aI (aS (pe_t2 (cA (call_tupK (K:=K) rfl) rfl T.b_tuple bV (aA (pv 1) aB)) (cA (call_tupK (K:=K) rfl) rfl T.b_tuple bV (aA (pv 2) aB))))))),?_⟩
  have nl:(natV S).length=S.length:=by unfold natV;rw[List.length_map]
  refine⟨(show 2≤sizeLine by decide),fun e1 he1=>⟨(show 1≤sizeLine by decide),fun e2 he2=>⟨Nat.zero_le _,fun e3 he3=>⟨(show 6≤sizeLine by decide),fun e4 he4=>⟨(show 1≤sizeLine by decide),fun vl hvl=>⟨Nat.zero_le _,fun pl hpl=>⟨_,_,rfl,?_⟩⟩⟩⟩⟩⟩⟩
  have s1:=aG.new (o:=HO.tup [.non,.int 1]) he1
  have q1:bL K (upd H e1 (.tup [.non,.int 1])) e1 _:=bL.of aC
  generalize upd H e1 (.tup [.non,.int 1])=H1 at *
  have s2:=aG.new (o:=HO.tup [.ref e1]) he2
  have q2:bL K (upd H1 e2 (.tup [.ref e1])) e2 _:=bL.of aC
  generalize upd H1 e2 (.tup [.ref e1])=H2 at *
  have s3:=aG.new (o:=HO.tup []) he3
  have q3:bL K (upd H2 e3 (.tup [])) e3 _:=bL.of aC
  generalize upd H2 e3 (.tup [])=H3 at *
  have s4:=aG.new (o:=HO.tup [.int 1,.int 1,.ref e2,.bl false,.non,.ref e3]) he4
  have q4:bL K (upd H3 e4 (.tup [.int 1,.int 1,.ref e2,.bl false,.non,.ref e3])) e4 _:=bL.of aC
  generalize upd H3 e4 (.tup [.int 1,.int 1,.ref e2,.bl false,.non,.ref e3])=H4 at *
  have i4:Is K H4 (vsD (oneV none 1 [])) (.ref e4):=Is.tupOf (ds:=[.int 1,.int 1,.tup [.tup [.non,.int 1]],.bl false,.non,.tup []]) q4 (.cons (Is.i _) (.cons (Is.i _) (.cons (Is.tupOf (ds:=[.tup [.non,.int 1]]) ((s3.trans s4).tup q2) (.cons (Is.tupOf (ds:=[.non,.int 1]) (((s2.trans s3).trans s4).tup q1) (.cons Is.n (.cons (Is.i _) .nil))) .nil)) (.cons (Is.b _) (.cons Is.n (.cons (Is.tupOf (ds:=[]) (s4.tup q3) .nil) .nil))))))
  have s04:=((s1.trans s2).trans s3).trans s4
  clear s1 s2 s3 s4 q1 q2 q3 q4 he1 he2 he3 he4
  have fv:H vl=none:=s04.free hvl
  have s5:=aG.new (o:=HO.lst [.ref e4]) hvl
  have g5:upd H4 vl (.lst [.ref e4]) vl=some (.lst [.ref e4]):=aC
  generalize upd H4 vl (.lst [.ref e4])=H5 at *
  have fp:H pl=none:=(s04.trans s5).free hpl
  have npv:vl≠pl:=aP g5 hpl
  have s6:=aG.new (o:=HO.lst []) hpl
  have g6:upd H5 pl (.lst []) pl=some (.lst []):=aC
  generalize upd H5 pl (.lst [])=H6 at *
  have s06:=(s04.trans s5).trans s6
  refine⟨_,rfl,false,a,rfl,⟨_,bX.of (s06 _ _ ha)⟩,for_enum (K:=K) (t:=false) (a:=a) (xs:=natV S)
   (fun i σ' H'=>aG H H'∧(∃ r,H' vl=some (.lst r)∧IsL K H' ((oneV none 1 []::(belL 0 S).take i).map vsD) r)∧(∃ r,H' pl=some (.lst r)∧IsL K H' (((belP 0 S).take i).map spD) r)∧∃ v3 v4,σ'=[some (.ref a),some (.ref vl),some (.ref pl),v3,v4])
   (fun i σ' H' p=>bX.of (p.1 _ _ ha)) ⟨s06,⟨_,s6 _ _ g5,.cons (Is.mono (s5.trans s6).ts _ _ i4) .nil⟩,⟨[],g6,.nil⟩,none,none,rfl⟩ ?_ ?_⟩
  rotate_left
  ·rintro i x0 σ' H2 Tt hx0 ⟨sm2,⟨r,hr2,lr⟩,⟨rp,hp2,lp⟩,v3,v4,rfl⟩ hT
   unfold natV at hx0
   rw[List.getElem?_map] at hx0
   obtain⟨sz,hsz,rfl⟩:=Option.map_eq_some_iff.mp hx0
   have hil:=(List.getElem?_eq_some_iff.mp hsz).1
   have smT:=aG.new (o:=HO.tup [.int (i:Int),.int (sz:Int)]) hT
   refine⟨Tt,_,rfl,bL.of aC,rfl,_,_,rfl,_,_,rfl,rfl,?_⟩
   have hr3:=smT _ _ hr2
   have hp3:=smT _ _ hp2
   have lr3:=L2.IsL.mono smT.ts _ _ lr
   have lp3:=L2.IsL.mono smT.ts _ _ lp
   have s3:=sm2.trans smT
   generalize upd H2 Tt (.tup [.int (i:Int),.int (sz:Int)])=H3 at hr3 lr3 hp3 lp3 s3 ⊢
   clear smT hr2 lr hp2 lp sm2 hT
   refine⟨_,rfl,.inl ⟨rfl,_,bX.of hr3⟩,_,rfl,_,rfl,_,rfl,some 0,sz,rfl,fun p H4 s4 ip=>⟨_,rfl,(show 2≤sizeLine by decide),fun e1 he1=>⟨(show 1≤sizeLine by decide),fun e2 he2=>⟨(show 6≤sizeLine by decide),fun e3 he3=>?_⟩⟩⟩⟩
   have s5:=aG.new (o:=HO.tup [.str "shut",.int (i:Int)]) he1
   have q5:bL K (upd H4 e1 (.tup [.str "shut",.int (i:Int)])) e1 _:=bL.of aC
   generalize upd H4 e1 (.tup [.str "shut",.int (i:Int)])=H5 at s5 q5 he2 he3 ⊢
   have s6:=aG.new (o:=HO.tup [.ref e1]) he2
   have q6:bL K (upd H5 e2 (.tup [.ref e1])) e2 _:=bL.of aC
   generalize upd H5 e2 (.tup [.ref e1])=H6 at s6 q6 he3 ⊢
   have s7:=aG.new (o:=HO.tup [.int (sz:Int),.int (sz:Int),p,.bl false,.non,.ref e2]) he3
   have q7:bL K (upd H6 e3 (.tup [.int (sz:Int),.int (sz:Int),p,.bl false,.non,.ref e2])) e3 _:=bL.of aC
   generalize upd H6 e3 (.tup [.int (sz:Int),.int (sz:Int),p,.bl false,.non,.ref e2])=H7 at s7 q7 ⊢
   have s37:=((s4.trans s5).trans s6).trans s7
   have hr7:=s37 _ _ hr3
   have hp7:=s37 _ _ hp3
   have iv:Is K H7 (vsD (belV i sz)) (.ref e3):=Is.tupOf (ds:=[.int (sz:Int),.int (sz:Int),.tup ((d3 (some 0) sz).map outD),.bl false,.non,.tup [actD ("shut",(i:Int))]]) q7
    (.cons (Is.i _) (.cons (Is.i _) (.cons (Is.mono ((s5.trans s6).trans s7).ts _ _ ip) (.cons (Is.b _) (.cons Is.n (.cons (Is.tupOf (ds:=[actD ("shut",(i:Int))]) (s7.tup q6) (.cons (Is.tupOf (ds:=[.str "shut",.int (i:Int)]) ((s6.trans s7).tup q5) (.cons (Is.s _) (.cons (Is.i _) .nil))) .nil)) .nil))))))
   have lr7:=L2.IsL.mono s37.ts _ _ lr3
   have lp7:=L2.IsL.mono s37.ts _ _ lp3
   have s07:=s3.trans s37
   clear s4 s5 s6 s7 q5 q6 q7 ip s37 lr3 lp3 hr3 hp3 he1 he2 he3 s3
   have hrl:r.length≤12:=by rw[lr7.length,List.length_map,List.length_cons,List.length_take];omega
   have hpl':rp.length≤11:=by rw[lp7.length,List.length_map,List.length_take];omega
   refine⟨vl,_,_,rfl,rfl,hr7,aW (by omega),?_⟩
   have mu:Mut (H7 vl):=by rw[hr7];exact trivial
   have ts:bW K H7 (upd H7 vl (.lst (r++[.ref e3]))):=But.ts But.upd mu
   have hr8:upd H7 vl (.lst (r++[.ref e3])) vl=some (.lst (r++[.ref e3])):=aC
   have hp8:upd H7 vl (.lst (r++[.ref e3])) pl=some (.lst rp):=by rw[aO (Ne.symm npv)];exact hp7
   have s08:aG H (upd H7 vl (.lst (r++[.ref e3]))):=s07.put fv
   have lr8:IsL K (upd H7 vl (.lst (r++[.ref e3]))) ((oneV none 1 []::(belL 0 S).take (i+1)).map vsD) (r++[.ref e3]):=by
    have hat:=belL_at S 0 i sz hsz
    rw[Nat.zero_add] at hat
    rw[take_snoc hat,← List.cons_append,List.map_append]
    exact L2.IsL.snoc (Is.mono ts _ _ iv) (L2.IsL.mono ts _ _ lr7)
   have lp8:=L2.IsL.mono ts _ _ lp7
   generalize upd H7 vl (.lst (r++[.ref e3]))=H8 at hr8 hp8 s08 lr8 lp8 ⊢
   clear ts mu lr7 lp7 hr7 hp7 iv s07
   refine⟨_,rfl,.inl ⟨rfl,_,bX.of hp8⟩,_,rfl,_,_,rfl,rfl,(show 3≤sizeLine by decide),fun e he=>?_⟩
   have s9:=aG.new (o:=HO.tup [.int ((i:Int)+1),.int 1,.bl true]) he
   have q9:bL K (upd H8 e (.tup [.int ((i:Int)+1),.int 1,.bl true])) e _:=bL.of aC
   generalize upd H8 e (.tup [.int ((i:Int)+1),.int 1,.bl true])=H9 at s9 q9 ⊢
   have hp9:=s9 _ _ hp8
   have mu:Mut (H9 pl):=by rw[hp9];exact trivial
   have ts:bW K H9 (upd H9 pl (.lst (rp++[.ref e]))):=But.ts But.upd mu
   refine⟨pl,_,_,rfl,rfl,hp9,aW (by omega),(s08.trans s9).put fp,⟨_,by rw[aO npv];exact s9 _ _ hr8,L2.IsL.mono (s9.ts.trans ts) _ _ lr8⟩,⟨_,aC,?_⟩,_,_,rfl⟩
   have hat:=belP_at S 0 i sz hsz
   rw[Nat.zero_add] at hat
   rw[take_snoc hat,List.map_append]
   refine L2.IsL.snoc (Is.mono ts _ _ ?_) (L2.IsL.mono (s9.ts.trans ts) _ _ lp8)
   exact Is.tupOf (ds:=[.int ((i:Int)+1),.int 1,.bl true]) q9 (.cons (Is.i _) (.cons (Is.i _) (.cons (Is.b _) .nil)))
  rintro σ' H2 ⟨sm2,⟨r,hr2,lr⟩,⟨rp,hp2,lp⟩,v3,v4,rfl⟩
  rw[nl,List.take_of_length_le (by rw[belL_len];exact Nat.le_refl _)] at lr
  rw[nl,List.take_of_length_le (by rw[belP_len];exact Nat.le_refl _)] at lp
  refine⟨_,rfl,vl,_,rfl,.inl ⟨bX.of hr2,fun q1 hq1=>⟨_,rfl,pl,_,rfl,.inl ⟨bX.of (aG.new hq1 _ _ hp2),fun q2 hq2=>⟨(show 2≤sizeLine by decide),fun q3 hq3=>?_⟩⟩⟩⟩⟩
  have m1:=aG.new (o:=HO.tup r) hq1
  have m2:=aG.new (o:=HO.tup rp) hq2
  have m3:=aG.new (o:=HO.tup [.ref q1,.ref q2]) hq3
  refine k _ _ (((sm2.trans m1).trans m2).trans m3) ?_
  exact Is.tupOf (ds:=[.tup ((oneV none 1 []::belL 0 S).map vsD),.tup ((belP 0 S).map spD)]) (bL.of aC) (.cons (Is.tupOf ((m2.trans m3).tup (bL.of aC)) (L2.IsL.mono ((m1.trans m2).trans m3).ts _ _ lr)) (.cons (Is.tupOf (m3.tup (bL.of aC)) (L2.IsL.mono ((m1.trans m2).trans m3).ts _ _ lp)) .nil))
end
end Tw
namespace Tw
open PySem L2
theorem natV_ints (S:List Nat):natV S=(S.map fun (i:Nat)=>(i:Int)).map V.int:=by unfold natV;rw[List.map_map];rfl
theorem rises_nat {S:List Nat}{ms:List Int} (h:Rises (S.map fun (i:Nat)=>(i:Int)) ms):∃ T:List Nat,ms.map V.int=natV T∧T.Pairwise (· < ·)∧(∀ x,x∈T↔x∈S)∧T.length=ms.length:=by
 have nn:∀ x∈ms,∃ i:Nat,i∈S∧x=(i:Int):=fun x hx=>by
  obtain⟨i,hi,rfl⟩:=List.mem_map.1 ((h.mem x).1 hx)
  exact⟨i,hi,rfl⟩
 refine⟨ms.map Int.toNat,?_,?_,fun x=>⟨fun hx=>?_,fun hx=>?_⟩,List.length_map _⟩
 ·unfold natV
  rw[List.map_map]
  apply List.map_congr_left
  intro x hx
  obtain⟨i,_,rfl⟩:=nn x hx
  rfl
 ·rw[List.pairwise_map]
  refine h.up.imp_of_mem fun {a b} ha hb hab=>?_
  obtain⟨i,_,rfl⟩:=nn a ha
  obtain⟨j,_,rfl⟩:=nn b hb
  omega
 ·obtain⟨y,hy,rfl⟩:=List.mem_map.1 hx
  obtain⟨i,hi,rfl⟩:=nn y hy
  exact hi
 ·exact List.mem_map.2 ⟨(x:Int),(h.mem _).2 (List.mem_map.2 ⟨x,hx,rfl⟩),by omega⟩
section
variable {P:Program}{w:World}{K:PySem.W.Frag}{mg:Str→Option Value}{base:Heap}
theorem sc_law:FnScope ["script","tape","turn","some","ticks","handed","net","far","states","tips"] ["script"] (aK (bD 30)):=⟨rfl,rfl,rfl,by decide +kernel,rfl,by decide +kernel,by decide +kernel⟩
theorem ok_law {f f1 f2 f3 f4 f5 f6:Addr}{fd fd1 fd2 fd3 fd4 fd5 fd6:FuncData} (F:Fun K "law" "law" (bD 30) f fd) (T:Txt mg)
  (G__law_draw:Callee P w K mg base "_law_draw" ["tape","many"] 1 spDraw f1 fd1)
  (G_bell_for:Callee P w K mg base "bell_for" ["ticks"] 2 (spBell K) f2 fd2)
  (G_is_net:Callee P w K mg base "is_net" ["thing"] 4 (spIsNet K) f3 fd3)
  (G__law_is_net:Callee P w K mg base "_law_is_net" ["thing"] 3 (spIsNet K) f4 fd4)
  (G__law_round:Callee P w K mg base "_law_round" ["net"] 3 (spRoundL K) f5 fd5)
  (G__law_walk:Callee P w K mg base "_law_walk" ["net","ticks","fast"] 3 (spWalk K) f6 fd6):FnOk P w K mg base CX0 7 f fd ["script"] (spLaw K):=by
 refine F.ok sc_law (fun vs H Q E h=>?_) (fun cdv A outer s H vs Q E hr h=>?_)
 ·obtain⟨a,ns,rfl,_⟩:=h;rfl
 ·obtain⟨a,ns,rfl,hS,hlen,k⟩:=h
  have sc:=sc_law
  refine⟨_,(aE (bF (i:=1) sc.nd rfl (Or.inr rfl) (dA (aA (cA (call_lstK (K:=K) rfl) rfl T.b_list bt_list (aA (pv 0) aB)) (aA aD (aA aD aB)))))
   (aE (d9 PassesOwn.never rfl (cH rfl T.b_range (aA aD aB)) (aJ (i:=2) sc.nd rfl (Or.inl rfl)) (aE (ps_set_lc (i:=3) sc.nd rfl rfl (fun _ _ h=>h) rfl (LcOk.mk (N':=["k","tape"]) (fr:=[none,some 1]) rfl ⟨rfl,trivial⟩ rfl rfl rfl rfl rfl ⟨⟨_,rfl,rfl,rfl,rfl⟩,trivial⟩) (cH rfl T.b_range (aA (b9 op_add aD (pcG G__law_draw hr (aA (pv 1) (aA aD aB)))) aB)) (fun _ _ _=>(aJ (i:=0) (show (["k","tape"]:List Str).Nodup by decide +kernel) rfl (Or.inl rfl) (Or.inr rfl))) (fun _ _ _=>pif_nil) (fun _ _ _=>(b9 op_add aD (pcG G__law_draw hr (aA (pv 1) (aA (aM (aF (K:=K) rfl) (dA (aA aD (aA aD aB))) (pcG G__law_draw hr (aA (pv 1) (aA aD aB))) (fun _ _=>rfl)) aB))))))
   (aE (bF (i:=4) sc.nd rfl (Or.inl rfl) (aH (call_srtK (P:=P) (w:=w) rfl rfl rfl) rfl T.b_sorted PyProof.Rows.boot_sorted (aA (cA (call_setK (P:=P) (w:=w) (K:=K) rfl rfl rfl rfl) rfl T.b_set boot_setT (aA (pv 3) aB)) aB)))
   (aE (bF (i:=5) sc.nd rfl (Or.inl rfl) (cA (call_lstK (K:=K) rfl) rfl T.b_list bt_list (aA (pv 4) aB)))
   (aE (bF (i:=6) sc.nd rfl (Or.inl rfl) (pcG G_bell_for hr (aA (pv 5) aB)))
   (aE (bS (PW.pt (cW (bG (op_neGK (K:=K) rfl hr.units) (pv 5) (pv 4) (bP _)) (cW (bG op_notB (pcG G_is_net hr (aA (pv 6) aB)) bT (bP _)) (cR (aZ (b7 (pcG G__law_is_net hr (aA (pv 6) aB)))))))) (aI (aS bT)) aT)
   (aE (bF (i:=7) sc.nd rfl (Or.inl rfl) (aH (call_max2 rfl) rfl T.b_max PyProof.Rows.boot_max (aA aD (aA (aH (call_sumK (K:=K) rfl rfl) rfl T.b_sum PyProof.Rows.boot_sum (aA (pe_orT (K:=K) rfl (pcG G__law_round hr (aA (pv 6) aB)) (pe_one (bO (aA aD (aA aD aB))))) aB)) aB))))
   (aE (ps_asg (pcG G__law_walk hr (aA (pv 6) (aA (pv 7) (aA pe_non aB)))) (pg_lstK (K:=K) (n:=2) rfl rfl (aL (aJ (i:=8) sc.nd rfl (Or.inl rfl)) (aL (aJ (i:=9) sc.nd rfl (Or.inr rfl)) bY))))
   (aI (bS (bG (op_neGK (K:=K) rfl hr.units) (pe_lc (fun _ _ h=>h) rfl (LcOk.mk (N':=["tick","tips"]) (fr:=[none,some 9]) rfl ⟨rfl,trivial⟩ rfl rfl rfl rfl rfl ⟨⟨_,rfl,rfl,rfl,rfl⟩,trivial⟩) (cH rfl T.b_range (aA (pv 7) aB)) (fun _ _ _=>(aJ (i:=0) (show (["tick","tips"]:List Str).Nodup by decide +kernel) rfl (Or.inl rfl) (Or.inr rfl))) (fun _ _ _=>pif_one (bG (op_inK (K:=K) rfl) aD (aM (aF (K:=K) rfl) (pv 1) (pv 0) (fun _ _=>rfl)) (by rfl))) (fun _ _ _=>(pv 0))) (pv 4) (bP _)) (aI (aS bT)) aT))))))))))
   (aI (aS bT)))),?_⟩
  refine⟨_,rfl,a,_,rfl,.inl hS,fun sl hsl=>⟨(show 3≤sizeLine by decide),fun t ht=>?_⟩⟩
  have nst:sl≠t:=aP (show upd H sl (.lst (ns.map V.int)) sl=_ from aC) ht
  have tp0:Tape (upd (upd H sl (.lst (ns.map V.int))) t (.lst [.ref sl,.int 0,.int 0])) t sl:=⟨ns,0,0,aC,by rw[aO nst];exact aC,by omega⟩
  generalize upd (upd H sl (.lst (ns.map V.int))) t (.lst [.ref sl,.int 0,.int 0])=H0 at tp0
  clear ht hsl hS
  refine⟨_,rfl,by decide,by decide,?_⟩
  refine for_range (lo:=0) (n:=4) (fun _ σ' H'=>Tape H' t sl∧∃ v2 v3 v4 v5 v6 v7 v8 v9,σ'=[some (.ref a),some (.ref t),v2,v3,v4,v5,v6,v7,v8,v9])
   ⟨tp0,_,_,_,_,_,_,_,_,rfl⟩ ?_ ?_
  rotate_left
  ·rintro σ' H' _
   exact k _
  rintro turn σ' H1 _ ⟨tp1,v2,v3,v4,v5,v6,v7,v8,v9,rfl⟩
  dsimp only [gName,tNext]
  refine seq_by (fun σ' H'=>Tape H' t sl∧∃ (sm:Addr) (S:List Nat),sm≠t∧H' sm=some (.lst (natV S))∧S.length≤11∧(∀ s∈S,1≤s∧s≤60)∧σ'=[some (.ref a),some (.ref t),some (.int (0+(turn:Int))),some (.ref sm),v4,v5,v6,v7,v8,v9]) (fun D' hD=>?_) ?_
  ·refine⟨_,rfl,t,sl,_,rfl,tp1,by decide,by decide,fun r H2 b2 t2 r0 r1=>⟨_,_,rfl,rfl,?_⟩⟩
   obtain⟨n,hn⟩:∃ n:Nat,(1:Int)+r=(n:Int):=⟨(1+r).toNat,by omega⟩
   refine⟨_,rfl,by omega,by omega,?_⟩
   rw[show ((1:Int)+r).toNat=n by omega]
   refine lc_range (n:=n) (fun D i r σ' H'=>Tape H' t sl∧D≠t∧D≠sl∧H' D=some (.lst r)∧(∃ S:List Nat,r=natV S∧S.length=i∧∀ s∈S,1≤s∧s≤60)∧∃ u,σ'=[u,some (.ref t)])
    (fun D hD=>?_) ?_ ?_
   ·have n1:D≠t:=fun z=>by obtain⟨o,e⟩:=t2.some;rw[← z,hD] at e;cases e
    exact⟨t2.put n1 (t2.ne_sl hD),n1,t2.ne_sl hD,aC,⟨[],rfl,rfl,fun s hs=>(nomatch hs)⟩,none,rfl⟩
   rotate_left
   ·rintro D i r σ' H3 hi ⟨tp3,n1,n2,hDl,⟨S,rfl,hSl,hS⟩,u,rfl⟩
    refine dC ?_
    refine⟨_,rfl,(show 2≤sizeLine by decide),fun l1 hl1=>⟨_,rfl,t,sl,_,rfl,tp3.same (aG.new hl1),by decide,by decide,fun r3 H4 b4 t4 r30 r31=>?_⟩⟩
    have nl1:l1≠t:=fun z=>by obtain⟨o,e⟩:=tp3.some;rw[← z,hl1] at e;cases e
    have h4:=b4 l1 _ nl1 aC
    have hD4:=b4 D _ n1 (aG.new hl1 _ _ hDl)
    obtain⟨m,hm,hm1,hm2⟩:∃ m:Int,atI [V.int 12,.int 60] r3=some (.int m)∧1≤m∧m≤60:=by
     rcases (show r3=0∨r3=1 by omega) with e | e <;> subst e
     ·exact⟨12,rfl,by decide,by decide⟩
     ·exact⟨60,rfl,by decide,by decide⟩
    refine .inl ⟨l1,_,r3,_,rfl,rfl,bX.of h4,hm,t,sl,_,rfl,t4,by omega,by omega,fun r H5 b5 t5 r0 r1=>⟨_,_,rfl,rfl,b5 _ _ n1 hD4,aW (by unfold natV;rw[List.length_map];omega),t5.put n1 n2,n1,n2,aC,⟨S++[(1+r).toNat],?_,by simp [hSl],fun s hs=>?_⟩,_,rfl⟩⟩
    ·unfold natV
     rw[List.map_append,List.map_cons,List.map_nil,show (((1+r).toNat:Nat):Int)=1+r by omega]
    ·rcases List.mem_append.1 hs with z | z
     ·exact hS s z
     ·have:=List.mem_singleton.1 z
      subst this
      omega
   rintro D r' σ' H3 ⟨tp3,n1,n2,hDl,⟨S,rfl,hSl,hS⟩,_⟩
   exact hD _ _ ⟨tp3,D,S,n1,hDl,by omega,hS,rfl⟩
  clear tp1
  rintro σ' H1 ⟨tp1,sm,S0,nsm,hsm,h110,hb0,rfl⟩
  refine seq_by (fun σ' H'=>Tape H' t sl∧∃ (tl:Addr) (S:List Nat),H' tl=some (.lst (natV S))∧S.length≤11∧S.Pairwise (· < ·)∧(∀ s∈S,1≤s∧s≤60)∧σ'=[some (.ref a),some (.ref t),some (.int (0+(turn:Int))),some (.ref sm),some (.ref tl),v5,v6,v7,v8,v9]) (fun D' hD=>?_) ?_
  ·rw[natV_ints] at hsm
   have ln0:(S0.map fun (i:Nat)=>(i:Int)).length=S0.length:=List.length_map _
   have dl:=ddL_len (S0.map fun (i:Nat)=>(i:Int))
   refine⟨_,rfl,sm,S0.map fun (i:Nat)=>(i:Int),rfl,bX.of hsm,by omega,fun sa hsa=>⟨sa,_,rfl,aC,by omega,fun l ms hl pm pw=>?_⟩⟩
   obtain⟨S,e1,e2,e3,e4⟩:=rises_nat (rises_of pm pw)
   refine hD _ _ ⟨tp1.same ((aG.new hsa).trans (aG.new hl)),l,S,?_,?_,e2,fun s hs=>hb0 s ((e3 s).1 hs),rfl⟩
   ·rw[aC,e1]
   ·rw[e4,pm.length_eq];omega
  clear tp1
  rintro σ' H1 ⟨tp1,tl,S,htl,h11,up,hb,rfl⟩
  clear hsm hb0 h110
  have h1:∀ s∈S,1≤s:=fun s hs=>(hb s hs).1
  have okN:=bel_ok h11 hb
  have fuN:=bel_full hb
  refine⟨_,rfl,tl,_,rfl,.inl (bX.of htl),fun hl hhl=>?_⟩
  have s2:=aG.new (o:=HO.lst (natV S)) hhl
  have hh2:upd H1 hl (.lst (natV S)) hl=some (.lst (natV S)):=aC
  generalize upd H1 hl (.lst (natV S))=H2 at s2 hh2
  refine⟨_,rfl,hl,S,rfl,hh2,h11,fun x H3 s3 ix=>?_⟩
  have s13:=s2.trans s3
  have tp3:=tp1.same s13
  have htl3:=s13 _ _ htl
  have hh3:=s3 _ _ hh2
  clear s2 s3 s13 hh2 htl tp1 hhl
  dsimp only [gName,tNext]
  refine seq_by (fun σ' H'=>aG H3 H'∧σ'=[some (.ref a),some (.ref t),some (.int (0+(turn:Int))),some (.ref sm),some (.ref tl),some (.ref hl),some x,v7,v8,v9]) (fun D' hD=>?_) ?_
  ·refine⟨_,rfl,_,rfl,.lst (S.map fun (i:Nat)=>G.int (i:Int)),.lst (S.map fun (i:Nat)=>G.int (i:Int)),by rw[depG,dep_nat10];decide,aR.l (bX.of hh3) (gl_nat10 S),aR.l (bX.of htl3) (gl_nat10 S),_,rfl,?_⟩
   rw[eqG_refl]
   refine bQ ⟨_,rfl,x,bR S,rfl,ix,okN,fuN,fun H4 s4=>⟨true,true,rfl,rfl,_,rfl,bQ ?_⟩⟩
   exact⟨_,rfl,x,bR S,rfl,Is.mono s4.ts _ _ ix,okN,fuN,fun H5 s5=>⟨_,rfl,bQ (hD _ _ ⟨s4.trans s5,rfl⟩)⟩⟩
  rintro σ' H4 ⟨s4,rfl⟩
  have tp4:=tp3.same s4
  have htl4:=s4 _ _ htl3
  have ix4:=Is.mono s4.ts _ _ ix
  clear tp3 htl3 hh3 ix s4
  refine seq_by (fun σ' H'=>aG H4 H'∧∃ far:Nat,400≤far∧far≤2000∧σ'=[some (.ref a),some (.ref t),some (.int (0+(turn:Int))),some (.ref sm),some (.ref tl),some (.ref hl),some x,some (.int (far:Int)),v8,v9]) (fun D' hD=>?_) ?_
  ·have fin:∀ (u:Int) (H':Hp),0≤u→u≤2000→aG H4 H'→D'.nx [some (.ref a),some (.ref t),some (.int (0+(turn:Int))),some (.ref sm),some (.ref tl),some (.ref hl),some x,some (.int (if u > 400 then u else 400)),v8,v9] H':=fun u H' u0 u1 sH=>by
    obtain⟨far,hf⟩:∃ far:Nat,(if u > 400 then u else 400)=(far:Int):=⟨(if u > 400 then u else 400).toNat,by split <;> omega⟩
    rw[hf]
    exact hD _ _ ⟨sH,far,by split at hf <;> omega,by split at hf <;> omega,rfl⟩
   refine⟨_,rfl,x,bR S,rfl,ix4,okN,fun tt j p H' hrep sH q=>?_,fun hL H' sH=>?_⟩
   ·obtain⟨aa,rfl,rnd⟩:=hrep.rnd
    have hlt:=rnd.lt
    have hle:=rnd.le
    refine⟨true,.inr (.inl ⟨_,q,rfl⟩),iteT ⟨true,p,[(aa:Int),(tt:Int) - (aa:Int)],rfl,q,_,_,rfl,?_⟩⟩
    have es:([(aa:Int),(tt:Int) - (aa:Int)]:List Int).sum=(tt:Int):=by simp;omega
    rw[es]
    exact fin _ _ (by omega) (by omega) sH
   ·refine⟨false,rfl,bQ ⟨(show 2≤sizeLine by decide),fun e he=>⟨true,e,[0,0],rfl,bL.of aC,_,_,rfl,?_⟩⟩⟩
    exact fin 0 _ (by decide) (by decide) (sH.trans (aG.new he))
  rintro σ' H5 ⟨s5,far,hf1,hf2,rfl⟩
  have tp5:=tp4.same s5
  have htl5:=s5 _ _ htl4
  have ix5:=Is.mono s5.ts _ _ ix4
  clear tp4 htl4 ix4 s5
  refine⟨_,rfl,_,rfl,x,bR S,none,far,rfl,ix5,okN,by rw[stickN_none];exact okN,by omega,fun l p1 p2 sts tvs H6 s6 hl6 h16 ls h26 lt fl f1' f2'=>?_⟩
  rw[stickN_none] at lt
  refine⟨l,_,rfl,bX.of hl6,rfl,_,_,rfl,_,_,rfl,rfl,?_⟩
  have tp6:=tp5.same s6
  have htl6:=s6 _ _ htl5
  clear tp5 htl5 ix5 s6 hl6 h16 ls fl f1' f2'
  refine⟨_,rfl,_,rfl,by omega,by omega,?_⟩
  rw[show ((far:Nat):Int).toNat=far by omega]
  refine lc_range (n:=far) (fun D j r σ' H'=>H6 D=none∧aG H6 H'∧H' D=some (.lst r)∧r=natV (tipsOf (bR S) j 0)∧∃ u,σ'=[u,some (.ref p2)])
   (fun D hD=>⟨hD,aG.new hD,aC,rfl,none,rfl⟩) ?_ ?_
  rotate_left
  ·rintro D j r σ' H7 hj ⟨hD,sm7,hDl,rfl,u,rfl⟩
   obtain⟨ta,hta,qta⟩:=tipLD_at (L2.IsL.mono sm7.ts _ _ lt) hj
   refine⟨_,rfl,_,rfl,.inl ⟨p2,_,_,_,rfl,rfl,bX.of (sm7 _ _ h26),cF hta,ta,_,rfl,.inr qta,rfl,flat_tip _,_,rfl,?_⟩⟩
   rw[if_neg Bool.false_ne_true,show inV (.int 0) (natV (tipAt (bR S) j))=_ from inV_tip 0 _]
   have hs:=tipsOf_succ (bR S) j 0
   have hln:=tipsOf_len (bR S) j 0
   refine ite2 (fun hT=>?_) (fun hF=>?_)
   ·rw[if_pos (of_decide_eq_true hT)] at hs
    refine⟨_,rfl,hDl,small1W (by unfold natV;rw[List.length_map];omega),hD,sm7.put hD,aC,?_,_,rfl⟩
    rw[hs];unfold natV;rw[List.map_append];rfl
   ·rw[if_neg (fun e=>hF (decide_eq_true e)),List.append_nil] at hs
    exact⟨hD,sm7,hDl,by rw[hs],_,rfl⟩
  rintro D r σ' H7 ⟨hD,sm7,hDl,rfl,_⟩
  rw[bel_rings h1 up (fun s hs=>by have:=(hb s hs).2;omega)] at hDl
  refine⟨_,rfl,.lst (S.map fun (i:Nat)=>G.int (i:Int)),.lst (S.map fun (i:Nat)=>G.int (i:Int)),by rw[depG,dep_nat10];decide,aR.l (bX.of hDl) (gl_nat10 S),aR.l (bX.of (sm7 _ _ htl6)) (gl_nat10 S),_,rfl,?_⟩
  rw[eqG_refl]
  exact bQ ⟨tp6.same sm7,_,_,_,_,_,_,_,_,rfl⟩
end
end Tw
namespace Tw
open PySem L2
theorem by_len1 {α:Type}{p:List α→Prop} (h:∀ a0,p [a0]):∀ us:List α,us.length=1→p us
 | [a0],_=>h a0
theorem by_len2 {α:Type}{p:List α→Prop} (h:∀ a0 a1,p [a0,a1]):∀ us:List α,us.length=2→p us
 | [a0,a1],_=>h a0 a1
theorem by_len3 {α:Type}{p:List α→Prop} (h:∀ a0 a1 a2,p [a0,a1,a2]):∀ us:List α,us.length=3→p us
 | [a0,a1,a2],_=>h a0 a1 a2
theorem by_len4 {α:Type}{p:List α→Prop} (h:∀ a0 a1 a2 a3,p [a0,a1,a2,a3]):∀ us:List α,us.length=4→p us
 | [a0,a1,a2,a3],_=>h a0 a1 a2 a3
theorem all_mk {l:PySem.W.OpenLaw}{w:World}{K:PySem.W.Frag}{h:Heap}{mg:Str→Option Value}{fa f0 f1 f2 f3 f4 f5 f6 f7 f8 f9 f10 f11 f12 f13 f14 f15 f16 f17 f18 aw:Addr} (X:K.In h) (G:h.Ns mainGlobals mg) (hfa:mg "law" = some (.ref fa))
  {od0 an0 od1 an1 od2 an2 od3 an3 od4 an4 od5 an5 od6 an6 od7 an7 od8 an8 od9 an9 od10 an10 od11 an11 od12 an12 od13 an13 od14 an14 od15 an15 od16 an16 od17 an17 od18 an18:Option Addr}{sl0 sl1 sl2 sl3 sl4 sl5 sl6 sl7 sl8 sl9 sl10 sl11 sl12 sl13 sl14 sl15 sl16 sl17 sl18:Array (Option Value)}{oc0 kV0 dc0 pm0 cd0 ct0 oc1 kV1 dc1 pm1 cd1 ct1 oc2 kV2 dc2 pm2 cd2 ct2 oc3 kV3 dc3 pm3 cd3 ct3 oc4 kV4 dc4 pm4 cd4 ct4 oc5 kV5 dc5 pm5 cd5 ct5 oc6 kV6 dc6 pm6 cd6 ct6 oc7 kV7 dc7 pm7 cd7 ct7 oc8 kV8 dc8 pm8 cd8 ct8 oc9 kV9 dc9 pm9 cd9 ct9 oc10 kV10 dc10 pm10 cd10 ct10 oc11 kV11 dc11 pm11 cd11 ct11 oc12 kV12 dc12 pm12 cd12 ct12 oc13 kV13 dc13 pm13 cd13 ct13 oc14 kV14 dc14 pm14 cd14 ct14 oc15 kV15 dc15 pm15 cd15 ct15 oc16 kV16 dc16 pm16 cd16 ct16 oc17 kV17 dc17 pm17 cd17 ct17 oc18 kV18 dc18 pm18 cd18 ct18:Value}
  {tk0 tk1 tk2 tk3 tk4 tk5 tk6 tk7 tw1 tw2 tw3:Tok}{odw:Option Addr}{nw:Nat}{slw:Array (Option Value)}
  (a0:PySem.W.nsIn K mainGlobals "_law_draw" = some (some (.ref f0)))
  (l0:K.lookup f0=some ⟨oc0,od0,.func (PySem.W.fnOf "_law_draw" "_law_draw" (bC (bD 21)) (bA (bD 21)) (aK (bD 21)) .none kV0 dc0 pm0 an0 cd0 ct0),sl0⟩)
  (c0:PySem.W.codeIn K cd0 "_law_draw" = true)
  (k0:PySem.W.keepIn K (.ref f0)=true)
  (a1:PySem.W.nsIn K mainGlobals "one_on" = some (some (.ref f1)))
  (l1:K.lookup f1=some ⟨oc1,od1,.func (PySem.W.fnOf "one_on" "one_on" (bC (bD 2)) (bA (bD 2)) (aK (bD 2)) .none kV1 dc1 pm1 an1 cd1 ct1),sl1⟩)
  (c1:PySem.W.codeIn K cd1 "one_on" = true)
  (k1:PySem.W.keepIn K (.ref f1)=true)
  (a2:PySem.W.nsIn K mainGlobals "bell_for" = some (some (.ref f2)))
  (l2:K.lookup f2=some ⟨oc2,od2,.func (PySem.W.fnOf "bell_for" "bell_for" (bC (bD 1)) (bA (bD 1)) (aK (bD 1)) .none kV2 dc2 pm2 an2 cd2 ct2),sl2⟩)
  (c2:PySem.W.codeIn K cd2 "bell_for" = true)
  (k2:PySem.W.keepIn K (.ref f2)=true)
  (a3:PySem.W.nsIn K mainGlobals "is_tuple" = some (some (.ref f3)))
  (l3:K.lookup f3=some ⟨oc3,od3,.func (PySem.W.fnOf "is_tuple" "is_tuple" (bC (bD 18)) (bA (bD 18)) (aK (bD 18)) .none kV3 dc3 pm3 an3 cd3 ct3),sl3⟩)
  (c3:PySem.W.codeIn K cd3 "is_tuple" = true)
  (k3:PySem.W.keepIn K (.ref f3)=true)
  (a4:PySem.W.nsIn K mainGlobals "is_whole" = some (some (.ref f4)))
  (l4:K.lookup f4=some ⟨oc4,od4,.func (PySem.W.fnOf "is_whole" "is_whole" (bC (bD 19)) (bA (bD 19)) (aK (bD 19)) .none kV4 dc4 pm4 an4 cd4 ct4),sl4⟩)
  (c4:PySem.W.codeIn K cd4 "is_whole" = true)
  (k4:PySem.W.keepIn K (.ref f4)=true)
  (a5:PySem.W.nsIn K mainGlobals "is_out" = some (some (.ref f5)))
  (l5:K.lookup f5=some ⟨oc5,od5,.func (PySem.W.fnOf "is_out" "is_out" (bC (bD 15)) (bA (bD 15)) (aK (bD 15)) .none kV5 dc5 pm5 an5 cd5 ct5),sl5⟩)
  (c5:PySem.W.codeIn K cd5 "is_out" = true)
  (k5:PySem.W.keepIn K (.ref f5)=true)
  (a6:PySem.W.nsIn K mainGlobals "is_act" = some (some (.ref f6)))
  (l6:K.lookup f6=some ⟨oc6,od6,.func (PySem.W.fnOf "is_act" "is_act" (bC (bD 16)) (bA (bD 16)) (aK (bD 16)) .none kV6 dc6 pm6 an6 cd6 ct6),sl6⟩)
  (c6:PySem.W.codeIn K cd6 "is_act" = true)
  (k6:PySem.W.keepIn K (.ref f6)=true)
  (a7:PySem.W.nsIn K mainGlobals "is_vessel" = some (some (.ref f7)))
  (l7:K.lookup f7=some ⟨oc7,od7,.func (PySem.W.fnOf "is_vessel" "is_vessel" (bC (bD 14)) (bA (bD 14)) (aK (bD 14)) .none kV7 dc7 pm7 an7 cd7 ct7),sl7⟩)
  (c7:PySem.W.codeIn K cd7 "is_vessel" = true)
  (k7:PySem.W.keepIn K (.ref f7)=true)
  (a8:PySem.W.nsIn K mainGlobals "is_spout" = some (some (.ref f8)))
  (l8:K.lookup f8=some ⟨oc8,od8,.func (PySem.W.fnOf "is_spout" "is_spout" (bC (bD 17)) (bA (bD 17)) (aK (bD 17)) .none kV8 dc8 pm8 an8 cd8 ct8),sl8⟩)
  (c8:PySem.W.codeIn K cd8 "is_spout" = true)
  (k8:PySem.W.keepIn K (.ref f8)=true)
  (a9:PySem.W.nsIn K mainGlobals "is_net" = some (some (.ref f9)))
  (l9:K.lookup f9=some ⟨oc9,od9,.func (PySem.W.fnOf "is_net" "is_net" (bC (bD 13)) (bA (bD 13)) (aK (bD 13)) .none kV9 dc9 pm9 an9 cd9 ct9),sl9⟩)
  (c9:PySem.W.codeIn K cd9 "is_net" = true)
  (k9:PySem.W.keepIn K (.ref f9)=true)
  (a10:PySem.W.nsIn K mainGlobals "_law_whole" = some (some (.ref f10)))
  (l10:K.lookup f10=some ⟨oc10,od10,.func (PySem.W.fnOf "_law_whole" "_law_whole" (bC (bD 22)) (bA (bD 22)) (aK (bD 22)) .none kV10 dc10 pm10 an10 cd10 ct10),sl10⟩)
  (c10:PySem.W.codeIn K cd10 "_law_whole" = true)
  (k10:PySem.W.keepIn K (.ref f10)=true)
  (a11:PySem.W.nsIn K mainGlobals "_law_is_vessel" = some (some (.ref f11)))
  (l11:K.lookup f11=some ⟨oc11,od11,.func (PySem.W.fnOf "_law_is_vessel" "_law_is_vessel" (bC (bD 28)) (bA (bD 28)) (aK (bD 28)) .none kV11 dc11 pm11 an11 cd11 ct11),sl11⟩)
  (c11:PySem.W.codeIn K cd11 "_law_is_vessel" = true)
  (k11:PySem.W.keepIn K (.ref f11)=true)
  (a12:PySem.W.nsIn K mainGlobals "_law_is_net" = some (some (.ref f12)))
  (l12:K.lookup f12=some ⟨oc12,od12,.func (PySem.W.fnOf "_law_is_net" "_law_is_net" (bC (bD 27)) (bA (bD 27)) (aK (bD 27)) .none kV12 dc12 pm12 an12 cd12 ct12),sl12⟩)
  (c12:PySem.W.codeIn K cd12 "_law_is_net" = true)
  (k12:PySem.W.keepIn K (.ref f12)=true)
  (a13:PySem.W.nsIn K mainGlobals "_law_first" = some (some (.ref f13)))
  (l13:K.lookup f13=some ⟨oc13,od13,.func (PySem.W.fnOf "_law_first" "_law_first" (bC (bD 23)) (bA (bD 23)) (aK (bD 23)) .none kV13 dc13 pm13 an13 cd13 ct13),sl13⟩)
  (c13:PySem.W.codeIn K cd13 "_law_first" = true)
  (k13:PySem.W.keepIn K (.ref f13)=true)
  (a14:PySem.W.nsIn K mainGlobals "_law_filled" = some (some (.ref f14)))
  (l14:K.lookup f14=some ⟨oc14,od14,.func (PySem.W.fnOf "_law_filled" "_law_filled" (bC (bD 24)) (bA (bD 24)) (aK (bD 24)) .none kV14 dc14 pm14 an14 cd14 ct14),sl14⟩)
  (c14:PySem.W.codeIn K cd14 "_law_filled" = true)
  (k14:PySem.W.keepIn K (.ref f14)=true)
  (a15:PySem.W.nsIn K mainGlobals "_law_tick" = some (some (.ref f15)))
  (l15:K.lookup f15=some ⟨oc15,od15,.func (PySem.W.fnOf "_law_tick" "_law_tick" (bC (bD 25)) (bA (bD 25)) (aK (bD 25)) .none kV15 dc15 pm15 an15 cd15 ct15),sl15⟩)
  (c15:PySem.W.codeIn K cd15 "_law_tick" = true)
  (k15:PySem.W.keepIn K (.ref f15)=true)
  (a16:PySem.W.nsIn K mainGlobals "_law_round" = some (some (.ref f16)))
  (l16:K.lookup f16=some ⟨oc16,od16,.func (PySem.W.fnOf "_law_round" "_law_round" (bC (bD 29)) (bA (bD 29)) (aK (bD 29)) .none kV16 dc16 pm16 an16 cd16 ct16),sl16⟩)
  (c16:PySem.W.codeIn K cd16 "_law_round" = true)
  (k16:PySem.W.keepIn K (.ref f16)=true)
  (a17:PySem.W.nsIn K mainGlobals "_law_walk" = some (some (.ref f17)))
  (l17:K.lookup f17=some ⟨oc17,od17,.func (PySem.W.fnOf "_law_walk" "_law_walk" (bC (bD 26)) (bA (bD 26)) (aK (bD 26)) .none kV17 dc17 pm17 an17 cd17 ct17),sl17⟩)
  (c17:PySem.W.codeIn K cd17 "_law_walk" = true)
  (k17:PySem.W.keepIn K (.ref f17)=true)
  (a18:PySem.W.nsIn K mainGlobals "law" = some (some (.ref f18)))
  (l18:K.lookup f18=some ⟨oc18,od18,.func (PySem.W.fnOf "law" "law" (bC (bD 30)) (bA (bD 30)) (aK (bD 30)) .none kV18 dc18 pm18 an18 cd18 ct18),sl18⟩)
  (c18:PySem.W.codeIn K cd18 "law" = true)
  (k18:PySem.W.keepIn K (.ref f18)=true)
  (mc0:PySem.W.nsIn K mainGlobals "MOST_VESSELS" = some (some (.int 12 tk0)))
  (mc1:PySem.W.nsIn K mainGlobals "MOST_SPOUTS" = some (some (.int 12 tk1)))
  (mc2:PySem.W.nsIn K mainGlobals "MOST_SIZE" = some (some (.int 60 tk2)))
  (mc3:PySem.W.nsIn K mainGlobals "MOST_BRIM" = some (some (.int 200 tk3)))
  (mc4:PySem.W.nsIn K mainGlobals "MOST_OUTS" = some (some (.int 3 tk4)))
  (mc5:PySem.W.nsIn K mainGlobals "MOST_PARTS" = some (some (.int 60 tk5)))
  (mc6:PySem.W.nsIn K mainGlobals "MOST_ACTS" = some (some (.int 3 tk6)))
  (mc7:PySem.W.nsIn K mainGlobals "MOST_FLOW" = some (some (.int 60 tk7)))
  (mcw:PySem.W.nsIn K mainGlobals "ACT_WORDS" = some (some (.ref aw)))
  (mlw:K.lookup aw=some ⟨.type "tuple",odw,.seq #[.str "open" tw1,.str "shut" tw2,.str "turn" tw3] nw,slw⟩)
  (zS:PySem.W.nsIn K mainGlobals "str" = some none)
  (z0:PySem.W.nsIn K mainGlobals "len" = some none)
  (z1:PySem.W.nsIn K mainGlobals "sum" = some none)
  (z2:PySem.W.nsIn K mainGlobals "all" = some none)
  (z3:PySem.W.nsIn K mainGlobals "max" = some none)
  (z4:PySem.W.nsIn K mainGlobals "min" = some none)
  (z5:PySem.W.nsIn K mainGlobals "int" = some none)
  (z6:PySem.W.nsIn K mainGlobals "tuple" = some none)
  (z7:PySem.W.nsIn K mainGlobals "list" = some none)
  (z8:PySem.W.nsIn K mainGlobals "bool" = some none)
  (z9:PySem.W.nsIn K mainGlobals "range" = some none)
  (z10:PySem.W.nsIn K mainGlobals "zip" = some none)
  (z11:PySem.W.nsIn K mainGlobals "enumerate" = some none)
  (z12:PySem.W.nsIn K mainGlobals "isinstance" = some none)
  (z13:PySem.W.nsIn K mainGlobals "divmod" = some none)
  (z14:PySem.W.nsIn K mainGlobals "set" = some none)
  (z15:PySem.W.nsIn K mainGlobals "sorted" = some none) :
  ∃ fd:FuncData,(∀ (s:Shared) (v:Value),BindsTo s fd ⟨[v],[]⟩ [("script",v)])∧∀ base:Heap,K.In base→base.Ns mainGlobals mg→FnOk l.prog w K mg base CX0 7 fa fd ["script"] (spLaw K):=by
 have e:=hfa.symm.trans (PySem.W.mg_of X G a18)
 cases e
 have T:Txt mg:=⟨PySem.W.mg_none_of X G z0,PySem.W.mg_none_of X G z1,PySem.W.mg_none_of X G z2,PySem.W.mg_none_of X G z3,PySem.W.mg_none_of X G z4,PySem.W.mg_none_of X G z5,PySem.W.mg_none_of X G z6,PySem.W.mg_none_of X G z7,PySem.W.mg_none_of X G z8,PySem.W.mg_none_of X G z9,PySem.W.mg_none_of X G z10,PySem.W.mg_none_of X G z11,PySem.W.mg_none_of X G z12,PySem.W.mg_none_of X G z13,PySem.W.mg_none_of X G z14,PySem.W.mg_none_of X G z15⟩
 have U:TxtN K mg aw:=⟨⟨_,PySem.W.mg_of X G mc0,_,rfl⟩,⟨_,PySem.W.mg_of X G mc1,_,rfl⟩,⟨_,PySem.W.mg_of X G mc2,_,rfl⟩,⟨_,PySem.W.mg_of X G mc3,_,rfl⟩,⟨_,PySem.W.mg_of X G mc4,_,rfl⟩,⟨_,PySem.W.mg_of X G mc5,_,rfl⟩,⟨_,PySem.W.mg_of X G mc6,_,rfl⟩,⟨_,PySem.W.mg_of X G mc7,_,rfl⟩,⟨_,PySem.W.mg_of X G mcw,rfl⟩,fun H=>.inr ⟨_,_,_,mlw,rfl,rfl,by show 3≤sizeLine;decide,.cons ⟨_,rfl⟩ (.cons ⟨_,rfl⟩ (.cons ⟨_,rfl⟩ .nil))⟩⟩
 have TS:TxtS mg:=⟨PySem.W.mg_none_of X G zS⟩
 have F0:=cE (st:=(bD 21)) l0 c0 k0
 have F1:=cE (st:=(bD 2)) l1 c1 k1
 have F2:=cE (st:=(bD 1)) l2 c2 k2
 have F3:=cE (st:=(bD 18)) l3 c3 k3
 have F4:=cE (st:=(bD 19)) l4 c4 k4
 have F5:=cE (st:=(bD 15)) l5 c5 k5
 have F6:=cE (st:=(bD 16)) l6 c6 k6
 have F7:=cE (st:=(bD 14)) l7 c7 k7
 have F8:=cE (st:=(bD 17)) l8 c8 k8
 have F9:=cE (st:=(bD 13)) l9 c9 k9
 have F10:=cE (st:=(bD 22)) l10 c10 k10
 have F11:=cE (st:=(bD 28)) l11 c11 k11
 have F12:=cE (st:=(bD 27)) l12 c12 k12
 have F13:=cE (st:=(bD 23)) l13 c13 k13
 have F14:=cE (st:=(bD 24)) l14 c14 k14
 have F15:=cE (st:=(bD 25)) l15 c15 k15
 have F16:=cE (st:=(bD 29)) l16 c16 k16
 have F17:=cE (st:=(bD 26)) l17 c17 k17
 have F18:=cE (st:=(bD 30)) l18 c18 k18
 refine⟨PySem.W.fnOf "law" "law" (bC (bD 30)) (bA (bD 30)) (aK (bD 30)) .none kV18 dc18 pm18 an18 cd18 ct18,fun s v=>.of_eq rfl,fun base _ _=>?_⟩
 have C0:Callee l.prog w K mg base "_law_draw" ["tape","many"] 1 spDraw f0 _:=⟨ok__law_draw F0 T,PySem.W.mg_of X G a0,k0,F0.binds (ps:=["tape","many"]) fun _ _ _ _ _ _=>by_len2 fun _ _=>rfl⟩
 have C1:Callee l.prog w K mg base "one_on" ["target","size"] 1 (spOneOn K) f1 _:=⟨ok_one_on F1 T,PySem.W.mg_of X G a1,k1,F1.binds (ps:=["target","size"]) fun _ _ _ _ _ _=>by_len2 fun _ _=>rfl⟩
 have C2:Callee l.prog w K mg base "bell_for" ["ticks"] 2 (spBell K) f2 _:=⟨ok_bell_for F2 T C1,PySem.W.mg_of X G a2,k2,F2.binds (ps:=["ticks"]) fun _ _ _ _ _ _=>by_len1 fun _=>rfl⟩
 have C3:Callee l.prog w K mg base "is_tuple" ["thing","least","most"] 1 (spTupN K) f3 _:=⟨ok_is_tuple F3 T,PySem.W.mg_of X G a3,k3,F3.binds (ps:=["thing","least","most"]) fun _ _ _ _ _ _=>by_len3 fun _ _ _=>rfl⟩
 have C4:Callee l.prog w K mg base "is_whole" ["thing","least","most"] 1 spWhole f4 _:=⟨ok_is_whole F4 T,PySem.W.mg_of X G a4,k4,F4.binds (ps:=["thing","least","most"]) fun _ _ _ _ _ _=>by_len3 fun _ _ _=>rfl⟩
 have C5:Callee l.prog w K mg base "is_out" ["thing","vessel_count"] 2 (spIsOut K) f5 _:=⟨ok_is_out F5 T U C3 C4,PySem.W.mg_of X G a5,k5,F5.binds (ps:=["thing","vessel_count"]) fun _ _ _ _ _ _=>by_len2 fun _ _=>rfl⟩
 have C6:Callee l.prog w K mg base "is_act" ["thing","spout_count"] 2 (spIsAct K) f6 _:=⟨ok_is_act F6 T U C3 C4,PySem.W.mg_of X G a6,k6,F6.binds (ps:=["thing","spout_count"]) fun _ _ _ _ _ _=>by_len2 fun _ _=>rfl⟩
 have C7:Callee l.prog w K mg base "is_vessel" ["thing","number","vessel_count","spout_count"] 3 (spIsVessel K) f7 _:=⟨ok_is_vessel F7 T U C3 C4 C5 C6,PySem.W.mg_of X G a7,k7,F7.binds (ps:=["thing","number","vessel_count","spout_count"]) fun _ _ _ _ _ _=>by_len4 fun _ _ _ _=>rfl⟩
 have C8:Callee l.prog w K mg base "is_spout" ["thing","vessel_count"] 2 (spIsSpout K) f8 _:=⟨ok_is_spout F8 T U C3 C4,PySem.W.mg_of X G a8,k8,F8.binds (ps:=["thing","vessel_count"]) fun _ _ _ _ _ _=>by_len2 fun _ _=>rfl⟩
 have C9:Callee l.prog w K mg base "is_net" ["thing"] 4 (spIsNet K) f9 _:=⟨ok_is_net F9 T U C3 C7 C8,PySem.W.mg_of X G a9,k9,F9.binds (ps:=["thing"]) fun _ _ _ _ _ _=>by_len1 fun _=>rfl⟩
 have C10:Callee l.prog w K mg base "_law_whole" ["thing","low","high"] 1 spWhole f10 _:=⟨ok__law_whole F10 T,PySem.W.mg_of X G a10,k10,F10.binds (ps:=["thing","low","high"]) fun _ _ _ _ _ _=>by_len3 fun _ _ _=>rfl⟩
 have C11:Callee l.prog w K mg base "_law_is_vessel" ["thing","number","many","spouts"] 2 (spIsVessel K) f11 _:=⟨ok__law_is_vessel F11 T TS C10,PySem.W.mg_of X G a11,k11,F11.binds (ps:=["thing","number","many","spouts"]) fun _ _ _ _ _ _=>by_len4 fun _ _ _ _=>rfl⟩
 have C12:Callee l.prog w K mg base "_law_is_net" ["thing"] 3 (spIsNet K) f12 _:=⟨ok__law_is_net F12 T C10 C11,PySem.W.mg_of X G a12,k12,F12.binds (ps:=["thing"]) fun _ _ _ _ _ _=>by_len1 fun _=>rfl⟩
 have C13:Callee l.prog w K mg base "_law_first" ["net"] 1 (spFirst K) f13 _:=⟨ok__law_first F13 T,PySem.W.mg_of X G a13,k13,F13.binds (ps:=["net"]) fun _ _ _ _ _ _=>by_len1 fun _=>rfl⟩
 have C14:Callee l.prog w K mg base "_law_filled" ["net","state","poured"] 1 (spFilledL K) f14 _:=⟨ok__law_filled F14 T,PySem.W.mg_of X G a14,k14,F14.binds (ps:=["net","state","poured"]) fun _ _ _ _ _ _=>by_len3 fun _ _ _=>rfl⟩
 have CB15:Callee l.prog w K mg base "_law_tick" ["net","state","poured","fast"] 2 (spTickL K) f15 _:=⟨ok__law_tickLF F15 T C14,PySem.W.mg_of X G a15,k15,F15.binds (ps:=["net","state","poured","fast"]) fun _ _ _ _ _ _=>by_len4 fun _ _ _ _=>rfl⟩
 have C15:Callee l.prog w K mg base "_law_tick" ["net","state","poured","fast"] 2 (spTickF K) f15 _:=⟨ok__law_tickF F15 T C14,PySem.W.mg_of X G a15,k15,F15.binds (ps:=["net","state","poured","fast"]) fun _ _ _ _ _ _=>by_len4 fun _ _ _ _=>rfl⟩
 have C16:Callee l.prog w K mg base "_law_round" ["net"] 3 (spRoundL K) f16 _:=⟨ok__law_round F16 T C13 CB15,PySem.W.mg_of X G a16,k16,F16.binds (ps:=["net"]) fun _ _ _ _ _ _=>by_len1 fun _=>rfl⟩
 have C17:Callee l.prog w K mg base "_law_walk" ["net","ticks","fast"] 3 (spWalk K) f17 _:=⟨ok__law_walk F17 T C13 C15,PySem.W.mg_of X G a17,k17,F17.binds (ps:=["net","ticks","fast"]) fun _ _ _ _ _ _=>by_len3 fun _ _ _=>rfl⟩
 exact ok_law F18 T C0 C2 C9 C12 C16 C17
theorem walk {l:PySem.W.OpenLaw}{q:Program}{loose:List Str}{XP:(Str→Option Value)→Heap→Prop}{YP:World→Heap→Prop}{d:DefRec}{K:Params→PySem.W.Frag} (hn:l.most=some 63) (hdf:d.params.defaults=[])
  (hY:∀ (w:World) (h:Heap),YP w h→(K w.params).In h)
  (F:∀ (w:World) (mg:Str→Option Value) (fa:Addr) (h:Heap),(K w.params).In h→h.Ns mainGlobals mg→mg d.name=some (.ref fa)→
   ∃ fd:FuncData,(∀ (s:Shared) (u:Value),BindsTo s fd ⟨[u],[]⟩ [("script",u)])∧∀ base:Heap,(K w.params).In base→base.Ns mainGlobals mg→FnOk l.prog w (K w.params) mg base CX0 7 fa fd ["script"] (spLaw (K w.params))) :
  PySem.W.WalkO q loose XP YP l.row.toRowW d [] (fun f vs=>PySem.call f vs):=
 L2.walk_of (n:=63) (k:=7) (x := "script") (CX:=fun _=>CX0) (sp:=fun w=>spLaw (K w.params)) hn (by decide) hdf ⟨rfl,by decide,by decide⟩ hY F (fun _ _ a ns hl _ hS=>⟨a,ns,rfl,hS,hl,fun _=>rfl⟩) fun _ _ _ _ _ z=>z
end Tw
noncomputable def PySem.W.Fast.tw18237592067942486984:Nat:=0
theorem PySem.W.Fast.te18237592067942486984:PySem.W.Fast.tw18237592067942486984=PySem.W.Fast.tw18237592067942486984:=rfl
noncomputable def PySem.W.Fast.tw755613028256488948:PySem.Program:=PySem.Challenge.pw_tipwell_k10_bells
theorem PySem.W.Fast.te755613028256488948:PySem.Challenge.pw_tipwell_k10_bells=PySem.W.Fast.tw755613028256488948:=rfl
namespace PySem.W.Fast
def tw12156465363015284951:=0
def tw10497060756082065381:=0
def tw13638682311105950516:=0
def tw9448369896382920683:=0
def tw3899351206552070571:=0
def tw3916943808512257813:=0
def tw13200219612607753888:=0
def tw14723302188617495729:=0
def tw2458721523751812877:=0
def tw15606787165073994142:=0
def tw18274548760759468293:=0
def tw6704771379240464512:=0
def tw11511812972840665717:=0
def tw5184939109539049796:=0
def tw16088882540857597125:=0
def tw8766284456737311710:=0
def tw10876641089127015582:=0
def tw759557458583257869:=0
def tw15023153831998395133:=0
def tw13550912486679733543:=0
def tw12427425464477633770:=0
def tw15814919106397776009:=0
def tw6373322975955792634:=0
def tw9689626158484768571:=0
def tw18145620233855802116:=0
def tw10952625538631443902:=0
def tw1359293168435743072:=0
def tw9673631359341593600:=0
def tw3979679308219582230:=0
def tw2272639220095454005:=0
def tw8843657809939268267:=0
def tw10563259695083550517:=0
def tw4690177719000580638:=0
def tw419202374760003967:=0
def tw142368898979151398:=0
def tw5501160282997041539:=0
def tw1611855856281595810:=0
def tw11024366003270836230:=0
def tw8563982005800087147:=0
def tw8680418488681921732:=0
def tw13891191533006773386:=0
def tw6809811509805202035:=0
def tw12028340162115338603:=0
def tw4560197553690670653:=0
def tw4424644996821746156:=0
end PySem.W.Fast
open PySem PySem.W PyProof.Rows
set_option maxRecDepth 100000 in
set_option maxHeartbeats 0 in
theorem PySem.Challenge.cw_tipwell_k10_bells_holds : PySem.Challenge.rw_tipwell_k10_bells.Holds := by
 w_on;o_law;k_head;(case hw=>w_witness2)
 k_fill
 refine Tw.walk (l:=PySem.Challenge.rw_tipwell_k10_bells) rfl rfl (fun w h Y=>by first | exact PySem.W.kIn_of Y | exact PySem.W.km_in_of Y) ?F
 case F=>
  intro w mg fa h KX G hmg
  refine' Tw.all_mk KX G hmg ?_ ?_ ?_ ?_ ?_ ?_ ?_ ?_ ?_ ?_ ?_ ?_ ?_ ?_ ?_ ?_ ?_ ?_ ?_ ?_ ?_ ?_ ?_ ?_ ?_ ?_ ?_ ?_ ?_ ?_ ?_ ?_ ?_ ?_ ?_ ?_ ?_ ?_ ?_ ?_ ?_ ?_ ?_ ?_ ?_ ?_ ?_ ?_ ?_ ?_ ?_ ?_ ?_ ?_ ?_ ?_ ?_ ?_ ?_ ?_ ?_ ?_ ?_ ?_ ?_ ?_ ?_ ?_ ?_ ?_ ?_ ?_ ?_ ?_ ?_ ?_ ?_ ?_ ?_ ?_ ?_ ?_ ?_ ?_ ?_ ?_ ?_ ?_ ?_ ?_ ?_ ?_ ?_ ?_ ?_ ?_ ?_ ?_ ?_ ?_ ?_ ?_ ?_
  all_goals try k_is
#print axioms PySem.Challenge.cw_tipwell_k10_bells_holds