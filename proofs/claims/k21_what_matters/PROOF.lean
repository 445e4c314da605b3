import PyProof.Rows.All
import Wide.All
import OpenK.AllK
import Wide.FinOn
import Lean
import PyProof.EqAt
import PyProof.EqKinds
import PyProof.TupleCall
import PyProof.FactsAll.NoneType
import PyProof.ZipIter
import PyProof.EnumMake
import KE.KUnpack
import KE.KTryMore
import PyProof.NsDelKeeps
import PyProof.Rows.SetFrom
import PyProof.CollectWalk
import PyProof.Rows.SortWalk
import PyProof.TupleKey
import PyProof.FactsAll.bool_1
import PyProof.NeKinds
import PyProof.ListRange
import PyProof.FactsAll.tuple_0
import PyProof.FactsAll.tuple_2
import KE.RegKIsAll
import KE.RegKTryMore
import PySem.Challenge.RW_tipwell_k21_what_matters
set_option Elab.async false
set_option linter.all false
set_option maxRecDepth 100000
namespace L2
open PySem PySem.Spec PyProof.Rows
noncomputable abbrev Key:=Sum Int (Option Str)
noncomputable def isNon:Value→Bool
 | .none=>true
 | _=>false
theorem isNon_shape {v:Value} (h:isNon v=true):v=Value.none:=by
 cases v <;> simp_all [isNon]
noncomputable def keyIs:Key→Value→Bool
 | .inl k,v=>Value.isInt k v
 | .inr (some x),v=>Value.isStrOf x v
 | .inr none,v=>isNon v
noncomputable def hashNon:Int:=0xFCA86420
noncomputable def keyH (w:World):Key→Int
 | .inl k=>hashInt k
 | .inr (some x)=>hashStr w x
 | .inr none=>hashNon
theorem bL:∀ {k:Key}{v:Value},keyIs k v=true→(∃ i t,k=Sum.inl i∧v=Value.int i t)∨(∃ x t,k=Sum.inr (some x)∧v=Value.str x t)∨(k=Sum.inr none∧v=Value.none)
 | .inl i,v,h=>by
  obtain⟨t,e⟩:=Value.isInt_shape (k:=i) (v:=v) h
  exact .inl ⟨i,t,rfl,e⟩
 | .inr (some x),v,h=>by
  obtain⟨t,e⟩:=Value.isStrOf_shape (x:=x) (v:=v) h
  exact .inr (.inl ⟨x,t,rfl,e⟩)
 | .inr none,v,h=>.inr (.inr ⟨rfl,isNon_shape h⟩)
theorem keyIs_int (i:Int) (t:Tok):keyIs (.inl i) (.int i t)=true:=by simp [keyIs,Value.isInt]
theorem keyIs_str (x:Str) (t:Tok):keyIs (.inr (some x)) (.str x t)=true:=by simp [keyIs,Value.isStrOf]
theorem key_ll (a b:Int):decide ((Sum.inl a:Key)=Sum.inl b)=(a == b):=by
 by_cases e:a=b
 ·subst e;simp
 ·have h:¬ (Sum.inl a:Key)=Sum.inl b:=fun q=>e (Sum.inl.inj q)
  rw[decide_eq_false h]
  exact (beq_eq_false_iff_ne.mpr e).symm
theorem key_rr (a b:Str):decide ((Sum.inr (some a):Key)=Sum.inr (some b))=decide (a=b):=by
 by_cases e:a=b
 ·subst e;simp
 ·have h:¬ (Sum.inr (some a):Key)=Sum.inr (some b):=fun q=>e (Option.some.inj (Sum.inr.inj q))
  rw[decide_eq_false h,decide_eq_false e]
theorem key_li (i:Int) (o:Option Str):decide ((Sum.inl i:Key)=Sum.inr o)=false:=decide_eq_false (fun q=>nomatch q)
theorem key_il (i:Int) (o:Option Str):decide ((Sum.inr o:Key)=Sum.inl i)=false:=decide_eq_false (fun q=>nomatch q)
theorem key_sn (x:Str):decide ((Sum.inr (some x):Key)=Sum.inr none)=false:=decide_eq_false (fun q=>nomatch (Sum.inr.inj q))
theorem key_ns (x:Str):decide ((Sum.inr none:Key)=Sum.inr (some x))=false:=decide_eq_false (fun q=>nomatch (Sum.inr.inj q))
theorem hash_non {prog:Program}{w:World}{A:Around}{E:Value→Shared→Prop}{s:Shared}{Q:Int→Shared→Prop} (h:Q hashNon { s with toks:=s.toks+1 }) :
  wpAny (model prog w) A (pyHash .none) Q E s:=by
 have hT:s.TypeIs .none "NoneType" := rfl
 unfold pyHash
 have hv:[Value.none].any Value.onHeap=false:=rfl
 refine wpAny_bind ?_
 rw[cRoomFor,if_neg (by rw[hv];exact Bool.false_ne_true)];refine wpAny_pure ?_
 refine wpAny_bind (wpAny_specialOf hT F.slot_NoneType_hash.lookup ?_)
 show wpAny _ _ (if (some (Value.builtin "NoneType.__hash__") == some Value.none)=true then _ else _) Q E s
 rw[if_neg (by rw[beq_builtin_none];exact Bool.false_ne_true)]
 refine wpAny_bind (wpAny_specialOf hT F.slot_NoneType_hash.lookup ?_)
 show wpAny _ _ (callSpecialIfBoundUnlessNone? .none "__hash__" _ >>= _) Q E s
 refine wpAny_bind (wpAny_callSpecialIfBoundUnlessNone?_slot hT F.slot_NoneType_hash
  (wpAny_call_entry F.slot_NoneType_hash hT F.entry_NoneType_hash
   (show wpAny _ _ (do ret (← mkInt hashNon)) _ _ s from wpAny_ret_mkInt ?_) (F.args_NoneType_hash_1 _)))
 show wpAny _ _ (if (decide (-(2:Int) ^ 63≤hashNon) && decide (hashNon < 2 ^ 63))=true then _ else _) Q E _
 rw[if_pos (by decide)]
 exact wpAny_pure h
noncomputable def bU (prog:Program) (w:World):PySem.KeyKind prog w Key where
 is:=keyIs
 hash:=keyH w
 inj:=fun v a b ha hb=>by
  rcases bL ha with ⟨i,t,rfl,rfl⟩ | ⟨x,t,rfl,rfl⟩ | ⟨rfl,rfl⟩
  ·rcases bL hb with ⟨j,u,rfl,e⟩ | ⟨y,u,rfl,e⟩ | ⟨rfl,e⟩
   ·injection e with e1 _;rw[e1]
   ·exact nomatch e
   ·exact nomatch e
  ·rcases bL hb with ⟨j,u,rfl,e⟩ | ⟨y,u,rfl,e⟩ | ⟨rfl,e⟩
   ·exact nomatch e
   ·injection e with e1 _;rw[e1]
   ·exact nomatch e
  ·rcases bL hb with ⟨j,u,rfl,e⟩ | ⟨y,u,rfl,e⟩ | ⟨rfl,e⟩
   ·exact nomatch e
   ·exact nomatch e
   ·rfl
 byValue:=fun k v h=>by
  rcases bL h with ⟨i,t,rfl,rfl⟩ | ⟨x,t,rfl,rfl⟩ | ⟨rfl,rfl⟩ <;> rfl
 pyHash:=fun hv h=>by
  rcases bL hv with ⟨i,t,rfl,rfl⟩ | ⟨x,t,rfl,rfl⟩ | ⟨rfl,rfl⟩
  ·exact wpAny_pyHash_int h
  ·exact wpAny_pyHash_str h
  ·exact hash_non h
 eqBool:=fun hu hv h=>by
  rcases bL hu with ⟨i,t,rfl,rfl⟩ | ⟨x,t,rfl,rfl⟩ | ⟨rfl,rfl⟩
  ·rcases bL hv with ⟨j,u,rfl,rfl⟩ | ⟨y,u,rfl,rfl⟩ | ⟨rfl,rfl⟩
   ·rw[key_ll] at h;exact wpAny_eqBool_int h
   ·rw[key_li] at h;exact SeqAt.EqAt.int_str i t y u _ _ _ _ h
   ·rw[key_li] at h;exact SeqAt.EqAt.int_none i t _ _ _ _ h
  ·rcases bL hv with ⟨j,u,rfl,rfl⟩ | ⟨y,u,rfl,rfl⟩ | ⟨rfl,rfl⟩
   ·rw[key_il] at h;exact SeqAt.EqAt.str_int x t j u _ _ _ _ h
   ·rw[key_rr] at h;exact wpAny_eqBool_str h
   ·rw[key_sn] at h;exact SeqAt.EqAt.str_none x t _ _ _ _ h
  ·rcases bL hv with ⟨j,u,rfl,rfl⟩ | ⟨y,u,rfl,rfl⟩ | ⟨rfl,rfl⟩
   ·rw[key_il] at h;exact SeqAt.EqAt.none_int j u _ _ _ _ h
   ·rw[key_ns] at h;exact SeqAt.EqAt.none_str y u _ _ _ _ h
   ·rw[decide_eq_true rfl] at h;exact SeqAt.EqAt.same Value.none _ _ _ _ h
 «strs»:=fun k x t v h=>by
  rcases bL h with ⟨i,u,rfl,e⟩ | ⟨y,u,rfl,e⟩ | ⟨rfl,e⟩
  ·exact nomatch e
  ·injection e with e1 _
   subst e1
   cases v <;> rfl
  ·exact nomatch e
theorem mixKind_int (prog:Program) (w:World) (i:Int) (t:Tok):(bU prog w).is (.inl i) (.int i t)=true:=keyIs_int i t
theorem mixKind_str (prog:Program) (w:World) (x:Str) (t:Tok):(bU prog w).is (.inr (some x)) (.str x t)=true:=keyIs_str x t
end L2
namespace L2
open PySem PySem.Spec PyProof.Rows
inductive V where
 | non | bl (b:Bool) | int (i:Int) | str (x:Str) | byt (b:Array UInt8) | flt (b:UInt64) | ref (a:Addr) | ty (n:String)
 deriving DecidableEq
noncomputable def aY:V→Value→Prop
 | .non,u=>u=Value.none
 | .bl b,u=>u=Value.bool b
 | .int i,u=>∃ t,u=Value.int i t
 | .str x,u=>∃ t,u=Value.str x t
 | .byt b,u=>∃ t,u=Value.bytes b t
 | .flt b,u=>∃ t,u=Value.float b t
 | .ref a,u=>u=Value.ref a
 | .ty n,u=>u=Value.type n
noncomputable abbrev bD:List V→List Value→Prop:=Paired aY
theorem bD.length {xs:List V}{us:List Value} (r:bD xs us):xs.length=us.length:=Paired.length r
theorem bD.get:∀ {xs:List V}{us:List Value}{i:Nat}{x:V},bD xs us→xs[i]? = some x→∃ u,us[i]? = some u∧aY x u
 | _,_,_,_,.nil,e=>by simp at e
 | _,_,0,_,.cons r _,e=>by simp at e;subst e;exact⟨_,rfl,r⟩
 | _,_,i+1,x,.cons _ t,e=>by
  obtain⟨u,h1,h2⟩:=bD.get (i:=i) (x:=x) t (by simpa using e)
  exact⟨u,by simpa using h1,h2⟩
theorem bD.set {x:V}{u:Value} (r:aY x u):∀ {xs:List V}{us:List Value} (i:Nat),bD xs us→bD (xs.set i x) (us.set i u)
 | _,_,_,.nil=>.nil
 | _,_,0,.cons _ t=>.cons r t
 | _,_,i+1,.cons q t=>.cons q (bD.set r i t)
theorem bD.append:∀ {xs ys:List V}{us ws:List Value},bD xs us→bD ys ws→bD (xs++ys) (us++ws)
 | _,_,_,_,.nil,s=>s
 | _,_,_,_,.cons r t,s=>.cons r (bD.append t s)
theorem bD.take:∀ {xs:List V}{us:List Value} (n:Nat),bD xs us→bD (xs.take n) (us.take n)
 | _,_,0,_=>.nil
 | _,_,_+1,.nil=>.nil
 | _,_,n+1,.cons r t=>.cons r (bD.take n t)
theorem bD.drop:∀ {xs:List V}{us:List Value} (n:Nat),bD xs us→bD (xs.drop n) (us.drop n)
 | _,_,0,r=>r
 | _,_,_+1,.nil=>.nil
 | _,_,n+1,.cons _ t=>bD.drop n t
noncomputable def RelO:Option V→Option Value→Prop
 | some v,some u=>aY v u
 | none,none=>True
 | _,_=>False
noncomputable def KV {κ:Type}:List (κ×V)→List (κ×Value)→Prop:=Paired fun (p:κ×V) (q:κ×Value)=>p.1=q.1∧aY p.2 q.2
noncomputable def kV:Key→V
 | .inl i=>.int i
 | .inr (some x)=>.str x
 | .inr none=>.non
inductive HO where
 | lst (xs:List V)
 | tup (xs:List V)
 | dK (kvs:List (Key×V)) | dT (kvs:List (List Key×V))
 | set (S:Int→Bool) (n:Nat)
 | ins (C dx:Addr) (fs:List (Str×V))
 | own (x:Addr)
 | xd (fs:List (Str×V))
 | met (f x:Addr)
 | rng (lo hi:Int)
 | frz (o:Obj) (u:HO)
 | tbl (ps:Array Value)
 | ext (φ:Heap→Prop)
noncomputable abbrev Hp:=Addr→Option HO
noncomputable def upd (H:Hp) (a:Addr) (o:HO):Hp:=fun b=>if b=a then some o else H b
theorem aC {H:Hp}{a:Addr}{o:HO}:upd H a o a=some o:=by unfold upd;rw[if_pos rfl]
theorem aO {H:Hp}{a b:Addr}{o:HO} (h:b≠a):upd H a o b=H b:=by unfold upd;rw[if_neg h]
theorem ne_of {H:Hp}{a b:Addr}{o u:HO} (h:H a=some o) (h':H b=some u) (d:o≠u):a≠b:=by
 intro e;subst e;rw[h] at h';exact d (Option.some.inj h')
theorem aQ {H:Hp}{a b:Addr}{o:HO} (h:H a=some o) (h':H b=none):a≠b:=by
 intro e;subst e;rw[h] at h';cases h'
section
variable (P:Program) (w:World)
noncomputable def bQ (H:Hp) (h:Heap) (a:Addr):HO→Prop
 | .lst xs=>xs.length≤sizeLine∧∃ (its:List Value) (n:Nat),bD xs its∧h.get? a=some { cls:=.type "list",data:=.seq its.toArray n }
 | .tup xs=>xs.length≤sizeLine∧∃ its:List Value,bD xs its∧IsTup h a its.toArray
 | .dK kvs=>kvs.length≤sizeLine∧(a == sysModules)=false∧∃ vs,KV kvs vs∧h.DictOf (bU P w) a vs
 | .dT kvs=>kvs.length≤sizeLine∧(a == sysModules)=false∧∃ xs:List (List Key×Addr×Value),
   Paired (fun (p:List Key×V) (q:List Key×Addr×Value)=>p.1=q.1∧H q.2.1=some (.tup (p.1.map kV))∧aY p.2 q.2.2) kvs xs∧
   ∃ o es ep,h.get? a=some o∧o.ExactDict∧o.data=.dict es ep∧es.toList=xs.map (entryOfKey (tupleKind (bU P w)))∧(xs.map (·.1)).Nodup
 | .set S n=>h.SetOf (intKind P w) a S n
 | .ins C dx fs=>H dx=some (.own a)∧fs.length≤1000∧dx≠a∧h.get? a=some (PySem.W.instObj C dx)∧
   ∃ mA,h.Ns1 dx mA∧(∀ f,RelO (fs.lookup f) (mA f))∧PySem.Within mA (fs.map (·.1))
 | .own _=>∃ o,h.get? a=some o
 | .xd fs=>∃ mA,h.Ns1 a mA∧∀ f,RelO (fs.lookup f) (mA f)
 | .rng lo hi=>∃ t u v,h.get? a=some { cls:=.type "range",data:=.fields #[.int lo t,.int hi u,.int 1 v] }
 | .frz o u=>h.get? a=some o∧bQ H h a u
 | .tbl ps=>h.get? a=some { cls:=.none,data:=.fields ps }
 | .met f x=>h.get? a=some (PySem.W.methodObj (.ref f) (.ref x))
 | .ext φ=>φ h∧(∃ o,h.get? a=some o)∧∀ h1 h2:Heap,φ h1→(∀ o,h1.get? a=some o→h2.get? a=some o)→φ h2
noncomputable def HOk (H:Hp) (h:Heap):Prop:=∀ a o,H a=some o→bQ P w H h a o
end
section
variable {P:Program}{w:World}{H H':Hp}{h h':Heap}{a:Addr}{o:HO}
theorem bQ.lt (x:bQ P w H h a o):a < h.objs.size:=by
 cases o with
 | lst xs=>obtain⟨_,_,_,_,e⟩:=x;exact Heap.lt_size e
 | tup xs=>obtain⟨_,_,_,p⟩:=x;exact p.lt
 | dK kvs=>obtain⟨_,_,_,_,o,_,_,e,_⟩:=x;exact Heap.lt_size e
 | dT kvs=>obtain⟨_,_,_,_,o,_,_,e,_⟩:=x;exact Heap.lt_size e
 | set S n=>obtain⟨o,_,_,_,e,_⟩:=x;exact Heap.lt_size e
 | ins C dx fs=>obtain⟨_,_,_,e,_⟩:=x;exact Heap.lt_size e
 | own y=>obtain⟨_,e⟩:=x;exact Heap.lt_size e
 | xd fs=>obtain⟨_,⟨_,_,_,e,_⟩,_⟩:=x;exact Heap.lt_size e
 | rng lo hi=>obtain⟨_,_,_,e⟩:=x;exact Heap.lt_size e
 | frz ob u=>obtain⟨e,_⟩:=x;exact Heap.lt_size e
 | tbl ps=>exact Heap.lt_size (show h.get? a=some _ from x)
 | met f y=>exact Heap.lt_size (show h.get? a=some _ from x)
 | ext φ=>obtain⟨_,⟨_,e⟩,_⟩:=x;exact Heap.lt_size e
theorem Paired.mapP {α β:Type}{F G:α→β→Prop}:∀ {l₁:List α}{l₂:List β},Paired F l₁ l₂→(∀ a b,F a b→G a b)→Paired G l₁ l₂
 | _,_,.nil,_=>.nil
 | _,_,.cons r t,f=>.cons (f _ _ r) (Paired.mapP t f)
theorem bQ.stay (x:bQ P w H h a o) (k:∀ b u,(b=a∨H b=some (.own a))→h.get? b=some u→h'.get? b=some u)
  (ho:∀ b,H b=some (.own a)→H' b=some (.own a)) (ht:∀ b xs,H b=some (.tup xs)→H' b=some (.tup xs)):bQ P w H' h' a o:=by
 induction o with
 | lst xs=>obtain⟨z,its,n,r,e⟩:=x;exact⟨z,its,n,r,k _ _ (.inl rfl) e⟩
 | tup xs=>obtain⟨z,its,r,ob,e,c⟩:=x;exact⟨z,its,r,ob,k _ _ (.inl rfl) e,c⟩
 | dK kvs=>obtain⟨z,y,vs,r,ob,es,ep,e,c⟩:=x;exact⟨z,y,vs,r,ob,es,ep,k _ _ (.inl rfl) e,c⟩
 | dT kvs=>
  obtain⟨z,y,xs,r,ob,es,ep,e,c⟩:=x
  exact⟨z,y,xs,Paired.mapP r fun p q z=>⟨z.1,ht _ _ z.2.1,z.2.2⟩,ob,es,ep,k _ _ (.inl rfl) e,c⟩
 | set S n=>obtain⟨ob,es,ep,t,e,c⟩:=x;exact⟨ob,es,ep,t,k _ _ (.inl rfl) e,c⟩
 | ins C dx fs=>
  obtain⟨d,z,ne,e,mA,⟨od,es,ep,e2,c⟩,r⟩:=x
  exact⟨ho _ d,z,ne,k _ _ (.inl rfl) e,mA,⟨od,es,ep,k _ _ (.inr d) e2,c⟩,r⟩
 | own y=>obtain⟨ob,e⟩:=x;exact⟨ob,k _ _ (.inl rfl) e⟩
 | xd fs=>obtain⟨mA,⟨od,es,ep,e,c⟩,r⟩:=x;exact⟨mA,⟨od,es,ep,k _ _ (.inl rfl) e,c⟩,r⟩
 | rng lo hi=>obtain⟨t,u,v,e⟩:=x;exact⟨t,u,v,k _ _ (.inl rfl) e⟩
 | frz ob u ih=>obtain⟨e,q⟩:=x;exact⟨k _ _ (.inl rfl) e,ih q⟩
 | tbl ps=>
  have e:h.get? a=some { cls:=.none,data:=.fields ps }:=x
  show h'.get? a=some { cls:=.none,data:=.fields ps }
  exact k a _ (.inl rfl) e
 | met f y=>
  have e:h.get? a=some (PySem.W.methodObj (.ref f) (.ref y)):=x
  show h'.get? a=some (PySem.W.methodObj (.ref f) (.ref y))
  exact k a _ (.inl rfl) e
 | ext φ=>obtain⟨p,⟨o,e⟩,st⟩:=x;exact⟨st _ _ p fun o q=>k _ _ (.inl rfl) q,⟨o,k _ _ (.inl rfl) e⟩,st⟩
theorem HOk.lt (x:HOk P w H h) (e:H a=some o):a < h.objs.size:=(x a o e).lt
theorem HOk.fresh (x:HOk P w H h) (e:h.objs.size≤a):H a=none:=by
 cases q:H a with
 | none=>rfl
 | some u=>exact absurd (Nat.lt_of_lt_of_le (x.lt q) e) (Nat.lt_irrefl _)
theorem HOk.kept (x:HOk P w H h) (k:∀ b u,h.get? b=some u→h'.get? b=some u):HOk P w H h':=fun a o e=>
 (x a o e).stay (fun b u _ q=>k b u q) (fun _ q=>q) fun _ _ q=>q
theorem HOk.laid (x:HOk P w H h) (k:∀ b u,h.get? b=some u→h'.get? b=some u) (hp:h.objs.size≤a) (new:bQ P w (upd H a o) h' a o):HOk P w (upd H a o) h':=fun b u e=>by
 have hn:=x.fresh hp
 by_cases hb:b=a
 ·subst hb;rw[aC] at e;cases e;exact new
 ·rw[aO hb] at e
  exact (x b u e).stay (fun c v _ q=>k c v q) (fun c q=>by rw[aO (aQ q hn)];exact q) fun c xs q=>by rw[aO (aQ q hn)];exact q
end
noncomputable def Rd (H:Hp) (a:Addr) (u:HO):Prop:=H a=some u∨∃ o,H a=some (.frz o u)
theorem Rd.ok {P:Program}{w:World}{H:Hp}{h:Heap}{a:Addr}{u:HO} (r:Rd H a u) (x:HOk P w H h):bQ P w H h a u:=by
 rcases r with r | ⟨o,r⟩
 ·exact x a u r
 ·obtain⟨_,q⟩:=x a _ r
  exact q
noncomputable def Mut:Option HO→Prop
 | some (.lst _)=>True
 | some (.dK _)=>True
 | some (.dT _)=>True
 | some (.set _ _)=>True
 | some (.ins _ _ _)=>True
 | some (.ext _)=>True
 | _=>False
section
variable {P:Program}{w:World}{H:Hp}{h h':Heap}{x e:Addr}{o':HO}
theorem HOk.write (ok:HOk P w H h) (mu:Mut (H x)) (he:e=x∨H e=some (.own x)) (k:∀ b u,b≠e→h.get? b=some u→h'.get? b=some u) (heo:∃ u,h'.get? e=some u)
  (new:bQ P w (upd H x o') h' x o'):HOk P w (upd H x o') h':=fun b u q=>by
 have nown:∀ c y,H c=some (.own y)→c≠x:=fun c y r z=>by subst z;rw[r] at mu;exact mu
 have ntup:∀ c xs,H c=some (.tup xs)→c≠x:=fun c xs r z=>by subst z;rw[r] at mu;exact mu
 by_cases hb:b=x
 ·subst hb;rw[aC] at q;cases q;exact new
 ·rw[aO hb] at q
  by_cases hbe:b=e
  ·have q':H b=some (.own x):=by
    rcases he with z | z
    ·exact absurd (hbe.trans z) hb
    ·rw[hbe];exact z
   rw[q] at q';cases q'
   obtain⟨v,hv⟩:=heo
   exact⟨v,by rw[hbe];exact hv⟩
  ·refine (ok b u q).stay (fun c v hc r=>k c v ?_ r) (fun c r=>by rw[aO (nown c b r)];exact r) fun c xs r=>by rw[aO (ntup c xs r)];exact r
   rcases hc with rfl | hc
   ·exact hbe
   ·rintro rfl
    rcases he with z | z
    ·exact nown c b hc z
    ·rw[hc] at z;cases z;exact hb rfl
end
structure Un (fs ex:List Addr) (H H':Hp) (h h':Heap):Prop where
 keep:∀ b o,h.get? b=some o→H b=none→b∉fs→b∉ex→h'.get? b=some o
 slot:∀ b o,h.get? b=some o→H b=none→b∈fs→b∉ex→∃ sl,h'.get? b=some { o with slots:=sl }
 free:∀ b o,h.get? b=some o→H b=none→b∉ex→H' b=none
 there:∀ b o,h.get? b=some o→b∉ex→∃ o',h'.get? b=some o'
 tups:∀ b xs,H b=some (.tup xs)→H' b=some (.tup xs)
 frzs:∀ b o u,H b=some (.frz o u)→H' b=some (.frz o u)
 tbls:∀ b ps,H b=some (.tbl ps)→∃ more,H' b=some (.tbl (ps++more))
section
variable {fs fs' ex ex':List Addr}{H H1 H2:Hp}{h h1 h2 h':Heap}{a x e:Addr}{o:HO}
theorem Un.any (u:Un fs ex H H1 h h1) {b:Addr}{ob:Obj} (q:h.get? b=some ob) (n:H b=none) (hx:b∉ex):∃ sl,h1.get? b=some { ob with slots:=sl }:=by
 by_cases hb:b∈fs
 ·exact u.slot b ob q n hb hx
 ·exact⟨ob.slots,u.keep b ob q n hb hx⟩
theorem Un.kept (k:∀ b u,h.get? b=some u→h'.get? b=some u):Un fs ex H H h h':=
 ⟨fun b ob q _ _ _=>k b ob q,fun b ob q _ _ _=>⟨ob.slots,k b ob q⟩,fun _ _ _ n _=>n,fun b ob q _=>⟨ob,k b ob q⟩,fun _ _ q=>q,fun _ _ _ q=>q,fun _ ps q=>⟨#[],by rw[q];simp⟩⟩
theorem Un.refl:Un fs ex H H h h:=Un.kept fun _ _ q=>q
theorem Un.laid (k:∀ b u,h.get? b=some u→h'.get? b=some u) (hp:h.objs.size≤a) (hn:H a=none):Un fs ex H (upd H a o) h h' where
 keep:=fun b u q _ _ _=>k b u q
 slot:=fun b u q _ _ _=>⟨u.slots,k b u q⟩
 free:=fun b u q n _=>by rw[aO (Nat.ne_of_lt (Nat.lt_of_lt_of_le (Heap.lt_size q) hp))];exact n
 there:=fun b u q _=>⟨u,k b u q⟩
 tups:=fun b xs q=>by rw[aO (aQ q hn)];exact q
 frzs:=fun b u xs q=>by rw[aO (aQ q hn)];exact q
 tbls:=fun b ps q=>⟨#[],by rw[aO (aQ q hn),q];simp⟩
theorem Un.write (mu:Mut (H x)) (he:e=x∨H e=some (.own x)) (k:∀ b u,b≠e→h.get? b=some u→h'.get? b=some u) (heo:∃ u,h'.get? e=some u):Un fs ex H (upd H x o) h h':=by
 have hx:∀ b,H b=none→b≠x:=fun b n z=>by subst z;rw[n] at mu;exact mu
 have hb:∀ b,H b=none→b≠e:=fun b n z=>by
  subst z
  rcases he with r | r
  ·exact hx b n r
  ·rw[n] at r;cases r
 have hm:∀ b u,H b=some u→¬ Mut (some u)→b≠x:=fun b u q nm z=>by subst z;rw[q] at mu;exact nm mu
 refine⟨fun b u q n _ _=>k b u (hb b n) q,fun b u q n _ _=>⟨u.slots,k b u (hb b n) q⟩,fun b u q n _=>by rw[aO (hx b n)];exact n,fun b u q _=>?_,
  fun b xs q=>by rw[aO (hm b _ q fun z=>z)];exact q,fun b u xs q=>by rw[aO (hm b _ q fun z=>z)];exact q,fun b ps q=>⟨#[],by rw[aO (hm b _ q fun z=>z),q];simp⟩⟩
 by_cases hbe:b=e
 ·subst hbe;exact heo
 ·exact⟨u,k b u hbe q⟩
end
noncomputable def trk (h:Heap) (H:Hp):List Addr:=(List.range h.objs.size).filter fun a=>(H a).isSome
noncomputable def hidT (h:Heap) (H:Hp):Heap:=PySem.W.hideAll h (trk h H)
theorem hidT_size (h:Heap) (H:Hp):(hidT h H).objs.size=h.objs.size:=PySem.W.hideAll_size _ _
theorem hidT_get {h:Heap}{H:Hp}{b:Addr}{o:Obj} (e:h.get? b=some o) (n:H b=none):(hidT h H).get? b=some o:=
 PySem.W.hideAll_get _ e fun hm=>by
  have q:(H b).isSome=true:=(List.mem_filter.mp hm).2
  rw[n] at q;simp at q
theorem of_hidT {h:Heap}{H:Hp}{b:Addr}{o:Obj} (e:(hidT h H).get? b=some o):h.get? b=some o∧H b=none:=by
 have e':h.get? b=some o:=PySem.W.of_hideAll (trk h H) e
 refine⟨e',?_⟩
 cases q:H b with
 | none=>rfl
 | some x=>
  have hm:b∈trk h H:=List.mem_filter.mpr ⟨List.mem_range.mpr (Heap.lt_size e'),by simp [q]⟩
  have z:(hidT h H).get? b=none:=PySem.W.hideAll_none (trk h H) hm
  rw[z] at e;cases e
end L2
namespace L2
open PySem PySem.Spec PyProof.Rows
structure Mod (K:PySem.W.Frag) (mg:Str→Option Value) (base:Heap):Prop where
 kin:K.In base
 glob:base.Ns mainGlobals mg
 blt:∃ mb,base.Ns builtinsNs mb∧∀ x:Str,x ≠ "__name__" → mb x=bootBuiltins x
 nolimit:base.NoLimit
structure Cx where
 prog:Program
 w:World
 K:PySem.W.Frag
 mg:Str→Option Value
 base:Heap
 A:Around
 N:List Str
 s₀:Shared
 H₀:Hp
 env:Env
 outer:List Env
 stack:List Env
 ex:List Addr
 fn:Str→Bool
 calm:Bool
 pn:List (Addr×Obj)
 xe:Value→Shared→Prop
noncomputable def frs (l:List Env):List Addr:=l.filterMap (·.frame)
noncomputable abbrev Cx.fs (X:Cx):List Addr:=frs X.outer
noncomputable def Vis (sc:Scope) (x:Str):Prop:=sc.names.lookup x=some .local∨sc.names.lookup x=some .cell∨sc.names.lookup x=some .free
noncomputable def Loc (sc:Scope) (x:Str):Prop:=sc.names.lookup x=some .local∨sc.names.lookup x=some .cell
noncomputable def Look (env:Env) (h:Heap) (m:Str→Option Value) (x:Str) (u:Value):Prop:=
 (env.kindOf x=some .local∧m x=some u)∨((env.kindOf x=some .cell∨env.kindOf x=some .free)∧∃ c,env.cells.lookup x=some c∧h.IsCell c (some u))
structure Cx.Ok (X:Cx):Prop where
 mod:Mod X.K X.mg X.base
 kind:X.env.scope.kind=.function
 glob:X.env.globals=mainGlobals
 blt:X.env.builtins=builtinsNs
 above:X.s₀.heap.objs.size≤X.env.locals
 inj:∀ x y c,X.env.cells.lookup x=some c→X.env.cells.lookup y=some c→x=y
 has:∀ x,(X.env.kindOf x=some .cell∨X.env.kindOf x=some .free)→∃ c,X.env.cells.lookup x=some c
 cab:∀ x c,X.fn x=true→X.env.cells.lookup x=some c→X.s₀.heap.objs.size≤c
 hd:X.calm=true→X.A.handled=none
 frames:X.A.frames=some X.stack
 stk:X.stack=X.outer∨(X.stack=X.env::X.outer∧X.env.frame=some X.env.locals)
 exf:∀ b∈X.ex,b≠X.env.locals∧∀ x c,X.env.cells.lookup x=some c→c≠b
 bs:∀ b o,X.base.get? b=some o→X.s₀.heap.get? b=some o∧X.H₀ b=none
 bsz:X.base.objs.size≤X.s₀.heap.objs.size
 noex:∀ b o,X.base.get? b=some o→b∉X.ex
 exfs:∀ b∈X.ex,b∉X.fs
 funs:X.s₀.heap.FunFrames X.base X.outer
 frf:∀ b∈X.fs,X.H₀ b=none
structure Inv (X:Cx) (pins:List (Addr×Obj)) (σ:List (Option V)) (H:Hp) (s:Shared):Prop where
 ok:X.Ok
 os:s.os=X.s₀.os
 bare:AllBare s.gens
 base:Un X.fs X.ex X.H₀ H X.s₀.heap s.heap
 loc:∃ m,s.heap.Ns X.env.locals m∧∀ (i:Nat) (x:Str) (v:V),X.N[i]? = some x→σ[i]? = some (some v)→Vis X.env.scope x→∃ u,aY v u∧Look X.env s.heap m x u
 cell:∀ x c,X.env.cells.lookup x=some c→∃ v,s.heap.IsCell c v
 free:H X.env.locals=none
 freeC:∀ x c,X.env.cells.lookup x=some c→H c=none
 pin:∀ p∈X.pn++pins,s.heap.get? p.1=some p.2∧H p.1=none∧p.1≠X.env.locals∧p.1∉X.fs∧∀ v,p.2.data≠.cell v
 hok:HOk X.prog X.w H s.heap
 len:σ.length=X.N.length
section
variable {X:Cx}{pins:List (Addr×Obj)}{σ:List (Option V)}{H H':Hp}{s:Shared}{h':Heap}
theorem Cx.Ok.nofr (ok:X.Ok) {b:Addr}{o:Obj} (e:X.base.get? b=some o):b∉X.fs:=fun hb=>by
 have:=(ok.funs.mem hb).1
 rw[e] at this;cases this
theorem Inv.bs (I:Inv X pins σ H s):∀ b o,X.base.get? b=some o→s.heap.get? b=some o∧H b=none:=fun b o e=>
 ⟨I.base.keep b o (I.ok.bs b o e).1 (I.ok.bs b o e).2 (I.ok.nofr e) (I.ok.noex b o e),I.base.free b o (I.ok.bs b o e).1 (I.ok.bs b o e).2 (I.ok.noex b o e)⟩
theorem Inv.bk (I:Inv X pins σ H s):∀ b o,X.base.get? b=some o→s.heap.get? b=some o:=fun b o e=>(I.bs b o e).1
theorem Inv.mod (I:Inv X pins σ H s):Mod X.K X.mg X.base:=I.ok.mod
theorem Inv.kIn (I:Inv X pins σ H s):X.K.In s.heap:=I.ok.mod.kin.keeps I.bk
theorem Inv.lt (I:Inv X pins σ H s):X.env.locals < s.heap.objs.size:=let ⟨_,hn,_⟩:=I.loc;hn.lt
theorem Inv.sz (I:Inv X pins σ H s):X.s₀.heap.objs.size≤s.heap.objs.size:=Nat.le_trans I.ok.above (Nat.le_of_lt I.lt)
theorem Inv.nofs (I:Inv X pins σ H s) {a:Addr} (h:s.heap.objs.size≤a):a∉X.fs:=fun hb=>by
 obtain⟨_,o,ho,_⟩:=I.ok.funs.mem hb
 exact absurd (Nat.lt_of_lt_of_le (Heap.lt_size ho) (Nat.le_trans I.sz h)) (Nat.lt_irrefl _)
theorem Inv.cne (I:Inv X pins σ H s):∀ x c,X.env.cells.lookup x=some c→c≠X.env.locals:=fun x c e z=>by
 obtain⟨v,o,ho,hd⟩:=I.cell x c e
 obtain⟨m,⟨o',es,ep,ho',hd',_⟩,_⟩:=I.loc
 rw[z,ho'] at ho;cases ho;rw[hd'] at hd;cases hd
theorem Inv.funs (I:Inv X pins σ H s):s.heap.FunFrames X.base X.outer:=by
 have all:∀ (l:List Env),(∀ b∈frs l,b∈X.fs)→X.s₀.heap.FunFrames X.base l→s.heap.FunFrames X.base l:=by
  intro l
  induction l with
  | nil=>intro _ _;trivial
  | cons env r ih=>
   intro hs hl
   obtain⟨hk,⟨L,o,hf,hn,ho,hd⟩,hr⟩:=hl
   have hL:L∈X.fs:=hs L (by unfold frs;rw[List.filterMap_cons,hf];exact List.mem_cons_self)
   obtain⟨sl,e⟩:=I.base.slot L o ho (I.ok.frf L hL) hL fun z=>I.ok.exfs L z hL
   exact⟨hk,⟨L,_,hf,hn,e,hd⟩,ih (fun b hb=>hs b (by unfold frs;rw[List.filterMap_cons,hf];exact List.mem_cons_of_mem _ hb)) hr⟩
 exact all X.outer (fun _ hb=>hb) I.ok.funs
theorem Inv.stack (I:Inv X pins σ H s):s.heap.FunFrames X.base X.stack:=by
 rcases I.ok.stk with e | ⟨e,hf⟩
 ·rw[e];exact I.funs
 ·rw[e]
  obtain⟨m,hn,_⟩:=I.loc
  refine .cons (by rw[I.ok.kind];decide) hf hn ?_ I.funs
  exact Heap.get?_none_of_le (Nat.le_trans I.ok.bsz I.ok.above)
theorem Inv.stkSub (I:Inv X pins σ H s):∀ b∈frs X.stack,b∈X.env.locals::X.fs:=fun b hb=>by
 rcases I.ok.stk with e | ⟨e,hf⟩
 ·rw[e] at hb;exact List.mem_cons_of_mem _ hb
 ·rw[e] at hb
  unfold frs at hb
  rw[List.filterMap_cons,hf] at hb
  exact hb
theorem Inv.stkFree (I:Inv X pins σ H s):∀ b∈frs X.stack,H b=none:=fun b hb=>by
 rcases List.mem_cons.mp (I.stkSub b hb) with e | hb
 ·rw[e];exact I.free
 ·obtain⟨_,o,ho,_⟩:=I.ok.funs.mem hb
  exact I.base.free b o ho (I.ok.frf b hb) fun z=>I.ok.exfs b z hb
theorem Inv.step {g':Array GenState}{t':Nat}{d':Drawn}{ch:List Addr} (I:Inv X pins σ H s)
  (hch:∀ b∈ch,(b∈X.ex∨X.s₀.heap.objs.size≤b)∧b≠X.env.locals∧(∀ x c,X.env.cells.lookup x=some c→c≠b)∧∀ p∈X.pn++pins,p.1≠b)
  (keep:∀ b o,b≠X.env.locals→b∉X.fs→b∉ch→s.heap.get? b=some o→H b=none→h'.get? b=some o)
  (slot:∀ b o,b≠X.env.locals→b∈X.fs→b∉ch→s.heap.get? b=some o→H b=none→∃ sl,h'.get? b=some { o with slots:=sl }) (free:∀ b o,b∉ch→s.heap.get? b=some o→H b=none→H' b=none)
  (there:∀ b o,b∉ch→s.heap.get? b=some o→∃ o',h'.get? b=some o')
  (tups:∀ b xs,H b=some (.tup xs)→H' b=some (.tup xs)) (frzs:∀ b o u,H b=some (.frz o u)→H' b=some (.frz o u)) (tbls:∀ b ps,H b=some (.tbl ps)→∃ more,H' b=some (.tbl (ps++more)))
  (ns:∀ m,s.heap.Ns X.env.locals m→h'.Ns X.env.locals m) (hok:HOk X.prog X.w H' h') (hg:AllBare g') :
  Inv X pins σ H' { s with heap:=h',gens:=g',drawn:=d',toks:=t' }:=by
 have neL:∀ b o,X.s₀.heap.get? b=some o→b≠X.env.locals:=fun b o e=>Nat.ne_of_lt (Nat.lt_of_lt_of_le (Heap.lt_size e) I.ok.above)
 have neC:∀ b o,X.s₀.heap.get? b=some o→b∉X.ex→b∉ch:=fun b o e hx hb=>by
  rcases (hch b hb).1 with z | z
  ·exact hx z
  ·exact absurd (Nat.lt_of_lt_of_le (Heap.lt_size e) z) (Nat.lt_irrefl _)
 have cellK:∀ x c,X.env.cells.lookup x=some c→∀ v,s.heap.IsCell c v→h'.IsCell c v:=fun x c e v ⟨o,ho,hd⟩=>by
  have nch:c∉ch:=fun z=>(hch c z).2.2.1 x c e rfl
  by_cases hc:c∈X.fs
  ·obtain⟨sl,q⟩:=slot c o (I.cne x c e) hc nch ho (I.freeC x c e)
   exact⟨_,q,hd⟩
  ·exact⟨o,keep c o (I.cne x c e) hc nch ho (I.freeC x c e),hd⟩
 refine⟨I.ok,I.os,hg,⟨fun b o e n hb hx=>?_,fun b o e n hb hx=>?_,fun b o e n hx=>?_,fun b o e hx=>?_,fun b xs e=>tups b xs (I.base.tups b xs e),fun b o xs e=>frzs b o xs (I.base.frzs b o xs e),fun b ps e=>?_⟩,?_,fun x c e=>?_,?_,fun x c e=>?_,fun p hp=>?_,hok,I.len⟩
 ·exact keep b o (neL b o e) hb (neC b o e hx) (I.base.keep b o e n hb hx) (I.base.free b o e n hx)
 ·obtain⟨sl,e1⟩:=I.base.slot b o e n hb hx
  obtain⟨sl',e2⟩:=slot b _ (neL b o e) hb (neC b o e hx) e1 (I.base.free b o e n hx)
  exact⟨sl',e2⟩
 ·obtain⟨o',e1⟩:=I.base.there b o e hx
  exact free b o' (neC b o e hx) e1 (I.base.free b o e n hx)
 ·obtain⟨o',e1⟩:=I.base.there b o e hx
  exact there b o' (neC b o e hx) e1
 ·obtain⟨m1,e1⟩:=I.base.tbls b ps e
  obtain⟨m2,e2⟩:=tbls b _ e1
  exact⟨m1++m2,by rw[e2,Array.append_assoc]⟩
 ·obtain⟨m,hn,hl⟩:=I.loc
  refine⟨m,ns m hn,fun i x v e1 e2 e3=>?_⟩
  obtain⟨u,r,l⟩:=hl i x v e1 e2 e3
  refine⟨u,r,?_⟩
  rcases l with l | ⟨k,c,e,z⟩
  ·exact .inl l
  ·exact .inr ⟨k,c,e,cellK x c e _ z⟩
 ·obtain⟨v,z⟩:=I.cell x c e
  exact⟨v,cellK x c e v z⟩
 ·obtain⟨m,⟨o,_,_,ho,_⟩,_⟩:=I.loc
  exact free _ o (fun z=>(hch _ z).2.1 rfl) ho I.free
 ·obtain⟨v,o,ho,hd⟩:=I.cell x c e
  exact free c o (fun z=>(hch c z).2.2.1 x c e rfl) ho (I.freeC x c e)
 ·obtain⟨e,n,ne,nf,d⟩:=I.pin p hp
  have nch:p.1∉ch:=fun z=>(hch p.1 z).2.2.2 p hp rfl
  exact⟨keep p.1 p.2 ne nf nch e n,free p.1 p.2 nch e n,ne,nf,d⟩
theorem Inv.un {t':Nat} (I:Inv X pins σ H s) (u:Un X.fs [] H H' s.heap h') (hok:HOk X.prog X.w H' h'):Inv X pins σ H' { s with heap:=h',toks:=t' }:=by
 obtain⟨m,⟨o,es,ep,ho,r⟩,_⟩:=id I.loc
 obtain⟨sl,hL⟩:=u.any ho I.free (by simp)
 exact I.step (g':=s.gens) (d':=s.drawn) (ch:=[]) (fun _ z=>nomatch z) (fun b o _ hb _ e n=>u.keep b o e n hb (by simp)) (fun b o _ hb _ e n=>u.slot b o e n hb (by simp)) (fun b o _ e n=>u.free b o e n (by simp)) (fun b o _ e=>u.there b o e (by simp)) u.tups u.frzs u.tbls (fun m' hm=>by
  obtain⟨o',es',ep',ho',r'⟩:=hm
  rw[ho] at ho';cases ho'
  exact⟨_,es',ep',hL,r'⟩) hok I.bare
theorem Inv.call {g':Array GenState}{t':Nat}{d':Drawn}{ch:List Addr} (I:Inv X pins σ H s) (u:Un (frs X.stack) ch H H' s.heap h') (hok:HOk X.prog X.w H' h') (hg:AllBare g')
  (hch:∀ b∈ch,(b∈X.ex∨X.s₀.heap.objs.size≤b)∧b≠X.env.locals∧(∀ x c,X.env.cells.lookup x=some c→c≠b)∧∀ p∈X.pn++pins,p.1≠b) :
  Inv X pins σ H' { s with heap:=h',gens:=g',drawn:=d',toks:=t' }:=by
 obtain⟨m,⟨o,es,ep,ho,r⟩,_⟩:=id I.loc
 obtain⟨sl,hL⟩:=u.any ho I.free fun z=>(hch _ z).2.1 rfl
 exact I.step (ch:=ch) hch (fun b o hL hb hc e n=>u.keep b o e n (fun z=>(List.mem_cons.mp (I.stkSub b z)).elim hL hb) hc) (fun b o _ _ hc e n=>u.any e n hc) (fun b o hc e n=>u.free b o e n hc) (fun b o hc e=>u.there b o e hc) u.tups u.frzs u.tbls (fun m' hm=>by
  obtain⟨o',es',ep',ho',r'⟩:=hm
  rw[ho] at ho';cases ho'
  exact⟨_,es',ep',hL,r'⟩) hok hg
theorem Inv.turned {t':Nat}{it:Addr} (I:Inv X pins σ H s) (k:∀ b o,b≠it→s.heap.get? b=some o→h'.get? b=some o) (hn:H it=none) (hL:it≠X.env.locals)
  (h1:it∈X.ex∨X.s₀.heap.objs.size≤it) (h2:∀ x c,X.env.cells.lookup x=some c→c≠it) (h3:∀ p∈X.pn++pins,p.1≠it):Inv X pins σ H { s with heap:=h',toks:=t' }:=by
 have nit:∀ b u,H b=some u→b≠it:=fun b u e z=>by rw[z,hn] at e;cases e
 refine I.step (g':=s.gens) (d':=s.drawn) (ch:=[it]) (fun b hb=>?_) (fun b o _ _ hc e _=>k b o (fun z=>hc (by simp [z])) e) (fun b o _ _ hc e _=>⟨o.slots,k b o (fun z=>hc (by simp [z])) e⟩) (fun _ _ _ _ n=>n)
  (fun b o hc e=>⟨o,k b o (fun z=>hc (by simp [z])) e⟩) (fun _ _ e=>e) (fun _ _ _ e=>e) (fun b ps e=>⟨#[],by rw[e];simp⟩) (fun m hm=>?_) (fun b u e=>?_) I.bare
 ·have e:b=it:=by simpa using hb
  subst e
  exact⟨h1,hL,h2,h3⟩
 ·obtain⟨o,es,ep,ho,r⟩:=hm
  exact⟨o,es,ep,k _ o (Ne.symm hL) ho,r⟩
 ·refine (I.hok b u e).stay (fun c v hc q=>k c v ?_ q) (fun _ q=>q) fun _ _ q=>q
  rcases hc with z | z
  ·rw[z];exact nit b u e
  ·exact nit c _ z
theorem Inv.tok (I:Inv X pins σ H s) (t:Nat):Inv X pins σ H { s with toks:=t }:=I.un (h':=s.heap) (t':=t) Un.refl I.hok
theorem Inv.kept {t':Nat} (I:Inv X pins σ H s) (k:∀ b u,s.heap.get? b=some u→h'.get? b=some u):Inv X pins σ H { s with heap:=h',toks:=t' }:=I.un (Un.kept k) (I.hok.kept k)
theorem Inv.laid {a:Addr}{o:HO}{t':Nat} (I:Inv X pins σ H s) (k:∀ b u,s.heap.get? b=some u→h'.get? b=some u) (hp:s.heap.objs.size≤a) (new:bQ X.prog X.w (upd H a o) h' a o) :
  Inv X pins σ (upd H a o) { s with heap:=h',toks:=t' }:=I.un (Un.laid k hp (I.hok.fresh hp)) (I.hok.laid k hp new)
theorem Inv.write {x e:Addr}{o:HO}{t':Nat} (I:Inv X pins σ H s) (mu:Mut (H x)) (he:e=x∨H e=some (.own x)) (k:∀ b u,b≠e→s.heap.get? b=some u→h'.get? b=some u) (heo:∃ u,h'.get? e=some u)
  (new:bQ X.prog X.w (upd H x o) h' x o):Inv X pins σ (upd H x o) { s with heap:=h',toks:=t' }:=I.un (Un.write mu he k heo) (I.hok.write mu he k heo new)
theorem Inv.pins_of {pins':List (Addr×Obj)} (I:Inv X pins σ H s) (h:∀ p∈pins',s.heap.get? p.1=some p.2∧H p.1=none∧p.1≠X.env.locals∧p.1∉X.fs∧∀ v,p.2.data≠.cell v):Inv X pins' σ H s:=
 ⟨I.ok,I.os,I.bare,I.base,I.loc,I.cell,I.free,I.freeC,fun p hp=>(List.mem_append.mp hp).elim (fun z=>I.pin p (List.mem_append_left _ z)) (h p),I.hok,I.len⟩
theorem nodup_ix {N:List Str} (hN:N.Nodup) {i j:Nat}{x:Str} (a:N[i]? = some x) (b:N[j]? = some x):i=j:=by
 obtain⟨h1,e1⟩:=List.getElem?_eq_some_iff.mp a
 obtain⟨h2,e2⟩:=List.getElem?_eq_some_iff.mp b
 exact (List.getElem_inj hN).mp (e1.trans e2.symm)
theorem store_ok2 {M:Model}{A:Around}{E:Value→Shared→Prop}{i:Nat}{x:Str}{v:V}{u:Value}{Q:Unit→Shared→Prop} (I:Inv X pins σ H s) (hN:X.N.Nodup) (hi:X.N[i]? = some x) (hx:Loc X.env.scope x) (r:aY v u)
  (h:∀ s',Inv X pins (σ.set i (some v)) H s'→(∃ a,Heap.SameBut a s.heap s'.heap∧(a=X.env.locals∨X.env.cells.lookup x=some a))→Q () s') (hf:X.fn x=true∨X.env.scope.names.lookup x=some .local:=by first | exact .inl rfl | exact .inr rfl | assumption):wpAny M A (storeName X.env x u) Q E s:=by
 obtain⟨m,hn,hl⟩:=id I.loc
 have hcls:(X.env.scope.kind == .class || (X.env.scope.kind == .module && X.env.locals != X.env.globals))=false:=by rw[I.ok.kind];rfl
 have hiσ:i < σ.length:=by rw[I.len];exact (List.getElem?_eq_some_iff.mp hi).1
 have cne:=I.cne
 have tracked:∀ {a:Addr}{h':Heap},(∃ o,s.heap.get? a=some o∧H a=none)→Heap.SameBut a s.heap h'→HOk X.prog X.w H h':=fun {a h'} ha hs b ob e=>by
  obtain⟨_,_,hfree⟩:=ha
  refine (I.hok b ob e).stay (fun c w' hc q=>(hs.2 c ?_).trans q) (fun _ q=>q) fun _ _ q=>q
  rintro rfl
  rcases hc with rfl | hc
  ·rw[hfree] at e;cases e
  ·rw[hfree] at hc;cases hc
 rcases hx with hk | hk
 ·refine wpAny_storeName_local hk hn (fun h' hn' hs=>?_) hcls
  obtain⟨oL,_,_,hoL,_⟩:=id hn
  refine h _ ⟨I.ok,I.os,I.bare,⟨fun b o e n hb hx=>?_,fun b o e n hb hx=>?_,I.base.free,fun b o e hx=>?_,I.base.tups,I.base.frzs,I.base.tbls⟩,⟨_,hn',fun j y v' e1 e2 e3=>?_⟩,fun y c e=>?_,I.free,I.freeC,fun p hp=>?_,tracked ⟨oL,hoL,I.free⟩ hs,by simpa using I.len⟩ ⟨_,hs,.inl rfl⟩
  ·exact (hs.2 b (Nat.ne_of_lt (Nat.lt_of_lt_of_le (Heap.lt_size e) I.ok.above))).trans (I.base.keep b o e n hb hx)
  ·obtain⟨sl,e1⟩:=I.base.slot b o e n hb hx
   exact⟨sl,(hs.2 b (Nat.ne_of_lt (Nat.lt_of_lt_of_le (Heap.lt_size e) I.ok.above))).trans e1⟩
  ·obtain⟨o',e1⟩:=I.base.there b o e hx
   exact⟨o',(hs.2 b (Nat.ne_of_lt (Nat.lt_of_lt_of_le (Heap.lt_size e) I.ok.above))).trans e1⟩
  ·by_cases hj:j=i
   ·subst hj
    rw[hi] at e1;cases e1
    rw[List.getElem?_set_self hiσ] at e2
    cases e2
    exact⟨u,r,.inl ⟨hk,by simp⟩⟩
   ·rw[List.getElem?_set_ne (Ne.symm hj)] at e2
    obtain⟨u',r',q⟩:=hl j y v' e1 e2 e3
    refine⟨u',r',?_⟩
    rcases q with ⟨k,e⟩ | ⟨k,c,e,z⟩
    ·refine .inl ⟨k,?_⟩
     have:y≠x:=fun e=>hj (nodup_ix hN e1 (e ▸ hi))
     simp [this,e]
    ·exact .inr ⟨k,c,e,z.sameBut hs (cne y c e)⟩
  ·obtain⟨w',z⟩:=I.cell y c e
   exact⟨w',z.sameBut hs (cne y c e)⟩
  ·obtain⟨e,n,ne,nf,d⟩:=I.pin p hp
   exact⟨(hs.2 p.1 ne).trans e,n,ne,nf,d⟩
 ·have hfn:X.fn x=true:=by
   rcases hf with z | z
   ·exact z
   ·rw[z] at hk;cases hk
  obtain⟨c,hc⟩:=I.ok.has x (.inl hk)
  obtain⟨w',z⟩:=I.cell x c hc
  refine wpAny_storeName_cell I.ok.kind hk hc z (fun h' hc' hs=>?_)
  obtain⟨oc,hoc,hocd⟩:=id z
  refine h { s with heap:=h' } ⟨I.ok,I.os,I.bare,⟨fun b o e n hb hx=>?_,fun b o e n hb hx=>?_,I.base.free,fun b o e hx=>?_,I.base.tups,I.base.frzs,I.base.tbls⟩,⟨m,hn.sameBut hs (Ne.symm (cne x c hc)),fun j y v' e1 e2 e3=>?_⟩,fun y c' e=>?_,I.free,I.freeC,fun p hp=>?_,tracked ⟨oc,hoc,I.freeC x c hc⟩ hs,by simpa using I.len⟩ ⟨c,hs,.inr hc⟩
  ·exact (hs.2 b (Nat.ne_of_lt (Nat.lt_of_lt_of_le (Heap.lt_size e) (I.ok.cab x c hfn hc)))).trans (I.base.keep b o e n hb hx)
  ·obtain⟨sl,e1⟩:=I.base.slot b o e n hb hx
   exact⟨sl,(hs.2 b (Nat.ne_of_lt (Nat.lt_of_lt_of_le (Heap.lt_size e) (I.ok.cab x c hfn hc)))).trans e1⟩
  ·obtain⟨o',e1⟩:=I.base.there b o e hx
   exact⟨o',(hs.2 b (Nat.ne_of_lt (Nat.lt_of_lt_of_le (Heap.lt_size e) (I.ok.cab x c hfn hc)))).trans e1⟩
  ·by_cases hj:j=i
   ·subst hj
    rw[hi] at e1;cases e1
    rw[List.getElem?_set_self hiσ] at e2
    cases e2
    exact⟨u,r,.inr ⟨.inl hk,c,hc,hc'⟩⟩
   ·rw[List.getElem?_set_ne (Ne.symm hj)] at e2
    obtain⟨u',r',q⟩:=hl j y v' e1 e2 e3
    refine⟨u',r',?_⟩
    rcases q with q | ⟨k,c',e,z'⟩
    ·exact .inl q
    ·refine .inr ⟨k,c',e,z'.sameBut hs ?_⟩
     rintro rfl
     exact hj (nodup_ix hN e1 (I.ok.inj _ _ _ e hc ▸ hi))
  ·by_cases hcc:c'=c
   ·subst hcc;exact⟨_,hc'⟩
   ·obtain⟨w2,z2⟩:=I.cell y c' e
    exact⟨w2,z2.sameBut hs hcc⟩
  ·obtain⟨e,n,ne,nf,d⟩:=I.pin p hp
   refine⟨(hs.2 p.1 ?_).trans e,n,ne,nf,d⟩
   intro q
   rw[q,hoc] at e
   have q':oc=p.2:=Option.some.inj e
   exact d w' (by rw[← q'];exact hocd)
theorem store_ok {M:Model}{A:Around}{E:Value→Shared→Prop}{i:Nat}{x:Str}{v:V}{u:Value}{Q:Unit→Shared→Prop} (I:Inv X pins σ H s) (hN:X.N.Nodup) (hi:X.N[i]? = some x) (hx:Loc X.env.scope x) (r:aY v u)
  (h:∀ s',Inv X pins (σ.set i (some v)) H s'→Q () s') (hf:X.fn x=true∨X.env.scope.names.lookup x=some .local:=by first | exact .inl rfl | exact .inr rfl | assumption):wpAny M A (storeName X.env x u) Q E s:=
 store_ok2 I hN hi hx r (fun s' I' _=>h s' I') hf
theorem Inv.call' {s':Shared}{ch:List Addr} (I:Inv X pins σ H s) (ho:s'.os=s.os) (u:Un (frs X.stack) ch H H' s.heap s'.heap) (hok:HOk X.prog X.w H' s'.heap) (hg:AllBare s'.gens)
  (hch:∀ b∈ch,(b∈X.ex∨X.s₀.heap.objs.size≤b)∧b≠X.env.locals∧(∀ x c,X.env.cells.lookup x=some c→c≠b)∧∀ p∈X.pn++pins,p.1≠b):Inv X pins σ H' s':=by
 obtain⟨h',g',d',t',o'⟩:=s'
 have e:o'=s.os:=ho
 subst e
 exact I.call (g':=g') (t':=t') (d':=d') u hok hg hch
end
noncomputable abbrev XK:=Value→Option Addr→Hp→Prop
noncomputable abbrev St:=List (Option V)
noncomputable abbrev VK:=V→Hp→Prop
noncomputable abbrev TE:=St→Hp→VK→Prop
noncomputable abbrev TT:=St→Hp→(Bool→Hp→Prop)→Prop
noncomputable abbrev TA:=St→Hp→(List V→Hp→Prop)→Prop
structure Ends where
 nx:St→Hp→Prop
 rt:VK
 bk:St→Hp→Prop:=fun _ _=>False
 ct:St→Hp→Prop:=fun _ _=>False
noncomputable abbrev TS:=Ends→St→Hp→Prop
noncomputable def EP (X:Cx) (pins:List (Addr×Obj)) (σ:St) (Q:VK) (u:Value) (s':Shared):Prop:=∃ v H',Inv X pins σ H' s'∧aY v u∧Q v H'
noncomputable def TP (X:Cx) (pins:List (Addr×Obj)) (σ:St) (Q:Bool→Hp→Prop) (b:Bool) (s':Shared):Prop:=∃ H',Inv X pins σ H' s'∧Q b H'
noncomputable def AP (X:Cx) (pins:List (Addr×Obj)) (σ:St) (Q:List V→Hp→Prop) (us:List Value) (s':Shared):Prop:=∃ vs H',Inv X pins σ H' s'∧bD vs us∧Q vs H'
noncomputable def SP (X:Cx) (pins:List (Addr×Obj)) (D:Ends) (f:Flow) (s':Shared):Prop:=
 match f with
 | .next=>∃ σ' H',Inv X pins σ' H' s'∧D.nx σ' H'
 | .brk=>∃ σ' H',Inv X pins σ' H' s'∧D.bk σ' H'
 | .cont=>∃ σ' H',Inv X pins σ' H' s'∧D.ct σ' H'
 | .ret u=>∃ v σ' H',Inv X pins σ' H' s'∧aY v u∧D.rt v H'
noncomputable def PE (X:Cx) (e:Expr) (t:TE):Prop:=
 ∀ (pins:List (Addr×Obj)) (s:Shared) (σ:St) (H:Hp) (Q:VK),Inv X pins σ H s→t σ H Q→wpAny (model X.prog X.w) X.A (eval e X.env) (EP X pins σ Q) X.xe s
noncomputable def PT (X:Cx) (e:Expr) (t:TT):Prop:=
 ∀ (pins:List (Addr×Obj)) (s:Shared) (σ:St) (H:Hp) (Q:Bool→Hp→Prop),Inv X pins σ H s→t σ H Q→wpAny (model X.prog X.w) X.A (isTrue e X.env (eval e X.env)) (TP X pins σ Q) X.xe s
noncomputable def PW (X:Cx) (e:Expr) (t:TT):Prop:=
 ∀ (whole:Sem Value) (pins:List (Addr×Obj)) (s:Shared) (σ:St) (H:Hp) (Q:Bool→Hp→Prop),Inv X pins σ H s→t σ H Q→wpAny (model X.prog X.w) X.A (isTrue e X.env whole) (TP X pins σ Q) X.xe s
theorem PW.pt {X:Cx}{e:Expr}{t:TT} (h:PW X e t):PT X e t:=h _
noncomputable def PA (X:Cx) (es:List Expr) (t:TA):Prop:=
 ∀ (pos:Pos) (pins:List (Addr×Obj)) (s:Shared) (σ:St) (H:Hp) (Q:List V→Hp→Prop),Inv X pins σ H s→t σ H Q→wpAny (model X.prog X.w) X.A (spliced (backTo pos (starEach es X.env))) (AP X pins σ Q) X.xe s
noncomputable def PS (X:Cx) (st:Stmt) (t:TS):Prop:=
 ∀ (pins:List (Addr×Obj)) (s:Shared) (σ:St) (H:Hp) (D:Ends),Inv X pins σ H s→t D σ H→wpAny (model X.prog X.w) X.A (exec st X.env) (SP X pins D) X.xe s
noncomputable def PSs (X:Cx) (st:List Stmt) (t:TS):Prop:=
 ∀ (pins:List (Addr×Obj)) (s:Shared) (σ:St) (H:Hp) (D:Ends),Inv X pins σ H s→t D σ H→wpAny (model X.prog X.w) X.A (execs st X.env) (SP X pins D) X.xe s
theorem bZ {α:Type}{t:Sem α}{Q Q':α→Shared→Prop}{M:Model}{A:Around}{E:Value→Shared→Prop}{s:Shared} (h:wpAny M A t Q E s) (hQ:∀ a s,Q a s→Q' a s):wpAny M A t Q' E s:=wpAny_mono h hQ fun _ _ x=>x
end L2
namespace L2
open PySem PySem.Spec PyProof.Rows
section
variable {X:Cx}
noncomputable def cL (i:Nat):TE:=fun σ H Q=>∃ v,σ[i]? = some (some v)∧Q v H
noncomputable def tC (v:V):TE:=fun _ H Q=>Q v H
theorem pe_var {i:Nat}{x:Str}{pos:Pos} (hN:X.N[i]? = some x) (hv:Vis X.env.scope x) (hd:(x == ("__debug__" : Str))=false:=by decide) (hcd:(x == ("__classdict__" : Str))=false:=by decide):PE X (.Name x pos) (cL i):=by
 intro pins s σ H Q I h
 obtain⟨v,e,h⟩:=h
 obtain⟨m,hn,hl⟩:=I.loc
 obtain⟨u,r,l⟩:=hl i x v hN e hv
 have fin:EP X pins σ Q u s:=⟨v,H,I,r,h⟩
 rcases l with ⟨hk,hm⟩ | ⟨hk,c,hc,hcell⟩
 ·exact wpAny_Name (wpAny_loadName_local I.ok.kind hk hn hm fin) hd
 ·rcases hk with hk | hk
  ·exact wpAny_Name (wpAny_loadName_cell I.ok.kind hk hc hcell fin) hd
  ·exact wpAny_Name (wpAny_loadName_free I.ok.kind hk hc hcell fin hcd) hd
theorem aD {i j pos}:PE X (.Constant (.int i) j pos) (tC (.int i)):=fun _ _ _ H _ I h=>wpAny_Constant_int ⟨.int i,H,I.tok _,⟨_,rfl⟩,h⟩
theorem cW {b j pos}:PE X (.Constant (.bool b) j pos) (tC (.bl b)):=fun _ _ _ H _ I h=>Constant_bool ⟨.bl b,H,I,rfl,h⟩
theorem pe_non {j pos}:PE X (.Constant .none j pos) (tC .non):=fun _ _ _ H _ I h=>Constant_none ⟨.non,H,I,rfl,h⟩
theorem cI {x j pos}:PE X (.Constant (.str x) j pos) (tC (.str x)):=fun _ _ _ H _ I h=>Calls.Constant_str ⟨.str x,H,I.tok _,⟨_,rfl⟩,h⟩
noncomputable def Gl (X:Cx) (x:Str):Prop:=X.env.kindOf x=some .globalImplicit
theorem ld_glob {E:Value→Shared→Prop}{pins:List (Addr×Obj)}{s:Shared}{σ:St}{H:Hp}{x:Str}{u:Value}{pos:Pos}{Q:Value→Shared→Prop} (I:Inv X pins σ H s) (hg:Gl X x) (hm:X.mg x=some u) (h:Q u s)
  (hd:(x == ("__debug__" : Str))=false:=by decide):wpAny (model X.prog X.w) X.A (eval (.Name x pos) X.env) Q E s:=
 Calls.Name_function_global I.ok.kind hg (Calls.loadGlobal_global (by rw[I.ok.glob];exact I.mod.glob.keeps I.bk) hm h) hd
theorem ld_blt {E:Value→Shared→Prop}{pins:List (Addr×Obj)}{s:Shared}{σ:St}{H:Hp}{x:Str}{u:Value}{pos:Pos}{Q:Value→Shared→Prop} (I:Inv X pins σ H s) (hg:Gl X x) (hm:X.mg x=none) (hv:bootBuiltins x=some u) (h:Q u s)
  (hn:x ≠ "__name__" := by decide) (hd:(x == ("__debug__" : Str))=false:=by decide):wpAny (model X.prog X.w) X.A (eval (.Name x pos) X.env) Q E s:=by
 obtain⟨mb,h1,h2⟩:=I.mod.blt
 exact Calls.Name_function_global I.ok.kind hg (Calls.loadGlobal_builtin (by rw[I.ok.glob];exact I.mod.glob.keeps I.bk) hm (by rw[I.ok.blt];exact h1.keeps I.bk) ((h2 x hn).trans hv) h) hd
theorem pe_glob {x:Str}{v:V}{u:Value}{pos:Pos} (hg:Gl X x) (hm:X.mg x=some u) (r:aY v u) (hd:(x == ("__debug__" : Str))=false:=by decide):PE X (.Name x pos) (tC v):=
 fun _ _ _ H _ I h=>ld_glob I hg hm ⟨v,H,I,r,h⟩ hd
theorem cD {x:Str}{v:V}{u:Value}{pos:Pos} (hg:Gl X x) (hm:X.mg x=none) (hv:bootBuiltins x=some u) (r:aY v u) (hn:x ≠ "__name__" := by decide) (hd:(x == ("__debug__" : Str))=false:=by decide):PE X (.Name x pos) (tC v):=
 fun _ _ _ H _ I h=>ld_blt I hg hm hv ⟨v,H,I,r,h⟩ hn hd
variable {a b:Expr}{ta tb:TE}{pos:Pos}
noncomputable def PC (X:Cx) (op:CmpOp) (a b:Expr) (t:TE):Prop:=
 ∀ (pins:List (Addr×Obj)) (s:Shared) (σ:St) (H:Hp) (Q:VK),Inv X pins σ H s→t σ H Q→
  wpAny (model X.prog X.w) X.A (eval a X.env) (fun v s₁=>wpAny (model X.prog X.w) X.A (eval b X.env) (fun u s₂=>wpAny (model X.prog X.w) X.A (compareOp op v u) (EP X pins σ Q) X.xe s₂) X.xe s₁) X.xe s
noncomputable def tB (t:TE):TT:=fun σ H Q=>t σ H fun x H1=>∃ c,x=.bl c∧Q c H1
theorem pt_cmp {op:CmpOp}{t:TE} (h:PC X op a b t) (h1:behindInMarks op b=false:=by first | exact nobehind _ (by decide) (by decide) | rfl):PT X (.Compare a [op] [b] pos) (tB t):=by
 intro pins s σ H Q I hw
 refine wpAny_isTrue_Compare1 (bZ (h pins s σ H _ I hw) fun v s1 h1=>bZ h1 fun u s2 h2=>bZ h2 fun c s3 ⟨x,H1,I1,r1,q1⟩=>?_) h1
 obtain⟨d,rfl,q⟩:=q1
 cases r1
 exact wpAny_truthy_bool ⟨H1,I1,q⟩
theorem bW {e:Expr}{t:TE} (h:PE X e t) (he:∀ whole,isTrue e X.env whole=(do let v ← whole;standAt e.pos;holding [v] (truthy v)):=by intro _;rfl):PT X e (tB t):=by
 intro pins s σ H Q I hw
 refine isTrue_plain (bZ (h pins s σ H _ I hw) fun v s1 ⟨x,H1,I1,r1,q1⟩=>?_) (he _)
 obtain⟨d,rfl,q⟩:=q1
 cases r1
 exact wpAny_truthy_bool ⟨H1,I1,q⟩
variable {tA tB':TT}{rest:List Expr}
noncomputable def tAnd (t u:TT):TT:=fun σ H Q=>t σ H fun c H1=>if c=true then u σ H1 Q else Q false H1
noncomputable def tOr (t u:TT):TT:=fun σ H Q=>t σ H fun c H1=>if c=true then Q true H1 else u σ H1 Q
noncomputable def tNot (t:TT):TT:=fun σ H Q=>t σ H fun c H1=>Q (!c) H1
theorem pw_and1 (ha:PT X a tA):PW X (.BoolOp .And [a] pos) tA:=by
 intro wh pins s σ H Q I h
 refine isTrue_and (bZ (ha pins s σ H Q I h) fun c s1 e=>?_)
 cases c with
 | true=>exact isTrue_and_nil e
 | false=>exact e
theorem cP (ha:PT X a tA):PW X (.BoolOp .Or [a] pos) tA:=by
 intro wh pins s σ H Q I h
 refine isTrue_or (bZ (ha pins s σ H Q I h) fun c s1 e=>?_)
 cases c with
 | false=>exact isTrue_or_nil e
 | true=>exact e
theorem pw_and (ha:PT X a tA) (hb:PW X (.BoolOp .And (b::rest) pos) tB'):PW X (.BoolOp .And (a::b::rest) pos) (tAnd tA tB'):=by
 intro wh pins s σ H Q I h
 refine isTrue_and (bZ (ha pins s σ H _ I h) fun c s1 ⟨H1,I1,q1⟩=>?_)
 cases c with
 | true=>exact hb wh pins s1 σ H1 Q I1 q1
 | false=>exact⟨H1,I1,q1⟩
theorem cU (ha:PT X a tA) (hb:PW X (.BoolOp .Or (b::rest) pos) tB'):PW X (.BoolOp .Or (a::b::rest) pos) (tOr tA tB'):=by
 intro wh pins s σ H Q I h
 refine isTrue_or (bZ (ha pins s σ H _ I h) fun c s1 ⟨H1,I1,q1⟩=>?_)
 cases c with
 | true=>exact⟨H1,I1,q1⟩
 | false=>exact hb wh pins s1 σ H1 Q I1 q1
theorem bS (ha:PT X a tA):PT X (.UnaryOp .Not a pos) (tNot tA):=by
 intro pins s σ H Q I h
 exact isTrue_not (ha pins s σ H (fun c H1=>Q (!c) H1) I h)
noncomputable def tAndV (ta tb:TE):TE:=fun σ H Q=>ta σ H fun x H1=>∃ c,x=.bl c∧if c=true then tb σ H1 Q else Q (.bl false) H1
noncomputable def tOrV (ta tb:TE):TE:=fun σ H Q=>ta σ H fun x H1=>∃ c,x=.bl c∧if c=true then Q (.bl true) H1 else tb σ H1 Q
noncomputable def tNotV (ta:TE):TE:=fun σ H Q=>ta σ H fun x H1=>∃ c,x=.bl c∧Q (.bl (!c)) H1
theorem pe_one {op}{t:TE} (h:PE X a t):PE X (.BoolOp op [a] pos) t:=fun pins s σ H Q I hw=>BoolOp_one (h pins s σ H Q I hw)
theorem pe_and (ha:PE X a ta) (hb:PE X (.BoolOp .And (b::rest) pos) tb):PE X (.BoolOp .And (a::b::rest) pos) (tAndV ta tb):=by
 intro pins s σ H Q I h
 refine BoolOp_and (bZ (ha pins s σ H _ I h) fun v s1 ⟨x,H1,I1,r1,q1⟩=>?_)
 obtain⟨c,rfl,q1⟩:=q1
 cases r1
 refine wpAny_truthy_bool ?_
 cases c with
 | true=>exact hb pins s1 σ H1 Q I1 q1
 | false=>exact⟨.bl false,H1,I1,rfl,q1⟩
theorem pe_or (ha:PE X a ta) (hb:PE X (.BoolOp .Or (b::rest) pos) tb):PE X (.BoolOp .Or (a::b::rest) pos) (tOrV ta tb):=by
 intro pins s σ H Q I h
 refine BoolOp_or (bZ (ha pins s σ H _ I h) fun v s1 ⟨x,H1,I1,r1,q1⟩=>?_)
 obtain⟨c,rfl,q1⟩:=q1
 cases r1
 refine wpAny_truthy_bool ?_
 cases c with
 | false=>exact hb pins s1 σ H1 Q I1 q1
 | true=>exact⟨.bl true,H1,I1,rfl,q1⟩
theorem pe_not (ha:PE X a ta):PE X (.UnaryOp .Not a pos) (tNotV ta):=by
 intro pins s σ H Q I h
 refine UnaryOp_ (bZ (ha pins s σ H _ I h) fun v s1 ⟨x,H1,I1,r1,q1⟩=>?_)
 obtain⟨c,rfl,q1⟩:=q1
 cases r1
 exact not_of (wpAny_truthy_bool ⟨.bl (!c),H1,I1,rfl,q1⟩)
end
end L2
namespace L2
open PySem PySem.Spec PyProof.Rows
noncomputable def bT (K:PySem.W.Frag) (H:Hp) (a:Addr) (xs:List V):Prop:=
 Rd H a (.lst xs)∨
  ∃ (o:Obj) (its:Array Value) (n:Nat),K.lookup a=some o∧o.cls=.type "list" ∧ o.dict=none∧o.data=.seq its n∧its.size≤sizeLine∧bD xs its.toList
noncomputable def bR (K:PySem.W.Frag) (H:Hp) (a:Addr) (xs:List V):Prop:=
 Rd H a (.tup xs)∨
  ∃ (o:Obj) (its:Array Value) (n:Nat),K.lookup a=some o∧o.cls=.type "tuple" ∧ o.data=.seq its n∧its.size≤sizeLine∧bD xs its.toList
noncomputable def absV:Value→Option V
 | .none=>some .non
 | .bool b=>some (.bl b)
 | .int i _=>some (.int i)
 | .str x _=>some (.str x)
 | .bytes b _=>some (.byt b)
 | .float b _=>some (.flt b)
 | .ref a=>some (.ref a)
 | .type n=>some (.ty n)
 | _=>none
theorem aY.abs {x:V}{u:Value} (r:aY x u):absV u=some x:=by
 cases x with
 | non=>cases r;rfl
 | bl _=>cases r;rfl
 | int _=>obtain⟨t,rfl⟩:=r;rfl
 | str _=>obtain⟨t,rfl⟩:=r;rfl
 | byt _=>obtain⟨t,rfl⟩:=r;rfl
 | flt _=>obtain⟨t,rfl⟩:=r;rfl
 | ref _=>cases r;rfl
 | ty _=>cases r;rfl
theorem aY.inj {x y:V}{u:Value} (r:aY x u) (q:aY y u):x=y:=Option.some.inj (r.abs.symm.trans q.abs)
theorem bD.inj:∀ {xs ys:List V}{us:List Value},bD xs us→bD ys us→xs=ys
 | _,_,_,.nil,.nil=>rfl
 | _,_,_,.cons r t,.cons r' t'=>by rw[r.inj r',bD.inj t t']
section
variable {X:Cx}{pins:List (Addr×Obj)}{σ:St}{H:Hp}{s:Shared}{a:Addr}{xs ys:List V}
theorem bT.of {K:PySem.W.Frag} (h:H a=some (.lst xs)):bT K H a xs:=.inl (.inl h)
theorem bR.of {K:PySem.W.Frag} (h:H a=some (.tup xs)):bR K H a xs:=.inl (.inl h)
theorem Inv.list (I:Inv X pins σ H s) (h:bT X.K H a xs):∃ its:List Value,bD xs its∧PlainL s.heap a its.toArray∧xs.length≤sizeLine:=by
 rcases h with h | ⟨o,its,n,hk,hc,hd,hs,hz,r⟩
 ·obtain⟨z,its,n,r,e⟩:=h.ok I.hok
  exact⟨its,r,⟨_,n,e,rfl,rfl,rfl⟩,z⟩
 ·refine⟨its.toList,r,⟨o,n,I.kIn a o hk,hc,hd,by simpa using hs⟩,?_⟩
  have e:=r.length
  simp only [Array.length_toList] at e
  omega
theorem Inv.tuple (I:Inv X pins σ H s) (h:bR X.K H a xs):∃ its:List Value,bD xs its∧IsTup s.heap a its.toArray∧xs.length≤sizeLine:=by
 rcases h with h | ⟨o,its,n,hk,hc,hs,hz,r⟩
 ·obtain⟨z,its,r,p⟩:=h.ok I.hok
  exact⟨its,r,p,z⟩
 ·refine⟨its.toList,r,⟨o,I.kIn a o hk,hc,n,by simpa using hs⟩,?_⟩
  have e:=r.length
  simp only [Array.length_toList] at e
  omega
theorem Inv.list_inj (I:Inv X pins σ H s) (h:bT X.K H a xs) (h':bT X.K H a ys):xs=ys:=by
 obtain⟨its,r,⟨o,n,e,_,_,d⟩,_⟩:=I.list h
 obtain⟨its',r',⟨o',n',e',_,_,d'⟩,_⟩:=I.list h'
 rw[e] at e';cases e'
 rw[d] at d'
 injection d' with d1 _
 have:its=its':=by simpa using congrArg Array.toList d1
 subst this
 exact r.inj r'
theorem Inv.tuple_inj (I:Inv X pins σ H s) (h:bR X.K H a xs) (h':bR X.K H a ys):xs=ys:=by
 obtain⟨its,r,⟨o,e,_,n,d⟩,_⟩:=I.tuple h
 obtain⟨its',r',⟨o',e',_,n',d'⟩,_⟩:=I.tuple h'
 rw[e] at e';cases e'
 rw[d] at d'
 injection d' with d1 _
 have:its=its':=by simpa using congrArg Array.toList d1
 subst this
 exact r.inj r'
end
noncomputable abbrev Cx.wish (X:Cx) (E:Value→Shared→Prop):Cx:={ X with xe:=E }
noncomputable abbrev Cx.nox (X:Cx):Cx:=X.wish fun _ _=>False
theorem Cx.Ok.wish {X:Cx} (ok:X.Ok) (E:Value→Shared→Prop):(X.wish E).Ok:=
 ⟨ok.mod,ok.kind,ok.glob,ok.blt,ok.above,ok.inj,ok.has,ok.cab,ok.hd,ok.frames,ok.stk,ok.exf,ok.bs,ok.bsz,ok.noex,ok.exfs,ok.funs,ok.frf⟩
theorem Cx.Ok.unwish {X:Cx}{E:Value→Shared→Prop} (ok:(X.wish E).Ok):X.Ok:=
 ⟨ok.mod,ok.kind,ok.glob,ok.blt,ok.above,ok.inj,ok.has,ok.cab,ok.hd,ok.frames,ok.stk,ok.exf,ok.bs,ok.bsz,ok.noex,ok.exfs,ok.funs,ok.frf⟩
section
variable {X:Cx}{pins:List (Addr×Obj)}{σ:St}{H:Hp}{s:Shared}{E:Value→Shared→Prop}
theorem Inv.wish (I:Inv X pins σ H s) (E:Value→Shared→Prop):Inv (X.wish E) pins σ H s:=⟨I.ok.wish E,I.os,I.bare,I.base,I.loc,I.cell,I.free,I.freeC,I.pin,I.hok,I.len⟩
theorem Inv.unwish (I:Inv (X.wish E) pins σ H s):Inv X pins σ H s:=⟨I.ok.unwish,I.os,I.bare,I.base,I.loc,I.cell,I.free,I.freeC,I.pin,I.hok,I.len⟩
theorem SP.unwish {D:Ends}{f:Flow}{s':Shared} (h:SP (X.wish E) pins D f s'):SP X pins D f s':=by
 cases f with
 | next=>obtain⟨σ',H',I,q⟩:=h;exact⟨σ',H',I.unwish,q⟩
 | brk=>obtain⟨σ',H',I,q⟩:=h;exact⟨σ',H',I.unwish,q⟩
 | cont=>obtain⟨σ',H',I,q⟩:=h;exact⟨σ',H',I.unwish,q⟩
 | ret u=>obtain⟨v,σ',H',I,r,q⟩:=h;exact⟨v,σ',H',I.unwish,r,q⟩
theorem PSs.nox {st:List Stmt}{t:TS} (h:PSs X.nox st t):PSs X st t:=fun pins s σ H D I hw=>
 wpAny_mono (h pins s σ H D (I.wish _) hw) (fun _ _ q=>q.unwish) fun _ _ z=>False.elim z
end
section
variable {X:Cx}{st:Stmt}{rest:List Stmt}{t u:TS}{e:Expr}{te:TE}{pos:Pos}
noncomputable def tNext:TS:=fun D σ H=>D.nx σ H
noncomputable def tSeq (t u:TS):TS:=fun D σ H=>t { D with nx:=u D } σ H
theorem bB:PSs X [] tNext:=fun _ _ σ H _ I h=>wpAny_execs_nil ⟨σ,H,I,h⟩
theorem aE (h1:PS X st t) (h2:PSs X rest u):PSs X (st::rest) (tSeq t u):=by
 intro pins s σ H D I h
 refine wpAny_execs_cons (bZ (h1 pins s σ H { D with nx:=u D } I h) fun f s1 q=>?_)
 cases f with
 | next=>
  obtain⟨σ',H',I',q⟩:=q
  exact h2 pins s1 σ' H' D I' q
 | ret v=>exact q
 | brk=>exact q
 | cont=>exact q
theorem aI (h1:PS X st t):PSs X [st] t:=by
 intro pins s σ H D I h
 refine wpAny_execs_cons (bZ (h1 pins s σ H D I h) fun f s1 q=>?_)
 cases f with
 | next=>exact wpAny_execs_nil q
 | ret v=>exact q
 | brk=>exact q
 | cont=>exact q
theorem Inv.quiet {pins:List (Addr×Obj)}{σ:St}{H:Hp}{s:Shared} (I:Inv X pins σ H s):interactive X.env=false:=by simp [interactive,I.ok.kind]
noncomputable def tDrop (te:TE):TS:=fun D σ H=>te σ H fun _ H1=>D.nx σ H1
theorem ps_expr (he:PE X e te) (hs:swapsWith e none pos.line X.env=pure false:=by rfl):PS X (.Expr e pos) (tDrop te):=by
 intro pins s σ H D I h
 exact wpAny_Expr_any (bZ (he pins s σ H _ I h) fun v s1 ⟨x,H1,I1,r1,q1⟩=>⟨σ,H1,I1,q1⟩) I.quiet hs
noncomputable def tRet (te:TE):TS:=fun D σ H=>te σ H D.rt
theorem aX (he:PE X e te):PS X (.Return (some e) pos) (tRet te):=by
 intro pins s σ H D I h
 exact wpAny_Return_some (bZ (he pins s σ H _ I h) fun v s1 ⟨x,H1,I1,r1,q1⟩=>⟨x,σ,H1,I1,r1,q1⟩)
noncomputable def tIfS (c:TT) (t u:TS):TS:=fun D σ H=>c σ H fun b H1=>if b=true then t D σ H1 else u D σ H1
theorem cB {c:Expr}{a b:List Stmt}{tc:TT} (hc:PT X c tc) (ha:PSs X a t) (hb:PSs X b u):PS X (.If c a b pos) (tIfS tc t u):=by
 intro pins s σ H D I h
 refine wpAny_If (bZ (hc pins s σ H _ I h) fun d s1 ⟨H1,I1,q1⟩=>?_)
 cases d with
 | true=>exact ha pins s1 σ H1 D I1 q1
 | false=>exact hb pins s1 σ H1 D I1 q1
end
noncomputable abbrev TG:=V→St→Hp→(St→Hp→Prop)→Prop
noncomputable abbrev TGs:=List V→St→Hp→(St→Hp→Prop)→Prop
noncomputable def PG (X:Cx) (target:Expr) (t:TG):Prop:=
 ∀ (pins:List (Addr×Obj)) (s:Shared) (σ:St) (H:Hp) (v:V) (u:Value) (Q:St→Hp→Prop),Inv X pins σ H s→aY v u→t v σ H Q→
  wpAny (model X.prog X.w) X.A (assign target X.env u) (fun _ s'=>∃ σ' H',Inv X pins σ' H' s'∧Q σ' H') X.xe s
noncomputable def PGs (X:Cx) (ts:List Expr) (t:TGs):Prop:=
 ∀ (pins:List (Addr×Obj)) (s:Shared) (σ:St) (H:Hp) (vs:List V) (us:List Value) (Q:St→Hp→Prop),Inv X pins σ H s→bD vs us→t vs σ H Q→
  wpAny (model X.prog X.w) X.A (assignInOrder ((assignEach ts X.env).map (·.2)) us) (fun _ s'=>∃ σ' H',Inv X pins σ' H' s'∧Q σ' H') X.xe s
noncomputable abbrev TSet:=V→V→V→Hp→(Hp→Prop)→Prop
noncomputable def PSet (X:Cx) (t:TSet):Prop:=
 ∀ (pins:List (Addr×Obj)) (s:Shared) (σ:St) (H:Hp) (o i v:V) (ov iv u:Value) (Q:Hp→Prop),Inv X pins σ H s→aY o ov→aY i iv→aY v u→t o i v H Q→
  wpAny (model X.prog X.w) X.A (setItem ov iv u) (fun _ s'=>∃ H',Inv X pins σ H' s'∧Q H') X.xe s
noncomputable abbrev TIp:=V→V→Hp→VK→Prop
noncomputable def PIp (X:Cx) (op:Operator) (t:TIp):Prop:=
 ∀ (pins:List (Addr×Obj)) (s:Shared) (σ:St) (H:Hp) (x y:V) (v u:Value) (Q:VK),Inv X pins σ H s→aY x v→aY y u→t x y H Q→
  wpAny (model X.prog X.w) X.A (inplaceOp op v u) (EP X pins σ Q) X.xe s
section
variable {X:Cx}{pos:Pos}
noncomputable def cY (i:Nat):TG:=fun v σ H Q=>Q (σ.set i (some v)) H
theorem aF {i:Nat}{x:Str} (hN:X.N.Nodup) (hi:X.N[i]? = some x) (hx:Loc X.env.scope x) (hf:X.fn x=true∨X.env.scope.names.lookup x=some .local:=by first | exact .inl rfl | exact .inr rfl | assumption):PG X (.Name x pos) (cY i):=by
 intro pins s σ H v u Q I r h
 exact wpAny_assign_Name (store_ok I hN hi hx r (fun s' I'=>⟨_,H,I',h⟩) hf)
noncomputable def gNil:TGs:=fun vs σ H Q=>vs=[]∧Q σ H
noncomputable def gCons (t:TG) (u:TGs):TGs:=fun vs σ H Q=>∃ v r,vs=v::r∧t v σ H fun σ' H'=>u r σ' H' Q
theorem bM:PGs X [] gNil:=by
 intro pins s σ H vs us Q I r h
 obtain⟨e,h⟩:=h
 subst e
 cases r
 exact assignInOrder_nil ⟨σ,H,I,h⟩
theorem aH {e:Expr}{es:List Expr}{t:TG}{u:TGs} (h1:PG X e t) (h2:PGs X es u)
  (hs:(assignEach (e::es) X.env).map (·.2)=assign e X.env::(assignEach es X.env).map (·.2):=by rfl):PGs X (e::es) (gCons t u):=by
 intro pins s σ H vs us Q I r h
 obtain⟨v,vr,e1,h⟩:=h
 subst e1
 cases r with
 | cons r rr=>
  rw[hs]
  refine assignInOrder_cons (bZ (h1 pins s σ H _ _ _ I r h) fun _ s1 ⟨σ1,H1,I1,q1⟩=>?_)
  exact h2 pins s1 σ1 H1 _ _ Q I1 rr q1
noncomputable def gTup (K:PySem.W.Frag) (n:Nat) (t:TGs):TG:=fun v σ H Q=>∃ a xs,v=.ref a∧bR K H a xs∧xs.length=n∧t xs σ H Q
theorem pg_tup {es:List Expr}{k:Nat}{t:TGs}{n:Nat} (hc:X.calm=true) (h:PGs X es t)
  (hn:(assignEach es X.env).length=n:=by rfl) (hst:(assignEach es X.env).findIdx? (·.1)=none:=by rfl):PG X (.Tuple es k pos) (gTup X.K n t):=by
 intro pins s σ H v u Q I r hw
 obtain⟨a,xs,e1,hq,hl,hw⟩:=hw
 subst e1
 cases r
 obtain⟨its,rv,ht,hz⟩:=I.tuple hq
 refine assign_Tuple_tuple (I.ok.hd hc) ht (by simp [hn,← hl,rv.length]) hst fun h' hx=>?_
 have I1:Inv X pins σ H { s with heap:=h' }:=I.kept (t':=s.toks) fun b o e=>hx b o (Nat.ne_of_lt (Heap.lt_size e)) e
 exact h pins _ σ H xs _ Q I1 (by simpa using rv) hw
noncomputable def gSub (to ti:TE) (t:TSet):TG:=fun v σ H Q=>to σ H fun o H1=>ti σ H1 fun i H2=>t o i v H2 fun H3=>Q σ H3
theorem pg_sub {o i:Expr}{to ti:TE}{t:TSet} (ho:PE X o to) (hi:PE X i ti) (hs:PSet X t)
  (ha:∀ v,assign (.Subscript o i pos) X.env v=(do
   let ov ← holding [v] (eval o X.env)
   let iv ← holding [v,ov] (eval i X.env)
   standAt pos
   holding [v,ov,iv] (setItem ov iv v)
   release [v,ov,iv] []):=by intro _;rfl):PG X (.Subscript o i pos) (gSub to ti t):=by
 intro pins s σ H v u Q I r h
 rw[ha]
 refine wpAny_bind (wpAny_holding (bZ (ho pins s σ H _ I h) fun ov s1 ⟨x,H1,I1,r1,q1⟩=>?_))
 refine wpAny_bind (wpAny_holding (bZ (hi pins s1 σ H1 _ I1 q1) fun iv s2 ⟨y,H2,I2,r2,q2⟩=>?_))
 refine wpAny_bind (wpAny_standAt (wpAny_bind (wpAny_holding (bZ (hs pins s2 σ H2 x y v ov iv u _ I2 r1 r2 r q2) fun _ s3 ⟨H3,I3,q3⟩=>?_))))
 exact wpAny_release ⟨σ,H3,I3,q3⟩
noncomputable def tAsg (te:TE) (g:TG):TS:=fun D σ H=>te σ H fun x H1=>g x σ H1 D.nx
theorem ps_asg {tg e:Expr}{te:TE}{g:TG} (he:PE X e te) (hg:PG X tg g) (hs:swapsWithSole [tg] e pos.line X.env=pure false:=by rfl) (hw:swappedStores [tg] e X.env=pure none:=by rfl)
  (h1:(assignEach [tg] X.env).map (·.2)=[assign tg X.env]:=by rfl):PS X (.Assign [tg] e pos) (tAsg te g):=by
 intro pins s σ H D I h
 refine wpAny_Assign_stores (bZ (he pins s σ H _ I h) fun v s1 ⟨x,H1,I1,r1,q1⟩=>?_) hs hw
 rw[h1]
 exact bZ (hg pins s1 σ H1 x v _ I1 r1 q1) fun _ s2 q=>q
theorem aP {i:Nat}{x:Str}{e:Expr}{te:TE}{pos':Pos} (hN:X.N.Nodup) (hi:X.N[i]? = some x) (hx:Loc X.env.scope x) (he:PE X e te) (hs:swapsWith e (some (.Name x pos')) pos.line X.env=pure false:=by rfl) (hf:X.fn x=true∨X.env.scope.names.lookup x=some .local:=by first | exact .inl rfl | exact .inr rfl | assumption) :
  PS X (.Assign [.Name x pos'] e pos) (tAsg te (cY i)):=by
 intro pins s σ H D I h
 refine wpAny_Assign_Name (bZ (he pins s σ H _ I h) fun v s1 ⟨y,H1,I1,r1,q1⟩=>?_) hs
 exact store_ok I1 hN hi hx r1 (fun s2 I2=>⟨_,H1,I2,q1⟩) hf
noncomputable def tPar (i j:Nat) (ta:TA):TS:=fun D σ H=>ta σ H fun vs H1=>∃ v w,vs=[v,w]∧D.nx ((σ.set i (some v)).set j (some w)) H1
theorem ps_par {i j:Nat}{x y:Str}{a b:Expr}{ta:TA}{px py pt:Pos}{kt k2 pt2} (hc:X.calm=true) (hN:X.N.Nodup) (hi:X.N[i]? = some x) (hj:X.N[j]? = some y) (hij:i≠j)
  (hx:X.env.scope.names.lookup x=some .local) (hy:X.env.scope.names.lookup y=some .local) (ha:PA X [a,b] ta)
  (hw:swappedStores [.Tuple [.Name x px,.Name y py] kt pt] (.Tuple [a,b] k2 pt2) X.env=pure (some [x,y]))
  (hs:swapsWithSole [.Tuple [.Name x px,.Name y py] kt pt] (.Tuple [a,b] k2 pt2) pos.line X.env=pure false:=by rfl) :
  PS X (.Assign [.Tuple [.Name x px,.Name y py] kt pt] (.Tuple [a,b] k2 pt2) pos) (tPar i j ta):=by
 intro pins s σ H D I h
 rw[exec_Assign_arm]
 refine wpAny_bind (wpAny_standAt ?_)
 rw[hs]
 refine wpAny_bind (wpAny_pure ?_)
 rw[if_neg (by decide)]
 refine wpAny_bind (Tuple_ (bZ (ha _ pins s σ H _ I h) fun us s1 ⟨vs,H1,I1,r1,q1⟩=>?_))
 obtain⟨v,w,e1,q1⟩:=q1
 subst e1
 obtain⟨u1,u2,rfl,rv,rw'⟩:∃ u1 u2,us=[u1,u2]∧aY v u1∧aY w u2:=by
  cases r1 with
  | cons p q=>
   cases q with
   | cons p' q'=>
    cases q'
    exact⟨_,_,rfl,p,p'⟩
 refine wpAny_newObj_type ?_ (by show 2≤sizeLine;decide)
 have I2:Inv X pins σ H1 { s1 with heap:=s1.heap.push { cls:=.type "tuple",data:=.seq [u1,u2].toArray } }:=I1.kept (t':=s1.toks) fun b o e=>Heap.get?_push_of_some _ e
 rw[hw]
 refine wpAny_bind (wpAny_pure ?_)
 show wpAny (model X.prog X.w) X.A (do rule "assign.swapped-stores";let items ← unpackItems (.ref s1.heap.objs.size) 2 none;assignInOrder [fun v=>bindName X.env y v,fun v=>bindName X.env x v] items.reverse;pure Flow.next) _ _ _
 refine wpAny_bind (wpAny_rule (wpAny_bind (unpackItems_tuple (items:=#[u1,u2]) (I.ok.hd hc) (IsTup.new s1.heap _) fun h' hx'=>?_)))
 have I3:=I2.kept (h':=h') (t':=s1.toks) fun b o e=>hx' b o (Nat.ne_of_lt (Heap.lt_size e)) e
 show wpAny _ _ (assignInOrder [fun v=>bindName X.env y v,fun v=>bindName X.env x v] [u2,u1] >>= fun _=>pure Flow.next) _ _ _
 refine wpAny_bind (assignInOrder_cons (wpAny_bindName (store_ok I3 hN hj (.inl hy) rw' (fun s2 I4=>?_) (.inr hy))))
 refine assignInOrder_cons (wpAny_bindName (store_ok I4 hN hi (.inl hx) rv (fun s3 I5=>assignInOrder_nil (wpAny_pure ?_)) (.inr hx)))
 rw[List.set_comm _ _ (Ne.symm hij)] at I5
 exact⟨_,H1,I5,q1⟩
noncomputable def tAug (i:Nat) (te:TE) (ti:TIp):TS:=fun D σ H=>∃ x,σ[i]? = some (some x)∧te σ H fun y H1=>ti x y H1 fun z H2=>D.nx (σ.set i (some z)) H2
theorem ps_aug {i:Nat}{x:Str}{e:Expr}{te:TE}{op:Operator}{ti:TIp}{pos':Pos} (hN:X.N.Nodup) (hi:X.N[i]? = some x) (hx:Loc X.env.scope x) (he:PE X e te) (ho:PIp X op ti) (hf:X.fn x=true∨X.env.scope.names.lookup x=some .local:=by first | exact .inl rfl | exact .inr rfl | assumption) :
  PS X (.AugAssign (.Name x pos') op e pos) (tAug i te ti):=by
 intro pins s σ H D I h
 obtain⟨v,e1,h⟩:=h
 obtain⟨m,hn,hl⟩:=I.loc
 have vis:Vis X.env.scope x:=by rcases hx with k | k;exact .inl k;exact .inr (.inl k)
 obtain⟨u,r,l⟩:=hl i x v hi e1 vis
 refine wpAny_AugAssign_Name ?_
 have go:wpAny (model X.prog X.w) X.A (eval e X.env) (fun w s₂=>wpAny (model X.prog X.w) X.A (inplaceOp op u w) (fun r s₃=>wpAny (model X.prog X.w) X.A (storeName X.env x r) (fun _=>SP X pins D .next) X.xe s₃) X.xe s₂) X.xe s:=by
  refine bZ (he pins s σ H _ I h) fun w s1 ⟨y,H1,I1,r1,q1⟩=>?_
  refine bZ (ho pins s1 σ H1 v y u w _ I1 r r1 q1) fun z s2 ⟨zv,H2,I2,r2,q2⟩=>?_
  exact store_ok I2 hN hi hx r2 (fun s3 I3=>⟨_,H2,I3,q2⟩) hf
 rcases l with ⟨hk,hm⟩ | ⟨hk,c,hc,hcell⟩
 ·exact wpAny_loadName_local I.ok.kind hk hn hm go
 ·rcases hk with hk | hk
  ·exact wpAny_loadName_cell I.ok.kind hk hc hcell go
  ·rcases hx with k | k
   ·have:X.env.scope.names.lookup x=some .free:=hk
    rw[k] at this;cases this
   ·have:X.env.scope.names.lookup x=some .free:=hk
    rw[k] at this;cases this
noncomputable def ipI (f:Int→Int→Int):TIp:=fun x y H Q=>∃ i j,x=.int i∧y=.int j∧Q (.int (f i j)) H
theorem ip_add:PIp X .Add (ipI fun i j=>i+j):=by
 intro pins s σ H x y v u Q I r1 r2 h
 obtain⟨i,j,e1,e2,q⟩:=h
 subst e1;subst e2
 obtain⟨t,rfl⟩:=r1
 obtain⟨t',rfl⟩:=r2
 exact iadd_int ⟨.int _,H,I.tok _,⟨_,rfl⟩,q⟩
end
section
variable {X:Cx}{pos:Pos}
noncomputable def tWhile (c:TT) (tb:TS):TS:=fun D σ H=>∃ W:Nat→St→Hp→Prop,(∃ m,W m σ H)∧∀ m σ H,W m σ H→
 c σ H fun b H1=>if b=true then ∃ N:St→Hp→Prop,(∀ σ' H',N σ' H'→∃ m',m' < m∧W m' σ' H')∧tb { D with nx:=N,ct:=N,bk:=D.nx } σ H1 else D.nx σ H1
theorem ps_while {c:Expr}{body:List Stmt}{tc:TT}{tb:TS} (hp:PassesOwn (model X.prog X.w) X.A X.env X.xe) (hc:PT X c tc) (hb:PSs X body tb):PS X (.While c body [] pos) (tWhile tc tb):=by
 intro pins s σ H D I h
 obtain⟨W,⟨m0,w0⟩,turn⟩:=h
 refine wpAny_While (codeAny_whileLoop (fun n s'=>∃ σ' H',Inv X pins σ' H' s'∧W n σ' H') ?_ m0 ⟨σ,H,I,w0⟩)
 rintro n s1 ⟨σ1,H1,I1,w1⟩
 refine wpAny_passesOwn hp (bZ (hc pins s1 σ1 H1 _ I1 (turn n σ1 H1 w1)) fun b s2 ⟨H2,I2,q2⟩=>?_)
 cases b with
 | true=>
  obtain⟨N,hN,q2⟩:=q2
  rw[if_pos rfl]
  refine wpAny_passesOwn hp (bZ (hb pins s2 σ1 H2 _ I2 q2) fun f s3 q3=>?_)
  cases f with
  | next=>
   obtain⟨σ3,H3,I3,n3⟩:=q3
   obtain⟨m',hm,w3⟩:=hN σ3 H3 n3
   exact⟨m',hm,σ3,H3,I3,w3⟩
  | cont=>
   obtain⟨σ3,H3,I3,n3⟩:=q3
   obtain⟨m',hm,w3⟩:=hN σ3 H3 n3
   exact⟨m',hm,σ3,H3,I3,w3⟩
  | brk=>exact q3
  | ret v=>exact q3
 | false=>
  rw[if_neg Bool.false_ne_true]
  exact wpAny_execs_nil ⟨σ1,H2,I2,q2⟩
end
structure It where
 go:Nat→Hp→Prop
 yld:Nat→Hp→V→Hp→Prop
 stop:Nat→Hp→Prop
noncomputable def FpOk (X:Cx) (pins:List (Addr×Obj)) (H:Hp) (b:Addr):Prop:=
 H b=none∧b≠X.env.locals∧b∉X.fs∧(b∈X.ex∨X.s₀.heap.objs.size≤b)∧(∀ x c,X.env.cells.lookup x=some c→c≠b)∧∀ p∈X.pn++pins,p.1≠b
theorem Inv.fpOk {X:Cx}{pins:List (Addr×Obj)}{σ:St}{H H':Hp}{s:Shared}{b:Addr} (I:Inv X pins σ H s) (hb:s.heap.objs.size≤b) (hn:H' b=none):FpOk X pins H' b:=by
 refine⟨hn,Nat.ne_of_gt (Nat.lt_of_lt_of_le I.lt hb),I.nofs hb,.inr (Nat.le_trans I.sz hb),fun x c e z=>?_,fun p hp z=>?_⟩
 ·obtain⟨v,q⟩:=I.cell x c e
  exact absurd (Nat.lt_of_lt_of_le q.lt (by rw[z];exact hb)) (Nat.lt_irrefl _)
 ·exact absurd (Nat.lt_of_lt_of_le (Heap.lt_size (I.pin p hp).1) (by rw[z];exact hb)) (Nat.lt_irrefl _)
structure Turn (P:Program) (w:World) (K:PySem.W.Frag) (tg:Expr) (J:It) (fp:List Addr) (it:Addr) (tn:Nat→Heap→Prop):Prop where
 mem:it∈fp
 obj:∀ i h,tn i h→∀ b∈fp,∃ o,h.get? b=some o∧∀ v,o.data≠.cell v
 keep:∀ i h h',tn i h→(∀ b∈fp,∀ o,h.get? b=some o→h'.get? b=some o)→tn i h'
 item:∀ (X:Cx),X.prog=P→X.w=w→X.K=K→X.calm=true→∀ (i:Nat) (pins:List (Addr×Obj)) (s:Shared) (σ:St) (H:Hp) (E:Value→Shared→Prop),Inv X pins σ H s→(∀ b∈fp,FpOk X pins H b)→tn i s.heap→J.go i H→
  wpAny (model P w) X.A (pyNext (.ref it)) (fun r s1=>∃ u,r=some u∧
   wpAny (model P w) X.A (letOwnedTupleGo tg (.ref it) u) (fun _ s2=>∃ x H',Inv X pins σ H' s2∧aY x u∧J.yld i H x H'∧tn (i+1) s2.heap∧∀ b∈fp,H' b=none) E s1) E s
 done:∀ (X:Cx),X.prog=P→X.w=w→X.K=K→X.calm=true→∀ (i:Nat) (pins:List (Addr×Obj)) (s:Shared) (σ:St) (H:Hp) (E:Value→Shared→Prop),Inv X pins σ H s→(∀ b∈fp,FpOk X pins H b)→tn i s.heap→J.stop i H→
  wpAny (model P w) X.A (pyNext (.ref it)) (fun r s1=>r=none∧Inv X pins σ H s1) E s
 self:∀ (A:Around) (i:Nat) (s:Shared) (Q:Value→Shared→Prop) (E:Value→Shared→Prop),tn i s.heap→Q (.ref it) s→wpAny (model P w) A (pyIter (.ref it)) Q E s
noncomputable abbrev TI:=St→Hp→(It→Hp→Prop)→Prop
noncomputable def PIE (X:Cx) (pins:List (Addr×Obj)) (σ:St) (tg:Expr) (R:It→Hp→Prop) (itv:Value) (s2:Shared):Prop:=
 ∃ (it:Addr) (fp:List Addr) (tn:Nat→Heap→Prop) (J:It) (H':Hp),itv=.ref it∧Inv X pins σ H' s2∧Turn X.prog X.w X.K tg J fp it tn∧tn 0 s2.heap∧(∀ b∈fp,FpOk X pins H' b)∧R J H'
noncomputable def PI (X:Cx) (tg iter:Expr) (wi:TI):Prop:=
 ∀ (pins:List (Addr×Obj)) (s:Shared) (σ:St) (H:Hp) (R:It→Hp→Prop),Inv X pins σ H s→wi σ H R→
  wpAny (model X.prog X.w) X.A (eval iter X.env) (fun v s1=>wpAny (model X.prog X.w) X.A (pyIter v) (PIE X pins σ tg R) X.xe s1) X.xe s
theorem go_of {M:Model}{A:Around}{E:Value→Shared→Prop}{s:Shared}{tg:Expr}{it:Addr}{u:Value}{o:Obj}{n:String}{vs:Array Value}{Q:Unit→Shared→Prop} (ho:s.heap.get? it=some o) (hc:o.cls=.type n) (hd:o.data=.fields vs)
  (hn:["enumerate","zip","dict_itemiterator","dict_reverseitemiterator","odict_iterator","itertools.zip_longest","itertools.pairwise"].contains n=false) (hQ:Q () s):wpAny M A (letOwnedTupleGo tg (.ref it) u) Q E s:=by
 unfold letOwnedTupleGo
 cases tg <;> first
  | exact wpAny_pure hQ
  | (cases u <;> first
    | exact wpAny_pure hQ
    | (refine wpAny_bind (wpAny_load ho ?_)
       rw[hc,hd]
       show wpAny M A (if (["enumerate","zip","dict_itemiterator","dict_reverseitemiterator","odict_iterator","itertools.zip_longest","itertools.pairwise"].contains n && vs[0]? == some (rawInt _))=true then _ else _) Q E s
       rw[if_neg (by intro h;rw[hn,Bool.false_and] at h;cases h)]
       exact wpAny_pure hQ))
noncomputable def Itl (K:PySem.W.Frag) (a:Addr):It:=
 ⟨fun i H=>∃ xs x,bT K H a xs∧xs[i]? = some x,fun i H x H'=>H'=H∧∀ xs,bT K H a xs→xs[i]? = some x,fun i H=>∃ xs,bT K H a xs∧xs.length≤i⟩
noncomputable def Itt (K:PySem.W.Frag) (a:Addr):It:=
 ⟨fun i H=>∃ xs x,bR K H a xs∧xs[i]? = some x,fun i H x H'=>H'=H∧∀ xs,bR K H a xs→xs[i]? = some x,fun i H=>∃ xs,bR K H a xs∧xs.length≤i⟩
noncomputable def Itr (lo:Int) (n:Nat):It:=⟨fun i _=>i < n,fun i H x H'=>H'=H∧x=.int (lo+i),fun i _=>n≤i⟩
theorem turn_list {P:Program}{w:World}{K:PySem.W.Frag}{tg:Expr} (a it:Addr):Turn P w K tg (Itl K a) [it] it (fun i h=>h.IsListIter it a i) where
 mem:=by simp
 obj:=fun i h st b hb=>by
  have e:b=it:=by simpa using hb
  subst e
  obtain⟨o,e,c,d⟩:=st
  exact⟨o,e,fun v z=>by rw[d] at z;cases z⟩
 keep:=fun i h h' st k=>st.at fun o e=>k it (by simp) o e
 item:=by
  intro X hP hw hK hc i pins s σ H E I hf st hg
  subst hP hw hK
  obtain⟨xs,x,hq,hx⟩:=hg
  obtain⟨its,rv,p,hz⟩:=I.list hq
  obtain⟨u,hu,ru⟩:=rv.get hx
  obtain⟨f0,f1,f2,f3,f4,f5⟩:=hf it (by simp)
  refine wpAny_pyNext_list_item st p.isList (x:=u) (by simpa using hu) fun h' st' sb=>?_
  have I1:Inv X pins σ H { s with heap:=h' }:=I.turned (t':=s.toks) (fun b o hb e=>(sb.2 b hb).trans e) f0 f1 f3 f4 f5
  obtain⟨o,e,c,d⟩:=id st'
  exact⟨u,rfl,go_of (s:={ s with heap:=h' }) e c d (by decide) ⟨x,H,I1,ru,⟨rfl,fun ys hy=>by rw[I.list_inj hy hq];exact hx⟩,st',fun b hb=>(hf b hb).1⟩⟩
 done:=by
  intro X hP hw hK hc i pins s σ H E I hf st hg
  subst hP hw hK
  obtain⟨xs,hq,hx⟩:=hg
  obtain⟨its,rv,p,hz⟩:=I.list hq
  obtain⟨f0,f1,f2,f3,f4,f5⟩:=hf it (by simp)
  have hl:=rv.length
  exact wpAny_pyNext_list_end (I.ok.hd hc) st p.isList (by simp;omega) fun h' eb=>⟨rfl,I.turned (t':=s.toks) (fun b o hb e=>eb b o hb e) f0 f1 f3 f4 f5⟩
 self:=fun _ _ _ _ _ st h=>wpAny_pyIter_listiter st h
theorem turn_tuple {P:Program}{w:World}{K:PySem.W.Frag}{tg:Expr} (a it:Addr):Turn P w K tg (Itt K a) [it] it (fun i h=>h.IsTupleIter it a i) where
 mem:=by simp
 obj:=fun i h st b hb=>by
  have e:b=it:=by simpa using hb
  subst e
  obtain⟨o,e,c,d⟩:=st
  exact⟨o,e,fun v z=>by rw[d] at z;cases z⟩
 keep:=fun i h h' st k=>st.at fun o e=>k it (by simp) o e
 item:=by
  intro X hP hw hK hc i pins s σ H E I hf st hg
  subst hP hw hK
  obtain⟨xs,x,hq,hx⟩:=hg
  obtain⟨its,rv,p,hz⟩:=I.tuple hq
  obtain⟨u,hu,ru⟩:=rv.get hx
  obtain⟨f0,f1,f2,f3,f4,f5⟩:=hf it (by simp)
  refine wpAny_pyNext_tuple_item st (show s.heap.IsTuple a its.toArray from p) (x:=u) (by simpa using hu) fun h' st' sb=>?_
  have I1:Inv X pins σ H { s with heap:=h' }:=I.turned (t':=s.toks) (fun b o hb e=>(sb.2 b hb).trans e) f0 f1 f3 f4 f5
  obtain⟨o,e,c,d⟩:=id st'
  exact⟨u,rfl,go_of (s:={ s with heap:=h' }) e c d (by decide) ⟨x,H,I1,ru,⟨rfl,fun ys hy=>by rw[I.tuple_inj hy hq];exact hx⟩,st',fun b hb=>(hf b hb).1⟩⟩
 done:=by
  intro X hP hw hK hc i pins s σ H E I hf st hg
  subst hP hw hK
  obtain⟨xs,hq,hx⟩:=hg
  obtain⟨its,rv,p,hz⟩:=I.tuple hq
  obtain⟨f0,f1,f2,f3,f4,f5⟩:=hf it (by simp)
  have hl:=rv.length
  exact wpAny_pyNext_tuple_end (I.ok.hd hc) st (show s.heap.IsTuple a its.toArray from p) (by simp;omega) fun h' eb=>⟨rfl,I.turned (t':=s.toks) (fun b o hb e=>eb b o hb e) f0 f1 f3 f4 f5⟩
 self:=fun _ _ _ _ _ st h=>wpAny_pyIter_tupleiter st h
theorem turn_range {P:Program}{w:World}{K:PySem.W.Frag}{tg:Expr} (it:Addr) (lo:Int) (n:Nat):Turn P w K tg (Itr lo n) [it] it (fun i h=>IsRangeIter h it (lo+(i:Nat) * 1) ((n:Int) - (i:Nat)) 1) where
 mem:=by simp
 obj:=fun i h st b hb=>by
  have e:b=it:=by simpa using hb
  subst e
  exact⟨_,st,fun v z=>by
   have z':Data.fields _=Data.cell v:=z
   cases z'⟩
 keep:=fun i h h' st k=>k it (by simp) _ st
 item:=by
  intro X hP hw hK hc i pins s σ H E I hf st hg
  subst hP hw hK
  obtain⟨f0,f1,f2,f3,f4,f5⟩:=hf it (by simp)
  have W:=Walks.range (prog:=X.prog) (w:=X.w) (I.ok.hd hc) it lo 1 n
  refine W.item i s _ _ hg st fun v h' tk hv st' kk=>?_
  obtain⟨t,rfl⟩:=hv
  have I1:Inv X pins σ H { s with heap:=h',toks:=tk }:=I.turned (fun b o hb e=>kk b o (by simpa using hb) e) f0 f1 f3 f4 f5
  refine⟨_,rfl,go_of (s:={ s with heap:=h',toks:=tk }) (n := "range_iterator") st' rfl rfl (by decide) ⟨.int (lo+i),H,I1,⟨t,?_⟩,⟨rfl,rfl⟩,st',fun b hb=>(hf b hb).1⟩⟩
  rw[Int.mul_one]
 done:=by
  intro X hP hw hK hc i pins s σ H E I hf st hg
  subst hP hw hK
  obtain⟨f0,f1,f2,f3,f4,f5⟩:=hf it (by simp)
  exact wpAny_pyNext_range_end (I.ok.hd hc) st (by have:n≤i:=hg;omega) fun h' eb=>⟨rfl,I.turned (t':=s.toks) (fun b o hb e=>eb b o hb e) f0 f1 f3 f4 f5⟩
 self:=fun _ _ _ _ _ st h=>wpAny_pyIter_rangeiter st h
end L2
namespace L2
open PySem PySem.Spec PyProof.Rows
section
variable {X:Cx}{tg:Expr}
noncomputable def iList (K:PySem.W.Frag) (tl:TE):TI:=fun σ H R=>tl σ H fun x H1=>∃ a,x=.ref a∧(∃ xs,bT K H1 a xs)∧R (Itl K a) H1
noncomputable def iTup (K:PySem.W.Frag) (tl:TE):TI:=fun σ H R=>tl σ H fun x H1=>∃ a,x=.ref a∧(∃ xs,bR K H1 a xs)∧R (Itt K a) H1
theorem pi_list {l:Expr}{tl:TE} (hl:PE X l tl):PI X tg l (iList X.K tl):=by
 intro pins s σ H R I h
 refine bZ (hl pins s σ H _ I h) fun v s1 ⟨x,H1,I1,r1,q1⟩=>?_
 obtain⟨a,e,⟨xs,hq⟩,q⟩:=q1
 subst e
 cases r1
 obtain⟨its,rv,p,hz⟩:=I1.list hq
 refine wpAny_pyIter_list p.isList ?_
 refine⟨s1.heap.objs.size,[s1.heap.objs.size],_,_,H1,rfl,I1.kept (t':=s1.toks) fun b o e=>Heap.get?_push_of_some _ e,turn_list a _,⟨_,Heap.get?_push_size _ rfl,rfl,rfl⟩,fun b hb=>?_,q⟩
 have e:b=s1.heap.objs.size:=by simpa using hb
 subst e
 exact I1.fpOk (Nat.le_refl _) (I1.hok.fresh (Nat.le_refl _))
theorem pi_tup {l:Expr}{tl:TE} (hl:PE X l tl):PI X tg l (iTup X.K tl):=by
 intro pins s σ H R I h
 refine bZ (hl pins s σ H _ I h) fun v s1 ⟨x,H1,I1,r1,q1⟩=>?_
 obtain⟨a,e,⟨xs,hq⟩,q⟩:=q1
 subst e
 cases r1
 obtain⟨its,rv,p,hz⟩:=I1.tuple hq
 refine wpAny_pyIter_tuple (show s1.heap.IsTuple a its.toArray from p) ?_
 refine⟨s1.heap.objs.size,[s1.heap.objs.size],_,_,H1,rfl,I1.kept (t':=s1.toks) fun b o e=>Heap.get?_push_of_some _ e,turn_tuple a _,⟨_,Heap.get?_push_size _ rfl,rfl,rfl⟩,fun b hb=>?_,q⟩
 have e:b=s1.heap.objs.size:=by simpa using hb
 subst e
 exact I1.fpOk (Nat.le_refl _) (I1.hok.fresh (Nat.le_refl _))
theorem range_it {pins:List (Addr×Obj)}{σ:St}{H:Hp}{s:Shared}{R:It→Hp→Prop}{E:Value→Shared→Prop}{lo hi:Int}{t u v:Tok}{tk:Nat} (I:Inv X pins σ H s) (h1 : -(2 ^ 62)≤lo) (h2:lo < 2 ^ 62) (h3 : -(2 ^ 62)≤hi) (h4:hi < 2 ^ 62)
  (q:R (Itr lo (hi - lo).toNat) H):wpAny (model X.prog X.w) X.A (pyIter (.ref s.heap.objs.size)) (PIE X pins σ tg R) E { s with heap:=s.heap.push { cls:=.type "range",data:=.fields #[.int lo t,.int hi u,.int 1 v] },toks:=tk }:=by
 refine wpAny_pyIter_range (IsRange.new ..) (small_one h1 h2 h3 h4) ?_
 have I1:Inv X pins σ H { s with heap:=s.heap.push { cls:=.type "range",data:=.fields #[.int lo t,.int hi u,.int 1 v] },toks:=tk }:=I.kept fun b o e=>Heap.get?_push_of_some _ e
 refine⟨(s.heap.push { cls:=.type "range",data:=.fields #[.int lo t,.int hi u,.int 1 v] }).objs.size,[(s.heap.push { cls:=.type "range",data:=.fields #[.int lo t,.int hi u,.int 1 v] }).objs.size],_,_,H,rfl,
  I1.kept (t':=tk) fun b o e=>Heap.get?_push_of_some _ e,turn_range _ lo (hi - lo).toNat,?_,fun b hb=>?_,q⟩
 ·have e1:lo+((0:Nat):Int) * 1=lo:=by simp
  have e2:(((hi - lo).toNat:Nat):Int) - ((0:Nat):Int)=Builtin.Range.rangeSize lo hi 1:=by rw[rangeSize_one];split <;> omega
  show IsRangeIter _ _ (lo+((0:Nat):Int) * 1) ((((hi - lo).toNat:Nat):Int) - ((0:Nat):Int)) 1
  rw[e1,e2]
  exact Heap.get?_push_size _ rfl
 ·have e:b=(s.heap.push { cls:=.type "range",data:=.fields #[.int lo t,.int hi u,.int 1 v] }).objs.size:=by simpa using hb
  subst e
  exact I1.fpOk (Nat.le_refl _) (I1.hok.fresh (Nat.le_refl _))
noncomputable def iRng1 (ta:TA):TI:=fun σ H R=>ta σ H fun vs H1=>∃ j:Int,vs=[.int j]∧-(2 ^ 62)≤j∧j < 2 ^ 62∧R (Itr 0 j.toNat) H1
theorem cO {a:Expr}{ta:TA}{p pos:Pos} (hg:Gl X "range") (hm:X.mg "range" = none) (ha:PA X [a] ta) (hs:starEach [a] X.env=[(false,eval a X.env)]:=by rfl):PI X tg (.Call (.Name "range" p) [a] [] pos) (iRng1 ta):=by
 intro pins s σ H R I h
 refine Call_ (ld_blt I hg hm boot_range (PyProof.Rows.callWith_type1 (bZ (ha pos pins s σ H _ I h) fun us s1 ⟨vs,H1,I1,r1,q1⟩=>?_) hs rfl))
 obtain⟨j,e,q1,q2,q⟩:=q1
 subst e
 cases r1 with
 | cons r rr=>
  cases rr
  obtain⟨t,rfl⟩:=r
  exact call_range_1 (range_it I1 (by omega) (by omega) q1 q2 (by simpa using q))
noncomputable def tFor (wi:TI) (g:TG) (tb:TS):TS:=fun D σ H=>wi σ H fun J H1=>∃ W:Nat→Nat→St→Hp→Prop,(∃ m,W 0 m σ H1)∧∀ i m σ H,W i m σ H→
 (J.stop i H∧D.nx σ H)∨(J.go i H∧∃ N:St→Hp→Prop,(∀ σ' H',N σ' H'→∃ m',m' < m∧W (i+1) m' σ' H')∧∀ x H',J.yld i H x H'→g x σ H' fun σ2 H2=>tb { D with nx:=N,ct:=N,bk:=D.nx } σ2 H2)
noncomputable def pinsAt (fp:List Addr) (h:Heap):List (Addr×Obj):=fp.filterMap fun b=>(h.get? b).map fun o=>(b,o)
theorem mem_pinsAt {fp:List Addr}{h:Heap}{b:Addr}{o:Obj} (hb:b∈fp) (e:h.get? b=some o):(b,o)∈pinsAt fp h:=List.mem_filterMap.mpr ⟨b,hb,by rw[e];rfl⟩
theorem of_pinsAt {fp:List Addr}{h:Heap}{p:Addr×Obj} (hp:p∈pinsAt fp h):p.1∈fp∧h.get? p.1=some p.2:=by
 obtain⟨b,hb,e⟩:=List.mem_filterMap.mp hp
 cases q:h.get? b with
 | none=>rw[q] at e;cases e
 | some o=>
  rw[q] at e
  have e':(b,o)=p:=Option.some.inj e
  subst e'
  exact⟨hb,q⟩
theorem Inv.pinned {pins:List (Addr×Obj)}{σ:St}{H:Hp}{s:Shared}{fp:List Addr} (I:Inv X pins σ H s) (hf:∀ b∈fp,FpOk X pins H b) (ho:∀ b∈fp,∃ o,s.heap.get? b=some o∧∀ v,o.data≠.cell v):Inv X (pins++pinsAt fp s.heap) σ H s:=
 I.pins_of fun p hp=>(List.mem_append.mp hp).elim (fun z=>I.pin p (List.mem_append_right _ z)) fun z=>by
  obtain⟨hb,e⟩:=of_pinsAt z
  obtain⟨f0,f1,f2,_⟩:=hf p.1 hb
  obtain⟨o,e',d⟩:=ho p.1 hb
  rw[e] at e';cases e'
  exact⟨e,f0,f1,f2,d⟩
theorem Inv.unpinned {pins pl:List (Addr×Obj)}{σ:St}{H:Hp}{s:Shared} (I:Inv X (pins++pl) σ H s):Inv X pins σ H s:=I.pins_of fun p hp=>I.pin p (List.mem_append_right _ (List.mem_append_left _ hp))
theorem cT {iter:Expr}{body:List Stmt}{wi:TI}{g:TG}{tb:TS}{pos:Pos} (hp:PassesOwn (model X.prog X.w) X.A X.env X.xe) (hc:X.calm=true) (hi:PI X tg iter wi) (hg:PG X tg g) (hb:PSs X body tb)
  (hs:∀ x,foldedSetIterable iter X.env x=pure x:=by intro _;rfl):PS X (.For tg iter body [] pos) (tFor wi g tb):=by
 intro pins s σ H D I h
 refine wpAny_For (bZ (hi pins s σ H _ I h) fun v s1 h1=>bZ h1 fun itv s2 h2=>?_) hs
 obtain⟨it,fp,tn,J,H2,e,I2,T,st2,f2,W,⟨m0,w0⟩,turn⟩:=h2
 subst e
 have stat:∀ {H':Hp},(∀ b∈fp,H' b=none)→∀ b∈fp,FpOk X pins H' b:=fun hn b hb=>⟨hn b hb,(f2 b hb).2⟩
 refine codeAny_forLoop_any (fun n s'=>∃ i σ' H',Inv X pins σ' H' s'∧tn i s'.heap∧(∀ b∈fp,H' b=none)∧W i n σ' H') ?_ m0 ⟨0,σ,H2,I2,st2,fun b hb=>(f2 b hb).1,w0⟩
 rintro n s3 ⟨i,σ3,H3,I3,st3,fr3,w3⟩
 rcases turn i n σ3 H3 w3 with ⟨stop,qn⟩ | ⟨go,N,hN,step⟩
 ·refine wpAny_passesOwn hp (bZ (T.done X rfl rfl rfl hc i pins s3 σ3 H3 X.xe I3 (stat fr3) st3 stop) fun r s4 ⟨hr,I4⟩=>?_)
  subst hr
  exact wpAny_execs_nil ⟨σ3,H3,I4,qn⟩
 ·refine wpAny_passesOwn hp (bZ (T.item X rfl rfl rfl hc i pins s3 σ3 H3 X.xe I3 (stat fr3) st3 go) fun r s4 ⟨u,hr,h4⟩=>?_)
  subst hr
  refine wpAny_passesOwn hp (bZ h4 fun _ s5 ⟨x,H5,I5,r5,y5,st5,fr5⟩=>?_)
  have I5':=I5.pinned (stat fr5) (T.obj _ _ st5)
  refine wpAny_passesOwn hp (bZ (hg _ s5 σ3 H5 x u _ I5' r5 (step x H5 y5)) fun _ s6 ⟨σ6,H6,I6,q6⟩=>?_)
  refine wpAny_passesOwn hp (bZ (hb _ s6 σ6 H6 _ I6 q6) fun f s7 q7=>?_)
  have again:∀ {σ7:St}{H7:Hp},Inv X (pins++pinsAt fp s5.heap) σ7 H7 s7→N σ7 H7→∃ m,m < n∧∃ i σ' H',Inv X pins σ' H' s7∧tn i s7.heap∧(∀ b∈fp,H' b=none)∧W i m σ' H':=fun {σ7 H7} I7 n7=>by
   obtain⟨m',hm,w7⟩:=hN σ7 H7 n7
   refine⟨m',hm,i+1,σ7,H7,I7.unpinned,T.keep _ _ _ st5 fun b hb o e=>(I7.pin (b,o) (List.mem_append_right _ (List.mem_append_right _ (mem_pinsAt hb e)))).1,fun b hb=>?_,w7⟩
   obtain⟨o,e,d⟩:=T.obj _ _ st5 b hb
   exact (I7.pin (b,o) (List.mem_append_right _ (List.mem_append_right _ (mem_pinsAt hb e)))).2.1
  cases f with
  | next=>obtain⟨σ7,H7,I7,n7⟩:=q7;exact again I7 n7
  | cont=>obtain⟨σ7,H7,I7,n7⟩:=q7;exact again I7 n7
  | brk=>obtain⟨σ7,H7,I7,q7⟩:=q7;exact⟨σ7,H7,I7.unpinned,q7⟩
  | ret v=>obtain⟨x7,σ7,H7,I7,r7,q7⟩:=q7;exact⟨x7,σ7,H7,I7.unpinned,r7,q7⟩
end
theorem for_list {K:PySem.W.Frag}{a:Addr}{xs:List V}{g:TG}{tb:TS}{D:Ends}{σ:St}{H:Hp} (Pv:Nat→St→Hp→Prop) (h0:Pv 0 σ H) (hl:∀ i σ H,i≤xs.length→Pv i σ H→bT K H a xs)
  (hs:∀ i x σ H,xs[i]? = some x→Pv i σ H→g x σ H fun σ2 H2=>tb { D with nx:=Pv (i+1),ct:=Pv (i+1),bk:=D.nx } σ2 H2) (hd:∀ σ H,Pv xs.length σ H→D.nx σ H) :
  ∃ W:Nat→Nat→St→Hp→Prop,(∃ m,W 0 m σ H)∧∀ i m σ H,W i m σ H→
   ((Itl K a).stop i H∧D.nx σ H)∨((Itl K a).go i H∧∃ N:St→Hp→Prop,(∀ σ' H',N σ' H'→∃ m',m' < m∧W (i+1) m' σ' H')∧∀ x H',(Itl K a).yld i H x H'→g x σ H' fun σ2 H2=>tb { D with nx:=N,ct:=N,bk:=D.nx } σ2 H2):=by
 refine⟨fun i m σ H=>m=xs.length - i∧i≤xs.length∧Pv i σ H,⟨xs.length,by simp,Nat.zero_le _,h0⟩,?_⟩
 rintro i m σ H ⟨rfl,hi,p⟩
 have q:=hl i σ H hi p
 by_cases hlt:i < xs.length
 ·refine .inr ⟨⟨xs,xs[i],q,by simp [hlt]⟩,Pv (i+1),fun σ' H' p'=>⟨xs.length - (i+1),by omega,rfl,hlt,p'⟩,fun x H' y=>?_⟩
  obtain⟨e,y⟩:=y
  subst e
  exact hs i x σ _ (y xs q) p
 ·have e:i=xs.length:=by omega
  subst e
  exact .inl ⟨⟨xs,q,Nat.le_refl _⟩,hd σ H p⟩
theorem for_tup {K:PySem.W.Frag}{a:Addr}{xs:List V}{g:TG}{tb:TS}{D:Ends}{σ:St}{H:Hp} (Pv:Nat→St→Hp→Prop) (h0:Pv 0 σ H) (hl:∀ i σ H,i≤xs.length→Pv i σ H→bR K H a xs)
  (hs:∀ i x σ H,xs[i]? = some x→Pv i σ H→g x σ H fun σ2 H2=>tb { D with nx:=Pv (i+1),ct:=Pv (i+1),bk:=D.nx } σ2 H2) (hd:∀ σ H,Pv xs.length σ H→D.nx σ H) :
  ∃ W:Nat→Nat→St→Hp→Prop,(∃ m,W 0 m σ H)∧∀ i m σ H,W i m σ H→
   ((Itt K a).stop i H∧D.nx σ H)∨((Itt K a).go i H∧∃ N:St→Hp→Prop,(∀ σ' H',N σ' H'→∃ m',m' < m∧W (i+1) m' σ' H')∧∀ x H',(Itt K a).yld i H x H'→g x σ H' fun σ2 H2=>tb { D with nx:=N,ct:=N,bk:=D.nx } σ2 H2):=by
 refine⟨fun i m σ H=>m=xs.length - i∧i≤xs.length∧Pv i σ H,⟨xs.length,by simp,Nat.zero_le _,h0⟩,?_⟩
 rintro i m σ H ⟨rfl,hi,p⟩
 have q:=hl i σ H hi p
 by_cases hlt:i < xs.length
 ·refine .inr ⟨⟨xs,xs[i],q,by simp [hlt]⟩,Pv (i+1),fun σ' H' p'=>⟨xs.length - (i+1),by omega,rfl,hlt,p'⟩,fun x H' y=>?_⟩
  obtain⟨e,y⟩:=y
  subst e
  exact hs i x σ _ (y xs q) p
 ·have e:i=xs.length:=by omega
  subst e
  exact .inl ⟨⟨xs,q,Nat.le_refl _⟩,hd σ H p⟩
theorem for_range {lo:Int}{n:Nat}{g:TG}{tb:TS}{D:Ends}{σ:St}{H:Hp} (Pv:Nat→St→Hp→Prop) (h0:Pv 0 σ H)
  (hs:∀ i σ H,i < n→Pv i σ H→g (.int (lo+i)) σ H fun σ2 H2=>tb { D with nx:=Pv (i+1),ct:=Pv (i+1),bk:=D.nx } σ2 H2) (hd:∀ σ H,Pv n σ H→D.nx σ H) :
  ∃ W:Nat→Nat→St→Hp→Prop,(∃ m,W 0 m σ H)∧∀ i m σ H,W i m σ H→
   ((Itr lo n).stop i H∧D.nx σ H)∨((Itr lo n).go i H∧∃ N:St→Hp→Prop,(∀ σ' H',N σ' H'→∃ m',m' < m∧W (i+1) m' σ' H')∧∀ x H',(Itr lo n).yld i H x H'→g x σ H' fun σ2 H2=>tb { D with nx:=N,ct:=N,bk:=D.nx } σ2 H2):=by
 refine⟨fun i m σ H=>m=n - i∧i≤n∧Pv i σ H,⟨n,by simp,Nat.zero_le _,h0⟩,?_⟩
 rintro i m σ H ⟨rfl,hi,p⟩
 by_cases hlt:i < n
 ·refine .inr ⟨hlt,Pv (i+1),fun σ' H' p'=>⟨n - (i+1),by omega,rfl,hlt,p'⟩,fun x H' y=>?_⟩
  obtain⟨e,y⟩:=y
  subst e y
  exact hs i σ _ hlt p
 ·have e:i=n:=by omega
  subst e
  exact .inl ⟨Nat.le_refl _,hd σ H p⟩
end L2
namespace L2
open PySem PySem.Spec PyProof.Rows
noncomputable abbrev R2:=V→V→Hp→VK→Prop
noncomputable def OpR (X:Cx) (f:Value→Value→Sem Value) (r:R2):Prop:=
 ∀ (pins:List (Addr×Obj)) (s:Shared) (σ:St) (H:Hp) (x y:V) (v u:Value) (Q:VK),Inv X pins σ H s→aY x v→aY y u→r x y H Q→
  wpAny (model X.prog X.w) X.A (f v u) (EP X pins σ Q) X.xe s
noncomputable def UnR (X:Cx) (f:Value→Sem Value) (r:V→Hp→VK→Prop):Prop:=
 ∀ (pins:List (Addr×Obj)) (s:Shared) (σ:St) (H:Hp) (x:V) (v:Value) (Q:VK),Inv X pins σ H s→aY x v→r x H Q→
  wpAny (model X.prog X.w) X.A (f v) (EP X pins σ Q) X.xe s
noncomputable def d8 (X:Cx) (f:Value) (r:List V→Hp→VK→Prop):Prop:=
 ∀ (pins:List (Addr×Obj)) (s:Shared) (σ:St) (H:Hp) (xs:List V) (us:List Value) (Q:VK),Inv X pins σ H s→bD xs us→r xs H Q→
  wpAny (model X.prog X.w) X.A (call f us) (EP X pins σ Q) X.xe s
noncomputable def tOp (r:R2) (ta tb:TE):TE:=fun σ H Q=>ta σ H fun x H1=>tb σ H1 fun y H2=>r x y H2 Q
noncomputable def tUn (r:V→Hp→VK→Prop) (ta:TE):TE:=fun σ H Q=>ta σ H fun x H1=>r x H1 Q
noncomputable def rI (C:Int→Int→Prop) (g:Int→Int→V):R2:=fun x y H Q=>∃ i j,x=.int i∧y=.int j∧C i j∧Q (g i j) H
noncomputable def rI0 (g:Int→Int→V):R2:=fun x y H Q=>∃ i j,x=.int i∧y=.int j∧Q (g i j) H
noncomputable def rU (g:Int→V):V→Hp→VK→Prop:=fun x H Q=>∃ i,x=.int i∧Q (g i) H
section
variable {X:Cx}{a b c:Expr}{ta tb tc:TE}{pos:Pos}
theorem binT (ha:PE X a ta) (hb:PE X b tb) {pins:List (Addr×Obj)}{s:Shared}{σ:St}{H:Hp}{R:V→V→Hp→Prop} (I:Inv X pins σ H s)
  (h:ta σ H fun x H1=>tb σ H1 fun y H2=>R x y H2) {Q:Value→Shared→Prop}{f:Value→Value→Sem Value}
  (hf:∀ v u s2 x y H2,Inv X pins σ H2 s2→aY x v→aY y u→R x y H2→wpAny (model X.prog X.w) X.A (f v u) Q X.xe s2) :
  wpAny (model X.prog X.w) X.A (eval a X.env) (fun v s₁=>wpAny (model X.prog X.w) X.A (eval b X.env) (fun u s₂=>wpAny (model X.prog X.w) X.A (f v u) Q X.xe s₂) X.xe s₁) X.xe s:=by
 refine bZ (ha pins s σ H _ I h) fun v s1 ⟨x,H1,I1,r1,q1⟩=>?_
 refine bZ (hb pins s1 σ H1 _ I1 q1) fun u s2 ⟨y,H2,I2,r2,q2⟩=>?_
 exact hf v u s2 x y H2 I2 r1 r2 q2
theorem aU {op:Operator}{r:R2} (ho:OpR X (binaryOp op) r) (ha:PE X a ta) (hb:PE X b tb):PE X (.BinOp a op b pos) (tOp r ta tb):=by
 intro pins s σ H Q I h
 exact wpAny_BinOp (binT ha hb I h fun v u s2 x y H2 I2 rx ry q=>ho pins s2 σ H2 x y v u Q I2 rx ry q)
theorem pe_un {op:UnaryOp}{r:V→Hp→VK→Prop} (ho:UnR X (unaryOp op) r) (ha:PE X a ta):PE X (.UnaryOp op a pos) (tUn r ta):=by
 intro pins s σ H Q I h
 exact UnaryOp_ (bZ (ha pins s σ H _ I h) fun v s1 ⟨x,H1,I1,r1,q1⟩=>ho pins s1 σ H1 x v Q I1 r1 q1)
theorem opI {f:Value→Value→Sem Value}{C:Int→Int→Prop}{g:Int→Int→Int}
  (rule:∀ (i j:Int) (t u:Tok) (s:Shared) (Q:Value→Shared→Prop) (E:Value→Shared→Prop),C i j→Q (.int (g i j) s.toks) { s with toks:=s.toks+1 }→wpAny (model X.prog X.w) X.A (f (.int i t) (.int j u)) Q E s) :
  OpR X f (rI C fun i j=>.int (g i j)):=by
 intro pins s σ H x y v u Q I rx ry h
 obtain⟨i,j,rfl,rfl,hc,q⟩:=h
 obtain⟨t,rfl⟩:=rx
 obtain⟨t',rfl⟩:=ry
 exact rule i j t t' s _ _ hc ⟨.int (g i j),H,I.tok _,⟨_,rfl⟩,q⟩
theorem opI0 {f:Value→Value→Sem Value}{g:Int→Int→Int}
  (rule:∀ (i j:Int) (t u:Tok) (s:Shared) (Q:Value→Shared→Prop) (E:Value→Shared→Prop),Q (.int (g i j) s.toks) { s with toks:=s.toks+1 }→wpAny (model X.prog X.w) X.A (f (.int i t) (.int j u)) Q E s) :
  OpR X f (rI0 fun i j=>.int (g i j)):=by
 intro pins s σ H x y v u Q I rx ry h
 obtain⟨i,j,rfl,rfl,q⟩:=h
 obtain⟨t,rfl⟩:=rx
 obtain⟨t',rfl⟩:=ry
 exact rule i j t t' s _ _ ⟨.int (g i j),H,I.tok _,⟨_,rfl⟩,q⟩
theorem opB0 {f:Value→Value→Sem Value}{g:Int→Int→Bool}
  (rule:∀ (i j:Int) (t u:Tok) (s:Shared) (Q:Value→Shared→Prop) (E:Value→Shared→Prop),Q (.bool (g i j)) s→wpAny (model X.prog X.w) X.A (f (.int i t) (.int j u)) Q E s) :
  OpR X f (rI0 fun i j=>.bl (g i j)):=by
 intro pins s σ H x y v u Q I rx ry h
 obtain⟨i,j,rfl,rfl,q⟩:=h
 obtain⟨t,rfl⟩:=rx
 obtain⟨t',rfl⟩:=ry
 exact rule i j t t' s _ _ ⟨.bl (g i j),H,I,rfl,q⟩
noncomputable def CDiv (i j:Int):Prop:=0 < j∧j < 1073741824
noncomputable def CPow (i j:Int):Prop:=0≤j∧j≤1000000∧i.natAbs < 2 ^ 64
noncomputable def CMul (i j:Int):Prop:=(-(2 ^ 64) < i∧i < 2 ^ 64)∨(-(2 ^ 64) < j∧j < 2 ^ 64)
theorem CMul.ok {i j:Int} (h:CMul i j):IntMulOk i j:=by
 rcases h with ⟨h1,h2⟩ | ⟨h1,h2⟩
 ·exact .of_left (intBits_le_64 h1 h2)
 ·exact .of_right (intBits_le_64 h1 h2)
theorem cM:OpR X (binaryOp .Add) (rI0 fun i j=>.int (i+j)):=opI0 fun _ _ _ _ _ _ _ q=>add_int q
theorem op_sub:OpR X (binaryOp .Sub) (rI0 fun i j=>.int (i - j)):=opI0 fun _ _ _ _ _ _ _ q=>sub_int q
theorem op_mul:OpR X (binaryOp .Mult) (rI CMul fun i j=>.int (i * j)):=opI fun _ _ _ _ _ _ _ hc q=>mul_int q hc.ok
theorem op_fdiv:OpR X (binaryOp .FloorDiv) (rI CDiv fun i j=>.int (i / j)):=opI fun i j _ _ _ _ _ hc q=>by
 have h1:(0:Int) < j:=hc.1
 have h2:j < 1073741824:=hc.2
 exact floordiv_int (by omega) (by rw[Int.fdiv_eq_ediv_of_nonneg i (by omega)];exact q) (.inl (PyProof.noPylong_small (by omega)))
theorem op_mod:OpR X (binaryOp .Mod) (rI (fun _ j=>0 < j) fun i j=>.int (i % j)):=opI fun i j _ _ _ _ _ hc q=>by
 have h1:(0:Int) < j:=hc
 exact mod_int' (by omega) (by rw[Int.fmod_eq_emod_of_nonneg i (by omega)];exact q)
theorem op_pow:OpR X (binaryOp .Pow) (rI CPow fun i j=>.int (i ^ j.toNat)):=opI fun _ _ _ _ _ _ _ hc q=>pow_int_small hc.1 hc.2.1 hc.2.2 q
theorem unI {f:Value→Sem Value}{g:Int→Int}
  (rule:∀ (i:Int) (t:Tok) (s:Shared) (Q:Value→Shared→Prop) (E:Value→Shared→Prop),Q (.int (g i) s.toks) { s with toks:=s.toks+1 }→wpAny (model X.prog X.w) X.A (f (.int i t)) Q E s) :
  UnR X f (rU fun i=>.int (g i)):=by
 intro pins s σ H x v Q I rx h
 obtain⟨i,rfl,q⟩:=h
 obtain⟨t,rfl⟩:=rx
 exact rule i t s _ _ ⟨.int (g i),H,I.tok _,⟨_,rfl⟩,q⟩
theorem un_neg:UnR X (unaryOp .USub) (rU fun i=>.int (-i)):=unI fun _ _ _ _ _ q=>neg_int q
end
noncomputable def scal:V→V→Bool
 | .non,.non=>true | .non,.int _=>true | .int _,.non=>true | .non,.bl _=>true | .bl _,.non=>true | .non,.str _=>true | .str _,.non=>true
 | .int _,.int _=>true | .bl _,.bl _=>true | .str _,.str _=>true | .byt _,.byt _=>true
 | .int _,.str _=>true | .str _,.int _=>true | .bl _,.str _=>true | .str _,.bl _=>true
 | _,_=>false
noncomputable def rEq:R2:=fun x y H Q=>scal x y=true∧Q (.bl (decide (x=y))) H
noncomputable def rNe:R2:=fun x y H Q=>scal x y=true∧Q (.bl (!decide (x=y))) H
theorem dec_int {i j:Int}:decide (V.int i=V.int j)=(i == j):=by
 rw[Bool.eq_iff_iff]
 simp
theorem dec_bl {i j:Bool}:decide (V.bl i=V.bl j)=(i == j):=by
 rw[Bool.eq_iff_iff]
 simp
theorem dec_str {i j:Str}:decide (V.str i=V.str j)=(i == j):=by
 rw[Bool.eq_iff_iff]
 simp
theorem dec_byt {i j:Array UInt8}:decide (V.byt i=V.byt j)=(i.toList == j.toList):=by
 rw[Bool.eq_iff_iff]
 cases i
 cases j
 simp
section
variable {X:Cx}{a b c:Expr}{ta tb tc:TE}{pos:Pos}
theorem bF {pins:List (Addr×Obj)}{σ:St}{H:Hp}{s:Shared}{Q:VK}{k k':Bool} (I:Inv X pins σ H s) (q:Q (.bl k) H) (e:k=k'):EP X pins σ Q (.bool k') s:=by
 subst e
 exact⟨.bl k,H,I,rfl,q⟩
theorem op_eq:OpR X (compareOp .Eq) rEq:=by
 intro pins s σ H x y v u Q I rx ry h
 obtain⟨hs,q⟩:=h
 cases x with
 | non=>
  cases rx
  cases y with
  | non=>cases ry;exact PySem.EqNone.eq_none_none (bF I q (by simp))
  | bl j=>cases ry;exact PySem.EqNone.eq_none_bool (bF I q (by simp))
  | int j=>obtain⟨t',rfl⟩:=ry;exact PySem.EqNone.eq_none_int (bF I q (by simp))
  | str j=>obtain⟨t',rfl⟩:=ry;exact PySem.EqNone.eq_none_str (bF I q (by simp))
  | _=>exact absurd (show false=true from hs) Bool.false_ne_true
 | bl i=>
  cases rx
  cases y with
  | non=>cases ry;exact PySem.EqNone.eq_bool_none (bF I q (by simp))
  | bl j=>cases ry;exact eq_bool (bF I q dec_bl)
  | str j=>obtain⟨t',rfl⟩:=ry;exact PySem.EqMixed.eq_bool_str (bF I q (by simp))
  | _=>exact absurd (show false=true from hs) Bool.false_ne_true
 | int i=>
  obtain⟨t,rfl⟩:=rx
  cases y with
  | non=>cases ry;exact PySem.EqNone.eq_int_none (bF I q (by simp))
  | int j=>obtain⟨t',rfl⟩:=ry;exact eq_int (bF I q dec_int)
  | str j=>obtain⟨t',rfl⟩:=ry;exact PySem.EqMixed.eq_int_str (bF I q (by simp))
  | _=>exact absurd (show false=true from hs) Bool.false_ne_true
 | str i=>
  obtain⟨t,rfl⟩:=rx
  cases y with
  | non=>cases ry;exact PySem.EqNone.eq_str_none (bF I q (by simp))
  | bl j=>cases ry;exact PySem.EqMixed.eq_str_bool (bF I q (by simp))
  | int j=>obtain⟨t',rfl⟩:=ry;exact PySem.EqMixed.eq_str_int (bF I q (by simp))
  | str j=>obtain⟨t',rfl⟩:=ry;exact eq_str (bF I q dec_str)
  | _=>exact absurd (show false=true from hs) Bool.false_ne_true
 | byt i=>
  obtain⟨t,rfl⟩:=rx
  cases y with
  | byt j=>obtain⟨t',rfl⟩:=ry;exact PySem.W.eq_bytes (bF I q dec_byt)
  | _=>exact absurd (show false=true from hs) Bool.false_ne_true
 | _=>cases y <;> exact absurd (show false=true from hs) Bool.false_ne_true
theorem op_ne:OpR X (compareOp .NotEq) rNe:=by
 intro pins s σ H x y v u Q I rx ry h
 obtain⟨hs,q⟩:=h
 cases x with
 | non=>
  cases rx
  cases y with
  | non=>cases ry;exact PySem.EqNone.ne_none_none (bF I q (by simp))
  | bl j=>cases ry;exact PySem.EqNone.ne_none_bool (bF I q (by simp))
  | int j=>obtain⟨t',rfl⟩:=ry;exact PySem.EqNone.ne_none_int (bF I q (by simp))
  | str j=>obtain⟨t',rfl⟩:=ry;exact PySem.EqNone.ne_none_str (bF I q (by simp))
  | _=>exact absurd (show false=true from hs) Bool.false_ne_true
 | bl i=>
  cases rx
  cases y with
  | non=>cases ry;exact PySem.EqNone.ne_bool_none (bF I q (by simp))
  | bl j=>cases ry;exact ne_bool (bF I q (congrArg not dec_bl))
  | str j=>obtain⟨t',rfl⟩:=ry;exact PySem.EqMixed.ne_bool_str (bF I q (by simp))
  | _=>exact absurd (show false=true from hs) Bool.false_ne_true
 | int i=>
  obtain⟨t,rfl⟩:=rx
  cases y with
  | non=>cases ry;exact PySem.EqNone.ne_int_none (bF I q (by simp))
  | int j=>obtain⟨t',rfl⟩:=ry;exact ne_int (bF I q (congrArg not dec_int))
  | str j=>obtain⟨t',rfl⟩:=ry;exact PySem.EqMixed.ne_int_str (bF I q (by simp))
  | _=>exact absurd (show false=true from hs) Bool.false_ne_true
 | str i=>
  obtain⟨t,rfl⟩:=rx
  cases y with
  | non=>cases ry;exact PySem.EqNone.ne_str_none (bF I q (by simp))
  | bl j=>cases ry;exact PySem.EqMixed.ne_str_bool (bF I q (by simp))
  | int j=>obtain⟨t',rfl⟩:=ry;exact PySem.EqMixed.ne_str_int (bF I q (by simp))
  | str j=>obtain⟨t',rfl⟩:=ry;exact ne_str (bF I q (congrArg not dec_str))
  | _=>exact absurd (show false=true from hs) Bool.false_ne_true
 | byt i=>
  obtain⟨t,rfl⟩:=rx
  cases y with
  | byt j=>obtain⟨t',rfl⟩:=ry;exact PySem.W.ne_bytes (bF I q (congrArg not dec_byt))
  | _=>exact absurd (show false=true from hs) Bool.false_ne_true
 | _=>cases y <;> exact absurd (show false=true from hs) Bool.false_ne_true
theorem op_lt:OpR X (compareOp .Lt) (rI0 fun i j=>.bl (decide (i < j))):=opB0 fun _ _ _ _ _ _ _ q=>lt_int q
theorem op_le:OpR X (compareOp .LtE) (rI0 fun i j=>.bl (decide (i≤j))):=opB0 fun _ _ _ _ _ _ _ q=>le_int q
theorem op_gt:OpR X (compareOp .Gt) (rI0 fun i j=>.bl (decide (j < i))):=opB0 fun _ _ _ _ _ _ _ q=>gt_int q
theorem op_ge:OpR X (compareOp .GtE) (rI0 fun i j=>.bl (decide (j≤i))):=opB0 fun _ _ _ _ _ _ _ q=>ge_int q
theorem op_isN:OpR X (compareOp .Is) (fun x y H Q=>y=.non∧Q (.bl (decide (x=.non))) H):=by
 intro pins s σ H x y v u Q I rx ry h
 obtain⟨rfl,q⟩:=h
 cases ry
 refine is_none_gen (bF I q ?_)
 cases x <;> first
  | (cases rx;rfl)
  | (obtain⟨t,rfl⟩:=rx;rfl)
theorem op_notN:OpR X (compareOp .IsNot) (fun x y H Q=>y=.non∧Q (.bl (!decide (x=.non))) H):=by
 intro pins s σ H x y v u Q I rx ry h
 obtain⟨rfl,q⟩:=h
 cases ry
 refine isnot_none_gen (bF I q ?_)
 cases x <;> first
  | (cases rx;rfl)
  | (obtain⟨t,rfl⟩:=rx;rfl)
theorem bK (b:Expr) {op:CmpOp} (h:op≠.In:=by decide) (h2:op≠.NotIn:=by decide):behindInMarks op b=false:=by
 have e1:(op == CmpOp.In)=false:=by cases op <;> first | rfl | exact absurd rfl h
 have e2:(op == CmpOp.NotIn)=false:=by cases op <;> first | rfl | exact absurd rfl h2
 cases b <;> simp [behindInMarks,e1,e2]
theorem pe_cmpR {op:CmpOp}{r:R2} (ho:OpR X (compareOp op) r) (ha:PE X a ta) (hb:PE X b tb) (hm:behindInMarks op b=false):PE X (.Compare a [op] [b] pos) (tOp r ta tb):=by
 intro pins s σ H Q I h
 exact wpAny_Compare1 (binT ha hb I h fun v u s2 x y H2 I2 rx ry q=>ho pins s2 σ H2 x y v u Q I2 rx ry q) hm
noncomputable def tTest (t:TE):TT:=fun σ H Q=>t σ H fun x H'=>∃ k,x=.bl k∧Q k H'
theorem aS {op:CmpOp}{r:R2} (ho:OpR X (compareOp op) r) (ha:PE X a ta) (hb:PE X b tb) (hm:behindInMarks op b=false):PT X (.Compare a [op] [b] pos) (tTest (tOp r ta tb)):=by
 intro pins s σ H Q I h
 refine wpAny_isTrue_Compare1 (bZ (ha pins s σ H _ I h) fun v s1 ⟨x,H1,I1,r1,q1⟩=>bZ (hb pins s1 σ H1 _ I1 q1) fun u s2 ⟨y,H2,I2,r2,q2⟩=>
  bZ (ho pins s2 σ H2 x y v u _ I2 r1 r2 q2) fun c s3 ⟨z,H3,I3,r3,k,e,q3⟩=>?_) hm
 subst e
 cases r3
 exact wpAny_truthy_bool ⟨H3,I3,q3⟩
noncomputable def tChain (r r':R2) (ta tb tc:TE):TE:=fun σ H Q=>ta σ H fun x H1=>tb σ H1 fun y H2=>r x y H2 fun z H3=>∃ k,z=.bl k∧
 (if k=true then tc σ H3 fun w' H4=>r' y w' H4 Q else Q (.bl false) H3)
theorem pe_chain {op op':CmpOp}{r r':R2} (ho:OpR X (compareOp op) r) (ho':OpR X (compareOp op') r') (ha:PE X a ta) (hb:PE X b tb) (hc:PE X c tc)
  (hm:lastMarks [op,op'] [b,c]=false:=by with_unfolding_all rfl):PE X (.Compare a [op,op'] [b,c] pos) (tChain r r' ta tb tc):=by
 intro pins s σ H Q I h
 refine Compare_chain (bZ (ha pins s σ H _ I h) fun v s1 ⟨x,H1,I1,r1,q1⟩=>chain_link (bZ (hb pins s1 σ H1 _ I1 q1) fun u s2 ⟨y,H2,I2,r2,q2⟩=>
  bZ (ho pins s2 σ H2 x y v u _ I2 r1 r2 q2) fun d s3 ⟨z,H3,I3,r3,k,e,q3⟩=>?_)) hm
 subst e
 cases r3
 refine wpAny_truthy_bool ?_
 cases k with
 | false=>exact ite_ff ⟨.bl false,H3,I3,rfl,q3⟩
 | true=>exact ite_tt (chain_last (bZ (hc pins s3 σ H3 _ I3 q3) fun w' s4 ⟨z',H4,I4,r4,q4⟩=>ho' pins s4 σ H4 y z' u w' Q I4 r2 r4 q4))
theorem pt_chain {op op':CmpOp}{r r':R2} (ho:OpR X (compareOp op) r) (ho':OpR X (compareOp op') r') (ha:PE X a ta) (hb:PE X b tb) (hc:PE X c tc)
  (hm:lastMarks [op,op'] [b,c]=false:=by with_unfolding_all rfl):PT X (.Compare a [op,op'] [b,c] pos) (tTest (tChain r r' ta tb tc)):=by
 intro pins s σ H Q I h
 refine isTrue_chain (bZ (ha pins s σ H _ I h) fun v s1 ⟨x,H1,I1,r1,q1⟩=>test_link (bZ (hb pins s1 σ H1 _ I1 q1) fun u s2 ⟨y,H2,I2,r2,q2⟩=>
  bZ (ho pins s2 σ H2 x y v u _ I2 r1 r2 q2) fun d s3 ⟨z,H3,I3,r3,k,e,q3⟩=>?_)) hm
 subst e
 cases r3
 refine wpAny_truthy_bool ?_
 cases k with
 | false=>
  obtain⟨k',e',q'⟩:=q3
  cases e'
  exact ite_ff ⟨H3,I3,q'⟩
 | true=>
  refine ite_tt (test_last (bZ (hc pins s3 σ H3 _ I3 q3) fun w' s4 ⟨z',H4,I4,r4,q4⟩=>bZ (ho' pins s4 σ H4 y z' u w' _ I4 r2 r4 q4) fun d' s5 ⟨z2,H5,I5,r5,k2,e2,q5⟩=>?_))
  subst e2
  cases r5
  exact wpAny_truthy_bool ⟨H5,I5,q5⟩
theorem line63:(sizeLine:Nat) < 2 ^ 63:=by rw[sizeLine_eq];decide
theorem vals1 {x:V}{us:List Value} (r:bD [x] us):∃ u,us=[u]∧aY x u:=by
 cases r with
 | cons r1 r2=>cases r2;exact⟨_,rfl,r1⟩
theorem call_int1:d8 X (.type "int") (fun xs H Q=>(∃ i,xs=[.int i]∧Q (.int i) H)∨∃ k,xs=[.bl k]∧Q (.int (if k then 1 else 0)) H):=by
 intro pins s σ H xs us Q I r h
 rcases h with ⟨i,rfl,q⟩ | ⟨k,rfl,q⟩
 ·obtain⟨u,rfl,t,rfl⟩:=vals1 r
  exact call_int_int ⟨.int i,H,I,⟨_,rfl⟩,q⟩
 ·obtain⟨u,rfl,r1⟩:=vals1 r
  cases r1
  exact call_int_bool ⟨.int (if k then 1 else 0),H,I.tok _,⟨_,rfl⟩,q⟩
end
end L2
namespace L2
open PySem PySem.Spec PyProof.Rows
structure ObjM (h:Heap) (x dx C:Addr) (mA:Str→Option Value):Prop where
 obj:h.get? x=some (PySem.W.instObj C dx)
 ns:h.Ns1 dx mA
 ne:dx≠x
theorem lookIn_ns {h:Heap}{dx:Addr}{mA:Str→Option Value} (n:h.Ns1 dx mA):∃ od,h.get? dx=some od∧∀ name,PySem.W.lookIn name od=some (mA name):=by
 obtain⟨o,es,ep,ho,hd,hk,_,hm⟩:=n
 refine⟨o,ho,fun name=>?_⟩
 have e:=hm name
 unfold nsFind findBy at e
 rw[← Array.find?_toList] at e
 unfold PySem.W.lookIn
 rw[hd]
 dsimp only
 split
 ·rename_i y q
  rw[q] at e
  exact congrArg some e
 ·rename_i q
  rw[q] at e
  have a:es.toList.any (·.refKey)=false:=by
   rw[List.any_eq_false]
   intro y hy
   obtain⟨z,t,hkey⟩:=hk y (Array.mem_toList_iff.mp hy)
   simp [DictEntry.refKey,hkey]
  have a':¬ es.toList.any (·.refKey)=true:=by rw[a];exact Bool.false_ne_true
  rw[if_neg a']
  exact congrArg some e
theorem ObjM.look {h:Heap}{x dx C:Addr}{mA:Str→Option Value} (I:ObjM h x dx C mA):∃ od,PySem.W.InstAt h x (PySem.W.instObj C dx) C (some od)∧∀ name,PySem.W.lookIn name od=some (mA name):=
 let ⟨od,ho,hl⟩:=lookIn_ns I.ns
 ⟨od,⟨I.obj,rfl,rfl,ho⟩,hl⟩
section
variable {prog:Program}{w:World}{A:Around}{E:Value→Shared→Prop}{s:Shared}{K:PySem.W.Frag}{x dx C f:Addr}{mA:Str→Option Value}{name:Str}{v:Value}
end
theorem RelO.some_of {v:V}{o:Option Value} (r:RelO (some v) o):∃ u,o=some u∧aY v u:=by
 cases o with
 | none=>exact (show False from r).elim
 | some u=>exact⟨u,rfl,r⟩
section
variable {P:Program}{w:World}{H H':Hp}{h h':Heap}{a C dx:Addr}{fs fs':List (Str×V)}
theorem ins_get (hok:HOk P w H h) (e:H a=some (.ins C dx fs)):∃ mA,ObjM h a dx C mA∧(∀ f,RelO (fs.lookup f) (mA f))∧PySem.Within mA (fs.map (·.1))∧fs.length≤1000∧H dx=some (.own a):=by
 obtain⟨d,z,ne,ob,mA,n,r,q⟩:=(show bQ P w H h a (.ins C dx fs) from hok a _ e)
 exact⟨mA,⟨ob,n,ne⟩,r,q,z,d⟩
end
structure Cls (K:PySem.W.Frag) (C:Addr):Prop where
 pg:PySem.W.plainGet K C Str.empty=true
 hd:PySem.W.hasDictIn K C=true
 po:PySem.W.plainOver K C=true
 sa:PySem.W.findIn K (.ref C) "__setattr__" = some (some (.builtin "object.__setattr__"))
theorem Cls.get {K:PySem.W.Frag}{C:Addr} (c:Cls K C) (f:Str):PySem.W.plainGet K C f=true:=c.pg
section
variable {X:Cx}{pins:List (Addr×Obj)}{σ:St}{H:Hp}{s:Shared}{a C dx:Addr}{fs:List (Str×V)}{f:Str}{v:V}{A:Around}{E:Value→Shared→Prop}
end
section
variable {X:Cx}{o e value:Expr}{f:Str}{pos pos' tpos:Pos}{ta tv:TE}
end
section
variable {X:Cx}{pins:List (Addr×Obj)}{σ:St}{H:Hp}{s:Shared}{A:Around}{E:Value→Shared→Prop}{Q:Value→Shared→Prop}{c:Value}{b:Bool}
inductive TyOf (K:PySem.W.Frag) (H:Hp):V→Value→Prop where
 | non:TyOf K H .non (.type "NoneType")
 | bl (x:Bool):TyOf K H (.bl x) (.type "bool")
 | int (i:Int):TyOf K H (.int i) (.type "int")
 | str (x:Str):TyOf K H (.str x) (.type "str")
 | flt (x:UInt64):TyOf K H (.flt x) (.type "float")
 | lst {a:Addr}{xs:List V} (e:H a=some (.lst xs)):TyOf K H (.ref a) (.type "list")
 | frz {a:Addr}{o:Obj}{xs:List V} (e:H a=some (.frz o (.lst xs))):TyOf K H (.ref a) (.type "list")
 | tup {a:Addr}{xs:List V} (e:H a=some (.tup xs)):TyOf K H (.ref a) (.type "tuple")
 | dK {a:Addr}{kvs:List (Key×V)} (e:H a=some (.dK kvs)):TyOf K H (.ref a) (.type "dict")
 | dT {a:Addr}{kvs:List (List Key×V)} (e:H a=some (.dT kvs)):TyOf K H (.ref a) (.type "dict")
 | ins {a C dx:Addr}{fs:List (Str×V)} (e:H a=some (.ins C dx fs)) (cl:Cls K C) (ha:PySem.W.findIn K (.ref C) "__class__" = some (some (.builtin "object.__class__")))
   (hn:PySem.W.specialIn K (.builtin "object.__class__") "__get__" = some (some (.builtin "getset_descriptor.__get__"))) (htk:PySem.W.takesIn K (.builtin "object.__class__")=some true)
   (hm:PySem.W.mroIn K C (.type "object")=some true):TyOf K H (.ref a) (.ref C)
theorem isinst_ok {x:V}{u t:Value} (I:Inv X pins σ H s) (rx:aY x u) (ty:TyOf X.K H x t) (e:PySem.W.kitOne X.K t c=some b) (h:∀ tk,Q (.bool b) { s with toks:=tk }) :
  wpAny (model X.prog X.w) A (call (.builtin "isinstance") [u,c]) Q E s:=by
 cases ty with
 | non=>cases (show u=Value.none from rx);exact PySem.W.kia_one PySem.W.kitx_none I.kIn True.intro e (fun z=>nomatch z) h
 | bl y=>cases (show u=Value.bool y from rx);exact PySem.W.kia_one PySem.W.kitx_bool I.kIn True.intro e (fun z=>nomatch z) h
 | int i=>obtain⟨t,q⟩:=(show ∃ t,u=Value.int i t from rx);cases q;exact PySem.W.kia_one PySem.W.kitx_int I.kIn True.intro e (fun z=>nomatch z) h
 | str y=>obtain⟨t,q⟩:=(show ∃ t,u=Value.str y t from rx);cases q;exact PySem.W.kia_one PySem.W.kitx_str I.kIn True.intro e (fun z=>nomatch z) h
 | flt y=>obtain⟨t,q⟩:=(show ∃ t,u=Value.float y t from rx);cases q;exact PySem.W.kia_one PySem.W.kitx_float I.kIn True.intro e (fun z=>nomatch z) h
 | @lst a xs ea=>
  cases (show u=Value.ref a from rx)
  obtain⟨_,_,n,_,h1⟩:=(show bQ X.prog X.w H s.heap a (.lst xs) from I.hok a _ ea)
  exact PySem.W.kia_one PySem.W.kitx_list I.kIn ⟨_,h1,rfl⟩ e (fun z=>nomatch z) h
 | @frz a ob xs ea=>
  cases (show u=Value.ref a from rx)
  obtain⟨_,_,_,n,_,h1⟩:=(show bQ X.prog X.w H s.heap a (.frz ob (.lst xs)) from I.hok a _ ea)
  exact PySem.W.kia_one PySem.W.kitx_list I.kIn ⟨_,h1,rfl⟩ e (fun z=>nomatch z) h
 | @tup a xs ea=>
  cases (show u=Value.ref a from rx)
  obtain⟨_,_,_,p⟩:=(show bQ X.prog X.w H s.heap a (.tup xs) from I.hok a _ ea)
  obtain⟨o,h1,h2,_⟩:=p
  exact PySem.W.kia_one PySem.W.kitx_tuple I.kIn ⟨o,h1,h2⟩ e (fun z=>nomatch z) h
 | @dK a kvs ea=>
  cases (show u=Value.ref a from rx)
  obtain⟨_,_,vs,_,p⟩:=(show bQ X.prog X.w H s.heap a (.dK kvs) from I.hok a _ ea)
  obtain⟨o,es,ep,h1,h2,_⟩:=p
  exact PySem.W.kia_one PySem.W.kitx_dict I.kIn ⟨o,h1,h2.1⟩ e (fun z=>nomatch z) h
 | @dT a kvs ea=>
  cases (show u=Value.ref a from rx)
  obtain⟨_,_,xs,_,o,es,ep,h1,h2,_⟩:=(show bQ X.prog X.w H s.heap a (.dT kvs) from I.hok a _ ea)
  exact PySem.W.kia_one PySem.W.kitx_dict I.kIn ⟨o,h1,h2.1⟩ e (fun z=>nomatch z) h
 | @ins a C dx fs ea cl ha hn htk hm=>
  cases (show u=Value.ref a from rx)
  obtain⟨mA,O,_⟩:=ins_get I.hok ea
  obtain⟨od,J,_⟩:=O.look
  exact PySem.W.kia_one (PySem.W.kitx_own (cl.get _) cl.hd ha hn htk hm) I.kIn J e (fun z=>nomatch z) h
end
end L2
namespace L2
open PySem PySem.Spec PyProof.Rows
structure Room (k:Nat) (A:Around):Prop where
 hd:A.handled=none
 dp:A.depth+3 * k+5 < recursionLimit
 un:A.units+16 * k+200 < cLine
theorem Room.mono {j k:Nat}{A:Around} (r:Room k A) (h:j≤k):Room j A:=⟨r.hd,by have:=r.dp;omega,by have:=r.un;omega⟩
theorem Room.deeper {k:Nat}{A:Around} (r:Room (k+1) A) (env:Env):Room k (A.deeper env):=
 ⟨r.hd,by have:=r.dp;show A.depth+1+3 * k+5 < _;omega,by have:=r.un;show A.units+3+16 * k+200 < _;omega⟩
theorem Room.depth {k:Nat}{A:Around} (r:Room k A):A.depth < recursionLimit:=by have:=r.dp;omega
theorem Room.units {k:Nat}{A:Around} (r:Room k A):A.units+64 < cLine:=by have:=r.un;omega
noncomputable def tNil:TA:=fun _ H Q=>Q [] H
noncomputable def cA (ta:TE) (tr:TA):TA:=fun σ H Q=>ta σ H fun x H1=>tr σ H1 fun xs H2=>Q (x::xs) H2
section
variable {X:Cx}{e:Expr}{es:List Expr}{te:TE}{t:TA}{pos:Pos}
theorem aB:PA X [] tNil:=fun _ _ _ _ H Q I h=>Calls.spliced_nil ⟨[],H,I,.nil,h⟩
theorem aA (ha:PE X e te) (hr:PA X es t) (hs:starEach (e::es) X.env=(false,eval e X.env)::starEach es X.env:=by rfl):PA X (e::es) (cA te t):=by
 intro pos pins s σ H Q I h
 rw[hs]
 show wpAny _ _ (spliced ((false,eval e X.env)::backTo pos (starEach es X.env))) _ _ s
 refine Calls.spliced_cons (bZ (ha pins s σ H _ I h) fun u s1 ⟨x,H1,I1,r1,q1⟩=>?_)
 exact bZ (hr pos pins s1 σ H1 _ I1 q1) fun us s2 ⟨xs,H2,I2,r2,q2⟩=>⟨x::xs,H2,I2,.cons r1 r2,q2⟩
noncomputable def tTup (t:TA):TE:=fun σ H Q=>t σ H fun xs H1=>xs.length≤sizeLine∧∀ p,H1 p=none→Q (.ref p) (upd H1 p (.tup xs))
noncomputable def tLst (t:TA):TE:=fun σ H Q=>t σ H fun xs H1=>xs.length≤sizeLine∧∀ p,H1 p=none→Q (.ref p) (upd H1 p (.lst xs))
theorem bX {x1} (h:PA X es t):PE X (.Tuple es x1 pos) (tTup t):=by
 intro pins s σ H Q I hq
 refine wpAny_Tuple_spliced (bZ (h pos pins s σ H _ I hq) fun us s1 ⟨xs,H1,I1,r,z,q⟩=>⟨by rw[← r.length];exact z,?_⟩)
 have hf:H1 s1.heap.objs.size=none:=I1.hok.fresh (Nat.le_refl _)
 refine⟨.ref s1.heap.objs.size,upd H1 s1.heap.objs.size (.tup xs),I1.laid (t':=s1.toks) (fun b u e=>Heap.get?_push_of_some _ e) (Nat.le_refl _) ?_,rfl,q _ hf⟩
 exact⟨z,us,r,⟨_,Heap.get?_push_size _ rfl,rfl,_,rfl⟩⟩
theorem bJ (h:PA X es t):PE X (.List es pos) (tLst t):=by
 intro pins s σ H Q I hq
 refine wpAny_List_spliced (bZ (h pos pins s σ H _ I hq) fun us s1 ⟨xs,H1,I1,r,z,q⟩=>⟨by rw[← r.length];exact z,?_⟩)
 have hf:H1 s1.heap.objs.size=none:=I1.hok.fresh (Nat.le_refl _)
 refine⟨.ref s1.heap.objs.size,upd H1 s1.heap.objs.size (.lst xs),I1.laid (t':=s1.toks) (fun b u e=>Heap.get?_push_of_some _ e) (Nat.le_refl _) ?_,rfl,q _ hf⟩
 exact⟨z,us,0,r,Heap.get?_push_size _ rfl⟩
end
noncomputable abbrev Sp:=List V→Hp→VK→XK→Prop
noncomputable abbrev CXT:=List Env→Hp→Shared→XK→Value→Shared→Prop
structure Env0 (P:Program) (w:World) (K:PySem.W.Frag) (mg:Str→Option Value) (base:Heap) (A:Around) (outer:List Env) (s:Shared) (H:Hp):Prop where
 frames:A.frames=some outer
 mod:Mod K mg base
 bs:∀ b o,base.get? b=some o→s.heap.get? b=some o∧H b=none
 bsz:base.objs.size≤s.heap.objs.size
 funs:s.heap.FunFrames base outer
 frf:∀ b∈frs outer,H b=none
 hok:HOk P w H s.heap
 bare:AllBare s.gens
noncomputable def CE (outer:List Env) (P:Program) (w:World) (H:Hp) (s:Shared) (Q:VK) (u:Value) (s':Shared):Prop:=
 ∃ v H',s'.os=s.os∧AllBare s'.gens∧Un (frs outer) [] H H' s.heap s'.heap∧HOk P w H' s'.heap∧aY v u∧Q v H'
noncomputable def CR (CX:CXT) (outer:List Env) (P:Program) (w:World) (H:Hp) (s:Shared) (Q:VK) (E:XK) (r:Result) (s':Shared):Prop:=
 match r with
 | .ok (.ret u)=>CE outer P w H s Q u s'
 | .ok _=>False
 | .error e=>CX outer H s E e s'
structure FnOk (P:Program) (w:World) (K:PySem.W.Frag) (mg:Str→Option Value) (base:Heap) (CX:CXT) (k:Nat) (f:Addr) (fd:FuncData) (ps:List Str) (sp:Sp):Prop where
 len:∀ vs H Q E,sp vs H Q E→vs.length=ps.length
 run:∀ (A:Around) (outer:List Env) (s:Shared) (H:Hp) (args:Args) (us:List Value) (vs:List V) (Q:VK) (E:XK),Room k A→Env0 P w K mg base A outer s H→BindsTo s fd args (ps.zip us)→bD vs us→sp vs H Q E→
  codeAny (model P w) A (.call (.ref f) args) (CR CX outer P w H s Q E) s
theorem FnOk.imp {P:Program}{w:World}{K:PySem.W.Frag}{mg:Str→Option Value}{base:Heap}{CX:CXT}{k:Nat}{f:Addr}{fd:FuncData}{ps:List Str}{sp sp':Sp} (F:FnOk P w K mg base CX k f fd ps sp)
  (h:∀ vs H Q E,sp' vs H Q E→sp vs H Q E):FnOk P w K mg base CX k f fd ps sp':=
 ⟨fun vs H Q E q=>F.len vs H Q E (h _ _ _ _ q),fun A outer s H args us vs Q E hr he hb hv hs=>F.run A outer s H args us vs Q E hr he hb hv (h _ _ _ _ hs)⟩
section
variable {X:Cx}{pins:List (Addr×Obj)}{σ:St}{H:Hp}{s s':Shared}
theorem Inv.env0 (I:Inv X pins σ H s):Env0 X.prog X.w X.K X.mg X.base X.A X.stack s H:=
 ⟨I.ok.frames,I.ok.mod,I.bs,Nat.le_trans I.ok.bsz I.sz,I.stack,I.stkFree,I.hok,I.bare⟩
theorem Inv.after {Q:VK}{u:Value} (I:Inv X pins σ H s) (h:CE X.stack X.prog X.w H s Q u s'):EP X pins σ Q u s':=by
 obtain⟨v,H',os,bare,un,hok,r,q⟩:=h
 obtain⟨hh,g,d,t,os'⟩:=s'
 obtain rfl:os'=s.os:=os
 exact⟨v,H',I.call (h':=hh) (g':=g) (d':=d) (t':=t) (ch:=[]) un hok bare (fun b z=>absurd z (by simp)),r,q⟩
end
noncomputable def tCall (sp:Sp) (dvs:List V) (E:XK) (t:TA):TE:=fun σ H Q=>t σ H fun vs H1=>sp (vs++dvs) H1 Q E
noncomputable def Binds (K:PySem.W.Frag) (fd:FuncData) (ps:List Str) (ds:List Value):Prop:=
 ∀ (s:Shared) (us:List Value),K.In s.heap→(us++ds).length=ps.length→BindsTo s fd ⟨us,[]⟩ (ps.zip (us++ds))
theorem Binds.all {K:PySem.W.Frag}{fd:FuncData}{ps:List Str} (h:∀ us:List Value,us.length=ps.length→bindArgs fd ⟨us,[]⟩=pure (ps.zip us)):Binds K fd ps []:=fun s us _ hl=>by
 rw[List.append_nil] at hl ⊢
 exact .of_eq (h us hl)
noncomputable def Passes (CX:CXT) (X:Cx) (E:XK):Prop:=∀ (pins:List (Addr×Obj)) (σ:St) (H:Hp) (s:Shared) (e:Value) (s':Shared),Inv X pins σ H s→CX X.stack H s E e s'→X.xe e s'
section
variable {X:Cx}{CX:CXT}{k:Nat}{f C:Addr}{fd:FuncData}{ps:List Str}{sp:Sp}{dvs:List V}{ds:List Value}{E:XK}{x m:Str}{p pos apos:Pos}{e o:Expr}{es:List Expr}{ta:TE}{t:TA}
theorem run_fn {pins:List (Addr×Obj)}{σ:St}{H:Hp}{s:Shared}{Q:VK}{us:List Value}{vs:List V} (F:FnOk X.prog X.w X.K X.mg X.base CX k f fd ps sp) (hr:Room k X.A) (hb:Binds X.K fd ps ds) (hd:bD dvs ds) (hx:Passes CX X E)
  (I:Inv X pins σ H s) (r:bD vs us) (h:sp (vs++dvs) H Q E):wpAny (model X.prog X.w) X.A (call (.ref f) us) (EP X pins σ Q) X.xe s:=by
 have r2:bD (vs++dvs) (us++ds):=r.append hd
 have hl:(us++ds).length=ps.length:=by rw[← r2.length];exact F.len _ _ _ _ h
 refine wpAny_call (codeAny_mono (F.run X.A X.stack s H ⟨us,[]⟩ (us++ds) (vs++dvs) Q E hr I.env0 (hb s us I.kIn hl) r2 h) fun r s' hq=>?_)
 cases r with
 | error e=>exact hx pins σ H s e s' I hq
 | ok fl=>
  cases fl with
  | ret u=>exact I.after hq
  | next=>exact False.elim hq
  | brk=>exact False.elim hq
  | cont=>exact False.elim hq
theorem pe_call (F:FnOk X.prog X.w X.K X.mg X.base CX k f fd ps sp) (hr:Room k X.A) (hg:Gl X x) (hm:X.mg x=some (.ref f)) (hk:PySem.W.keepIn X.K (.ref f)=true) (hb:Binds X.K fd ps ds) (hd:bD dvs ds) (hx:Passes CX X E)
  (ha:PA X (e::es) t) (hdb:(x == ("__debug__" : Str))=false:=by decide) (he:starEach (e::es) X.env=(false,eval e X.env)::starEach es X.env:=by rfl) (hpl:(backTo pos (starEach es X.env)).any (·.1)=false:=by rfl) :
  PE X (.Call (.Name x p) (e::es) [] pos) (tCall sp dvs E t):=by
 intro pins s σ H Q I h
 refine wpAny_Call_Name_kw (ld_glob I hg hm ?_ hdb)
 refine PySem.W.callWith_K (h₀:=X.base) I.ok.mod.kin hk (bZ (ha pos pins s σ H _ I h) fun us s1 ⟨vs,H1,I1,r,q⟩=>⟨I1.kIn,?_⟩) he hpl
 exact run_fn F hr hb hd hx I1 r q
end
section
variable {X:Cx}{CX:CXT}{k:Nat}{f C:Addr}{fd:FuncData}{ps ks:List Str}{sp:Sp}{E:XK}{x m:Str}{p pos apos kpos:Pos}{e o:Expr}{es:List Expr}{kws:List Keyword}{te ta:TE}{t tk:TA}{nm:Option Str}
variable {g:List Value→List Value→List Value}{gV:List V→List V→List V}
end
structure FnScope (N P:List Str) (sc:Scope):Prop where
 kind:sc.kind=.function
 co:sc.isCoroutine=false
 gen:sc.isGenerator=false
 nd:N.Nodup
 pre:N.take P.length=P
 par:∀ x∈P,sc.names.lookup x=some .local∨sc.names.lookup x=some .cell
 nofree:∀ y∈sc.names,y.2≠.free
theorem bindL_out {kindOf:Str→Option NameKind}{x:Str}:∀ {binds:List (Str×Value)}{m:Str→Option Value},(∀ v,(x,v)∉binds)→bindL kindOf binds m x=m x
 | [],_,_=>rfl
 | (n,v)::r,m,h=>by
  unfold bindL
  rw[bindL_out fun w hw=>h w (List.mem_cons_of_mem _ hw)]
  split
  ·have:x≠n:=by rintro rfl;exact h v List.mem_cons_self
   simp [this]
  ·rfl
theorem bindC_out {kindOf:Str→Option NameKind}{x:Str}:∀ {binds:List (Str×Value)}{m:Str→Option Value},(∀ v,(x,v)∉binds)→bindC kindOf binds m x=m x
 | [],_,_=>rfl
 | (n,v)::r,m,h=>by
  unfold bindC
  rw[bindC_out fun w hw=>h w (List.mem_cons_of_mem _ hw)]
  split
  ·rfl
  ·have:x≠n:=by rintro rfl;exact h v List.mem_cons_self
   simp [this]
theorem bindL_get {kindOf:Str→Option NameKind}{x:Str}{v:Value}:∀ {P:List Str}{vs:List Value}{i:Nat}{m:Str→Option Value},P.Nodup→P[i]? = some x→vs[i]? = some v→kindOf x=some .local→
  bindL kindOf (P.zip vs) m x=some v
 | [],_,_,_,_,h,_,_=>by simp at h
 | _::_,[],_,_,_,_,h,_=>by simp at h
 | p::P,w::vs,0,m,nd,h1,h2,hk=>by
  simp at h1 h2;subst h1;subst h2
  show bindL kindOf ((p,w)::P.zip vs) m p=_
  unfold bindL
  rw[bindL_out fun v hv=>(List.nodup_cons.mp nd).1 (List.of_mem_zip hv).1,if_pos hk]
  simp
 | p::P,w::vs,i+1,m,nd,h1,h2,hk=>by
  show bindL kindOf ((p,w)::P.zip vs) m x=_
  unfold bindL
  exact bindL_get (i:=i) (List.nodup_cons.mp nd).2 (by simpa using h1) (by simpa using h2) hk
theorem bindC_get {kindOf:Str→Option NameKind}{x:Str}{v:Value}:∀ {P:List Str}{vs:List Value}{i:Nat}{m:Str→Option Value},P.Nodup→P[i]? = some x→vs[i]? = some v→kindOf x≠some .local→
  bindC kindOf (P.zip vs) m x=some v
 | [],_,_,_,_,h,_,_=>by simp at h
 | _::_,[],_,_,_,_,h,_=>by simp at h
 | p::P,w::vs,0,m,nd,h1,h2,hk=>by
  simp at h1 h2;subst h1;subst h2
  show bindC kindOf ((p,w)::P.zip vs) m p=_
  unfold bindC
  rw[bindC_out fun v hv=>(List.nodup_cons.mp nd).1 (List.of_mem_zip hv).1,if_neg hk]
  simp
 | p::P,w::vs,i+1,m,nd,h1,h2,hk=>by
  show bindC kindOf ((p,w)::P.zip vs) m x=_
  unfold bindC
  exact bindC_get (i:=i) (List.nodup_cons.mp nd).2 (by simpa using h1) (by simpa using h2) hk
noncomputable def start (N:List Str) (vs:List V):St:=vs.map some++List.replicate (N.length - vs.length) none
noncomputable def cxOf (CX:CXT) (P:Program) (w:World) (K:PySem.W.Frag) (mg:Str→Option Value) (base:Heap) (N:List Str) (qual:Str) (scope:Scope) (f:Addr) (cd:Value) (A:Around) (outer:List Env) (s:Shared) (H:Hp) (E:XK):Cx where
 prog:=P
 w:=w
 K:=K
 mg:=mg
 base:=base
 A:=A.deeper (envOfC qual scope s.heap.objs.size f cd)
 N:=N
 s₀:=s
 H₀:=H
 env:=envOfC qual scope s.heap.objs.size f cd
 outer:=outer
 stack:=envOfC qual scope s.heap.objs.size f cd::outer
 ex:=[]
 calm:=true
 fn:=fun _=>true
 pn:=[]
 xe:=fun e s'=>wpAny (model P w) (A.deeper (envOfC qual scope s.heap.objs.size f cd)) (leaving (envOfC qual scope s.heap.objs.size f cd) e) (fun _ s''=>CX outer H s E e s'') (fun e' s''=>CX outer H s E e' s'') s'
theorem cell_has {sc:Scope}{n:Nat}{x:Str} (h:sc.names.lookup x=some .cell):∃ c,(cellsFrom n sc.names []).lookup x=some c:=by
 have q:=PySem.W.cellsFrom_some sc.names n [] (.inl h)
 exact Option.isSome_iff_exists.mp q
theorem inv_start {CX:CXT}{P:Program}{w:World}{K:PySem.W.Frag}{mg:Str→Option Value}{base:Heap}{N ps:List Str}{qual:Str}{scope:Scope}{f:Addr}{cd:Value}{A:Around}{outer:List Env}{s s1:Shared}{H:Hp}{E:XK}{us:List Value}{vs:List V}
  (S:FnScope N ps scope) (hd:A.handled=none) (e0:Env0 P w K mg base A outer s H) (hl:vs.length=ps.length) (r:bD vs us)
  (x:InCallC s s.heap.objs.size (bindL (envOfC qual scope s.heap.objs.size f cd).kindOf (ps.zip us) fun _=>none) (cellsFrom (s.heap.objs.size+1) scope.names []) (bindC (envOfC qual scope s.heap.objs.size f cd).kindOf (ps.zip us) fun _=>none) s1) :
  Inv (cxOf CX P w K mg base N qual scope f cd A outer s H E) [] (start N vs) H s1:=by
 have hpl:ps.length≤N.length:=by have:=congrArg List.length S.pre;rw[List.length_take] at this;omega
 obtain⟨h1,tk,rfl,hk⟩:=x.done
 have noA:∀ b:Addr,b∉(cxOf CX P w K mg base N qual scope f cd A outer s H E).ex:=fun b z=>absurd (show b∈([]:List Addr) from z) (by simp)
 refine⟨⟨e0.mod,S.kind,rfl,rfl,Nat.le_refl _,fun y z c h1 h2=>?_,fun y hy=>?_,fun y c _ h=>?_,fun _=>hd,Around.frames_deeper e0.frames,.inr ⟨rfl,rfl⟩,fun b z=>absurd z (noA b),e0.bs,e0.bsz,fun b _ _=>noA b,fun b z=>absurd z (noA b),e0.funs,e0.frf⟩,
  rfl,e0.bare,Un.kept hk,⟨_,x.toInCall.ns,fun i y v h1 h2 h3=>?_⟩,fun y c h=>⟨_,x.cell y c h⟩,e0.hok.fresh (Nat.le_refl _),fun y c h=>?_,fun p hp=>absurd (show p∈([]:List (Addr×Obj)) from hp) (by simp),e0.hok.kept hk,?_⟩
 ·exact name_of_addr x.apart (PySem.mem_of_lookup h1) (PySem.mem_of_lookup h2)
 ·have hy:scope.names.lookup y=some .cell∨scope.names.lookup y=some .free:=hy
  rcases hy with hy | hy
  ·exact cell_has hy
  ·exact absurd rfl (S.nofree _ (PySem.mem_of_lookup hy))
 ·exact Nat.le_of_lt (x.above y c (PySem.mem_of_lookup h))
 ·have hi:i < vs.length:=by
   unfold start at h2
   by_cases hi:i < vs.length
   ·exact hi
   ·rw[List.getElem?_append_right (by simpa using hi)] at h2
    rw[List.getElem?_replicate] at h2
    split at h2 <;> cases h2
  have ha:vs[i]? = some v:=by
   unfold start at h2
   rw[List.getElem?_append_left (by simpa using hi),List.getElem?_map] at h2
   cases e:vs[i]? with
   | none=>rw[e] at h2;cases h2
   | some a=>rw[e] at h2;cases h2;rfl
  obtain⟨u,hu,rv⟩:=r.get ha
  have hp:ps[i]? = some y:=by
   rw[← S.pre,List.getElem?_take_of_lt (by omega)];exact h1
  have ndP:ps.Nodup:=by rw[← S.pre];exact S.nd.sublist (List.take_sublist _ _)
  refine⟨u,rv,?_⟩
  rcases S.par y (List.mem_of_getElem? hp) with k | k
  ·exact .inl ⟨k,bindL_get ndP hp hu k⟩
  ·obtain⟨c,e⟩:=cell_has (n:=s.heap.objs.size+1) k
   refine .inr ⟨.inl k,c,e,?_⟩
   have q:=x.cell y c e
   rw[bindC_get ndP hp hu (by show scope.names.lookup y≠_;rw[k];decide)] at q
   exact q
 ·exact e0.hok.fresh (Nat.le_of_lt (x.above y c (PySem.mem_of_lookup h)))
 ·unfold start
  show _=N.length
  rw[List.length_append,List.length_map,List.length_replicate]
  omega
theorem fn_of {CX:CXT}{P:Program}{w:World}{K:PySem.W.Frag}{mg:Str→Option Value}{base:Heap}{k:Nat}{f:Addr}{name qual:Str}{params:Arguments}{body:List Stmt}{scope:Scope}{dV kV doc pm cdv ct oc:Value}{an od:Option Addr}
  {osl:Array (Option Value)}{N ps:List Str}{sp:Sp} (lk:K.lookup f=some ⟨oc,od,.func (PySem.W.fnOf name qual params body scope dV kV doc pm an cdv ct),osl⟩) (hcd:PySem.W.codeIn K cdv qual=true) (S:FnScope N ps scope)
  (len:∀ vs H Q E,sp vs H Q E→vs.length=ps.length)
  (hbody:∀ (A:Around) (outer:List Env) (s:Shared) (H:Hp) (vs:List V) (Q:VK) (E:XK),Room k (A.deeper (envOfC qual scope s.heap.objs.size f cdv))→sp vs H Q E→
   ∃ t,PSs (cxOf CX P w K mg base N qual scope f cdv A outer s H E) body t∧t { nx:=fun _ H'=>Q .non H',rt:=Q } (start N vs) H) :
  FnOk P w K mg base CX (k+1) f (PySem.W.fnOf name qual params body scope dV kV doc pm an cdv ct) ps sp:=by
 refine⟨len,fun A outer s H args us vs Q E hr e0 hb r hsp=>?_⟩
 have hl:=len _ _ _ _ hsp
 have KX:K.In s.heap:=e0.mod.kin.keeps fun b o e=>(e0.bs b o e).1
 have lim:s.heap.NoLimit:=e0.mod.nolimit.keeps fun b o e=>(e0.bs b o e).1
 have hkind:∀ y∈ps.zip us,scope.names.lookup y.1=some .local∨(scope.names.lookup y.1=some .cell∧((cellsFrom (s.heap.objs.size+1) scope.names []).lookup y.1).isSome=true):=fun ⟨n,v⟩ hy=>by
  rcases S.par n (List.of_mem_zip hy).1 with q | q
  ·exact .inl q
  ·exact .inr ⟨q,PySem.W.cellsFrom_some _ _ _ (.inl q)⟩
 refine codeAny_call_function hr.depth (KX _ _ lk) rfl S.co S.gen rfl (PySem.W.codeRec_of KX hcd) (hb _ _ _ _ ?_)
 refine wpAny_newFunctionEnv_cells S.kind hkind fun env he s1 x=>?_
 subst he
 refine⟨lim.keeps x.toInCall.keep,codeAny_func ?_⟩
 obtain⟨t,ht,hq⟩:=hbody A outer s H vs Q E (hr.deeper _) hsp
 have I:Inv (cxOf CX P w K mg base N qual scope f cdv A outer s H E) [] (start N vs) H s1:=inv_start S hr.hd e0 hl r x
 refine wpAny_mono (ht [] s1 (start N vs) H _ I hq) (fun fl s' hs=>?_) fun e s' hs=>hs
 have fin:∀ {σ':St}{H':Hp}{v:V}{u:Value},Inv (cxOf CX P w K mg base N qual scope f cdv A outer s H E) [] σ' H' s'→aY v u→Q v H'→CE outer P w H s Q u s':=
  fun {σ' H' v u} J rv q=>⟨v,H',J.os,J.bare,J.base,J.hok,rv,q⟩
 cases fl with
 | ret u=>
  obtain⟨v,σ',H',J,rv,q⟩:=hs
  exact fin J rv q
 | next=>
  obtain⟨σ',H',J,q⟩:=hs
  exact fin (v:=V.non) (u:=Value.none) J rfl q
 | brk=>
  obtain⟨_,_,_,q⟩:=hs
  exact False.elim q
 | cont=>
  obtain⟨_,_,_,q⟩:=hs
  exact False.elim q
end L2
namespace L2
open PySem PySem.Spec PyProof.Rows
section
variable {X:Cx}{x:Str}{p pos:Pos}{e:Expr}{es:List Expr}{t:TA}{id T:String}{r:List V→Hp→VK→Prop}
noncomputable def tCB (r:List V→Hp→VK→Prop) (t:TA):TE:=fun σ H Q=>t σ H fun vs H1=>r vs H1 Q
theorem aL (hc:d8 X (.builtin id) r) (hg:Gl X x) (hm:X.mg x=none) (hv:bootBuiltins x=some (.builtin id)) (ha:PA X (e::es) t) (hn:x ≠ "__name__" := by decide) (hdb:(x == ("__debug__" : Str))=false:=by decide)
  (he:starEach (e::es) X.env=(false,eval e X.env)::starEach es X.env:=by rfl) (hpl:(backTo pos (starEach es X.env)).any (·.1)=false:=by rfl):PE X (.Call (.Name x p) (e::es) [] pos) (tCB r t):=by
 intro pins s σ H Q I h
 refine wpAny_Call_Name_kw (ld_blt I hg hm hv ?_ hn hdb)
 exact PyProof.Rows.callWith_builtin1 (bZ (ha pos pins s σ H _ I h) fun us s1 ⟨vs,H1,I1,r1,q1⟩=>hc pins s1 σ H1 vs us Q I1 r1 q1) he hpl
theorem aV (hc:d8 X (.type T) r) (hg:Gl X x) (hm:X.mg x=none) (hv:bootBuiltins x=some (.type T)) (ha:PA X (e::es) t) (hn:x ≠ "__name__" := by decide) (hdb:(x == ("__debug__" : Str))=false:=by decide)
  (he:starEach (e::es) X.env=(false,eval e X.env)::starEach es X.env:=by rfl) (hpl:(backTo pos (starEach es X.env)).any (·.1)=false:=by rfl):PE X (.Call (.Name x p) (e::es) [] pos) (tCB r t):=by
 intro pins s σ H Q I h
 refine wpAny_Call_Name_kw (ld_blt I hg hm hv ?_ hn hdb)
 exact PyProof.Rows.callWith_type1 (bZ (ha pos pins s σ H _ I h) fun us s1 ⟨vs,H1,I1,r1,q1⟩=>hc pins s1 σ H1 vs us Q I1 r1 q1) he hpl
end
end L2
namespace HT
open PySem PyProof.Rows
section
open PySem.SeqAt
open PySem.AutoSeq1 (wpAny_loadPart')
open PySem.MeetsSeq PySem.MeetsSeq2 PySem.MeetsSeq3
end
section
variable {prog:Program}{w:World}{A:Around}{E:Value→Shared→Prop}{s:Shared}
theorem cat_tup {t b:Addr}{vs ws:List Value}{Q:Value→Shared→Prop} (ht:IsTup s.heap t vs.toArray) (hb:IsTup s.heap b ws.toArray) (hv:vs≠[])
  (h1:ws=[]→Q (.ref t) s) (h2:ws≠[]→Q (.ref s.heap.objs.size) { s with heap:=s.heap.push { cls:=.type "tuple",data:=.seq (vs++ws).toArray } })
  (hsz:vs.length+ws.length≤sizeLine):wpAny (model prog w) A (binaryOp .Add (.ref t) (.ref b)) Q E s:=by
 obtain⟨⟨cls,dd,data,sl⟩,ho,hc,n,hd⟩:=id ht
 obtain⟨⟨cls2,dd2,data2,sl2⟩,ho2,hc2,n2,hd2⟩:=id hb
 simp only at hc hd hc2 hd2
 subst hc hd hc2 hd2
 have e:vs.toArray++ws.toArray=(vs++ws).toArray:=by simp
 by_cases hw:ws=[]
 ·exact concat_meets ⟨_,ho,rfl⟩ ⟨_,ho2,rfl⟩ noFill_tuple_add seq_tuple_add PySem.F.slot_tuple_add PySem.F.entry_tuple_add (PySem.F.args_tuple_add_2 _ _)
   (tuple_addW1 t b vs.toArray ws.toArray n n2 dd dd2 sl sl2 (by simpa using hv) (by simp [hw])) ⟨ho,ho2,h1 hw⟩
 ·refine concat_meets ⟨_,ho,rfl⟩ ⟨_,ho2,rfl⟩ noFill_tuple_add seq_tuple_add PySem.F.slot_tuple_add PySem.F.entry_tuple_add (PySem.F.args_tuple_add_2 _ _)
   (tuple_addW2 t b vs.toArray ws.toArray n n2 dd dd2 sl sl2 (by simpa using hv) (by simpa using hw) (by rw[List.size_toArray,List.size_toArray];exact hsz)) ⟨ho,ho2,?_⟩
  rw[e]
  exact h2 hw
noncomputable def sIx (n d:Nat):Option Int→Nat
 | none=>d
 | some v=>if v < 0 then (v+(n:Int)).toNat else min v.toNat n
theorem sIx_le (n d:Nat) (hd:d≤n) (o:Option Int):sIx n d o≤n:=by
 cases o with
 | none=>exact hd
 | some v=>
  show (if v < 0 then (v+(n:Int)).toNat else min v.toNat n)≤n
  by_cases hv:v < 0
  ·rw[if_pos hv];omega
  ·rw[if_neg hv];exact Nat.min_le_right _ _
theorem clip_eq (v:Int) (n d:Nat):(if v < 0 then max (v+(n:Int)) 0 else min v (n:Int))=((sIx n d (some v):Nat):Int):=by
 show (if v < 0 then max (v+(n:Int)) 0 else min v (n:Int))=(((if v < 0 then (v+(n:Int)).toNat else min v.toNat n):Nat):Int)
 by_cases hv:v < 0
 ·simp only [if_pos hv];omega
 ·simp only [if_neg hv];omega
theorem adjust_gen (lo hi:Option Int) (n:Nat):Builtin.Slice.sliceAdjust lo hi 1 (n:Int)=(((sIx n 0 lo:Nat):Int),((sIx n n hi:Nat):Int)):=by
 have h1:¬ ((1:Int) < 0):=by omega
 unfold Builtin.Slice.sliceAdjust
 simp only [h1,if_false]
 refine Prod.ext ?_ ?_
 ·cases lo with
  | none=>rfl
  | some v=>exact clip_eq v n 0
 ·cases hi with
  | none=>rfl
  | some v=>exact clip_eq v n n
theorem places_gen (i j:Nat):Builtin.Slice.slicePlaces (i:Int) (j:Int) 1=j - i:=by
 unfold Builtin.Slice.slicePlaces
 have h1:(1:Int) > 0:=by omega
 simp only [h1,if_true,Int.ediv_one]
 split <;> omega
theorem slicePart_ {v:Value}{o:Option Int}{Q:Option Int→Shared→Prop} (p:IsPart v o) (h:Q o s):wpAny (model prog w) A (Builtin.Slice.slicePartIndex v) Q E s:=by
 cases p with
 | none=>exact slicePart_none h
 | int i t=>exact slicePart_int h
theorem sliceApplied_gen {sl:Addr}{vl vu:Value}{lo hi:Option Int}{n:Nat}{Q:Int×Int×Nat→Shared→Prop} (hs:s.heap.IsSliceOf sl vl vu .none) (pl:IsPart vl lo) (pu:IsPart vu hi)
  (h:Q (((sIx n 0 lo:Nat):Int),1,sIx n n hi - sIx n 0 lo) s):wpAny (model prog w) A (Builtin.Slice.sliceApplied (.ref sl) (pure (n:Int))) Q E s:=by
 obtain⟨os,hos,hcs,hds⟩:=id hs
 unfold Builtin.Slice.sliceApplied Builtin.Slice.sliceFields
 refine wpAny_bind (wpAny_bind (wpAny_field hos hds (x:=vl) rfl (wpAny_bind (wpAny_field hos hds (x:=vu) rfl (wpAny_bind (wpAny_field hos hds (x:=.none) rfl (wpAny_pure ?_)))))))
 refine wpAny_bind (slicePart_none ?_)
 show wpAny _ _ (if ((1:Int) == 0)=true then _ else _) _ _ s
 rw[if_neg (by decide)]
 refine wpAny_bind (slicePart_ pl (wpAny_bind (slicePart_ pu (wpAny_bind (wpAny_pure ?_)))))
 show wpAny _ _ (match Builtin.Slice.sliceAdjust lo hi 1 (n:Int) with | (lo,hi)=>pure (lo,(1:Int),Builtin.Slice.slicePlaces lo hi 1)) _ _ s
 rw[adjust_gen lo hi n]
 show wpAny _ _ (pure (((sIx n 0 lo:Nat):Int),(1:Int),Builtin.Slice.slicePlaces ((sIx n 0 lo:Nat):Int) ((sIx n n hi:Nat):Int) 1)) _ _ s
 rw[places_gen]
 exact wpAny_pure h
theorem pick_gen (xs:Array Value) (i k:Nat):((List.range k).filterMap fun (m:Nat)=>xs[((i:Int)+(m:Int) * 1).toNat]?).toArray=((xs.toList.drop i).take k).toArray:=by
 have e:(fun (m:Nat)=>xs[((i:Int)+(m:Int) * 1).toNat]?)=fun m=>xs[i+m]?:=by
  funext m
  have:((i:Int)+(m:Int) * 1).toNat=i+m:=by omega
  rw[this]
 rw[e]
 have:=pick_run xs i k
 rw[List.filterMap_map] at this
 have e2:((fun x=>xs[x]?) ∘ fun x=>i+x)=fun m=>xs[i+m]?:=rfl
 rw[e2] at this
 rw[this]
theorem getItem_tuple_cut {t sl:Addr}{items:Array Value}{vl vu:Value}{lo hi:Option Int}{Q:Value→Shared→Prop} (ht:IsTup s.heap t items) (hs:s.heap.IsSliceOf sl vl vu .none) (pl:IsPart vl lo) (pu:IsPart vu hi)
  (hw:¬ (sIx items.size 0 lo=0∧sIx items.size items.size hi=items.size))
  (h:Q (.ref s.heap.objs.size) { s with heap:=s.heap.push { cls:=.type "tuple",data:=.seq ((items.toList.drop (sIx items.size 0 lo)).take (sIx items.size items.size hi - sIx items.size 0 lo)).toArray } })
  (hsz:items.size≤sizeLine):wpAny (model prog w) A (getItem (.ref t) (.ref sl)) Q E s:=by
 have htake:sizeOk (.seq ((items.toList.drop (sIx items.size 0 lo)).take (sIx items.size items.size hi - sIx items.size 0 lo)).toArray):=by
  show ((items.toList.drop (sIx items.size 0 lo)).take (sIx items.size items.size hi - sIx items.size 0 lo)).toArray.size≤sizeLine
  rw[List.size_toArray,List.length_take,List.length_drop,Array.length_toList]
  omega
 have hj:sIx items.size items.size hi≤items.size:=sIx_le _ _ (Nat.le_refl _) hi
 obtain⟨os,hos,hcs,hds⟩:=id hs
 have hTs:s.TypeIs (.ref sl) "slice" := ⟨os,hos,hcs⟩
 unfold getItem
 try with_reducible refine wpAny_holding ?_
 first | refine wpAny_bind (wpAny_pure ?_) | skip
 refine wpAny_bind (wpAny_sequenceKey ht.typeIs (by decide) ?_)
 refine wpAny_bind (wpAny_callSpecial?_slot (name:=Str.ofString "__getitem__") ht.typeIs PyProof.Rows.slot_tuple_getitem
  (wpAny_call_entry PyProof.Rows.slot_tuple_getitem ht.typeIs entry_tuple_getitem ?_ (args_tuple_getitem _ _)))
 show wpAny _ _ (Builtin.Tuple.tupleItemsOf (.ref t) >>= _) _ _ s
 refine wpAny_bind (tupleItemsOf_ ht ?_)
 refine wpAny_bind (wpAny_typeOf hTs ?_)
 rw[if_pos (by decide)]
 refine wpAny_bind (sliceApplied_gen hs pl pu ?_)
 have hno:¬ ((((sIx items.size 0 lo:Nat):Int) == 0 && (1:Int) == 1 && (sIx items.size items.size hi - sIx items.size 0 lo) == items.size)=true):=by
  intro q
  rw[Bool.and_eq_true,Bool.and_eq_true] at q
  have q1:((sIx items.size 0 lo:Nat):Int)=0:=eq_of_beq q.1.1
  have q2:sIx items.size items.size hi - sIx items.size 0 lo=items.size:=eq_of_beq q.2
  exact hw ⟨by omega,by omega⟩
 show wpAny _ _ (if (((sIx items.size 0 lo:Nat):Int) == 0 && (1:Int) == 1 && (sIx items.size items.size hi - sIx items.size 0 lo) == items.size)=true then _ else _) _ _ s
 rw[if_neg hno,pick_gen]
 first
  | exact wpAny_bind (m:=Builtin.Tuple.tupleExact _) (wpAny_newObj_type (wpAny_pure ⟨_,rfl,wpAny_pure h⟩) htake)
  | exact wpAny_bind (m:=Builtin.Tuple.tupleExact _) (wpAny_newObj_type (wpAny_bind (wpAny_pure (wpAny_pure ⟨_,rfl,wpAny_pure h⟩))) htake)
  | exact wpAny_bind (wpAny_bind (m:=Builtin.Tuple.tupleExact _) (wpAny_newObj_type (wpAny_pure (wpAny_pure ⟨_,rfl,wpAny_pure h⟩)) htake))
  | exact wpAny_bind (wpAny_bind (m:=Builtin.Tuple.tupleExact _) (wpAny_newObj_type (wpAny_pure ⟨_,rfl,wpAny_pure h⟩) htake))
end
end HT
namespace L2
open PySem PySem.Spec PyProof.Rows
noncomputable abbrev TO:=St→Hp→(Option Int→Hp→Prop)→Prop
noncomputable def PO (X:Cx) (e:Option Expr) (t:TO):Prop:=
 ∀ (pins:List (Addr×Obj)) (s:Shared) (σ:St) (H:Hp) (Q:Option Int→Hp→Prop),Inv X pins σ H s→t σ H Q→
  wpAny (model X.prog X.w) X.A (evalPart e X.env) (fun u s'=>∃ o H',Inv X pins σ H' s'∧IsPart u o∧Q o H') X.xe s
noncomputable def tNoPart:TO:=fun _ H Q=>Q none H
noncomputable def tPart (t:TE):TO:=fun σ H Q=>t σ H fun x H1=>∃ i,x=.int i∧Q (some i) H1
theorem intsAre_of {ns:List Int}:∀ {us:List Value},bD (ns.map V.int) us→IntsAre us ns:=by
 induction ns with
 | nil=>intro us r;rw[List.map_nil] at r;cases r;exact .nil
 | cons n ns ih=>
  intro us r
  rw[List.map_cons] at r
  cases r with
  | cons r1 r2=>
   obtain⟨t,e⟩:=r1
   subst e
   exact .cons n t (ih r2)
section
variable {X:Cx}{e:Expr}{te:TE}{lo hi:Option Expr}{tl th:TO}{pos p2:Pos}
theorem po_none:PO X none tNoPart:=by
 intro pins s σ H Q I h
 rw[evalPart_none]
 exact wpAny_pure ⟨none,H,I,.none,h⟩
theorem po_some (h:PE X e te):PO X (some e) (tPart te):=by
 intro pins s σ H Q I hw
 rw[evalPart_some]
 refine bZ (h pins s σ H _ I hw) fun u s1 ⟨x,H1,I1,r1,q1⟩=>?_
 obtain⟨i,rfl,q⟩:=q1
 obtain⟨t,rfl⟩:=r1
 exact⟨some i,H1,I1,.int i t,q⟩
noncomputable def SlR (X:Cx) (r:V→Option Int→Option Int→Hp→VK→Prop):Prop:=
 ∀ (pins:List (Addr×Obj)) (s:Shared) (σ:St) (H:Hp) (x:V) (v vl vu:Value) (lo hi:Option Int) (sl:Addr) (Q:VK),Inv X pins σ H s→aY x v→s.heap.IsSliceOf sl vl vu .none→IsPart vl lo→IsPart vu hi→r x lo hi H Q→
  ∃ T id,typeLookup (.type T) "__getitem__" = pure (some (.builtin id))∧s.TypeIs v T∧wpAny (model X.prog X.w) X.A (getItem v (.ref sl)) (EP X pins σ Q) X.xe s
noncomputable def tSl (r:V→Option Int→Option Int→Hp→VK→Prop) (te:TE) (tl th:TO):TE:=fun σ H Q=>te σ H fun x H1=>tl σ H1 fun l H2=>th σ H2 fun u H3=>r x l u H3 Q
theorem pe_slice {r:V→Option Int→Option Int→Hp→VK→Prop} (hr:SlR X r) (he:PE X e te) (hl:PO X lo tl) (hu:PO X hi th):PE X (.Subscript e (.Slice lo hi none p2) pos) (tSl r te tl th):=by
 intro pins s σ H Q I h
 refine Subscript_ (bZ (he pins s σ H _ I h) fun v s1 ⟨x,H1,I1,r1,q1⟩=>?_)
 refine wpAny_Slice (bZ (hl pins s1 σ H1 _ I1 q1) fun vl s2 ⟨l,H2,I2,pl,q2⟩=>bZ (hu pins s2 σ H2 _ I2 q2) fun vu s3 ⟨u,H3,I3,pu,q3⟩=>?_)
 rw[evalPart_none]
 refine wpAny_pure ?_
 have I4:Inv X pins σ H3 { s3 with heap:=s3.heap.push { cls:=.type "slice",data:=.fields #[vl,vu,.none] } }:=I3.kept (t':=s3.toks) fun b ob q=>Heap.get?_push_of_some _ q
 obtain⟨T,id,hT,ht,hg⟩:=hr pins { s3 with heap:=s3.heap.push { cls:=.type "slice",data:=.fields #[vl,vu,.none] } } σ H3 x v vl vu l u s3.heap.objs.size Q I4 r1 (Heap.IsSliceOf.new ..) pl pu q3
 show wpAny (model X.prog X.w) X.A (subscriptTail e (.Slice lo hi none p2) v (.ref s3.heap.objs.size)) (EP X pins σ Q) X.xe { s3 with heap:=s3.heap.push { cls:=.type "slice",data:=.fields #[vl,vu,.none] } }
 exact tail_any (ops:=[.ref s3.heap.objs.size,v]) ht hT hg (by with_unfolding_all rfl)
noncomputable def cutV (xs:List V) (lo hi:Option Int):List V:=(xs.drop (HT.sIx xs.length 0 lo)).take (HT.sIx xs.length xs.length hi - HT.sIx xs.length 0 lo)
theorem cutV_length (xs:List V) (lo hi:Option Int):(cutV xs lo hi).length≤xs.length:=by
 unfold cutV
 rw[List.length_take,List.length_drop]
 omega
noncomputable def rSlT (K:PySem.W.Frag):V→Option Int→Option Int→Hp→VK→Prop:=fun x lo hi H Q=>∃ a xs,x=.ref a∧bR K H a xs∧
 ¬ (HT.sIx xs.length 0 lo=0∧HT.sIx xs.length xs.length hi=xs.length)∧∀ p,H p=none→Q (.ref p) (upd H p (.tup (cutV xs lo hi)))
theorem sl_tup:SlR X (rSlT X.K):=by
 intro pins s σ H x v vl vu lo hi sl Q I rx hs pl pu h
 obtain⟨a,xs,rfl,hx,hw,q⟩:=h
 cases rx
 obtain⟨its,r,ht,hz⟩:=I.tuple hx
 have hlen:its.toArray.size=xs.length:=by rw[List.size_toArray];exact r.length.symm
 refine⟨"tuple",_,PyProof.Rows.slot_tuple_getitem.lookup,ht.typeIs,?_⟩
 refine HT.getItem_tuple_cut ht hs pl pu (by rw[hlen];exact hw) ?_ (by rw[hlen];exact hz)
 rw[hlen]
 refine⟨.ref s.heap.objs.size,_,I.laid (t':=s.toks) (o:=.tup (cutV xs lo hi)) (fun b ob q=>Heap.get?_push_of_some _ q) (Nat.le_refl _) ?_,rfl,q _ (I.hok.fresh (Nat.le_refl _))⟩
 exact⟨Nat.le_trans (cutV_length xs lo hi) hz,_,(r.drop (HT.sIx xs.length 0 lo)).take (HT.sIx xs.length xs.length hi - HT.sIx xs.length 0 lo),IsTup.new _ _⟩
noncomputable def rCatT (K:PySem.W.Frag):R2:=fun x y H Q=>∃ a b xs ys,x=.ref a∧y=.ref b∧bR K H a xs∧bR K H b ys∧xs≠[]∧xs.length+ys.length≤sizeLine∧
 (ys=[]→Q (.ref a) H)∧(ys≠[]→∀ p,H p=none→Q (.ref p) (upd H p (.tup (xs++ys))))
theorem bD.nil_iff {xs:List V}{us:List Value} (r:bD xs us):us=[]↔xs=[]:=by
 cases r with
 | nil=>simp
 | cons _ _=>simp
theorem op_catT:OpR X (binaryOp .Add) (rCatT X.K):=by
 intro pins s σ H x y v u Q I rx ry h
 obtain⟨a,b,xs,ys,rfl,rfl,ha,hb,hx,hz,q1,q2⟩:=h
 cases rx
 cases ry
 obtain⟨its,r1,p1,_⟩:=I.tuple ha
 obtain⟨its2,r2,p2,_⟩:=I.tuple hb
 refine HT.cat_tup p1 p2 (fun z=>hx (r1.nil_iff.mp z)) (fun z=>⟨.ref a,H,I,rfl,q1 (r2.nil_iff.mp z)⟩) (fun z=>?_) (by rw[← r1.length,← r2.length];exact hz)
 refine⟨.ref s.heap.objs.size,_,I.laid (t':=s.toks) (o:=.tup (xs++ys)) (fun b ob q=>Heap.get?_push_of_some _ q) (Nat.le_refl _) ?_,rfl,q2 (fun w=>z (r2.nil_iff.mpr w)) _ (I.hok.fresh (Nat.le_refl _))⟩
 exact⟨by rw[List.length_append];exact hz,_,r1.append r2,IsTup.new _ _⟩
end
end L2
namespace L2
open PySem PySem.Spec PyProof.Rows
noncomputable def ixN (n:Nat) (i:Int):Option Nat:=if 0≤i then (if i < n then some i.toNat else none) else if -(n:Int)≤i then some (i+n).toNat else none
noncomputable def atI {α:Type} (xs:List α) (i:Int):Option α:=(ixN xs.length i).bind fun j=>xs[j]?
theorem ixN_seq {n:Nat}{i:Int}{j:Nat} (h:ixN n i=some j):seqIndex? i n=some j∧j < n∧-(n:Int)≤i∧i < n:=by
 unfold ixN at h
 by_cases h0:0≤i
 ·rw[if_pos h0] at h
  by_cases h1:i < n
  ·rw[if_pos h1] at h
   have e:i.toNat=j:=Option.some.inj h
   exact⟨by rw[seqIndex_of h0 h1,e],by omega,by omega,h1⟩
  ·rw[if_neg h1] at h;cases h
 ·rw[if_neg h0] at h
  by_cases h1 : -(n:Int)≤i
  ·rw[if_pos h1] at h
   have e:(i+n).toNat=j:=Option.some.inj h
   exact⟨by rw[seqIndex_neg (by omega) h1,e],by omega,h1,by omega⟩
  ·rw[if_neg h1] at h;cases h
theorem atI_get {α:Type}{xs:List α}{i:Int}{v:α} (h:atI xs i=some v):∃ j,seqIndex? i xs.length=some j∧xs[j]? = some v∧j < xs.length∧-(xs.length:Int)≤i∧i < xs.length:=by
 unfold atI at h
 cases e:ixN xs.length i with
 | none=>rw[e] at h;cases h
 | some j=>
  rw[e] at h
  obtain⟨h1,h2,h3,h4⟩:=ixN_seq e
  exact⟨j,h1,h,h2,h3,h4⟩
theorem cS {α:Type}{xs:List α}{j:Nat}{v:α} (h:xs[j]? = some v):atI xs (j:Int)=some v:=by
 have hj:j < xs.length:=(List.getElem?_eq_some_iff.mp h).1
 have e:ixN xs.length (j:Int)=some j:=by
  unfold ixN
  rw[if_pos (by omega),if_pos (by omega)];simp
 unfold atI;rw[e];exact h
noncomputable def PlainIx (b:Expr):Prop:=∀ o i,subscripted b false o i=operate [o,i] (getItem o i)
noncomputable def IxR (X:Cx) (r:R2):Prop:=
 ∀ (value slice:Expr) (pins:List (Addr×Obj)) (s:Shared) (σ:St) (H:Hp) (x y:V) (v u:Value) (Q:VK),Inv X pins σ H s→aY x v→aY y u→r x y H Q→
  subscripted slice false v u=operate [v,u] (getItem v u)→wpAny (model X.prog X.w) X.A (subscriptTail value slice v u) (EP X pins σ Q) X.xe s
noncomputable def MtR (X:Cx) (id:String) (r:V→List V→Hp→VK→Prop):Prop:=
 ∀ (pins:List (Addr×Obj)) (s:Shared) (σ:St) (H:Hp) (x:V) (xs:List V) (v:Value) (us:List Value) (Q:VK),Inv X pins σ H s→aY x v→bD xs us→r x xs H Q→
  wpAny (model X.prog X.w) X.A (call (.builtin id) (v::us)) (EP X pins σ Q) X.xe s
section
variable {X:Cx}{a b:Expr}{ta tb:TE}{pos:Pos}
theorem IxR.or {r r':R2} (h:IxR X r) (h':IxR X r'):IxR X (fun x y H Q=>r x y H Q∨r' x y H Q):=by
 intro value slice pins s σ H x y v u Q I rx ry q hs
 rcases q with q | q
 ·exact h value slice pins s σ H x y v u Q I rx ry q hs
 ·exact h' value slice pins s σ H x y v u Q I rx ry q hs
theorem aM {r:R2} (hr:IxR X r) (ha:PE X a ta) (hb:PE X b tb) (hs:PlainIx b):PE X (.Subscript a b pos) (tOp r ta tb):=by
 intro pins s σ H Q I h
 exact Subscript_ (binT ha hb I h fun v u s2 x y H2 I2 rx ry q=>hr a b pins s2 σ H2 x y v u Q I2 rx ry q (hs _ _))
noncomputable def rIxL (K:PySem.W.Frag):R2:=fun x y H Q=>∃ p xs i v,x=.ref p∧y=.int i∧bT K H p xs∧atI xs i=some v∧Q v H
noncomputable def rIxT (K:PySem.W.Frag):R2:=fun x y H Q=>∃ p xs i v,x=.ref p∧y=.int i∧bR K H p xs∧atI xs i=some v∧Q v H
noncomputable def rIxS:R2:=fun x y H Q=>∃ z i c,x=.str z∧y=.int i∧z.length≤sizeLine∧atI z.cps.toList i=some c∧Q (.str ⟨#[c]⟩) H
theorem ix_list:IxR X (rIxL X.K):=by
 intro value slice pins s σ H x y v u Q I rx ry h hs
 obtain⟨p,xs,i,z,rfl,rfl,hq,he,q⟩:=h
 cases rx
 obtain⟨t,rfl⟩:=ry
 obtain⟨its,r,pl,hz⟩:=I.list hq
 obtain⟨j,h1,h2,h3,h4,h5⟩:=atI_get he
 obtain⟨w,ew,rw'⟩:=r.get h2
 have hl:=r.length
 have hn:=line63
 have fin:EP X pins σ Q w s:=⟨z,H,I,rw',q⟩
 by_cases h0:0≤i
 ·have hj:i.toNat=j:=by
   rw[seqIndex_of h0 h5] at h1
   exact Option.some.inj h1
  exact item_listR pl.isList h0 (by omega) (by rw[hj];simpa using ew) fin hs
 ·have hj:(i+(its.toArray.size:Int)).toNat=j:=by
   rw[seqIndex_neg (by omega) h4] at h1
   rw[List.size_toArray,← hl]
   exact Option.some.inj h1
  exact subscriptTail_builtinR (x:=w) pl.isList.typeIs slot_list_getitem.lookup
   (wpAny_getItem_list_neg (Q:=fun r s'=>r=w∧EP X pins σ Q r s') pl.isList (by omega) (by rw[List.size_toArray] <;> omega) (by omega) (by rw[hj];simpa using ew) ⟨rfl,fin⟩) hs
theorem ix_tup:IxR X (rIxT X.K):=by
 intro value slice pins s σ H x y v u Q I rx ry h hs
 obtain⟨p,xs,i,z,rfl,rfl,hq,he,q⟩:=h
 cases rx
 obtain⟨t,rfl⟩:=ry
 obtain⟨its,r,pl,hz⟩:=I.tuple hq
 obtain⟨j,h1,h2,h3,h4,h5⟩:=atI_get he
 obtain⟨w,ew,rw'⟩:=r.get h2
 have hl:=r.length
 have hn:=line63
 have fin:EP X pins σ Q w s:=⟨z,H,I,rw',q⟩
 exact subscriptTail_builtinR (x:=w) pl.typeIs slot_tuple_getitem.lookup
  (getItem_tuple (j:=j) (Q:=fun r s'=>r=w∧EP X pins σ Q r s') pl (by omega) (by omega) (by rw[List.size_toArray,← hl];exact h1) (by simpa using ew) ⟨rfl,fin⟩) hs
theorem ix_str:IxR X rIxS:=by
 intro value slice pins s σ H x y v u Q I rx ry h hs
 obtain⟨z,i,c,rfl,rfl,hz,he,q⟩:=h
 obtain⟨t,rfl⟩:=rx
 obtain⟨t',rfl⟩:=ry
 obtain⟨j,h1,h2,h3,h4,h5⟩:=atI_get he
 have hl:z.cps.toList.length=z.length:=by simp [Str.length]
 rw[hl] at h1 h4 h5
 have hn:=line63
 exact tail_any (typeIs_str s z t) slot_str_getitem.lookup (getItem_str (c:=c) (by
  have e1:decide (i < -(2 ^ 63:Int))=false:=decide_eq_false (by omega)
  have e2:decide (i ≥ 2 ^ 63)=false:=decide_eq_false (by omega)
  rw[e1,e2,Bool.or_false]) (by rw[h1];simpa using h2) ⟨.str ⟨#[c]⟩,H,I.tok _,⟨_,rfl⟩,q⟩) hs
noncomputable def rIx (K:PySem.W.Frag):R2:=fun x y H Q=>rIxL K x y H Q∨rIxT K x y H Q∨rIxS x y H Q
theorem ix_seq:IxR X (rIx X.K):=ix_list.or (ix_tup.or ix_str)
theorem mapSeq_set (its:List Value) (n j:Nat) (u:Value):Obj.mapSeq (·.setIfInBounds j u) { cls:=.type "list",data:=.seq its.toArray n }={ cls:=.type "list",data:=.seq (its.set j u).toArray n }:=by
 simp [Obj.mapSeq]
theorem Inv.lst {pins:List (Addr×Obj)}{σ:St}{H:Hp}{s:Shared}{p:Addr}{xs:List V} (I:Inv X pins σ H s) (h:H p=some (.lst xs)) :
  ∃ (its:List Value) (n:Nat),bD xs its∧s.heap.get? p=some { cls:=.type "list",data:=.seq its.toArray n }∧xs.length≤sizeLine:=by
 obtain⟨z,its,n,r,e⟩:=I.hok p _ h
 exact⟨its,n,r,e,z⟩
theorem Inv.lstUpd {pins:List (Addr×Obj)}{σ:St}{H:Hp}{s:Shared}{p:Addr}{xs ys:List V}{its its':List Value}{n n':Nat}{f:Obj→Obj} (I:Inv X pins σ H s) (h:H p=some (.lst xs))
  (ho:s.heap.get? p=some { cls:=.type "list",data:=.seq its.toArray n }) (hf:f { cls:=.type "list",data:=.seq its.toArray n }={ cls:=.type "list",data:=.seq its'.toArray n' }) (r:bD ys its') (hz:ys.length≤sizeLine) (t:Nat) :
  Inv X pins σ (upd H p (.lst ys)) { s with heap:=s.heap.update p f,toks:=t }:=by
 have e:(s.heap.update p f).get? p=some { cls:=.type "list",data:=.seq its'.toArray n' }:=by
  rw[Heap.get?_update_self f ho (by rw[hf] <;> rfl),hf]
 refine I.write (x:=p) (e:=p) (by rw[h];trivial) (.inl rfl) (fun b u hb q=>(Heap.get?_update_other _ _ (Ne.symm hb)).trans q) ⟨_,e⟩ ?_
 exact⟨hz,its',n',r,e⟩
noncomputable def rSetL:V→V→V→Hp→(Hp→Prop)→Prop:=fun o i v H Q=>∃ p xs k j,o=.ref p∧i=.int k∧H p=some (.lst xs)∧ixN xs.length k=some j∧Q (upd H p (.lst (xs.set j v)))
theorem set_list:PSet X rSetL:=by
 intro pins s σ H o i v ov iv u Q I ro ri rv h
 obtain⟨p,xs,k,j,rfl,rfl,hp,hj,q⟩:=h
 cases ro
 obtain⟨t,rfl⟩:=ri
 obtain⟨its,n,r,ho,hz⟩:=I.lst hp
 obtain⟨h1,h2,h3,h4⟩:=ixN_seq hj
 have hl:=r.length
 have hn:=line63
 have I':Inv X pins σ (upd H p (.lst (xs.set j v))) { s with heap:=s.heap.update p (Obj.mapSeq (·.setIfInBounds j u)) }:=
  I.lstUpd hp ho (mapSeq_set its n j u) (r.set rv j) (by rw[List.length_set];exact hz) s.toks
 by_cases h0:0≤k
 ·have hk:k.toNat=j:=by
   rw[seqIndex_of h0 h4] at h1
   exact Option.some.inj h1
  exact PySem.W.ki_setAt ho h0 (by omega) (by rw[List.size_toArray,← hl];exact h4) (by rw[hk];exact⟨_,I',q⟩)
 ·have hk:(k+(its.toArray.size:Int)).toNat=j:=by
   rw[seqIndex_neg (by omega) h3] at h1
   rw[List.size_toArray,← hl]
   exact Option.some.inj h1
  exact PySem.W.ki_setBack ho (by omega) (by rw[List.size_toArray,← hl];exact h3) (by omega) (by rw[hk];exact⟨_,I',q⟩)
noncomputable def flatV:V→Bool
 | .non=>true
 | .bl _=>true
 | .int _=>true
 | .str _=>true
 | _=>false
noncomputable def eqV:V→V→Bool
 | .non,.non=>true
 | .bl a,.bl b=>a == b
 | .bl a,.int b=>(if a then 1 else 0) == b
 | .int a,.bl b=>a == (if b then 1 else 0)
 | .int a,.int b=>a == b
 | .str a,.str b=>a == b
 | _,_=>false
theorem eqAt_V {A:Around}{s:Shared}{y x:V}{u v:Value} (ry:aY y u) (rx:aY x v) (fy:flatV y=true) (fx:flatV x=true):SeqAt.EqAt A s u v (eqV y x):=by
 cases y with
 | non=>
  cases ry
  cases x with
  | non=>cases rx;exact SeqAt.EqAt.same _
  | bl b=>cases rx;exact SeqAt.EqAt.none_bool b
  | int b=>obtain⟨t,rfl⟩:=rx;exact SeqAt.EqAt.none_int b t
  | str b=>obtain⟨t,rfl⟩:=rx;exact SeqAt.EqAt.none_str b t
  | _=>exact absurd (show false=true from fx) Bool.false_ne_true
 | bl a=>
  cases ry
  cases x with
  | non=>cases rx;exact SeqAt.EqAt.bool_none a
  | bl b=>cases rx;exact SeqAt.EqAt.bool_bool a b
  | int b=>obtain⟨t,rfl⟩:=rx;exact SeqAt.EqAt.bool_int a b t
  | str b=>obtain⟨t,rfl⟩:=rx;exact SeqAt.EqAt.bool_str a b t
  | _=>exact absurd (show false=true from fx) Bool.false_ne_true
 | int a=>
  obtain⟨t',rfl⟩:=ry
  cases x with
  | non=>cases rx;exact SeqAt.EqAt.int_none a t'
  | bl b=>cases rx;exact SeqAt.EqAt.int_bool a t' b
  | int b=>obtain⟨t,rfl⟩:=rx;exact SeqAt.EqAt.int_int a t' b t
  | str b=>obtain⟨t,rfl⟩:=rx;exact SeqAt.EqAt.int_str a t' b t
  | _=>exact absurd (show false=true from fx) Bool.false_ne_true
 | str a=>
  obtain⟨t',rfl⟩:=ry
  cases x with
  | non=>cases rx;exact SeqAt.EqAt.str_none a t'
  | bl b=>cases rx;exact SeqAt.EqAt.str_bool a t' b
  | int b=>obtain⟨t,rfl⟩:=rx;exact SeqAt.EqAt.str_int a t' b t
  | str b=>obtain⟨t,rfl⟩:=rx;exact SeqAt.EqAt.str_str a t' b t
  | _=>exact absurd (show false=true from fx) Bool.false_ne_true
 | _=>exact absurd (show false=true from fy) Bool.false_ne_true
noncomputable def eqU (x:V) (u:Value):Bool:=match u with
 | .none=>eqV .non x
 | .bool b=>eqV (.bl b) x
 | .int i _=>eqV (.int i) x
 | .str z _=>eqV (.str z) x
 | _=>false
theorem eqU_of {x y:V}{u:Value} (r:aY y u) (f:flatV y=true):eqU x u=eqV y x:=by
 cases y with
 | non=>cases r;rfl
 | bl b=>cases r;rfl
 | int i=>obtain⟨t,rfl⟩:=r;rfl
 | str z=>obtain⟨t,rfl⟩:=r;rfl
 | _=>exact absurd (show false=true from f) Bool.false_ne_true
theorem any_eqU {x:V}:∀ {xs:List V}{us:List Value},bD xs us→xs.all flatV=true→us.any (eqU x)=xs.any fun y=>eqV y x
 | _,_,.nil,_=>rfl
 | y::xs,u::us,.cons r t,f=>by
  rw[List.all_cons,Bool.and_eq_true] at f
  rw[List.any_cons,List.any_cons,eqU_of r f.1,any_eqU t f.2]
theorem mem_eqAt {A:Around}{s:Shared}{x:V}{v:Value} (rx:aY x v) (fx:flatV x=true):∀ {xs:List V}{us:List Value},bD xs us→xs.all flatV=true→∀ u∈us,SeqAt.EqAt A s u v (eqU x u)
 | _,_,.nil,_=>fun u hu=>by cases hu
 | y::xs,u::us,.cons r t,f=>fun u' hu=>by
  rw[List.all_cons,Bool.and_eq_true] at f
  rcases List.mem_cons.mp hu with rfl | hu
  ·rw[eqU_of r f.1];exact eqAt_V r rx f.1 fx
  ·exact mem_eqAt rx fx t f.2 u' hu
noncomputable def inV (x:V) (xs:List V):Bool:=xs.any fun y=>eqV y x
noncomputable def rIn (K:PySem.W.Frag) (neg:Bool):R2:=fun x y H Q=>∃ p xs,y=.ref p∧(bT K H p xs∨bR K H p xs)∧flatV x=true∧xs.all flatV=true∧Q (.bl (if neg then !inV x xs else inV x xs)) H
theorem op_in_seq:OpR X (compareOp .In) (rIn X.K false):=by
 intro pins s σ H x y v u Q I rx ry h
 obtain⟨p,xs,rfl,hq,fx,fs,q⟩:=h
 cases ry
 rcases hq with hq | hq
 ·obtain⟨its,r,pl,hz⟩:=I.list hq
  refine SeqAt.in_listAt (eqU x) pl.isList (fun w hw=>mem_eqAt rx fx r fs w (by simpa using hw)) ⟨.bl _,H,I,rfl,?_⟩
  rw[show its.toArray.any (eqU x)=its.any (eqU x) by simp,any_eqU r fs]
  exact q
 ·obtain⟨its,r,pl,hz⟩:=I.tuple hq
  refine SeqAt.in_tupleAt (eqU x) pl (fun w hw=>mem_eqAt rx fx r fs w (by simpa using hw)) ⟨.bl _,H,I,rfl,?_⟩
  rw[show its.toArray.any (eqU x)=its.any (eqU x) by simp,any_eqU r fs]
  exact q
theorem op_notIn_seq:OpR X (compareOp .NotIn) (rIn X.K true):=by
 intro pins s σ H x y v u Q I rx ry h
 obtain⟨p,xs,rfl,hq,fx,fs,q⟩:=h
 cases ry
 rcases hq with hq | hq
 ·obtain⟨its,r,pl,hz⟩:=I.list hq
  refine SeqAt.notIn_listAt (eqU x) pl.isList (fun w hw=>mem_eqAt rx fx r fs w (by simpa using hw)) ⟨.bl _,H,I,rfl,?_⟩
  rw[show its.toArray.any (eqU x)=its.any (eqU x) by simp,any_eqU r fs]
  exact q
 ·obtain⟨its,r,pl,hz⟩:=I.tuple hq
  refine SeqAt.notIn_tupleAt (eqU x) pl (fun w hw=>mem_eqAt rx fx r fs w (by simpa using hw)) ⟨.bl _,H,I,rfl,?_⟩
  rw[show its.toArray.any (eqU x)=its.any (eqU x) by simp,any_eqU r fs]
  exact q
theorem call_len_seq:d8 X (.builtin "len") (fun xs H Q=>∃ p ys,xs=[.ref p]∧(bT X.K H p ys∨bR X.K H p ys)∧Q (.int ys.length) H):=by
 intro pins s σ H xs us Q I r h
 obtain⟨p,ys,rfl,hq,q⟩:=h
 obtain⟨u,rfl,rx⟩:=vals1 r
 cases rx
 have hn:=line63
 rcases hq with hq | hq
 ·obtain⟨its,r',pl,hz⟩:=I.list hq
  have hlen:=r'.length
  exact Calls.call_len_list pl.isList (by simp only [List.size_toArray] <;> omega) ⟨.int ys.length,H,I.tok _,⟨s.toks+1,by rw[List.size_toArray,hlen]⟩,q⟩
 ·obtain⟨its,r',pl,hz⟩:=I.tuple hq
  have hlen:=r'.length
  exact len_tuple pl (by simp only [List.size_toArray] <;> omega) ⟨.int ys.length,H,I.tok _,⟨s.toks+1,by rw[List.size_toArray,hlen]⟩,q⟩
theorem call_list_of:d8 X (.type "list") (fun xs H Q=>∃ p ys,xs=[.ref p]∧(bT X.K H p ys∨bR X.K H p ys)∧∀ l,H l=none→Q (.ref l) (upd H l (.lst ys))):=by
 intro pins s σ H xs us Q I r h
 obtain⟨p,ys,rfl,hq,q⟩:=h
 obtain⟨u,rfl,rx⟩:=vals1 r
 cases rx
 have fin:∀ (its:List Value),bD ys its→ys.length≤sizeLine→∀ (h':Heap) (c':Nat),(∀ b o',s.heap.get? b=some o'→h'.get? b=some o')→
   h'.get? s.heap.objs.size=some { cls:=.type "list",dict:=none,data:=.seq its.toArray c',slots:=#[] }→EP X pins σ Q (.ref s.heap.objs.size) { s with heap:=h' }:=fun its r' hz h' c' kp e=>
  ⟨.ref s.heap.objs.size,_,I.laid (t':=s.toks) kp (Nat.le_refl _) (show bQ X.prog X.w _ h' _ (.lst ys) from ⟨hz,its,c',r',e⟩),rfl,q _ (I.hok.fresh (Nat.le_refl _))⟩
 rcases hq with hq | hq
 ·obtain⟨its,r',pl,hz⟩:=I.list hq
  have hlen:=r'.length
  obtain⟨o,ho,hc,n,hd⟩:=pl.isList
  exact call_list_seq p (.inl rfl) ho hc hd (fun h' c' kp e=>fin its r' hz h' c' kp e) (by simp only [List.size_toArray] <;> omega)
 ·obtain⟨its,r',pl,hz⟩:=I.tuple hq
  have hlen:=r'.length
  obtain⟨o,ho,hc,n,hd⟩:=pl
  exact call_list_seq p (.inr rfl) ho hc hd (fun h' c' kp e=>fin its r' hz h' c' kp e) (by simp only [List.size_toArray] <;> omega)
theorem call_tuple_of:d8 X (.type "tuple") (fun xs H Q=>∃ p ys,xs=[.ref p]∧((bT X.K H p ys∧∀ l,H l=none→Q (.ref l) (upd H l (.tup ys)))∨(bR X.K H p ys∧Q (.ref p) H))):=by
 intro pins s σ H xs us Q I r h
 obtain⟨p,ys,rfl,h⟩:=h
 obtain⟨u,rfl,rx⟩:=vals1 r
 cases rx
 rcases h with ⟨hq,q⟩ | ⟨hq,q⟩
 ·obtain⟨its,r',pl,hz⟩:=I.list hq
  have hlen:=r'.length
  refine call_tuple_list pl.isList (fun h' kp=>?_) (by simp only [List.size_toArray] <;> omega)
  have I1:Inv X pins σ H { s with heap:=h' }:=I.kept (t':=s.toks) kp
  have I2:Inv X pins σ (upd H h'.objs.size (.tup ys)) { s with heap:=h'.push { cls:=.type "tuple",data:=.seq its.toArray } }:=
   I1.laid (t':=s.toks) (fun b o e=>Heap.get?_push_of_some _ e) (Nat.le_refl _) (show bQ X.prog X.w _ _ _ (.tup ys) from ⟨hz,its,r',IsTup.new _ _⟩)
  exact⟨.ref h'.objs.size,_,I2,rfl,q _ (I1.hok.fresh (Nat.le_refl _))⟩
 ·obtain⟨its,r',pl,hz⟩:=I.tuple hq
  exact call_tuple_same pl ⟨.ref p,H,I,rfl,q⟩
noncomputable def tyV (K:PySem.W.Frag) (T:String) (x:V) (H:Hp):Prop:=match x with
 | .str _=>T = "str"
 | .int _=>T = "int"
 | .ref p=>(T = "list" ∧ ∃ xs,bT K H p xs)∨(T = "tuple" ∧ ∃ o,K.lookup p=some o∧o.cls=.type "tuple" ∧ o.dict=none)∨
   (T = "dict" ∧ ((∃ kvs,H p=some (.dK kvs))∨∃ kvs,H p=some (.dT kvs)))∨(T = "set" ∧ ∃ S n,H p=some (.set S n))
 | _=>False
theorem tyV_is {pins:List (Addr×Obj)}{σ:St}{H:Hp}{s:Shared}{T:String}{x:V}{v:Value} (I:Inv X pins σ H s) (r:aY x v) (ty:tyV X.K T x H) :
  s.TypeIs v T∧∀ a,v=.ref a→∃ ob,s.heap.get? a=some ob∧ob.dict=none:=by
 cases x with
 | str z=>
  obtain⟨t,rfl⟩:=r
  cases (show T = "str" from ty)
  exact⟨typeIs_str s z t,fun _ e=>nomatch e⟩
 | int i=>
  obtain⟨t,rfl⟩:=r
  cases (show T = "int" from ty)
  exact⟨typeIs_int s i t,fun _ e=>nomatch e⟩
 | ref p=>
  cases r
  rcases ty with ⟨rfl,xs,hq⟩ | ⟨rfl,o,hk,hc,hd⟩ | ⟨rfl,hk⟩ | ⟨rfl,S,n,hk⟩
  ·obtain⟨its,_,pl,_⟩:=I.list hq
   refine⟨pl.isList.typeIs,fun a e=>?_⟩
   cases e
   obtain⟨o,n,e,c,hd,_⟩:=pl
   exact⟨o,e,hd⟩
  ·refine⟨⟨o,I.kIn p o hk,hc⟩,fun a e=>?_⟩
   cases e
   exact⟨o,I.kIn _ o hk,hd⟩
  ·have z:∃ o,s.heap.get? p=some o∧o.ExactDict:=by
    rcases hk with ⟨kvs,hk⟩ | ⟨kvs,hk⟩
    ·obtain⟨_,_,_,_,o,_,_,e,ex,_⟩:=I.hok p _ hk
     exact⟨o,e,ex⟩
    ·obtain⟨_,_,_,_,o,_,_,e,ex,_⟩:=I.hok p _ hk
     exact⟨o,e,ex⟩
   obtain⟨o,e,ex⟩:=z
   refine⟨⟨o,e,ex.1⟩,fun a e2=>?_⟩
   cases e2
   exact⟨o,e,ex.2.1⟩
  ·obtain⟨o,_,_,_,e,ex,_⟩:=I.hok p _ hk
   refine⟨⟨o,e,ex.1⟩,fun a e2=>?_⟩
   cases e2
   exact⟨o,e,ex.2.1⟩
 | _=>exact False.elim ty
noncomputable def tBM (K:PySem.W.Frag) (T:String) (r:V→List V→Hp→VK→Prop) (to:TE) (t:TA):TE:=fun σ H Q=>to σ H fun x H1=>tyV K T x H1∧t σ H1 fun xs H2=>r x xs H2 Q
variable {o e:Expr}{es:List Expr}{to:TE}{t:TA}{name:Str}{apos cpos:Pos}{T id:String}{r:V→List V→Hp→VK→Prop}
theorem pe_bm (pa:PlainAttrs T) (slot:Slot T name id) (hty:typeOf (.builtin id)=pure (.type "method_descriptor")) (hm:MtR X id r) (ho:PE X o to) (ha:PA X (e::es) t)
  (hbase:attributeBase o name X.env (eval o X.env)=eval o X.env:=by rfl)
  (hfew:((backTo cpos (starEach (e::es) X.env)).all (fun x=>!x.1) && (backToKw cpos (keywordEach [] X.env)).all (fun x=>x.1.isSome)
   && decide ((e::es).length+([]:List Keyword).length+(if ([]:List Keyword).isEmpty then 0 else 1) < 30))=true:=by rfl)
  (hline:(apos.endLine == cpos.line)=true:=by rfl) (hs:starEach (e::es) X.env=(false,eval e X.env)::starEach es X.env:=by rfl) (hplain:(backTo cpos (starEach es X.env)).any (·.1)=false:=by rfl) :
  PE X (.Call (.Attribute o name apos) (e::es) [] cpos) (tBM X.K T r to t):=by
 intro pins s σ H Q I h
 refine wpAny_Call_method_late hbase hfew hline rfl (bZ (ho pins s σ H _ I h) fun v s1 ⟨x,H1,I1,r1,ty,q1⟩=>?_)
 obtain⟨h1,h2⟩:=tyV_is I1 r1 ty
 refine⟨T,id,pa,slot,hty,h1,h2,?_⟩
 have hA:=ha cpos pins s1 σ H1 _ I1 q1
 rw[hs] at hA ⊢
 refine Calls.callWith_builtin (by show (false || (backTo cpos (starEach es X.env)).any (·.1))=false;rw[hplain] <;> rfl) (Calls.evalArgs_plain ?_)
 exact bZ hA fun us s2 ⟨vs,H2,I2,r2,q2⟩=>hm pins s2 σ H2 x vs v us Q I2 r1 r2 q2
end
end L2
namespace L2
open PySem PySem.Spec PyProof.Rows
noncomputable def MtM (X:Cx) (id:String) (r:V→List V→Hp→VK→Prop):Prop:=
 ∀ (pins:List (Addr×Obj)) (s:Shared) (σ:St) (H:Hp) (x:V) (xs:List V) (v:Value) (us:List Value) (Q:VK),Inv X pins σ H s→aY x v→bD xs us→r x xs H Q→
  wpAny (model X.prog X.w) X.A (call (.builtin id) (v::us)) (EP X pins σ Q) X.xe s
theorem bD.one {x:V}{us:List Value} (h:bD [x] us):∃ u,us=[u]∧aY x u:=vals1 h
theorem bD.two:∀ {x y:V}{us:List Value},bD [x,y] us→∃ u v,us=[u,v]∧aY x u∧aY y v
 | _,_,_,.cons r (.cons q .nil)=>⟨_,_,rfl,r,q⟩
section
variable {X:Cx}{pins:List (Addr×Obj)}{σ:St}{H:Hp}{s:Shared}{l b:Addr}{xs ys zs:List V}
theorem Inv.lset {its its':List Value}{n:Nat}{f:Array Value→Array Value}{t':Nat} (I:Inv X pins σ H s) (hH:H l=some (.lst xs))
  (e:s.heap.get? l=some { cls:=.type "list",data:=.seq its.toArray n }) (hf:f its.toArray=its'.toArray) (hv:bD ys its') (hz:ys.length≤sizeLine) :
  Inv X pins σ (upd H l (.lst ys)) { s with heap:=s.heap.update l (Obj.mapSeq f),toks:=t' }:=by
 have q:=PySem.IsL.update e f
 rw[hf] at q
 refine I.write (x:=l) (e:=l) (by rw[hH];exact trivial) (.inl rfl) (fun b' u hb hu=>(Heap.get?_update_other s.heap (Obj.mapSeq f) (Ne.symm hb)).trans hu) ⟨_,q⟩ ?_
 exact⟨hz,its',_,hv,q⟩
theorem Inv.lnew {its:List Value}{t':Nat} (I:Inv X pins σ H s) (hv:bD ys its) (hz:ys.length≤sizeLine) :
  Inv X pins σ (upd H s.heap.objs.size (.lst ys)) { s with heap:=s.heap.push { cls:=.type "list",data:=.seq its.toArray },toks:=t' }:=
 I.laid (fun _ _ q=>Heap.get?_push_of_some _ q) (Nat.le_refl _) ⟨hz,its,0,hv,Heap.get?_push_size _ rfl⟩
theorem Inv.fresh (I:Inv X pins σ H s):H s.heap.objs.size=none:=I.hok.fresh (Nat.le_refl _)
theorem Inv.lstM (I:Inv X pins σ H s) (hH:H l=some (.lst xs)):xs.length≤sizeLine∧∃ (its:List Value) (n:Nat),bD xs its∧xs.length=its.length∧s.heap.get? l=some { cls:=.type "list",data:=.seq its.toArray n }:=by
 obtain⟨z,its,n,r,e⟩:=I.hok l _ hH
 exact⟨z,its,n,r,r.length,e⟩
end
section
variable {X:Cx}
noncomputable def rAppend:V→List V→Hp→VK→Prop:=fun x vs H Q=>∃ l xs y,x=.ref l∧vs=[y]∧H l=some (.lst xs)∧xs.length < sizeLine∧Q .non (upd H l (.lst (xs++[y])))
theorem cX:MtM X "list.append" rAppend:=by
 intro pins s σ H x vs v us Q I rx rv h
 obtain⟨l,xs,y,rfl,rfl,hH,hz,q⟩:=h
 cases rx
 obtain⟨u,rfl,ru⟩:=rv.one
 obtain⟨z,its,n,r,hl,e⟩:=I.lstM hH
 refine call_meets F.slot_list_append ⟨_,e,rfl⟩ F.entry_list_append (F.args_list_append_2 _ _) (PySem.list_append l its.toArray n u (by rw[List.size_toArray];omega)) ⟨e,?_⟩
 refine⟨.non,_,I.lset (its':=its++[u]) hH e (by simp) (r.append (.cons ru .nil)) ?_,rfl,q⟩
 rw[List.length_append,List.length_singleton]
 omega
noncomputable def rCat:R2:=fun x y H Q=>∃ l b xs zs,x=.ref l∧y=.ref b∧H l=some (.lst xs)∧H b=some (.lst zs)∧xs.length+zs.length≤sizeLine∧∀ p,H p=none→Q (.ref p) (upd H p (.lst (xs++zs)))
theorem op_cat:OpR X (binaryOp .Add) rCat:=by
 intro pins s σ H x y v u Q I rx ry h
 obtain⟨l,b,xs,zs,rfl,rfl,hH,hB,hz,q⟩:=h
 cases rx
 cases ry
 obtain⟨z,its,n,r,hl,e⟩:=I.lstM hH
 obtain⟨z2,its2,n2,r2,hl2,e2⟩:=I.lstM hB
 refine PySem.P.add_list e e2 ?_ (by rw[List.size_toArray,List.size_toArray];omega)
 have ea:its.toArray++its2.toArray=(its++its2).toArray:=by simp
 rw[ea]
 exact⟨.ref _,_,I.lnew (t':=s.toks) (r.append r2) (by rw[List.length_append];omega),rfl,q _ I.fresh⟩
end
section
variable {prog:Program}{w:World}{A:Around}{E:Value→Shared→Prop}{s:Shared}
end
section
variable {X:Cx}
end
end L2
namespace L2
open PySem PySem.Spec PyProof.Rows
section
variable {κ:Type} [DecidableEq κ]
noncomputable def valV (kvs:List (κ×V)) (k:κ):Option V:=(kvs.find? fun kv=>decide (kv.1=k)).map (·.2)
noncomputable def putK (kvs:List (κ×V)) (k:κ) (v:V):List (κ×V):=
 if (kvs.any fun kv=>decide (kv.1=k))=true then kvs.map (fun kv=>if kv.1=k then (kv.1,v) else kv) else kvs++[(k,v)]
theorem valV_pos {p:κ×V}{r:List (κ×V)}{k:κ} (e:p.1=k):valV (p::r) k=some p.2:=by simp [valV,List.find?_cons,e]
theorem valV_neg {p:κ×V}{r:List (κ×V)}{k:κ} (e:¬ p.1=k):valV (p::r) k=valV r k:=by simp [valV,List.find?_cons,e]
theorem valV_any (k:κ):∀ kvs:List (κ×V),(kvs.any fun kv=>decide (kv.1=k))=(valV kvs k).isSome
 | []=>rfl
 | p::r=>by
  rw[List.any_cons]
  by_cases e:p.1=k
  ·simp only [valV_pos e,decide_eq_true e,Bool.true_or,Option.isSome_some]
  ·rw[valV_neg e,decide_eq_false e,Bool.false_or];exact valV_any k r
theorem length_putK (kvs:List (κ×V)) (k:κ) (v:V):(putK kvs k v).length≤kvs.length+1:=by
 unfold putK
 split
 ·rw[List.length_map];omega
 ·rw[List.length_append,List.length_cons,List.length_nil];omega
theorem putK_new {kvs:List (κ×V)}{k:κ} (v:V) (h:valV kvs k=none):putK kvs k v=kvs++[(k,v)]:=by
 unfold putK
 rw[valV_any,h]
 exact if_neg (by decide)
theorem RelO.isSome_eq {o:Option V}{u:Option Value} (r:RelO o u):o.isSome=u.isSome:=by
 cases o with
 | none=>cases u with
  | none=>rfl
  | some _=>exact (show False from r).elim
 | some _=>cases u with
  | none=>exact (show False from r).elim
  | some _=>rfl
theorem RelO.getD {o:Option V}{u:Option Value}{d:V}{d':Value} (r:RelO o u) (rd:aY d d'):aY (o.getD d) (u.getD d'):=by
 cases o with
 | none=>cases u with
  | none=>exact rd
  | some _=>exact (show False from r).elim
 | some _=>cases u with
  | none=>exact (show False from r).elim
  | some _=>exact r
theorem KV.val {kvs:List (κ×V)}{vs:List (κ×Value)} (r:KV kvs vs) (k:κ):RelO (valV kvs k) (valueAt vs k):=by
 unfold KV at r
 induction r with
 | nil=>exact True.intro
 | @cons p q ps qs h t ih=>
  obtain⟨h1,h2⟩:=h
  by_cases e:p.1=k
  ·have e':q.1=k:=h1.symm.trans e
   have b:valueAt (q::qs) k=some q.2:=by simp [valueAt,List.find?_cons,e']
   rw[valV_pos e,b];exact h2
  ·have e':¬ q.1=k:=fun z=>e (h1.trans z)
   have b:valueAt (q::qs) k=valueAt qs k:=by simp [valueAt,List.find?_cons,e']
   rw[valV_neg e,b];exact ih
theorem KV.any {kvs:List (κ×V)}{vs:List (κ×Value)} (r:KV kvs vs) (k:κ):(kvs.any fun kv=>decide (kv.1=k))=vs.any fun kv=>decide (kv.1=k):=by
 unfold KV at r
 induction r with
 | nil=>rfl
 | cons h t ih=>rw[List.any_cons,List.any_cons,ih,h.1]
theorem KV.repl {kvs:List (κ×V)}{vs:List (κ×Value)} (r:KV kvs vs) (k:κ) {y:V}{u:Value} (ry:aY y u) :
  KV (kvs.map fun kv=>if kv.1=k then (kv.1,y) else kv) (vs.map fun kv=>if kv.1=k then (kv.1,u) else kv):=by
 unfold KV at r ⊢
 induction r with
 | nil=>exact .nil
 | @cons p q ps qs h t ih=>
  rw[List.map_cons,List.map_cons]
  refine .cons ?_ ih
  obtain⟨h1,h2⟩:=h
  by_cases e:p.1=k
  ·rw[if_pos e,if_pos (h1.symm.trans e)];exact⟨h1,ry⟩
  ·rw[if_neg e,if_neg (fun z=>e (h1.trans z))];exact⟨h1,h2⟩
theorem KV.put {kvs:List (κ×V)}{vs:List (κ×Value)} (r:KV kvs vs) (k:κ) {y:V}{u:Value} (ry:aY y u):KV (putK kvs k y) (stored vs k u):=by
 unfold putK stored
 rw[r.any k]
 by_cases e:(vs.any fun kv=>decide (kv.1=k))=true
 ·rw[if_pos e,if_pos e];exact r.repl k ry
 ·rw[if_neg e,if_neg e];exact Paired.snoc r ⟨rfl,ry⟩
theorem KV.length {kvs:List (κ×V)}{vs:List (κ×Value)} (r:KV kvs vs):kvs.length=vs.length:=Paired.length r
end
theorem kV_is {P:Program}{w:World}{k:Key}{u:Value} (r:aY (kV k) u):(bU P w).is k u=true:=by
 cases k with
 | inl i=>obtain⟨t,e⟩:=(show ∃ t,u=Value.int i t from r);subst e;exact mixKind_int P w i t
 | inr z=>cases z with
  | some x=>obtain⟨t,e⟩:=(show ∃ t,u=Value.str x t from r);subst e;exact mixKind_str P w x t
  | none=>obtain rfl:=(show u=Value.none from r);rfl
theorem items_are {P:Program}{w:World}:∀ {ks:List Key}{us:List Value},bD (ks.map kV) us→ItemsAre (bU P w) ks us
 | [],_,r=>by rw[List.map_nil] at r;cases r;exact .nil
 | k::ks,_,r=>by
  rw[List.map_cons] at r
  cases r with
  | cons h t=>exact .cons (kV_is h) (items_are t)
noncomputable abbrev KT (H:Hp):List (List Key×V)→List (List Key×Addr×Value)→Prop:=Paired fun p q=>p.1=q.1∧H q.2.1=some (.tup (p.1.map kV))∧aY p.2 q.2.2
theorem KT.val {H:Hp}{kvs:List (List Key×V)}{xs:List (List Key×Addr×Value)} (r:KT H kvs xs) (k:List Key):RelO (valV kvs k) ((atKey xs k).map (·.2)):=by
 induction r with
 | nil=>exact True.intro
 | @cons p q ps qs h t ih=>
  obtain⟨h1,_,h2⟩:=h
  by_cases e:p.1=k
  ·have e':q.1=k:=h1.symm.trans e
   have b:atKey (q::qs) k=some q.2:=by simp [atKey,List.find?_cons,e']
   rw[valV_pos e,b];exact h2
  ·have e':¬ q.1=k:=fun z=>e (h1.trans z)
   have b:atKey (q::qs) k=atKey qs k:=by simp [atKey,List.find?_cons,e']
   rw[valV_neg e,b];exact ih
section
variable {P:Program}{w:World}{H:Hp}{h:Heap}{a:Addr}
theorem rd_of {u:HO} (ok:HOk P w H h) (e:Rd H a u):bQ P w H h a u:=e.ok ok
theorem dk_rd {kvs:List (Key×V)} (ok:HOk P w H h) (e:Rd H a (.dK kvs)):kvs.length≤sizeLine∧(a == sysModules)=false∧∃ vs,KV kvs vs∧h.DictOf (bU P w) a vs:=
 show bQ P w H h a (.dK kvs) from rd_of ok e
theorem dk_of {kvs:List (Key×V)} (ok:HOk P w H h) (e:H a=some (.dK kvs)):kvs.length≤sizeLine∧(a == sysModules)=false∧∃ vs,KV kvs vs∧h.DictOf (bU P w) a vs:=dk_rd ok (.inl e)
theorem key_of {ks:List Key} (ok:HOk P w H h) (e:H a=some (.tup (ks.map kV))):(tupleKind (bU P w)).is h ks a:=by
 obtain⟨_,its,r,o,h1,h2,n,h3⟩:=(show bQ P w H h a (.tup (ks.map kV)) from ok a _ e)
 exact⟨o,its.toArray,n,h1,h2,h3,by simpa using items_are r⟩
theorem dt_rd {kvs:List (List Key×V)} (ok:HOk P w H h) (e:Rd H a (.dT kvs)):kvs.length≤sizeLine∧(a == sysModules)=false∧
  ∃ xs,KT H kvs xs∧h.DictOfH (tupleKind (bU P w)) a xs:=by
 obtain⟨z,y,xs,r,o,es,ep,h1,h2,h3,h4,h5⟩:=(show bQ P w H h a (.dT kvs) from rd_of ok e)
 refine⟨z,y,xs,r,o,es,ep,h1,h2,h3,h4,fun x hx=>?_,h5⟩
 have all:∀ {l:List (List Key×V)}{m:List (List Key×Addr×Value)},KT H l m→∀ x∈m,(tupleKind (bU P w)).is h x.1 x.2.1:=by
  intro l m q
  induction q with
  | nil=>intro x hx;exact nomatch hx
  | @cons p q ps qs hq t ih=>
   intro x hx
   rcases List.mem_cons.mp hx with e | hx
   ·subst e
    exact key_of ok (by rw[← hq.1];exact hq.2.1)
   ·exact ih x hx
 exact all r x hx
end
noncomputable def DGet (H:Hp) (a:Addr) (y:V) (r:Option V):Prop:=
 (∃ kvs k,Rd H a (.dK kvs)∧y=kV k∧r=valV kvs k)∨∃ kvs k b,Rd H a (.dT kvs)∧y=.ref b∧H b=some (.tup (k.map kV))∧r=valV kvs k
section
variable {X:Cx}{pins:List (Addr×Obj)}{σ:St}{H:Hp}{s:Shared}{a:Addr}{y v:V}{u r:Value}{o:Option V}{A:Around}{E:Value→Shared→Prop}
theorem Inv.big (I:Inv X pins σ H s):sysModules < s.heap.objs.size:=by
 have h:mainGlobals < s.heap.objs.size:=(I.mod.glob.keeps I.bk).lt
 exact Nat.lt_trans (by decide) h
theorem d_getItem {Q:Value→Shared→Prop} (hu:A.units+1 < cLine) (I:Inv X pins σ H s) (g:DGet H a y (some v)) (ry:aY y u) (h:∀ w' s',Inv X pins σ H s'→aY v w'→Q w' s') :
  wpAny (model X.prog X.w) A (getItem (.ref a) u) Q E s:=by
 rcases g with ⟨kvs,k,e,ey,l⟩ | ⟨kvs,k,b,e,ey,eb,l⟩
 ·subst ey
  obtain⟨z,hd,vs,rel,dd⟩:=dk_rd I.hok e
  obtain⟨w',hw,rw'⟩:=RelO.some_of (v:=v) (o:=valueAt vs k) (by rw[l];exact rel.val k)
  exact wpAny_getItem_of (kV_is ry) dd.mapOf hw (h w' _ (I.tok _) rw')
 ·subst ey
  cases (show u=Value.ref b from ry)
  obtain⟨z,hd,xs,rel,dd⟩:=dt_rd I.hok e
  obtain⟨w',hw,rw'⟩:=RelO.some_of (v:=v) (o:=(atKey xs k).map (·.2)) (by rw[l];exact rel.val k)
  obtain⟨p,hp,hp2⟩:=Option.map_eq_some_iff.mp hw
  refine wpAny_getItem_heap (tupleKind_room_in1 hu) (key_of I.hok eb) dd hp ?_
  rw[hp2]
  exact h w' _ (I.tok _) rw'
theorem d_in {Q:Value→Shared→Prop} (hu:A.units+1 < cLine) (I:Inv X pins σ H s) (g:DGet H a y o) (ry:aY y u) (h:∀ s',Inv X pins σ H s'→Q (.bool o.isSome) s') :
  wpAny (model X.prog X.w) A (compareOp .In u (.ref a)) Q E s:=by
 rcases g with ⟨kvs,k,e,ey,l⟩ | ⟨kvs,k,b,e,ey,eb,l⟩
 ·subst ey
  obtain⟨z,hd,vs,rel,dd⟩:=dk_rd I.hok e
  refine wpAny_in_of (kV_is ry) hd dd.mapOf ?_
  rw[← (rel.val k).isSome_eq,← l]
  exact h _ (I.tok _)
 ·subst ey
  cases (show u=Value.ref b from ry)
  obtain⟨z,hd,xs,rel,dd⟩:=dt_rd I.hok e
  refine wpAny_in_heap (tupleKind_room_in1 hu) (key_of I.hok eb) hd dd ?_
  have q:=(rel.val k).isSome_eq
  rw[Option.isSome_map] at q
  rw[← q,← l]
  exact h _ (I.tok _)
theorem d_write {h':Heap}{t':Nat}{ob:HO} (I:Inv X pins σ H s) (mu:Mut (H a)) (hs:Heap.SameBut a s.heap h') (he:∃ q,h'.get? a=some q) (new:bQ X.prog X.w (upd H a ob) h' a ob) :
  Inv X pins σ (upd H a ob) { s with heap:=h',toks:=t' }:=
 I.write (x:=a) (e:=a) mu (.inl rfl) (fun b q hb z=>(hs.2 b hb).trans z) he new
theorem dk_new {P:Program}{w:World}{H':Hp}{h':Heap}{kvs:List (Key×V)}{vs:List (Key×Value)} (z:kvs.length≤sizeLine) (hd:(a == sysModules)=false) (rel:KV kvs vs) (dd:h'.DictOf (bU P w) a vs) :
  bQ P w H' h' a (.dK kvs):=⟨z,hd,vs,rel,dd⟩
end
section
variable {X:Cx}{pins:List (Addr×Obj)}{σ:St}{H:Hp}{s:Shared}{a:Addr}{kvs:List (Key×V)}{k:Key}{u:Value}{A:Around}{E:Value→Shared→Prop}
end
noncomputable def NoSl (i:Expr):Prop:=∀ ov iv,subscripted i false ov iv=operate [ov,iv] (getItem ov iv)
theorem subD_of {prog:Program}{w:World}{A:Around}{E:Value→Shared→Prop}{s:Shared}{env:Env}{value slice:Expr}{pos:Pos}{T id:String}{Q:Value→Shared→Prop}
  (hl:typeLookup (.type T) "__getitem__" = pure (some (.builtin id))) (hs:NoSl slice)
  (h:wpAny (model prog w) A (eval value env) (fun o s₁=>wpAny (model prog w) A (eval slice env) (fun i s₂=>s₂.TypeIs o T∧wpAny (model prog w) A (getItem o i) Q E s₂) E s₁) E s) :
  wpAny (model prog w) A (eval (.Subscript value slice pos) env) Q E s:=by
 refine Subscript_ (wpAny_mono h (fun o s₁ h₁=>wpAny_mono h₁ (fun i s₂ h₂=>?_) fun _ _ x=>x) fun _ _ x=>x)
 obtain⟨hT,h₂⟩:=h₂
 unfold subscriptTail
 refine wpAny_bind ?_
 rw[getitemInPython_of_ne hT.not_modules]
 refine wpAny_bind (wpAny_specialOf hT hl ?_)
 have fin:wpAny (model prog w) A (subscripted slice false o i) (fun r s₃=>wpAny (model prog w) A (letTemporaryGo value o r >>= fun _=>pure r) Q E s₃) E s₂:=by
  rw[hs o i]
  exact wpAny_operating (wpAny_mono h₂ (fun r s₃ h₃=>wpAny_bind (wpAny_letTemporaryGo (wpAny_pure h₃))) fun _ _ x=>x)
 first
  | exact wpAny_pure (wpAny_bind fin)
  | exact wpAny_bind (wpAny_pure (wpAny_bind fin))
  | exact wpAny_bind fin
theorem dict_typeIs {X:Cx}{pins:List (Addr×Obj)}{σ:St}{H:Hp}{s:Shared}{a:Addr}{y:V}{o:Option V} (I:Inv X pins σ H s) (g:DGet H a y o):s.TypeIs (.ref a) "dict" := by
 rcases g with ⟨kvs,k,e,_,_⟩ | ⟨kvs,k,b,e,_,_,_⟩
 ·obtain⟨_,_,vs,_,dd⟩:=dk_rd I.hok e
  exact dd.typeIs
 ·obtain⟨_,_,xs,_,dd⟩:=dt_rd I.hok e
  exact dd.typeIs
noncomputable def tDGet (td ty:TE):TE:=fun σ H Q=>td σ H fun x H1=>ty σ H1 fun y H2=>∃ a v,x=.ref a∧DGet H2 a y (some v)∧Q v H2
noncomputable def tDIn (ty td:TE):TE:=fun σ H Q=>ty σ H fun y H1=>td σ H1 fun x H2=>∃ a o,x=.ref a∧DGet H2 a y o∧Q (.bl o.isSome) H2
section
variable {X:Cx}{o i e value:Expr}{pos pos' tpos:Pos}{td ty tv:TE}
theorem pe_dget (hu:X.A.units+1 < cLine) (ho:PE X o td) (hi:PE X i ty) (hs:NoSl i):PE X (.Subscript o i pos) (tDGet td ty):=by
 intro pins s σ H Q I h
 refine subD_of PySem.F.slot_dict_getitem.lookup hs (bZ (ho pins s σ H _ I h) fun u s1 ⟨x,H1,I1,rx,q1⟩=>bZ (hi pins s1 σ H1 _ I1 q1) fun iv s2 ⟨y,H2,I2,ry,a,v,ex,g,q2⟩=>?_)
 subst ex
 obtain rfl:u=Value.ref a:=rx
 exact⟨dict_typeIs I2 g,d_getItem hu I2 g ry fun w' s3 I3 rw'=>⟨v,H2,I3,rw',q2⟩⟩
theorem pc_din (hu:X.A.units+1 < cLine) (hi:PE X i ty) (ho:PE X o td):PC X .In i o (tDIn ty td):=by
 intro pins s σ H Q I h
 refine bZ (hi pins s σ H _ I h) fun iv s1 ⟨y,H1,I1,ry,q1⟩=>bZ (ho pins s1 σ H1 _ I1 q1) fun u s2 ⟨x,H2,I2,rx,a,ov,ex,g,q2⟩=>?_
 subst ex
 obtain rfl:u=Value.ref a:=rx
 exact d_in hu I2 g ry fun s3 I3=>⟨.bl ov.isSome,H2,I3,rfl,q2⟩
end
theorem dk_empty {P:Program}{w:World}{H:Hp} (h:Heap) (hb:sysModules < h.objs.size):bQ P w H (h.push { cls:=.type "dict",data:=.dict #[] }) h.objs.size (.dK []):=
 ⟨Nat.zero_le _,beq_eq_false_iff_ne.mpr (Ne.symm (Nat.ne_of_lt hb)),[],.nil,Heap.DictOf.new h⟩
section
variable {X:Cx}{pos:Pos}
end
structure M1 (X:Cx) (o:Expr) (m:Str) (apos:Pos) (e:Expr) (cpos:Pos):Prop where
 base:attributeBase o m X.env (eval o X.env)=eval o X.env
 few:((backTo cpos (starEach [e] X.env)).all (fun x=>!x.1) && (backToKw cpos (keywordEach [] X.env)).all (fun x=>x.1.isSome)
  && decide (([e]:List Expr).length+([]:List Keyword).length+(if ([]:List Keyword).isEmpty then 0 else 1) < 30))=true
 line:(apos.endLine == cpos.line)=true
 trees:backTo cpos (starEach [e] X.env)=[(false,eval e X.env)]
noncomputable def IsD (H:Hp) (a:Addr):Prop:=(∃ kvs,Rd H a (.dK kvs))∨∃ kvs,Rd H a (.dT kvs)
theorem isD_at {X:Cx}{pins:List (Addr×Obj)}{σ:St}{H:Hp}{s:Shared}{a:Addr} (I:Inv X pins σ H s) (d:IsD H a) :
  s.TypeIs (.ref a) "dict" ∧ (∀ b,Value.ref a=.ref b→∃ ob,s.heap.get? b=some ob∧ob.dict=none)∧(a == sysModules)=false:=by
 rcases d with ⟨kvs,e⟩ | ⟨kvs,e⟩
 ·obtain⟨_,hd,vs,_,dd⟩:=dk_rd I.hok e
  refine⟨dd.typeIs,fun b q=>?_,hd⟩
  cases q
  obtain⟨ob,_,_,h1,h2,_⟩:=dd
  exact⟨ob,h1,h2.2.1⟩
 ·obtain⟨_,hd,xs,_,dd⟩:=dt_rd I.hok e
  refine⟨dd.typeIs,fun b q=>?_,hd⟩
  cases q
  obtain⟨ob,_,_,h1,h2,_⟩:=dd
  exact⟨ob,h1,h2.2.1⟩
section
variable {X:Cx}{pins:List (Addr×Obj)}{σ:St}{H:Hp}{s:Shared}{a:Addr}{y d:V}{u r:Value}{o:Option V}{A:Around}{E:Value→Shared→Prop}
theorem d_get1 {Q:Value→Shared→Prop} (hu:A.units+1 < cLine) (I:Inv X pins σ H s) (g:DGet H a y o) (ry:aY y u) (h:∀ w' s',Inv X pins σ H s'→aY (o.getD .non) w'→Q w' s') :
  wpAny (model X.prog X.w) A (call (.builtin "dict.get") [.ref a,u]) Q E s:=by
 rcases g with ⟨kvs,k,e,ey,l⟩ | ⟨kvs,k,b,e,ey,eb,l⟩
 ·subst ey
  obtain⟨z,hd,vs,rel,dd⟩:=dk_rd I.hok e
  refine call_meetsIn PySem.F.slot_dict_get dd.typeIs PySem.F.entry_dict_get (PySem.F.args_dict_get_2 _ _) (meets_dict_get (bU X.prog X.w) a (kV_is ry) hd) ⟨_,dd.mapOf,h _ _ (I.tok _) ?_⟩
  rw[l]
  exact (rel.val k).getD rfl
 ·subst ey
  cases (show u=Value.ref b from ry)
  obtain⟨z,hd,xs,rel,dd⟩:=dt_rd I.hok e
  refine call_meetsIn PySem.F.slot_dict_get dd.typeIs PySem.F.entry_dict_get (PySem.F.args_dict_get_2 _ _) (meetsH_dict_get (tupleKind (bU X.prog X.w)) a b hd) ⟨tupleKind_room_in1 hu,k,xs,key_of I.hok eb,dd,h _ _ (I.tok _) ?_⟩
  rw[l]
  exact (rel.val k).getD rfl
end
noncomputable def tDGet1 (td ty:TE):TE:=fun σ H Q=>td σ H fun x H1=>∃ a,x=.ref a∧IsD H1 a∧ty σ H1 fun y H2=>∃ o,DGet H2 a y o∧Q (o.getD .non) H2
section
variable {X:Cx}{o e f:Expr}{apos cpos:Pos}{td ty tx:TE}
theorem pe_dget1 (hu:X.A.units+1 < cLine) (ho:PE X o td) (he:PE X e ty) (m:M1 X o "get" apos e cpos):PE X (.Call (.Attribute o "get" apos) [e] [] cpos) (tDGet1 td ty):=by
 intro pins s σ H Q I h
 refine wpAny_Call_method m.base m.few m.line PySem.F.plainAttrs_dict PySem.F.slot_dict_get PySem.F.type_dict_get (bZ (ho pins s σ H _ I h) fun u s1 ⟨x,H1,I1,rx,a,ex,d,q1⟩=>?_)
 subst ex
 obtain rfl:u=Value.ref a:=rx
 obtain⟨t1,t2,_⟩:=isD_at I1 d
 refine⟨t1,t2,?_⟩
 rw[m.trees]
 refine Calls.callWith_builtin rfl (Calls.evalArgs_plain (Calls.spliced_cons (bZ (he pins s1 σ H1 _ I1 q1) fun iv s2 ⟨y,H2,I2,ry,ov,g,q2⟩=>Calls.spliced_nil ?_)))
 exact d_get1 hu I2 g ry fun w' s3 I3 rw'=>⟨_,H2,I3,rw',q2⟩
end
section
variable {X:Cx}{pins:List (Addr×Obj)}{σ:St}{H:Hp}{s:Shared}{a:Addr}{kvs:List (Key×V)}{A:Around}{E:Value→Shared→Prop}
end
section
variable {X:Cx}{pins:List (Addr×Obj)}{σ:St}{H:Hp}{s:Shared}{a:Addr}{y:V}{u:Value}{A:Around}{E:Value→Shared→Prop}
end
end L2
namespace Att
open PySem PySem.W PySem.Calls PyProof.Rows
theorem ints_of_wellAll {P:Params}{h:Heap}:∀ (ns:List Int) (vs:List Value),WellAll P h vs (ns.map WData.int)→IntsAre vs ns:=by
 intro ns
 induction ns with
 | nil=>
  intro vs w
  rw[List.map_nil] at w
  cases w
  exact .nil
 | cons n ns ih=>
  intro vs w
  rw[List.map_cons] at w
  cases w with
  | cons a b=>
   cases a
   exact .cons _ _ (ih _ b)
theorem script_of {l:OpenLaw}{n:Nat} (hn:l.most=some n) {P:Params}{h:Heap}{args:List WData}{vals:List Value}
  (hpre:l.row.toRowW.claim.pre args=true) (hwl:WellAll P h vals args) :
  ∃ a vs ns,vals=[Value.ref a]∧args=[WData.list (ns.map WData.int)]∧h.get? a=some { cls:=.type "list",data:=.seq vs.toArray }∧IntsAre vs ns∧ns.length≤n:=by
 have hsh:WShape.hasAll [] args [.list .int]=true:=(pre_splitW hpre).1
 have hc:l.pre.holds [] { args:=args }=true:=(pre_splitW hpre).2
 obtain⟨d,r,rfl,h1,h2⟩:=hasAllW_cons hsh
 obtain rfl:=hasAllW_nil h2
 obtain⟨xs,rfl,h3⟩:=hasW_list h1
 obtain⟨ns,rfl⟩:=items_int h3
 have hlen:ns.length≤n:=by
  unfold OpenLaw.pre at hc
  have h4:(WTm.not (.lt (.lit (.int (n:Int))) (.len (.arg 0)))).holds [] { args:=[.list (ns.map .int)] }=true:=by
   have h4:=(holds_andW hc).1
   rw[hn] at h4
   exact h4
  have h5:=condW_of h4 (w_not (w_lt w_lit (w_len_list (w_arg rfl))))
  rw[List.length_map] at h5
  refine Nat.le_of_not_lt fun q=>?_
  have q':(n:Int) < ((ns.length:Nat):Int):=by omega
  first
   | (rw[decide_eq_true q'] at h5;exact absurd h5 (by decide))
   | (simp at h5;omega)
 cases hwl with
 | cons w1 w2=>
  cases w2
  cases w1 with
  | list ho hall=>exact⟨_,_,ns,rfl,rfl,ho,ints_of_wellAll ns _ hall,hlen⟩
theorem post_true (l:OpenLaw) (args:List WData):l.row.toRowW.claim.post args (.bool true) args=true:=
 postW_of (r:=l.row.toRowW) (X:=(true == true))
  (show WShape.has [] (.bool true) .bool=true by first | rfl | decide | simp [WShape.has,WShape.arms,WShape.armsAll])
  (show (WTm.eq .res (.lit (.bool true))).value [] { args:=args,res:=some (.bool true),after:=args }=some (.bool (true == true)) from w_eq_bool (w_res rfl) w_lit) rfl
theorem attach_call {l:OpenLaw}{n:Nat}{q:Program}{loose:List Str}{XP:(Str→Option Value)→Heap→Prop}{YP:World→Heap→Prop}{d:DefRec}
  (hn:l.most=some n) (hdf:d.params.defaults=[])
  (call:∀ (w:World) (s₀ s₁:Shared) (mg mb:Str→Option Value) (fa:Addr) (o:Obj) (pm cd doc:Value) (a:Addr) (vs:List Value) (ns:List Int),
   Ground q loose [] XP w s₀ mg mb s₁.heap→YP w s₁.heap→
   s₁.heap.get? fa=some o→o.data=.func (docDef d.name d.params d.body d.scope pm cd doc)→s₁.heap.CodeRec cd d.name→mg d.name=some (.ref fa)→
   s₁.heap.get? a=some { cls:=.type "list",data:=.seq vs.toArray }→IntsAre vs ns→ns.length≤n→s₁.gens = #[]→
   codeAny (model l.prog w) callerA (.call (.ref fa) ⟨[.ref a],[]⟩) (fun r s'=>r=.ok (.ret (.bool true))∧OldK s₁.heap s'.heap∧s'.os=s₁.os∧AllBare s'.gens) s₁) :
  WalkO q loose XP YP l.row.toRowW d [] (fun f vs=>PySem.call f vs):=by
 intro w s₀ s₁ mg mb G Y fa o pm cd doc dV kV ho hd hcd hD hmg hg args vals as hpre hlay hrd hwl hlo
 obtain rfl:dV=.none:=Dflts.none hD hdf
 obtain rfl:kV=.none:=Dflts.noKw hD
 obtain⟨a,vs,ns,rfl,rfl,hobj,hints,hlen⟩:=script_of hn hpre hwl
 refine enter_call (codeAny_mono (call w s₀ s₁ mg mb fa o pm cd doc a vs ns G Y ho (fd_plain hd) hcd hmg hobj hints hlen hg) fun r s' hq=>?_)
 obtain⟨rfl,h2,h3,h4⟩:=hq
 exact⟨.inl ⟨.bool true,.bool true,[],rfl,fun _=>rfl,.bool true,post_true l _,fun _=>⟨List.Pairwise.nil,fun _ hm=>(nomatch hm)⟩⟩,h2,h3,h4⟩
section
variable {prog:Program}{w:World}{A:Around}{E:Value→Shared→Prop}{s:Shared}{K:Frag}
end
end Att
namespace L2
open PySem PySem.Spec PyProof.Rows
theorem vals_ints:∀ {vs:List Value}{ns:List Int},IntsAre vs ns→bD (ns.map V.int) vs
 | _,_,.nil=>.nil
 | _,_,.cons n t h=>.cons ⟨t,rfl⟩ (vals_ints h)
noncomputable def Only (H:Hp):Prop:=∀ b,H b=none∨∃ o xs,H b=some (.frz o (.lst xs))
theorem law_call {P:Program}{w:World}{K:PySem.W.Frag}{mg mb:Str→Option Value}{CX:CXT}{k:Nat}{fa a:Addr}{fd:FuncData}{x:Str}{sp:Sp}{s₁:Shared}{vs:List Value}{ns:List Int}
  (KX:K.In s₁.heap) (hns:s₁.heap.Ns mainGlobals mg) (hb:s₁.heap.Ns builtinsNs mb) (hbb:∀ x:Str,x ≠ "__name__" → mb x=bootBuiltins x) (hlim:s₁.heap.NoLimit) (hg:s₁.gens = #[])
  (ha:s₁.heap.get? a=some { cls:=.type "list",data:=.seq vs.toArray }) (hi:IntsAre vs ns) (hl:ns.length≤sizeLine) (hr:Room k callerA)
  (F:∀ base:Heap,K.In base→base.Ns mainGlobals mg→FnOk P w K mg base CX k fa fd [x] sp) (hbind:∀ (s:Shared) (u:Value),BindsTo s fd ⟨[u],[]⟩ [(x,u)])
  (hsp:∀ H:Hp,Only H→bT K H a (ns.map V.int)→sp [.ref a] H (fun v _=>v=.bl true) fun _ _ _=>False)
  (hCX:∀ H e s',CX [] H s₁ (fun _ _ _=>False) e s'→False) :
  codeAny (model P w) callerA (.call (.ref fa) ⟨[.ref a],[]⟩) (fun r s'=>r=.ok (.ret (.bool true))∧OldK s₁.heap s'.heap∧s'.os=s₁.os∧AllBare s'.gens) s₁:=by
 have rv:=vals_ints hi
 have lenV:=hi.length
 have core:∀ H:Hp,Only H→bT K H a (ns.map V.int)→HOk P w H s₁.heap→(∀ b,H b≠none→b=a)→(H a≠none→K.lookup a=none)→
   codeAny (model P w) callerA (.call (.ref fa) ⟨[.ref a],[]⟩) (fun r s'=>r=.ok (.ret (.bool true))∧OldK s₁.heap s'.heap∧s'.os=s₁.os∧AllBare s'.gens) s₁:=by
  intro H hO hS hok hA hK
  have base_of:∀ {b:Addr}{o:Obj},s₁.heap.get? b=some o→H b=none→(hidT s₁.heap H).get? b=some o:=fun e n=>hidT_get e n
  have noA:∀ {b:Addr}{o:Obj}{es:Array DictEntry}{ep:Nat},s₁.heap.get? b=some o→o.data=.dict es ep→H b=none:=fun {b o es ep} e d=>by
   cases q:H b with
   | none=>rfl
   | some u=>
    have e':b=a:=hA b (by rw[q];simp)
    subst e'
    rw[ha] at e;cases e
    have d':Data.seq vs.toArray _=Data.dict es ep:=d
    cases d'
  have nsK:∀ {b:Addr}{m:Str→Option Value},s₁.heap.Ns b m→(hidT s₁.heap H).Ns b m:=fun {b m} ⟨o,es,ep,e,d,r⟩=>⟨o,es,ep,base_of e (noA e d),d,r⟩
  have hKb:K.In (hidT s₁.heap H):=fun b o e=>base_of (KX b o e) (by
   cases q:H b with
   | none=>rfl
   | some u=>
    have e':b=a:=hA b (by rw[q];simp)
    subst e'
    rw[hK (by rw[q];simp)] at e;cases e)
  have hM:Mod K mg (hidT s₁.heap H):=⟨hKb,nsK hns,⟨mb,nsK hb,hbb⟩,let ⟨mc,h1,h2⟩:=hlim;⟨mc,nsK h1,h2⟩⟩
  have e0:Env0 P w K mg (hidT s₁.heap H) callerA [] s₁ H:=⟨rfl,hM,fun b o e=>of_hidT e,Nat.le_of_eq (hidT_size _ _),trivial,fun b hb=>absurd (show b∈([]:List Addr) from hb) (by simp),hok,.of_eq hg⟩
  refine codeAny_mono ((F _ hKb (nsK hns)).run callerA [] s₁ H ⟨[.ref a],[]⟩ [.ref a] [.ref a] _ _ hr e0 (hbind s₁ (.ref a)) (.cons rfl .nil) (hsp H hO hS)) fun r s' h=>?_
  cases r with
  | error e=>exact (hCX H e s' h).elim
  | ok fl=>
   cases fl with
   | next=>exact False.elim h
   | brk=>exact False.elim h
   | cont=>exact False.elim h
   | ret u=>
    obtain⟨v,H',os,bare,un,hok',r',q⟩:=h
    have q':v=.bl true:=q
    subst q'
    obtain rfl:u=Value.bool true:=r'
    refine⟨rfl,OldK.of_keep fun b o e=>?_,os,bare⟩
    cases q:H b with
    | none=>exact un.keep b o e q (by intro z;exact absurd (show b∈([]:List Addr) from z) (by simp)) (by simp)
    | some u=>
     rcases hO b with z | ⟨ob,xs,z⟩
     ·rw[q] at z;cases z
     ·have z2:=un.frzs b ob _ z
      obtain⟨e1,_⟩:=hok b _ z
      obtain⟨e2,_⟩:=hok' b _ z2
      rw[e] at e1;cases e1
      exact e2
 cases hk:K.lookup a with
 | some o=>
  have e:=KX a o hk
  rw[ha] at e
  cases e
  refine core (fun _=>none) (fun _=>.inl rfl) (.inr ⟨_,vs.toArray,_,hk,rfl,rfl,rfl,by rw[List.size_toArray,lenV];exact hl,by simpa using rv⟩) (fun b u z=>by have z':(none:Option HO)=some u:=z;cases z') (fun b z=>absurd rfl z) fun z=>absurd rfl z
 | none=>
  refine core (fun b=>if b=a then some (.frz { cls:=.type "list",data:=.seq vs.toArray } (.lst (ns.map V.int))) else none) (fun b=>?_) (.inl (.inr ⟨{ cls:=.type "list",data:=.seq vs.toArray },if_pos rfl⟩)) (fun b u z=>?_) (fun b z=>?_) fun _=>hk
  ·by_cases hb:b=a
   ·exact .inr ⟨_,_,if_pos hb⟩
   ·exact .inl (if_neg hb)
  ·by_cases hb:b=a
   ·have z':=(if_pos hb).symm.trans z
    cases z'
    subst hb
    exact⟨ha,by rw[List.length_map];exact hl,vs,_,rv,ha⟩
   ·have z':=(if_neg hb).symm.trans z
    cases z'
  ·by_cases hb:b=a
   ·exact hb
   ·exact absurd (if_neg hb) z
end L2
namespace L2
open PySem PySem.Spec PyProof.Rows
theorem walk_of {l:PySem.W.OpenLaw}{n k:Nat}{q:Program}{loose:List Str}{XP:(Str→Option Value)→Heap→Prop}{YP:World→Heap→Prop}{d:DefRec}{K:Params→PySem.W.Frag}{CX:World→CXT}{sp:World→Sp}{x:Str}
  (hn:l.most=some n) (hn2:n≤sizeLine) (hdf:d.params.defaults=[]) (hr:Room k callerA)
  (hY:∀ (w:World) (h:Heap),YP w h→(K w.params).In h)
  (F:∀ (w:World) (mg:Str→Option Value) (fa:Addr) (h:Heap),(K w.params).In h→h.Ns mainGlobals mg→mg d.name=some (.ref fa)→
   ∃ fd:FuncData,(∀ (s:Shared) (u:Value),BindsTo s fd ⟨[u],[]⟩ [(x,u)])∧
    ∀ base:Heap,(K w.params).In base→base.Ns mainGlobals mg→FnOk l.prog w (K w.params) mg base (CX w) k fa fd [x] (sp w))
  (hsp:∀ (w:World) (H:Hp) (a:Addr) (ns:List Int),ns.length≤n→Only H→bT (K w.params) H a (ns.map V.int)→sp w [.ref a] H (fun v _=>v=.bl true) fun _ _ _=>False)
  (hCX:∀ (w:World) (H:Hp) (s:Shared) (e:Value) (s':Shared),CX w [] H s (fun _ _ _=>False) e s'→False) :
  PySem.W.WalkO q loose XP YP l.row.toRowW d [] (fun f vs=>PySem.call f vs):=by
 refine Att.attach_call hn hdf fun w s₀ s₁ mg mb fa o pm cd doc a vs ns G Y ho hd hcd hmg hobj hints hlen hg=>?_
 have KX:=hY w _ Y
 obtain⟨fd,hb,hF⟩:=F w mg fa _ KX G.T.g hmg
 exact law_call KX G.T.g G.T.b G.T.builtins G.T.nolimit hg hobj hints (Nat.le_trans hlen hn2) hr hF hb (fun H hO hS=>hsp w H a ns hlen hO hS) fun H e s'=>hCX w H s₁ e s'
end L2
namespace L2
open PySem PySem.Spec PyProof.Rows
noncomputable def bE (s:Stmt):Arguments:=match s with
 | .FunctionDef _ a _ _ _ _ _ _ _ _=>a
 | _=>{ posonlyargs:=[],args:=[],vararg:=none,kwonlyargs:=[],kw_defaults:=[],kwarg:=none,defaults:=[] }
noncomputable def bC (s:Stmt):List Stmt:=match s with
 | .FunctionDef _ _ b _ _ _ _ _ _ _=>b
 | _=>[]
noncomputable def aK (s:Stmt):Scope:=match s with
 | .FunctionDef _ _ _ _ _ _ sc _ _ _=>sc
 | _=>{ kind:=.function,names:=[],isGenerator:=false,isCoroutine:=false }
noncomputable abbrev CX0:CXT:=fun _ _ _ _ _ _=>False
noncomputable abbrev E0:XK:=fun _ _ _=>False
theorem pass0 {X:Cx}:Passes CX0 X E0:=fun _ _ _ _ _ _ _ h=>h.elim
structure Fun (K:PySem.W.Frag) (x qual:Str) (st:Stmt) (f:Addr) (fd:FuncData):Prop where
 ex:∃ (oc:Value) (od:Option Addr) (kV doc pm:Value) (an:Option Addr) (cdv ct:Value) (osl:Array (Option Value)),
  fd=PySem.W.fnOf x qual (bE st) (bC st) (aK st) .none kV doc pm an cdv ct∧K.lookup f=some ⟨oc,od,.func fd,osl⟩∧PySem.W.codeIn K cdv qual=true
 kp:PySem.W.keepIn K (.ref f)=true
section
variable {P:Program}{w:World}{K:PySem.W.Frag}{mg:Str→Option Value}{base:Heap}
theorem Fun.ok {x qual:Str}{st:Stmt}{f:Addr}{fd:FuncData}{N ps:List Str}{k:Nat}{sp:Sp} (F:Fun K x qual st f fd) (S:FnScope N ps (aK st)) (len:∀ vs H Q E,sp vs H Q E→vs.length=ps.length)
  (hbody:∀ (cdv:Value) (A:Around) (outer:List Env) (s:Shared) (H:Hp) (vs:List V) (Q:VK) (E:XK),Room k (A.deeper (envOfC qual (aK st) s.heap.objs.size f cdv))→sp vs H Q E→
   ∃ t,PSs (cxOf CX0 P w K mg base N qual (aK st) f cdv A outer s H E).nox (bC st) t∧t { nx:=fun _ H'=>Q .non H',rt:=Q } (start N vs) H):FnOk P w K mg base CX0 (k+1) f fd ps sp:=by
 obtain⟨oc,od,kV,doc,pm,an,cdv,ct,osl,rfl,lk,hcd⟩:=F.ex
 refine fn_of lk hcd S len fun A outer s H vs Q E hr hsp=>?_
 obtain⟨t,h,q⟩:=hbody cdv A outer s H vs Q E hr hsp
 exact⟨t,h.nox,q⟩
theorem Fun.binds {x qual:Str}{st:Stmt}{f:Addr}{fd:FuncData}{ps:List Str} (F:Fun K x qual st f fd)
  (h:∀ (kV doc pm:Value) (an:Option Addr) (cdv ct:Value) (us:List Value),us.length=ps.length→bindArgs (PySem.W.fnOf x qual (bE st) (bC st) (aK st) .none kV doc pm an cdv ct) ⟨us,[]⟩=pure (ps.zip us)):Binds K fd ps []:=by
 obtain⟨oc,od,kV,doc,pm,an,cdv,ct,osl,rfl,lk,hcd⟩:=F.ex
 exact .all (h kV doc pm an cdv ct)
theorem bY {x qual:Str}{st:Stmt}{f:Addr}{oc:Value}{od an:Option Addr}{osl:Array (Option Value)}{kV doc pm cdv ct:Value} (l:K.lookup f=some ⟨oc,od,.func (PySem.W.fnOf x qual (bE st) (bC st) (aK st) .none kV doc pm an cdv ct),osl⟩)
  (c:PySem.W.codeIn K cdv qual=true) (k:PySem.W.keepIn K (.ref f)=true):Fun K x qual st f (PySem.W.fnOf x qual (bE st) (bC st) (aK st) .none kV doc pm an cdv ct):=⟨⟨oc,od,kV,doc,pm,an,cdv,ct,osl,rfl,l,c⟩,k⟩
end
theorem hu_of {A:Around}{k:Nat} (hr:Room k A):A.units+1 < cLine:=Nat.lt_of_le_of_lt (Nat.add_le_add_left (by decide:1≤64) _) hr.units
theorem aN {n:Nat} (h:n≤1000):n < sizeLine:=Nat.lt_of_le_of_lt h (by decide)
section
variable {X:Cx}
theorem pv (i:Nat) {x:Str}{pos:Pos} (hN:X.N[i]? = some x:=by rfl) (hv:Vis X.env.scope x:=by first | exact Or.inl rfl | exact Or.inr (Or.inl rfl) | exact Or.inr (Or.inr rfl)) (hd:(x == ("__debug__" : Str))=false:=by decide)
  (hcd:(x == ("__classdict__" : Str))=false:=by decide):PE X (.Name x pos) (cL i):=pe_var hN hv hd hcd
end
theorem cG {A B:Prop} (h:B):if false=true then A else B:=by
 rw[if_neg Bool.false_ne_true]
 exact h
theorem iteT {A B:Prop} (h:A):if true=true then A else B:=by
 rw[if_pos rfl]
 exact h
theorem ite2 {c A B:Prop} [Decidable c] (h1:c→A) (h2:¬ c→B):if c then A else B:=by
 by_cases h:c
 ·rw[if_pos h]
  exact h1 h
 ·rw[if_neg h]
  exact h2 h
theorem iteNS {c A B:Prop} [Decidable c] (hc:c) (h:B):if (!decide c)=true then A else B:=by
 rw[decide_eq_true hc]
 exact cG h
noncomputable def aJ (H H':Hp):Prop:=∀ b o,H b=some o→H' b=some o
theorem aJ.refl (H:Hp):aJ H H:=fun _ _ h=>h
theorem aJ.trans {H H1 H2:Hp} (a:aJ H H1) (b:aJ H1 H2):aJ H H2:=fun c o h=>b c o (a c o h)
theorem aJ.free {H H':Hp} (e:aJ H H') {l:Addr} (h:H' l=Option.none):H l=Option.none:=by
 cases q:H l with
 | none=>rfl
 | some o=>
  rw[e l o q] at h
  cases h
end L2
set_option maxHeartbeats 0
namespace L2
open PySem PySem.Spec PyProof.Rows
theorem lookup_relabel_free {env:Env} (hk:env.scope.kind=.function):∀ {names:List (Str×NameKind)}{x:Str},names.lookup x=some .free→env.kindOf x=some .cell→
  (names.map fun (n,k)=>if (k == NameKind.free && env.scope.kind == .function && env.kindOf n == some .cell) then (n,NameKind.cell) else (n,k)).lookup x=some .cell
 | [],_,h,_=>by simp at h
 | (n,k)::r,x,h,hc=>by
  have ih:=@lookup_relabel_free env hk r x
  show List.lookup x ((if (k == NameKind.free && env.scope.kind == .function && env.kindOf n == some .cell)=true then (n,NameKind.cell) else (n,k))::_)=_
  cases hx:x == n with
  | true=>
   simp only [List.lookup_cons,hx] at h
   cases h
   have e:x=n:=by simpa using hx
   subst e
   rw[if_pos (by rw[hk,hc];decide)]
   simp [List.lookup_cons]
  | false=>
   simp only [List.lookup_cons,hx] at h
   by_cases hq:(k == NameKind.free && env.scope.kind == .function && env.kindOf n == some .cell)=true
   ·rw[if_pos hq];simp only [List.lookup_cons,hx];exact ih h hc
   ·rw[if_neg hq];simp only [List.lookup_cons,hx];exact ih h hc
noncomputable def ClOk (env:Env):List (Str×Addr)→Prop
 | []=>True
 | p::r=>env.cells.lookup p.1=some p.2∧ClOk env r
theorem ClOk.get {env:Env}:∀ {cl:List (Str×Addr)},ClOk env cl→∀ x c,cl.lookup x=some c→env.cells.lookup x=some c
 | [],_,_,_,e=>by simp at e
 | (n,a)::r,h,x,c,e=>by
  cases hx:x == n with
  | true=>
   simp only [List.lookup_cons,hx] at e
   cases e
   have e':x=n:=by simpa using hx
   subst e'
   exact h.1
  | false=>
   simp only [List.lookup_cons,hx] at e
   exact ClOk.get h.2 x c e
noncomputable def FrOk (X:Cx) (scope:Scope) (N':List Str):List (Option Nat)→Nat→Prop
 | [],_=>True
 | none::r,i=>FrOk X scope N' r (i+1)
 | some j::r,i=>(∃ x,N'[i]? = some x∧X.N[j]? = some x∧scope.names.lookup x=some .free∧X.env.kindOf x=some .cell)∧FrOk X scope N' r (i+1)
theorem FrOk.get {X:Cx}{scope:Scope}{N':List Str}:∀ {fr:List (Option Nat)}{k:Nat},FrOk X scope N' fr k→∀ i j,fr[i]? = some (some j)→
  ∃ x,N'[k+i]? = some x∧X.N[j]? = some x∧scope.names.lookup x=some .free∧X.env.kindOf x=some .cell
 | [],_,_,i,j,e=>by simp at e
 | none::r,k,h,0,j,e=>by simp at e
 | some _::r,k,h,0,j,e=>by simp at e;subst e;exact h.1
 | none::r,k,h,i+1,j,e=>by
  have:=FrOk.get (k:=k+1) (show FrOk X scope N' r (k+1) from h) i j (by simpa using e)
  rwa [Nat.add_right_comm] at this
 | some _::r,k,h,i+1,j,e=>by
  have:=FrOk.get (k:=k+1) h.2 i j (by simpa using e)
  rwa [Nat.add_right_comm] at this
structure LcOk (X:Cx) (scope:Scope) (cl:List (Str×Addr)) (N':List Str) (fr:List (Option Nat)):Prop where
 clos:closureFor scope X.env=pure cl
 cls:ClOk X.env cl
 kind:scope.kind=.function
 nocell:(scope.names.all fun p=>p.2 != NameKind.cell)=true
 locs:(scope.names.all fun p=>p.2 != NameKind.local || scope.names.lookup p.1 == some NameKind.local)=true
 frees:(scope.names.all fun p=>p.2 != NameKind.free || (cl.lookup p.1).isSome)=true
 len:fr.length=N'.length
 fr:FrOk X scope N' fr 0
noncomputable def frσ (fr:List (Option Nat)) (σ:St):St:=fr.map fun o=>o.bind fun j=>(σ[j]?).join
noncomputable def cxC (X:Cx) (N':List Str) (scope:Scope) (cl:List (Str×Addr)) (fp:List Addr) (s:Shared) (H:Hp):Cx:=
 { X with N:=N',s₀:=s,H₀:=H,env:=compEnvC scope cl s.heap.objs.size X.env,outer:=X.stack,ex:=fp,fn:=fun _=>false,pn:=[] }
noncomputable def PIf (X:Cx) (ifs:List Expr) (t:TT):Prop:=
 ∀ (pins:List (Addr×Obj)) (s:Shared) (σ:St) (H:Hp) (Q:Bool→Hp→Prop),Inv X pins σ H s→t σ H Q→
  wpAny (model X.prog X.w) X.A (forIn ifs true fun c r=>if r=true then do let ok ← isTrue c X.env (eval c X.env);pure (ForInStep.yield ok) else pure (ForInStep.yield r)) (TP X pins σ Q) X.xe s
noncomputable def tYes:TT:=fun _ H Q=>Q true H
theorem cR {X:Cx}:PIf X [] tYes:=fun _ _ _ H _ I h=>wpAny_tests_nil ⟨H,I,h⟩
theorem pif_one {X:Cx}{c:Expr}{t:TT} (h:PT X c t):PIf X [c] t:=fun pins s σ H Q I hw=>wpAny_tests_one (h pins s σ H Q I hw)
noncomputable def lcRest (J:It) (g:TG) (tc:TT) (te:TE) (fr:List (Option Nat)) (σ:St) (H1:Hp) (Q:Addr→Hp→Prop):Prop:=
 ∀ D,H1 D=none→∃ W:Nat→Nat→List V→St→Hp→Prop,(∃ m,W 0 m [] (frσ fr σ) (upd H1 D (.lst [])))∧
  ∀ i m ys σ' H',W i m ys σ' H'→(J.stop i H'∧Q D H')∨
   (J.go i H'∧∃ N:List V→St→Hp→Prop,(∀ ys' σ'' H'',N ys' σ'' H''→∃ m',m' < m∧W (i+1) m' ys' σ'' H'')∧
    ∀ x H2,J.yld i H' x H2→g x σ' H2 fun σ3 H3=>tc σ3 H3 fun b H4=>
    if b=true then te σ3 H4 fun y H5=>H5 D=some (.lst ys)∧ys.length < sizeLine∧N (ys++[y]) σ3 (upd H5 D (.lst (ys++[y])))
    else N ys σ3 H4)
theorem lc_gen {J:It}{n:Nat}{g:TG}{tc:TT}{te:TE}{fr:List (Option Nat)}{σ:St}{H1:Hp}{Q:Addr→Hp→Prop} (Pv:Addr→Nat→List V→St→Hp→Prop)
  (h0:∀ D,H1 D=none→Pv D 0 [] (frσ fr σ) (upd H1 D (.lst [])))
  (hstop:∀ D ys σ' H',Pv D n ys σ' H'→J.stop n H'∧Q D H')
  (hgo:∀ D i ys σ' H',i < n→Pv D i ys σ' H'→J.go i H'∧∀ x H2,J.yld i H' x H2→g x σ' H2 fun σ3 H3=>tc σ3 H3 fun b H4=>
    if b=true then te σ3 H4 fun y H5=>H5 D=some (.lst ys)∧ys.length < sizeLine∧Pv D (i+1) (ys++[y]) σ3 (upd H5 D (.lst (ys++[y])))
    else Pv D (i+1) ys σ3 H4):lcRest J g tc te fr σ H1 Q:=by
 intro D hD
 refine⟨fun i m ys σ H=>m=n - i∧i≤n∧Pv D i ys σ H,⟨n,by simp,Nat.zero_le _,h0 D hD⟩,?_⟩
 rintro i m ys σ' H' ⟨rfl,hi,p⟩
 by_cases hlt:i < n
 ·obtain⟨go,step⟩:=hgo D i ys σ' H' hlt p
  exact .inr ⟨go,Pv D (i+1),fun ys' σ'' H'' p'=>⟨n - (i+1),by omega,rfl,hlt,p'⟩,step⟩
 ·have e:i=n:=by omega
  subst e
  exact .inl (hstop D ys σ' H' p)
theorem for_gen {J:It}{n:Nat}{g:TG}{tb:TS}{D:Ends}{σ:St}{H:Hp} (Pv:Nat→St→Hp→Prop) (h0:Pv 0 σ H) (hstop:∀ σ H,Pv n σ H→J.stop n H∧D.nx σ H)
  (hgo:∀ i σ H,i < n→Pv i σ H→J.go i H∧∀ x H',J.yld i H x H'→g x σ H' fun σ2 H2=>tb { D with nx:=Pv (i+1),ct:=Pv (i+1),bk:=D.nx } σ2 H2) :
  ∃ W:Nat→Nat→St→Hp→Prop,(∃ m,W 0 m σ H)∧∀ i m σ H,W i m σ H→
   (J.stop i H∧D.nx σ H)∨(J.go i H∧∃ N:St→Hp→Prop,(∀ σ' H',N σ' H'→∃ m',m' < m∧W (i+1) m' σ' H')∧∀ x H',J.yld i H x H'→g x σ H' fun σ2 H2=>tb { D with nx:=N,ct:=N,bk:=D.nx } σ2 H2):=by
 refine⟨fun i m σ H=>m=n - i∧i≤n∧Pv i σ H,⟨n,by simp,Nat.zero_le _,h0⟩,?_⟩
 rintro i m σ H ⟨rfl,hi,p⟩
 by_cases hlt:i < n
 ·obtain⟨go,step⟩:=hgo i σ H hlt p
  exact .inr ⟨go,Pv (i+1),fun σ' H' p'=>⟨n - (i+1),by omega,rfl,hlt,p'⟩,step⟩
 ·have e:i=n:=by omega
  subst e
  exact .inl (hstop σ H p)
noncomputable def tLC (wi:TI) (fr:List (Option Nat)) (g:TG) (tc:TT) (te:TE):TE:=fun σ H Q=>wi σ H fun J H1=>lcRest J g tc te fr σ H1 fun D H'=>Q (.ref D) H'
section
variable {prog:Program}{w:World}{A:Around}{R:Result→Shared→Prop}{s:Shared}
theorem compLoop_any {elt target iter:Expr}{ifs:List Expr}{scope:Scope}{pos:Pos}{it acc:Value}{env:Env} (I:Nat→Shared→Prop)
  (turn:∀ n s,I n s→wpAny (model prog w) A (pyNext it) (fun r s₁=>match r with
   | none=>R (.ok .next) s₁
   | some v=>wpAny (model prog w) A (letOwnedTupleGo target it v) (fun _ s₁'=>wpAny (model prog w) A (assign target env v) (fun _ s₂=>
     wpAny (model prog w) A (forIn ifs true fun c r=>if r=true then do let ok ← isTrue c env (eval c env);pure (ForInStep.yield ok) else pure (ForInStep.yield r)) (fun ok s₃=>
      if ok=true then wpAny (model prog w) A (eval elt env) (fun x s₄=>
       wpAny (model prog w) A (call (.builtin "list.append") [acc,x]) (fun _ s₅=>∃ m,m < n∧I m s₅) (notedBy (model prog w) A env fun e s'=>R (.error e) s') s₄) (notedBy (model prog w) A env fun e s'=>R (.error e) s') s₃
      else ∃ m,m < n∧I m s₃) (notedBy (model prog w) A env fun e s'=>R (.error e) s') s₂) (notedBy (model prog w) A env fun e s'=>R (.error e) s') s₁') (notedBy (model prog w) A env fun e s'=>R (.error e) s') s₁)
    (notedBy (model prog w) A env fun e s'=>R (.error e) s') s)
  (n:Nat) (h:I n s) :
  codeAny (model prog w) A (.compLoop (.ListComp elt [⟨target,iter,ifs,0⟩] scope pos) 0 it acc env) R s:=by
 refine codeAny_loop rfl I (fun n s hI=>?_) n h
 show wpAny _ A ((compTurn (.ListComp elt [⟨target,iter,ifs,0⟩] scope pos) 0 it acc env).onRaise (fun x=>do noteFrame x env;theTreesLotGoes x)) _ _ s
 refine wpAny_noted ?_
 rw[compTurn_list]
 refine wpAny_bind (wpAny_standAt (wpAny_bind (wpAny_mono (turn n s hI) (fun r s₁ h₁=>?_) fun _ _ h'=>h')))
 cases r with
 | none=>exact wpAny_pure h₁
 | some v=>
  refine wpAny_bind (wpAny_mono h₁ (fun _ s₁' h₁'=>?_) fun _ _ h'=>h')
  refine wpAny_bind (wpAny_mono h₁' (fun _ s₂ h₂=>wpAny_bind (wpAny_mono h₂ (fun ok s₃ h₃=>?_) fun _ _ h'=>h')) fun _ _ h'=>h')
  cases ok with
  | false=>exact wpAny_pure ⟨rfl,h₃⟩
  | true=>
   exact wpAny_bind (wpAny_bind (wpAny_mono h₃ (fun x s₄ h₄=>wpAny_bind (wpAny_mono h₄ (fun _ s₅ h₅=>wpAny_pure (wpAny_pure ⟨rfl,h₅⟩)) fun _ _ h'=>h')) fun _ _ h'=>h'))
end
section
variable {X:Cx}
theorem LcOk.invC {scope:Scope}{cl:List (Str×Addr)}{N':List Str}{fr:List (Option Nat)}{pins:List (Addr×Obj)}{σ:St}{H:Hp}{s:Shared}{h1:Heap}{fp:List Addr}{m1:Str→Option Value}{tk:Nat}
  (S:LcOk X scope cl N' fr) (I:Inv X pins σ H s) (hf:∀ b∈fp,FpOk X pins H b) (hfo:∀ b∈fp,b < s.heap.objs.size)
  (k:∀ b o,s.heap.get? b=some o→h1.get? b=some o) (hn:h1.Ns s.heap.objs.size m1):Inv (cxC X N' scope cl fp s H) [] (frσ fr σ) H { s with heap:=h1,toks:=tk }:=by
 have hfree:=S.frees
 have hcell:=S.nocell
 rw[List.all_eq_true] at hfree hcell
 have fresh:H s.heap.objs.size=none:=I.hok.fresh (Nat.le_refl _)
 have clg:=S.cls.get
 refine⟨⟨I.ok.mod,S.kind,I.ok.glob,I.ok.blt,Nat.le_refl _,fun x y c e1 e2=>I.ok.inj x y c (clg x c e1) (clg y c e2),fun x hx=>?_,(fun x c e=>nomatch e),I.ok.hd,I.ok.frames,.inl rfl,fun b hb=>⟨Nat.ne_of_lt (hfo b hb),fun x c e=>(hf b hb).2.2.2.2.1 x c (clg x c e)⟩,
  I.bs,Nat.le_trans I.ok.bsz I.sz,fun b o e hb=>?_,fun b hb hz=>?_,I.stack,I.stkFree⟩,rfl,I.bare,Un.kept k,⟨m1,hn,fun i x v e1 e2 e3=>?_⟩,fun x c e=>?_,fresh,fun x c e=>I.freeC x c (clg x c e),fun p hp=>absurd (show p∈([]:List (Addr×Obj)) from hp) (by simp),I.hok.kept k,?_⟩
 ·
  have hm:∃ k',(x,k')∈scope.names∧k'=NameKind.free:=by
   have hx':(relabel scope X.env).names.lookup x=some .cell∨(relabel scope X.env).names.lookup x=some .free:=hx
   obtain⟨k',e,hk'⟩:∃ k',(relabel scope X.env).names.lookup x=some k'∧(k'=.cell∨k'=.free):=by
    rcases hx' with e | e
    ·exact⟨_,e,.inl rfl⟩
    ·exact⟨_,e,.inr rfl⟩
   have hmem:=PySem.mem_of_lookup e
   obtain⟨⟨n,kn⟩,hp,he⟩:=List.mem_map.mp hmem
   dsimp only at he
   split at he
   ·rename_i hc
    cases he
    have:kn=.free:=by
     simp only [Bool.and_eq_true,beq_iff_eq] at hc
     exact hc.1.1
    exact⟨kn,hp,this⟩
   ·cases he
    rcases hk' with e' | e'
    ·subst e'
     have:=hcell _ hp
     simp at this
    ·exact⟨_,hp,e'⟩
  obtain⟨k',hp,rfl⟩:=hm
  have:=hfree _ hp
  simp only [bne_self_eq_false,Bool.false_or] at this
  exact Option.isSome_iff_exists.mp this
 ·rcases (hf b hb).2.2.2.1 with z | z
  ·exact I.ok.noex b o e z
  ·have:=Heap.lt_size e
   exact absurd (Nat.lt_of_lt_of_le this (Nat.le_trans I.ok.bsz z)) (Nat.lt_irrefl _)
 ·obtain⟨_,f1,f2,_⟩:=hf b hb
  rcases List.mem_cons.mp (I.stkSub b hz) with e | e
  ·exact f1 e
  ·exact f2 e
 ·
  unfold frσ at e2
  rw[List.getElem?_map] at e2
  cases ef:fr[i]? with
  | none=>rw[ef] at e2;cases e2
  | some o=>
   rw[ef] at e2
   cases o with
   | none=>simp at e2
   | some j=>
    have e2':(σ[j]?).join=some v:=by simpa using e2
    obtain⟨x',h1',h2',h3',h4'⟩:=S.fr.get i j ef
    rw[Nat.zero_add] at h1'
    have ex:x'=x:=by
     have:N'[i]? = some x:=e1
     rw[h1'] at this
     exact Option.some.inj this
    subst ex
    have e2'':σ[j]? = some (some v):=by
     cases q:σ[j]? with
     | none=>rw[q] at e2';cases e2'
     | some z=>rw[q] at e2';simp at e2';rw[e2']
    obtain⟨m,hm,hl⟩:=I.loc
    obtain⟨u,r,lk⟩:=hl j x' v h2' e2'' (.inr (.inl h4'))
    refine⟨u,r,?_⟩
    rcases lk with ⟨q,_⟩ | ⟨_,c,hc,z⟩
    ·rw[h4'] at q;cases q
    ·have hcl:∃ c',cl.lookup x'=some c':=by
      have:=hfree _ (PySem.mem_of_lookup h3')
      simp only [bne_self_eq_false,Bool.false_or] at this
      exact Option.isSome_iff_exists.mp this
     obtain⟨c',hc'⟩:=hcl
     have e':=clg x' c' hc'
     rw[hc] at e'
     cases e'
     obtain⟨oc,hoc,hd⟩:=z
     refine .inr ⟨.inl ?_,c,hc',oc,k c oc hoc,hd⟩
     exact lookup_relabel_free I.ok.kind h3' h4'
 ·obtain⟨v,oc,hoc,hd⟩:=I.cell x c (clg x c e)
  exact⟨v,oc,k c oc hoc,hd⟩
 ·show (frσ fr σ).length=N'.length
  unfold frσ
  rw[List.length_map,S.len]
theorem Inv.outC {scope:Scope}{cl:List (Str×Addr)}{N':List Str}{pins pins':List (Addr×Obj)}{σ σ':St}{H H':Hp}{s s':Shared}{fp:List Addr} (I:Inv X pins σ H s) (J:Inv (cxC X N' scope cl fp s H) pins' σ' H' s')
  (hf:∀ b∈fp,FpOk X pins H b):Inv X pins σ H' s':=
 I.call' (ch:=fp) J.os J.base J.hok J.bare fun b hb=>by
  obtain⟨_,f1,_,f3,f4,f5⟩:=hf b hb
  exact⟨f3,f1,f4,f5⟩
theorem Inv.letgo {pins:List (Addr×Obj)}{σ:St}{H:Hp}{s:Shared}{C:Addr}{h':Heap} (I:Inv X pins σ H s) (f:FpOk X pins H C) (hsb:Heap.SameBut C s.heap h'):Inv X pins σ H { s with heap:=h' }:=by
 obtain⟨f0,f1,f2,f3,f4,f5⟩:=f
 exact I.turned (t':=s.toks) (it:=C) (h':=h') (fun b o hb e=>(hsb.2 b hb).trans e) f0 f1 f3 f4 f5
theorem lc_block {elt tg iter:Expr}{ifs:List Expr}{scope:Scope}{pos:Pos}{N':List Str}{fr:List (Option Nat)}{cl:List (Str×Addr)}{g:TG}{tc:TT}{te:TE}
  {pins:List (Addr×Obj)}{σ:St}{H:Hp}{s:Shared}{J:It}{fp:List Addr}{it:Addr}{tn:Nat→Heap→Prop}{Q:Addr→Hp→Prop}{RR:Value→Addr→Result→Shared→Prop}{E:Value→Shared→Prop}
  (hx:∀ e s,¬ X.xe e s) (hc:X.calm=true) (S:LcOk X scope cl N' fr)
  (hg:∀ fp s H,PG (cxC X N' scope cl fp s H) tg g) (ht:∀ fp s H,PIf (cxC X N' scope cl fp s H) ifs tc) (he:∀ fp s H,PE (cxC X N' scope cl fp s H) elt te)
  (I:Inv X pins σ H s) (T:Turn X.prog X.w X.K tg J fp it tn) (st:tn 0 s.heap) (hf:∀ b∈fp,FpOk X pins H b) (h:lcRest J g tc te fr σ H Q)
  (hRR:∀ D C H' s' m',Inv X pins σ H' s'→Q D H'→s'.heap.Ns C m'→FpOk X pins H' C→RR (.ref D) C (.ok .next) s') :
  wpAny (model X.prog X.w) X.A (newList []) (fun acc s₃=>wpAny (model X.prog X.w) X.A (newFunctionEnv scope X.env.globals cl [] X.env.qual none .none (some X.env)) (fun cenv s₄=>
   codeAny (model X.prog X.w) X.A (.compStart (.ListComp elt [⟨tg,iter,ifs,0⟩] scope pos) 0 (.ref it) acc { cenv with scope:=relabel scope X.env }) (RR acc cenv.locals) s₄) E s₃) E s:=by
 have hcell:=S.nocell
 rw[List.all_eq_true] at hcell
 refine wpAny_newObj_type (wpAny_newFunctionEnv (fun x hx'=>by simpa using hcell x hx') (by intro y hy;simp at hy) (fun h₁ hns₁ hsb₁=>?_) S.kind)
 dsimp only at hns₁ hsb₁ ⊢
 have fresh:H s.heap.objs.size=none:=I.hok.fresh (Nat.le_refl _)
 have I3:Inv X pins σ (upd H s.heap.objs.size (.lst [])) { s with heap:=s.heap.push { cls:=.type "list",data:=.seq ([]:List Value).toArray },toks:=s.toks }:=I.lnew (ys:=[]) (its:=[]) .nil (Nat.zero_le _)
 have hf3:∀ b∈fp,FpOk X pins (upd H s.heap.objs.size (.lst [])) b:=fun b hb=>by
  obtain⟨o,ho,_⟩:=T.obj _ _ st b hb
  exact⟨by rw[aO (Nat.ne_of_lt (Heap.lt_size ho))];exact (hf b hb).1,(hf b hb).2⟩
 generalize hs3:({ s with heap:=s.heap.push { cls:=.type "list",data:=.seq ([]:List Value).toArray },toks:=s.toks }:Shared)=s3 at I3
 have e3:s3.heap=s.heap.push { cls:=.type "list",dict:=none,data:=.seq ([]:List Value).toArray }:=by rw[← hs3]
 have e3s:({ s with heap:=s.heap.push { cls:=.type "list",dict:=none,data:=.seq ([]:List Value).toArray } }:Shared)=s3:=hs3
 have hsz3:s3.heap.objs.size=s.heap.objs.size+1:=by rw[e3,Heap.size_push]
 have hfo:∀ b∈fp,b < s3.heap.objs.size:=fun b hb=>by
  obtain⟨o,ho,_⟩:=T.obj _ _ st b hb
  rw[hsz3]
  exact Nat.lt_succ_of_lt (Heap.lt_size ho)
 rw[← e3] at hns₁ hsb₁ ⊢
 have old3:∀ b o,s3.heap.get? b=some o→h₁.get? b=some o:=fun b o e=>hsb₁.extBut b o (Nat.ne_of_lt (Heap.lt_size e)) (Heap.get?_push_of_some _ e)
 have old:∀ b o,s.heap.get? b=some o→s3.heap.get? b=some o:=fun b o e=>by rw[e3];exact Heap.get?_push_of_some _ e
 have I4:=S.invC (tk:=s3.toks) I3 hf3 hfo old3 hns₁
 obtain⟨W,⟨m0,w0⟩,turn⟩:=h s.heap.objs.size fresh
 have stat:∀ {H':Hp},(∀ b∈fp,H' b=none)→∀ b∈fp,FpOk (cxC X N' scope cl fp s3 (upd H s.heap.objs.size (.lst []))) [] H' b:=fun hn b hb=>by
  refine⟨hn b hb,Nat.ne_of_lt (hfo b hb),?_,.inl hb,fun x c e=>(hf b hb).2.2.2.2.1 x c (S.cls.get x c e),fun p hp=>absurd (show p∈([]:List (Addr×Obj)) from hp) (by simp)⟩
  intro hz
  obtain⟨_,f1,f2,_⟩:=hf b hb
  rcases List.mem_cons.mp (I.stkSub b hz) with e | e
  ·exact f1 e
  ·exact f2 e
 have loop:∀ s4:Shared,s4={ s3 with heap:=h₁,toks:=s3.toks }→
   codeAny (model X.prog X.w) X.A (.compLoop (.ListComp elt [⟨tg,iter,ifs,0⟩] scope pos) 0 (.ref it) (.ref s.heap.objs.size) (compEnvC scope cl s3.heap.objs.size X.env)) (RR (.ref s.heap.objs.size) s3.heap.objs.size) s4:=by
  intro s4 hs4
  refine compLoop_any (fun n s'=>∃ i ys σ' H',Inv (cxC X N' scope cl fp s3 (upd H s.heap.objs.size (.lst []))) [] σ' H' s'∧tn i s'.heap∧(∀ b∈fp,H' b=none)∧W i n ys σ' H') ?_ m0
   ⟨0,[],frσ fr σ,_,by rw[hs4];exact I4,by rw[hs4];exact T.keep _ _ _ st fun b _ o e=>old3 b o (old b o e),fun b hb=>(hf3 b hb).1,w0⟩
  rintro n s5 ⟨i,ys,σ5,H5,I5,st5,fr5,w5⟩
  rcases turn i n ys σ5 H5 w5 with ⟨stop,qn⟩ | ⟨go,N,hN,step⟩
  ·refine bZ (T.done (cxC X N' scope cl fp s3 (upd H s.heap.objs.size (.lst []))) rfl rfl rfl hc i [] s5 σ5 H5 _ I5 (stat fr5) st5 stop) fun r s6 ⟨hr,I6⟩=>?_
   subst hr
   obtain⟨m',hm',_⟩:=I6.loc
   exact hRR _ _ H5 s6 m' (I3.outC I6 hf3) qn hm' (I3.fpOk (Nat.le_refl _) I6.free)
  ·refine bZ (T.item (cxC X N' scope cl fp s3 (upd H s.heap.objs.size (.lst []))) rfl rfl rfl hc i [] s5 σ5 H5 _ I5 (stat fr5) st5 go) fun r s6 ⟨u,hr,h6⟩=>?_
   subst hr
   refine bZ h6 fun _ s7 ⟨x,H7,I7,r7,y7,st7,fr7⟩=>?_
   have I7':=I7.pinned (stat fr7) (T.obj _ _ st7)
   refine wpAny_mono (hg fp s3 _ _ s7 σ5 H7 x u _ I7' r7 (step x H7 y7)) (fun _ s8 ⟨σ8,H8,I8,q8⟩=>?_) fun e s' z=>(hx e s' z).elim
   refine wpAny_mono (ht fp s3 _ _ s8 σ8 H8 _ I8 q8) (fun ok s9 ⟨H9,I9,q9⟩=>?_) fun e s' z=>(hx e s' z).elim
   have again:∀ {s10:Shared}{H10:Hp}{ys':List V},Inv (cxC X N' scope cl fp s3 (upd H s.heap.objs.size (.lst []))) ([]++pinsAt fp s7.heap) σ8 H10 s10→N ys' σ8 H10→
     ∃ m,m < n∧∃ i ys σ' H',Inv (cxC X N' scope cl fp s3 (upd H s.heap.objs.size (.lst []))) [] σ' H' s10∧tn i s10.heap∧(∀ b∈fp,H' b=none)∧W i m ys σ' H':=fun {s10 H10 ys'} I10 n10=>by
    obtain⟨m',hm,w10⟩:=hN ys' σ8 H10 n10
    refine⟨m',hm,i+1,ys',σ8,H10,I10.unpinned,T.keep _ _ _ st7 fun b hb o e=>(I10.pin (b,o) (List.mem_append_right _ (List.mem_append_right _ (mem_pinsAt hb e)))).1,fun b hb=>?_,w10⟩
    obtain⟨o,e,d⟩:=T.obj _ _ st7 b hb
    exact (I10.pin (b,o) (List.mem_append_right _ (List.mem_append_right _ (mem_pinsAt hb e)))).2.1
   cases ok with
   | false=>
    rw[if_neg Bool.false_ne_true] at q9 ⊢
    exact again I9 q9
   | true=>
    rw[if_pos rfl] at q9 ⊢
    refine wpAny_mono (he fp s3 _ _ s9 σ8 H9 _ I9 q9) (fun y s10 ⟨yv,H10,I10,r10,hD,hlen,q10⟩=>?_) fun e s' z=>(hx e s' z).elim
    refine wpAny_mono (cX (X:=cxC X N' scope cl fp s3 (upd H s.heap.objs.size (.lst []))) _ s10 σ8 H10 (.ref s.heap.objs.size) [yv] (.ref s.heap.objs.size) [y] (fun _ H11=>H11=upd H10 s.heap.objs.size (.lst (ys++[yv]))) I10 rfl (.cons r10 .nil)
     ⟨_,ys,yv,rfl,rfl,hD,hlen,rfl⟩) (fun _ s11 ⟨_,H11,I11,_,e11⟩=>?_) fun e s' z=>(hx e s' z).elim
    subst e11
    exact again I11 q10
 exact codeAny_compStart_list (loop _ (by rw[← e3s];rfl)) (T.self X.A 0 _ _ _ (T.keep _ _ _ st fun b _ o e=>old3 b o (old b o e)) (loop _ (by rw[← e3s];rfl)))
theorem pe_lc {elt tg iter:Expr}{ifs:List Expr}{scope:Scope}{pos:Pos}{N':List Str}{fr:List (Option Nat)}{cl:List (Str×Addr)}{wi:TI}{g:TG}{tc:TT}{te:TE}
  (hx:∀ e s,¬ X.xe e s) (hc:X.calm=true) (S:LcOk X scope cl N' fr) (hi:PI X tg iter wi)
  (hg:∀ fp s H,PG (cxC X N' scope cl fp s H) tg g) (ht:∀ fp s H,PIf (cxC X N' scope cl fp s H) ifs tc) (he:∀ fp s H,PE (cxC X N' scope cl fp s H) elt te)
  (hs:∀ x,foldedSetIterable iter X.env x=pure x:=by intro _;rfl):PE X (.ListComp elt [⟨tg,iter,ifs,0⟩] scope pos) (tLC wi fr g tc te):=by
 intro pins s σ H Q I h
 have hloc:=S.locs
 rw[List.all_eq_true] at hloc
 rw[eval_ListComp]
 refine wpAny_comprehension_free (use:=none) rfl hs S.clos S.kind (fun x hx' hl=>by have:=hloc x hx';rw[hl] at this;simpa using this) (bZ (hi pins s σ H _ I h) fun v s1 h1=>bZ h1 fun itv s2 h2=>?_)
 obtain⟨it,fp,tn,J,H2,e,I2,T,st2,f2,rest⟩:=h2
 subst e
 refine lc_block (RR:=fun acc C=>compPost (model X.prog X.w) X.A X.xe none (EP X pins σ Q) acc C) hx hc S hg ht he I2 T st2 f2 rest ?_
 intro D C H' s' m' I' q hn f
 exact⟨m',hn,fun h' hsb=>⟨.ref D,H',I'.letgo f hsb,rfl,q⟩⟩
theorem ps_set_lc {i:Nat}{y:Str}{py:Pos}{spos:Pos}{elt tg iter:Expr}{ifs:List Expr}{scope:Scope}{pos:Pos}{N':List Str}{fr:List (Option Nat)}{cl:List (Str×Addr)}{wi:TI}{g:TG}{tc:TT}{te:TE}
  (hN:X.N.Nodup) (hy:X.N[i]? = some y) (hk:X.env.scope.names.lookup y=some .local)
  (hx:∀ e s,¬ X.xe e s) (hc:X.calm=true) (S:LcOk X scope cl N' fr) (hi:PI X tg iter wi)
  (hg:∀ fp s H,PG (cxC X N' scope cl fp s H) tg g) (ht:∀ fp s H,PIf (cxC X N' scope cl fp s H) ifs tc) (he:∀ fp s H,PE (cxC X N' scope cl fp s H) elt te)
  (hsw:swapsWith (.ListComp elt [⟨tg,iter,ifs,0⟩] scope pos) (some (.Name y py)) spos.line X.env=pure true:=by rfl)
  (hs:∀ x,foldedSetIterable iter X.env x=pure x:=by intro _;rfl):PS X (.Assign [.Name y py] (.ListComp elt [⟨tg,iter,ifs,0⟩] scope pos) spos) (tAsg (tLC wi fr g tc te) (cY i)):=by
 intro pins s σ H D I h
 have hloc:=S.locs
 rw[List.all_eq_true] at hloc
 rw[exec_Assign_Name_used _ _ _ _ hsw]
 refine wpAny_bind (wpAny_standAt (wpAny_bind ?_))
 show wpAny _ X.A (do let _ ← comprehension (.ListComp elt [⟨tg,iter,ifs,0⟩] scope pos) scope X.env _ (newList []) false (eval iter X.env) (some (assign (.Name y py) X.env))) _ _ s
 refine wpAny_bind (wpAny_mono (wpAny_comprehension_free (use:=some (assign (.Name y py) X.env)) (Q:=fun _ s'=>SP X pins D .next s') rfl hs S.clos S.kind (fun x hx' hl=>by have:=hloc x hx';rw[hl] at this;simpa using this)
  (bZ (hi pins s σ H _ I h) fun v s1 h1=>bZ h1 fun itv s2 h2=>?_)) (fun _ s' hq=>wpAny_pure (wpAny_pure hq)) fun _ _ e=>e)
 obtain⟨it,fp,tn,J,H2,e,I2,T,st2,f2,rest⟩:=h2
 subst e
 refine lc_block (RR:=fun acc C=>compPost (model X.prog X.w) X.A X.xe (some (assign (.Name y py) X.env)) (fun _ s'=>SP X pins D .next s') acc C) hx hc S hg ht he I2 T st2 f2 rest ?_
 intro Da C H' s' m' I' q hn f
 show wpAny _ X.A (assign (.Name y py) X.env (.ref Da)) _ _ _
 refine wpAny_assign_Name (store_ok2 I' hN hy (.inl hk) (v:=.ref Da) rfl (fun s'' I'' hch=>?_) (.inr hk))
 obtain⟨a,hsb,ha⟩:=hch
 have haC:a≠C:=by
  rcases ha with e | e
  ·rw[e];exact Ne.symm f.2.1
  ·exact f.2.2.2.2.1 _ _ e
 exact⟨m',hn.sameBut hsb (Ne.symm haC),fun h' hs'=>⟨_,H',I''.letgo f hs',q⟩⟩
end
end L2
namespace TwZ
open PySem
open Sem (wp)
noncomputable def IsIt (h:Heap) (t:Bool) (it a:Addr) (i:Nat):Prop:=if t=true then h.IsTupleIter it a i else h.IsListIter it a i
noncomputable def IsSrc (h:Heap) (t:Bool) (a:Addr) (items:Array Value):Prop:=if t=true then h.IsTuple a items else h.IsList a items
theorem IsIt.at {h h':Heap}{t:Bool}{it a:Addr}{i:Nat} (x:IsIt h t it a i) (k:∀ o,h.get? it=some o→h'.get? it=some o):IsIt h' t it a i:=by
 cases t <;> (obtain⟨o,ho,r⟩:=x;exact⟨o,k o ho,r⟩)
theorem ex {h h':Heap}{b c:Addr}{o:Obj} (hs:Heap.SameBut b h h') (hc:@Ne Nat c b) (e:h.get? c=some o):h'.get? c=some o:=hs.extBut _ _ hc e
theorem IsIt.ext {h h':Heap}{t:Bool}{it a b:Addr}{i:Nat} (x:IsIt h t it a i) (hs:Heap.SameBut b h h') (hab:@Ne Nat it b):IsIt h' t it a i:=x.at fun o e=>hs.extBut _ _ hab e
theorem IsSrc.lt {h:Heap}{t:Bool}{a:Addr}{xs:Array Value} (x:IsSrc h t a xs):a < h.objs.size:=by
 cases t <;> (obtain⟨o,ho,r⟩:=x;exact Heap.lt_size ho)
theorem IsIt.obj {h:Heap}{t:Bool}{it a:Addr}{i:Nat} (x:IsIt h t it a i):∃ o,h.get? it=some o∧∀ v,o.data≠.cell v:=by
 cases t <;> (obtain⟨o,ho,_,d⟩:=x;exact⟨o,ho,fun v z=>by rw[d] at z;cases z⟩)
section
variable {prog:Program}{w:World}{M:Model}{A:Around}{E:Value→Shared→Prop}{s:Shared}
theorem wpAny_alive {a:Addr}{Q:Option Obj→Shared→Prop} (h:Q (s.heap.get? a) s):wpAny M A (loadIfAlive a) Q E s:=fun Γ p _=>by
 unfold loadIfAlive
 rw[Sem.wp_loadIfAlive]
 exact h
theorem nextOf_tuple_item {it l:Addr}{i:Nat}{items}{x:Value}{Q:Value→Shared→Prop} (hit:s.heap.IsTupleIter it l i)
  (hl:s.heap.IsTuple l items) (hx:items[i]? = some x)
  (hQ:∀ h',h'.IsTupleIter it l (i+1)→Heap.SameBut it s.heap h'→Q x { s with heap:=h' }) :
  wpAny (model prog w) A (Builtin.SmallTypes.nextOf (.ref it)) Q E s:=by
 obtain⟨o,ho,hc,hd⟩:=id hit
 obtain⟨ol,hol,_,nl,hdl⟩:=hl
 unfold Builtin.SmallTypes.nextOf
 refine wpAny_bind (wpAny_callSpecial?_slot (name:=Str.ofString "__next__") hit.typeIs F.slot_tuple_iterator_next
  (wpAny_call_entry F.slot_tuple_iterator_next hit.typeIs F.entry_tuple_iterator_next ?_ (F.args_tuple_iterator_next_1 _)))
 show wpAny _ _ (field (.ref it) 0 >>= _) _ _ s
 refine wpAny_bind (wpAny_field ho hd (x:=.ref l) rfl ?_)
 show wpAny _ _ (if (Value.ref l == Value.none)=true then _ else _) _ _ s
 rw[if_neg (show ¬ ((Value.ref l == Value.none)=true) from Bool.false_ne_true)]
 show wpAny _ _ (field (.ref it) 1 >>= _) _ _ s
 refine wpAny_bind (wpAny_field ho hd (x:=.int i 0) rfl ?_)
 show wpAny _ _ (seqItems? (.ref l) >>= _) _ _ s
 refine wpAny_bind (wpAny_seqItems hol hdl ?_)
 simp only [Int.toNat_natCast,hx]
 refine wpAny_bind (wpAny_setField ho hd (by simp) (wpAny_pure ⟨x,rfl,wpAny_pure (hQ _ ?_ (Heap.SameBut.update ..))⟩))
 exact⟨_,Heap.get?_update_self _ ho (Obj.isFreed_of_fields (Obj.data_mapFields hd _)),(Obj.cls_mapFields ..).trans hc,by
  rw[Obj.data_mapFields hd];simp [rawInt]⟩
theorem nextOf_tuple_end {it l:Addr}{i:Nat}{items}{Q:Value→Shared→Prop} (hh:A.handled=none)
  (hit:s.heap.IsTupleIter it l i) (hl:s.heap.IsTuple l items) (hx:items[i]? = none)
  (hE:∀ h' e,Heap.ExtBut it s.heap h'→(∃ o,h'.get? e=some o∧o.cls=.type "StopIteration")→E (.ref e) { s with heap:=h' }) :
  wpAny (model prog w) A (Builtin.SmallTypes.nextOf (.ref it)) Q E s:=by
 obtain⟨o,ho,hc,hd⟩:=id hit
 obtain⟨ol,hol,_,nl,hdl⟩:=hl
 unfold Builtin.SmallTypes.nextOf
 refine wpAny_bind (wpAny_callSpecial?_slot (name:=Str.ofString "__next__") hit.typeIs F.slot_tuple_iterator_next
  (wpAny_call_entry F.slot_tuple_iterator_next hit.typeIs F.entry_tuple_iterator_next ?_ (F.args_tuple_iterator_next_1 _)))
 show wpAny _ _ (field (.ref it) 0 >>= _) _ _ s
 refine wpAny_bind (wpAny_field ho hd (x:=.ref l) rfl ?_)
 show wpAny _ _ (if (Value.ref l == Value.none)=true then _ else _) _ _ s
 rw[if_neg (show ¬ ((Value.ref l == Value.none)=true) from Bool.false_ne_true)]
 show wpAny _ _ (field (.ref it) 1 >>= _) _ _ s
 refine wpAny_bind (wpAny_field ho hd (x:=.int i 0) rfl ?_)
 show wpAny _ _ (seqItems? (.ref l) >>= _) _ _ s
 refine wpAny_bind (wpAny_seqItems hol hdl ?_)
 simp only [Int.toNat_natCast,hx]
 refine wpAny_bind (wpAny_rule (wpAny_bind (wpAny_setField ho hd (by simp) ?_)))
 show wpAny _ _ (newExc (.type "StopIteration") [] >>= _) _ _ _
 refine wpAny_bind ?_
 simp only [newExc,newTuple]
 refine wpAny_bind (wpAny_newObj_type ?_ (by size_fits))
 refine wpAny_bind (m:=firstArgMember _ _) (wpAny_of_eq (a:=Value.none) (by first | rfl | (simp only [firstArgMember];rfl)) ?_)
 refine wpAny_newObj_type ?_ (by size_fits)
 simp only [raiseNew]
 refine wpAny_bind (wpAny_handled ?_)
 first | rw[show A.in1.handled=none from hh] | rw[hh]
 refine wpAny_bind (wpAny_pure (wpAny_throw ?_))
 exact hE _ _ (((Heap.SameBut.update ..).extBut.push _).push _) ⟨_,Heap.get?_push_size _ rfl,rfl⟩
theorem nextOf_item {t:Bool}{it l:Addr}{i:Nat}{items}{x:Value}{Q:Value→Shared→Prop} (hit:IsIt s.heap t it l i)
  (hl:IsSrc s.heap t l items) (hx:items[i]? = some x)
  (hQ:∀ h',IsIt h' t it l (i+1)→Heap.SameBut it s.heap h'→Q x { s with heap:=h' }) :
  wpAny (model prog w) A (Builtin.SmallTypes.nextOf (.ref it)) Q E s:=by
 cases t with
 | true=>exact nextOf_tuple_item hit hl hx hQ
 | false=>exact wpAny_nextOf_list_item hit hl hx hQ
theorem nextOf_end {t:Bool}{it l:Addr}{i:Nat}{items}{Q:Value→Shared→Prop} (hh:A.handled=none)
  (hit:IsIt s.heap t it l i) (hl:IsSrc s.heap t l items) (hx:items[i]? = none)
  (hE:∀ h' e,Heap.ExtBut it s.heap h'→(∃ o,h'.get? e=some o∧o.cls=.type "StopIteration")→E (.ref e) { s with heap:=h' }) :
  wpAny (model prog w) A (Builtin.SmallTypes.nextOf (.ref it)) Q E s:=by
 cases t with
 | true=>exact nextOf_tuple_end hh hit hl hx hE
 | false=>exact wpAny_nextOf_list_end hh hit hl hx hE
noncomputable abbrev IsTp (h:Heap) (T:Addr) (vs:Array Value):Prop:=h.get? T=some { cls:=.type "tuple",data:=.seq vs }
noncomputable def Free0 (f0:Value):Prop:=f0=.none∨∃ a:Int,f0=.int a 0
noncomputable def itObj (t:Bool) (a:Addr):Obj:={ cls:=.type (if t=true then "tuple_iterator" else "list_iterator"),data:=.fields #[.ref a,.int 0 0] }
theorem pyIter_src {t:Bool}{a:Addr}{items:Array Value}{Q:Value→Shared→Prop} (hs:IsSrc s.heap t a items) (hQ:Q (.ref s.heap.objs.size) { s with heap:=s.heap.push (itObj t a) }) :
  wpAny (model prog w) A (pyIter (.ref a)) Q E s:=by
 cases t with
 | true=>exact wpAny_pyIter_tuple hs hQ
 | false=>exact wpAny_pyIter_list hs hQ
theorem itObj_is {h:Heap}{t:Bool}{a it:Addr} (e:h.get? it=some (itObj t a)):IsIt h t it a 0:=by
 cases t <;> exact⟨_,e,rfl,rfl⟩
noncomputable abbrev zA (h:Heap) (t:Bool) (a:Addr):Heap:=h.push (itObj t a)
end
end TwZ
namespace TwZ
open PySem
open Sem (wp)
open AutoSeq1 (wpAny_loadPart')
section
variable {prog:Program}{w:World}{M:Model}{A:Around}{E:Value→Shared→Prop}{s:Shared}
noncomputable abbrev IsEn (h:Heap) (e it:Addr) (f0:Value) (f1:Bool) (i:Int) (old:Value):Prop:=
 h.get? e=some { cls:=.type "enumerate",dict:=none,data:=.fields #[f0,.bool f1,.ref it,rawInt i,.none,old],slots:=#[] }
theorem ownedE_free {e it:Addr}{f0:Value}{f1:Bool}{i:Int}{old:Value}{Q:Bool→Shared→Prop} (hz:IsEn s.heap e it f0 f1 i old) (hf:Free0 f0) (yes:Q true s)
  (no:∀ h',IsEn h' e it f0 true i old→Heap.SameBut e s.heap h'→Q false { s with heap:=h' }):wpAny (model prog w) A (Builtin.SmallTypes.ownedTupleIsFree (.ref e)) Q E s:=by
 unfold Builtin.SmallTypes.ownedTupleIsFree
 refine wpAny_bind (wpAny_field hz rfl (x:=f0) rfl ?_)
 rcases hf with rfl | ⟨a,rfl⟩
 ·exact wpAny_pure yes
 ·refine wpAny_bind (wpAny_alive ?_)
  cases h:s.heap.get? a.toNat with
  | none=>exact wpAny_pure yes
  | some o=>
   show wpAny _ _ (field (.ref e) 1 >>= _) _ _ _
   refine wpAny_bind (wpAny_field hz rfl (x:=.bool f1) rfl ?_)
   cases f1 with
   | true=>exact wpAny_pure (no s.heap hz (Heap.SameBut.refl ..))
   | false=>
    show wpAny _ _ (setField (.ref e) 1 (.bool true) >>= _) _ _ _
    refine wpAny_bind (wpAny_setField_rec hz (by simp) fun h₁ hz₁ hs₁=>wpAny_pure (no h₁ hz₁ hs₁))
theorem handOutE {e it:Addr}{f0:Value}{f1:Bool}{i:Int}{old:Value}{T:Addr}{Q:Unit→Shared→Prop} (hz:IsEn s.heap e it f0 f1 i old)
  (h:∀ h',IsEn h' e it (rawInt T) false i old→Heap.SameBut e s.heap h'→Q () { s with heap:=h' }):wpAny (model prog w) A (Builtin.SmallTypes.ownedTupleHandOut (.ref e) (.ref T)) Q E s:=by
 unfold Builtin.SmallTypes.ownedTupleHandOut
 refine wpAny_bind (wpAny_setField_rec hz (by simp) fun h₁ hz₁ hs₁=>?_)
 replace hz₁:IsEn h₁ e it (rawInt T) f1 i old:=hz₁
 refine wpAny_setField_rec hz₁ (by simp) fun h₂ hz₂ hs₂=>?_
 exact h h₂ hz₂ (Heap.SameBut.trans hs₁ hs₂)
theorem enum_next {n a:Nat}{t:Bool}{k:Nat}{xs:Array Value}{x old f0:Value}{f1:Bool}{Q:Value→Shared→Prop} (hf:Free0 f0)
  (he:IsEn s.heap (n+1) n f0 f1 k old) (i1:IsIt s.heap t n a k) (s1:IsSrc s.heap t a xs) (l1:a < n) (hx:xs[k]? = some x)
  (hQ:∀ (T:Nat) h' f0' f1' old',s.heap.objs.size≤T→Free0 f0'→IsEn h' (n+1) n f0' f1' ((k:Int)+1) old'→IsIt h' t n a (k+1)→IsTp h' T #[.int k s.toks,x]→
   (∀ (c:Nat) o,(c < n∨n+1 < c)→s.heap.get? c=some o→h'.get? c=some o)→Q (.ref T) { s with heap:=h',toks:=s.toks+1 }) :
  wpAny (model prog w) A (Builtin.«enumerate.__next__» ⟨[.ref (n+1)],[]⟩) (fun fin s'=>∃ v,fin=.done (.ret v)∧Q v s') E s:=by
 obtain⟨hp,g,d,tk,os⟩:=s
 have helt:n+1 < hp.objs.size:=Heap.lt_size he
 show wpAny _ _ (field (.ref (n+1)) 2 >>= _) _ _ _
 refine wpAny_bind (wpAny_field he rfl (x:=.ref n) rfl ?_)
 refine wpAny_bind (nextOf_item i1 s1 hx fun h₁ i1₁ hs₁=>?_)
 replace hs₁:Heap.SameBut n hp h₁:=hs₁
 have he₁:IsEn h₁ (n+1) n f0 f1 k old:=ex hs₁ (by omega) he
 show wpAny _ _ (field (.ref (n+1)) 3 >>= _) _ _ ⟨h₁,g,d,tk,os⟩
 refine wpAny_bind (wpAny_field he₁ rfl (x:=rawInt k) rfl ?_)
 show wpAny _ _ (field (.ref (n+1)) 4 >>= _) _ _ ⟨h₁,g,d,tk,os⟩
 refine wpAny_bind (wpAny_field he₁ rfl (x:=.none) rfl ?_)
 show wpAny _ _ (mkInt k >>= _) _ _ ⟨h₁,g,d,tk,os⟩
 refine wpAny_bind (wpAny_mkInt ?_)
 show wpAny _ _ (setField (.ref (n+1)) 3 (rawInt ((k:Int)+1)) >>= _) _ _ ⟨h₁,g,d,tk+1,os⟩
 refine wpAny_bind (wpAny_setField_rec he₁ (by simp) fun h₂ he₂ hs₂=>?_)
 replace hs₂:Heap.SameBut (n+1) h₁ h₂:=hs₂
 replace he₂:IsEn h₂ (n+1) n f0 f1 ((k:Int)+1) old:=he₂
 show wpAny _ _ (setField (.ref (n+1)) 4 .none >>= _) _ _ ⟨h₂,g,d,tk+1,os⟩
 refine wpAny_bind (wpAny_setField_rec he₂ (by simp) fun h₃ he₃ hs₃=>?_)
 replace hs₃:Heap.SameBut (n+1) h₂ h₃:=hs₃
 replace he₃:IsEn h₃ (n+1) n f0 f1 ((k:Int)+1) old:=he₃
 show wpAny _ _ (newTuple [.int k tk,x] >>= _) _ _ ⟨h₃,g,d,tk+1,os⟩
 refine wpAny_bind (wpAny_newTuple ?_)
 have he₄:IsEn (h₃.push { cls:=.type "tuple",data:=.seq #[.int k tk,x] }) (n+1) n f0 f1 ((k:Int)+1) old:=Heap.get?_push_of_some _ he₃
 have hsz:h₃.objs.size=hp.objs.size:=by rw[hs₃.1,hs₂.1,hs₁.1]
 have ht₄:IsTp (h₃.push { cls:=.type "tuple",data:=.seq #[.int k tk,x] }) h₃.objs.size #[.int k tk,x]:=Heap.get?_push_size _ rfl
 have k₄:∀ (c:Nat) o,(c < n∨n+1 < c)→hp.get? c=some o→(h₃.push { cls:=.type "tuple",data:=.seq #[.int k tk,x] }).get? c=some o:=fun c o hc e=>
  Heap.get?_push_of_some _ (ex hs₃ (by omega) (ex hs₂ (by omega) (ex hs₁ (by omega) e)))
 have i1₄:IsIt (h₃.push { cls:=.type "tuple",data:=.seq #[.int k tk,x] }) t n a (k+1):=((i1₁.ext hs₂ (by omega)).ext hs₃ (by omega)).at fun o e=>Heap.get?_push_of_some _ e
 have hlt₃:n+1 < h₃.objs.size:=by rw[hsz];exact helt
 generalize hh₄:h₃.push { cls:=.type "tuple",data:=.seq #[.int k tk,x] }=h₄ at he₄ ht₄ k₄ i1₄
 have hTle:hp.objs.size≤h₃.objs.size:=Nat.le_of_eq hsz.symm
 show wpAny _ _ (Builtin.SmallTypes.ownedTupleIsFree (.ref (n+1)) >>= _) _ _ ⟨h₄,g,d,tk+1,os⟩
 refine wpAny_bind (ownedE_free he₄ hf ?_ ?_)
 ·simp only [if_true]
  refine wpAny_bind (wpAny_rule ?_)
  refine wpAny_bind (wpAny_field he₄ rfl (x:=old) rfl ?_)
  refine wpAny_bind (wpAny_setField_rec he₄ (by simp) fun h₅ he₅ hs₅=>?_)
  replace hs₅:Heap.SameBut (n+1) h₄ h₅:=hs₅
  replace he₅:IsEn h₅ (n+1) n f0 f1 ((k:Int)+1) x:=he₅
  refine wpAny_bind (handOutE (s:=⟨h₅,g,d,tk+1,os⟩) he₅ fun h₆ he₆ hs₆=>?_)
  replace hs₆:Heap.SameBut (n+1) h₅ h₆:=hs₆
  refine wpAny_bind (wpAny_letGo (wpAny_pure ⟨_,rfl,?_⟩))
  exact hQ h₃.objs.size h₆ _ _ _ hTle (.inr ⟨_,rfl⟩) he₆ ((i1₄.ext hs₅ (by omega)).ext hs₆ (by omega)) (ex hs₆ (by omega) (ex hs₅ (by omega) ht₄)) fun c o hc e=>ex hs₆ (by omega) (ex hs₅ (by omega) (k₄ c o hc e))
 ·intro h₅ he₅ hs₅
  replace hs₅:Heap.SameBut (n+1) h₄ h₅:=hs₅
  simp only [Bool.false_eq_true,if_false]
  refine wpAny_pure ⟨_,rfl,?_⟩
  exact hQ h₃.objs.size h₅ _ _ _ hTle hf he₅ (i1₄.ext hs₅ (by omega)) (ex hs₅ (by omega) ht₄) fun c o hc e=>ex hs₅ (by omega) (k₄ c o hc e)
theorem enum_end {n a:Nat}{t:Bool}{k:Nat}{xs:Array Value}{old f0:Value}{f1:Bool}{Q:Fin→Shared→Prop} (hh:A.handled=none)
  (he:IsEn s.heap (n+1) n f0 f1 k old) (i1:IsIt s.heap t n a k) (s1:IsSrc s.heap t a xs) (hx:xs[k]? = none)
  (hE:∀ h' e,(∀ (c:Nat) o,(c < n∨n+1 < c)→s.heap.get? c=some o→h'.get? c=some o)→(∃ o,h'.get? e=some o∧o.cls=.type "StopIteration")→E (.ref e) { s with heap:=h' }) :
  wpAny (model prog w) A (Builtin.«enumerate.__next__» ⟨[.ref (n+1)],[]⟩) Q E s:=by
 show wpAny _ _ (field (.ref (n+1)) 2 >>= _) _ _ _
 refine wpAny_bind (wpAny_field he rfl (x:=.ref n) rfl ?_)
 refine wpAny_bind (nextOf_end hh i1 s1 hx fun h' e hk he'=>hE h' e (fun c o hc q=>hk c o (show @Ne Nat c n by omega) q) he')
theorem pyNext_enum {e it:Addr}{f0:Value}{f1:Bool}{i:Int}{old:Value}{Q:Option Value→Shared→Prop} (he:IsEn s.heap e it f0 f1 i old)
  (h:wpAny (model prog w) A.in1 (Builtin.«enumerate.__next__» ⟨[.ref e],[]⟩) (fun fin s'=>∃ v,fin=.done (.ret v)∧Q (some v) s') (fun e s'=>(∃ a o,e=.ref a∧s'.heap.get? a=some o∧o.cls=.type "StopIteration")∧Q none s') s) :
  wpAny (model prog w) A (pyNext (.ref e)) Q E s:=by
 have hT:s.TypeIs (.ref e) "enumerate" := ⟨_,he,rfl⟩
 unfold pyNext
 refine wpAny_bind (wpAny_attempt (wpAny_callSpecial?_slot (name:=Str.ofString "__next__") hT F.slot_enumerate_next
  (wpAny_call_entry F.slot_enumerate_next hT F.entry_enumerate_next (wpAny_mono h (fun fin s' h'=>?_) fun e s' h'=>?_) (F.args_enumerate_next_1 _))))
 ·obtain⟨v,rfl,q⟩:=h'
  exact⟨v,rfl,wpAny_pure q⟩
 ·obtain⟨⟨a,o,rfl,ho,hc⟩,q⟩:=h'
  exact wpAny_bind (wpAny_isInstance (T := "StopIteration") (b:=true) ⟨o,ho,hc⟩ isSubtype_stop (wpAny_pure q))
theorem letGo_enum {tg:Expr}{e it T:Addr}{f0:Value}{f1:Bool}{i:Int}{old:Value}{Q:Unit→Shared→Prop} (hf:Free0 f0) (hz:IsEn s.heap e it f0 f1 i old)
  (hQ:∀ h' f0',Free0 f0'→IsEn h' e it f0' f1 i old→Heap.SameBut e s.heap h'→Q () { s with heap:=h' }):wpAny (model prog w) A (letOwnedTupleGo tg (.ref e) (.ref T)) Q E s:=by
 have same:Q () s:=hQ s.heap f0 hf hz (Heap.SameBut.refl ..)
 have core:wpAny (model prog w) A (do
   let o ← load e
   match o.cls,o.data with
   | .type n,.fields vs=>
    if ["enumerate","zip","dict_itemiterator","dict_reverseitemiterator","odict_iterator","itertools.zip_longest","itertools.pairwise"].contains n && vs[0]? == some (rawInt T) then
     rule "for.unpacks-the-owned-tuple"
     updateField e 0 .none
   | _,_=>pure ()) Q E s:=by
  refine wpAny_bind (wpAny_load hz ?_)
  show wpAny _ _ (if (["enumerate","zip","dict_itemiterator","dict_reverseitemiterator","odict_iterator","itertools.zip_longest","itertools.pairwise"].contains "enumerate" &&
   (#[f0,.bool f1,.ref it,rawInt i,.none,old]:Array Value)[0]? == some (rawInt T))=true then _ else _) Q E s
  split
  ·refine wpAny_bind (wpAny_rule ?_)
   show wpAny _ _ (setField (.ref e) 0 .none) Q E s
   exact wpAny_setField_rec hz (by simp) fun h' hz' hs'=>hQ h' .none (.inl rfl) hz' hs'
  ·exact wpAny_pure same
 unfold letOwnedTupleGo
 cases tg <;> first
  | exact wpAny_pure same
  | exact core
theorem pyIter_enum {e it:Addr}{f0:Value}{f1:Bool}{i:Int}{old:Value}{Q:Value→Shared→Prop} (he:IsEn s.heap e it f0 f1 i old) (h:Q (.ref e) s):wpAny (model prog w) A (pyIter (.ref e)) Q E s:=by
 have hT:s.TypeIs (.ref e) "enumerate" := ⟨_,he,rfl⟩
 refine wpAny_pyIter_slot hT F.slot_enumerate_iter (wpAny_call_entry F.slot_enumerate_iter hT F.entry_enumerate_iter ?_ (F.args_enumerate_iter_1 _))
 show wpAny _ _ (ret (.ref e)) _ _ s
 exact wpAny_pure ⟨_,rfl,"enumerate",_,hT,F.slot_enumerate_next.lookup,h⟩
theorem meets_enum (t:Bool) (l:Addr) (xs:Array Value) :
  Meets (Builtin.«enumerate.__new__» ⟨[.type "enumerate",.ref l],[]⟩) (fun _ R s=>IsSrc s.heap t l xs∧
   R (.ok (.ret (.ref (zA s.heap t l).objs.size))) { s with heap:=(zA s.heap t l).push { cls:=.type "enumerate",data:=.fields #[.none,.bool false,.ref s.heap.objs.size,rawInt 0,.none,.none] } }):=
 .of_wp fun prog w A R s h=>by
  obtain⟨hp,g,d,tk,os⟩:=s;obtain⟨hl,h⟩:=h
  have hsub:=sub_enumerate
  have hL:IsSrc (Shared.heap ⟨hp,g,d,tk,os⟩) t l xs:=hl
  wp_walk
  refine wpAny_stack_any fun st=>wpAny_pure ?_
  split
  ·rename_i c _ _ _ _ _
   cases (c == Value.type "enumerate")
   ·wp_walk using pyIter_src hL
    exact⟨_,rfl,h⟩
   ·wp_walk using pyIter_src hL
    exact⟨_,rfl,h⟩
  ·wp_walk using pyIter_src hL
   exact⟨_,rfl,h⟩
theorem call_enum {t:Bool}{l:Addr}{xs:Array Value}{Q:Value→Shared→Prop} (hL:IsSrc s.heap t l xs)
  (h:∀ h',IsEn h' (s.heap.objs.size+1) s.heap.objs.size .none false 0 .none→IsIt h' t s.heap.objs.size l 0→(∀ b o,s.heap.get? b=some o→h'.get? b=some o)→Q (.ref (s.heap.objs.size+1)) { s with heap:=h' }) :
  wpAny (model prog w) A (call (.type "enumerate") [.ref l]) Q E s:=by
 refine callType_new F.called_enumerate (by decide) (F.typeCall_enumerate_1 _) (F.newCall_enumerate_1 _) (fun obj=>F.args_object_init_2 obj _) F.entry_enumerate_new (meets_enum t l xs) ⟨hL,?_⟩
 have hz:(zA s.heap t l).objs.size=s.heap.objs.size+1:=Heap.size_push ..
 show _∧_
 rw[hz]
 have he:IsEn ((zA s.heap t l).push { cls:=.type "enumerate",data:=.fields #[.none,.bool false,.ref s.heap.objs.size,rawInt 0,.none,.none] }) (s.heap.objs.size+1) s.heap.objs.size .none false 0 .none:=by
  have:=Heap.get?_push_size (zA s.heap t l) (o:={ cls:=.type "enumerate",data:=.fields #[.none,.bool false,.ref s.heap.objs.size,rawInt 0,.none,.none] }) rfl
  rw[hz] at this;exact this
 exact⟨⟨_,he,rfl⟩,h _ he (itObj_is (Heap.get?_push_of_some _ (Heap.get?_push_size _ rfl))) fun b o x=>Heap.get?_push_of_some _ (Heap.get?_push_of_some _ x)⟩
end
end TwZ
namespace L2
open PySem PySem.Spec PyProof.Rows TwZ
noncomputable def SqB (K:PySem.W.Frag) (H:Hp) (t:Bool) (a:Addr) (xs:List V):Prop:=if t=true then bR K H a xs else bT K H a xs
section
variable {X:Cx}{pins:List (Addr×Obj)}{σ:St}{H:Hp}{s:Shared}
theorem Inv.src {t:Bool}{a:Addr}{xs:List V} (I:Inv X pins σ H s) (h:SqB X.K H t a xs):∃ its:List Value,bD xs its∧IsSrc s.heap t a its.toArray∧xs.length≤sizeLine:=by
 cases t with
 | true=>
  obtain⟨its,r,p,z⟩:=I.tuple h
  exact⟨its,r,(show s.heap.IsTuple a its.toArray from p),z⟩
 | false=>
  obtain⟨its,r,p,z⟩:=I.list h
  exact⟨its,r,p.isList,z⟩
theorem Inv.src_inj {t:Bool}{a:Addr}{xs ys:List V} (I:Inv X pins σ H s) (h:SqB X.K H t a xs) (h':SqB X.K H t a ys):xs=ys:=by
 cases t with
 | true=>exact I.tuple_inj h h'
 | false=>exact I.list_inj h h'
theorem Inv.turnedT {fp:List Addr}{h':Heap}{t':Nat}{T:Addr}{xs:List V}{its:List Value} (I:Inv X pins σ H s) (hf:∀ b∈fp,FpOk X pins H b) (k:∀ b o,b∉fp→s.heap.get? b=some o→h'.get? b=some o)
  (hT:s.heap.objs.size≤T) (hv:bD xs its) (hz:xs.length≤sizeLine) (ht:IsTup h' T its.toArray):Inv X pins σ (upd H T (.tup xs)) { s with heap:=h',toks:=t' }:=by
 have hn:H T=none:=I.hok.fresh hT
 have nT:∀ b u,H b=some u→b≠T:=fun b u e=>aQ e hn
 have nfp:∀ b u,H b=some u→b∉fp:=fun b u e hb=>by rw[(hf b hb).1] at e;cases e
 have nTh:∀ b o,s.heap.get? b=some o→b≠T:=fun b o e z=>by rw[z] at e;exact absurd (Nat.lt_of_lt_of_le (Heap.lt_size e) hT) (Nat.lt_irrefl _)
 refine I.step (g':=s.gens) (d':=s.drawn) (ch:=fp) (fun b hb=>?_) (fun b o _ _ hc e _=>k b o hc e) (fun b o _ _ hc e _=>⟨o.slots,k b o hc e⟩) (fun b o hc e n=>by rw[aO (nTh b o e)];exact n)
  (fun b o hc e=>⟨o,k b o hc e⟩) (fun b ys e=>by rw[aO (nT b _ e)];exact e) (fun b o u e=>by rw[aO (nT b _ e)];exact e) (fun b ps e=>⟨#[],by rw[aO (nT b _ e),e];simp⟩) (fun m hm=>?_) (fun b u e=>?_) I.bare
 ·obtain⟨_,f1,_,f3,f4,f5⟩:=hf b hb
  exact⟨f3,f1,f4,f5⟩
 ·obtain⟨o,es,ep,ho,r⟩:=hm
  exact⟨o,es,ep,k _ o (fun hb=>(hf _ hb).2.1 rfl) ho,r⟩
 ·by_cases hb:b=T
  ·subst hb
   rw[aC] at e
   cases e
   exact⟨hz,its,hv,ht⟩
  ·rw[aO hb] at e
   refine (I.hok b u e).stay (fun c v hc q=>k c v ?_ q) (fun c q=>by rw[aO (nT c _ q)];exact q) fun c ys q=>by rw[aO (nT c _ q)];exact q
   rcases hc with z | z
   ·rw[z];exact nfp b u e
   ·exact nfp c _ z
theorem Inv.turnedL {fp:List Addr}{h':Heap}{t':Nat} (I:Inv X pins σ H s) (hf:∀ b∈fp,FpOk X pins H b) (k:∀ b o,b∉fp→s.heap.get? b=some o→h'.get? b=some o):Inv X pins σ H { s with heap:=h',toks:=t' }:=by
 have nfp:∀ b u,H b=some u→b∉fp:=fun b u e hb=>by rw[(hf b hb).1] at e;cases e
 refine I.step (g':=s.gens) (d':=s.drawn) (ch:=fp) (fun b hb=>?_) (fun b o _ _ hc e _=>k b o hc e) (fun b o _ _ hc e _=>⟨o.slots,k b o hc e⟩) (fun b o hc e n=>n)
  (fun b o hc e=>⟨o,k b o hc e⟩) (fun b ys e=>e) (fun b o u e=>e) (fun b ps e=>⟨#[],by rw[e];simp⟩) (fun m hm=>?_) (fun b u e=>?_) I.bare
 ·obtain⟨_,f1,_,f3,f4,f5⟩:=hf b hb
  exact⟨f3,f1,f4,f5⟩
 ·obtain⟨o,es,ep,ho,r⟩:=hm
  exact⟨o,es,ep,k _ o (fun hb=>(hf _ hb).2.1 rfl) ho,r⟩
 ·refine (I.hok b u e).stay (fun c v hc q=>k c v ?_ q) (fun c q=>q) fun c ys q=>q
  rcases hc with z | z
  ·rw[z];exact nfp b u e
  ·exact nfp c _ z
end
noncomputable def fpz (n:Nat) (m:Nat):List Addr:=(List.range m).map fun k=>(n+k:Nat)
theorem mem_fpz {n m:Nat}{b:Addr}:b∈fpz n m↔∃ k,k < m∧b=n+k:=by
 unfold fpz
 rw[List.mem_map]
 constructor
 ·rintro⟨k,hk,e⟩;exact⟨k,List.mem_range.mp hk,e.symm⟩
 ·rintro⟨k,hk,e⟩;exact⟨k,List.mem_range.mpr hk,e.symm⟩
theorem not_fpz {n m:Nat}{b:Nat} (h:(b:Addr)∉fpz n m) (hm:0 < m):b < n∨n+(m - 1) < b:=by
 by_cases h1:b < n
 ·exact .inl h1
 ·by_cases h2:n+(m - 1) < b
  ·exact .inr h2
  ·exact absurd (mem_fpz.mpr ⟨b - n,by omega,by show (b:Nat)=n+(b - n);omega⟩) h
noncomputable def Ite (K:PySem.W.Frag) (t:Bool) (a:Addr):It:=
 ⟨fun i H=>∃ xs x,SqB K H t a xs∧xs[i]? = some x,
  fun i H v H'=>∃ T x,H T=none∧v=.ref T∧(∀ xs,SqB K H t a xs→xs[i]? = some x)∧H'=upd H T (.tup [.int i,x]),
  fun i H=>∃ xs,SqB K H t a xs∧xs.length≤i⟩
noncomputable def tne (n a:Nat) (t:Bool) (i:Nat) (h:Heap):Prop:=∃ f0 f1 old,Free0 f0∧IsEn h (n+1) n f0 f1 i old∧IsIt h t n a i∧a < n
theorem turn_enum {P:Program}{w:World}{K:PySem.W.Frag}{tg:Expr} (n a:Nat) (t:Bool):Turn P w K tg (Ite K t a) (fpz n 2) (n+1) (tne n a t) where
 mem:=mem_fpz.mpr ⟨1,by decide,rfl⟩
 obj:=fun i h st b hb=>by
  obtain⟨f0,f1,old,hf,he,i1,_⟩:=st
  obtain⟨k,hk,rfl⟩:=mem_fpz.mp hb
  have hk':k=0∨k=1:=by omega
  rcases hk' with rfl | rfl
  ·exact i1.obj
  ·exact⟨_,he,fun v z=>by cases z⟩
 keep:=fun i h h' st k=>by
  obtain⟨f0,f1,old,hf,he,i1,l⟩:=st
  have m:∀ j,j < 2→((n+j:Nat):Addr)∈fpz n 2:=fun j hj=>mem_fpz.mpr ⟨j,hj,rfl⟩
  exact⟨f0,f1,old,hf,k _ (m 1 (by decide)) _ he,i1.at fun o e=>k _ (m 0 (by decide)) _ e,l⟩
 item:=by
  intro X hP hw hK hc i pins s σ H E I hf st hg
  subst hP hw hK
  obtain⟨f0,f1,old,f,he,i1,l1⟩:=st
  obtain⟨xs,x,q1,hx⟩:=hg
  obtain⟨us,r1,p1,_⟩:=I.src q1
  obtain⟨u,hu,ru⟩:=r1.get hx
  refine pyNext_enum he (enum_next f he i1 p1 l1 (by simpa using hu) fun T h' f0' f1' old' hT f' he' i1' hTp hk=>?_)
  refine⟨_,rfl,letGo_enum (s:={ s with heap:=h',toks:=s.toks+1 }) f' he' fun h'' f0'' f'' he'' hs=>?_⟩
  replace hs:Heap.SameBut (n+1) h' h'':=hs
  have hTn:n+1 < T:=Nat.lt_of_lt_of_le (Heap.lt_size he) hT
  have hTp':IsTp h'' T #[.int i s.toks,u]:=ex hs (by omega) hTp
  have IT:Inv X pins σ (upd H T (.tup [.int i,x])) { s with heap:=h'',toks:=s.toks+1 }:=I.turnedT (fp:=fpz n 2) hf (fun b o hb e=>ex (c:=b) hs (by have:=not_fpz (b:=b) hb (by decide);have:n+(2 - 1)=n+1:=rfl;omega) (hk b o (not_fpz (b:=b) hb (by decide)) e)) hT (its:=[.int i s.toks,u]) (.cons ⟨_,rfl⟩ (.cons ru .nil)) (by show 2≤sizeLine;decide) ⟨_,hTp',rfl,_,rfl⟩
  have he2:IsEn h'' (n+1) n f0'' f1' ((i+1:Nat):Int) old':=by
   have:((i+1:Nat):Int)=(i:Int)+1:=by push_cast;rfl
   rw[this];exact he''
  refine⟨.ref T,upd H T (.tup [.int i,x]),IT,rfl,⟨T,x,I.hok.fresh hT,rfl,fun as q=>by rw[I.src_inj q q1];exact hx,rfl⟩,⟨f0'',f1',old',f'',he2,i1'.ext hs (by omega),l1⟩,fun b hb=>?_⟩
  ·obtain⟨j,hj,rfl⟩:=mem_fpz.mp hb
   rw[aO (show ((n+j:Nat):Addr)≠T from (show @Ne Nat (n+j) T by omega))]
   exact (hf _ hb).1
 done:=by
  intro X hP hw hK hc i pins s σ H E I hf st hg
  subst hP hw hK
  obtain⟨f0,f1,old,f,he,i1,l1⟩:=st
  obtain⟨xs,q1,hend⟩:=hg
  obtain⟨us,r1,p1,_⟩:=I.src q1
  have e1:=r1.length
  refine pyNext_enum he (enum_end (I.ok.hd hc) he i1 p1 (by simp;omega) fun h' e hk he=>?_)
  obtain⟨o,ho,hcl⟩:=he
  exact⟨⟨e,o,rfl,ho,hcl⟩,rfl,I.turnedL (t':=s.toks) hf fun b o hb q=>hk b o (not_fpz (b:=b) hb (by decide)) q⟩
 self:=fun _ _ _ _ _ st h=>by
  obtain⟨f0,f1,old,f,he,_⟩:=st
  exact pyIter_enum he h
section
variable {X:Cx}{tg:Expr}
theorem boot_enum:bootBuiltins "enumerate" = some (.type "enumerate"):=by decide +kernel
noncomputable def iEnum (K:PySem.W.Frag) (ta:TA):TI:=fun σ H R=>ta σ H fun vs H1=>∃ t a,vs=[.ref a]∧(∃ xs,SqB K H1 t a xs)∧R (Ite K t a) H1
theorem pi_enum {a:Expr}{ta:TA}{p pos:Pos} (hg:Gl X "enumerate") (hm:X.mg "enumerate" = none) (ha:PA X [a] ta) (hs:starEach [a] X.env=[(false,eval a X.env)]:=by rfl):PI X tg (.Call (.Name "enumerate" p) [a] [] pos) (iEnum X.K ta):=by
 intro pins s σ H R I h
 refine Call_ (ld_blt I hg hm boot_enum (PyProof.Rows.callWith_type1 (bZ (ha pos pins s σ H _ I h) fun us s1 ⟨vs,H1,I1,r1,q1⟩=>?_) hs rfl))
 obtain⟨t,a1,e,⟨xs,hq⟩,q⟩:=q1
 subst e
 cases r1 with
 | cons r rr=>
  cases rr
  cases r
  obtain⟨its,rv,p,hz⟩:=I1.src hq
  refine call_enum p fun h' he i1 hk=>?_
  refine pyIter_enum (s:={ s1 with heap:=h' }) he ?_
  refine⟨_,fpz s1.heap.objs.size 2,tne s1.heap.objs.size a1 t,_,H1,rfl,I1.kept (t':=s1.toks) hk,turn_enum _ _ _,⟨.none,false,.none,.inl rfl,he,i1,p.lt⟩,fun b hb=>?_,q⟩
  obtain⟨k,_,rfl⟩:=mem_fpz.mp hb
  exact I1.fpOk (Nat.le_add_right _ _) (I1.hok.fresh (Nat.le_add_right _ _))
end
end L2
namespace L2
open PySem PySem.Spec PyProof.Rows TwZ
section
variable {prog:Program}{w:World}{A:Around}{E:Value→Shared→Prop}{s:Shared}{l:Addr}{xs:Array (Int×Tok)}
theorem all_src {t:Bool}{vs:List Value}{bs:List Bool}{Q:Value→Shared→Prop} (hh:A.handled=none) (hl:IsSrc s.heap t l vs.toArray) (hb:bD (bs.map V.bl) vs)
  (h:∀ h' tk,(∀ b o,s.heap.get? b=some o→h'.get? b=some o)→Q (.bool (bs.all id)) { s with heap:=h',toks:=tk }):wpAny (model prog w) A (call (.builtin "all") [.ref l]) Q E s:=by
 have hlt:l < s.heap.objs.size:=hl.lt
 have hlen:=hb.length
 rw[List.length_map] at hlen
 have key:∀ (P:Nat→Value→Prop),(∀ i v,P i v→vs[i]? = some v)→TruthOf prog w A.in1 P (fun i=>(bs[i]?).getD true):=fun P hP i v s' Q' E' hp hQ=>by
  have hv:=hP i v hp
  have hi:i < vs.length:=(List.getElem?_eq_some_iff.mp hv).1
  have hb':(bs.map V.bl)[i]? = some (V.bl bs[i]):=by simp [show i < bs.length by omega]
  obtain⟨u,hu,ru⟩:=hb.get hb'
  rw[hv] at hu
  cases hu
  cases ru
  have e:(bs[i]?).getD true=bs[i]:=by simp [show i < bs.length by omega]
  have hQ2:Q' ((bs[i]?).getD true) s':=hQ
  rw[e] at hQ2
  exact wpAny_truthy_bool hQ2
 have rng:((List.range vs.toArray.size).all fun i=>(bs[i]?).getD true)=bs.all id:=by
  rw[List.size_toArray,← hlen,Bool.eq_iff_iff,List.all_eq_true,List.all_eq_true]
  constructor
  ·intro hq b hb'
   obtain⟨i,hi,rfl⟩:=List.getElem_of_mem hb'
   have:=hq i (List.mem_range.mpr hi)
   simpa [hi] using this
  ·intro hq i hi
   have hi':=List.mem_range.mp hi
   have:=hq bs[i] (List.getElem_mem hi')
   simpa [hi'] using this
 have kept:∀ {h':Heap}{o:Obj},(∀ b x,b∉[s.heap.objs.size]→(s.heap.push o).get? b=some x→h'.get? b=some x)→∀ b x,s.heap.get? b=some x→h'.get? b=some x:=fun hk b x e=>
  hk b x (fun hm=>by rw[List.mem_singleton.mp hm] at e;exact Nat.lt_irrefl _ (Heap.lt_size e)) (Heap.get?_push_of_some _ e)
 cases t with
 | true=>
  refine call_all_walk (wpAny_pyIter_tuple hl ?_)
  refine⟨s.heap.objs.size,[s.heap.objs.size,l],[s.heap.objs.size],vs.toArray.size,_,_,fun i=>(bs[i]?).getD true,rfl,Walks.tuple (A:=A.in1) hh _ l (Nat.ne_of_lt hlt) vs.toArray,
   ⟨⟨_,Heap.get?_push_size _ rfl,rfl,rfl⟩,Heap.IsTuple.push hl _⟩,key _ (fun i v hp=>by simpa using hp),fun h' tk hk=>?_⟩
  rw[rng]
  exact h h' tk (kept hk)
 | false=>
  refine call_all_walk (wpAny_pyIter_list hl ?_)
  refine⟨s.heap.objs.size,[s.heap.objs.size,l],[s.heap.objs.size],vs.toArray.size,_,_,fun i=>(bs[i]?).getD true,rfl,Walks.list (A:=A.in1) hh _ l (Nat.ne_of_lt hlt) vs.toArray,
   ⟨⟨_,Heap.get?_push_size _ rfl,rfl,rfl⟩,Heap.IsList.push hl _⟩,key _ (fun i v hp=>by simpa using hp),fun h' tk hk=>?_⟩
  rw[rng]
  exact h h' tk (kept hk)
end
section
variable {X:Cx}
noncomputable def rAll (K:PySem.W.Frag):List V→Hp→VK→Prop:=fun xs H Q=>∃ (t:Bool) (p:Addr) (bs:List Bool),xs=[.ref p]∧SqB K H t p (bs.map V.bl)∧Q (.bl (bs.all id)) H
theorem call_allB (hc:X.calm=true):d8 X (.builtin "all") (rAll X.K):=by
 intro pins s σ H xs us Q I r h
 obtain⟨t,p,bs,rfl,hq,q⟩:=h
 obtain⟨u,rfl,ru⟩:=r.one
 cases ru
 obtain⟨its,rv,p1,hz⟩:=I.src hq
 refine all_src (I.ok.hd hc) p1 rv fun h' tk hk=>⟨.bl (bs.all id),H,I.kept hk,rfl,q⟩
noncomputable def TyS (K:PySem.W.Frag) (H:Hp) (x:V) (t:Value):Prop:=TyOf K H x t∨∃ a ys,x=.ref a∧bR K H a ys∧t=.type "tuple"
noncomputable def rIsi (K:PySem.W.Frag):List V→Hp→VK→Prop:=fun xs H Q=>∃ x T t b,xs=[x,.ty T]∧TyS K H x t∧PySem.W.kitOne K t (.type T)=some b∧Q (.bl b) H
theorem call_isi:d8 X (.builtin "isinstance") (rIsi X.K):=by
 intro pins s σ H xs us Q I r h
 obtain⟨x,T,t,b,rfl,ty,e,q⟩:=h
 obtain⟨u,v,rfl,ru,rv⟩:=r.two
 cases rv
 rcases ty with ty | ⟨a,ys,rfl,hq,rfl⟩
 ·exact isinst_ok I ru ty e fun tk=>⟨.bl b,H,I.tok tk,rfl,q⟩
 ·cases (show u=Value.ref a from ru)
  obtain⟨its,rv',⟨o,h1,h2,_⟩,_⟩:=I.tuple hq
  exact PySem.W.kia_one PySem.W.kitx_tuple I.kIn ⟨o,h1,h2⟩ e (fun z=>nomatch z) fun tk=>⟨.bl b,H,I.tok tk,rfl,q⟩
end
theorem aJ.tup {K:PySem.W.Frag}{H H':Hp}{a:Addr}{xs:List V} (e:aJ H H') (h:bR K H a xs):bR K H' a xs:=by
 rcases h with (h | ⟨o,h⟩) | h
 ·exact .inl (.inl (e _ _ h))
 ·exact .inl (.inr ⟨o,e _ _ h⟩)
 ·exact .inr h
theorem aJ.new {H:Hp}{p:Addr}{o:HO} (h:H p=none):aJ H (upd H p o):=fun b u e=>by rw[aO (aQ e h)];exact e
section
variable {X:Cx}
end
inductive D where
 | non | bl (b:Bool) | int (i:Int) | str (x:Str) | tup (ds:List D)
mutual
noncomputable def Is (K:PySem.W.Frag) (H:Hp):D→V→Prop
 | .non,v=>v=.non
 | .bl b,v=>v=.bl b
 | .int i,v=>v=.int i
 | .str x,v=>v=.str x
 | .tup ds,v=>∃ a xs,v=.ref a∧bR K H a xs∧IsL K H ds xs
noncomputable def IsL (K:PySem.W.Frag) (H:Hp):List D→List V→Prop
 | [],xs=>xs=[]
 | d::ds,xs=>∃ x r,xs=x::r∧Is K H d x∧IsL K H ds r
end
noncomputable def bV (K:PySem.W.Frag) (H H':Hp):Prop:=∀ a xs,bR K H a xs→bR K H' a xs
theorem bV.refl {K:PySem.W.Frag} (H:Hp):bV K H H:=fun _ _ h=>h
theorem bV.trans {K:PySem.W.Frag}{H H1 H2:Hp} (a:bV K H H1) (b:bV K H1 H2):bV K H H2:=fun c xs h=>b c xs (a c xs h)
theorem aJ.ts {K:PySem.W.Frag}{H H':Hp} (e:aJ H H'):bV K H H':=fun _ _ h=>e.tup h
mutual
theorem Is.mono {K:PySem.W.Frag}{H H':Hp} (t:bV K H H'):∀ (d:D) (v:V),Is K H d v→Is K H' d v
 | .non,_,h=>h
 | .bl _,_,h=>h
 | .int _,_,h=>h
 | .str _,_,h=>h
 | .tup ds,v,h=>by
  rw[Is] at h ⊢
  obtain⟨a,xs,e,q,l⟩:=h
  exact⟨a,xs,e,t a xs q,IsL.mono t ds xs l⟩
theorem IsL.mono {K:PySem.W.Frag}{H H':Hp} (t:bV K H H'):∀ (ds:List D) (xs:List V),IsL K H ds xs→IsL K H' ds xs
 | [],xs,h=>h
 | d::ds,xs,h=>by
  rw[IsL] at h ⊢
  obtain⟨x,r,e,hx,hr⟩:=h
  exact⟨x,r,e,Is.mono t d x hx,IsL.mono t ds r hr⟩
end
theorem IsL.length {K:PySem.W.Frag}{H:Hp}:∀ {ds:List D}{xs:List V},IsL K H ds xs→xs.length=ds.length
 | [],xs,h=>by rw[IsL] at h;subst h;rfl
 | d::ds,xs,h=>by
  rw[IsL] at h
  obtain⟨x,r,rfl,_,hr⟩:=h
  rw[List.length_cons,List.length_cons,IsL.length hr]
theorem IsL.get {K:PySem.W.Frag}{H:Hp}:∀ {ds:List D}{xs:List V}{i:Nat}{d:D},IsL K H ds xs→ds[i]? = some d→∃ x,xs[i]? = some x∧Is K H d x
 | [],_,_,_,_,e=>by simp at e
 | d::ds,xs,0,d',h,e=>by
  rw[IsL] at h
  obtain⟨x,r,rfl,hx,hr⟩:=h
  simp at e
  subst e
  exact⟨x,rfl,hx⟩
 | d::ds,xs,i+1,d',h,e=>by
  rw[IsL] at h
  obtain⟨x,r,rfl,hx,hr⟩:=h
  obtain⟨y,h1,h2⟩:=IsL.get hr (i:=i) (by simpa using e)
  exact⟨y,by simpa using h1,h2⟩
theorem IsL.get' {K:PySem.W.Frag}{H:Hp}{ds:List D}{xs:List V}{i:Nat}{x:V} (h:IsL K H ds xs) (e:xs[i]? = some x):∃ d,ds[i]? = some d∧Is K H d x:=by
 have hl:=h.length
 have hi:i < ds.length:=by rw[← hl];exact (List.getElem?_eq_some_iff.mp e).1
 obtain⟨y,h1,h2⟩:=h.get (i:=i) (d:=ds[i]) (by simp [hi])
 rw[e] at h1
 cases h1
 exact⟨ds[i],by simp [hi],h2⟩
theorem IsL.snoc {K:PySem.W.Frag}{H:Hp}{d:D}{x:V} (hd:Is K H d x):∀ {ds:List D}{xs:List V},IsL K H ds xs→IsL K H (ds++[d]) (xs++[x])
 | [],xs,h=>by
  rw[IsL] at h
  subst h
  show IsL K H [d] [x]
  rw[IsL]
  exact⟨x,[],rfl,hd,by rw[IsL]⟩
 | d'::ds,xs,h=>by
  rw[IsL] at h
  obtain⟨y,r,rfl,hy,hr⟩:=h
  show IsL K H (d'::(ds++[d])) (y::(r++[x]))
  rw[IsL]
  exact⟨y,r++[x],rfl,hy,IsL.snoc hd hr⟩
theorem IsL.ints {K:PySem.W.Frag}{H:Hp}:∀ {ns:List Int}{xs:List V},IsL K H (ns.map D.int) xs→xs=ns.map V.int
 | [],xs,h=>by rw[List.map_nil,IsL] at h;exact h
 | n::ns,xs,h=>by
  rw[List.map_cons,IsL] at h
  obtain⟨x,r,rfl,hx,hr⟩:=h
  rw[Is] at hx
  rw[hx,IsL.ints hr,List.map_cons]
theorem IsL.of_ints {K:PySem.W.Frag}{H:Hp}:∀ (ns:List Int),IsL K H (ns.map D.int) (ns.map V.int)
 | []=>by rw[List.map_nil,List.map_nil,IsL]
 | n::ns=>by
  rw[List.map_cons,List.map_cons,IsL]
  exact⟨_,_,rfl,by rw[Is],IsL.of_ints ns⟩
section
variable {X:Cx}{pins:List (Addr×Obj)}{σ:St}{H:Hp}{s:Shared}
end
section
variable {X:Cx}
noncomputable def rIndex:V→List V→Hp→VK→Prop:=fun x vs H Q=>∃ (l:Addr) (xs:List V) (y:V) (j:Nat),x=.ref l∧vs=[y]∧H l=some (.lst xs)∧flatV y=true∧xs.all flatV=true∧j < xs.length∧(∀ z,xs[j]? = some z→eqV z y=true)∧(∀ i z,i < j→xs[i]? = some z→eqV z y=false)∧Q (.int j) H
theorem mt_index:MtM X "list.index" rIndex:=by
 intro pins s σ H x vs v us Q I rx rv h
 obtain⟨l,xs,y,j,rfl,rfl,hH,fy,fx,hj,h1,h2,q⟩:=h
 cases rx
 obtain⟨u,rfl,ru⟩:=rv.one
 obtain⟨z,its,n,r,hl,e⟩:=I.lstM hH
 have key:∀ i (hi:i < its.length),∃ x,xs[i]? = some x∧aY x its[i]∧flatV x=true:=fun i hi=>by
  have hx:xs[i]? = some xs[i]:=by simp [show i < xs.length by omega]
  obtain⟨w',h1,h2⟩:=r.get hx
  have:its[i]? = some its[i]:=by simp [hi]
  rw[this] at h1
  cases h1
  exact⟨_,hx,h2,(List.all_eq_true.mp fx) _ (List.getElem_mem _)⟩
 refine call_meets F.slot_list_index ⟨_,e,rfl⟩ F.entry_list_index (F.args_list_index_2 _ _)
  (SeqAt.list_indexAt l its.toArray n none #[] u (eqU y) j (by rw[List.size_toArray];omega) (by rw[sizeLine_eq] at z;omega) ?_ ?_) ⟨e,fun w' hw=>?_,⟨.int j,H,I.tok _,⟨_,rfl⟩,q⟩⟩
 ·obtain⟨x,hx,rx,fx'⟩:=key j (by omega)
  have:=eqU_of (x:=y) rx fx'
  show eqU y its[j]=true
  rw[this]
  exact h1 x hx
 ·intro i hi hlt
  have hi':i < its.length:=by simpa using hi
  obtain⟨x,hx,rx,fx'⟩:=key i hi'
  have:=eqU_of (x:=y) rx fx'
  show eqU y its[i]=false
  rw[this]
  exact h2 i x hlt hx
 ·exact mem_eqAt ru fy r fx w' (by simpa using hw)
end
end L2
namespace L2
open PySem PySem.Spec PyProof.Rows TwZ
structure Callee (P:Program) (w:World) (K:PySem.W.Frag) (mg:Str→Option Value) (base:Heap) (x:Str) (ps:List Str) (k:Nat) (sp:Sp) (f:Addr) (fd:FuncData):Prop where
 ok:FnOk P w K mg base CX0 k f fd ps sp
 mg:mg x=some (.ref f)
 kp:PySem.W.keepIn K (.ref f)=true
 bd:Binds K fd ps []
theorem d0 {X:Cx}{x:Str}{ps:List Str}{k n:Nat}{sp:Sp}{f:Addr}{fd:FuncData}{e:Expr}{es:List Expr}{t:TA}{p pos:Pos} (G:Callee X.prog X.w X.K X.mg X.base x ps k sp f fd) (hr:Room n X.A) (ha:PA X (e::es) t) (hg:Gl X x:=by rfl) (hle:k≤n:=by decide)
  (hdb:(x == ("__debug__" : Str))=false:=by decide) (he:starEach (e::es) X.env=(false,eval e X.env)::starEach es X.env:=by rfl) (hpl:(backTo pos (starEach es X.env)).any (·.1)=false:=by rfl) :
  PE X (.Call (.Name x p) (e::es) [] pos) (tCall sp [] E0 t):=pe_call G.ok (hr.mono hle) hg G.mg G.kp G.bd .nil pass0 ha hdb he hpl
theorem aZ:bootBuiltins "isinstance" = some (.builtin "isinstance"):=by decide +kernel
noncomputable def cE (t:Addr) (H H':Hp):Prop:=∀ b o,b≠t→H b=some o→H' b=some o
theorem cE.refl {t:Addr} (H:Hp):cE t H H:=fun _ _ _ h=>h
theorem cE.trans {t:Addr}{H H1 H2:Hp} (a:cE t H H1) (b:cE t H1 H2):cE t H H2:=fun c o hc h=>b c o hc (a c o hc h)
theorem aJ.but {t:Addr}{H H':Hp} (a:aJ H H'):cE t H H':=fun b o _ h=>a b o h
theorem cE.upd {t:Addr}{H:Hp}{o:HO}:cE t H (upd H t o):=fun b u hb h=>by rw[aO hb];exact h
theorem cE.ts {K:PySem.W.Frag}{t:Addr}{H H':Hp} (a:cE t H H') (hm:Mut (H t)):bV K H H':=by
 intro b xs h
 have ne:∀ {o:HO},H b=some o→¬ Mut (some o)→b≠t:=fun e n z=>by rw[← z,e] at hm;exact n hm
 rcases h with (h | ⟨o,h⟩) | h
 ·exact .inl (.inl (a _ _ (ne h (fun z=>z)) h))
 ·exact .inl (.inr ⟨o,a _ _ (ne h (fun z=>z)) h⟩)
 ·exact .inr h
theorem cE.free {t l:Addr}{H H':Hp} (a:cE t H H') (hl:l≠t) (h:H' l=none):H l=none:=by
 cases q:H l with
 | none=>rfl
 | some o=>rw[a l o hl q] at h;cases h
theorem atI_int {α:Type}{xs:List α}{k:Int}{v:α} (h0:0≤k) (h:xs[k.toNat]? = some v):atI xs k=some v:=by
 obtain⟨j,rfl⟩:=Int.eq_ofNat_of_zero_le h0
 exact cS (by simpa using h)
theorem Is.tupOf {K:PySem.W.Frag}{H:Hp}{ds:List D}{a:Addr}{xs:List V} (q:bR K H a xs) (l:IsL K H ds xs):Is K H (.tup ds) (.ref a):=by
 rw[Is];exact⟨a,xs,rfl,q,l⟩
theorem Is.un {K:PySem.W.Frag}{H:Hp}{ds:List D}{v:V} (h:Is K H (.tup ds) v):∃ a xs,v=.ref a∧bR K H a xs∧IsL K H ds xs:=by
 rw[Is] at h;exact h
theorem IsL.un {K:PySem.W.Frag}{H:Hp}{d:D}{ds:List D}{xs:List V} (h:IsL K H (d::ds) xs):∃ x r,xs=x::r∧Is K H d x∧IsL K H ds r:=by
 rw[IsL] at h;exact h
theorem IsL.un0 {K:PySem.W.Frag}{H:Hp}{xs:List V} (h:IsL K H [] xs):xs=[]:=by
 rw[IsL] at h;exact h
theorem IsL.cons {K:PySem.W.Frag}{H:Hp}{d:D}{ds:List D}{x:V}{xs:List V} (hd:Is K H d x) (h:IsL K H ds xs):IsL K H (d::ds) (x::xs):=by
 rw[IsL];exact⟨x,xs,rfl,hd,h⟩
theorem IsL.nil {K:PySem.W.Frag}{H:Hp}:IsL K H [] []:=by rw[IsL]
theorem Is.i {K:PySem.W.Frag}{H:Hp} (i:Int):Is K H (.int i) (.int i):=by rw[Is]
theorem Is.b {K:PySem.W.Frag}{H:Hp} (i:Bool):Is K H (.bl i) (.bl i):=by rw[Is]
theorem Is.s {K:PySem.W.Frag}{H:Hp} (i:Str):Is K H (.str i) (.str i):=by rw[Is]
theorem Is.n {K:PySem.W.Frag}{H:Hp}:Is K H .non .non:=by rw[Is]
theorem Is.ui {K:PySem.W.Frag}{H:Hp}{i:Int}{v:V} (h:Is K H (.int i) v):v=.int i:=by rw[Is] at h;exact h
theorem Is.ub {K:PySem.W.Frag}{H:Hp}{i:Bool}{v:V} (h:Is K H (.bl i) v):v=.bl i:=by rw[Is] at h;exact h
theorem Is.us {K:PySem.W.Frag}{H:Hp}{i:Str}{v:V} (h:Is K H (.str i) v):v=.str i:=by rw[Is] at h;exact h
theorem Is.u0 {K:PySem.W.Frag}{H:Hp}{v:V} (h:Is K H .non v):v=.non:=by rw[Is] at h;exact h
end L2
namespace Tw
open PySem L2
structure Vs where
 size:Int
 brim:Int
 outs:List (Option Int×Int)
 holds:Bool
 spill:Option Int
 acts:List (Str×Int)
noncomputable abbrev Spt:=Int×Int×Bool
structure Net where
 vs:List Vs
 sps:List Spt
noncomputable def tgD:Option Int→D
 | none=>.non
 | some i=>.int i
noncomputable def cK:Option Int→V
 | none=>.non
 | some i=>.int i
noncomputable def outD (o:Option Int×Int):D:=.tup [tgD o.1,.int o.2]
noncomputable def actD (a:Str×Int):D:=.tup [.str a.1,.int a.2]
noncomputable def vsD (v:Vs):D:=.tup [.int v.size,.int v.brim,.tup (v.outs.map outD),.bl v.holds,tgD v.spill,.tup (v.acts.map actD)]
noncomputable def spD (s:Spt):D:=.tup [.int s.1,.int s.2.1,.bl s.2.2]
noncomputable def netD (n:Net):D:=.tup [.tup (n.vs.map vsD),.tup (n.sps.map spD)]
theorem Is.tg {K:PySem.W.Frag}{H:Hp}{t:Option Int}{v:V} (h:Is K H (tgD t) v):v=cK t:=by
 cases t with
 | none=>exact h.u0
 | some i=>exact h.ui
theorem Is.tgOf {K:PySem.W.Frag}{H:Hp} (t:Option Int):Is K H (tgD t) (cK t):=by
 cases t with
 | none=>exact Is.n
 | some i=>exact Is.i i
structure OutOk (n:Nat) (o:Option Int×Int):Prop where
 tg:∀ t,o.1=some t→0≤t∧t < n
 lo:1≤o.2
 hi:o.2≤60
structure ActOk (m:Nat) (a:Str×Int):Prop where
 word:a.1 = "open" ∨ a.1 = "shut" ∨ a.1 = "turn"
 lo:0≤a.2
 hi:a.2 < m
structure VOk (n m:Nat) (v:Vs):Prop where
 size:1≤v.size
 ne:v.outs≠[]
 o3:v.outs.length≤3
 outs:∀ o∈v.outs,OutOk n o
 spill:∀ t,v.spill=some t→0≤t∧t < n
 a3:v.acts.length≤3
 acts:∀ a∈v.acts,ActOk m a
structure NetOk (net:Net):Prop where
 lo:1≤net.vs.length
 hi:net.vs.length≤12
 sp:net.sps.length≤12
 vs:∀ v∈net.vs,VOk net.vs.length net.sps.length v
 sps:∀ s∈net.sps,0≤s.1∧s.1 < net.vs.length
end Tw
namespace Tw
open PySem L2
noncomputable def vAt (net:Net) (k:Nat):Vs:=net.vs.getD k ⟨1,1,[],false,none,[]⟩
noncomputable def spAt (net:Net) (k:Int):Int:=(net.sps.getD k.toNat (0,0,false)).1
noncomputable def leadsN (net:Net) (v:Vs):List (Option Int):=v.outs.map (·.1)++[v.spill]++v.acts.map fun a=>some (spAt net a.2)
noncomputable def cF (net:Net) (x:Nat) (f:List Nat):Nat→List Nat
 | 0=>f
 | k+1=>if k∉cF net x f k∧some (x:Int)∈leadsN net (vAt net k) then cF net x f k++[k] else cF net x f k
theorem growT_succ (net:Net) (x:Nat) (f:List Nat) (k:Nat):cF net x f (k+1)=if k∉cF net x f k∧some (x:Int)∈leadsN net (vAt net k) then cF net x f k++[k] else cF net x f k:=rfl
theorem growT_pre (net:Net) (x:Nat) (f:List Nat):∀ k,∃ g,cF net x f k=f++g
 | 0=>⟨[],by rw[List.append_nil];rfl⟩
 | k+1=>by
  obtain⟨g,e⟩:=growT_pre net x f k
  rw[growT_succ]
  split
  ·exact⟨g++[k],by rw[e,List.append_assoc]⟩
  ·exact⟨g,e⟩
theorem growT_ok {net:Net}{x n:Nat}{f:List Nat} (nd:f.Nodup) (hf:∀ y∈f,y < n):∀ k,k≤n→(cF net x f k).Nodup∧∀ y∈cF net x f k,y < n
 | 0,_=>⟨nd,hf⟩
 | k+1,hk=>by
  obtain⟨h1,h2⟩:=growT_ok (net:=net) (x:=x) nd hf k (by omega)
  rw[growT_succ]
  split
  ·rename_i c
   refine⟨?_,fun y hy=>?_⟩
   ·rw[List.nodup_append]
    refine⟨h1,by simp,fun a ha b hb e=>?_⟩
    have:=List.mem_singleton.1 hb
    subst this e
    exact c.1 ha
   ·rcases List.mem_append.1 hy with z | z
    ·exact h2 y z
    ·have:=List.mem_singleton.1 z
     omega
  ·exact⟨h1,h2⟩
theorem d6:∀ (n:Nat) (l:List Nat),l.Nodup→(∀ y∈l,y < n)→l.length≤n
 | 0,[],_,_=>Nat.le_refl _
 | 0,x::l,_,h=>absurd (h x List.mem_cons_self) (Nat.not_lt_zero _)
 | n+1,l,nd,h=>by
  have ih:=d6 n (l.erase n) (nd.erase n) fun y hy=>by
   have h1:=nd.mem_erase_iff.1 hy
   have:=h y h1.2
   omega
  by_cases m:n∈l
  ·rw[List.length_erase_of_mem m] at ih
   omega
  ·rw[List.erase_of_not_mem m] at ih
   omega
noncomputable def walkM (net:Net):Nat→Nat→List Nat→List Nat
 | 0,_,f=>f
 | fuel+1,p,f=>match f[p]? with
  | none=>f
  | some x=>walkM net fuel (p+1) (cF net x f net.vs.length)
theorem walkM_go {net:Net}{fuel p x:Nat}{f:List Nat} (h:f[p]? = some x):walkM net (fuel+1) p f=walkM net fuel (p+1) (cF net x f net.vs.length):=by
 show (match f[p]? with | none=>f | some x=>walkM net fuel (p+1) (cF net x f net.vs.length))=_
 rw[h]
theorem walkM_end {net:Net}{fuel p:Nat}{f:List Nat} (h:f.length≤p):walkM net fuel p f=f:=by
 cases fuel with
 | zero=>rfl
 | succ fuel=>
  show (match f[p]? with | none=>f | some x=>walkM net fuel (p+1) (cF net x f net.vs.length))=_
  rw[List.getElem?_eq_none h]
noncomputable def matN (net:Net) (w:Nat):List Nat:=walkM net 13 0 [w]
structure WalkAt (net:Net) (w p:Nat) (f:List Nat):Prop where
 nd:f.Nodup
 lt:∀ y∈f,y < net.vs.length
 has:w∈f
 le:p≤f.length
 eq:walkM net (13 - p) p f=matN net w
theorem WalkAt.first {net:Net}{w:Nat} (h:w < net.vs.length):WalkAt net w 0 [w]:=
 ⟨by simp,fun y hy=>by have:=List.mem_singleton.1 hy;omega,List.mem_singleton.2 rfl,Nat.zero_le _,rfl⟩
theorem WalkAt.len {net:Net}{w p:Nat}{f:List Nat} (a:WalkAt net w p f):f.length≤net.vs.length:=d6 _ _ a.nd a.lt
theorem WalkAt.go {net:Net}{w p x:Nat}{f:List Nat} (a:WalkAt net w p f) (h12:net.vs.length≤12) (h:f[p]? = some x):WalkAt net w (p+1) (cF net x f net.vs.length):=by
 have hl:=a.len
 have hp:=(List.getElem?_eq_some_iff.mp h).1
 obtain⟨h1,h2⟩:=growT_ok (net:=net) (x:=x) a.nd a.lt net.vs.length (Nat.le_refl _)
 obtain⟨g,e⟩:=growT_pre net x f net.vs.length
 refine⟨h1,h2,by rw[e];exact List.mem_append_left _ a.has,by rw[e,List.length_append];omega,?_⟩
 rw[← a.eq,show 13 - p=(13 - (p+1))+1 by omega,walkM_go h]
theorem WalkAt.done {net:Net}{w p:Nat}{f:List Nat} (a:WalkAt net w p f) (h:f.length≤p):f=matN net w:=by
 rw[← a.eq,walkM_end h]
theorem mat_at {net:Net}{w:Nat} (h12:net.vs.length≤12):∀ (m p:Nat) (f:List Nat),WalkAt net w p f→13 - p=m→∃ p',WalkAt net w p' (matN net w)
 | 0,p,f,a,e=>by
  have:=a.len;have:=a.le
  omega
 | m+1,p,f,a,e=>by
  rcases Nat.lt_or_ge p f.length with z | z
  ·exact mat_at h12 m (p+1) _ (a.go h12 (List.getElem?_eq_getElem z)) (by omega)
  ·exact⟨p,a.done z ▸ a⟩
theorem mat_ok {net:Net}{w:Nat} (h12:net.vs.length≤12) (h:w < net.vs.length):(matN net w).Nodup∧(∀ y∈matN net w,y < net.vs.length)∧w∈matN net w:=by
 obtain⟨p,a⟩:=mat_at h12 13 0 _ (WalkAt.first h) rfl
 exact⟨a.nd,a.lt,a.has⟩
end Tw
namespace Tw
open PySem L2
noncomputable def bH (i:Nat):Stmt:=PySem.Challenge.pw_tipwell_k21_what_matters.main.body.getD i (.Pass ⟨0,0,0,0⟩)
structure Txt (mg:Str→Option Value):Prop where
 b_len:mg "len" = none
 b_sum:mg "sum" = none
 b_all:mg "all" = none
 b_max:mg "max" = none
 b_min:mg "min" = none
 b_int:mg "int" = none
 b_tuple:mg "tuple" = none
 b_list:mg "list" = none
 b_bool:mg "bool" = none
 b_range:mg "range" = none
 b_zip:mg "zip" = none
 b_enumerate:mg "enumerate" = none
 b_isinstance:mg "isinstance" = none
 b_divmod:mg "divmod" = none
 b_set:mg "set" = none
 b_sorted:mg "sorted" = none
section
variable {P:Program}{w:World}{K:PySem.W.Frag}{mg:Str→Option Value}{base:Heap}
end
end Tw
namespace L2
open PySem PySem.Spec PyProof.Rows TwZ
section
variable {K:PySem.W.Frag}{g:TG}{tc:TT}{te:TE}{fr:List (Option Nat)}{σ:St}{H1:Hp}{Q:Addr→Hp→Prop}
theorem lc_tup {a:Addr}{xs:List V} (Pv:Addr→Nat→List V→St→Hp→Prop) (hq:∀ D i ys σ H,Pv D i ys σ H→bR K H a xs)
  (h0:∀ D,H1 D=none→Pv D 0 [] (frσ fr σ) (upd H1 D (.lst []))) (hstop:∀ D ys σ' H',Pv D xs.length ys σ' H'→Q D H')
  (hgo:∀ D i x ys σ' H',xs[i]? = some x→Pv D i ys σ' H'→g x σ' H' fun σ3 H3=>tc σ3 H3 fun b H4=>
    if b=true then te σ3 H4 fun y H5=>H5 D=some (.lst ys)∧ys.length < sizeLine∧Pv D (i+1) (ys++[y]) σ3 (upd H5 D (.lst (ys++[y])))
    else Pv D (i+1) ys σ3 H4):lcRest (Itt K a) g tc te fr σ H1 Q:=by
 refine lc_gen (n:=xs.length) Pv h0 (fun D ys σ' H' p=>⟨⟨xs,hq D _ ys σ' H' p,Nat.le_refl _⟩,hstop D ys σ' H' p⟩) fun D i ys σ' H' hi p=>⟨⟨xs,xs[i],hq D _ ys σ' H' p,by simp [hi]⟩,fun x H2 y=>?_⟩
 obtain⟨e,y⟩:=y
 subst e
 exact hgo D i x ys σ' _ (y xs (hq D _ ys σ' _ p)) p
theorem lc_list {a:Addr}{xs:List V} (Pv:Addr→Nat→List V→St→Hp→Prop) (hq:∀ D i ys σ H,Pv D i ys σ H→bT K H a xs)
  (h0:∀ D,H1 D=none→Pv D 0 [] (frσ fr σ) (upd H1 D (.lst []))) (hstop:∀ D ys σ' H',Pv D xs.length ys σ' H'→Q D H')
  (hgo:∀ D i x ys σ' H',xs[i]? = some x→Pv D i ys σ' H'→g x σ' H' fun σ3 H3=>tc σ3 H3 fun b H4=>
    if b=true then te σ3 H4 fun y H5=>H5 D=some (.lst ys)∧ys.length < sizeLine∧Pv D (i+1) (ys++[y]) σ3 (upd H5 D (.lst (ys++[y])))
    else Pv D (i+1) ys σ3 H4):lcRest (Itl K a) g tc te fr σ H1 Q:=by
 refine lc_gen (n:=xs.length) Pv h0 (fun D ys σ' H' p=>⟨⟨xs,hq D _ ys σ' H' p,Nat.le_refl _⟩,hstop D ys σ' H' p⟩) fun D i ys σ' H' hi p=>⟨⟨xs,xs[i],hq D _ ys σ' H' p,by simp [hi]⟩,fun x H2 y=>?_⟩
 obtain⟨e,y⟩:=y
 subst e
 exact hgo D i x ys σ' _ (y xs (hq D _ ys σ' _ p)) p
theorem lc_range {n:Nat} (Pv:Addr→Nat→List V→St→Hp→Prop)
  (h0:∀ D,H1 D=none→Pv D 0 [] (frσ fr σ) (upd H1 D (.lst []))) (hstop:∀ D ys σ' H',Pv D n ys σ' H'→Q D H')
  (hgo:∀ D i ys σ' H',i < n→Pv D i ys σ' H'→g (.int (i:Int)) σ' H' fun σ3 H3=>tc σ3 H3 fun b H4=>
    if b=true then te σ3 H4 fun y H5=>H5 D=some (.lst ys)∧ys.length < sizeLine∧Pv D (i+1) (ys++[y]) σ3 (upd H5 D (.lst (ys++[y])))
    else Pv D (i+1) ys σ3 H4):lcRest (Itr 0 n) g tc te fr σ H1 Q:=by
 refine lc_gen (n:=n) Pv h0 (fun D ys σ' H' p=>⟨Nat.le_refl _,hstop D ys σ' H' p⟩) fun D i ys σ' H' hi p=>⟨hi,fun x H2 y=>?_⟩
 obtain⟨e,y⟩:=y
 subst e y
 rw[Int.zero_add]
 exact hgo D i ys σ' _ hi p
end
section
variable {K:PySem.W.Frag}{g:TG}{tb:TS}{D:Ends}{σ:St}{H:Hp}
noncomputable abbrev ForRest (J:It) (g:TG) (tb:TS) (D:Ends) (σ:St) (H:Hp):Prop:=
 ∃ W:Nat→Nat→St→Hp→Prop,(∃ m,W 0 m σ H)∧∀ i m σ H,W i m σ H→
   (J.stop i H∧D.nx σ H)∨(J.go i H∧∃ N:St→Hp→Prop,(∀ σ' H',N σ' H'→∃ m',m' < m∧W (i+1) m' σ' H')∧∀ x H',J.yld i H x H'→g x σ H' fun σ2 H2=>tb { D with nx:=N,ct:=N,bk:=D.nx } σ2 H2)
theorem for_enum {t:Bool}{a:Addr}{xs:List V} (Pv:Nat→St→Hp→Prop) (hq:∀ i σ H,Pv i σ H→SqB K H t a xs)
  (h0:Pv 0 σ H) (hstop:∀ σ H,Pv xs.length σ H→D.nx σ H)
  (hgo:∀ i x σ H T,xs[i]? = some x→Pv i σ H→H T=none→g (.ref T) σ (upd H T (.tup [.int (i:Int),x])) fun σ2 H2=>tb { D with nx:=Pv (i+1),ct:=Pv (i+1),bk:=D.nx } σ2 H2):ForRest (Ite K t a) g tb D σ H:=by
 refine for_gen (n:=xs.length) Pv h0 (fun σ H p=>?_) fun i σ H hi p=>?_
 ·exact⟨⟨xs,hq _ σ H p,Nat.le_refl _⟩,hstop σ H p⟩
 ·refine⟨⟨xs,xs[i],hq _ σ H p,by simp [hi]⟩,?_⟩
  rintro v H2 ⟨T,x,hT,rfl,e1,rfl⟩
  exact hgo i x σ H T (e1 xs (hq _ σ H p)) p hT
end
theorem yes_of {σ:St}{H:Hp}{A B:Hp→Prop} (h:A H):tYes σ H fun b H4=>if b=true then A H4 else B H4:=by
 show if true=true then A H else B H
 rw[if_pos rfl];exact h
theorem name_yes {i:Nat}{v:V}{σ:St}{H:Hp}{A B:St→Hp→Prop} (h:A (σ.set i (some v)) H):cY i v σ H fun σ3 H3=>tYes σ3 H3 fun b H4=>if b=true then A σ3 H4 else B σ3 H4:=yes_of (σ:=σ.set i (some v)) (A:=A (σ.set i (some v))) (B:=B (σ.set i (some v))) h
theorem aJ.put {H H':Hp}{p:Addr}{o:HO} (a:aJ H H') (h:H p=none):aJ H (upd H' p o):=fun b u e=>by rw[aO (aQ e h)];exact a b u e
theorem bV.put {K:PySem.W.Frag}{H H':Hp}{p:Addr}{o:HO} (a:bV K H H') (h:H' p=none∨Mut (H' p)):bV K H (upd H' p o):=a.trans (by
 rcases h with h | h
 ·exact (aJ.new h).ts
 ·exact cE.ts cE.upd h)
noncomputable def CDivB (i j:Int):Prop:=0 < j∧j < 2 ^ 200
theorem op_fdivB {X:Cx}:OpR X (binaryOp .FloorDiv) (rI CDivB fun i j=>.int (i / j)):=opI fun i j _ _ _ _ _ hc q=>by
 have h1:(0:Int) < j:=hc.1
 have h2:j < 2 ^ 200:=hc.2
 refine floordiv_int (by omega) (by rw[Int.fdiv_eq_ediv_of_nonneg i (by omega)];exact q) (.inl (PyProof.noPylong_of_log2 ?_))
 have h0:j.natAbs≠0:=by omega
 have h3:j.natAbs < 2 ^ 200:=by omega
 have:=(Nat.log2_lt h0).mpr h3
 omega
theorem bt_int:bootBuiltins "int" = some (.type "int"):=by decide +kernel
theorem bG:bootBuiltins "tuple" = some (.type "tuple"):=by decide +kernel
theorem bt_list:bootBuiltins "list" = some (.type "list"):=by decide +kernel
theorem bt_bool:bootBuiltins "bool" = some (.type "bool"):=by decide +kernel
section
variable {X:Cx}{K:PySem.W.Frag}{tg:Expr}{pos:Pos}
theorem bN {es:List Expr}{k:Nat}{t:TGs}{n:Nat} (hK:X.K=K) (hc:X.calm=true) (h:PGs X es t)
  (hn:(assignEach es X.env).length=n:=by rfl) (hst:(assignEach es X.env).findIdx? (·.1)=none:=by rfl):PG X (.Tuple es k pos) (gTup K n t):=by
 subst hK;exact pg_tup hc h hn hst
theorem aG (hK:X.K=K):IxR X (rIx K):=by subst hK;exact ix_seq
noncomputable def rLen (K:PySem.W.Frag):List V→Hp→VK→Prop:=fun xs H Q=>∃ p ys,xs=[.ref p]∧(bT K H p ys∨bR K H p ys)∧Q (.int ys.length) H
theorem aW (hK:X.K=K):d8 X (.builtin "len") (rLen K):=by subst hK;exact call_len_seq
theorem call_allK (hK:X.K=K) (hc:X.calm=true):d8 X (.builtin "all") (rAll K):=by subst hK;exact call_allB hc
theorem bO (hK:X.K=K):d8 X (.builtin "isinstance") (rIsi K):=by subst hK;exact call_isi
noncomputable def rTupOf (K:PySem.W.Frag):List V→Hp→VK→Prop:=fun xs H Q=>∃ p ys,xs=[.ref p]∧((bT K H p ys∧∀ l,H l=none→Q (.ref l) (upd H l (.tup ys)))∨(bR K H p ys∧Q (.ref p) H))
theorem bP (hK:X.K=K):d8 X (.type "tuple") (rTupOf K):=by subst hK;exact call_tuple_of
noncomputable def rLstOf (K:PySem.W.Frag):List V→Hp→VK→Prop:=fun xs H Q=>∃ p ys,xs=[.ref p]∧(bT K H p ys∨bR K H p ys)∧∀ l,H l=none→Q (.ref l) (upd H l (.lst ys))
theorem call_lstK (hK:X.K=K):d8 X (.type "list") (rLstOf K):=by subst hK;exact call_list_of
theorem pi_listK {l:Expr}{tl:TE} (hK:X.K=K) (hl:PE X l tl):PI X tg l (iList K tl):=by subst hK;exact pi_list hl
theorem cJ {l:Expr}{tl:TE} (hK:X.K=K) (hl:PE X l tl):PI X tg l (iTup K tl):=by subst hK;exact pi_tup hl
theorem pi_enumK {a:Expr}{ta:TA}{p:Pos} (hK:X.K=K) (hg:Gl X "enumerate") (hm:X.mg "enumerate" = none) (ha:PA X [a] ta) (hs:starEach [a] X.env=[(false,eval a X.env)]:=by rfl):PI X tg (.Call (.Name "enumerate" p) [a] [] pos) (iEnum K ta):=by
 subst hK;exact pi_enum hg hm ha hs
theorem pe_bmK {o e:Expr}{es:List Expr}{to:TE}{t:TA}{name:Str}{apos cpos:Pos}{T id:String}{r:V→List V→Hp→VK→Prop} (hK:X.K=K)
  (pa:PlainAttrs T) (slot:Slot T name id) (hty:typeOf (.builtin id)=pure (.type "method_descriptor")) (hm:MtR X id r) (ho:PE X o to) (ha:PA X (e::es) t)
  (hbase:attributeBase o name X.env (eval o X.env)=eval o X.env:=by rfl)
  (hfew:((backTo cpos (starEach (e::es) X.env)).all (fun x=>!x.1) && (backToKw cpos (keywordEach [] X.env)).all (fun x=>x.1.isSome)
   && decide ((e::es).length+([]:List Keyword).length+(if ([]:List Keyword).isEmpty then 0 else 1) < 30))=true:=by rfl)
  (hline:(apos.endLine == cpos.line)=true:=by rfl) (hs:starEach (e::es) X.env=(false,eval e X.env)::starEach es X.env:=by rfl) (hplain:(backTo cpos (starEach es X.env)).any (·.1)=false:=by rfl) :
  PE X (.Call (.Attribute o name apos) (e::es) [] cpos) (tBM K T r to t):=by subst hK;exact pe_bm pa slot hty hm ho ha hbase hfew hline hs hplain
end
end L2
namespace Tw
open PySem L2
section
variable {P:Program}{w:World}{K:PySem.W.Frag}{mg:Str→Option Value}{base:Heap}
theorem outs_at {H:Hp}{outs:List (Option Int×Int)}{xs:List V}{i:Nat}{x:V} (l:IsL K H (outs.map outD) xs) (h:xs[i]? = some x) :
  ∃ o,outs[i]? = some o∧∃ a,x=.ref a∧bR K H a [cK o.1,.int o.2]:=by
 obtain⟨d,hd,hx⟩:=l.get' h
 rw[List.getElem?_map] at hd
 cases e:outs[i]? with
 | none=>rw[e] at hd;cases hd
 | some o=>
  rw[e] at hd
  cases hd
  refine⟨o,rfl,?_⟩
  obtain⟨a,ys,rfl,q,l⟩:=(show Is K H (.tup [tgD o.1,.int o.2]) x from hx).un
  obtain⟨y,r,rfl,hy,l⟩:=l.un
  obtain⟨z,r,rfl,hz,l⟩:=l.un
  have:=l.un0
  subst this
  rw[Is.tg hy,hz.ui] at q
  exact⟨a,rfl,q⟩
theorem vs_un {H:Hp}{v:Vs}{x:V} (h:Is K H (vsD v) x):∃ (a:Addr) (o c:V),x=.ref a∧bR K H a [.int v.size,.int v.brim,o,.bl v.holds,cK v.spill,c]∧Is K H (.tup (v.outs.map outD)) o∧Is K H (.tup (v.acts.map actD)) c:=by
 obtain⟨a,xs,rfl,q,l⟩:=(show Is K H (.tup [.int v.size,.int v.brim,.tup (v.outs.map outD),.bl v.holds,tgD v.spill,.tup (v.acts.map actD)]) x from h).un
 obtain⟨x1,r,rfl,h1,l⟩:=l.un
 obtain⟨x2,r,rfl,h2,l⟩:=l.un
 obtain⟨x3,r,rfl,h3,l⟩:=l.un
 obtain⟨x4,r,rfl,h4,l⟩:=l.un
 obtain⟨x5,r,rfl,h5,l⟩:=l.un
 obtain⟨x6,r,rfl,h6,l⟩:=l.un
 have:=l.un0
 subst this
 rw[h1.ui,h2.ui,h4.ub,Is.tg h5] at q
 exact⟨a,x3,x6,rfl,q,h3,h6⟩
end
end Tw
namespace Tw
open PySem L2
section
variable {P:Program}{w:World}{K:PySem.W.Frag}{mg:Str→Option Value}{base:Heap}
theorem acts_at {H:Hp}{acts:List (Str×Int)}{xs:List V}{i:Nat}{x:V} (l:IsL K H (acts.map actD) xs) (h:xs[i]? = some x) :
  ∃ o,acts[i]? = some o∧∃ a,x=.ref a∧bR K H a [.str o.1,.int o.2]:=by
 obtain⟨d,hd,hx⟩:=l.get' h
 rw[List.getElem?_map] at hd
 cases e:acts[i]? with
 | none=>rw[e] at hd;cases hd
 | some o=>
  rw[e] at hd
  cases hd
  refine⟨o,rfl,?_⟩
  obtain⟨a,ys,rfl,q,l⟩:=(show Is K H (.tup [.str o.1,.int o.2]) x from hx).un
  obtain⟨y,r,rfl,hy,l⟩:=l.un
  obtain⟨z,r,rfl,hz,l⟩:=l.un
  have:=l.un0
  subst this
  rw[hy.us,hz.ui] at q
  exact⟨a,rfl,q⟩
end
end Tw
namespace Tw
open PySem L2
section
variable {P:Program}{w:World}{K:PySem.W.Frag}{mg:Str→Option Value}{base:Heap}
theorem sps_at {H:Hp}{sps:List Spt}{xs:List V}{i:Nat}{x:V} (l:IsL K H (sps.map spD) xs) (h:xs[i]? = some x) :
  ∃ s,sps[i]? = some s∧∃ a,x=.ref a∧bR K H a [.int s.1,.int s.2.1,.bl s.2.2]:=by
 obtain⟨d,hd,hx⟩:=l.get' h
 rw[List.getElem?_map] at hd
 cases e:sps[i]? with
 | none=>rw[e] at hd;cases hd
 | some o=>
  rw[e] at hd
  cases hd
  refine⟨o,rfl,?_⟩
  obtain⟨a,ys,rfl,q,l⟩:=(show Is K H (.tup [.int o.1,.int o.2.1,.bl o.2.2]) x from hx).un
  obtain⟨y,r,rfl,hy,l⟩:=l.un
  obtain⟨z,r,rfl,hz,l⟩:=l.un
  obtain⟨z2,r,rfl,hz2,l⟩:=l.un
  have:=l.un0
  subst this
  rw[hy.ui,hz.ui,hz2.ub] at q
  exact⟨a,rfl,q⟩
end
end Tw
namespace Tw
open PySem L2
section
variable {P:Program}{w:World}{K:PySem.W.Frag}{mg:Str→Option Value}{base:Heap}
theorem net_un {H:Hp}{net:Net}{x:V} (h:Is K H (netD net) x):∃ (a b c:Addr) (xs ys:List V),x=.ref a∧bR K H a [.ref b,.ref c]∧bR K H b xs∧IsL K H (net.vs.map vsD) xs∧bR K H c ys∧IsL K H (net.sps.map spD) ys:=by
 obtain⟨a,zs,rfl,q,l⟩:=(show Is K H (.tup [.tup (net.vs.map vsD),.tup (net.sps.map spD)]) x from h).un
 obtain⟨x1,r,rfl,h1,l⟩:=l.un
 obtain⟨x2,r,rfl,h2,l⟩:=l.un
 have:=l.un0
 subst this
 obtain⟨b,xs,rfl,q1,l1⟩:=h1.un
 obtain⟨c,ys,rfl,q2,l2⟩:=h2.un
 exact⟨a,b,c,xs,ys,rfl,q,q1,l1,q2,l2⟩
end
end Tw
namespace Tw
open PySem L2
section
variable {P:Program}{w:World}{K:PySem.W.Frag}{mg:Str→Option Value}{base:Heap}
noncomputable def d7 (H:Hp) (t sl:Addr):Prop:=∃ (ns:List Int) (pos cell:Int),H t=some (.lst [.ref sl,.int pos,.int cell])∧H sl=some (.lst (ns.map V.int))∧ns.length≤1000
theorem d7.mut {H:Hp}{t sl:Addr} (h:d7 H t sl):Mut (H t):=by obtain⟨ns,pos,cell,e,_⟩:=h;rw[e];exact trivial
theorem d7.same {H H':Hp}{t sl:Addr} (h:d7 H t sl) (s:aJ H H'):d7 H' t sl:=by
 obtain⟨ns,pos,cell,e,f,g⟩:=h;exact⟨ns,pos,cell,s _ _ e,s _ _ f,g⟩
noncomputable def spDraw:Sp:=fun vs H Q _=>∃ (t sl:Addr) (many:Int),vs=[.ref t,.int many]∧d7 H t sl∧0 < many∧many < 1000000∧
 ∀ (r:Int) H',cE t H H'→d7 H' t sl→0≤r→r < many→Q (.int r) H'
noncomputable def spDrawB:Sp:=fun vs H Q _=>∃ (t sl:Addr) (many:Int),vs=[.ref t,.int many]∧d7 H t sl∧0 < many∧many < 2 ^ 200∧
 ∀ (r:Int) H',cE t H H'→d7 H' t sl→0≤r→r < many→Q (.int r) H'
noncomputable abbrev rdTail (K:PySem.W.Frag):TS:=tSeq (tAsg (tOp (rI (fun _ j=>0 < j) fun i j=>.int (i % j)) (tOp (rIx K) (cL 0) (tC (.int 2))) (cL 1)) (cY 4)) (tSeq (tAsg (tOp (rI CDivB fun i j=>.int (i / j)) (tOp (rIx K) (cL 0) (tC (.int 2))) (cL 1)) (gSub (cL 0) (tC (.int 2)) rSetL)) (tRet (cL 4)))
noncomputable abbrev rdMid (K:PySem.W.Frag):TS:=tSeq (tAsg (tOp (rI0 fun i j=>.int (i+j)) (tOp (rIx K) (cL 0) (tC (.int 1))) (tC (.int 1))) (gSub (cL 0) (tC (.int 1)) rSetL)) (tAsg (cL 3) (gSub (cL 0) (tC (.int 2)) rSetL))
noncomputable abbrev rdBody (K:PySem.W.Frag):TS:=tSeq (tAsg (tOp (rI (fun _ j=>0 < j) fun i j=>.int (i % j)) (tOp (rI0 fun i j=>.int (i+j)) (cL 3) (tOp (rI CMul fun i j=>.int (i * j)) (tC (.int 1000003)) (tOp (rIx K) (cL 0) (tC (.int 1))))) (cL 2)) (cY 3)) (tSeq (tAsg (tOp (rI (fun _ j=>0 < j) fun i j=>.int (i % j)) (tOp (rI0 fun i j=>.int (i+j)) (tOp (rI0 fun i j=>.int (i+j)) (tOp (rI CMul fun i j=>.int (i * j)) (cL 3) (cL 3)) (tOp (rI CMul fun i j=>.int (i * j)) (tC (.int 1181783497276652981)) (cL 3))) (tC (.int 2049848353892358983))) (cL 2)) (cY 3)) (tAsg (tOp (rI (fun _ j=>0 < j) fun i j=>.int (i % j)) (tOp (rI0 fun i j=>.int (i+j)) (tOp (rI CMul fun i j=>.int (i * j)) (cL 3) (cL 3)) (tC (.int 1442695040888963407))) (cL 2)) (cY 3)))
noncomputable abbrev rdTest (K:PySem.W.Frag):TT:=tOr (tTest (tOp (rI0 fun i j=>.bl (decide (j≤i))) (tOp (rIx K) (cL 0) (tC (.int 1))) (tCB (rLen K) (cA (tOp (rIx K) (cL 0) (tC (.int 0))) tNil)))) (tTest (tOp (rI0 fun i j=>.bl (decide (i < j))) (cL 3) (tOp (rI CPow fun i j=>.int (i ^ j.toNat)) (tC (.int 10)) (tC (.int 18)))))
noncomputable abbrev dE (Q:VK):Ends:={ nx:=fun _ H'=>Q .non H',rt:=Q }
theorem sc__law_draw:FnScope ["tape","many","prime","cell","found"] ["tape","many"] (aK (bH 22)):=⟨rfl,rfl,rfl,by decide +kernel,rfl,by decide +kernel,by decide +kernel⟩
theorem ok__law_drawB {f:Addr}{fd:FuncData} (F:Fun K "_law_draw" "_law_draw" (bH 22) f fd) (T:Txt mg):FnOk P w K mg base CX0 1 f fd ["tape","many"] spDrawB:=by
 refine F.ok sc__law_draw (fun vs H Q E h=>?_) (fun cdv A outer s H vs Q E hr h=>?_)
 ·obtain⟨t,sl,many,rfl,_⟩:=h;rfl
 ·obtain⟨t,sl,many,rfl,⟨ns,pos,cell,ht,hsl,hns⟩,hm0,hm1,k⟩:=h
  have sc:=sc__law_draw
  refine⟨_,(aE (aP (i:=2) sc.nd rfl (Or.inl rfl) aD)
   (aE (cB (aS op_lt (aM (aG (K:=K) rfl) (pv 0) aD (fun _ _=>rfl)) (pv 1) (bK _)) (aE (aP (i:=3) sc.nd rfl (Or.inl rfl) aD)
   (aE (cB (aS op_gt (aL (aW (K:=K) rfl) rfl T.b_len PySem.boot_len (aA (aM (aG (K:=K) rfl) (pv 0) aD (fun _ _=>rfl)) aB)) aD (bK _)) (aI (aP (i:=3) sc.nd rfl (Or.inl rfl) (aM (aG (K:=K) rfl) (aM (aG (K:=K) rfl) (pv 0) aD (fun _ _=>rfl)) (aU op_mod (aM (aG (K:=K) rfl) (pv 0) aD (fun _ _=>rfl)) (aL (aW (K:=K) rfl) rfl T.b_len PySem.boot_len (aA (aM (aG (K:=K) rfl) (pv 0) aD (fun _ _=>rfl)) aB))) (fun _ _=>rfl)))) bB)
   (aE (cB (PW.pt (cU (aS op_ge (aM (aG (K:=K) rfl) (pv 0) aD (fun _ _=>rfl)) (aL (aW (K:=K) rfl) rfl T.b_len PySem.boot_len (aA (aM (aG (K:=K) rfl) (pv 0) aD (fun _ _=>rfl)) aB)) (bK _)) (cP (aS op_lt (pv 3) (aU op_pow aD aD) (bK _))))) (aE (aP (i:=3) sc.nd rfl (Or.inl rfl) (aU op_mod (aU cM (pv 3) (aU op_mul aD (aM (aG (K:=K) rfl) (pv 0) aD (fun _ _=>rfl)))) (pv 2)))
   (aE (aP (i:=3) sc.nd rfl (Or.inl rfl) (aU op_mod (aU cM (aU cM (aU op_mul (pv 3) (pv 3)) (aU op_mul aD (pv 3))) aD) (pv 2)))
   (aI (aP (i:=3) sc.nd rfl (Or.inl rfl) (aU op_mod (aU cM (aU op_mul (pv 3) (pv 3)) aD) (pv 2)))))) bB)
   (aE (ps_asg (aU cM (aM (aG (K:=K) rfl) (pv 0) aD (fun _ _=>rfl)) aD) (pg_sub (pv 0) aD set_list))
   (aI (ps_asg (pv 3) (pg_sub (pv 0) aD set_list))))))) bB)
   (aE (aP (i:=4) sc.nd rfl (Or.inl rfl) (aU op_mod (aM (aG (K:=K) rfl) (pv 0) aD (fun _ _=>rfl)) (pv 1)))
   (aE (ps_asg (aU op_fdivB (aM (aG (K:=K) rfl) (pv 0) aD (fun _ _=>rfl)) (pv 1)) (pg_sub (pv 0) aD set_list))
   (aI (aX (pv 4))))))),?_⟩
  have nst:sl≠t:=ne_of hsl ht (by intro z;injection z with z;cases ns <;> simp at z)
  have ix:∀ {H1:Hp}{p' c':Int}{Q:VK},H1 t=some (.lst [.ref sl,.int p',.int c'])→Q (.ref sl) H1→rIx K (.ref t) (.int 0) H1 Q:=fun e q=>.inl ⟨t,_,0,_,rfl,rfl,bT.of e,rfl,q⟩
  have ix1:∀ {H1:Hp}{p' c':Int}{Q:VK},H1 t=some (.lst [.ref sl,.int p',.int c'])→Q (.int p') H1→rIx K (.ref t) (.int 1) H1 Q:=fun e q=>.inl ⟨t,_,1,_,rfl,rfl,bT.of e,rfl,q⟩
  have ix2:∀ {H1:Hp}{p' c':Int}{Q:VK},H1 t=some (.lst [.ref sl,.int p',.int c'])→Q (.int c') H1→rIx K (.ref t) (.int 2) H1 Q:=fun e q=>.inl ⟨t,_,2,_,rfl,rfl,bT.of e,rfl,q⟩
  have tail:∀ (v3:Option V) (H1:Hp) (p' c':Int),cE t H H1→H1 t=some (.lst [.ref sl,.int p',.int c'])→rdTail K (dE Q) [some (.ref t),some (.int many),some (.int 2305843009213693951),v3,none] H1:=by
   intro v3 H1 p' c' bt e
   refine⟨_,rfl,ix2 e ⟨_,rfl,_,_,rfl,rfl,hm0,?_⟩⟩
   refine⟨_,rfl,ix2 e ⟨_,rfl,_,_,rfl,rfl,⟨hm0,hm1⟩,_,rfl,t,_,2,2,rfl,rfl,e,rfl,_,rfl,?_⟩⟩
   refine k _ _ (bt.trans cE.upd) ⟨ns,p',c' / many,aC,?_,hns⟩ (Int.emod_nonneg _ (by omega)) (Int.emod_lt_of_pos _ hm0)
   rw[aO nst];exact bt sl _ nst hsl
  refine⟨_,rfl,ix2 ht ⟨_,rfl,_,_,rfl,rfl,_,rfl,?_⟩⟩
  refine ite2 (fun _=>?_) (fun _=>tail none H pos cell (cE.refl H) ht)
  have mid:∀ (c':Int),rdMid K { nx:=rdTail K (dE Q),rt:=Q } [some (.ref t),some (.int many),some (.int 2305843009213693951),some (.int c'),none] H:=by
   intro c'
   refine⟨_,rfl,ix1 ht ⟨_,_,rfl,rfl,_,rfl,t,_,1,1,rfl,rfl,ht,rfl,?_⟩⟩
   refine⟨_,rfl,_,rfl,t,_,2,2,rfl,rfl,aC,rfl,?_⟩
   exact tail (some (.int c')) _ (pos+1) c' (cE.upd.trans cE.upd) aC
  have big:∀ (c':Int),tSeq (tIfS (rdTest K) (rdBody K) tNext) (rdMid K) { nx:=rdTail K (dE Q),rt:=Q } [some (.ref t),some (.int many),some (.int 2305843009213693951),some (.int c'),none] H:=by
   intro c'
   have body:∀ σ,σ=[some (.ref t),some (.int many),some (.int 2305843009213693951),some (.int c'),none]→rdBody K { nx:=rdMid K { nx:=rdTail K (dE Q),rt:=Q },rt:=Q } σ H:=by
    rintro σ rfl
    have prime:(0:Int) < 2305843009213693951:=by decide
    refine⟨_,rfl,_,rfl,ix1 ht ⟨_,_,rfl,rfl,.inl ⟨by decide,by decide⟩,_,_,rfl,rfl,_,rfl,_,_,rfl,rfl,prime,?_⟩⟩
    have b1:=Int.emod_nonneg (c'+1000003 * pos) (show (2305843009213693951:Int)≠0 by decide)
    have b2:=Int.emod_lt_of_pos (c'+1000003 * pos) prime
    generalize (c'+1000003 * pos) % 2305843009213693951=c1 at b1 b2
    refine⟨_,rfl,_,rfl,_,_,rfl,rfl,.inl ⟨by omega,by omega⟩,_,rfl,_,_,rfl,rfl,.inl ⟨by decide,by decide⟩,_,_,rfl,rfl,_,_,rfl,rfl,_,rfl,_,_,rfl,rfl,prime,?_⟩
    have b3:=Int.emod_nonneg (c1 * c1+1181783497276652981 * c1+2049848353892358983) (show (2305843009213693951:Int)≠0 by decide)
    have b4:=Int.emod_lt_of_pos (c1 * c1+1181783497276652981 * c1+2049848353892358983) prime
    generalize (c1 * c1+1181783497276652981 * c1+2049848353892358983) % 2305843009213693951=c2 at b3 b4
    refine⟨_,rfl,_,rfl,_,_,rfl,rfl,.inl ⟨by omega,by omega⟩,_,_,rfl,rfl,_,rfl,_,_,rfl,rfl,prime,?_⟩
    exact mid _
   refine⟨_,rfl,ix1 ht ⟨_,rfl,ix ht ⟨sl,_,rfl,.inl (bT.of hsl),_,_,rfl,rfl,_,rfl,?_⟩⟩⟩
   refine ite2 (fun _=>?_) (fun _=>?_)
   ·refine iteT ?_
    exact body _ rfl
   ·refine⟨_,rfl,_,_,rfl,rfl,⟨by decide,by decide,by decide⟩,_,_,rfl,rfl,_,rfl,?_⟩
    refine ite2 (fun _=>body _ rfl) (fun _=>mid _)
  refine⟨_,rfl,ix ht ⟨sl,_,rfl,.inl (bT.of hsl),_,_,rfl,rfl,_,rfl,?_⟩⟩
  refine ite2 (fun hlen=>?_) (fun _=>big 0)
  have hpos:0 < ns.length:=by have:=of_decide_eq_true hlen;simpa using this
  refine⟨_,rfl,ix ht ⟨_,rfl,ix1 ht ⟨_,rfl,ix ht ⟨sl,_,rfl,.inl (bT.of hsl),_,_,rfl,rfl,(show (0:Int) < (((ns.map V.int).length:Nat):Int) by rw[List.length_map];omega),?_⟩⟩⟩⟩
  have m1:=Int.emod_nonneg pos (show (((ns.map V.int).length:Nat):Int)≠0 by rw[List.length_map];omega)
  have m2:=Int.emod_lt_of_pos pos (show (0:Int) < (((ns.map V.int).length:Nat):Int) by rw[List.length_map];omega)
  rw[List.length_map] at m1 m2
  have hix:(ns.map V.int)[(pos % ((ns.map V.int).length:Int)).toNat]? = some (.int (ns[(pos % (ns.length:Int)).toNat]'(by omega))):=by
   rw[List.length_map,List.getElem?_map];simp [show (pos % (ns.length:Int)).toNat < ns.length by omega]
  refine .inl ⟨sl,_,_,_,rfl,rfl,bT.of hsl,atI_int (by rw[List.length_map];exact m1) hix,?_⟩
  exact big _
theorem ok__law_draw {f:Addr}{fd:FuncData} (F:Fun K "_law_draw" "_law_draw" (bH 22) f fd) (T:Txt mg):FnOk P w K mg base CX0 1 f fd ["tape","many"] spDraw:=
 (ok__law_drawB F T).imp fun vs H Q E ⟨t,sl,many,e,tp,h0,h1,k⟩=>⟨t,sl,many,e,tp,h0,Int.lt_of_lt_of_le h1 (by decide),k⟩
end
end Tw
namespace Tw
open PySem L2
structure Ext (t sl:Addr) (H H':Hp):Prop where
 bt:cE t H H'
 tp:d7 H' t sl
theorem d7.some {H:Hp}{t sl:Addr} (h:d7 H t sl):∃ o,H t=some o:=by obtain⟨ns,pos,cell,e,_⟩:=h;exact⟨_,e⟩
theorem d7.put {H:Hp}{t sl p:Addr}{o:HO} (h:d7 H t sl) (h1:p≠t) (h2:p≠sl):d7 (upd H p o) t sl:=by
 obtain⟨ns,pos,cell,e,f,g⟩:=h
 exact⟨ns,pos,cell,by rw[aO (Ne.symm h1)];exact e,by rw[aO (Ne.symm h2)];exact f,g⟩
theorem d7.ne_sl {H:Hp}{t sl p:Addr} (h:d7 H t sl) (hp:H p=none):p≠sl:=by
 obtain⟨ns,pos,cell,e,f,g⟩:=h
 exact fun z=>by rw[z,f] at hp;cases hp
theorem Ext.new {t sl p:Addr}{H H':Hp}{o:HO} (e:Ext t sl H H') (hp:H' p=none):Ext t sl H (upd H' p o):=⟨e.bt.trans (aJ.new hp).but,e.tp.same (aJ.new hp)⟩
theorem Ext.ne {t sl p:Addr}{H H':Hp} (e:Ext t sl H H') (hp:H' p=none):p≠t:=by
 obtain⟨o,h⟩:=e.tp.some
 intro z;rw[z,h] at hp;cases hp
theorem Ext.ts {K:PySem.W.Frag}{t sl:Addr}{H H':Hp} (e:Ext t sl H H') (tp:d7 H t sl):bV K H H':=e.bt.ts tp.mut
noncomputable def Gn (t sl:Addr) (σ:St) (H0:Hp) (P:V→Prop) (te:TE):Prop:=∀ H Q,Ext t sl H0 H→(∀ v H',Ext t sl H0 H'→cE t H H'→P v→Q v H')→te σ H Q
section
variable {K:PySem.W.Frag}{t sl:Addr}{σ:St}{H0:Hp}{P:V→Prop}{a b c d:TE}
noncomputable def cC (lo hi:Int):V→Prop:=fun v=>∃ i,v=.int i∧lo≤i∧i < hi
theorem Gn.imp {P':V→Prop} (h:Gn t sl σ H0 P a) (f:∀ v,P v→P' v):Gn t sl σ H0 P' a:=fun H Q e k=>h H Q e fun v H' e' b p=>k v H' e' b (f v p)
theorem gn_c {v:V} (h:P v):Gn t sl σ H0 P (tC v):=fun H Q e k=>k v H e (cE.refl H) h
theorem gn_v {i:Nat}{v:V} (hσ:σ[i]? = some (some v)) (h:P v):Gn t sl σ H0 P (cL i):=fun H Q e k=>⟨v,hσ,k v H e (cE.refl H) h⟩
theorem gn_pick2 (ha:Gn t sl σ H0 P a) (hb:Gn t sl σ H0 P b) (hc:Gn t sl σ H0 (cC 0 2) c):Gn t sl σ H0 P (tOp (rIx K) (tLst (cA a (cA b tNil))) c):=by
 intro H Q e k
 refine ha H _ e fun v1 H1 e1 b1 p1=>hb H1 _ e1 fun v2 H2 e2 b2 p2=>⟨(show 2≤sizeLine by decide),fun p hp=>hc _ _ (e2.new hp) fun v H3 e3 b3 ⟨i,hi,h0,h1⟩=>?_⟩
 subst hi
 have hl:=b3 p _ (e2.ne hp) aC
 have hb:cE t H H3:=b1.trans (b2.trans ((aJ.new hp).but.trans b3))
 rcases (show i=0∨i=1 by omega) with rfl | rfl
 ·exact .inl ⟨p,_,0,v1,rfl,rfl,bT.of hl,rfl,k v1 H3 e3 hb p1⟩
 ·exact .inl ⟨p,_,1,v2,rfl,rfl,bT.of hl,rfl,k v2 H3 e3 hb p2⟩
theorem gn_pick3 (ha:Gn t sl σ H0 P a) (hb:Gn t sl σ H0 P b) (hd:Gn t sl σ H0 P d) (hc:Gn t sl σ H0 (cC 0 3) c):Gn t sl σ H0 P (tOp (rIx K) (tLst (cA a (cA b (cA d tNil)))) c):=by
 intro H Q e k
 refine ha H _ e fun v1 H1 e1 b1 p1=>hb H1 _ e1 fun v2 H2 e2 b2 p2=>hd H2 _ e2 fun v4 H4 e4 b4 p4=>⟨(show 3≤sizeLine by decide),fun p hp=>hc _ _ (e4.new hp) fun v H3 e3 b3 ⟨i,hi,h0,h1⟩=>?_⟩
 subst hi
 have hl:=b3 p _ (e4.ne hp) aC
 have hb:cE t H H3:=b1.trans (b2.trans (b4.trans ((aJ.new hp).but.trans b3)))
 rcases (show i=0∨i=1∨i=2 by omega) with rfl | rfl | rfl
 ·exact .inl ⟨p,_,0,v1,rfl,rfl,bT.of hl,rfl,k v1 H3 e3 hb p1⟩
 ·exact .inl ⟨p,_,1,v2,rfl,rfl,bT.of hl,rfl,k v2 H3 e3 hb p2⟩
 ·exact .inl ⟨p,_,2,v4,rfl,rfl,bT.of hl,rfl,k v4 H3 e3 hb p4⟩
theorem gn_draw {i:Nat}{lo hi:Int} (hσ:σ[i]? = some (some (.ref t))) (hlo:0 < lo) (hhi:hi≤1000000) (ha:Gn t sl σ H0 (cC lo hi) a):Gn t sl σ H0 (fun v=>∃ r m,v=.int r∧0≤r∧r < m∧lo≤m∧m < hi) (tCall spDraw [] E0 (cA (cL i) (cA a tNil))):=by
 intro H Q e k
 refine⟨_,hσ,ha H _ e fun v H1 e1 b1 ⟨m,hm,h0,h1⟩=>?_⟩
 subst hm
 exact⟨t,sl,m,rfl,e1.tp,by omega,by omega,fun r H2 b2 t2 r0 r1=>k _ H2 ⟨e1.bt.trans b2,t2⟩ (b1.trans b2) ⟨r,m,rfl,r0,r1,h0,h1⟩⟩
theorem bI {i:Nat}{m:Int} (hσ:σ[i]? = some (some (.ref t))) (h0:0 < m) (h1:m < 1000000):Gn t sl σ H0 (cC 0 m) (tCall spDraw [] E0 (cA (cL i) (cA (tC (.int m)) tNil))):=
 (gn_draw (lo:=m) (hi:=m+1) hσ h0 (by omega) (gn_c ⟨m,rfl,by omega,by omega⟩)).imp fun v ⟨r,m',e,a,b,c,d⟩=>⟨r,e,a,by omega⟩
theorem gn_drawv {i j:Nat}{m:Int} (hσ:σ[i]? = some (some (.ref t))) (hj:σ[j]? = some (some (.int m))) (h0:0 < m) (h1:m < 1000000):Gn t sl σ H0 (cC 0 m) (tCall spDraw [] E0 (cA (cL i) (cA (cL j) tNil))):=
 (gn_draw (lo:=m) (hi:=m+1) hσ h0 (by omega) (gn_v hj ⟨m,rfl,by omega,by omega⟩)).imp fun v ⟨r,m',e,a,b,c,d⟩=>⟨r,e,a,by omega⟩
theorem gn_add {x y l h:Int} (ha:Gn t sl σ H0 (cC x y) a) (hb:Gn t sl σ H0 (cC l h) b):Gn t sl σ H0 (cC (x+l) (y+h - 1)) (tOp (rI0 fun i j=>.int (i+j)) a b):=by
 intro H Q e k
 refine ha H _ e fun v1 H1 e1 b1 ⟨i,hi,i0,i1⟩=>hb H1 _ e1 fun v2 H2 e2 b2 ⟨j,hj,j0,j1⟩=>?_
 subst hi hj
 exact⟨i,j,rfl,rfl,k _ H2 e2 (b1.trans b2) ⟨_,rfl,by omega,by omega⟩⟩
theorem gn_div {y m:Int} (hm:0 < m) (hm2:m < 1000000) (ha:Gn t sl σ H0 (cC 0 y) a):Gn t sl σ H0 (fun v=>∃ i,v=.int (i / m)∧0≤i∧i < y) (tOp (rI CDiv fun i j=>.int (i / j)) a (tC (.int m))):=by
 intro H Q e k
 refine ha H _ e fun v1 H1 e1 b1 ⟨i,hi,i0,i1⟩=>?_
 subst hi
 exact⟨i,m,rfl,rfl,⟨hm,by omega⟩,k _ H1 e1 b1 ⟨i,rfl,i0,i1⟩⟩
theorem gn_eq0 {y c0:Int} (ha:Gn t sl σ H0 (cC 0 y) a):Gn t sl σ H0 (fun v=>∃ b:Bool,v=.bl b) (tOp rEq a (tC (.int c0))):=by
 intro H Q e k
 refine ha H _ e fun v1 H1 e1 b1 ⟨i,hi,i0,i1⟩=>?_
 subst hi
 exact⟨rfl,k _ H1 e1 b1 ⟨_,rfl⟩⟩
theorem gn_gt0 {y c0:Int} (ha:Gn t sl σ H0 (cC 0 y) a):Gn t sl σ H0 (fun v=>∃ b:Bool,v=.bl b) (tOp (rI0 fun i j=>.bl (decide (j < i))) a (tC (.int c0))):=by
 intro H Q e k
 refine ha H _ e fun v1 H1 e1 b1 ⟨i,hi,i0,i1⟩=>?_
 subst hi
 exact⟨i,c0,rfl,rfl,k _ H1 e1 b1 ⟨_,rfl⟩⟩
noncomputable abbrev rInt1:List V→Hp→VK→Prop:=fun xs H Q=>(∃ i,xs=[.int i]∧Q (.int i) H)∨∃ k,xs=[.bl k]∧Q (.int (if k then 1 else 0)) H
theorem gn_small {i:Nat}{s:Bool} (hσ:σ[i]? = some (some (.bl s))):Gn t sl σ H0 (cC 0 2) (tCB rInt1 (cA (cL i) tNil)):=by
 intro H Q e k
 refine⟨_,hσ,.inr ⟨s,rfl,k _ H e (cE.refl H) ?_⟩⟩
 cases s
 ·exact⟨0,rfl,by omega,by omega⟩
 ·exact⟨1,rfl,by omega,by omega⟩
theorem gn_menu {i:Nat}{s:Bool}{x y lo hi:Int} (hσ:σ[i]? = some (some (.bl s))) (h1:lo≤x∧x < hi) (h2:lo≤y∧y < hi):Gn t sl σ H0 (cC lo hi) (tOp (rIx K) (tLst (cA (tC (.int x)) (cA (tC (.int y)) tNil))) (tCB rInt1 (cA (cL i) tNil))):=
 gn_pick2 (gn_c ⟨x,rfl,h1.1,h1.2⟩) (gn_c ⟨y,rfl,h2.1,h2.2⟩) (gn_small hσ)
theorem gn_half (ha:Gn t sl σ H0 (cC 0 4) a):Gn t sl σ H0 (cC 0 2) (tOp (rI CDiv fun i j=>.int (i / j)) a (tC (.int 3))):=
 (gn_div (by decide) (by decide) ha).imp fun v ⟨i,e,a,b⟩=>⟨i / 3,e,by omega,by omega⟩
theorem gn_up {lo hi lo' hi':Int} (h:Gn t sl σ H0 (cC lo hi) a) (h1:lo'≤lo) (h2:hi≤hi'):Gn t sl σ H0 (cC lo' hi') a:=h.imp fun v ⟨i,e,a,b⟩=>⟨i,e,by omega,by omega⟩
theorem gn_drawm {i:Nat}{lo hi:Int} (hσ:σ[i]? = some (some (.ref t))) (hlo:0 < lo) (hhi:hi≤1000000) (ha:Gn t sl σ H0 (cC lo hi) a):Gn t sl σ H0 (cC 0 (hi - 1)) (tCall spDraw [] E0 (cA (cL i) (cA a tNil))):=
 (gn_draw hσ hlo hhi ha).imp fun v ⟨r,m,e,a,b,c,d⟩=>⟨r,e,a,by omega⟩
end
section
variable {P:Program}{w:World}{K:PySem.W.Frag}{mg:Str→Option Value}{base:Heap}
noncomputable def spOuts (K:PySem.W.Frag):Sp:=fun args H Q _=>∃ (t sl:Addr) (n:Nat) (small:Bool),args=[.ref t,.int (n:Int),.bl small]∧d7 H t sl∧1≤n∧n≤12∧
 ∀ (outs:List (Option Int×Int)) p H',Ext t sl H H'→outs≠[]→outs.length≤3→(∀ o∈outs,OutOk n o)→Is K H' (.tup (outs.map outD)) p→Q p H'
theorem sc__law_outs:FnScope ["tape","many","small","outs","k","target","parts"] ["tape","many","small"] (aK (bH 25)):=⟨rfl,rfl,rfl,by decide +kernel,rfl,by decide +kernel,by decide +kernel⟩
theorem ok__law_outs {f fD:Addr}{fd fdD:FuncData} (F:Fun K "_law_outs" "_law_outs" (bH 25) f fd) (T:Txt mg) (G__law_draw:Callee P w K mg base "_law_draw" ["tape","many"] 1 spDraw fD fdD):FnOk P w K mg base CX0 2 f fd ["tape","many","small"] (spOuts K):=by
 refine F.ok sc__law_outs (fun vs H Q E h=>?_) (fun cdv A outer s H vs Q E hr h=>?_)
 ·obtain⟨t,sl,n,small,rfl,_⟩:=h;rfl
 ·obtain⟨t,sl,n,small,rfl,tp,n1,n2,k⟩:=h
  have sc:=sc__law_outs
  refine⟨_,(aE (aP (i:=3) sc.nd rfl (Or.inl rfl) (bJ aB))
   (aE (cT PassesOwn.never rfl (cO rfl T.b_range (aA (aU cM aD (aM (aG (K:=K) rfl) (bJ (aA (d0 G__law_draw hr (aA (pv 0) (aA aD aB))) (aA (d0 G__law_draw hr (aA (pv 0) (aA aD aB))) aB))) (d0 G__law_draw hr (aA (pv 0) (aA aD aB))) (fun _ _=>rfl))) aB)) (aF (i:=4) sc.nd rfl (Or.inl rfl)) (aE (aP (i:=5) sc.nd rfl (Or.inl rfl) (aM (aG (K:=K) rfl) (bJ (aA pe_non (aA (d0 G__law_draw hr (aA (pv 0) (aA (pv 1) aB))) (aA (d0 G__law_draw hr (aA (pv 0) (aA (pv 1) aB))) aB)))) (d0 G__law_draw hr (aA (pv 0) (aA aD aB))) (fun _ _=>rfl)))
   (aE (aP (i:=6) sc.nd rfl (Or.inl rfl) (aM (aG (K:=K) rfl) (bJ (aA (d0 G__law_draw hr (aA (pv 0) (aA aD aB))) (aA (d0 G__law_draw hr (aA (pv 0) (aA (aM (aG (K:=K) rfl) (bJ (aA aD (aA aD aB))) (aV call_int1 rfl T.b_int bt_int (aA (pv 2) aB)) (fun _ _=>rfl)) aB))) aB))) (aU op_fdiv (d0 G__law_draw hr (aA (pv 0) (aA aD aB))) aD) (fun _ _=>rfl)))
   (aI (ps_expr (pe_bmK (K:=K) rfl PySem.F.plainAttrs_list PySem.F.slot_list_append PySem.F.type_list_append cX (pv 3) (aA (bX (aA (pv 5) (aA (aU cM aD (pv 6)) aB))) aB)))))))
   (aI (aX (aV (bP (K:=K) rfl) rfl T.b_tuple bG (aA (pv 3) aB)))))),?_⟩
  refine⟨Nat.zero_le _,fun ol hol=>?_⟩
  have e0:Ext t sl H (upd H ol (.lst [])):=Ext.new ⟨cE.refl H,tp⟩ hol
  have no:ol≠t:=Ext.ne ⟨cE.refl H,tp⟩ hol
  refine gn_add (x:=1) (y:=2) (l:=0) (h:=3) (H0:=upd H ol (.lst [])) (t:=t) (sl:=sl) (gn_c ⟨1,rfl,by omega,by omega⟩)
   (gn_pick2 (gn_up (bI rfl (by decide) (by decide)) (Int.le_refl _) (by decide)) (bI rfl (by decide) (by decide)) (bI rfl (by decide) (by decide))) _ _ ⟨cE.refl _,e0.tp⟩ ?_
  rintro v H1 e1 _ ⟨m,rfl,m0,m1⟩
  refine⟨m,rfl,by omega,by omega,?_⟩
  refine for_range (lo:=0) (n:=m.toNat) (fun i σ' H'=>Ext t sl H H'∧∃ (outs:List (Option Int×Int)) (xs:List V),H' ol=some (.lst xs)∧IsL K H' (outs.map outD) xs∧outs.length=i∧(∀ o∈outs,OutOk n o)∧
   ∃ v4 v5 v6,σ'=[some (.ref t),some (.int (n:Int)),some (.bl small),some (.ref ol),v4,v5,v6]) ?_ ?_ ?_
  ·exact⟨⟨e0.bt.trans e1.bt,e1.tp⟩,[],[],e1.bt ol _ no aC,.nil,rfl,fun o ho=>(nomatch ho),none,none,none,rfl⟩
  ·rintro i σ' H2 hi ⟨e2,outs,xs,ho,hl,hlen,hok,v4,v5,v6,rfl⟩
   refine gn_pick3 (H0:=H2) (t:=t) (sl:=sl) (P:=fun v=>∃ o:Option Int,v=cK o∧∀ z,o=some z→0≤z∧z < n) (gn_c ⟨none,rfl,fun z h=>nomatch h⟩)
    ((gn_drawv (m:=(n:Int)) rfl rfl (by omega) (by omega)).imp fun v ⟨r,e,a,b⟩=>⟨some r,e,fun z h=>by cases h;exact⟨a,by omega⟩⟩)
    ((gn_drawv (m:=(n:Int)) rfl rfl (by omega) (by omega)).imp fun v ⟨r,e,a,b⟩=>⟨some r,e,fun z h=>by cases h;exact⟨a,by omega⟩⟩) (bI rfl (by decide) (by decide)) _ _ ⟨cE.refl _,e2.tp⟩ ?_
   rintro v H3 e3 _ ⟨tg,rfl,htg⟩
   refine gn_pick2 (H0:=H3) (t:=t) (sl:=sl) (P:=cC 0 60) (gn_up (bI rfl (by decide) (by decide)) (Int.le_refl _) (by decide))
    (gn_up (gn_drawm (lo:=3) (hi:=61) rfl (by decide) (by decide) (gn_menu rfl ⟨by decide,by decide⟩ ⟨by decide,by decide⟩)) (Int.le_refl _) (by decide)) (gn_half (bI rfl (by decide) (by decide))) _ _ ⟨cE.refl _,e3.tp⟩ ?_
   rintro v H4 e4 _ ⟨pt,rfl,p0,p1⟩
   have ho4:H4 ol=some (.lst xs):=e4.bt ol _ no (e3.bt ol _ no ho)
   refine⟨_,rfl,.inl ⟨rfl,_,bT.of ho4⟩,_,rfl,_,rfl,_,_,rfl,rfl,(show 2≤sizeLine by decide),fun q hq=>?_⟩
   have nq:ol≠q:=aQ ho4 hq
   have hxl:xs.length=outs.length:=by rw[hl.length,List.length_map]
   have hm3:m.toNat≤3:=by omega
   refine⟨ol,xs,_,rfl,rfl,by rw[aO nq];exact ho4,aN (by omega),?_⟩
   have e5:Ext t sl H2 (upd H4 q (.tup [cK tg,.int (1+pt)])):=Ext.new ⟨e3.bt.trans e4.bt,e4.tp⟩ hq
   have ts:bV K H2 (upd (upd H4 q (.tup [cK tg,.int (1+pt)])) ol (.lst (xs++[.ref q]))):=bV.put (e5.ts e2.tp) (.inr (by rw[aO nq,ho4];exact trivial))
   refine⟨⟨fun b o hb e=>?_,?_⟩,outs++[(tg,1+pt)],xs++[.ref q],aC,?_,by simp [hlen],?_,_,_,_,rfl⟩
   ·rw[aO (aQ e hol)];exact e5.bt b o hb (e2.bt b o hb e)
   ·exact e5.tp.put no (d7.ne_sl tp hol)
   ·rw[List.map_append]
    exact IsL.snoc (Is.tupOf (ds:=[tgD tg,.int (1+pt)]) (bV.put (bV.refl _) (.inr (by rw[aO nq,ho4];exact trivial)) _ _ (bR.of aC)) (.cons (Is.tgOf tg) (.cons (Is.i _) .nil))) (IsL.mono ts _ _ hl)
   ·intro o ho
    rcases List.mem_append.mp ho with ho | ho
    ·exact hok o ho
    ·rw[List.mem_singleton.mp ho]
     exact⟨fun z hz=>htg z hz,by show 1≤1+pt;omega,by show 1+pt≤60;omega⟩
  ·rintro σ' H2 ⟨e2,outs,xs,ho,hl,hlen,hok,v4,v5,v6,rfl⟩
   refine⟨_,rfl,ol,_,rfl,.inl ⟨bT.of ho,fun l hlf=>?_⟩⟩
   refine k outs _ _ (e2.new hlf) (fun z=>by rw[z] at hlen;simp at hlen;omega) (by omega) hok (Is.tupOf (bR.of aC) (IsL.mono (aJ.new hlf).ts _ _ hl))
end
end Tw
namespace L2
theorem if_by {c:TT}{a b:TS}{D:Ends}{σ:St}{H:Hp} (I:St→Hp→Prop) (h1:∀ D':Ends,(∀ σ' H',I σ' H'→D'.nx σ' H')→tIfS c a b D' σ H) (h2:∀ σ' H',I σ' H'→D.nx σ' H'):tIfS c a b D σ H:=h1 D h2
end L2
namespace Tw
open PySem L2
section
variable {K:PySem.W.Frag}{t sl:Addr}{σ:St}{H0:Hp}{P:V→Prop}{a b c d:TE}
theorem if_draw0 {y c0:Int}{t' u':TS}{D':Ends}{H:Hp} (ha:Gn t sl σ H0 (cC 0 y) a) (e:Ext t sl H0 H) (k:∀ (b:Bool) H',Ext t sl H0 H'→cE t H H'→if b=true then t' D' σ H' else u' D' σ H'):tIfS (tTest (tOp rEq a (tC (.int c0)))) t' u' D' σ H:=
 gn_eq0 ha H _ e fun v H' e' b ⟨c,hc⟩=>⟨c,hc,k c H' e' b⟩
theorem gn_mulnot {i:Nat}{s:Bool} (hσ:σ[i]? = some (some (.bl s))) (ha:Gn t sl σ H0 (cC 0 2) a):Gn t sl σ H0 (cC 0 2) (tOp (rI CMul fun i j=>.int (i * j)) a (tCB rInt1 (cA (tNotV (cL i)) tNil))):=by
 intro H Q e k
 refine ha H _ e fun v1 H1 e1 b1 ⟨j,hj,j0,j1⟩=>⟨_,hσ,s,rfl,.inr ⟨!s,rfl,?_⟩⟩
 subst hj
 refine⟨j,_,rfl,rfl,.inl ⟨by omega,by omega⟩,k _ H1 e1 b1 ?_⟩
 cases s
 ·exact⟨j,by simp,j0,j1⟩
 ·exact⟨0,by simp,by omega,by omega⟩
theorem gn_subcv {j:Nat}{x y:Int} (hj:σ[j]? = some (some (.int y))):Gn t sl σ H0 (cC (x - y) (x - y+1)) (tOp (rI0 fun i j=>.int (i - j)) (tC (.int x)) (cL j)):=fun H Q e k=>
 ⟨_,hj,x,y,rfl,rfl,k _ H e (cE.refl H) ⟨_,rfl,by omega,by omega⟩⟩
theorem gn_addv {j:Nat}{y l h:Int} (hj:σ[j]? = some (some (.int y))) (hb:Gn t sl σ H0 (cC l h) b):Gn t sl σ H0 (cC (y+l) (y+h)) (tOp (rI0 fun i j=>.int (i+j)) (cL j) b):=
 gn_up (gn_add (x:=y) (y:=y+1) (gn_v hj ⟨y,rfl,by omega,by omega⟩) hb) (by omega) (by omega)
end
section
variable {P:Program}{w:World}{K:PySem.W.Frag}{mg:Str→Option Value}{base:Heap}
structure VFull (i:Nat) (v:Vs):Prop where
 sz:v.size≤60
 br:v.size≤v.brim
 bh:v.brim≤200
 sp:∀ t,v.spill=some t→(i:Int) < t
structure NetFull (net:Net):Prop where
 vs:∀ i v,net.vs[i]? = some v→VFull i v
 sps:∀ s∈net.sps,0≤s.2.1∧s.2.1≤60
noncomputable def spVessel (K:PySem.W.Frag):Sp:=fun args H Q _=>∃ (t sl:Addr) (i n m:Nat) (small:Bool),args=[.ref t,.int (i:Int),.int (n:Int),.int (m:Int),.bl small]∧d7 H t sl∧i < n∧n≤12∧m≤12∧
 ∀ (v:Vs) p H',Ext t sl H H'→VOk n m v→VFull i v→Is K H' (vsD v) p→Q p H'
theorem sc__law_vessel:FnScope ["tape","number","many","spouts","small","size","brim","spill","acts","k"] ["tape","number","many","spouts","small"] (aK (bH 26)):=⟨rfl,rfl,rfl,by decide +kernel,rfl,by decide +kernel,by decide +kernel⟩
theorem ok__law_vessel {f fD fO:Addr}{fd fdD fdO:FuncData} (F:Fun K "_law_vessel" "_law_vessel" (bH 26) f fd) (T:Txt mg) (G__law_draw:Callee P w K mg base "_law_draw" ["tape","many"] 1 spDraw fD fdD)
  (G__law_outs:Callee P w K mg base "_law_outs" ["tape","many","small"] 2 (spOuts K) fO fdO):FnOk P w K mg base CX0 3 f fd ["tape","number","many","spouts","small"] (spVessel K):=by
 refine F.ok sc__law_vessel (fun vs H Q E h=>?_) (fun cdv A outer s H vs Q E hr h=>?_)
 ·obtain⟨t,sl,i,n,m,small,rfl,_⟩:=h;rfl
 ·obtain⟨t,sl,i,n,m,small,rfl,tp,hi,hn,hm,k⟩:=h
  have sc:=sc__law_vessel
  refine⟨_,(aE (aP (i:=5) sc.nd rfl (Or.inl rfl) (aU cM aD (aM (aG (K:=K) rfl) (bJ (aA (d0 G__law_draw hr (aA (pv 0) (aA (aM (aG (K:=K) rfl) (bJ (aA aD (aA aD aB))) (aV call_int1 rfl T.b_int bt_int (aA (pv 4) aB)) (fun _ _=>rfl)) aB))) (aA (d0 G__law_draw hr (aA (pv 0) (aA (aM (aG (K:=K) rfl) (bJ (aA aD (aA aD aB))) (aV call_int1 rfl T.b_int bt_int (aA (pv 4) aB)) (fun _ _=>rfl)) aB))) aB))) (aU op_fdiv (d0 G__law_draw hr (aA (pv 0) (aA aD aB))) aD) (fun _ _=>rfl))))
   (aE (aP (i:=6) sc.nd rfl (Or.inl rfl) (aU cM (pv 5) (aM (aG (K:=K) rfl) (bJ (aA aD (aA (d0 G__law_draw hr (aA (pv 0) (aA (aU op_sub aD (pv 5)) aB))) aB))) (aU op_mul (d0 G__law_draw hr (aA (pv 0) (aA aD aB))) (aV call_int1 rfl T.b_int bt_int (aA (pe_not (pv 4)) aB))) (fun _ _=>rfl))))
   (aE (cB (aS op_eq (d0 G__law_draw hr (aA (pv 0) (aA aD aB))) aD (bK _)) (aI (aP (i:=6) sc.nd rfl (Or.inl rfl) (aU cM (pv 5) (d0 G__law_draw hr (aA (pv 0) (aA aD aB)))))) bB)
   (aE (aP (i:=7) sc.nd rfl (Or.inl rfl) pe_non)
   (aE (cB (PW.pt (pw_and (aS op_lt (aU cM (pv 1) aD) (pv 2) (bK _)) (pw_and1 (aS op_eq (d0 G__law_draw hr (aA (pv 0) (aA aD aB))) aD (bK _))))) (aI (aP (i:=7) sc.nd rfl (Or.inl rfl) (aU cM (aU cM (pv 1) aD) (d0 G__law_draw hr (aA (pv 0) (aA (aU op_sub (aU op_sub (pv 2) (pv 1)) aD) aB)))))) bB)
   (aE (aP (i:=8) sc.nd rfl (Or.inl rfl) (bJ aB))
   (aE (cB (aS op_gt (pv 3) aD (bK _)) (aI (cT PassesOwn.never rfl (cO rfl T.b_range (aA (aU op_fdiv (d0 G__law_draw hr (aA (pv 0) (aA aD aB))) aD) aB)) (aF (i:=9) sc.nd rfl (Or.inl rfl)) (aI (ps_expr (pe_bmK (K:=K) rfl PySem.F.plainAttrs_list PySem.F.slot_list_append PySem.F.type_list_append cX (pv 8) (aA (bX (aA (aM (aG (K:=K) rfl) (bJ (aA cI (aA cI (aA cI aB)))) (d0 G__law_draw hr (aA (pv 0) (aA aD aB))) (fun _ _=>rfl)) (aA (d0 G__law_draw hr (aA (pv 0) (aA (pv 3) aB))) aB))) aB)))))) bB)
   (aI (aX (bX (aA (pv 5) (aA (pv 6) (aA (d0 G__law_outs hr (aA (pv 0) (aA (pv 2) (aA (pv 4) aB)))) (aA (pe_cmpR op_eq (d0 G__law_draw hr (aA (pv 0) (aA aD aB))) aD (bK _)) (aA (pv 7) (aA (aV (bP (K:=K) rfl) rfl T.b_tuple bG (aA (pv 8) aB)) aB)))))))))))))))),?_⟩
  refine gn_add (t:=t) (sl:=sl) (H0:=H) (x:=1) (y:=2) (l:=0) (h:=60) (gn_c ⟨1,rfl,by omega,by omega⟩)
   (gn_pick2 (gn_up (gn_drawm (lo:=4) (hi:=10) rfl (by decide) (by decide) (gn_menu rfl ⟨by decide,by decide⟩ ⟨by decide,by decide⟩)) (Int.le_refl _) (by decide))
    (gn_up (gn_drawm (lo:=4) (hi:=61) rfl (by decide) (by decide) (gn_menu rfl ⟨by decide,by decide⟩ ⟨by decide,by decide⟩)) (Int.le_refl _) (by decide)) (gn_half (bI rfl (by decide) (by decide)))) _ _ ⟨cE.refl _,tp⟩ ?_
  rintro v H1 e1 _ ⟨size,rfl,s0,s1⟩
  refine gn_addv (t:=t) (sl:=sl) (H0:=H) (y:=size) (l:=0) (h:=201 - size) rfl (gn_pick2 (gn_c ⟨0,rfl,by omega,by omega⟩)
   (gn_up (gn_drawm (lo:=201 - size) (hi:=201 - size+1) rfl (by omega) (by omega) (gn_subcv rfl)) (Int.le_refl _) (by omega)) (gn_mulnot rfl (bI rfl (by decide) (by decide)))) _ _ e1 ?_
  rintro v H2 e2 _ ⟨brim,rfl,br0,br1⟩
  dsimp only [tSeq,tAsg,tC,cY]
  refine if_by (fun σ' H'=>Ext t sl H H'∧∃ brim,size≤brim∧brim≤200∧σ'=[some (.ref t),some (.int (i:Int)),some (.int (n:Int)),some (.int (m:Int)),some (.bl small),some (.int size),some (.int brim),none,none,none]) (fun D' hD=>?_) ?_
  ·refine if_draw0 (t:=t) (sl:=sl) (H0:=H) (bI rfl (by decide) (by decide)) e2 fun b H3 e3 _=>?_
   cases b with
   | false=>exact cG (hD _ _ ⟨e3,brim,by omega,by omega,rfl⟩)
   | true=>
    refine iteT ?_
    refine gn_addv (t:=t) (sl:=sl) (H0:=H) (y:=size) (l:=0) (h:=3) rfl (bI rfl (by decide) (by decide)) _ _ e3 ?_
    rintro v H4 e4 _ ⟨b2,rfl,c0,c1⟩
    exact hD _ _ ⟨e4,b2,by omega,by omega,rfl⟩
  rintro σ3 H3 ⟨e3,brim,hb1,hb2,rfl⟩
  dsimp only [tSeq,tAsg,tC,cY]
  refine if_by (fun σ' H'=>Ext t sl H H'∧∃ sp:Option Int,(∀ z,sp=some z→(0≤z∧z < n)∧(i:Int) < z)∧σ'=[some (.ref t),some (.int (i:Int)),some (.int (n:Int)),some (.int (m:Int)),some (.bl small),some (.int size),some (.int brim),some (cK sp),none,none]) (fun D' hD=>?_) ?_
  ·refine⟨_,rfl,_,_,rfl,rfl,_,rfl,_,_,rfl,rfl,_,rfl,?_⟩
   refine ite2 (fun hlt=>?_) (fun _=>cG (hD _ _ ⟨e3,none,(fun z h=>nomatch h),rfl⟩))
   have hlt':(i:Int)+1 < n:=of_decide_eq_true hlt
   refine gn_eq0 (t:=t) (sl:=sl) (H0:=H) (bI rfl (by decide) (by decide)) _ _ e3 ?_
   rintro v H4 e4 _ ⟨b,rfl⟩
   refine⟨b,rfl,?_⟩
   cases b with
   | false=>exact cG (hD _ _ ⟨e4,none,(fun z h=>nomatch h),rfl⟩)
   | true=>
    refine iteT ?_
    refine⟨_,rfl,_,_,rfl,rfl,_,rfl,_,rfl,_,rfl,_,_,rfl,rfl,_,_,rfl,rfl,t,sl,(n:Int) - i - 1,rfl,e4.tp,by omega,by omega,fun r H5 b5 t5 r0 r1=>⟨_,_,rfl,rfl,?_⟩⟩
    exact hD _ _ ⟨⟨e4.bt.trans b5,t5⟩,some ((i:Int)+1+r),fun z h=>by cases h;omega,rfl⟩
  rintro σ4 H4 ⟨e4,sp,hsp,rfl⟩
  refine⟨Nat.zero_le _,fun al hal=>?_⟩
  dsimp only [tSeq,tAsg,tC,cY]
  have fal:H al=none:=e4.bt.free (e4.ne hal) hal
  have nal:al≠t:=e4.ne hal
  refine if_by (fun σ' H'=>Ext t sl H H'∧∃ (acts:List (Str×Int)) (xs:List V),H' al=some (.lst xs)∧L2.IsL K H' (acts.map actD) xs∧acts.length≤3∧(∀ a∈acts,ActOk m a)∧
   ∃ v9,σ'=[some (.ref t),some (.int (i:Int)),some (.int (n:Int)),some (.int (m:Int)),some (.bl small),some (.int size),some (.int brim),some (cK sp),some (.ref al),v9]) (fun D' hD=>?_) ?_
  ·refine⟨_,rfl,_,_,rfl,rfl,_,rfl,?_⟩
   refine ite2 (fun hlt=>?_) (fun _=>hD _ _ ⟨e4.new hal,[],[],aC,.nil,by simp,fun a ha=>(nomatch ha),none,rfl⟩)
   have hm0:(0:Int) < m:=of_decide_eq_true hlt
   refine gn_div (t:=t) (sl:=sl) (H0:=H) (by decide) (by decide) (bI (m:=11) rfl (by decide) (by decide)) _ _ (e4.new hal) ?_
   rintro v H5 e5 b5 ⟨c,rfl,c0,c1⟩
   refine⟨_,rfl,by omega,by omega,?_⟩
   refine for_range (lo:=0) (n:=(c / 3).toNat) (fun j σ' H'=>Ext t sl H H'∧∃ (acts:List (Str×Int)) (xs:List V),H' al=some (.lst xs)∧L2.IsL K H' (acts.map actD) xs∧acts.length=j∧(∀ a∈acts,ActOk m a)∧
    ∃ v9,σ'=[some (.ref t),some (.int (i:Int)),some (.int (n:Int)),some (.int (m:Int)),some (.bl small),some (.int size),some (.int brim),some (cK sp),some (.ref al),v9]) ?_ ?_ ?_
   ·exact⟨e5,[],[],b5 al _ nal aC,.nil,rfl,fun a ha=>(nomatch ha),none,rfl⟩
   ·rintro j σ' H6 hj ⟨e6,acts,xs,ha,hl,hlen,hok,v9,rfl⟩
    refine⟨_,rfl,.inl ⟨rfl,_,bT.of ha⟩,?_⟩
    refine gn_pick3 (t:=t) (sl:=sl) (H0:=H) (P:=fun v=>∃ wd:Str,v=.str wd∧(wd = "open" ∨ wd = "shut" ∨ wd = "turn")) (gn_c ⟨_,rfl,.inl rfl⟩) (gn_c ⟨_,rfl,.inr (.inl rfl)⟩) (gn_c ⟨_,rfl,.inr (.inr rfl)⟩) (bI rfl (by decide) (by decide)) _ _ e6 ?_
    rintro v H7 e7 b7 ⟨wd,rfl,hwd⟩
    refine gn_drawv (t:=t) (sl:=sl) (H0:=H) (m:=(m:Int)) rfl rfl hm0 (by omega) _ _ e7 ?_
    rintro v H8 e8 b8 ⟨r,rfl,r0,r1⟩
    refine⟨(show 2≤sizeLine by decide),fun q hq=>?_⟩
    have ha8:H8 al=some (.lst xs):=b8 al _ nal (b7 al _ nal ha)
    have nq:al≠q:=aQ ha8 hq
    have hxl:xs.length=acts.length:=by rw[hl.length,List.length_map]
    refine⟨al,xs,_,rfl,rfl,by rw[aO nq];exact ha8,aN (by omega),?_⟩
    have e9:Ext t sl H (upd H8 q (.tup [.str wd,.int r])):=e8.new hq
    have mt:Mut (upd H8 q (.tup [.str wd,.int r]) al):=by rw[aO nq,ha8];exact trivial
    have ts:bV K H6 (upd (upd H8 q (.tup [.str wd,.int r])) al (.lst (xs++[.ref q]))):=bV.put (((b7.trans b8).trans (aJ.new hq).but).ts e6.tp.mut) (.inr mt)
    refine⟨⟨fun b o hb e=>?_,e9.tp.put nal (d7.ne_sl tp fal)⟩,acts++[(wd,r)],xs++[.ref q],aC,?_,by simp [hlen],?_,_,rfl⟩
    ·rw[aO (aQ e fal)];exact e9.bt b o hb e
    ·rw[List.map_append]
     exact L2.IsL.snoc (Is.tupOf (ds:=[.str wd,.int r]) (bV.put (bV.refl _) (.inr mt) _ _ (bR.of aC)) (.cons (Is.s _) (.cons (Is.i _) .nil))) (L2.IsL.mono ts _ _ hl)
    ·intro a ha'
     rcases List.mem_append.mp ha' with ha' | ha'
     ·exact hok a ha'
     ·rw[List.mem_singleton.mp ha']
      exact⟨hwd,r0,r1⟩
   ·rintro σ' H6 ⟨e6,acts,xs,ha,hl,hlen,hok,v9,rfl⟩
    exact hD _ _ ⟨e6,acts,xs,ha,hl,by omega,hok,v9,rfl⟩
  rintro σ5 H5 ⟨e5,acts,xs,ha,hl,hlen,hok,v9,rfl⟩
  refine⟨_,rfl,_,rfl,_,rfl,_,rfl,_,rfl,t,sl,n,small,rfl,e5.tp,by omega,hn,fun outs p H6 e6 o1 o2 o3 hp=>?_⟩
  refine gn_eq0 (t:=t) (sl:=sl) (H0:=H) (bI rfl (by decide) (by decide)) _ _ ⟨e5.bt.trans e6.bt,e6.tp⟩ ?_
  rintro v H7 e7 b7 ⟨b,rfl⟩
  have ha7:H7 al=some (.lst xs):=b7 al _ nal (e6.bt al _ nal ha)
  have b57:cE t H5 H7:=e6.bt.trans b7
  refine⟨_,rfl,_,rfl,al,_,rfl,.inl ⟨bT.of ha7,fun q hq=>⟨(show 6≤sizeLine by decide),fun r hr'=>?_⟩⟩⟩
  have m1:=aJ.new (o:=HO.tup xs) hq
  have m2:aJ (upd H7 q (.tup xs)) (upd (upd H7 q (.tup xs)) r (.tup [.int size,.int brim,p,.bl b,cK sp,.ref q])):=aJ.new hr'
  refine k ⟨size,brim,outs,b,sp,acts⟩ _ _ ((e7.new hq).new hr') ⟨s0,o1,o2,o3,fun z h=>(hsp z h).1,hlen,hok⟩ ⟨by show size≤60;omega,hb1,hb2,fun z h=>(hsp z h).2⟩ ?_
  refine Is.tupOf (bR.of aC) (.cons (Is.i _) (.cons (Is.i _) (.cons ?_ (.cons (Is.b _) (.cons (Is.tgOf _) (.cons ?_ .nil))))))
  ·exact Is.mono m2.ts _ _ (Is.mono m1.ts _ _ (Is.mono (b7.ts e6.tp.mut) _ _ hp))
  ·exact Is.mono m2.ts _ _ (Is.tupOf (bR.of aC) (L2.IsL.mono m1.ts _ _ (L2.IsL.mono (b57.ts e5.tp.mut) _ _ hl)))
end
end Tw
namespace Tw
open PySem L2
section
variable {P:Program}{w:World}{K:PySem.W.Frag}{mg:Str→Option Value}{base:Heap}
theorem Ext.put {t sl p:Addr}{H H':Hp}{o:HO} (e:Ext t sl H H') (tp:d7 H t sl) (hp:H p=none):Ext t sl H (upd H' p o):=
 ⟨fun b u hb e1=>by rw[aO (aQ e1 hp)];exact e.bt b u hb e1,e.tp.put (fun z=>by obtain⟨o,h⟩:=tp.some;rw[z,h] at hp;cases hp) (d7.ne_sl tp hp)⟩
theorem Ext.trans {t sl:Addr}{H H1 H2:Hp} (a:Ext t sl H H1) (b:Ext t sl H1 H2):Ext t sl H H2:=⟨a.bt.trans b.bt,b.tp⟩
noncomputable def spNetM (K:PySem.W.Frag):Sp:=fun args H Q _=>∃ (t sl:Addr) (most:Int) (small:Bool),args=[.ref t,.int most,.bl small]∧1≤most∧most≤12∧d7 H t sl∧
 ∀ (net:Net) p H',Ext t sl H H'→NetOk net→NetFull net→(net.vs.length:Int)≤most→Is K H' (netD net) p→Q p H'
theorem sc__law_net:FnScope ["tape","most","small","many","spouts","vessels","found","k","flow"] ["tape","most","small"] (aK (bH 27)):=⟨rfl,rfl,rfl,by decide +kernel,rfl,by decide +kernel,by decide +kernel⟩
theorem ok__law_netM {f fD fV:Addr}{fd fdD fdV:FuncData} (F:Fun K "_law_net" "_law_net" (bH 27) f fd) (T:Txt mg) (G__law_draw:Callee P w K mg base "_law_draw" ["tape","many"] 1 spDraw fD fdD)
  (G__law_vessel:Callee P w K mg base "_law_vessel" ["tape","number","many","spouts","small"] 3 (spVessel K) fV fdV):FnOk P w K mg base CX0 4 f fd ["tape","most","small"] (spNetM K):=by
 refine F.ok sc__law_net (fun vs H Q E h=>?_) (fun cdv A outer s H vs Q E hr h=>?_)
 ·obtain⟨t,sl,most,small,rfl,_⟩:=h;rfl
 ·obtain⟨t,sl,most,small,rfl,mo1,mo2,tp,k⟩:=h
  have sc:=sc__law_net
  refine⟨_,(aE (aP (i:=3) sc.nd rfl (Or.inr rfl) (aU cM aD (d0 G__law_draw hr (aA (pv 0) (aA (pv 1) aB)))))
   (aE (aP (i:=4) sc.nd rfl (Or.inr rfl) (aM (aG (K:=K) rfl) (bJ (aA (d0 G__law_draw hr (aA (pv 0) (aA aD aB))) (aA (d0 G__law_draw hr (aA (pv 0) (aA aD aB))) aB))) (aU op_fdiv (d0 G__law_draw hr (aA (pv 0) (aA aD aB))) aD) (fun _ _=>rfl)))
   (aE (ps_set_lc (i:=5) sc.nd rfl rfl (fun _ _ h=>h) rfl (LcOk.mk (N':=["k","tape","many","spouts","small"]) (fr:=[none,some 0,some 3,some 4,some 2]) rfl ⟨rfl,rfl,rfl,rfl,trivial⟩ rfl rfl rfl rfl rfl ⟨⟨_,rfl,rfl,rfl,rfl⟩,⟨_,rfl,rfl,rfl,rfl⟩,⟨_,rfl,rfl,rfl,rfl⟩,⟨_,rfl,rfl,rfl,rfl⟩,trivial⟩) (cO rfl T.b_range (aA (pv 3) aB)) (fun _ _ _=>(aF (i:=0) (show (["k","tape","many","spouts","small"]:List Str).Nodup by decide +kernel) rfl (Or.inl rfl) (Or.inr rfl))) (fun _ _ _=>cR) (fun _ _ _=>(d0 G__law_vessel hr (aA (pv 1) (aA (pv 0) (aA (pv 2) (aA (pv 3) (aA (pv 4) aB))))))))
   (aE (aP (i:=6) sc.nd rfl (Or.inl rfl) (bJ aB))
   (aE (cT PassesOwn.never rfl (cO rfl T.b_range (aA (pv 4) aB)) (aF (i:=7) sc.nd rfl (Or.inl rfl)) (aE (aP (i:=8) sc.nd rfl (Or.inl rfl) (aM (aG (K:=K) rfl) (bJ (aA (d0 G__law_draw hr (aA (pv 0) (aA aD aB))) (aA (d0 G__law_draw hr (aA (pv 0) (aA (aM (aG (K:=K) rfl) (bJ (aA aD (aA aD aB))) (aV call_int1 rfl T.b_int bt_int (aA (pv 2) aB)) (fun _ _=>rfl)) aB))) aB))) (aU op_fdiv (d0 G__law_draw hr (aA (pv 0) (aA aD aB))) aD) (fun _ _=>rfl)))
   (aI (ps_expr (pe_bmK (K:=K) rfl PySem.F.plainAttrs_list PySem.F.slot_list_append PySem.F.type_list_append cX (pv 6) (aA (bX (aA (d0 G__law_draw hr (aA (pv 0) (aA (pv 3) aB))) (aA (pv 8) (aA (pe_cmpR op_gt (d0 G__law_draw hr (aA (pv 0) (aA aD aB))) aD (bK _)) aB)))) aB))))))
   (aI (aX (bX (aA (aV (bP (K:=K) rfl) rfl T.b_tuple bG (aA (pv 5) aB)) (aA (aV (bP (K:=K) rfl) rfl T.b_tuple bG (aA (pv 6) aB)) aB)))))))))),?_⟩
  refine gn_add (t:=t) (sl:=sl) (H0:=H) (x:=1) (y:=2) (l:=0) (h:=most) (gn_c ⟨1,rfl,by omega,by omega⟩) (gn_drawv (m:=most) rfl rfl (by omega) (by omega)) _ _ ⟨cE.refl _,tp⟩ ?_
  rintro v H1 e1 _ ⟨n',rfl,n0,n1⟩
  obtain⟨n,rfl⟩:=Int.eq_ofNat_of_zero_le (show 0≤n' by omega)
  refine gn_pick2 (t:=t) (sl:=sl) (H0:=H) (P:=cC 0 13) (gn_up (bI rfl (by decide) (by decide)) (Int.le_refl _) (by decide)) (bI rfl (by decide) (by decide)) (gn_half (bI rfl (by decide) (by decide))) _ _ e1 ?_
  rintro v H2 e2 _ ⟨m',rfl,m0,m1⟩
  obtain⟨m,rfl⟩:=Int.eq_ofNat_of_zero_le m0
  refine⟨_,rfl,_,rfl,by omega,by omega,?_⟩
  refine lc_range (n:=n) (fun D i r σ' H'=>H2 D=none∧Ext t sl H H'∧H' D=some (.lst r)∧∃ vs:List Vs,vs.length=i∧L2.IsL K H' (vs.map vsD) r∧(∀ v∈vs,VOk n m v)∧(∀ i v,vs[i]? = some v→VFull i v)∧∃ v0,σ'=[v0,some (.ref t),some (.int (n:Int)),some (.int (m:Int)),some (.bl small)])
   (fun D hD=>⟨hD,e2.new hD,aC,[],rfl,.nil,(fun v hv=>nomatch hv),(fun i v hv=>by simp at hv),none,rfl⟩) ?_ ?_
  rotate_left
  ·rintro D i r σ' H3 hi ⟨hD,e3,hl,vs,hlen,hvl,hok,hfu,v0,rfl⟩
   refine name_yes ?_
   refine⟨_,rfl,_,rfl,_,rfl,_,rfl,_,rfl,t,sl,i,n,m,small,rfl,e3.tp,hi,by omega,by omega,fun v p H4 e4 vok vfu hp=>?_⟩
   have nD:D≠t:=e2.ne hD
   have fD:H D=none:=e2.bt.free nD hD
   have hl4:H4 D=some (.lst r):=e4.bt D _ nD hl
   have hrl:r.length=vs.length:=by rw[hvl.length,List.length_map]
   have mt:Mut (H4 D):=by rw[hl4];exact trivial
   refine⟨hl4,aN (by omega),hD,(e3.trans e4).put tp fD,aC,vs++[v],by simp [hlen],?_,?_,?_,_,rfl⟩
   ·rw[List.map_append]
    exact L2.IsL.snoc (Is.mono (bV.put (bV.refl _) (.inr mt)) _ _ hp) (L2.IsL.mono (bV.put (e4.bt.ts e3.tp.mut) (.inr mt)) _ _ hvl)
   ·intro u hu
    rcases List.mem_append.mp hu with hu | hu
    ·exact hok u hu
    ·rw[List.mem_singleton.mp hu];exact vok
   ·intro j u hu
    rcases Nat.lt_or_ge j vs.length with hj | hj
    ·rw[List.getElem?_append_left hj] at hu;exact hfu j u hu
    ·rw[List.getElem?_append_right hj] at hu
     have e0:j - vs.length=0:=by
      rcases Nat.eq_zero_or_pos (j - vs.length) with h | h
      ·exact h
      ·rw[List.getElem?_eq_none (show [v].length≤j - vs.length from h)] at hu;cases hu
     rw[e0] at hu
     have e1:j=i:=by omega
     cases hu
     rw[e1];exact vfu
  rintro D r σ' H3 ⟨hD,e3,hl,vs,hlen,hvl,hok,hfu,_⟩
  have nD:D≠t:=e2.ne hD
  have fD:H D=none:=e2.bt.free nD hD
  refine⟨Nat.zero_le _,fun fl hfl=>?_⟩
  have nf:fl≠t:=e3.ne hfl
  have ff:H fl=none:=e3.bt.free nf hfl
  have nDf:D≠fl:=aQ hl hfl
  refine⟨_,rfl,_,rfl,by omega,by omega,?_⟩
  refine for_range (lo:=0) (n:=m) (fun j σ' H'=>Ext t sl H H'∧H' D=some (.lst r)∧L2.IsL K H' (vs.map vsD) r∧∃ (sps:List Spt) (xs:List V),H' fl=some (.lst xs)∧L2.IsL K H' (sps.map spD) xs∧sps.length=j∧(∀ s∈sps,(0≤s.1∧s.1 < n)∧0≤s.2.1∧s.2.1≤60)∧
   ∃ v7 v8,σ'=[some (.ref t),some (.int most),some (.bl small),some (.int (n:Int)),some (.int (m:Int)),some (.ref D),some (.ref fl),v7,v8]) ?_ ?_ ?_
  ·exact⟨e3.new hfl,by rw[aO nDf];exact hl,L2.IsL.mono (aJ.new hfl).ts _ _ hvl,[],[],aC,.nil,rfl,(fun s hs=>nomatch hs),none,none,rfl⟩
  ·rintro j σ' H4 hj ⟨e4,hl4,hv4,sps,xs,hf4,hs4,hslen,hsok,v7,v8,rfl⟩
   refine gn_pick2 (t:=t) (sl:=sl) (H0:=H) (P:=cC 0 61) (gn_up (bI rfl (by decide) (by decide)) (Int.le_refl _) (by decide))
    (gn_up (gn_drawm (lo:=4) (hi:=62) rfl (by decide) (by decide) (gn_menu rfl ⟨by decide,by decide⟩ ⟨by decide,by decide⟩)) (Int.le_refl _) (by decide)) (gn_half (bI rfl (by decide) (by decide))) _ _ e4 ?_
   rintro v H5 e5 b5 ⟨flow,rfl,fl0,fl1⟩
   have hf5:H5 fl=some (.lst xs):=b5 fl _ nf hf4
   refine⟨_,rfl,.inl ⟨rfl,_,bT.of hf5⟩,?_⟩
   refine gn_drawv (t:=t) (sl:=sl) (H0:=H) (m:=(n:Int)) rfl rfl (by omega) (by omega) _ _ e5 ?_
   rintro v H6 e6 b6 ⟨tg,rfl,tg0,tg1⟩
   refine⟨_,rfl,?_⟩
   refine gn_gt0 (t:=t) (sl:=sl) (H0:=H) (bI rfl (by decide) (by decide)) _ _ e6 ?_
   rintro v H7 e7 b7 ⟨dr,rfl⟩
   refine⟨(show 3≤sizeLine by decide),fun q hq=>?_⟩
   have b47:cE t H4 H7:=b5.trans (b6.trans b7)
   have hf7:H7 fl=some (.lst xs):=b47 fl _ nf hf4
   have hl7:H7 D=some (.lst r):=b47 D _ nD hl4
   have nq:fl≠q:=aQ hf7 hq
   have nDq:D≠q:=aQ hl7 hq
   have hxl:xs.length=sps.length:=by rw[hs4.length,List.length_map]
   refine⟨fl,xs,_,rfl,rfl,by rw[aO nq];exact hf7,aN (by omega),?_⟩
   have mt:Mut (upd H7 q (.tup [.int tg,.int flow,.bl dr]) fl):=by rw[aO nq,hf7];exact trivial
   have ts:bV K H4 (upd (upd H7 q (.tup [.int tg,.int flow,.bl dr])) fl (.lst (xs++[.ref q]))):=bV.put ((b47.trans (aJ.new hq).but).ts e4.tp.mut) (.inr mt)
   refine⟨(e7.new hq).put tp ff,by rw[aO nDf,aO nDq];exact hl7,L2.IsL.mono ts _ _ hv4,sps++[(tg,flow,dr)],xs++[.ref q],aC,?_,by simp [hslen],?_,_,_,rfl⟩
   ·rw[List.map_append]
    exact L2.IsL.snoc (Is.tupOf (ds:=[.int tg,.int flow,.bl dr]) (bV.put (bV.refl _) (.inr mt) _ _ (bR.of aC)) (.cons (Is.i _) (.cons (Is.i _) (.cons (Is.b _) .nil)))) (L2.IsL.mono ts _ _ hs4)
   ·intro s hs
    rcases List.mem_append.mp hs with hs | hs
    ·exact hsok s hs
    ·rw[List.mem_singleton.mp hs];exact⟨⟨tg0,tg1⟩,fl0,show flow≤60 by omega⟩
  ·rintro σ' H4 ⟨e4,hl4,hv4,sps,xs,hf4,hs4,hslen,hsok,v7,v8,rfl⟩
   refine⟨_,rfl,D,_,rfl,.inl ⟨bT.of hl4,fun q1 hq1=>⟨_,rfl,fl,_,rfl,.inl ⟨bT.of (aJ.new hq1 _ _ hf4),fun q2 hq2=>⟨(show 2≤sizeLine by decide),fun q3 hq3=>?_⟩⟩⟩⟩⟩
   have m1:aJ H4 (upd H4 q1 (.tup r)):=aJ.new hq1
   have m2:aJ (upd H4 q1 (.tup r)) (upd (upd H4 q1 (.tup r)) q2 (.tup xs)):=aJ.new hq2
   have m3:aJ (upd (upd H4 q1 (.tup r)) q2 (.tup xs)) (upd (upd (upd H4 q1 (.tup r)) q2 (.tup xs)) q3 (.tup [.ref q1,.ref q2])):=aJ.new hq3
   refine k ⟨vs,sps⟩ _ _ (((e4.new hq1).new hq2).new hq3) ⟨by show 1≤vs.length;omega,by show vs.length≤12;omega,by show sps.length≤12;omega,fun v hv=>by rw[hlen,hslen];exact hok v hv,fun s hs=>by rw[hlen];exact (hsok s hs).1⟩ ⟨hfu,fun s hs=>(hsok s hs).2⟩ (by show (vs.length:Int)≤most;omega) ?_
   refine Is.tupOf (bR.of aC) (.cons (Is.tupOf (m3.tup (m2.tup (bR.of aC))) ?_) (.cons (Is.tupOf (m3.tup (bR.of aC)) ?_) .nil))
   ·exact L2.IsL.mono m3.ts _ _ (L2.IsL.mono m2.ts _ _ (L2.IsL.mono m1.ts _ _ hv4))
   ·exact L2.IsL.mono m3.ts _ _ (L2.IsL.mono m2.ts _ _ (L2.IsL.mono m1.ts _ _ hs4))
end
end Tw
namespace Tw
open PySem L2
section
variable {P:Program}{w:World}{K:PySem.W.Frag}{mg:Str→Option Value}{base:Heap}
end
end Tw
namespace Tw
end Tw
namespace Tw
open PySem L2
theorem kit_tt (K:PySem.W.Frag):PySem.W.kitOne K (.type "tuple") (.type "tuple")=some true:=by
 unfold PySem.W.kitOne;rw[if_pos (by decide +kernel)]
theorem kit_bb (K:PySem.W.Frag):PySem.W.kitOne K (.type "bool") (.type "bool")=some true:=by
 unfold PySem.W.kitOne;rw[if_pos (by decide +kernel)]
theorem kit_ib (K:PySem.W.Frag):PySem.W.kitOne K (.type "int") (.type "bool")=some false:=by
 unfold PySem.W.kitOne
 rw[if_neg (by decide +kernel)]
 show (if PySem.W.kitMeta "bool" = true then PySem.W.subIn K (.type "int") (.type "bool") else none)=some false
 rw[if_pos (by decide +kernel)]
 show (PySem.fastBuiltinMro "int").map (·.contains (.type "bool"))=some false
 decide +kernel
theorem all_true (n:Nat):(List.replicate n true).all id=true:=by
 rw[List.all_eq_true];intro x hx;rw[List.eq_of_mem_replicate hx];rfl
section
variable {P:Program}{w:World}{K:PySem.W.Frag}{mg:Str→Option Value}{base:Heap}
noncomputable def spLaw (K:PySem.W.Frag):Sp:=fun vs H Q _=>∃ (a:Addr) (ns:List Int),vs=[.ref a]∧bT K H a (ns.map V.int)∧ns.length≤63∧∀ H',Q (.bl true) H'
end
end Tw
namespace L2
open PySem PySem.Spec PyProof.Rows TwZ
section
variable {X:Cx}{K:PySem.W.Frag}
theorem pe_globE {x:Str}{v:V}{pos:Pos} (hg:Gl X x) (h:∃ u,X.mg x=some u∧aY v u) (hd:(x == ("__debug__" : Str))=false:=by decide):PE X (.Name x pos) (tC v):=by
 obtain⟨u,e,r⟩:=h
 exact pe_glob hg e r hd
theorem op_inK (hK:X.K=K):OpR X (compareOp .In) (rIn K false):=by subst hK;exact op_in_seq
theorem op_ninK (hK:X.K=K):OpR X (compareOp .NotIn) (rIn K true):=by subst hK;exact op_notIn_seq
end
theorem iteD {c A B:Prop} [Decidable c] (hc:c) (h:A):if decide c=true then A else B:=by
 rw[if_pos (decide_eq_true hc)];exact h
end L2
namespace Tw
open PySem L2
theorem kit_ii (K:PySem.W.Frag):PySem.W.kitOne K (.type "int") (.type "int")=some true:=by
 unfold PySem.W.kitOne;rw[if_pos (by decide +kernel)]
section
variable {P:Program}{w:World}{K:PySem.W.Frag}{mg:Str→Option Value}{base:Heap}{aw:Addr}
noncomputable def spWhole:Sp:=fun vs H Q _=>∃ (n lo hi:Int),vs=[.int n,.int lo,.int hi]∧lo≤n∧n≤hi∧Q (.bl true) H
noncomputable def spIsVessel (K:PySem.W.Frag):Sp:=fun vs H Q _=>∃ (x:V) (i n m:Nat) (v:Vs),vs=[x,.int (i:Int),.int (n:Int),.int (m:Int)]∧Is K H (vsD v) x∧VOk n m v∧VFull i v∧∀ H',aJ H H'→Q (.bl true) H'
noncomputable def spIsNet (K:PySem.W.Frag):Sp:=fun vs H Q _=>∃ (x:V) (net:Net),vs=[x]∧Is K H (netD net) x∧NetOk net∧NetFull net∧∀ H',aJ H H'→Q (.bl true) H'
theorem sc_is_whole:FnScope ["thing","least","most"] ["thing","least","most"] (aK (bH 12)):=⟨rfl,rfl,rfl,by decide +kernel,rfl,by decide +kernel,by decide +kernel⟩
end
end Tw
namespace L2
open PySem PySem.Spec PyProof.Rows
end L2
namespace L2
open PySem PySem.Spec PyProof.Rows TwZ
section
variable {X:Cx}{K:PySem.W.Frag}
end
noncomputable def ButL (fp:List Addr) (H H':Hp):Prop:=∀ b o,b∉fp→H b=some o→H' b=some o
end L2
namespace L2
open PySem PySem.Spec PyProof.Rows TwZ
section
variable {K:PySem.W.Frag}{g:TG}{tc:TT}{te:TE}{fr:List (Option Nat)}{σ:St}{H1:Hp}{Q:Addr→Hp→Prop}
end
end L2
namespace Tw
open PySem L2
section
variable {K:PySem.W.Frag}{C r dx R M T:Addr}{H H':Hp}{S:RunS}{fp:List Addr}{np mv:V}{ts:List Addr}{rs ms:List V}
end
section
variable {P:Program}{w:World}{K:PySem.W.Frag}{mg:Str→Option Value}{base:Heap}{C:Addr}
theorem sc_need_vessel:FnScope ["net","number","vessels","spouts"] ["net","number"] (aK (bH 11)):=⟨rfl,rfl,rfl,by decide +kernel,rfl,by decide +kernel,by decide +kernel⟩
end
end Tw
namespace L2
open PySem PySem.Spec PyProof.Rows TwZ
section
variable {X:Cx}{pins:List (Addr×Obj)}{σ:St}{H:Hp}{s:Shared}
end
section
variable {K:PySem.W.Frag}{H:Hp}
end
end L2
namespace L2
open PySem PySem.Spec PyProof.Rows TwZ
theorem bQ.some {P:Program}{w:World}{H:Hp}{h:Heap}{a:Addr}{o:HO} (x:bQ P w H h a o):∃ ob,h.get? a=some ob:=by
 cases o with
 | lst xs=>obtain⟨_,_,_,_,e⟩:=x;exact⟨_,e⟩
 | tup xs=>obtain⟨_,_,_,ob,e,_⟩:=x;exact⟨_,e⟩
 | dK kvs=>obtain⟨_,_,_,_,o,_,_,e,_⟩:=x;exact⟨_,e⟩
 | dT kvs=>obtain⟨_,_,_,_,o,_,_,e,_⟩:=x;exact⟨_,e⟩
 | set S n=>obtain⟨o,_,_,_,e,_⟩:=x;exact⟨_,e⟩
 | ins C dx fs=>obtain⟨_,_,_,e,_⟩:=x;exact⟨_,e⟩
 | own y=>obtain⟨_,e⟩:=x;exact⟨_,e⟩
 | xd fs=>obtain⟨_,⟨_,_,_,e,_⟩,_⟩:=x;exact⟨_,e⟩
 | rng lo hi=>obtain⟨_,_,_,e⟩:=x;exact⟨_,e⟩
 | frz ob u=>obtain⟨e,_⟩:=x;exact⟨_,e⟩
 | tbl ps=>exact⟨_,(show h.get? a=Option.some _ from x)⟩
 | met f y=>exact⟨_,(show h.get? a=Option.some _ from x)⟩
 | ext φ=>obtain⟨_,⟨_,e⟩,_⟩:=x;exact⟨_,e⟩
structure Fly (P:Program) (w:World) (stack:List Env) (H:Hp) (h:Heap) (ea:Addr) (cls a0:Value) (H':Hp) (h' B:Heap):Prop where
 fl:Heap.FlyingW B stack ea cls a0 h'
 keep:∀ b o,h.get? b=some o→H b=none→b∉frs stack→B.get? b=some o
 slot:∀ b o,h.get? b=some o→H b=none→b∈frs stack→∃ sl,h'.get? b=some { o with slots:=sl }
 free:∀ b o,h.get? b=some o→H b=none→H' b=none
 there:∀ b o,h.get? b=some o→b∉frs stack→∃ o',B.get? b=some o'
 tups:∀ b xs,H b=some (.tup xs)→H' b=some (.tup xs)
 frzs:∀ b o u,H b=some (.frz o u)→H' b=some (.frz o u)
 tbls:∀ b ps,H b=some (.tbl ps)→∃ more,H' b=some (.tbl (ps++more))
 hok:HOk P w H' B
noncomputable def CXR (P:Program) (w:World):CXT:=fun outer H s E e s'=>∃ (ea:Addr) (cls a0:Value) (H':Hp) (B:Heap),e=.ref ea∧s'.os=s.os∧AllBare s'.gens∧Fly P w outer H s.heap ea cls a0 H' s'.heap B∧E cls none H'
structure Leaves (X:Cx) (E:XK):Prop where
 stk:X.stack=X.env::X.outer
 fr:X.env.frame=some X.env.locals
 ex:X.ex=[]
 xe:∀ e s',wpAny (model X.prog X.w) X.A (leaving X.env e) (fun _ s''=>CXR X.prog X.w X.outer X.H₀ X.s₀ E e s'') (fun e' s''=>CXR X.prog X.w X.outer X.H₀ X.s₀ E e' s'') s'→X.xe e s'
section
variable {X:Cx}{pins:List (Addr×Obj)}{σ:St}{H H':Hp}{s s':Shared}{E:XK}
theorem mem_frs {l:List Env}{b:Addr}{env:Env} (he:env∈l) (hf:env.frame=some b):b∈frs l:=List.mem_filterMap.mpr ⟨env,he,hf⟩
theorem mem_frs_cons {l:List Env}{b L:Addr}{env:Env} (hf:env.frame=some L) (h:b∈frs (env::l)):b=L∨b∈frs l:=by
 unfold frs at h ⊢
 rw[List.filterMap_cons,hf] at h
 exact List.mem_cons.1 h
theorem raise_xe {h':Heap}{ea:Addr}{cls:Value}{vs:List Value} (L:Leaves X E) (I:Inv X pins σ H s) (hx:Heap.MadeExcOf s.heap h' ea cls vs) (hE:E cls none H):X.xe (.ref ea) { s with heap:=h' }:=by
 refine L.xe _ _ ?_
 have fr:X.A.frames=some (X.env::X.outer):=by rw[← L.stk];exact I.ok.frames
 have hs:s.heap.FunFrames X.base (X.env::X.outer):=by rw[← L.stk];exact I.stack
 have hfree:∀ b∈frs (X.env::X.outer),H b=none:=by rw[← L.stk];exact I.stkFree
 have nex:∀ b:Addr,b∉X.ex:=fun b z=>by rw[L.ex] at z;cases z
 have out:∀ b o,X.s₀.heap.get? b=some o→b∉frs X.outer→b∉frs (X.env::X.outer):=fun b o e hb z=>by
  rcases mem_frs_cons L.fr z with z | z
  ·exact absurd (Nat.lt_of_lt_of_le (Heap.lt_size e) I.ok.above) (by rw[z];exact Nat.lt_irrefl _)
  ·exact hb z
 refine wpAny_leaves_madeW (base:=PySem.W.hideAll s.heap (frs (X.env::X.outer))) fr L.fr (fun b o q=>PySem.W.of_hideAll _ q) (PySem.W.funFrames_hide hs fun env he a hf=>mem_frs he hf) hx fun h2 t x1 x2 x3 x4=>?_
 refine⟨ea,cls,.ref t,H,_,rfl,I.os,I.bare,⟨x1,fun b o e n hb=>?_,fun b o e n hb=>?_,fun b o e n=>I.base.free b o e n (nex b),fun b o e hb=>?_,I.base.tups,I.base.frzs,I.base.tbls,fun a o e=>?_⟩,hE⟩
 ·exact PySem.W.hideAll_get _ (I.base.keep b o e n hb (nex b)) (out b o e hb)
 ·obtain⟨sl,e1⟩:=I.base.slot b o e n hb (nex b)
  obtain⟨_,o',ho',hd⟩:=I.ok.funs.mem hb
  rw[e] at ho'
  cases ho'
  obtain⟨sl',e2⟩:=x4 b _ (hx.keeps _ _ e1) hd
  exact⟨sl',e2⟩
 ·obtain⟨o',e1⟩:=I.base.there b o e (nex b)
  exact⟨o',PySem.W.hideAll_get _ e1 (out b o e hb)⟩
 ·refine (I.hok a o e).stay (fun b u hb q=>PySem.W.hideAll_get _ q fun z=>?_) (fun _ q=>q) fun _ _ q=>q
  have:=hfree b z
  rcases hb with rfl | hb
  ·rw[e] at this;cases this
  ·rw[hb] at this;cases this
theorem pass_xe (L:Leaves X E):Passes (CXR X.prog X.w) X E:=by
 intro pins σ H s e s' I h
 obtain⟨ea,cls,a0,H',B,rfl,os,bare,F,hE⟩:=h
 refine L.xe _ _ ?_
 have fr:X.A.frames=some (X.env::X.outer):=by rw[← L.stk];exact I.ok.frames
 have nex:∀ b:Addr,b∉X.ex:=fun b z=>by rw[L.ex] at z;cases z
 have out:∀ b o,X.s₀.heap.get? b=some o→b∉frs X.outer→b∉frs X.stack:=fun b o e hb z=>by
  rw[L.stk] at z
  rcases mem_frs_cons L.fr z with z | z
  ·exact absurd (Nat.lt_of_lt_of_le (Heap.lt_size e) I.ok.above) (by rw[z];exact Nat.lt_irrefl _)
  ·exact hb z
 have inn:∀ b,b∈frs X.outer→b∈frs X.stack:=fun b hb=>by
  rw[L.stk];unfold frs at hb ⊢;rw[List.filterMap_cons,L.fr];exact List.mem_cons_of_mem _ hb
 refine wpAny_leaves_onW fr L.fr (by rw[← L.stk];exact F.fl) fun h2 x1 x2=>?_
 refine⟨ea,cls,a0,H',B,rfl,os.trans I.os,bare,⟨x1,fun b o e n hb=>?_,fun b o e n hb=>?_,fun b o e n=>?_,fun b o e hb=>?_,fun b xs e=>F.tups b xs (I.base.tups b xs e),fun b o u e=>F.frzs b o u (I.base.frzs b o u e),fun b ps e=>?_,F.hok⟩,hE⟩
 ·exact F.keep b o (I.base.keep b o e n hb (nex b)) (I.base.free b o e n (nex b)) (out b o e hb)
 ·obtain⟨sl,e1⟩:=I.base.slot b o e n hb (nex b)
  obtain⟨sl',e2⟩:=F.slot b _ e1 (I.base.free b o e n (nex b)) (inn b hb)
  obtain⟨_,o',ho',hd⟩:=I.ok.funs.mem hb
  rw[e] at ho'
  cases ho'
  obtain⟨sl'',e3⟩:=x2 b _ e2 hd
  exact⟨sl'',e3⟩
 ·obtain⟨o',e1⟩:=I.base.there b o e (nex b)
  exact F.free b o' e1 (I.base.free b o e n (nex b))
 ·obtain⟨o',e1⟩:=I.base.there b o e (nex b)
  exact F.there b o' e1 (out b o e hb)
 ·obtain⟨m1,e1⟩:=I.base.tbls b ps e
  obtain⟨m2,e2⟩:=F.tbls b _ e1
  exact⟨m1++m2,by rw[e2,Array.append_assoc]⟩
noncomputable def excO (ea:Addr) (cls:Value):HO:=.ext fun h=>∃ o,h.get? ea=some o∧o.cls=cls
theorem Inv.caught {ea:Addr}{cls a0:Value}{B:Heap} (I:Inv X pins σ H s) (os:s'.os=s.os) (bare:AllBare s'.gens) (F:Fly X.prog X.w X.stack H s.heap ea cls a0 H' s'.heap B):H' ea=none∧Inv X pins σ (upd H' ea (excO ea cls)) s':=by
 obtain⟨ob,hob,hcls⟩:=F.fl.there
 obtain⟨oe,vs,hoe,_,hfd,_⟩:=F.fl.first
 have hea:H' ea=none:=by
  cases q:H' ea with
  | none=>rfl
  | some o=>
   obtain⟨o',e⟩:=(F.hok ea o q).some
   rw[F.fl.2.1] at e;cases e
 have frne:∀ b∈frs X.stack,b≠ea:=fun b hb z=>by
  obtain⟨_,o',ho',hd⟩:=F.fl.2.2.1.mem hb
  rw[z,hoe] at ho'
  cases ho'
  exact hd _ hfd
 have ne:∀ b o,s.heap.get? b=some o→b≠ea:=fun b o e z=>by
  by_cases hb:b∈frs X.stack
  ·exact frne b hb z
  ·obtain⟨o',e'⟩:=F.there b o e hb
   rw[z,F.fl.2.1] at e';cases e'
 have kb:∀ b u,B.get? b=some u→s'.heap.get? b=some u:=F.fl.1
 refine⟨hea,I.call' (ch:=[]) os ⟨fun b o e n hb _=>kb _ _ (F.keep b o e n hb),fun b o e n hb _=>F.slot b o e n hb,fun b o e n _=>?_,fun b o e _=>?_,fun b xs e=>?_,fun b o u e=>?_,fun b ps e=>?_⟩ (fun b u e=>?_) bare (fun b z=>absurd z (by simp))⟩
 ·rw[aO (ne b o e)];exact F.free b o e n
 ·by_cases hb:b∈frs X.stack
  ·obtain⟨_,o',ho',_⟩:=F.fl.2.2.1.mem hb
   exact⟨o',ho'⟩
  ·obtain⟨o',e'⟩:=F.there b o e hb
   exact⟨o',kb _ _ e'⟩
 ·have:=F.tups b xs e
  rw[aO (aQ this hea)];exact this
 ·have:=F.frzs b o u e
  rw[aO (aQ this hea)];exact this
 ·obtain⟨m,e1⟩:=F.tbls b ps e
  exact⟨m,by rw[aO (aQ e1 hea)];exact e1⟩
 ·by_cases hb:b=ea
  ·subst hb
   rw[aC] at e
   cases e
   exact⟨⟨ob,hob,hcls⟩,⟨ob,hob⟩,fun h1 h2 ⟨o,e1,e2⟩ k=>⟨o,k _ e1,e2⟩⟩
  ·rw[aO hb] at e
   exact (F.hok b u e).stay (fun c v _ q=>kb c v q) (fun c q=>by rw[aO (aQ q hea)];exact q) fun c xs q=>by rw[aO (aQ q hea)];exact q
noncomputable def tRaise (E:XK) (C:Addr) (t:TA):TS:=fun _ σ H=>t σ H fun vs H1=>vs.length≤100∧E (.ref C) none H1
theorem ps_raise {x:Str}{C:Addr}{bm:List Value}{newId initId B:String}{np cpos pos:Pos}{e₀:Expr}{rest:List Expr}{t:TA} (L:Leaves X E) (hc:X.calm=true) (hg:Gl X x) (O:PySem.W.excIn X.K C bm newId=true) (hm:PySem.W.nsIn X.K mainGlobals x=some (some (.ref C))) (FB:ExcBaseFacts B newId initId bm) (ha:PA X (e₀::rest) t)
  (he:starEach (e₀::rest) X.env=(false,eval e₀ X.env)::starEach rest X.env:=by rfl) (hplain:(backTo cpos (starEach rest X.env)).any (·.1)=false:=by rfl) (hd:(x == ("__debug__" : Str))=false:=by decide) :
  PS X (.Raise (some (.Call (.Name x np) (e₀::rest) [] cpos)) none pos) (tRaise E C t):=by
 intro pins s σ H D I h
 have G:X.mg x=some (.ref C):=PySem.W.mg_of I.ok.mod.kin I.ok.mod.glob hm
 have ocl:OwnCls x C bm newId X.mg X.base:=by
  refine⟨G,?_⟩
  have q:=O
  unfold PySem.W.excIn at q
  split at q
  ·rename_i dd cd sl ho
   split at q
   ·rename_i C' bm' k0 k1 k2 k3 n k5 hm' hs
    simp only [Bool.and_eq_true,Bool.not_eq_true',beq_iff_eq] at q;obtain⟨⟨⟨⟨⟨rfl,rfl⟩,hdel⟩,ht⟩,hok⟩,hni⟩:=q
    obtain⟨nm,bs,mro,ns,qn,hd',sn,sub,ab,col,del⟩:=cd
    dsimp only at hm' hdel hok hni
    subst hm' hdel
    have hsl:sl = #[k0,k1,k2,k3,some (.builtin n),k5]:=by obtain⟨l⟩:=sl;simp only at hs;rw[hs]
    subst hsl
    exact⟨bm',ns,nm,qn,bs,hd',sn,sub,ab,col,dd,k0,k1,k2,k3,k5,_,I.ok.mod.kin _ _ ho,.of_isNs (PySem.W.isNs_of_in I.ok.mod.kin hok),PySem.W.nsMap_none_of_in I.ok.mod.kin hok hni,PySem.W.tail_of_in I.ok.mod.kin ht⟩
   ·cases q
  ·cases q
 obtain⟨tl,N,nm,q,bs,hdct,sn,sub,ab,col,dd,k0,k1,k2,k3,k5,mN,hC,hN,hni,T⟩:=ocl.obj
 refine wpAny_Raise_call_subT (C:=C) (nm:=nm) (q:=q) (N:=N) (bs:=bs) (bm:=tl) (hdct:=hdct) (sn:=sn) (sub:=sub) (ab:=ab) (col:=col) (dd:=dd) (k0:=k0) (k1:=k1) (k2:=k2) (k3:=k3) (k5:=k5) FB (mN:=mN) (T.hasType FB.hasBase) (I.ok.hd hc) (by rw[he];show (false || (backTo cpos (starEach rest X.env)).any (·.1))=false;rw[hplain];rfl) hni (ld_glob I hg G ⟨rfl,?_⟩ hd)
 have ha':=ha cpos pins s σ H _ I h
 rw[he] at ha' ⊢
 refine Calls.evalArgs_plain (wpAny_mono ha' (fun us s₂ ⟨vs,H1,I1,r1,hlen,hE⟩=>⟨rfl,?_,I1.bk _ _ hC,hN.keeps I1.bk,T.keeps I1.bk,fun h' e hme=>raise_xe L I1 hme hE⟩) fun _ _ y=>y)
 have:=r1.length
 show us.length≤sizeLine
 rw[sizeLine_eq];omega
end
end L2
namespace L2
open PySem PySem.Spec PyProof.Rows TwZ
noncomputable abbrev Cx.within (X:Cx) (pn:List (Addr×Obj)) (E:Value→Shared→Prop):Cx:={ X with pn:=pn,xe:=E }
noncomputable abbrev Cx.caughtIn (X:Cx) (ea:Addr):Cx:={ X with A:=X.A.mark (some (.ref ea)),calm:=false,xe:=fun _ _=>False }
section
variable {X:Cx}{pins:List (Addr×Obj)}{σ:St}{H:Hp}{s:Shared}{pn:List (Addr×Obj)}{E:Value→Shared→Prop}{ea:Addr}
theorem Cx.Ok.within (ok:X.Ok):(X.within pn E).Ok:=
 ⟨ok.mod,ok.kind,ok.glob,ok.blt,ok.above,ok.inj,ok.has,ok.cab,ok.hd,ok.frames,ok.stk,ok.exf,ok.bs,ok.bsz,ok.noex,ok.exfs,ok.funs,ok.frf⟩
theorem Cx.Ok.unwithin (ok:(X.within pn E).Ok):X.Ok:=
 ⟨ok.mod,ok.kind,ok.glob,ok.blt,ok.above,ok.inj,ok.has,ok.cab,ok.hd,ok.frames,ok.stk,ok.exf,ok.bs,ok.bsz,ok.noex,ok.exfs,ok.funs,ok.frf⟩
theorem Inv.within (I:Inv X pins σ H s):Inv (X.within (X.pn++pins) E) [] σ H s:=
 ⟨I.ok.within,I.os,I.bare,I.base,I.loc,I.cell,I.free,I.freeC,fun p hp=>I.pin p (by simpa using hp),I.hok,I.len⟩
theorem Inv.unwithin {p2:List (Addr×Obj)} (I:Inv (X.within (X.pn++pins) E) p2 σ H s):Inv X pins σ H s:=
 ⟨I.ok.unwithin,I.os,I.bare,I.base,I.loc,I.cell,I.free,I.freeC,fun p hp=>I.pin p (List.mem_append_left _ hp),I.hok,I.len⟩
theorem Inv.mark (I:Inv X pins σ H s):Inv (X.caughtIn ea) pins σ H s:=
 ⟨⟨I.ok.mod,I.ok.kind,I.ok.glob,I.ok.blt,I.ok.above,I.ok.inj,I.ok.has,I.ok.cab,fun z=>Bool.noConfusion z,I.ok.frames,I.ok.stk,I.ok.exf,I.ok.bs,I.ok.bsz,I.ok.noex,I.ok.exfs,I.ok.funs,I.ok.frf⟩,I.os,I.bare,I.base,I.loc,I.cell,I.free,I.freeC,I.pin,I.hok,I.len⟩
theorem Inv.unmark (ok:X.Ok) (I:Inv (X.caughtIn ea) pins σ H s):Inv X pins σ H s:=
 ⟨ok,I.os,I.bare,I.base,I.loc,I.cell,I.free,I.freeC,I.pin,I.hok,I.len⟩
theorem nameGoes {M:Model}{A:Around}{E:Value→Shared→Prop}{i:Nat}{n:Str}{pos:Pos}{Q:Unit→Shared→Prop} (I:Inv X pins σ H s) (hN:X.N.Nodup) (hi:X.N[i]? = some n) (hk:X.env.scope.names.lookup n=some .local)
  (h:∀ s',Inv X pins (σ.set i none) H s'→Q () s'):wpAny M A (do bindName X.env n .none;unbindBehindTheSuite X.env n pos) Q E s:=by
 obtain⟨m,hn,hl⟩:=id I.loc
 have hcls:(X.env.scope.kind == .class || (X.env.scope.kind == .module && X.env.locals != X.env.globals))=false:=by rw[I.ok.kind];rfl
 have hlo:X.env.kindOf n=some .local:=hk
 have hiσ:i < σ.length:=by rw[I.len];exact (List.getElem?_eq_some_iff.mp hi).1
 refine wpAny_bind (wpAny_bindName (wpAny_storeName_local hk hn (fun h₁ hn₁ hs₁=>?_) hcls))
 unfold unbindBehindTheSuite
 refine wpAny_onRaise ?_;unfold unbindName;refine wpAny_bind (wpAny_point (wpAny_bind ?_));unfold deleteName
 simp only [hlo,hcls]
 rw[if_neg (by decide)]
 refine wpAny_bind (wpAny_nsDel_keeps hn₁ fun h₂ v hn₂ hs₂=>?_);simp only [if_true,Option.isSome_some,Bool.not_true,Bool.false_eq_true,if_false]
 have hs:=hs₁.trans hs₂
 obtain⟨oL,_,_,hoL,_⟩:=id hn
 have cne:=I.cne
 refine wpAny_pure (wpAny_point (h _ ⟨I.ok,I.os,I.bare,⟨fun b o e n hb hx=>?_,fun b o e n hb hx=>?_,I.base.free,fun b o e hx=>?_,I.base.tups,I.base.frzs,I.base.tbls⟩,⟨_,hn₂,fun j y v' e1 e2 e3=>?_⟩,fun y c e=>?_,I.free,I.freeC,fun p hp=>?_,fun b ob e=>?_,by simpa using I.len⟩))
 ·exact (hs.2 b (Nat.ne_of_lt (Nat.lt_of_lt_of_le (Heap.lt_size e) I.ok.above))).trans (I.base.keep b o e n hb hx)
 ·obtain⟨sl,e1⟩:=I.base.slot b o e n hb hx
  exact⟨sl,(hs.2 b (Nat.ne_of_lt (Nat.lt_of_lt_of_le (Heap.lt_size e) I.ok.above))).trans e1⟩
 ·obtain⟨o',e1⟩:=I.base.there b o e hx
  exact⟨o',(hs.2 b (Nat.ne_of_lt (Nat.lt_of_lt_of_le (Heap.lt_size e) I.ok.above))).trans e1⟩
 ·by_cases hj:j=i
  ·subst hj
   rw[List.getElem?_set_self hiσ] at e2
   cases e2
  ·rw[List.getElem?_set_ne (Ne.symm hj)] at e2
   obtain⟨u',r',q⟩:=hl j y v' e1 e2 e3
   refine⟨u',r',?_⟩
   rcases q with ⟨k,e⟩ | ⟨k,c,e,z⟩
   ·refine .inl ⟨k,?_⟩
    have:y≠n:=fun e=>hj (nodup_ix hN e1 (e ▸ hi))
    simp [this,e]
   ·exact .inr ⟨k,c,e,z.sameBut hs (cne y c e)⟩
 ·obtain⟨w',z⟩:=I.cell y c e
  exact⟨w',z.sameBut hs (cne y c e)⟩
 ·obtain⟨e,n,ne,nf,d⟩:=I.pin p hp
  exact⟨(hs.2 p.1 ne).trans e,n,ne,nf,d⟩
 ·refine (I.hok b ob e).stay (fun c w' hc q=>(hs.2 c ?_).trans q) (fun _ q=>q) fun _ _ q=>q
  rintro rfl
  rcases hc with rfl | hc
  ·rw[I.free] at e;cases e
  ·rw[I.free] at hc;cases hc
noncomputable def tTry (K:PySem.W.Frag) (E:XK) (CT:Addr) (k i:Nat) (tb ts:TS):TS:=fun D σ H=>tb D σ H∧
 ∀ (cls:Value) (H':Hp) (ea:Addr) (σ':St),E cls none H'→σ'.length=k→H' ea=none→PySem.W.exmOne K cls (.ref CT)=some true∧
  ts { nx:=fun σ2 H2=>D.nx (σ2.set i none) H2,rt:=fun _ _=>False } (σ'.set i (some (.ref ea))) (upd H' ea (excO ea cls))
theorem ps_try {EX:XK}{CT:Addr}{x n:Str}{i:Nat}{body suite:List Stmt}{b₀:Stmt}{np hpos pos:Pos}{tb ts:TS} (hstk:X.stack=X.env::X.outer) (hfr:X.env.frame=some X.env.locals)
  (hb:∀ (pn:List (Addr×Obj)) (xe:Value→Shared→Prop),Passes (CXR X.prog X.w) (X.within pn xe) EX→PSs (X.within pn xe) body tb)
  (hg:Gl X x) (hm:X.mg x=some (.ref CT)) (hN:X.N.Nodup) (hi:X.N[i]? = some n) (hk:X.env.scope.names.lookup n=some .local)
  (hs:∀ ea:Addr,PSs (X.caughtIn ea) (b₀::suite) ts) (hd:(x == ("__debug__" : Str))=false:=by decide) :
  PS X (.Try body [.ExceptHandler (some (.Name x np)) (some n) (b₀::suite) hpos] [] [] pos) (tTry X.K EX CT X.N.length i tb ts):=by
 intro pins s σ H D I h
 obtain⟨h1,h2⟩:=h
 refine wpAny_Try_except ?_
 let XE:Value→Shared→Prop:=fun e s'=>∃ (σ:St) (H:Hp) (s:Shared) (ea:Addr) (cls a0:Value) (H':Hp) (B:Heap),e=.ref ea∧Inv X pins σ H s∧s'.os=s.os∧AllBare s'.gens∧Fly X.prog X.w X.stack H s.heap ea cls a0 H' s'.heap B∧EX cls none H'
 have hpass:Passes (CXR X.prog X.w) (X.within (X.pn++pins) XE) EX:=by
  intro p2 σ H s e s' J hx
  obtain⟨ea,cls,a0,H',B,rfl,os,bare,F,hE⟩:=hx
  exact⟨σ,H,s,ea,cls,a0,H',B,rfl,J.unwithin,os,bare,F,hE⟩
 refine wpAny_mono (hb (X.pn++pins) XE hpass [] s σ H D I.within h1) (fun f s₁ hf=>?_) fun e s₁ hx=>?_
 ·cases f with
  | next=>
   obtain⟨σ',H',J,q⟩:=hf
   exact bB pins s₁ σ' H' D J.unwithin q
  | brk=>obtain⟨σ',H',J,q⟩:=hf;exact⟨σ',H',J.unwithin,q⟩
  | cont=>obtain⟨σ',H',J,q⟩:=hf;exact⟨σ',H',J.unwithin,q⟩
  | ret u=>obtain⟨v,σ',H',J,r,q⟩:=hf;exact⟨v,σ',H',J.unwithin,r,q⟩
 ·obtain⟨σ',H0,s0,ea,cls,a0,H',B,rfl,J,os,bare,F,hE⟩:=hx
  have fr:X.A.frames=some (X.env::X.outer):=by rw[← hstk];exact I.ok.frames
  have again:∀ h',Heap.FlyingW B X.stack ea cls a0 h'→s₁.heap.UpToSlots h'→Fly X.prog X.w X.stack H0 s0.heap ea cls a0 H' h' B:=fun h' fl sm=>
   ⟨fl,F.keep,fun b o e n hb=>by
    obtain⟨sl,e1⟩:=F.slot b o e n hb
    obtain⟨_,o',ho',hd⟩:=J.stack.mem hb
    rw[e] at ho'
    cases ho'
    obtain⟨sl',e2⟩:=sm b _ e1 hd
    exact⟨sl',e2⟩,F.free,F.there,F.tups,F.frzs,F.tbls,F.hok⟩
  refine wpAny_looks_onW fr hfr (by rw[← hstk];exact F.fl) fun h₄ held₄ sm₄=>?_
  refine wpAny_landsW held₄ fun h₅ fl₅ sm₅=>?_
  have F5:=again h₅ (by rw[hstk];exact fl₅) (sm₄.trans sm₅)
  obtain⟨hea,J5⟩:=J.caught (s':={ s₁ with heap:=h₅ }) os bare F5
  have hlen:σ'.length=X.N.length:=J.len
  obtain⟨hmat,hts⟩:=h2 cls H' ea σ' hE hlen hea
  refine wpAny_handleBy_cons (codeAny_handlers_test (ld_glob (X:=X.caughtIn ea) J5.mark hg hm ?_ hd)) (by intro q;cases q)
  obtain⟨ob,hob,hobc⟩:=fl₅.there
  have LT0:PySem.W.Looks (model X.prog X.w) h₅ (typeOf (.ref ea)) ob.cls:=(PySem.W.Looks.ld hob).andThen .now
  have LT:PySem.W.Looks (model X.prog X.w) h₅ (typeOf (.ref ea)) cls:=by rw[← hobc];exact LT0
  refine (PySem.W.exm_one (M:=model X.prog X.w) J5.kIn LT hmat).here ?_
  refine codeAny_handlers_suite_as (lands_againW fl₅ fun h₆ fl₆ sm₆=>?_)
  have F6:=again h₆ (by rw[hstk];exact fl₆) ((sm₄.trans sm₅).trans sm₆)
  obtain⟨_,J6⟩:=J.caught (s':={ s₁ with heap:=h₆ }) os bare F6
  refine store_ok (X:=X.caughtIn ea) J6.mark hN hi (.inl hk) (v:=.ref ea) rfl (fun s7 J7=>?_) (.inr hk)
  refine wpAny_mono (hs ea pins s7 _ _ _ J7 hts) (fun f s8 hf=>?_) fun _ _ z=>False.elim z
  cases f with
  | next=>
   obtain⟨σ8,H8,J8,q⟩:=hf
   exact nameGoes (J8.unmark I.ok) hN hi hk fun s9 J9=>⟨_,_,J9,q⟩
  | brk=>obtain⟨_,_,_,q⟩:=hf;exact False.elim q
  | cont=>obtain⟨_,_,_,q⟩:=hf;exact False.elim q
  | ret u=>obtain⟨_,_,_,_,_,q⟩:=hf;exact False.elim q
end
end L2
namespace L2
open PySem PySem.Spec PyProof.Rows TwZ PySem.Builtin PySem.Builtin.ObjectAttr PySem.Builtin.Getset_descriptor
structure ExcKit (K:PySem.W.Frag) (D:Addr):Prop where
 ga:PySem.W.findIn K (.ref D) "__getattribute__" = some (some (.builtin "BaseException.__getattribute__"))
 gt:PySem.W.findIn K (.ref D) "__getattr__" = some none
 ca:PySem.W.findIn K (.ref D) "__class__" = some (some (.builtin "object.__class__"))
 gg:PySem.W.specialIn K (.builtin "object.__class__") "__get__" = some (some (.builtin "getset_descriptor.__get__"))
 tk:PySem.W.takesIn K (.builtin "object.__class__")=some true
 mo:PySem.W.mroIn K D (.type "object")=some true
 mb:PySem.W.mroIn K D (.type "BaseException")=some true
noncomputable def ExcAt (x D:Addr) (h:Heap):Prop:=∃ o,h.get? x=some o∧o.cls=.ref D
theorem ExcAt.ty {x D:Addr}{h:Heap} (p:ExcAt x D h) (M:Model):PySem.W.Looks M h (typeOf (.ref x)) (.ref D):=by
 obtain⟨o,h1,h2⟩:=p
 exact h2 ▸ (PySem.W.Looks.ld h1).andThen .now
section
variable {prog:Program}{w:World}{K:PySem.W.Frag}{x D:Addr}
theorem check_ga {M:Model}{A:Around}{E:Value→Shared→Prop}{s:Shared} (nameV:Value) {Q:Unit→Shared→Prop} (L0:PySem.W.Looks M s.heap (typeOf (.ref x)) (.ref D)) (LB:PySem.W.Looks M s.heap (isSubtype (.ref D) (.type "BaseException")) true) (hq:Q () s) :
  wpAny M A (checkBuiltinCall "BaseException.__getattribute__" ⟨[.ref x,nameV],[]⟩) Q E s:=by
 obtain⟨h,g,d,t,os⟩:=s
 have hk:builtinKind "BaseException.__getattribute__" = some .slot:=by decide +kernel
 have hsplit:splitId "BaseException.__getattribute__" = some ("BaseException","__getattribute__"):=by decide +kernel
 have ha:=PySem.F.args_bexc_ga (.ref x) nameV
 simp only [checkBuiltinCall,hk,hsplit]
 refine wpAny_bind ?_
 unfold isInstance
 repeat (first | with_reducible refine L0.at ?_ | with_reducible refine LB.at ?_ | wp_step)
 exact hq
theorem exc_class {A:Around}{E:Value→Shared→Prop}{s:Shared}{Q:Option Value→Shared→Prop} (Z:ExcKit K D) (X:K.In s.heap) (p:ExcAt x D s.heap) (hq:Q (some (.ref D)) { s with toks:=s.toks+1 }):wpAny (model prog w) A (getAttr? (.ref x) "__class__") Q E s:=by
 obtain⟨hh,g,d,t,os⟩:=s
 have L0:=p.ty (model prog w)
 have L1:=PySem.W.looks_findIn (M:=model prog w) X Z.ga
 have L2:=PySem.W.looks_findIn (M:=model prog w) X Z.gt
 have L3:=PySem.W.looks_findIn (M:=model prog w) X Z.ca
 have L4:PySem.W.Looks (model prog w) hh (getOf (some (.builtin "object.__class__"))) (some (.builtin "getset_descriptor.__get__")):=PySem.W.looks_specialIn X Z.gg
 have L5:=PySem.W.looks_takesIn (M:=model prog w) X Z.tk
 have L6:=PySem.W.looks_mroIn (M:=model prog w) X Z.mo
 have LF:PySem.W.Looks (model prog w) hh (find (.ref x) (.ref D) "__class__") (.bind (.builtin "getset_descriptor.__get__") (.builtin "object.__class__")):=
  L3.andThen (L4.andThen ((show PySem.W.Looks (model prog w) hh (dataDescriptor? (some (.builtin "object.__class__")) (some (.builtin "getset_descriptor.__get__"))) (some (.builtin "getset_descriptor.__get__",.builtin "object.__class__")) from L5.andThen .now).andThen (PySem.W.Looks.tag .now)))
 have LB:=PySem.W.looks_mroIn (M:=model prog w) X Z.mb
 have hk:builtinKind "BaseException.__getattribute__" = some .slot:=by decide +kernel
 have hsplit:splitId "BaseException.__getattribute__" = some ("BaseException","__getattribute__"):=by decide +kernel
 have hx2:(Value.builtin "BaseException.__getattribute__" == Value.builtin "object.__getattribute__")=false:=by decide +kernel
 unfold getAttr? getAttrBy? getAttrBy;refine wpAny_bind (wpAny_mkText (wpAny_bind (wpAny_attempt (wpAny_holding (wpAny_bind (L0.at (wpAny_bind (L1.at ?_))))))))
 simp only [hx2,Bool.and_false,Bool.false_eq_true,if_false]
 unfold getAttrByItsOwn hookBefore
 refine wpAny_bind ?_
 rw[show onTheHeap (Value.ref D)=true from rfl,if_pos rfl]
 refine L2.at (wpAny_bind (wpAny_attempt (wpAny_holding ?_)))
 unfold callGetattribute boundAndCalled
 rw[if_neg (by decide)]
 refine wpAny_bind (wpAny_of_eq (PySem.F.excAttr_ValueError.ga.bind (.ref x)) ?_)
 show wpAny _ _ (call (.builtin "BaseException.__getattribute__") [.ref x,.str "__class__" t]) _ _ _
 refine wpAny_call (codeAny_call_builtin PySem.F.excAttr_ValueError.ga.plain PySem.F.entry_bexc_ga ?_)
 refine check_ga (.str "__class__" t) L0 LB ?_
 unfold Builtin.«object.__getattribute__»
 refine wpAny_bind (wpAny_pure ?_)
 refine wpAny_bind (wpAny_pure ?_)
 refine wpAny_bind (L0.at (wpAny_bind (LF.at ?_)))
 show wpAny _ _ (holding [.builtin "object.__class__"] (call (.builtin "getset_descriptor.__get__") [.builtin "object.__class__",.ref x,.ref D]) >>= ret) _ _ _
 refine wpAny_bind (wpAny_holding (wpAny_call ?_))
 refine codeAny_call_builtin PySem.W.KF.slot_gs.plain PySem.W.KF.entry_gs (PySem.W.KF.slot_gs.check _ _ _ _ _ _ _ _ PySem.W.KF.type_class (PySem.W.KF.args_gs _ _ _) ?_)
 unfold Builtin.«getset_descriptor.__get__» descrGet;rw[PySem.W.dga_obj];refine wpAny_bind (wpAny_pure ?_)
 unfold descrGetter descrCheckInstance descrNameAndClass isInstance;simp only [PySem.W.KF.owner_class];repeat lk
 refine⟨Code.quiet_builtin _ (by decide +kernel),codeAny_builtin PySem.W.KF.entry_class ?_⟩;unfold Builtin.«object.__class__» shownTypeOf;repeat lk
 exact hq
theorem kitx_exc (Z:ExcKit K D) (hcl:∃ c d cd sl,K.lookup D=some ⟨c,d,.cls cd,sl⟩):PySem.W.KitX K (.ref x) (.ref D) (ExcAt x D) where
 ty:=fun M _ _ p=>p.ty M
 it:=fun _ _ X _=>by
  obtain⟨c',d',cd',sl',ho⟩:=hcl
  intro A' Q' E' s' k q
  unfold isType loadHead;exact wpAny_bind (wpAny_loadPart (k _ _ (X _ _ ho)) (wpAny_pure q))
 ne:=fun _ _ _ _ _ _ X htp=>by
  obtain⟨c',d',cd',sl',ho⟩:=hcl
  refine Bool.eq_false_iff.mpr fun q=>?_;have e:=Value.ref.inj (beq_iff_eq.mp q)
  rw[← e,X _ _ ho] at htp;cases htp
 ca:=fun X p k=>exc_class Z X p k
end
noncomputable def rIsiX (K:PySem.W.Frag):List V→Hp→VK→Prop:=fun xs H Q=>∃ (ea D:Addr) (c:V) (cv:Value) (b:Bool),xs=[.ref ea,c]∧aY c cv∧H ea=some (excO ea (.ref D))∧ExcKit K D∧(∃ c d cd sl,K.lookup D=some ⟨c,d,.cls cd,sl⟩)∧PySem.W.kitOne K (.ref D) cv=some b∧(∀ u,aY c u→u=cv)∧Q (.bl b) H
section
variable {X:Cx}
theorem call_isiX:d8 X (.builtin "isinstance") (rIsiX X.K):=by
 intro pins s σ H xs us Q I r h
 obtain⟨ea,D,c,cv,b,rfl,rc,he,Z,hcl,e,hu,q⟩:=h
 obtain⟨u,v,rfl,ru,rv⟩:=r.two
 cases (show u=Value.ref ea from ru)
 have:=hu v rv
 subst this
 obtain⟨p,_,_⟩:=(show bQ X.prog X.w H s.heap ea (excO ea (.ref D)) from I.hok ea _ he)
 exact PySem.W.kia_one (kitx_exc Z hcl) I.kIn p e (fun z=>nomatch z) fun tk=>⟨.bl b,H,I.tok tk,rfl,q⟩
theorem cH {K:PySem.W.Frag} (hK:X.K=K):d8 X (.builtin "isinstance") (rIsiX K):=by subst hK;exact call_isiX
noncomputable def rCountT:V→List V→Hp→VK→Prop:=fun x vs H Q=>∃ (l:Addr) (bs:List Bool),x=.ref l∧vs=[.bl true]∧H l=some (.lst (bs.map V.bl))∧Q (.int (bs.countP id:Nat)) H
theorem mt_countT:MtM X "list.count" rCountT:=by
 intro pins s σ H x vs v us Q I rx rv h
 obtain⟨l,bs,rfl,rfl,hH,q⟩:=h
 cases rx
 obtain⟨u,rfl,ru⟩:=rv.one
 cases ru
 obtain⟨z,its,n,r,hl,e⟩:=I.lstM hH
 have key:∀ (bs:List Bool) (its:List Value),bD (bs.map V.bl) its→its=bs.map Value.bool:=by
  intro bs
  induction bs with
  | nil=>intro its r;cases r;rfl
  | cons b bs ih=>intro its r;cases r with | cons r1 r2=>cases r1;rw[ih _ r2];rfl
 have ek:=key bs its r
 subst ek
 refine call_meets F.slot_list_count ⟨_,e,rfl⟩ F.entry_list_count (F.args_list_count_2 _ _) (SeqAt.list_countAt l (bs.map Value.bool).toArray n none #[] (.bool true) (fun v=>match v with | .bool b=>b | _=>false)) ⟨e,fun y hy=>?_,?_⟩
 ·obtain⟨b,_,rfl⟩:=List.mem_map.1 (show y∈bs.map Value.bool by simpa using hy)
  cases b
  ·exact SeqAt.EqAt.bool_bool false true
  ·exact SeqAt.EqAt.same _
 ·have ec:(List.countP (fun v=>match v with | Value.bool b=>b | _=>false) (bs.map Value.bool).toArray.toList)=bs.countP id:=by
   rw[List.toList_toArray,List.countP_map];rfl
  rw[ec]
  exact⟨.int _,H,I.tok _,⟨_,rfl⟩,q⟩
end
end L2
namespace L2
open PySem PySem.Spec PyProof.Rows TwZ
section
variable {X:Cx}{K:PySem.W.Frag}
noncomputable def rCatTZ (K:PySem.W.Frag):R2:=fun x y H Q=>∃ a b xs ys,x=.ref a∧y=.ref b∧bR K H a xs∧bR K H b ys∧xs.length+ys.length≤sizeLine∧∀ p H',aJ H H'→bR K H' p (xs++ys)→Q (.ref p) H'
theorem op_catTZ:OpR X (binaryOp .Add) (rCatTZ X.K):=by
 intro pins s σ H x y v u Q I rx ry h
 obtain⟨a,b,xs,ys,rfl,rfl,ha,hb,hz,q⟩:=h
 by_cases hx:xs=[]
 ·subst hx
  cases rx
  cases ry
  obtain⟨its,r1,p1,_⟩:=I.tuple ha
  obtain⟨its2,r2,p2,_⟩:=I.tuple hb
  cases r1
  obtain⟨⟨cls,dd,data,sl⟩,ho,hc,n,hd⟩:=id p1
  obtain⟨⟨cls2,dd2,data2,sl2⟩,ho2,hc2,n2,hd2⟩:=id p2
  simp only at hc hd hc2 hd2
  subst hc hd hc2 hd2
  exact concat_meets ⟨_,ho,rfl⟩ ⟨_,ho2,rfl⟩ noFill_tuple_add seq_tuple_add PySem.F.slot_tuple_add PySem.F.entry_tuple_add (PySem.F.args_tuple_add_2 _ _) (tuple_addW0 a b _ its2.toArray n n2 dd dd2 sl sl2 (by simp)) ⟨ho,ho2,⟨.ref b,H,I,rfl,q b H (aJ.refl H) hb⟩⟩
 ·refine op_catT pins s σ H _ _ v u Q I rx ry ⟨a,b,xs,ys,rfl,rfl,ha,hb,hx,hz,fun e=>?_,fun _ p hp=>?_⟩
  ·subst e
   exact q a H (aJ.refl H) (by rw[List.append_nil];exact ha)
  ·exact q p _ (aJ.new hp) (bR.of aC)
theorem op_catTZK (hK:X.K=K):OpR X (binaryOp .Add) (rCatTZ K):=by subst hK;exact op_catTZ
theorem sl_tupK (hK:X.K=K):SlR X (rSlT K):=by subst hK;exact sl_tup
end
end L2
namespace L2
open PySem PySem.Spec PyProof.Rows TwZ
section
variable {P:Program}{w:World}{K:PySem.W.Frag}{mg:Str→Option Value}{base:Heap}
theorem Fun.okR {x qual:Str}{st:Stmt}{f:Addr}{fd:FuncData}{N ps:List Str}{k:Nat}{sp:Sp} (F:Fun K x qual st f fd) (S:FnScope N ps (aK st)) (len:∀ vs H Q E,sp vs H Q E→vs.length=ps.length)
  (hbody:∀ (cdv:Value) (A:Around) (outer:List Env) (s:Shared) (H:Hp) (vs:List V) (Q:VK) (E:XK),Room k (A.deeper (envOfC qual (aK st) s.heap.objs.size f cdv))→sp vs H Q E→
   Leaves (cxOf (CXR P w) P w K mg base N qual (aK st) f cdv A outer s H E) E→
   ∃ t,PSs (cxOf (CXR P w) P w K mg base N qual (aK st) f cdv A outer s H E) (bC st) t∧t { nx:=fun _ H'=>Q .non H',rt:=Q } (start N vs) H):FnOk P w K mg base (CXR P w) (k+1) f fd ps sp:=by
 obtain⟨oc,od,kV,doc,pm,an,cdv,ct,osl,rfl,lk,hcd⟩:=F.ex
 exact fn_of lk hcd S len fun A outer s H vs Q E hr hsp=>hbody cdv A outer s H vs Q E hr hsp ⟨rfl,rfl,rfl,fun _ _ h=>h⟩
end
structure CalleeR (P:Program) (w:World) (K:PySem.W.Frag) (mg:Str→Option Value) (base:Heap) (x:Str) (ps:List Str) (k:Nat) (sp:Sp) (f:Addr) (fd:FuncData):Prop where
 ok:FnOk P w K mg base (CXR P w) k f fd ps sp
 mg:mg x=some (.ref f)
 kp:PySem.W.keepIn K (.ref f)=true
 bd:Binds K fd ps []
structure ExC (K:PySem.W.Frag) (x:Str) (C:Addr):Prop where
 ns:PySem.W.nsIn K mainGlobals x=some (some (.ref C))
 exc:PySem.W.excIn K C [.type "ValueError",.type "Exception",.type "BaseException",.type "object"] "ValueError.__new__" = true
theorem pa_str8 {X:Cx}{a1 a2 a3 a4 a5 a6 a7 a8:Str}{k1 k2 k3 k4 k5 k6 k7 k8:Nat}{p1 p2 p3 p4 p5 p6 p7 p8:Pos} :
  PA X [.Constant (.str a1) k1 p1,.Constant (.str a2) k2 p2,.Constant (.str a3) k3 p3,.Constant (.str a4) k4 p4,.Constant (.str a5) k5 p5,.Constant (.str a6) k6 p6,.Constant (.str a7) k7 p7,.Constant (.str a8) k8 p8]
   (cA (tC (.str a1)) (cA (tC (.str a2)) (cA (tC (.str a3)) (cA (tC (.str a4)) (cA (tC (.str a5)) (cA (tC (.str a6)) (cA (tC (.str a7)) (cA (tC (.str a8)) tNil)))))))):=
 have h8:=aA (X:=X) (cI (x:=a8)) aB
 have h7:=aA (cI (x:=a7)) h8
 have h6:=aA (cI (x:=a6)) h7
 have h5:=aA (cI (x:=a5)) h6
 have h4:=aA (cI (x:=a4)) h5
 have h3:=aA (cI (x:=a3)) h4
 have h2:=aA (cI (x:=a2)) h3
 aA (cI (x:=a1)) h2
theorem bt_ValueError:bootBuiltins "ValueError" = some (.type "ValueError"):=by decide +kernel
end L2
namespace Tw
open PySem L2
structure TxtW (mg:Str→Option Value) (c_TipError c_NoNet c_NoVessel c_TooLong c_TooMany c_TooMuch c_Nothing c_NoText c_NoRow:Addr):Prop where
 m_TipError:mg "TipError" = some (.ref c_TipError)
 m_NoNet:mg "NoNet" = some (.ref c_NoNet)
 m_NoVessel:mg "NoVessel" = some (.ref c_NoVessel)
 m_TooLong:mg "TooLong" = some (.ref c_TooLong)
 m_TooMany:mg "TooMany" = some (.ref c_TooMany)
 m_TooMuch:mg "TooMuch" = some (.ref c_TooMuch)
 m_Nothing:mg "Nothing" = some (.ref c_Nothing)
 m_NoText:mg "NoText" = some (.ref c_NoText)
 m_NoRow:mg "NoRow" = some (.ref c_NoRow)
 b_ValueError:mg "ValueError" = none
structure KindOf (K:PySem.W.Frag) (c_NoNet c_NoVessel c_TooLong c_TooMany c_TooMuch c_Nothing c_NoText c_NoRow:Addr) (D:Addr) (bs:List Bool):Prop where
 kit:ExcKit K D
 cl:∃ c d cd sl,K.lookup D=some ⟨c,d,.cls cd,sl⟩
 val:PySem.W.kitOne K (.ref D) (.type "ValueError")=some true
 ks:∃ b0 b1 b2 b3 b4 b5 b6 b7,bs=[b0,b1,b2,b3,b4,b5,b6,b7]∧PySem.W.kitOne K (.ref D) (.ref c_NoNet)=some b0∧PySem.W.kitOne K (.ref D) (.ref c_NoVessel)=some b1∧PySem.W.kitOne K (.ref D) (.ref c_TooLong)=some b2∧
  PySem.W.kitOne K (.ref D) (.ref c_TooMany)=some b3∧PySem.W.kitOne K (.ref D) (.ref c_TooMuch)=some b4∧PySem.W.kitOne K (.ref D) (.ref c_Nothing)=some b5∧PySem.W.kitOne K (.ref D) (.ref c_NoText)=some b6∧PySem.W.kitOne K (.ref D) (.ref c_NoRow)=some b7
section
variable {P:Program}{w:World}{K:PySem.W.Frag}{mg:Str→Option Value}{base:Heap}{C c_TipError c_NoNet c_NoVessel c_TooLong c_TooMany c_TooMuch c_Nothing c_NoText c_NoRow:Addr}
noncomputable def spWholeI:Sp:=fun vs H Q _=>∃ (n lo hi:Int),vs=[.int n,.int lo,.int hi]∧Q (.bl (decide (lo≤n) && decide (n≤hi))) H
theorem ok_is_wholeI {f:Addr}{fd:FuncData} (F:Fun K "is_whole" "is_whole" (bH 12) f fd) (T:Txt mg):FnOk P w K mg base CX0 1 f fd ["thing","least","most"] spWholeI:=by
 refine F.ok sc_is_whole (fun vs H Q E h=>?_) (fun cdv A outer s H vs Q E hr h=>?_)
 ·obtain⟨n,lo,hi,rfl,_⟩:=h;rfl
 ·obtain⟨n,lo,hi,rfl,k⟩:=h
  have sc:=sc_is_whole
  refine⟨_,(aI (aX (pe_and (aL (bO (K:=K) rfl) rfl T.b_isinstance aZ (aA (pv 0) (aA (cD (v:=.ty "int") rfl T.b_int bt_int rfl) aB))) (pe_and (pe_not (aL (bO (K:=K) rfl) rfl T.b_isinstance aZ (aA (pv 0) (aA (cD (v:=.ty "bool") rfl T.b_bool bt_bool rfl) aB)))) (pe_one (pe_chain op_le op_le (pv 1) (pv 0) (pv 2))))))),?_⟩
  refine⟨_,rfl,_,"int",_,true,rfl,.inl (.int _),kit_ii K,_,rfl,iteT ?_⟩
  refine⟨_,rfl,_,"bool",_,false,rfl,.inl (.int _),kit_ib K,_,rfl,_,rfl,iteT ?_⟩
  refine⟨_,rfl,_,rfl,_,_,rfl,rfl,_,rfl,ite2 (fun h1=>?_) fun h1=>?_⟩
  ·rw[h1,Bool.true_and] at k
   exact⟨_,rfl,_,_,rfl,rfl,k⟩
  ·rw[Bool.not_eq_true] at h1
   rw[h1,Bool.false_and] at k
   exact k
noncomputable def spNeedR (K:PySem.W.Frag) (cV:Addr):Sp:=fun vs H Q E=>∃ (x:V) (net:Net) (v:Int),vs=[x,.int v]∧Is K H (netD net) x∧((0≤v∧v < net.vs.length∧Q .non H)∨(¬ (0≤v∧v < net.vs.length)∧E (.ref cV) none H))
theorem ok_need_vesselR {f f1:Addr}{fd fd1:FuncData} (F:Fun K "need_vessel" "need_vessel" (bH 11) f fd) (T:Txt mg) (XC_NoVessel:ExC K "NoVessel" c_NoVessel) (G_is_whole:Callee P w K mg base "is_whole" ["thing","least","most"] 1 spWholeI f1 fd1) :
  FnOk P w K mg base (CXR P w) 2 f fd ["net","number"] (spNeedR K c_NoVessel):=by
 refine F.okR sc_need_vessel (fun vs H Q E h=>?_) (fun cdv A outer s H vs Q E hr h L=>?_)
 ·obtain⟨x,net,v,rfl,_⟩:=h;rfl
 ·obtain⟨x,net,v,rfl,hx,k⟩:=h
  have sc:=sc_need_vessel
  refine⟨_,(aE (ps_asg (pv 0) (bN (K:=K) (n:=2) rfl rfl (aH (aF (i:=2) sc.nd rfl (Or.inl rfl)) (aH (aF (i:=3) sc.nd rfl (Or.inl rfl)) bM))))
   (aI (cB (bS (bW (d0 G_is_whole hr (aA (pv 1) (aA aD (aA (aU op_sub (aL (aW (K:=K) rfl) rfl T.b_len PySem.boot_len (aA (pv 2) aB)) aD) aB)))))) (aI (ps_raise L rfl rfl XC_NoVessel.exc XC_NoVessel.ns PySem.F.excBase_ValueError (aA cI aB))) bB))),?_⟩
  obtain⟨a,b,c,xs,ys,rfl,q,q1,l1,q2,l2⟩:=net_un hx
  have exl:xs.length=net.vs.length:=by rw[l1.length,List.length_map]
  refine⟨_,rfl,a,_,rfl,q,rfl,_,_,rfl,_,_,rfl,rfl,?_⟩
  refine⟨_,rfl,_,rfl,b,xs,rfl,.inr q1,_,_,rfl,rfl,v,0,_,rfl,_,rfl,?_⟩
  rcases k with ⟨h0,h1,k⟩ | ⟨hn,k⟩
  ·rw[decide_eq_true h0,decide_eq_true (show v≤((xs.length:Nat):Int) - 1 by omega)]
   exact cG k
  ·have:(decide (0≤v) && decide (v≤((xs.length:Nat):Int) - 1))=false:=by
    rw[Bool.eq_false_iff]
    intro z
    rw[Bool.and_eq_true,decide_eq_true_eq,decide_eq_true_eq] at z
    exact hn ⟨z.1,by omega⟩
   rw[this]
   exact iteT ⟨by show 1≤100;decide,k⟩
noncomputable def wordL:List Str:=["net","vessel","long","many","much","nothing","text","row"]
noncomputable def spWord (K:PySem.W.Frag) (c_NoNet c_NoVessel c_TooLong c_TooMany c_TooMuch c_Nothing c_NoText c_NoRow:Addr):Sp:=fun vs H Q _=>∃ (ea D:Addr) (bs:List Bool) (j:Nat) (wd:Str),vs=[.ref ea]∧H ea=some (excO ea (.ref D))∧
 KindOf K c_NoNet c_NoVessel c_TooLong c_TooMany c_TooMuch c_Nothing c_NoText c_NoRow D bs∧bs.countP id=1∧bs[j]? = some true∧(∀ i b,i < j→bs[i]? = some b→b=false)∧wordL[j]? = some wd∧∀ p H',aJ H H'→bR K H' p [.str wd]→Q (.ref p) H'
theorem sc__law_word:FnScope ["error","kinds"] ["error"] (aK (bH 24)):=⟨rfl,rfl,rfl,by decide +kernel,rfl,by decide +kernel,by decide +kernel⟩
theorem ok__law_word {f:Addr}{fd:FuncData} (F:Fun K "_law_word" "_law_word" (bH 24) f fd) (T:Txt mg) (W:TxtW mg c_TipError c_NoNet c_NoVessel c_TooLong c_TooMany c_TooMuch c_Nothing c_NoText c_NoRow) :
  FnOk P w K mg base CX0 1 f fd ["error"] (spWord K c_NoNet c_NoVessel c_TooLong c_TooMany c_TooMuch c_Nothing c_NoText c_NoRow):=by
 refine F.ok sc__law_word (fun vs H Q E h=>?_) (fun cdv A outer s H vs Q E hr h=>?_)
 ·obtain⟨ea,D,bs,j,wd,rfl,_⟩:=h;rfl
 ·obtain⟨ea,D,bs,j,wd,rfl,he,kd,hc,hj,hlt,hw,k⟩:=h
  have sc:=sc__law_word
  refine⟨_,(aE (aP (i:=1) sc.nd rfl (Or.inl rfl) (bJ (aA (aL (cH (K:=K) rfl) rfl T.b_isinstance aZ (aA (pv 0) (aA (pe_globE (v:=.ref c_NoNet) rfl ⟨_,W.m_NoNet,rfl⟩) aB))) (aA (aL (cH (K:=K) rfl) rfl T.b_isinstance aZ (aA (pv 0) (aA (pe_globE (v:=.ref c_NoVessel) rfl ⟨_,W.m_NoVessel,rfl⟩) aB))) (aA (aL (cH (K:=K) rfl) rfl T.b_isinstance aZ (aA (pv 0) (aA (pe_globE (v:=.ref c_TooLong) rfl ⟨_,W.m_TooLong,rfl⟩) aB))) aB)))))
   (aE (aP (i:=1) sc.nd rfl (Or.inl rfl) (aU op_cat (pv 1) (bJ (aA (aL (cH (K:=K) rfl) rfl T.b_isinstance aZ (aA (pv 0) (aA (pe_globE (v:=.ref c_TooMany) rfl ⟨_,W.m_TooMany,rfl⟩) aB))) (aA (aL (cH (K:=K) rfl) rfl T.b_isinstance aZ (aA (pv 0) (aA (pe_globE (v:=.ref c_TooMuch) rfl ⟨_,W.m_TooMuch,rfl⟩) aB))) (aA (aL (cH (K:=K) rfl) rfl T.b_isinstance aZ (aA (pv 0) (aA (pe_globE (v:=.ref c_Nothing) rfl ⟨_,W.m_Nothing,rfl⟩) aB))) aB))))))
   (aE (aP (i:=1) sc.nd rfl (Or.inl rfl) (aU op_cat (pv 1) (bJ (aA (aL (cH (K:=K) rfl) rfl T.b_isinstance aZ (aA (pv 0) (aA (pe_globE (v:=.ref c_NoText) rfl ⟨_,W.m_NoText,rfl⟩) aB))) (aA (aL (cH (K:=K) rfl) rfl T.b_isinstance aZ (aA (pv 0) (aA (pe_globE (v:=.ref c_NoRow) rfl ⟨_,W.m_NoRow,rfl⟩) aB))) aB)))))
   (aE (cB (PW.pt (cU (bS (bW (aL (cH (K:=K) rfl) rfl T.b_isinstance aZ (aA (pv 0) (aA (cD (v:=.ty "ValueError") rfl W.b_ValueError bt_ValueError rfl) aB))))) (cP (aS op_ne (pe_bmK (K:=K) rfl PySem.F.plainAttrs_list PySem.F.slot_list_count PySem.F.type_list_count mt_countT (pv 1) (aA cW aB)) aD (bK _))))) (aI (aX (bX (aA cI aB)))) bB)
   (aI (aX (bX (aA (aM (aG (K:=K) rfl) (bJ pa_str8) (pe_bmK (K:=K) rfl PySem.F.plainAttrs_list PySem.F.slot_list_index PySem.F.type_list_index mt_index (pv 1) (aA cW aB)) (fun _ _=>rfl)) aB)))))))),?_⟩
  obtain⟨b0,b1,b2,b3,b4,b5,b6,b7,rfl,k0,k1,k2,k3,k4,k5,k6,k7⟩:=kd.ks
  refine⟨_,rfl,ea,D,_,_,b0,rfl,rfl,he,kd.kit,kd.cl,k0,fun u h=>h,?_⟩
  refine⟨_,rfl,ea,D,_,_,b1,rfl,rfl,he,kd.kit,kd.cl,k1,fun u h=>h,?_⟩
  refine⟨_,rfl,ea,D,_,_,b2,rfl,rfl,he,kd.kit,kd.cl,k2,fun u h=>h,(show 3≤sizeLine by decide),fun l1 h1=>?_⟩
  have he1:=aJ.new (o:=HO.lst [.bl b0,.bl b1,.bl b2]) h1 _ _ he
  refine⟨_,rfl,_,rfl,ea,D,_,_,b3,rfl,rfl,he1,kd.kit,kd.cl,k3,fun u h=>h,?_⟩
  refine⟨_,rfl,ea,D,_,_,b4,rfl,rfl,he1,kd.kit,kd.cl,k4,fun u h=>h,?_⟩
  refine⟨_,rfl,ea,D,_,_,b5,rfl,rfl,he1,kd.kit,kd.cl,k5,fun u h=>h,(show 3≤sizeLine by decide),fun l2 h2=>?_⟩
  have s2:=aJ.new (o:=HO.lst [.bl b3,.bl b4,.bl b5]) h2
  refine⟨l1,l2,_,_,rfl,rfl,s2 _ _ aC,aC,(show 6≤sizeLine by decide),fun l3 h3=>?_⟩
  have s3:=aJ.new (o:=HO.lst ([.bl b0,.bl b1,.bl b2]++[.bl b3,.bl b4,.bl b5])) h3
  have he3:=s3 _ _ (s2 _ _ he1)
  refine⟨_,rfl,_,rfl,ea,D,_,_,b6,rfl,rfl,he3,kd.kit,kd.cl,k6,fun u h=>h,?_⟩
  refine⟨_,rfl,ea,D,_,_,b7,rfl,rfl,he3,kd.kit,kd.cl,k7,fun u h=>h,(show 2≤sizeLine by decide),fun l4 h4=>?_⟩
  have s4:=aJ.new (o:=HO.lst [.bl b6,.bl b7]) h4
  refine⟨l3,l4,_,_,rfl,rfl,s4 _ _ aC,aC,(show 8≤sizeLine by decide),fun l5 h5=>?_⟩
  have s5:=aJ.new (o:=HO.lst ([.bl b0,.bl b1,.bl b2]++[.bl b3,.bl b4,.bl b5]++[.bl b6,.bl b7])) h5
  have sH:aJ H _:=((((aJ.new h1).trans s2).trans s3).trans s4).trans s5
  have he5:=s5 _ _ (s4 _ _ he3)
  refine⟨_,rfl,ea,D,_,_,true,rfl,rfl,he5,kd.kit,kd.cl,kd.val,fun u h=>h,_,rfl,cG ?_⟩
  refine⟨_,rfl,.inl ⟨rfl,_,bT.of aC⟩,l5,[b0,b1,b2,b3,b4,b5,b6,b7],rfl,rfl,aC,rfl,_,rfl,iteNS (by rw[hc];rfl) ?_⟩
  refine⟨(show 8≤sizeLine by decide),fun l6 h6=>?_⟩
  have s6:=aJ.new (o:=HO.lst [.str "net",.str "vessel",.str "long",.str "many",.str "much",.str "nothing",.str "text",.str "row"]) h6
  have hj8:j < 8:=(List.getElem?_eq_some_iff.mp hj).1
  refine⟨_,rfl,.inl ⟨rfl,_,bT.of (s6 _ _ aC)⟩,l5,_,_,j,rfl,rfl,s6 _ _ aC,rfl,rfl,hj8,fun z hz=>?_,fun i z hi hz=>?_,?_⟩
  ·have:([b0,b1,b2,b3,b4,b5,b6,b7].map V.bl)[j]? = some z:=hz
   rw[List.getElem?_map,hj] at this
   cases this
   rfl
  ·have:([b0,b1,b2,b3,b4,b5,b6,b7].map V.bl)[i]? = some z:=hz
   rw[List.getElem?_map] at this
   obtain⟨b,hb,rfl⟩:=Option.map_eq_some_iff.mp this
   rw[hlt i b hi hb]
   rfl
  ·refine .inl ⟨l6,_,(j:Int),_,rfl,rfl,bT.of aC,cS (show (wordL.map V.str)[j]? = some (.str wd) by rw[List.getElem?_map,hw];rfl),(show 1≤sizeLine by decide),fun p hp=>?_⟩
   exact k p _ ((sH.trans s6).trans (aJ.new hp)) (bR.of aC)
end
end Tw
namespace TwS
open PySem
noncomputable def Up (xs:Array Nat):Prop:=∀ i j a b:Nat,i < j→xs[i]? = some a→xs[j]? = some b→a < b
theorem below_go (xs:Array Nat) (h:Up xs) (j:Nat):∀ (fuel lo hi:Nat),hi≤xs.size→lo≤hi→hi - lo≤fuel→(∀ i a,i < lo→xs[i]? = some a→a < j)→(∀ i a,hi≤i→xs[i]? = some a→j≤a)→
  (∀ i a,i < SetTable.below.go xs j fuel lo hi→xs[i]? = some a→a < j)∧(∀ i a,SetTable.below.go xs j fuel lo hi≤i→xs[i]? = some a→j≤a)∧SetTable.below.go xs j fuel lo hi≤xs.size
 | 0,lo,hi,h1,h2,h3,l,r=>by
  have:lo=hi:=by omega
  subst this
  show (∀ i a,i < lo→_)∧(∀ i a,lo≤i→_)∧lo≤_
  exact⟨l,r,h1⟩
 | fuel+1,lo,hi,h1,h2,h3,l,r=>by
  have e0:SetTable.below.go xs j (fuel+1) lo hi=if lo < hi then (if xs.getD ((lo+hi) / 2) j < j then SetTable.below.go xs j fuel ((lo+hi) / 2+1) hi else SetTable.below.go xs j fuel lo ((lo+hi) / 2)) else lo:=rfl
  rw[e0]
  by_cases hlt:lo < hi
  ·rw[if_pos hlt]
   have hm:(lo+hi) / 2 < xs.size:=by omega
   have hg:xs[(lo+hi) / 2]? = some (xs.getD ((lo+hi) / 2) j):=by
    rw[Array.getElem?_eq_getElem hm,Array.getD_eq_getD_getElem?,Array.getElem?_eq_getElem hm];rfl
   by_cases hc:xs.getD ((lo+hi) / 2) j < j
   ·rw[if_pos hc]
    refine below_go xs h j fuel ((lo+hi) / 2+1) hi h1 (by omega) (by omega) (fun i a hi' e=>?_) r
    rcases Nat.lt_or_ge i ((lo+hi) / 2) with z | z
    ·exact Nat.lt_trans (h _ _ _ _ z e hg) hc
    ·have:i=(lo+hi) / 2:=by omega
     subst this
     rw[hg] at e;cases e;exact hc
   ·rw[if_neg hc]
    refine below_go xs h j fuel lo ((lo+hi) / 2) (by omega) (by omega) (by omega) l (fun i a hi' e=>?_)
    rcases Nat.lt_or_ge ((lo+hi) / 2) i with z | z
    ·exact Nat.le_trans (Nat.le_of_not_lt hc) (Nat.le_of_lt (h _ _ _ _ z hg e))
    ·have:i=(lo+hi) / 2:=by omega
     subst this
     rw[hg] at e;cases e;exact Nat.le_of_not_lt hc
  ·rw[if_neg hlt]
   have:lo=hi:=by omega
   subst this
   exact⟨l,r,h1⟩
theorem below_at {xs:Array Nat} (h:Up xs) (j:Nat):(∀ i a,i < SetTable.below xs j→xs[i]? = some a→a < j)∧(∀ i a,SetTable.below xs j≤i→xs[i]? = some a→j≤a)∧SetTable.below xs j≤xs.size:=
 below_go xs h j xs.size 0 xs.size (Nat.le_refl _) (Nat.zero_le _) (by omega) (fun i a hi _=>absurd hi (Nat.not_lt_zero _)) (fun i a hi e=>by
  have:=(Array.getElem?_eq_some_iff.mp e).1
  omega)
theorem below_next {xs:Array Nat} (h:Up xs) {i a:Nat} (e:xs[i]? = some a):SetTable.below xs (a+1)=i+1:=by
 obtain⟨h1,h2,h3⟩:=below_at h (a+1)
 have hi:=(Array.getElem?_eq_some_iff.mp e).1
 rcases Nat.lt_trichotomy (SetTable.below xs (a+1)) (i+1) with z | z | z
 ·have:=h2 i a (by omega) e;omega
 ·exact z
 ·have hlt:i+1 < xs.size:=by omega
  have e2:xs[i+1]? = some xs[i+1]:=Array.getElem?_eq_getElem hlt
  have l1:=h1 (i+1) _ z e2
  have l2:=h i (i+1) _ _ (Nat.lt_succ_self _) e e2
  omega
theorem below_0 {xs:Array Nat} (h:Up xs):SetTable.below xs 0=0:=by
 obtain⟨h1,_,h3⟩:=below_at h 0
 rcases Nat.eq_zero_or_pos (SetTable.below xs 0) with z | z
 ·exact z
 ·have e2:xs[0]? = some xs[0]:=Array.getElem?_eq_getElem (by omega)
  have:=h1 0 _ z e2
  omega
theorem up_nil:Up #[]:=fun i j a b _ e _=>by simp at e
theorem up_list {xs:Array Nat}:Up xs↔xs.toList.Pairwise (· < ·):=by
 rw[List.pairwise_iff_getElem]
 constructor
 ·intro h i j hi hj hij
  exact h i j _ _ hij (by rw[← Array.getElem?_toList];exact List.getElem?_eq_getElem hi) (by rw[← Array.getElem?_toList];exact List.getElem?_eq_getElem hj)
 ·intro h i j a b hij e1 e2
  rw[← Array.getElem?_toList] at e1 e2
  obtain⟨p1,rfl⟩:=List.getElem?_eq_some_iff.mp e1
  obtain⟨p2,rfl⟩:=List.getElem?_eq_some_iff.mp e2
  exact h i j p1 p2 hij
theorem up_put {xs:Array Nat} (h:Up xs) {j:Nat} (hn:xs[SetTable.below xs j]?≠some j):Up (SetTable.insertAt xs (SetTable.below xs j) j):=by
 obtain⟨h1,h2,h3⟩:=below_at h j
 rw[up_list,SetTable.toList_insertAt,List.pairwise_append,List.pairwise_cons]
 have hl:=up_list.1 h
 refine⟨hl.take,⟨fun a ha=>?_,hl.drop⟩,fun a ha b hb=>?_⟩
 ·obtain⟨i,hi⟩:=List.mem_iff_getElem?.1 ha
  rw[List.getElem?_drop,Array.getElem?_toList] at hi
  have le:=h2 _ _ (Nat.le_add_right _ _) hi
  rcases Nat.lt_or_ge j a with z | z
  ·exact z
  ·have ej:j=a:=by omega
   subst ej
   rcases Nat.eq_zero_or_pos i with e0 | e0
   ·subst e0;exact absurd hi hn
   ·have hlt:SetTable.below xs j < xs.size:=by
     have:=(Array.getElem?_eq_some_iff.mp hi).1;omega
    have e2:xs[SetTable.below xs j]? = some xs[SetTable.below xs j]:=Array.getElem?_eq_getElem hlt
    have l2:=h2 _ _ (Nat.le_refl _) e2
    have l3:=h _ _ _ _ (show SetTable.below xs j < SetTable.below xs j+i by omega) e2 hi
    omega
 ·obtain⟨i,hi⟩:=List.mem_iff_getElem?.1 ha
  rw[List.getElem?_take] at hi
  split at hi
  ·rename_i hlt
   rw[Array.getElem?_toList] at hi
   have l1:=h1 _ _ hlt hi
   rcases List.mem_cons.1 hb with z | z
   ·subst z;exact l1
   ·obtain⟨i2,hi2⟩:=List.mem_iff_getElem?.1 z
    rw[List.getElem?_drop,Array.getElem?_toList] at hi2
    have:=h2 _ _ (Nat.le_add_right _ _) hi2
    omega
  ·cases hi
theorem up_range (n:Nat):Up (Array.range n):=by
 rw[up_list,Array.toList_range]
 exact List.pairwise_lt_range
structure Tidy (b:Bool) (t:SetTable):Prop where
 led:t.led=b
 up:Up t.place
 dm:t.dummies = #[]
theorem tidy_fresh (b:Bool):Tidy b (.fresh 0 0 b):=⟨rfl,up_nil,rfl⟩
theorem tidy_stand {b:Bool}{t:SetTable} (h:Tidy b t) (n:Nat):Tidy b (t.standIn n):=⟨h.led,up_range n,rfl⟩
theorem tidy_or {b:Bool}{t:SetTable} (h:Tidy b t) (n:Nat):Tidy b (t.orStandIn n):=by
 unfold SetTable.orStandIn
 split
 ·exact h
 ·exact tidy_stand h n
theorem has_none (j:Nat):SetTable.has #[] j=false:=by
 unfold SetTable.has;simp
theorem slot_free {b:Bool}{t:SetTable} (h:Tidy b t) (j:Nat):t.slot j≠.dummy:=by
 unfold SetTable.slot
 rw[h.dm,has_none]
 dsimp only
 by_cases c:(t.place[SetTable.below t.place j]? == some j)=true
 ·rw[if_pos c];intro z;cases z
 ·rw[if_neg c,if_neg (by decide)];intro z;cases z
theorem probe_free {b:Bool}{t:SetTable} (h:Tidy b t) (hash:Int):∀ (fuel:Nat) (p:SetTable.Probe) (m:SetTable.Met),p.dummy=none→SetTable.probe.go t (fun _=>hash+1) hash fuel p=some m→
  ∃ j,m=.empty j none∧t.place[SetTable.below t.place j]?≠some j
 | 0,p,m,_,e=>by cases e
 | fuel+1,p,m,hd,e=>by
  unfold SetTable.probe.go at e
  have adv:(t.advance p).dummy=none:=by
   unfold SetTable.advance
   split <;> exact hd
  split at e
  ·rename_i hs
   cases e
   refine⟨p.j,by rw[hd],fun z=>?_⟩
   unfold SetTable.slot at hs
   simp [z] at hs
  ·rename_i hs
   exact absurd hs (slot_free h _)
  ·rename_i i hs
   split at e
   ·rename_i hh
    simp at hh
    omega
   ·exact probe_free h hash fuel _ m adv e
theorem tidy_new {b:Bool}{t:SetTable} (h:Tidy b t) (es:Array (Int×Value)) (hash:Int) (x:Value):Tidy b (layNew t es hash x).2.1:=by
 unfold layNew
 split
 ·rename_i slot wasDummy hf
  unfold SetTable.freeSlot at hf
  split at hf
  ·rename_i j dummy hp
   obtain⟨j',e,hn⟩:=probe_free h hash _ (t.probeStart hash) _ rfl hp
   cases e
   cases hf
   refine tidy_or (t:=(t.put _).1) ⟨h.led,up_put h.up hn,?_⟩ _
   show (if SetTable.has t.dummies _ then _ else t.dummies) = #[]
   rw[h.dm,has_none]
   rfl
  ·cases hf
 ·exact tidy_stand h _
theorem tidy_relay {b:Bool}{t:SetTable} (h:Tidy b t) (es:Array (Int×Value)) (n:Nat):Tidy b (relayAll t es n).2.1:=by
 unfold relayAll
 split
 ·rename_i t' order hr
  dsimp only
  split
  ·show Tidy b t'
   unfold SetTable.relaid SetTable.laid at hr
   obtain⟨owner,ho,e⟩:=Option.bind_eq_some_iff.mp hr
   cases e
   refine⟨h.led,?_,rfl⟩
   rw[up_list]
   dsimp only
   rw[List.pairwise_map,List.pairwise_filterMap]
   refine List.pairwise_lt_range.imp fun {a c} hac x hx y hy=>?_
   obtain⟨x',_,rfl⟩:=Option.map_eq_some_iff.mp hx
   obtain⟨y',_,rfl⟩:=Option.map_eq_some_iff.mp hy
   exact hac
  ·exact tidy_stand h _
 ·exact tidy_stand h _
end TwS
namespace TwS
open PySem PyProof.Rows
noncomputable def intOf:Value→Int
 | .int i _=>i
 | _=>0
structure Cnt (prog:Program) (w:World) (b:Bool) (L:List Int) (es:Array (Int×Value)) (t:SetTable):Prop where
 el:ElemsOf (intKind prog w) es.toList
 pm:(es.toList.map fun e=>intOf e.2).Perm L
 bd:es.size < scanBound
 ft:t.fits es.size=true
 td:Tidy b t
noncomputable def SetI (prog:Program) (w:World) (b:Bool) (h:Heap) (a:Addr) (L:List Int):Prop:=
 ∃ o es ep t,h.get? a=some o∧o.ExactSet∧o.data=.set es ep t∧Cnt prog w b L es t
section
variable {prog:Program}{w:World}{b:Bool}{A:Around}{E:Value→Shared→Prop}{s:Shared}{a:Addr}{L:List Int}
theorem el_int {es:List (Int×Value)} (h:ElemsOf (intKind prog w) es) {e:Int×Value} (he:e∈es):∃ i t,e.2=.int i t:=by
 obtain⟨⟨k,hk,_⟩,_⟩:=h e he
 obtain⟨t,z⟩:=Value.isInt_shape hk
 exact⟨k,t,z⟩
theorem is_int {es:List (Int×Value)} (h:ElemsOf (intKind prog w) es) {e:Int×Value} (he:e∈es) (k:Int):(intKind prog w).is k e.2=decide (intOf e.2=k):=by
 obtain⟨i,t,z⟩:=el_int h he
 rw[z]
 show (i == k)=decide (i=k)
 rfl
theorem mem_cnt {es:Array (Int×Value)}{t:SetTable} (c:Cnt prog w b L es t) (k:Int):k∈L↔∃ e∈es.toList,(intKind prog w).is k e.2=true:=by
 rw[← c.pm.mem_iff,List.mem_map]
 constructor
 ·rintro⟨e,he,z⟩
  exact⟨e,he,by rw[is_int c.el he];exact decide_eq_true z⟩
 ·rintro⟨e,he,z⟩
  rw[is_int c.el he] at z
  exact⟨e,he,of_decide_eq_true z⟩
theorem len_cnt {es:Array (Int×Value)}{t:SetTable} (c:Cnt prog w b L es t):es.size=L.length:=by
 rw[← c.pm.length_eq,List.length_map,Array.length_toList]
theorem cnt_store {o:Obj}{es es':Array (Int×Value)}{ep:Nat}{t t':SetTable}{h:Heap}{L':List Int} (g:h.get? a=some o) (x:o.ExactSet) (d:o.data=.set es ep t) (c:Cnt prog w b L' es' t') :
  (h.update a (Obj.putSet es' t')).get? a=some { o with data:=.set es' (ep+1) t' }∧SetI prog w b (h.update a (Obj.putSet es' t')) a L':=by
 have u:(h.update a (Obj.putSet es' t')).get? a=some { o with data:=.set es' (ep+1) t' }:=by
  have:=Heap.get?_update_self (Obj.putSet es' t') g (by rw[putSet_of es' t' d];rfl)
  rw[putSet_of es' t' d] at this
  exact this
 exact⟨u,_,_,_,_,u,x,rfl,c⟩
theorem gave_pass (q:Bool) {s1:Shared}{R:Unit→Shared→Prop} (h:R () s1):wpAny (model prog w) A (match q with | true=>rule "set.scan.the-table-gave-way" | false=>pure ()) R E s1:=by
 cases q
 ·exact wpAny_pure h
 ·exact wpAny_rule h
theorem add_int {k:Int}{tk:Tok}{R:Bool→Shared→Prop} (hS:SetI prog w b s.heap a L) (room:L.length+1 < scanBound)
  (hR:∀ h',Heap.SameBut a s.heap h'→SetI prog w b h' a (if k∈L then L else L++[k])→R (!decide (k∈L)) { s with heap:=h' }) :
  wpAny (model prog w) A (setAddHashed a (.int k tk) ((intKind prog w).hash k)) R E s:=by
 obtain⟨o,es,ep,t,g,x,d,c⟩:=hS
 have ln:=len_cnt c
 have isk:(intKind prog w).is k (.int k tk)=true:=intKind_is _ _ _ _
 have sc:(Value.int k tk).scannable=true:=rfl
 unfold setAddHashed setAddHashedIn
 refine wpAny_holding (wpAny_bind (wpAny_setState_of (prog:=prog) g d c.ft ?_))
 dsimp only
 rw[byScan_of sc c.bd c.el,if_pos rfl]
 unfold setAddByScan
 refine wpAny_bind (wpAny_bind (wpAny_rule (wpAny_bind (wpAny_setScan_of isk g d c.ft c.el ?_))))
 by_cases m:k∈L
 ·obtain⟨e,he,z⟩:=(mem_cnt c k).1 m
  cases q:es.toList.findIdx? (fun e=>(intKind prog w).is k e.2) with
  | none=>have:=List.findIdx?_eq_none_iff.mp q e he;rw[z] at this;cases this
  | some j=>
   have r:=hR s.heap (Heap.SameBut.refl a s.heap)
   rw[if_pos m,decide_eq_true m] at r
   exact wpAny_pure (wpAny_pure (r ⟨o,es,ep,t,g,x,d,c⟩))
 ·cases q:es.toList.findIdx? (fun e=>(intKind prog w).is k e.2) with
  | some j=>
   obtain⟨hj,z,_⟩:=List.findIdx?_eq_some_iff_getElem.mp q
   exact absurd ((mem_cnt c k).2 ⟨_,List.getElem_mem hj,z⟩) m
  | none=>
   dsimp only
   rw[if_neg m,decide_eq_false m] at hR
   have p1:=layNew_perm t es ((intKind prog w).hash k) (.int k tk)
   have f1:=layNew_fits t es ((intKind prog w).hash k) (.int k tk)
   have t1:=tidy_new c.td es ((intKind prog w).hash k) (.int k tk)
   generalize layNew t es ((intKind prog w).hash k) (.int k tk)=Y at p1 f1 t1 ⊢
   obtain⟨es1,tb1,wd,gv⟩:=Y
   dsimp only at p1 f1 t1 ⊢
   rw[Array.toList_push] at p1
   have c1:Cnt prog w b (L++[k]) es1 tb1:=by
    refine⟨(c.el.push isk sc).perm p1,?_,?_,f1,t1⟩
    ·refine (p1.map _).trans ?_
     rw[List.map_append]
     exact c.pm.append_right _
    ·rw[← Array.length_toList,p1.length_eq,List.length_append,Array.length_toList,ln]
     exact room
   have fin:∀ (tb2:SetTable),Cnt prog w b (L++[k]) es1 tb2→wpAny (model prog w) A (do
     storeSet a es1 tb2
     if (!wd && tb2.tooFull)=true then do
       (match (relayAll tb2 es1 (SetTable.grown es1.size)).2.2 with | true=>rule "set.scan.the-table-gave-way" | false=>pure ())
       storeSet a (relayAll tb2 es1 (SetTable.grown es1.size)).1 (relayAll tb2 es1 (SetTable.grown es1.size)).2.1
       pure (some true)
      else pure (some true)) (fun r s'=>wpAny (model prog w) A (match r with | some added=>pure added | none=>setAddHashedIn a (.int k tk) ((intKind prog w).hash k) 99999) R E s') E s:=by
    intro tb2 c2
    refine wpAny_bind (wpAny_storeSet_of g d ?_ (fits_of_scanBound c2.bd))
    obtain⟨g1,S1⟩:=cnt_store g x d c2
    have sb:=Heap.SameBut.update s.heap a (Obj.putSet es1 tb2)
    split
    ·have p3:=relayAll_perm tb2 es1 (SetTable.grown es1.size)
     have f3:=relayAll_fits tb2 es1 (SetTable.grown es1.size)
     have t3:=tidy_relay c2.td es1 (SetTable.grown es1.size)
     generalize relayAll tb2 es1 (SetTable.grown es1.size)=Y at p3 f3 t3 ⊢
     obtain⟨es3,tb3,gv3⟩:=Y
     dsimp only at p3 f3 t3 ⊢
     have c3:Cnt prog w b (L++[k]) es3 tb3:=⟨c2.el.perm p3,(p3.map _).trans c2.pm,by rw[← Array.length_toList,p3.length_eq,Array.length_toList];exact c2.bd,f3,t3⟩
     refine wpAny_bind (gave_pass gv3 (wpAny_bind (wpAny_storeSet_of g1 rfl ?_ (fits_of_scanBound c3.bd))))
     exact wpAny_pure (wpAny_pure (hR _ (sb.trans (Heap.SameBut.update _ a _)) (cnt_store g1 x rfl c3).2))
    ·exact wpAny_pure (wpAny_pure (hR _ sb S1))
   refine wpAny_bind (gave_pass gv ?_)
   split
   ·refine wpAny_bind ?_
    rw[hashByValue_scannable 8 sc]
    refine wpAny_pure ?_
    exact fin _ c1
   ·refine wpAny_bind (wpAny_pure ?_)
    exact fin _ c1
end
end TwS
namespace TwS
open PySem PySem.Spec PyProof.Rows
noncomputable def dd (val:Nat→Int):Nat→List Int
 | 0=>[]
 | i+1=>if val i∈dd val i then dd val i else dd val i++[val i]
theorem dd_succ (val:Nat→Int) (i:Nat):dd val (i+1)=if val i∈dd val i then dd val i else dd val i++[val i]:=rfl
theorem dd_len (val:Nat→Int):∀ i,(dd val i).length≤i
 | 0=>Nat.le_refl _
 | i+1=>by
  have ih:=dd_len val i
  rw[dd_succ]
  split
  ·omega
  ·rw[List.length_append,List.length_singleton];omega
theorem dd_mem (val:Nat→Int) (k:Int):∀ n,k∈dd val n↔∃ i,i < n∧val i=k
 | 0=>⟨fun z=>(by cases z),fun z=>(by obtain⟨i,hi,_⟩:=z;exact absurd hi (Nat.not_lt_zero _))⟩
 | n+1=>by
  have ih:=dd_mem val k n
  have key:k∈dd val (n+1)↔k∈dd val n∨val n=k:=by
   rw[dd_succ]
   split
   ·rename_i z
    exact⟨.inl,fun y=>y.elim id fun e=>e ▸ z⟩
   ·rw[List.mem_append,List.mem_singleton]
    exact⟨fun y=>y.imp id Eq.symm,fun y=>y.imp id Eq.symm⟩
  rw[key,ih]
  constructor
  ·rintro (⟨i,hi,e⟩ | e)
   ·exact⟨i,by omega,e⟩
   ·exact⟨n,by omega,e⟩
  ·rintro⟨i,hi,e⟩
   rcases Nat.lt_or_ge i n with z | z
   ·exact .inl ⟨i,z,e⟩
   ·have:i=n:=by omega
    subst this
    exact .inr e
theorem dd_nodup (val:Nat→Int):∀ n,(dd val n).Nodup
 | 0=>List.nodup_nil
 | n+1=>by
  have ih:=dd_nodup val n
  rw[dd_succ]
  split
  ·exact ih
  ·rename_i z
   rw[List.nodup_append]
   refine⟨ih,by simp,fun x hx y hy=>?_⟩
   rw[List.mem_singleton] at hy
   subst hy
   exact fun e=>z (e ▸ hx)
section
variable {prog:Program}{w:World}{b:Bool}{A:Around}{R:Result→Shared→Prop}{I:Addr}{fp wr:List Addr}{G:Array GenState→Array GenState→Prop}{n:Nat}{P:Nat→Value→Prop}{St:Nat→Shared→Prop}
theorem SetI.at {h h':Heap}{a:Addr}{L:List Int} (x:SetI prog w b h a L) (e:∀ o,h.get? a=some o→h'.get? a=some o):SetI prog w b h' a L:=by
 obtain⟨o,es,ep,t,g,r⟩:=x
 exact⟨o,es,ep,t,e o g,r⟩
theorem set_loop (Wk:WalksS prog w A.in1 I fp wr G n P St) (S:Addr) (off:S∉fp) (val:Nat→Int) (vals:∀ i v,P i v→∃ t,v=.int (val i) t) (small:n+1 < scanBound) :
  ∀ (m i:Nat) (s:Shared),n - i=m→i≤n→St i s→SetI prog w b s.heap S (dd val i)→(∀ s',Moved (S::wr) G s s'→SetI prog w b s'.heap S (dd val n)→R (.ok (.ret .none)) s')→
   codeAny (model prog w) A (.builtin "set.update.loop" ⟨[.ref S,.ref I],[]⟩) R s:=by
 have offw:S∉wr:=fun z=>off (Wk.sub _ z)
 have more:∀ c∈wr,c∈S::wr:=fun c hc=>List.mem_cons_of_mem _ hc
 intro m
 induction m with
 | zero=>
  intro i s hm hi st hS k
  obtain rfl:i=n:=by omega
  refine codeAny_builtin F.entry_set_update_loop ?_
  rw[Around.under_plainId F.plain_set_update_loop _]
  show wpAny _ A.in1 (pyNext (.ref I) >>= _) _ _ s
  refine wpAny_bind (Wk.done s _ _ st fun s1 mv=>?_)
  exact wpAny_pure (k s1 (mv.mono more) (hS.at fun o e=>mv.heap S o offw e))
 | succ m ih=>
  intro i s hm hi st hS k
  have lt:i < n:=by omega
  refine codeAny_builtin F.entry_set_update_loop ?_
  rw[Around.under_plainId F.plain_set_update_loop _]
  show wpAny _ A.in1 (pyNext (.ref I) >>= _) _ _ s
  refine wpAny_bind (Wk.item i s _ _ lt st fun v s1 hv st1 mv=>?_)
  obtain⟨t,rfl⟩:=vals i v hv
  have hS1:SetI prog w b s1.heap S (dd val i):=hS.at fun o e=>mv.heap S o offw e
  show wpAny _ A.in1 (holding [Value.int (val i) t] (setAdd S (.int (val i) t)) >>= _) _ _ s1
  refine wpAny_bind (wpAny_holding ?_)
  unfold setAdd
  refine wpAny_holding (wpAny_bind ((intKind prog w).pyHash (k:=val i) (intKind_is _ _ _ _) ?_))
  have rm:(dd val i).length+1 < scanBound:=by have:=dd_len val i;omega
  refine add_int (s:={ s1 with toks:=s1.toks+1 }) hS1 rm fun h2 sb hS2=>?_
  refine wpAny_pure ⟨plainId_quiet F.plain_set_update_loop _,ih (i+1) _ (by omega) lt (Wk.frame _ s1 _ _ st1 (Nat.le_succ _) fun c hc o e=>?_) hS2 fun s3 mv3 hS3=>?_⟩
  ·rw[sb.2 c fun z:c=S=>off (z ▸ hc)];exact e
  ·refine k s3 (Moved.trans Wk.gtrans ((mv.mono more).then_heap (Nat.le_succ _) fun c o hc e=>?_) mv3) hS3
   rw[sb.2 c fun z:c=S=>hc (by rw[z];exact List.mem_cons_self)];exact e
end
section
variable {prog:Program}{w:World}{A:Around}{E:Value→Shared→Prop}{s:Shared}
noncomputable abbrev freshS (w:World):Obj:={ cls:=.type "set",dict:=none,data:=.set #[] 0 (.fresh 0 0 (!w.params.followText "set-order")) }
theorem new_set (v:Value) {Q:Value→Shared→Prop} (k:Q (.ref s.heap.objs.size) { s with heap:=s.heap.push (freshS w) }) :
  codeAny (model prog w) A (.call (.builtin "set.__new__") ⟨[.type "set",v],[]⟩) (wants Q E) s:=by
 refine codeAny_of_tree ?_
 show wpAny _ A.in1 (checkBuiltinCall "set.__new__" ⟨[.type "set",v],[]⟩ >>= fun _=>again (.builtin "set.__new__" ⟨[.type "set",v],[]⟩)) _ _ s
 refine wpAny_bind (wpAny_of_eq (F.newCall_set_1 v) (wpAny_pure ⟨plainId_quiet F.plain_set_new _,codeAny_builtin F.entry_set_new ?_⟩))
 rw[Around.under_plainId F.plain_set_new _]
 unfold Builtin.«set.__new__» Builtin.Frozenset.newClass
 have su:=sub_set_self
 obtain⟨hp,g,d,tk,os⟩:=s
 dsimp only
 wp_walk
 refine wpAny_askSetting (wpAny_pure ?_)
 dsimp only
 simp only [newObj]
 exact wpAny_bind (wpAny_alloc (wpAny_pure (wpAny_pure k)))
theorem fresh_cnt:Cnt prog w (!w.params.followText "set-order") [] #[] (.fresh 0 0 (!w.params.followText "set-order")):=
 ⟨fun e he=>by simp at he,by simp,by unfold scanBound;decide,by rfl,tidy_fresh _⟩
theorem call_set {l:Addr}{items:Array Value}{ns:List Int}{Q:Value→Shared→Prop} (hh:A.handled=none) (hl:s.heap.IsList l items) (hi:IntsAre items.toList ns) (small:items.size+1 < scanBound)
  (k:∀ (h':Heap) (tk:Nat),SetI prog w (!w.params.followText "set-order") h' s.heap.objs.size (dd (fun i=>ns.getD i 0) items.size)→(∀ c o,c < s.heap.objs.size→s.heap.get? c=some o→h'.get? c=some o)→
   Q (.ref s.heap.objs.size) { s with heap:=h',toks:=tk }) :
  wpAny (model prog w) A (call (.type "set") [.ref l]) Q E s:=by
 obtain⟨c0,tl0,mro0⟩:=F.called_set.mro
 have made0:=F.called_set.made
 have sub0:=F.called_set.sub
 refine wpAny_call (codeAny_of_tree ?_)
 show wpAny _ _ (callAny (.type "set") _) _ _ _
 refine wpAny_pure ⟨Code.quiet_builtin _ (by decide +kernel),codeAny_builtin F.entry_type_call ?_⟩
 rw[Around.under_plain (weight_type_call_type "set" [.ref l] []) rfl]
 have nt:=F.called_set.notType
 have cc:=F.called_set.canCreate
 have tc:=F.typeCall_set_1 (.ref l)
 repeat (any_goals (first | assumption | wp_step))
 refine codeAny_mono (new_set (.ref l) (E:=E) (Q:=fun v s1=>v=.ref s.heap.objs.size∧s1={ s with heap:=s.heap.push (freshS w) }) ⟨rfl,rfl⟩) fun r s1 hr=>?_
 cases r with
 | error e=>exact hr
 | ok fl=>
  cases fl with
  | ret obj=>
   obtain⟨rfl,rfl⟩:=hr
   have gS:(s.heap.push (freshS w)).get? s.heap.objs.size=some (freshS w):=Heap.get?_push_size _ rfl
   have ty:Shared.TypeIs { s with heap:=s.heap.push (freshS w) } (.ref s.heap.objs.size) "set" := ⟨_,gS,rfl⟩
   have il:=F.called_set.init.lookup
   have ib:=F.called_set.init.bind (.ref s.heap.objs.size)
   repeat (any_goals (first | assumption | wp_step))
   refine codeAny_mono (codeAny_call_builtin (R:=wants (fun r s2=>r=.none∧∃ h' tk,s2={ s with heap:=h',toks:=tk }∧SetI prog w (!w.params.followText "set-order") h' s.heap.objs.size (dd (fun i=>ns.getD i 0) items.size)∧
     (∀ c o,c < s.heap.objs.size→s.heap.get? c=some o→h'.get? c=some o)) E) F.called_set.init.plain F.entry_set_init (check_set_init_1 ty ?_)) fun r2 s2 hr2=>?_
   ·obtain⟨ol,hol,cl,nl,dl⟩:=hl
    obtain⟨ocls,odict,odata,oslots⟩:=ol
    simp only at cl dl
    subst cl dl
    have hol1:(s.heap.push (freshS w)).get? l=some { cls:=.type "list",dict:=odict,data:=.seq items nl,slots:=oslots }:=Heap.get?_push_of_some _ hol
    have s1:=F.sub_list_set
    have s2:=F.sub_list_frozenset
    have ne:(Value.type "list" == Value.type "dict")=false:=by decide
    have hl1:(s.heap.push (freshS w)).IsList l items:=⟨_,hol1,rfl,nl,rfl⟩
    unfold Builtin.«set.__init__» noKeywords Builtin.Frozenset.updateFrom
    generalize hPI:pyIter=PI
    wp_walk
    subst hPI
    refine wpAny_pyIter_list hl1 (wpAny_bind (wpAny_runValue ?_))
    have ll:l < s.heap.objs.size:=Heap.lt_size hol
    have h3:A.in1.in1.in1.handled=none:=by simp [hh]
    have zz:(s.heap.push (freshS w)).objs.size=s.heap.objs.size+1:=Heap.size_push _ _
    have neI:l≠(s.heap.push (freshS w)).objs.size:=by rw[zz];exact Nat.ne_of_lt (Nat.lt_succ_of_lt ll)
    have offS:s.heap.objs.size∉[(s.heap.push (freshS w)).objs.size,l]:=by
     rw[zz];simp only [List.mem_cons,List.mem_singleton,List.not_mem_nil,or_false,not_or]
     exact⟨Nat.ne_of_lt (Nat.lt_succ_self _),Nat.ne_of_gt ll⟩
    refine set_loop ((Walks.list h3 _ l neI items).toS) s.heap.objs.size offS (fun i=>ns.getD i 0) (fun i v hv=>IntsAre.int_at hi i v (by rw[Array.getElem?_toList];exact hv)) small (items.size - 0) 0 _ (by omega) (Nat.zero_le _)
     ⟨⟨_,Heap.get?_push_size _ rfl,rfl,rfl⟩,hl1.push _⟩ ⟨_,#[],0,_,Heap.get?_push_of_some _ gS,⟨rfl,rfl,rfl⟩,rfl,fresh_cnt⟩ ?_
    intro s4 mv hS4
    obtain⟨h4,g4,d4,tk4,os4⟩:=s4
    obtain rfl:g4=s.gens:=mv.gens
    obtain rfl:d4=s.drawn:=mv.drawn
    obtain rfl:os4=s.os:=mv.os
    show wpAny _ _ _ _ _ _
    refine wpAny_pure ?_
    show wpAny _ _ (ret Value.none) _ _ _
    refine wpAny_pure ⟨rfl,h4,tk4,rfl,hS4,fun c o hc e=>?_⟩
    exact mv.heap c o (by
     simp only [List.mem_cons,List.mem_singleton,List.not_mem_nil,or_false,not_or]
     exact⟨Nat.ne_of_lt hc,by rw[zz];exact Nat.ne_of_lt (Nat.lt_succ_of_lt hc)⟩) (Heap.get?_push_of_some _ (Heap.get?_push_of_some _ e))
   ·cases r2 with
    | error e=>exact hr2
    | ok fl2=>
     cases fl2 with
     | ret r=>
      obtain⟨rfl,h',tk,rfl,hS2,hk2⟩:=hr2
      repeat (any_goals (first | assumption | wp_step))
      exact k _ _ hS2 hk2
     | _=>exact hr2.elim
  | _=>exact hr.elim
end
end TwS
namespace TwS
open PySem PySem.Spec PyProof.Rows
theorem d3:Slot "set_iterator" "__next__" "set_iterator.__next__" :=
 .of (owner := "set_iterator") (n := "__next__") (by rw[typeLookup_type,builtinLookup_eq_fast];kernel_rfl) (by decide +kernel) (by decide +kernel) (by decide +kernel)
  (by first | exact .inl (by decide +kernel) | exact .inr (by decide +kernel)) (by rw[isSubtype_type];kernel_rfl)
theorem entry_si_next:entryFor table "set_iterator.__next__" = some Builtin.«set_iterator.__next__»:=entryFor_of_fast (by kernel_rfl)
theorem args_si_next (a:Value):argsOk "set_iterator.__next__" ⟨[a],[]⟩:=by unfold argsOk;kernel_rfl
theorem slot_set_iter:Slot "set" "__iter__" "set.__iter__" :=
 .of (owner := "set") (n := "__iter__") (by rw[typeLookup_type,builtinLookup_eq_fast];kernel_rfl) (by decide +kernel) (by decide +kernel) (by decide +kernel)
  (by first | exact .inl (by decide +kernel) | exact .inr (by decide +kernel)) (by rw[isSubtype_type];kernel_rfl)
theorem entry_set_iter:entryFor table "set.__iter__" = some Builtin.«frozenset.__iter__»:=entryFor_alias (id' := "frozenset.__iter__") (by kernel_rfl) rfl (by decide +kernel) (by kernel_rfl)
theorem slot_si_iter:Slot "set_iterator" "__iter__" "set_iterator.__iter__" :=
 .of (owner := "set_iterator") (n := "__iter__") (by rw[typeLookup_type,builtinLookup_eq_fast];kernel_rfl) (by decide +kernel) (by decide +kernel) (by decide +kernel)
  (by first | exact .inl (by decide +kernel) | exact .inr (by decide +kernel)) (by rw[isSubtype_type];kernel_rfl)
theorem entry_si_iter:entryFor table "set_iterator.__iter__" = some Builtin.«dict_keyiterator.__iter__»:=entryFor_alias (id' := "dict_keyiterator.__iter__") (by kernel_rfl) rfl (by decide +kernel) (by kernel_rfl)
theorem args_si_iter (a:Value):argsOk "set_iterator.__iter__" ⟨[a],[]⟩:=by unfold argsOk;kernel_rfl
theorem args_set_iter (a:Value):argsOk "set.__iter__" ⟨[a],[]⟩:=by unfold argsOk;kernel_rfl
noncomputable abbrev itO (f:Value) (i:Nat) (S:Addr) (n ep:Nat):Obj:={ cls:=.type "set_iterator",data:=.fields #[f,rawInt (i:Int),.ref S,rawInt (n:Int),rawInt (ep:Int)] }
section
variable {prog:Program}{w:World}{A:Around}{E:Value→Shared→Prop}{s:Shared}{I S:Addr}{o:Obj}{es:Array (Int×Value)}{ep i:Nat}{t:SetTable}
theorem stop_now {Q:Fin→Shared→Prop} (hh:A.handled=none) (hE:∀ h' e,(∀ c q,s.heap.get? c=some q→h'.get? c=some q)→(∃ q,h'.get? e=some q∧q.cls=.type "StopIteration")→E (.ref e) { s with heap:=h' }) :
  wpAny (model prog w) A (newExc (.type "StopIteration") [] >>= fun x=>raiseNew x) Q E s:=by
 refine wpAny_bind ?_
 simp only [newExc,newTuple]
 refine wpAny_bind (wpAny_newObj_type ?_ (by size_fits))
 refine wpAny_bind (m:=firstArgMember _ _) (wpAny_of_eq (a:=Value.none) (by first | rfl | (simp only [firstArgMember];rfl)) (wpAny_newObj_type ?_ (by size_fits)))
 simp only [raiseNew]
 refine wpAny_bind (wpAny_handled ?_)
 rw[hh]
 exact wpAny_bind (wpAny_pure (wpAny_throw (hE _ _ (fun c q e=>Heap.get?_push_of_some _ (Heap.get?_push_of_some _ e)) ⟨_,Heap.get?_push_size _ rfl,rfl⟩)))
theorem pyNext_si {f:Value}{n:Nat}{Q:Option Value→Shared→Prop} (hI:s.heap.get? I=some (itO f i S n ep))
  (h:wpAny (model prog w) A.in1 (Builtin.«set_iterator.__next__» ⟨[.ref I],[]⟩) (fun fin s'=>∃ v,fin=.done (.ret v)∧Q (some v) s') (fun e s'=>(∃ a q,e=.ref a∧s'.heap.get? a=some q∧q.cls=.type "StopIteration")∧Q none s') s) :
  wpAny (model prog w) A (pyNext (.ref I)) Q E s:=by
 have ty:s.TypeIs (.ref I) "set_iterator" := ⟨_,hI,rfl⟩
 unfold pyNext
 refine wpAny_bind (wpAny_attempt (wpAny_callSpecial?_slot (name:=Str.ofString "__next__") ty d3
  (wpAny_call_entry d3 ty entry_si_next (wpAny_mono h (fun fin s' z=>?_) fun e s' z=>?_) (args_si_next _))))
 ·obtain⟨v,rfl,q⟩:=z
  exact⟨v,rfl,wpAny_pure q⟩
 ·obtain⟨⟨a,q,rfl,ho,hc⟩,z⟩:=z
  exact wpAny_bind (wpAny_isInstance (T := "StopIteration") (b:=true) ⟨q,ho,hc⟩ isSubtype_stop (wpAny_pure z))
theorem pyIter_si {f:Value}{n:Nat}{Q:Value→Shared→Prop} (hI:s.heap.get? I=some (itO f i S n ep)) (k:Q (.ref I) s):wpAny (model prog w) A (pyIter (.ref I)) Q E s:=by
 have ty:s.TypeIs (.ref I) "set_iterator" := ⟨_,hI,rfl⟩
 refine wpAny_pyIter_slot ty slot_si_iter (wpAny_call_entry slot_si_iter ty entry_si_iter ?_ (args_si_iter _))
 show wpAny _ _ (ret (.ref I)) _ _ s
 exact wpAny_pure ⟨_,rfl,"set_iterator",_,ty,d3.lookup,k⟩
theorem next_num {slot nx:Nat}{x:Value}{Q:Fin→Shared→Prop} (hI:s.heap.get? I=some (itO (rawInt (slot:Int)) i S es.size ep)) (g:s.heap.get? S=some o) (d:o.data=.set es ep t) (ft:t.fits es.size=true)
  (hn:∀ (R:Option (Value×Nat)→Shared→Prop),R (some (x,nx)) s→wpAny (model prog w) A (setNext S slot i ep) R E s)
  (k:∀ h',h'.get? I=some (itO (rawInt (nx:Int)) (i+1) S es.size ep)→Heap.SameBut I s.heap h'→Q (.done (.ret x)) { s with heap:=h' }) :
  wpAny (model prog w) A (Builtin.«set_iterator.__next__» ⟨[.ref I],[]⟩) Q E s:=by
 show wpAny _ _ (fieldsOf (.ref I) >>= _) _ _ s
 refine wpAny_bind (wpAny_fieldsOf hI rfl ?_)
 show wpAny _ _ (setEntries S >>= _) _ _ s
 unfold setEntries
 refine wpAny_bind (wpAny_bind (wpAny_setState_of g d ft (wpAny_pure ?_)))
 dsimp only
 rw[if_neg (by simp)]
 show wpAny _ _ (setNext S (slot:Int).toNat (i:Int).toNat (ep:Int).toNat >>= _) _ _ s
 rw[Int.toNat_natCast,Int.toNat_natCast,Int.toNat_natCast]
 refine wpAny_bind (hn _ ?_)
 refine wpAny_bind (wpAny_setField_rec hI (by simp) fun h1 g1 b1=>?_)
 refine wpAny_bind (wpAny_setField_rec (s:={ s with heap:=h1 }) g1 (by simp) fun h2 g2 b2=>?_)
 exact wpAny_pure (k h2 (by simp at g2;exact g2) (b1.trans b2))
theorem end_num {slot:Nat}{Q:Fin→Shared→Prop} (hh:A.handled=none) (hI:s.heap.get? I=some (itO (rawInt (slot:Int)) i S es.size ep)) (g:s.heap.get? S=some o) (d:o.data=.set es ep t) (ft:t.fits es.size=true)
  (hn:∀ (R:Option (Value×Nat)→Shared→Prop),R none s→wpAny (model prog w) A (setNext S slot i ep) R E s)
  (hE:∀ h' e,(∀ c q,c≠I→s.heap.get? c=some q→h'.get? c=some q)→(∃ q,h'.get? e=some q∧q.cls=.type "StopIteration")→E (.ref e) { s with heap:=h' }) :
  wpAny (model prog w) A (Builtin.«set_iterator.__next__» ⟨[.ref I],[]⟩) Q E s:=by
 show wpAny _ _ (fieldsOf (.ref I) >>= _) _ _ s
 refine wpAny_bind (wpAny_fieldsOf hI rfl ?_)
 show wpAny _ _ (setEntries S >>= _) _ _ s
 unfold setEntries
 refine wpAny_bind (wpAny_bind (wpAny_setState_of g d ft (wpAny_pure ?_)))
 dsimp only
 rw[if_neg (by simp)]
 show wpAny _ _ (setNext S (slot:Int).toNat (i:Int).toNat (ep:Int).toNat >>= _) _ _ s
 rw[Int.toNat_natCast,Int.toNat_natCast,Int.toNat_natCast]
 refine wpAny_bind (hn _ ?_)
 refine wpAny_bind (wpAny_setField_rec hI (by simp) fun h1 g1 b1=>?_)
 exact stop_now (s:={ s with heap:=h1 }) hh fun h' e kp st=>hE h' e (fun c q hc z=>kp c q (by rw[b1.2 c hc];exact z)) st
theorem next_drawn {T:Addr}{ps:Array Value}{m p:Nat}{tk:Tok}{hx:Int}{x:Value}{Q:Fin→Shared→Prop} (hI:s.heap.get? I=some (itO (.ref T) i S es.size ep)) (g:s.heap.get? S=some o) (d:o.data=.set es ep t) (ft:t.fits es.size=true)
  (hT:s.heap.get? T=some { cls:=.type "tuple",data:=.seq ps m }) (hp:ps[i]? = some (.int (p:Int) tk)) (hx:es[p]? = some (hx,x))
  (k:∀ h',h'.get? I=some (itO (.ref T) (i+1) S es.size ep)→Heap.SameBut I s.heap h'→Q (.done (.ret x)) { s with heap:=h' }) :
  wpAny (model prog w) A (Builtin.«set_iterator.__next__» ⟨[.ref I],[]⟩) Q E s:=by
 show wpAny _ _ (fieldsOf (.ref I) >>= _) _ _ s
 refine wpAny_bind (wpAny_fieldsOf hI rfl ?_)
 show wpAny _ _ (setEntries S >>= _) _ _ s
 unfold setEntries
 refine wpAny_bind (wpAny_bind (wpAny_setState_of g d ft (wpAny_pure ?_)))
 dsimp only
 rw[if_neg (by simp)]
 show wpAny _ _ (seqItems? (.ref T) >>= _) _ _ s
 refine wpAny_bind (wpAny_seqItems hT rfl ?_)
 dsimp only
 rw[Int.toNat_natCast,hp]
 dsimp only
 unfold setNextDrawn
 refine wpAny_bind (wpAny_bind (wpAny_setState_of g d ft ?_))
 dsimp only
 rw[Int.toNat_natCast,Int.toNat_natCast,if_neg (by simp),hx]
 refine wpAny_pure (wpAny_bind (wpAny_setField_rec hI (by simp) fun h1 g1 b1=>?_))
 exact wpAny_pure (k h1 (by simp at g1;exact g1) b1)
theorem end_drawn {T:Addr}{ps:Array Value}{m:Nat}{Q:Fin→Shared→Prop} (hh:A.handled=none) (hI:s.heap.get? I=some (itO (.ref T) i S es.size ep)) (g:s.heap.get? S=some o) (d:o.data=.set es ep t) (ft:t.fits es.size=true)
  (hT:s.heap.get? T=some { cls:=.type "tuple",data:=.seq ps m }) (hp:ps[i]? = none)
  (hE:∀ h' e,(∀ c q,c≠I→s.heap.get? c=some q→h'.get? c=some q)→(∃ q,h'.get? e=some q∧q.cls=.type "StopIteration")→E (.ref e) { s with heap:=h' }) :
  wpAny (model prog w) A (Builtin.«set_iterator.__next__» ⟨[.ref I],[]⟩) Q E s:=by
 show wpAny _ _ (fieldsOf (.ref I) >>= _) _ _ s
 refine wpAny_bind (wpAny_fieldsOf hI rfl ?_)
 show wpAny _ _ (setEntries S >>= _) _ _ s
 unfold setEntries
 refine wpAny_bind (wpAny_bind (wpAny_setState_of g d ft (wpAny_pure ?_)))
 dsimp only
 rw[if_neg (by simp)]
 show wpAny _ _ (seqItems? (.ref T) >>= _) _ _ s
 refine wpAny_bind (wpAny_seqItems hT rfl ?_)
 dsimp only
 rw[Int.toNat_natCast,hp]
 dsimp only
 refine wpAny_bind (wpAny_setField_rec hI (by simp) fun h1 g1 b1=>?_)
 refine wpAny_bind (wpAny_setField_rec (s:={ s with heap:=h1 }) g1 (by simp) fun h2 g2 b2=>?_)
 exact stop_now (s:={ s with heap:=h2 }) hh fun h' e kp st=>hE h' e (fun c q hc z=>kp c q (by rw[b2.2 c hc,b1.2 c hc];exact z)) st
theorem setNext_text {slot:Nat}{R:Option (Value×Nat)→Shared→Prop} (tx:w.params.followText "set-order" = true) (g:s.heap.get? S=some o) (d:o.data=.set es ep t) (ft:t.fits es.size=true)
  (k:R (((pickOrder (w.params.setOrder S ep) es)[i]?).map fun e=>(e.2,slot)) s):wpAny (model prog w) A (setNext S slot i ep) R E s:=by
 unfold setNext
 refine wpAny_bind (wpAny_setState_of g d ft ?_)
 dsimp only
 refine wpAny_bind (wpAny_bind (wpAny_askSetting (wpAny_pure ?_)))
 rw[show (Setting.mk (model prog w).prog (model prog w).w.params).params.followText "set-order" = true from tx,if_pos rfl,if_neg (by simp)]
 unfold setWalk
 refine wpAny_bind (wpAny_bind (wpAny_setState_of g d ft ?_))
 dsimp only
 refine wpAny_bind (wpAny_bind (wpAny_askSetting (wpAny_pure ?_)))
 rw[show (Setting.mk (model prog w).prog (model prog w).w.params).params.followText "set-order" = true from tx,if_pos rfl]
 exact wpAny_bind (wpAny_askSetting (wpAny_pure (wpAny_pure k)))
theorem setNext_place {slot:Nat}{R:Option (Value×Nat)→Shared→Prop} (tx:w.params.followText "set-order" = false) (g:s.heap.get? S=some o) (d:o.data=.set es ep t) (ft:t.fits es.size=true) (pl:t.plain=true∨es.size≤1) (ld:t.led=true)
  (k:R (match es[SetTable.below t.place slot]?,t.place[SetTable.below t.place slot]? with | some (_,x),some j=>some (x,j+1) | _,_=>none) s):wpAny (model prog w) A (setNext S slot i ep) R E s:=by
 unfold setNext
 refine wpAny_bind (wpAny_setState_of g d ft ?_)
 dsimp only
 refine wpAny_bind (wpAny_bind (wpAny_askSetting (wpAny_pure ?_)))
 rw[show (Setting.mk (model prog w).prog (model prog w).w.params).params.followText "set-order" = false from tx,if_neg (by simp)]
 have nd:¬ ((!t.plain && decide (es.size > 1))=true):=by
  rcases pl with z | z
  ·rw[z];simp
  ·rw[decide_eq_false (by omega)];simp
 show wpAny _ _ (if (!t.plain && decide (es.size > 1))=true then _ else _) _ _ s
 rw[if_neg nd]
 refine wpAny_bind ?_
 show wpAny _ _ (if (!t.led && !es.isEmpty)=true then _ else _) _ _ s
 rw[ld,if_neg (by simp)]
 exact wpAny_pure (wpAny_pure k)
end
end TwS
namespace TwS
open PySem PySem.Spec PyProof.Rows
theorem erase_perm {α:Type}:∀ {l:List α}{i:Nat}{x:α},l[i]? = some x→(x::l.eraseIdx i).Perm l
 | [],_,_,h=>by cases h
 | y::l,0,x,h=>by cases h;exact List.Perm.refl _
 | y::l,i+1,x,h=>by
  have ih:=erase_perm (l:=l) (i:=i) (x:=x) h
  exact (List.Perm.swap y x _).trans (ih.cons y)
theorem pick_go {α:Type} (next:Nat→Nat):∀ (fuel k:Nat) (left:List α) (out:Array α),left.length=fuel→(pickOrder.go next fuel k left out).toList.Perm (out.toList++left)
 | 0,k,left,out,h=>by
  have:left=[]:=List.eq_nil_of_length_eq_zero h
  subst this
  show out.toList.Perm _
  rw[List.append_nil]
 | fuel+1,k,left,out,h=>by
  have hm:next k % left.length < left.length:=Nat.mod_lt _ (by omega)
  have e:left[next k % left.length]? = some left[next k % left.length]:=List.getElem?_eq_getElem hm
  show (match left[next k % left.length]? with | some x=>pickOrder.go next fuel (k+1) (left.eraseIdx (next k % left.length)) (out.push x) | none=>out).toList.Perm _
  rw[e]
  refine (pick_go next fuel (k+1) _ _ (by rw[List.length_eraseIdx,if_pos hm];omega)).trans ?_
  rw[Array.toList_push,List.append_assoc]
  exact (erase_perm e).append_left _
theorem pick_perm {α:Type} (next:Nat→Nat) (xs:Array α):(pickOrder next xs).toList.Perm xs.toList:=by
 have:=pick_go next xs.size 0 xs.toList #[] (Array.length_toList)
 simpa [pickOrder] using this
section
variable {prog:Program}{w:World}{A:Around}{E:Value→Shared→Prop}
theorem choose_any {src:Source}{n:Nat}{s:Shared}{R:Nat→Shared→Prop} (hn:n≠0) (k:∀ i d,i < n→R i { s with drawn:=d }):wpAny (model prog w) A (choose src n) R E s:=fun Γ p _=>by
 unfold choose
 rw[Sem.wp_choose]
 refine⟨hn,?_⟩
 rw[Sem.wp_pure]
 exact k _ _ (Nat.mod_lt _ (Nat.pos_of_ne_zero hn))
theorem draw_any {α:Type}:∀ (n:Nat) (xs:List α) (s:Shared) (R:List α→Shared→Prop),xs.length=n→(∀ ys d,ys.Perm xs→R ys { s with drawn:=d })→wpAny (model prog w) A (drawOrder n xs) R E s
 | 0,xs,s,R,h,k=>by
  have:xs=[]:=List.eq_nil_of_length_eq_zero h
  subst this
  exact wpAny_pure (k [] s.drawn (List.Perm.refl _))
 | n+1,[],s,R,h,k=>by cases h
 | n+1,x::xs,s,R,h,k=>by
  unfold drawOrder
  refine wpAny_bind (choose_any (by simp) fun i d hi=>?_)
  have e:(x::xs)[i]? = some (x::xs)[i]:=List.getElem?_eq_getElem hi
  rw[e]
  refine wpAny_bind (draw_any n _ _ _ (by rw[List.length_eraseIdx,if_pos hi];omega) fun ys d2 p=>?_)
  exact wpAny_pure (k _ _ ((p.cons _).trans (erase_perm e)))
end
theorem ints_of:∀ (vs:List Value),(∀ v∈vs,∃ i t,v=.int i t)→IntsAre vs (vs.map intOf)
 | [],_=>.nil
 | v::vs,h=>by
  obtain⟨i,t,rfl⟩:=h v List.mem_cons_self
  exact .cons i t (ints_of vs fun v hv=>h v (List.mem_cons_of_mem _ hv))
theorem items_are {P:Nat→Value→Prop}{acc:Array Value}{vs:List Value} (h:ItemsOf P acc vs.length) (hP:∀ j v,P j v→vs[j]? = some v):acc.toList=vs:=by
 apply List.ext_getElem?
 intro j
 rcases Nat.lt_or_ge j acc.size with hj | hj
 ·have e:acc[j]? = some acc[j]:=Array.getElem?_eq_getElem hj
  rw[Array.getElem?_toList,e,hP j _ (h.2 j _ e)]
 ·rw[List.getElem?_eq_none (by rw[Array.length_toList];exact hj),List.getElem?_eq_none (by rw[← h.1];exact hj)]
section
variable {prog:Program}{w:World}{S I T:Addr}{o:Obj}{es:Array (Int×Value)}{ep:Nat}{t:SetTable}{L:List Int}
theorem yields {b:Bool}{vs:List Value}{es':List (Int×Value)} (c:Cnt prog w b L es t) (hp:es'.Perm es.toList) (e:vs=es'.map (·.2)):IntsAre vs (vs.map intOf)∧(vs.map intOf).Perm L:=by
 subst e
 refine⟨ints_of _ fun v hv=>?_,?_⟩
 ·obtain⟨x,hx,rfl⟩:=List.mem_map.1 hv
  exact el_int c.el (hp.mem_iff.1 hx)
 ·rw[List.map_map]
  exact (hp.map _).trans c.pm
noncomputable def slotAt (pl:Array Nat):Nat→Nat
 | 0=>0
 | i+1=>pl.getD i 0+1
theorem slot_below {pl:Array Nat} (h:Up pl):∀ i,i≤pl.size→SetTable.below pl (slotAt pl i)=i
 | 0,_=>below_0 h
 | i+1,hi=>by
  have e:pl[i]? = some (pl.getD i 0):=by rw[Array.getD_eq_getD_getElem?,Array.getElem?_eq_getElem (by omega)];rfl
  exact below_next h e
theorem walk_text {A:Around} (hh:A.handled=none) (tx:w.params.followText "set-order" = true) (d:o.data=.set es ep t) (ft:t.fits es.size=true) (ne:S≠I) :
  Walks prog w A I [I,S] [I] es.size (fun i v=>((pickOrder (w.params.setOrder S ep) es).toList.map (·.2))[i]? = some v) (fun i h=>h.get? I=some (itO (rawInt ((0:Nat):Int)) i S es.size ep)∧h.get? S=some o) where
 sub:=fun c hc=>by simp at hc;simp [hc]
 frame:=fun _ _ _ st k=>⟨k I (by simp) _ st.1,k S (by simp) _ st.2⟩
 item:=fun i s Q E hi st k=>by
  have ln:(pickOrder (w.params.setOrder S ep) es).size=es.size:=by rw[← Array.length_toList,(pick_perm _ es).length_eq,Array.length_toList]
  have e:(pickOrder (w.params.setOrder S ep) es)[i]? = some ((pickOrder (w.params.setOrder S ep) es)[i]'(by omega)):=Array.getElem?_eq_getElem _
  refine pyNext_si st.1 (next_num (x:=((pickOrder (w.params.setOrder S ep) es)[i]'(by omega)).2) (nx:=0) st.1 st.2 d ft (fun R r=>setNext_text tx st.2 d ft (by rw[e];exact r)) fun h' g b=>⟨_,rfl,?_⟩)
  refine k _ h' s.toks ?_ ⟨g,by rw[b.2 S ne];exact st.2⟩ fun c q hc z=>by rw[b.2 c (fun y=>hc (by simp [y]))];exact z
  rw[List.getElem?_map,Array.getElem?_toList,e];rfl
 done:=fun s Q E st k=>by
  have ln:(pickOrder (w.params.setOrder S ep) es).size=es.size:=by rw[← Array.length_toList,(pick_perm _ es).length_eq,Array.length_toList]
  have e:(pickOrder (w.params.setOrder S ep) es)[es.size]? = none:=Array.getElem?_eq_none (by omega)
  refine pyNext_si st.1 (end_num hh st.1 st.2 d ft (fun R r=>setNext_text tx st.2 d ft (by rw[e];exact r)) fun h' x kp sp=>⟨?_,k h' s.toks fun c q hc z=>kp c q (fun y=>hc (by simp [y])) z⟩)
  obtain⟨q,e1,e2⟩:=sp
  exact⟨_,q,rfl,e1,e2⟩
 self:=fun i s Q E st k=>pyIter_si st.1 k
theorem walk_place {A:Around} (hh:A.handled=none) (tx:w.params.followText "set-order" = false) (d:o.data=.set es ep t) (ft:t.fits es.size=true) (pl:t.plain=true∨es.size≤1) (td:Tidy true t) (ne:S≠I) :
  Walks prog w A I [I,S] [I] es.size (fun i v=>(es.toList.map (·.2))[i]? = some v) (fun i h=>h.get? I=some (itO (rawInt ((slotAt t.place i:Nat):Int)) i S es.size ep)∧h.get? S=some o) where
 sub:=fun c hc=>by simp at hc;simp [hc]
 frame:=fun _ _ _ st k=>⟨k I (by simp) _ st.1,k S (by simp) _ st.2⟩
 item:=fun i s Q E hi st k=>by
  have psz:t.place.size=es.size:=by
   simp only [SetTable.fits,Bool.and_eq_true,beq_iff_eq] at ft
   exact ft.1
  have e1:es[i]? = some es[i]:=Array.getElem?_eq_getElem hi
  have e2:t.place[i]? = some (t.place.getD i 0):=by rw[Array.getD_eq_getD_getElem?,Array.getElem?_eq_getElem (by omega)];rfl
  have sb:=slot_below td.up i (by omega)
  refine pyNext_si st.1 (next_num (x:=es[i].2) (nx:=slotAt t.place (i+1)) st.1 st.2 d ft (fun R r=>setNext_place tx st.2 d ft pl td.led (by rw[sb,e1,e2];exact r)) fun h' g b=>⟨_,rfl,?_⟩)
  refine k _ h' s.toks ?_ ⟨g,by rw[b.2 S ne];exact st.2⟩ fun c q hc z=>by rw[b.2 c (fun y=>hc (by simp [y]))];exact z
  rw[List.getElem?_map,Array.getElem?_toList,e1];rfl
 done:=fun s Q E st k=>by
  have psz:t.place.size=es.size:=by
   simp only [SetTable.fits,Bool.and_eq_true,beq_iff_eq] at ft
   exact ft.1
  have e1:es[es.size]? = none:=Array.getElem?_eq_none (Nat.le_refl _)
  have sb:=slot_below td.up es.size (by omega)
  refine pyNext_si st.1 (end_num hh st.1 st.2 d ft (fun R r=>setNext_place tx st.2 d ft pl td.led (by rw[sb,e1];exact r)) fun h' x kp sp=>⟨?_,k h' s.toks fun c q hc z=>kp c q (fun y=>hc (by simp [y])) z⟩)
  obtain⟨q,e1,e2⟩:=sp
  exact⟨_,q,rfl,e1,e2⟩
 self:=fun i s Q E st k=>pyIter_si st.1 k
theorem fm_get {α β:Type}{f:α→Option β}:∀ (l:List α) (j:Nat),(∀ p∈l,∃ y,f p=some y)→(l.filterMap f)[j]? = l[j]?.bind f
 | [],j,_=>by simp
 | p::l,j,h=>by
  obtain⟨y,hy⟩:=h p List.mem_cons_self
  rw[List.filterMap_cons_some hy]
  cases j with
  | zero=>simp [hy]
  | succ j=>simpa using fm_get l j fun q hq=>h q (List.mem_cons_of_mem _ hq)
theorem walk_drawn {A:Around} (hh:A.handled=none) (d:o.data=.set es ep t) (ft:t.fits es.size=true) {ord:List Nat}{m:Nat} (hord:ord.Perm (List.range es.size)) (ne:S≠I) (neT:T≠I) :
  Walks prog w A I [I,S,T] [I] es.size (fun i v=>((ord.filterMap fun p=>es[p]?).map (·.2))[i]? = some v)
   (fun i h=>h.get? I=some (itO (.ref T) i S es.size ep)∧h.get? S=some o∧h.get? T=some { cls:=.type "tuple",data:=.seq (ord.map fun (i:Nat)=>rawInt (i:Int)).toArray m }) where
 sub:=fun c hc=>by simp at hc;simp [hc]
 frame:=fun _ _ _ st k=>⟨k I (by simp) _ st.1,k S (by simp) _ st.2.1,k T (by simp) _ st.2.2⟩
 item:=fun i s Q E hi st k=>by
  have ln:ord.length=es.size:=by rw[hord.length_eq,List.length_range]
  have all:∀ p∈ord,∃ y,es[p]? = some y:=fun p hp=>⟨_,Array.getElem?_eq_getElem (List.mem_range.1 (hord.mem_iff.1 hp))⟩
  have e0:ord[i]? = some (ord[i]'(by omega)):=List.getElem?_eq_getElem _
  obtain⟨y,hy⟩:=all _ (List.mem_of_getElem? e0)
  have e1:(ord.map fun (i:Nat)=>rawInt (i:Int)).toArray[i]? = some (.int (((ord[i]'(by omega)):Nat):Int) 0):=by
   rw[List.getElem?_toArray,List.getElem?_map,e0];rfl
  refine pyNext_si st.1 (next_drawn (x:=y.2) st.1 st.2.1 d ft st.2.2 e1 (show es[ord[i]'(by omega)]? = some (y.1,y.2) from hy) fun h' g b=>⟨_,rfl,?_⟩)
  refine k _ h' s.toks ?_ ⟨g,by rw[b.2 S ne];exact st.2.1,by rw[b.2 T neT];exact st.2.2⟩ fun c q hc z=>by rw[b.2 c (fun y=>hc (by simp [y]))];exact z
  rw[List.getElem?_map,fm_get _ _ all,e0]
  show Option.map _ (es[ord[i]'(by omega)]?)=_
  rw[hy];rfl
 done:=fun s Q E st k=>by
  have ln:ord.length=es.size:=by rw[hord.length_eq,List.length_range]
  have e1:(ord.map fun (i:Nat)=>rawInt (i:Int)).toArray[es.size]? = none:=by
   rw[List.getElem?_toArray,List.getElem?_map,List.getElem?_eq_none (by omega)];rfl
  refine pyNext_si st.1 (end_drawn hh st.1 st.2.1 d ft st.2.2 e1 fun h' x kp sp=>⟨?_,k h' s.toks fun c q hc z=>kp c q (fun y=>hc (by simp [y])) z⟩)
  obtain⟨q,e1,e2⟩:=sp
  exact⟨_,q,rfl,e1,e2⟩
 self:=fun i s Q E st k=>pyIter_si st.1 k
theorem set_iter {A:Around}{E:Value→Shared→Prop}{s:Shared}{Q:Value→Shared→Prop} (hS:SetI prog w (!w.params.followText "set-order") s.heap S L)
  (k:∀ (I:Addr) (h':Heap) (d':Drawn) (fp:List Addr) (P:Nat→Value→Prop) (St:Nat→Heap→Prop),(∀ A':Around,A'.handled=none→Walks prog w A' I fp [I] L.length P St)→St 0 h'→I∈fp→(∀ c∈fp,c=S∨s.heap.objs.size≤c)→
   s.heap.objs.size≤I→(∀ c q,s.heap.get? c=some q→h'.get? c=some q)→(∀ acc:Array Value,ItemsOf P acc L.length→∃ ms,IntsAre acc.toList ms∧ms.Perm L)→Q (.ref I) { s with heap:=h',drawn:=d' }) :
  wpAny (model prog w) A (pyIter (.ref S)) Q E s:=by
 obtain⟨o,es,ep,t,g,x,d,c⟩:=hS
 have ln:=len_cnt c
 rw[← ln] at k
 have ty:s.TypeIs (.ref S) "set" := ⟨o,g,x.1⟩
 have sz:S < s.heap.objs.size:=Heap.lt_size g
 refine wpAny_pyIter_slot ty slot_set_iter (wpAny_call_entry slot_set_iter ty entry_set_iter ?_ (args_set_iter _))
 show wpAny _ _ (Builtin.Frozenset.sizeOf S >>= _) _ _ s
 unfold Builtin.Frozenset.sizeOf setEntries
 refine wpAny_bind (wpAny_bind (wpAny_bind (wpAny_setState_of g d c.ft (wpAny_pure (wpAny_pure ?_)))))
 dsimp only
 unfold setDrawn
 refine wpAny_bind (wpAny_bind (wpAny_setState_of g d c.ft ?_))
 dsimp only
 refine wpAny_bind (wpAny_bind (wpAny_askSetting (wpAny_pure (wpAny_pure ?_))))
 show wpAny _ _ (if (!w.params.followText "set-order" && (!t.plain && decide (es.size > 1)))=true then _ else _) _ _ s
 by_cases cd:(!w.params.followText "set-order" && (!t.plain && decide (es.size > 1)))=true
 ·rw[if_pos cd]
  refine wpAny_bind (draw_any es.size _ _ _ (by rw[List.length_range]) fun ord d' hord=>?_)
  refine wpAny_bind (wpAny_newTuple ?_ (by rw[List.length_map,hord.length_eq,List.length_range];exact fits_of_scanBound c.bd))
  unfold setEpoch
  refine wpAny_bind (wpAny_bind (wpAny_setState_of (Heap.get?_push_of_some _ g) d c.ft (wpAny_pure ?_)))
  refine wpAny_bind (wpAny_newObj_type (wpAny_pure ⟨_,rfl,"set_iterator",_,⟨_,Heap.get?_push_size _ rfl,rfl⟩,d3.lookup,?_⟩))
  have z1:(s.heap.push { cls:=.type "tuple",data:=.seq (ord.map fun (i:Nat)=>rawInt (i:Int)).toArray }).objs.size=s.heap.objs.size+1:=Heap.size_push _ _
  refine k _ _ d' _ _ _ (fun A' hh=>walk_drawn hh d c.ft hord (T:=s.heap.objs.size) (Nat.ne_of_lt (by rw[z1];exact Nat.lt_succ_of_lt sz)) (Nat.ne_of_lt (by rw[z1];exact Nat.lt_succ_self _)))
   ⟨Heap.get?_push_size _ rfl,Heap.get?_push_of_some _ (Heap.get?_push_of_some _ g),Heap.get?_push_of_some _ (Heap.get?_push_size _ rfl)⟩ (by simp) (fun b hb=>?_) (by rw[z1];exact Nat.le_succ _) (fun b q e=>Heap.get?_push_of_some _ (Heap.get?_push_of_some _ e)) fun acc ha=>?_
  ·simp only [List.mem_cons,List.mem_singleton,List.not_mem_nil,or_false] at hb
   rcases hb with rfl | rfl | rfl
   ·right;rw[z1];exact Nat.le_succ _
   ·exact .inl rfl
   ·exact .inr (Nat.le_refl _)
  ·have pm:(ord.filterMap fun p=>es[p]?).Perm es.toList:=(hord.filterMap _).trans (by rw[filterMap_getElem?_range])
   have hv:=yields c pm rfl
   rw[show es.size=((ord.filterMap fun p=>es[p]?).map (·.2)).length by rw[List.length_map,pm.length_eq,Array.length_toList]] at ha
   rw[items_are ha fun j v h=>h]
   exact⟨_,hv⟩
 ·rw[if_neg cd]
  refine wpAny_bind (wpAny_pure ?_)
  unfold setEpoch
  refine wpAny_bind (wpAny_bind (wpAny_setState_of g d c.ft (wpAny_pure ?_)))
  refine wpAny_bind (wpAny_newObj_type (wpAny_pure ⟨_,rfl,"set_iterator",_,⟨_,Heap.get?_push_size _ rfl,rfl⟩,d3.lookup,?_⟩))
  have fr:∀ b∈[s.heap.objs.size,S],b=S∨s.heap.objs.size≤b:=fun b hb=>by
   simp only [List.mem_cons,List.mem_singleton,List.not_mem_nil,or_false] at hb
   rcases hb with rfl | rfl
   ·exact .inr (Nat.le_refl _)
   ·exact .inl rfl
  cases tx:w.params.followText "set-order" with
  | true=>
   refine k s.heap.objs.size _ s.drawn _ _ _ (fun A' hh=>walk_text hh tx d c.ft (Nat.ne_of_lt sz)) ⟨Heap.get?_push_size _ rfl,Heap.get?_push_of_some _ g⟩ (by simp) fr (Nat.le_refl _) (fun b q e=>Heap.get?_push_of_some _ e) fun acc ha=>?_
   have pm:=pick_perm (w.params.setOrder S ep) es
   have hv:=yields c pm rfl
   rw[show es.size=((pickOrder (w.params.setOrder S ep) es).toList.map (·.2)).length by rw[List.length_map,pm.length_eq,Array.length_toList]] at ha
   rw[items_are ha fun j v h=>h]
   exact⟨_,hv⟩
  | false=>
   rw[tx] at cd c
   have pl:t.plain=true∨es.size≤1:=by
    cases hp:t.plain with
    | true=>exact .inl rfl
    | false=>
     rw[hp] at cd
     refine .inr (Nat.le_of_not_lt fun z=>cd ?_)
     simp [z]
   refine k s.heap.objs.size _ s.drawn _ _ _ (fun A' hh=>walk_place hh tx d c.ft pl c.td (Nat.ne_of_lt sz)) ⟨Heap.get?_push_size _ rfl,Heap.get?_push_of_some _ g⟩ (by simp) fr (Nat.le_refl _) (fun b q e=>Heap.get?_push_of_some _ e) fun acc ha=>?_
   have hv:=yields c (List.Perm.refl _) rfl
   rw[show es.size=(es.toList.map (·.2)).length by rw[List.length_map,Array.length_toList]] at ha
   rw[items_are ha fun j v h=>h]
   exact⟨_,hv⟩
end
end TwS
namespace TwS
open PySem PySem.Spec PyProof.Rows
theorem len_look:typeLookup (.type "set") "__len__" = pure (some (.builtin "set.__len__")):=by rw[typeLookup_type,builtinLookup_eq_fast];kernel_rfl
theorem set_self:isSubtype (.type "set") (.type "set")=pure true:=by rw[isSubtype_type];kernel_rfl
section
variable {prog:Program}{w:World}{A:Around}{E:Value→Shared→Prop}{s:Shared}{S:Addr}{L:List Int}
theorem ite_of {α:Type}{M:Model}{c:Prop} [Decidable c] {x y:Sem α}{Q:α→Shared→Prop} (hc:c) (h:wpAny M A x Q E s):wpAny M A (if c then x else y) Q E s:=by rw[if_pos hc];exact h
theorem hint_set {Q:Bool→Shared→Prop} (ty:s.TypeIs (.ref S) "set") (k:Q false s):wpAny (model prog w) A (Builtin.List.listLengthHint (.ref S)) Q E s:=by
 unfold Builtin.List.listLengthHint
 refine wpAny_bind (wpAny_specialOf ty len_look ?_)
 show wpAny _ _ (isInstance (.ref S) (.type "set") >>= _) _ _ s
 refine wpAny_bind (wpAny_isInstance ty set_self ?_)
 rw[if_neg (by simp)]
 refine ite_of (by decide +kernel) ?_
 exact wpAny_bind (wpAny_typeOf ty (wpAny_pure k))
theorem collect_set {Q:List Value→Shared→Prop} (hh:A.handled=none) (hS:SetI prog w (!w.params.followText "set-order") s.heap S L) (hL:L.length≤sizeLine)
  (k:∀ (h':Heap) (d':Drawn) (tk:Nat) (vs:List Value) (ms:List Int),IntsAre vs ms→ms.Perm L→(∀ c q,s.heap.get? c=some q→h'.get? c=some q)→s.heap.objs.size≤h'.objs.size→Q vs { s with heap:=h',drawn:=d',toks:=tk }) :
  wpAny (model prog w) A (collect (.ref S)) Q E s:=by
 obtain⟨o,_,_,_,g,x,_⟩:=id hS
 have sz:S < s.heap.objs.size:=Heap.lt_size g
 unfold collect
 refine wpAny_bind (wpAny_runValue (codeAny_builtin F.entry_proto_collect ?_))
 rw[Around.under_plainId F.plain_proto_collect _]
 show wpAny _ A.in1 (newList [] >>= fun l=>again (.builtin "list.__iadd__" ⟨[l,.ref S],[]⟩)) _ _ s
 refine wpAny_bind (wpAny_newObj_type (wpAny_pure ⟨plainId_quiet F.plain_list_iadd _,codeAny_builtin F.entry_list_iadd ?_⟩))
 rw[Around.under_plainId F.plain_list_iadd _]
 show wpAny _ A.in1 (Builtin.List.listExtendWith (.ref s.heap.objs.size) (.ref S) (.ref s.heap.objs.size)) _ _ { s with heap:=s.heap.push { cls:=.type "list",data:=.seq ([]:List Value).toArray } }
 have hl1:(s.heap.push { cls:=.type "list",data:=.seq ([]:List Value).toArray }).get? s.heap.objs.size=some { cls:=.type "list",data:=.seq ([]:List Value).toArray }:=Heap.get?_push_size _ rfl
 have kp1:∀ c q,s.heap.get? c=some q→(s.heap.push { cls:=.type "list",data:=.seq ([]:List Value).toArray }).get? c=some q:=fun c q e=>Heap.get?_push_of_some _ e
 have zz:(s.heap.push { cls:=.type "list",data:=.seq ([]:List Value).toArray }).objs.size=s.heap.objs.size+1:=Heap.size_push _ _
 generalize s.heap.push { cls:=.type "list",data:=.seq ([]:List Value).toArray }=h1 at hl1 kp1 zz ⊢
 have hS1:SetI prog w (!w.params.followText "set-order") h1 S L:=hS.at fun q e=>kp1 S q e
 unfold Builtin.List.listExtendWith
 refine wpAny_bind (wpAny_typeOf (T := "set") ⟨o,kp1 S o g,x.1⟩ ?_)
 have e1:Builtin.List.listSameRef (.ref s.heap.objs.size) (.ref S)=false:=by
  have:s.heap.objs.size≠S:=Nat.ne_of_gt sz
  simp [Builtin.List.listSameRef,this]
 have e2:(Value.type "set" == Value.type "list")=false:=by decide
 have e3:(Value.type "set" == Value.type "tuple")=false:=by decide
 simp only [e1,e2,e3,Bool.or_false,Bool.false_eq_true,if_false]
 refine wpAny_bind (set_iter (s:={ s with heap:=h1 }) hS1 fun I h2 d2 fp P St Wk st0 hI hfp hIge kp2 yl=>?_)
 refine wpAny_bind (wpAny_holding (hint_set ⟨o,kp2 S o (kp1 S o g),x.1⟩ ?_))
 refine ite_of (by decide +kernel) ?_
 refine wpAny_bind (wpAny_rule (wpAny_bind ?_))
 show wpAny _ A.in1 (updateSeq s.heap.objs.size (·.push .none) >>= fun _=>updateSeq s.heap.objs.size (·.pop)) _ _ _
 have hl2:=kp2 _ _ hl1
 refine wpAny_bind (wpAny_updateSeq hl2 rfl ?_)
 have hl3:=Heap.get?_update_self (Obj.mapSeq (·.push Value.none)) hl2 rfl
 refine wpAny_updateSeq hl3 rfl ?_
 have hl4:=Heap.get?_update_self (Obj.mapSeq (·.pop)) hl3 rfl
 have kp4:∀ c q,c≠s.heap.objs.size→h2.get? c=some q→((h2.update s.heap.objs.size (Obj.mapSeq (·.push Value.none))).update s.heap.objs.size (Obj.mapSeq (·.pop))).get? c=some q:=
  fun c q hc e=>(Heap.get?_update_other _ _ (Ne.symm hc)).trans ((Heap.get?_update_other _ _ (Ne.symm hc)).trans e)
 have off:s.heap.objs.size∉fp:=fun z=>by
  rcases hfp _ z with e | e
  ·exact absurd e (Nat.ne_of_gt sz)
  ·rw[zz] at e;exact absurd e (Nat.not_succ_le_self _)
 have neI:∀ c,c < s.heap.objs.size→c≠I:=fun c hc e=>by
  rw[zz] at hIge
  exact absurd (Nat.lt_of_lt_of_le (Nat.lt_succ_of_lt hc) hIge) (by rw[e];exact Nat.lt_irrefl _)
 refine wpAny_pure ⟨plainId_quiet F.plain_extend_loop _,codeAny_extend_loopS ((Wk A.in1 hh).toS) hL _ off _ L.length 0 _ _ _ rfl (Nat.zero_le _)
  ((Wk A.in1 hh).frame 0 h2 _ st0 fun c hc q e=>kp4 c q (fun z=>off (z ▸ hc)) e) hl4 (ItemsOf.nil P) fun s5 acc n5 mv hl5 ha=>?_⟩
 obtain⟨h5,g5,d5,tk5,os5⟩:=s5
 obtain rfl:g5=s.gens:=mv.gens
 obtain rfl:d5=d2:=mv.drawn
 obtain rfl:os5=s.os:=mv.os
 show wpAny _ A (load s.heap.objs.size >>= _) _ _ _
 refine wpAny_bind (wpAny_load hl5 (wpAny_pure ?_))
 obtain⟨ms,i1,i2⟩:=yl acc ha
 have keep:∀ c q,s.heap.get? c=some q→h5.get? c=some q:=fun c q e=>by
  have hc:=Heap.lt_size e
  refine mv.heap c q ?_ (kp4 c q (Nat.ne_of_lt hc) (kp2 c q (kp1 c q e)))
  simp only [List.mem_cons,List.mem_singleton,List.not_mem_nil,or_false,not_or]
  exact⟨Nat.ne_of_lt hc,neI c hc⟩
 refine k h5 _ tk5 _ ms i1 i2 keep ?_
 exact Nat.le_of_lt (Heap.lt_size hl5)
theorem sorted_set {Q:Value→Shared→Prop} (hh:A.handled=none) (hS:SetI prog w (!w.params.followText "set-order") s.heap S L) (h64:L.length < 64)
  (k:∀ (l:Addr) (h':Heap) (d':Drawn) (tk:Nat) (out:Array Value) (ms:List Int) (e:Nat),IntsAre out.toList ms→ms.Perm L→ms.Pairwise (·≤·)→s.heap.objs.size≤l→h'.get? l=some (seqObj "list" out e)→
   (∀ c q,s.heap.get? c=some q→h'.get? c=some q)→Q (.ref l) { s with heap:=h',drawn:=d',toks:=tk }) :
  wpAny (model prog w) A (call (.builtin "sorted") [.ref S]) Q E s:=by
 refine Calls.call_function_entry kind_sorted plain_sorted entry_sorted (args_sorted1 _) ?_
 unfold Builtin.«sorted»
 refine wpAny_bind (m:=checkCount "sorted" 1 1 _) (wpAny_pure ?_)
 refine wpAny_bind (collect_set hh hS (by rw[sizeLine_eq];omega) fun h1 d1 tk1 vs ns i1 i2 keep le=>?_)
 have hv:vs.length < 64:=by rw[IntsAre.length i1,i2.length_eq];exact h64
 refine wpAny_bind (wpAny_newList ?_)
 have hoL:(h1.push (seqObj "list" vs.toArray 0)).get? h1.objs.size=some (seqObj "list" vs.toArray 0):=Heap.get?_push_size _ rfl
 refine wpAny_bind (wpAny_holding (wpAny_call_entry slot_list_sort ⟨_,hoL,rfl⟩ entry_list_sort (list_sort_tree hoL i1 hv fun out ms a1 a2 a3=>⟨_,rfl,?_⟩) (args_list_sort _)))
 obtain⟨e,he⟩:=sortedHeap_at (vs:=vs) (out:=out) hoL
 refine wpAny_pure ⟨_,rfl,k h1.objs.size _ _ _ out ms e a1 (a2.trans i2) a3 le he fun c q hc=>?_⟩
 have hlt:=Heap.lt_size (keep c q hc)
 rw[sortedHeap_old (Nat.ne_of_lt hlt) (by rw[size_push'];exact Nat.lt_succ_of_lt hlt)]
 exact Heap.get?_push_of_some _ (keep c q hc)
end
end TwS
namespace L2
open PySem PySem.Spec PyProof.Rows TwZ TwS
noncomputable def setO (P:Program) (w:World) (a:Addr) (L:List Int):HO:=.ext fun h=>SetI P w (!w.params.followText "set-order") h a L
noncomputable def ddL (ns:List Int):List Int:=dd (fun i=>ns.getD i 0) ns.length
theorem ddL_mem {ns:List Int}{k:Int}:k∈ddL ns↔k∈ns:=by
 unfold ddL
 rw[dd_mem]
 constructor
 ·rintro⟨i,hi,e⟩
  rw[List.getD_eq_getElem?_getD,List.getElem?_eq_getElem hi] at e
  rw[← e]
  exact List.getElem_mem hi
 ·intro h
  obtain⟨i,hi,e⟩:=List.mem_iff_getElem.1 h
  exact⟨i,hi,by rw[List.getD_eq_getElem?_getD,List.getElem?_eq_getElem hi,e];rfl⟩
theorem ddL_nodup (ns:List Int):(ddL ns).Nodup:=dd_nodup _ _
theorem ddL_len (ns:List Int):(ddL ns).length≤ns.length:=dd_len _ _
section
variable {X:Cx}{pins:List (Addr×Obj)}{σ:St}{H:Hp}{s:Shared}
theorem Inv.drew {d:Drawn} (I:Inv X pins σ H s):Inv X pins σ H { s with drawn:=d }:=⟨I.ok,I.os,I.bare,I.base,I.loc,I.cell,I.free,I.freeC,I.pin,I.hok,I.len⟩
noncomputable def rSet (P:Program) (w:World) (K:PySem.W.Frag):List V→Hp→VK→Prop:=fun xs H Q=>∃ (p:Addr) (ns:List Int),xs=[.ref p]∧bT K H p (ns.map V.int)∧ns.length≤1000∧∀ a,H a=none→Q (.ref a) (upd H a (setO P w a (ddL ns)))
theorem call_setB (hc:X.calm=true):d8 X (.type "set") (rSet X.prog X.w X.K):=by
 intro pins s σ H xs us Q I r h
 obtain⟨p,ns,rfl,hq,hn,q⟩:=h
 obtain⟨u,rfl,ru⟩:=r.one
 cases ru
 obtain⟨its,rv,p1,hz⟩:=I.list hq
 have ia:=intsAre_of rv
 have il:its.length=ns.length:=IntsAre.length ia
 refine call_set (I.ok.hd hc) p1.isList (by simpa using ia) (by rw[List.size_toArray,il];unfold scanBound;omega) fun h' tk hS hk=>?_
 rw[show its.toArray.size=ns.length by rw[List.size_toArray,il]] at hS
 obtain⟨o,es,ep,t,g,r⟩:=id hS
 exact⟨.ref s.heap.objs.size,_,I.laid (fun b u e=>hk b u (Heap.lt_size e) e) (Nat.le_refl _) (show bQ X.prog X.w _ h' _ (setO X.prog X.w s.heap.objs.size (ddL ns)) from ⟨hS,⟨o,g⟩,fun h1 h2 x e=>x.at e⟩),rfl,q _ I.fresh⟩
noncomputable def rSrt (P:Program) (w:World):List V→Hp→VK→Prop:=fun xs H Q=>∃ (a:Addr) (L:List Int),xs=[.ref a]∧H a=some (setO P w a L)∧L.length < 64∧∀ (l:Addr) (ms:List Int),H l=none→ms.Perm L→ms.Pairwise (·≤·)→Q (.ref l) (upd H l (.lst (ms.map V.int)))
theorem vals_intsS:∀ {vs:List Value}{ns:List Int},IntsAre vs ns→bD (ns.map V.int) vs
 | _,_,.nil=>.nil
 | _,_,.cons n t h=>.cons ⟨t,rfl⟩ (vals_intsS h)
theorem call_srtB (hc:X.calm=true):d8 X (.builtin "sorted") (rSrt X.prog X.w):=by
 intro pins s σ H xs us Q I r h
 obtain⟨a,L,rfl,hq,hn,q⟩:=h
 obtain⟨u,rfl,ru⟩:=r.one
 cases ru
 obtain⟨hS,_,_⟩:SetI X.prog X.w (!X.w.params.followText "set-order") s.heap a L∧_:=I.hok a _ hq
 refine sorted_set (I.ok.hd hc) hS hn fun l h' d' tk out ms e i1 i2 i3 le hl keep=>?_
 refine⟨.ref l,upd H l (.lst (ms.map V.int)),(I.drew (d:=d')).laid keep le (show bQ X.prog X.w _ h' _ (.lst (ms.map V.int)) from ⟨?_,out.toList,e,vals_intsS i1,by rw[Array.toArray_toList];exact hl⟩),rfl,q l ms (I.hok.fresh le) i2 i3⟩
 rw[List.length_map,i2.length_eq,sizeLine_eq]
 omega
theorem call_setK {P:Program}{w:World}{K:PySem.W.Frag} (hP:X.prog=P) (hw:X.w=w) (hK:X.K=K) (hc:X.calm=true):d8 X (.type "set") (rSet P w K):=by
 subst hP hw hK
 exact call_setB hc
theorem call_srtK {P:Program}{w:World} (hP:X.prog=P) (hw:X.w=w) (hc:X.calm=true):d8 X (.builtin "sorted") (rSrt P w):=by
 subst hP hw
 exact call_srtB hc
theorem boot_setT:bootBuiltins "set" = some (.type "set"):=by decide +kernel
end
structure Rises (ns ms:List Int):Prop where
 up:ms.Pairwise (· < ·)
 mem:∀ k,k∈ms↔k∈ns
theorem rises_of {ns ms:List Int} (p:ms.Perm (ddL ns)) (h:ms.Pairwise (·≤·)):Rises ns ms where
 up:=by
  have nd:ms.Nodup:=p.nodup_iff.2 (ddL_nodup ns)
  exact (h.and nd).imp fun {a b} z=>by have:=z.1;have:=z.2;omega
 mem:=fun k=>by rw[p.mem_iff,ddL_mem]
end L2
namespace Tw
open PySem L2
section
variable {P:Program}{w:World}{K:PySem.W.Frag}{mg:Str→Option Value}{base:Heap}
end
end Tw
namespace L2
open PySem PySem.Spec PyProof.Rows
section
variable {M:Model}{A:Around}{E:Value→Shared→Prop}{s:Shared}
end
section
variable {X:Cx}
end
end L2
namespace Tw
open PySem L2
section
variable {P:Program}{w:World}{K:PySem.W.Frag}{mg:Str→Option Value}{base:Heap}
end
end Tw
namespace Tw
open PySem L2
section
variable {P:Program}{w:World}{K:PySem.W.Frag}{mg:Str→Option Value}{base:Heap}
end
end Tw
namespace L2
open PySem PySem.Spec PyProof.Rows TwZ
section
variable {prog:Program}{w:World}
end
noncomputable instance decD:DecidableEq D:=fun a b=>Classical.propDecidable (a=b)
section
variable {prog:Program}{w:World}
end
end L2
namespace L2
open PySem PySem.Spec PyProof.Rows TwZ
section
variable {X:Cx}{pins:List (Addr×Obj)}{σ:St}{H:Hp}{s:Shared}
end
section
variable {P:Program}{w:World}{K:PySem.W.Frag}{H H':Hp}{a:Addr}{S:D}{kvs:List (D×V)}
end
section
variable {X:Cx}{pins:List (Addr×Obj)}{σ:St}{H:Hp}{s:Shared}{a:Addr}{S:D}{kvs:List (D×V)}
end
end L2
namespace Tw
open PySem L2
end Tw
namespace L2
open PySem PySem.Spec PyProof.Rows TwZ
section
variable {X:Cx}
theorem ps_calm {st:Stmt}{t:TS} (h:∀ pn:List (Addr×Obj),PS (X.within pn fun _ _=>False) st t):PS X st t:=by
 intro pins s σ H D I h1
 refine wpAny_mono (h (X.pn++pins) [] s σ H D I.within h1) (fun f s₁ hf=>?_) fun _ _ z=>z.elim
 cases f with
 | next=>obtain⟨σ',H',J,q⟩:=hf;exact⟨σ',H',J.unwithin,q⟩
 | brk=>obtain⟨σ',H',J,q⟩:=hf;exact⟨σ',H',J.unwithin,q⟩
 | cont=>obtain⟨σ',H',J,q⟩:=hf;exact⟨σ',H',J.unwithin,q⟩
 | ret u=>obtain⟨v,σ',H',J,r,q⟩:=hf;exact⟨v,σ',H',J.unwithin,r,q⟩
end
end L2
namespace L2
open PySem PySem.Spec PyProof.Rows TwZ
section
variable {X:Cx}{K:PySem.W.Frag}
end
end L2
namespace Tw
open PySem L2
theorem inV_tip (k:Nat):∀ l:List Nat,inV (.int (k:Int)) (l.map fun (i:Nat)=>V.int (i:Int))=decide (k∈l)
 | []=>rfl
 | x::l=>by
  show (eqV (.int (x:Int)) (.int (k:Int)) || inV (.int (k:Int)) (l.map fun (i:Nat)=>V.int (i:Int)))=_
  rw[inV_tip k l]
  show (((x:Int) == (k:Int)) || decide (k∈l))=decide (k∈x::l)
  by_cases h:k=x
  ·subst h;simp
  ·have h1:((x:Int) == (k:Int))=false:=by simp;omega
   have h2:decide (k∈x::l)=decide (k∈l):=by simp [h]
   rw[h1,h2,Bool.false_or]
theorem cN (l:List Nat):(l.map fun (i:Nat)=>V.int (i:Int)).all flatV=true:=by
 rw[List.all_eq_true]
 intro z hz
 obtain⟨i,_,rfl⟩:=List.mem_map.1 hz
 rfl
end Tw
namespace L2
open PySem PySem.Spec PyProof.Rows TwZ
inductive G where
 | non
 | bl (b:Bool)
 | int (i:Int)
 | str (z:Str)
 | tup (gs:List G)
 | lst (gs:List G)
mutual
noncomputable def aR (K:PySem.W.Frag) (H:Hp):G→V→Prop
 | .non,v=>v=.non
 | .bl b,v=>v=.bl b
 | .int i,v=>v=.int i
 | .str z,v=>v=.str z
 | .tup gs,v=>∃ a xs,v=.ref a∧bR K H a xs∧IsGL K H gs xs
 | .lst gs,v=>∃ a xs,v=.ref a∧bT K H a xs∧IsGL K H gs xs
noncomputable def IsGL (K:PySem.W.Frag) (H:Hp):List G→List V→Prop
 | [],vs=>vs=[]
 | g::gs,vs=>∃ v r,vs=v::r∧aR K H g v∧IsGL K H gs r
end
mutual
noncomputable def bA:G→G→Bool
 | .non,.non=>true
 | .bl a,.bl b=>a == b
 | .bl a,.int b=>(if a then 1 else 0) == b
 | .int a,.bl b=>a == (if b then 1 else 0)
 | .int a,.int b=>a == b
 | .str a,.str b=>a == b
 | .tup a,.tup b=>eqGL a b
 | .lst a,.lst b=>eqGL a b
 | _,_=>false
noncomputable def eqGL:List G→List G→Bool
 | [],[]=>true
 | a::as,b::bs=>bA a b && eqGL as bs
 | _,_=>false
end
mutual
noncomputable def depG:G→Nat
 | .tup gs=>cQ gs+1
 | .lst gs=>cQ gs+1
 | _=>0
noncomputable def cQ:List G→Nat
 | []=>0
 | g::gs=>max (depG g) (cQ gs)
end
mutual
theorem eqG_refl:∀ g:G,bA g g=true
 | .non=>by rw[bA]
 | .bl b=>by rw[bA];simp
 | .int i=>by rw[bA];simp
 | .str z=>by rw[bA];simp
 | .tup gs=>by rw[bA];exact eqGL_refl gs
 | .lst gs=>by rw[bA];exact eqGL_refl gs
theorem eqGL_refl:∀ gs:List G,eqGL gs gs=true
 | []=>by rw[eqGL]
 | g::gs=>by rw[eqGL,eqG_refl g,eqGL_refl gs];rfl
end
theorem IsGL.length {K:PySem.W.Frag}{H:Hp}:∀ {gs:List G}{xs:List V},IsGL K H gs xs→xs.length=gs.length
 | [],_,h=>by rw[IsGL] at h;subst h;rfl
 | g::gs,_,h=>by rw[IsGL] at h;obtain⟨v,r,rfl,_,h⟩:=h;rw[List.length_cons,List.length_cons,IsGL.length h]
theorem IsGL.get {K:PySem.W.Frag}{H:Hp}:∀ {gs:List G}{xs:List V}{i:Nat}{g:G},IsGL K H gs xs→gs[i]? = some g→∃ x,xs[i]? = some x∧aR K H g x
 | [],_,_,_,_,e=>by simp at e
 | g::gs,_,0,g',h,e=>by rw[IsGL] at h;obtain⟨v,r,rfl,h1,_⟩:=h;simp at e;subst e;exact⟨v,by simp,h1⟩
 | g::gs,_,i+1,g',h,e=>by
  rw[IsGL] at h;obtain⟨v,r,rfl,_,h⟩:=h
  obtain⟨x,h1,h2⟩:=IsGL.get h (i:=i) (by simpa using e)
  exact⟨x,by simpa using h1,h2⟩
theorem depGL_mem {g:G}:∀ {gs:List G},g∈gs→depG g≤cQ gs
 | [],h=>by cases h
 | a::gs,h=>by
  rw[cQ]
  rcases List.mem_cons.1 h with rfl | h
  ·omega
  ·have:=depGL_mem h;omega
noncomputable def eAt (gs hs:List G) (j:Nat):Bool:=match gs[j]?,hs[j]? with
 | some g,some h=>bA g h
 | _,_=>true
theorem range_all_succ (n:Nat) (e:Nat→Bool):(List.range (n+1)).all e=(e 0 && (List.range n).all fun j=>e (j+1)):=by
 rw[List.range_succ_eq_map,List.all_cons,List.all_map];rfl
theorem all_eAt:∀ (gs hs:List G),gs.length=hs.length→(List.range gs.length).all (eAt gs hs)=eqGL gs hs
 | [],[],_=>by rw[eqGL];rfl
 | [],_::_,h=>by simp at h
 | _::_,[],h=>by simp at h
 | g::gs,h::hs,hl=>by
  rw[List.length_cons,range_all_succ,eqGL,← all_eAt gs hs (by simpa using hl)]
  congr 1
theorem all_eAtT:∀ (gs hs:List G),((List.range (min gs.length hs.length)).all (eAt gs hs) && gs.length == hs.length)=eqGL gs hs
 | [],[]=>by rw[eqGL];rfl
 | [],_::_=>by simp [eqGL]
 | _::_,[]=>by simp [eqGL]
 | g::gs,h::hs=>by
  have e1:min (g::gs).length (h::hs).length=min gs.length hs.length+1:=by rw[List.length_cons,List.length_cons];omega
  have e2:((g::gs).length == (h::hs).length)=(gs.length == hs.length):=by simp
  rw[e1,e2,range_all_succ,eqGL,← all_eAtT gs hs,Bool.and_assoc]
  congr 1
theorem eqGL_len:∀ (gs hs:List G),gs.length≠hs.length→eqGL gs hs=false
 | [],[],h=>absurd rfl h
 | [],_::_,_=>by simp [eqGL]
 | _::_,[],_=>by simp [eqGL]
 | g::gs,h::hs,hl=>by rw[eqGL,eqGL_len gs hs (by simpa using hl),Bool.and_false]
theorem isTuple_uniq {h:Heap}{a:Addr}{xs ys:Array Value} (h1:h.IsTuple a xs) (h2:h.IsTuple a ys):xs=ys:=by
 obtain⟨o,e,_,n,d⟩:=h1
 obtain⟨o',e',_,n',d'⟩:=h2
 rw[e] at e'
 cases e'
 rw[d] at d'
 injection d'
theorem isList_uniq {h:Heap}{a:Addr}{xs ys:Array Value} (h1:h.IsList a xs) (h2:h.IsList a ys):xs=ys:=by
 obtain⟨o,e,_,n,d⟩:=h1
 obtain⟨o',e',_,n',d'⟩:=h2
 rw[e] at e'
 cases e'
 rw[d] at d'
 injection d'
section
variable {X:Cx}{pins:List (Addr×Obj)}{σ:St}{H:Hp}{s:Shared}
mutual
theorem uniqG (I:Inv X pins σ H s):∀ (g h:G) (x y:V) (u:Value),aR X.K H g x→aR X.K H h y→aY x u→aY y u→g=h
 | .non,h,x,y,u,hx,hy,rx,ry=>by
  rw[aR] at hx;subst hx;cases rx
  cases h <;> rw[aR] at hy
  ·subst hy;cases ry
  ·subst hy;obtain⟨_,e⟩:=ry;cases e
  ·subst hy;obtain⟨_,e⟩:=ry;cases e
  ·obtain⟨_,_,rfl,_⟩:=hy;cases ry
  ·obtain⟨_,_,rfl,_⟩:=hy;cases ry
 | .bl b,h,x,y,u,hx,hy,rx,ry=>by
  rw[aR] at hx;subst hx;cases rx
  cases h <;> rw[aR] at hy
  ·subst hy;cases ry
  ·subst hy;injection ry with e;rw[e]
  ·subst hy;obtain⟨_,e⟩:=ry;cases e
  ·subst hy;obtain⟨_,e⟩:=ry;cases e
  ·obtain⟨_,_,rfl,_⟩:=hy;cases ry
  ·obtain⟨_,_,rfl,_⟩:=hy;cases ry
 | .int b,h,x,y,u,hx,hy,rx,ry=>by
  rw[aR] at hx;subst hx;obtain⟨t,rfl⟩:=rx
  cases h <;> rw[aR] at hy
  ·subst hy;cases ry
  ·subst hy;cases ry
  ·subst hy;obtain⟨_,e⟩:=ry;injection e with e;rw[e]
  ·subst hy;obtain⟨_,e⟩:=ry;cases e
  ·obtain⟨_,_,rfl,_⟩:=hy;cases ry
  ·obtain⟨_,_,rfl,_⟩:=hy;cases ry
 | .str b,h,x,y,u,hx,hy,rx,ry=>by
  rw[aR] at hx;subst hx;obtain⟨t,rfl⟩:=rx
  cases h <;> rw[aR] at hy
  ·subst hy;cases ry
  ·subst hy;cases ry
  ·subst hy;obtain⟨_,e⟩:=ry;cases e
  ·subst hy;obtain⟨_,e⟩:=ry;injection e with e;rw[e]
  ·obtain⟨_,_,rfl,_⟩:=hy;cases ry
  ·obtain⟨_,_,rfl,_⟩:=hy;cases ry
 | .tup gs,h,x,y,u,hx,hy,rx,ry=>by
  rw[aR] at hx;obtain⟨a,xs,rfl,q1,l1⟩:=hx;cases rx
  cases h <;> rw[aR] at hy
  ·subst hy;cases ry
  ·subst hy;cases ry
  ·subst hy;obtain⟨_,e⟩:=ry;cases e
  ·subst hy;obtain⟨_,e⟩:=ry;cases e
  ·obtain⟨b,ys,rfl,q2,l2⟩:=hy;cases ry
   obtain⟨us,r1,p1,_⟩:=I.tuple q1
   obtain⟨vs,r2,p2,_⟩:=I.tuple q2
   have e:=isTuple_uniq p1 p2
   have e':us=vs:=by simpa using e
   subst e'
   rw[uniqGL I gs _ xs ys us l1 l2 r1 r2]
  ·obtain⟨b,ys,rfl,q2,l2⟩:=hy;cases ry
   obtain⟨us,r1,p1,_⟩:=I.tuple q1
   obtain⟨vs,r2,p2,_⟩:=I.list q2
   exact absurd rfl (SeqAt.ne_of_list_tuple p2.isList p1)
 | .lst gs,h,x,y,u,hx,hy,rx,ry=>by
  rw[aR] at hx;obtain⟨a,xs,rfl,q1,l1⟩:=hx;cases rx
  cases h <;> rw[aR] at hy
  ·subst hy;cases ry
  ·subst hy;cases ry
  ·subst hy;obtain⟨_,e⟩:=ry;cases e
  ·subst hy;obtain⟨_,e⟩:=ry;cases e
  ·obtain⟨b,ys,rfl,q2,l2⟩:=hy;cases ry
   obtain⟨us,r1,p1,_⟩:=I.list q1
   obtain⟨vs,r2,p2,_⟩:=I.tuple q2
   exact absurd rfl (SeqAt.ne_of_list_tuple p1.isList p2)
  ·obtain⟨b,ys,rfl,q2,l2⟩:=hy;cases ry
   obtain⟨us,r1,p1,_⟩:=I.list q1
   obtain⟨vs,r2,p2,_⟩:=I.list q2
   have e:=isList_uniq p1.isList p2.isList
   have e':us=vs:=by simpa using e
   subst e'
   rw[uniqGL I gs _ xs ys us l1 l2 r1 r2]
theorem uniqGL (I:Inv X pins σ H s):∀ (gs hs:List G) (xs ys:List V) (us:List Value),IsGL X.K H gs xs→IsGL X.K H hs ys→bD xs us→bD ys us→gs=hs
 | [],hs,xs,ys,us,h1,h2,r1,r2=>by
  rw[IsGL] at h1;subst h1;cases r1;cases r2
  cases hs with
  | nil=>rfl
  | cons h hs=>rw[IsGL] at h2;obtain⟨_,_,e,_⟩:=h2;cases e
 | g::gs,hs,xs,ys,us,h1,h2,r1,r2=>by
  rw[IsGL] at h1;obtain⟨x,r,rfl,i1,l1⟩:=h1
  cases r1 with
  | cons ra rb=>
   cases hs with
   | nil=>rw[IsGL] at h2;subst h2;cases r2
   | cons h hs=>
    rw[IsGL] at h2;obtain⟨y,r',rfl,i2,l2⟩:=h2
    cases r2 with
    | cons ra' rb'=>rw[uniqG I g h _ _ _ i1 i2 ra ra',uniqGL I gs hs _ _ _ l1 l2 rb rb']
end
theorem get_arr {us:List Value}{j:Nat}{w:Value} (h1:j < us.toArray.size) (h:us[j]? = some w):us.toArray[j]=w:=by
 have:us[j]? = some us.toArray[j]:=by simp
 rw[this] at h;exact Option.some.inj h
theorem el_eqAt {n:Nat}{gs hs:List G}{xs ys:List V}{us vs:List Value}{A:Around}
  (ih:∀ (g h:G) (x y:V) (u v:Value),g∈gs→aR X.K H g x→aR X.K H h y→aY x u→aY y v→SeqAt.EqAt A s u v (bA g h))
  (l1:IsGL X.K H gs xs) (l2:IsGL X.K H hs ys) (r1:bD xs us) (r2:bD ys vs) (j:Nat) (h1:j < us.toArray.size) (h2:j < vs.toArray.size):SeqAt.EqAt A s us.toArray[j] vs.toArray[j] (eAt gs hs j):=by
 have e1:=r1.length
 have e2:=r2.length
 have e3:=l1.length
 have e4:=l2.length
 have j1:j < gs.length:=by rw[← e3,e1];simpa using h1
 have j2:j < hs.length:=by rw[← e4,e2];simpa using h2
 obtain⟨x,gx,ix⟩:=l1.get (i:=j) (g:=gs[j]) (by simp)
 obtain⟨y,gy,iy⟩:=l2.get (i:=j) (g:=hs[j]) (by simp)
 obtain⟨w1,g1,t1⟩:=r1.get gx
 obtain⟨w2,g2,t2⟩:=r2.get gy
 rw[get_arr h1 g1,get_arr h2 g2]
 have:eAt gs hs j=bA gs[j] hs[j]:=by unfold eAt;simp [j1,j2]
 rw[this]
 exact ih _ _ x y w1 w2 (List.getElem_mem j1) ix iy t1 t2
end
section
variable {X:Cx}{pins:List (Addr×Obj)}{σ:St}{H:Hp}{s:Shared}
theorem eqAtG (I:Inv X pins σ H s):∀ (n:Nat) (g h:G) (A:Around) (x y:V) (u v:Value),depG g≤n→A.units+n < cLine→aR X.K H g x→aR X.K H h y→aY x u→aY y v→SeqAt.EqAt A s u v (bA g h)
 | n,.non,.non,A,x,y,u,v,hd,hu,hx,hy,rx,ry=>by
  rw[aR] at hx;subst hx;cases rx
  rw[aR] at hy;subst hy;cases ry
  rw[bA];exact SeqAt.EqAt.same _
 | n,.non,.bl gy,A,x,y,u,v,hd,hu,hx,hy,rx,ry=>by
  rw[aR] at hx;subst hx;cases rx
  rw[aR] at hy;subst hy;cases ry
  rw[show bA (.non) (.bl gy)=false from by simp [bA]];exact SeqAt.EqAt.none_bool gy
 | n,.non,.int gy,A,x,y,u,v,hd,hu,hx,hy,rx,ry=>by
  rw[aR] at hx;subst hx;cases rx
  rw[aR] at hy;subst hy;obtain⟨ty,rfl⟩:=ry
  rw[show bA (.non) (.int gy)=false from by simp [bA]];exact SeqAt.EqAt.none_int gy ty
 | n,.non,.str gy,A,x,y,u,v,hd,hu,hx,hy,rx,ry=>by
  rw[aR] at hx;subst hx;cases rx
  rw[aR] at hy;subst hy;obtain⟨ty,rfl⟩:=ry
  rw[show bA (.non) (.str gy)=false from by simp [bA]];exact SeqAt.EqAt.none_str gy ty
 | n,.non,.tup gy,A,x,y,u,v,hd,hu,hx,hy,rx,ry=>by
  rw[aR] at hx;subst hx;cases rx
  rw[aR] at hy;obtain⟨ay,xsy,rfl,qy,ly⟩:=hy;cases ry;obtain⟨usy,vy,py,_⟩:=I.tuple qy
  rw[show bA (.non) (.tup gy)=false from by simp [bA]];exact SeqAt.EqAt.none_tuple py (by omega)
 | n,.non,.lst gy,A,x,y,u,v,hd,hu,hx,hy,rx,ry=>by
  rw[aR] at hx;subst hx;cases rx
  rw[aR] at hy;obtain⟨ay,xsy,rfl,qy,ly⟩:=hy;cases ry;obtain⟨usy,vy,py,_⟩:=I.list qy
  rw[show bA (.non) (.lst gy)=false from by simp [bA]];exact SeqAt.EqAt.none_list py.isList (by omega)
 | n,.bl gx,.non,A,x,y,u,v,hd,hu,hx,hy,rx,ry=>by
  rw[aR] at hx;subst hx;cases rx
  rw[aR] at hy;subst hy;cases ry
  rw[show bA (.bl gx) (.non)=false from by simp [bA]];exact SeqAt.EqAt.bool_none gx
 | n,.bl gx,.bl gy,A,x,y,u,v,hd,hu,hx,hy,rx,ry=>by
  rw[aR] at hx;subst hx;cases rx
  rw[aR] at hy;subst hy;cases ry
  rw[bA];exact SeqAt.EqAt.bool_bool gx gy
 | n,.bl gx,.int gy,A,x,y,u,v,hd,hu,hx,hy,rx,ry=>by
  rw[aR] at hx;subst hx;cases rx
  rw[aR] at hy;subst hy;obtain⟨ty,rfl⟩:=ry
  rw[bA];exact SeqAt.EqAt.bool_int gx gy ty
 | n,.bl gx,.str gy,A,x,y,u,v,hd,hu,hx,hy,rx,ry=>by
  rw[aR] at hx;subst hx;cases rx
  rw[aR] at hy;subst hy;obtain⟨ty,rfl⟩:=ry
  rw[show bA (.bl gx) (.str gy)=false from by simp [bA]];exact SeqAt.EqAt.bool_str gx gy ty
 | n,.bl gx,.tup gy,A,x,y,u,v,hd,hu,hx,hy,rx,ry=>by
  rw[aR] at hx;subst hx;cases rx
  rw[aR] at hy;obtain⟨ay,xsy,rfl,qy,ly⟩:=hy;cases ry;obtain⟨usy,vy,py,_⟩:=I.tuple qy
  rw[show bA (.bl gx) (.tup gy)=false from by simp [bA]];exact SeqAt.EqAt.bool_tuple gx py (by omega)
 | n,.bl gx,.lst gy,A,x,y,u,v,hd,hu,hx,hy,rx,ry=>by
  rw[aR] at hx;subst hx;cases rx
  rw[aR] at hy;obtain⟨ay,xsy,rfl,qy,ly⟩:=hy;cases ry;obtain⟨usy,vy,py,_⟩:=I.list qy
  rw[show bA (.bl gx) (.lst gy)=false from by simp [bA]];exact SeqAt.EqAt.bool_list gx py.isList (by omega)
 | n,.int gx,.non,A,x,y,u,v,hd,hu,hx,hy,rx,ry=>by
  rw[aR] at hx;subst hx;obtain⟨tx,rfl⟩:=rx
  rw[aR] at hy;subst hy;cases ry
  rw[show bA (.int gx) (.non)=false from by simp [bA]];exact SeqAt.EqAt.int_none gx tx
 | n,.int gx,.bl gy,A,x,y,u,v,hd,hu,hx,hy,rx,ry=>by
  rw[aR] at hx;subst hx;obtain⟨tx,rfl⟩:=rx
  rw[aR] at hy;subst hy;cases ry
  rw[bA];exact SeqAt.EqAt.int_bool gx tx gy
 | n,.int gx,.int gy,A,x,y,u,v,hd,hu,hx,hy,rx,ry=>by
  rw[aR] at hx;subst hx;obtain⟨tx,rfl⟩:=rx
  rw[aR] at hy;subst hy;obtain⟨ty,rfl⟩:=ry
  rw[bA];exact SeqAt.EqAt.int_int gx tx gy ty
 | n,.int gx,.str gy,A,x,y,u,v,hd,hu,hx,hy,rx,ry=>by
  rw[aR] at hx;subst hx;obtain⟨tx,rfl⟩:=rx
  rw[aR] at hy;subst hy;obtain⟨ty,rfl⟩:=ry
  rw[show bA (.int gx) (.str gy)=false from by simp [bA]];exact SeqAt.EqAt.int_str gx tx gy ty
 | n,.int gx,.tup gy,A,x,y,u,v,hd,hu,hx,hy,rx,ry=>by
  rw[aR] at hx;subst hx;obtain⟨tx,rfl⟩:=rx
  rw[aR] at hy;obtain⟨ay,xsy,rfl,qy,ly⟩:=hy;cases ry;obtain⟨usy,vy,py,_⟩:=I.tuple qy
  rw[show bA (.int gx) (.tup gy)=false from by simp [bA]];exact SeqAt.EqAt.int_tuple gx tx py (by omega)
 | n,.int gx,.lst gy,A,x,y,u,v,hd,hu,hx,hy,rx,ry=>by
  rw[aR] at hx;subst hx;obtain⟨tx,rfl⟩:=rx
  rw[aR] at hy;obtain⟨ay,xsy,rfl,qy,ly⟩:=hy;cases ry;obtain⟨usy,vy,py,_⟩:=I.list qy
  rw[show bA (.int gx) (.lst gy)=false from by simp [bA]];exact SeqAt.EqAt.int_list gx tx py.isList (by omega)
 | n,.str gx,.non,A,x,y,u,v,hd,hu,hx,hy,rx,ry=>by
  rw[aR] at hx;subst hx;obtain⟨tx,rfl⟩:=rx
  rw[aR] at hy;subst hy;cases ry
  rw[show bA (.str gx) (.non)=false from by simp [bA]];exact SeqAt.EqAt.str_none gx tx
 | n,.str gx,.bl gy,A,x,y,u,v,hd,hu,hx,hy,rx,ry=>by
  rw[aR] at hx;subst hx;obtain⟨tx,rfl⟩:=rx
  rw[aR] at hy;subst hy;cases ry
  rw[show bA (.str gx) (.bl gy)=false from by simp [bA]];exact SeqAt.EqAt.str_bool gx tx gy
 | n,.str gx,.int gy,A,x,y,u,v,hd,hu,hx,hy,rx,ry=>by
  rw[aR] at hx;subst hx;obtain⟨tx,rfl⟩:=rx
  rw[aR] at hy;subst hy;obtain⟨ty,rfl⟩:=ry
  rw[show bA (.str gx) (.int gy)=false from by simp [bA]];exact SeqAt.EqAt.str_int gx tx gy ty
 | n,.str gx,.str gy,A,x,y,u,v,hd,hu,hx,hy,rx,ry=>by
  rw[aR] at hx;subst hx;obtain⟨tx,rfl⟩:=rx
  rw[aR] at hy;subst hy;obtain⟨ty,rfl⟩:=ry
  rw[bA];exact SeqAt.EqAt.str_str gx tx gy ty
 | n,.str gx,.tup gy,A,x,y,u,v,hd,hu,hx,hy,rx,ry=>by
  rw[aR] at hx;subst hx;obtain⟨tx,rfl⟩:=rx
  rw[aR] at hy;obtain⟨ay,xsy,rfl,qy,ly⟩:=hy;cases ry;obtain⟨usy,vy,py,_⟩:=I.tuple qy
  rw[show bA (.str gx) (.tup gy)=false from by simp [bA]];exact SeqAt.EqAt.str_tuple gx tx py (by omega)
 | n,.str gx,.lst gy,A,x,y,u,v,hd,hu,hx,hy,rx,ry=>by
  rw[aR] at hx;subst hx;obtain⟨tx,rfl⟩:=rx
  rw[aR] at hy;obtain⟨ay,xsy,rfl,qy,ly⟩:=hy;cases ry;obtain⟨usy,vy,py,_⟩:=I.list qy
  rw[show bA (.str gx) (.lst gy)=false from by simp [bA]];exact SeqAt.EqAt.str_list gx tx py.isList (by omega)
 | n,.tup gx,.non,A,x,y,u,v,hd,hu,hx,hy,rx,ry=>by
  rw[aR] at hx;obtain⟨ax,xsx,rfl,qx,lx⟩:=hx;cases rx;obtain⟨usx,vx,px,_⟩:=I.tuple qx
  rw[aR] at hy;subst hy;cases ry
  rw[show bA (.tup gx) (.non)=false from by simp [bA]];exact SeqAt.EqAt.tuple_none px (by omega)
 | n,.tup gx,.bl gy,A,x,y,u,v,hd,hu,hx,hy,rx,ry=>by
  rw[aR] at hx;obtain⟨ax,xsx,rfl,qx,lx⟩:=hx;cases rx;obtain⟨usx,vx,px,_⟩:=I.tuple qx
  rw[aR] at hy;subst hy;cases ry
  rw[show bA (.tup gx) (.bl gy)=false from by simp [bA]];exact SeqAt.EqAt.tuple_bool gy px (by omega)
 | n,.tup gx,.int gy,A,x,y,u,v,hd,hu,hx,hy,rx,ry=>by
  rw[aR] at hx;obtain⟨ax,xsx,rfl,qx,lx⟩:=hx;cases rx;obtain⟨usx,vx,px,_⟩:=I.tuple qx
  rw[aR] at hy;subst hy;obtain⟨ty,rfl⟩:=ry
  rw[show bA (.tup gx) (.int gy)=false from by simp [bA]];exact SeqAt.EqAt.tuple_int gy ty px (by omega)
 | n,.tup gx,.str gy,A,x,y,u,v,hd,hu,hx,hy,rx,ry=>by
  rw[aR] at hx;obtain⟨ax,xsx,rfl,qx,lx⟩:=hx;cases rx;obtain⟨usx,vx,px,_⟩:=I.tuple qx
  rw[aR] at hy;subst hy;obtain⟨ty,rfl⟩:=ry
  rw[show bA (.tup gx) (.str gy)=false from by simp [bA]];exact SeqAt.EqAt.tuple_str gy ty px (by omega)
 | 0,.tup gx,.tup gy,A,x,y,u,v,hd,_,_,_,_,_=>by rw[depG] at hd;omega
 | n+1,.tup gx,.tup gy,A,x,y,u,v,hd,hu,hx,hy,rx,ry=>by
  rw[aR] at hx;obtain⟨ax,xsx,rfl,qx,lx⟩:=hx;cases rx;obtain⟨usx,vx,px,_⟩:=I.tuple qx
  rw[aR] at hy;obtain⟨ay,xsy,rfl,qy,ly⟩:=hy;cases ry;obtain⟨usy,vy,py,_⟩:=I.tuple qy
  by_cases hab:ax=ay
  ·subst hab
   have e:=uniqG I (.tup gx) (.tup gy) (.ref ax) (.ref ax) _ (by rw[aR];exact⟨_,_,rfl,qx,lx⟩) (by rw[aR];exact⟨_,_,rfl,qy,ly⟩) rfl rfl
   rw[e,eqG_refl];exact SeqAt.EqAt.same _
  have e1:=vx.length
  have e2:=vy.length
  have e3:=lx.length
  have e4:=ly.length
  rw[show bA (.tup gx) (.tup gy)=eqGL gx gy from by rw[bA],← all_eAtT gx gy]
  have ex:gx.length=usx.toArray.size:=by rw[← e3,e1,List.size_toArray]
  have ey:gy.length=usy.toArray.size:=by rw[← e4,e2,List.size_toArray]
  rw[ex,ey]
  refine SeqAt.EqAt.of_refs hab ?_;exact SeqAt.RcAt.tuples px py (by omega) (fun j h1 h2=>el_eqAt (n:=0) (fun g h x y u v hm ix iy tx ty=>eqAtG I n g h A.in1 x y u v (by have:=depGL_mem hm;rw[depG] at hd;omega) (by show A.units+1+n < cLine;omega) ix iy tx ty) lx ly vx vy j h1 h2)
 | n,.tup gx,.lst gy,A,x,y,u,v,hd,hu,hx,hy,rx,ry=>by
  rw[aR] at hx;obtain⟨ax,xsx,rfl,qx,lx⟩:=hx;cases rx;obtain⟨usx,vx,px,_⟩:=I.tuple qx
  rw[aR] at hy;obtain⟨ay,xsy,rfl,qy,ly⟩:=hy;cases ry;obtain⟨usy,vy,py,_⟩:=I.list qy
  rw[show bA (.tup gx) (.lst gy)=false from by simp [bA]];exact SeqAt.EqAt.tuple_list px py.isList (by omega)
 | n,.lst gx,.non,A,x,y,u,v,hd,hu,hx,hy,rx,ry=>by
  rw[aR] at hx;obtain⟨ax,xsx,rfl,qx,lx⟩:=hx;cases rx;obtain⟨usx,vx,px,_⟩:=I.list qx
  rw[aR] at hy;subst hy;cases ry
  rw[show bA (.lst gx) (.non)=false from by simp [bA]];exact SeqAt.EqAt.list_none px.isList (by omega)
 | n,.lst gx,.bl gy,A,x,y,u,v,hd,hu,hx,hy,rx,ry=>by
  rw[aR] at hx;obtain⟨ax,xsx,rfl,qx,lx⟩:=hx;cases rx;obtain⟨usx,vx,px,_⟩:=I.list qx
  rw[aR] at hy;subst hy;cases ry
  rw[show bA (.lst gx) (.bl gy)=false from by simp [bA]];exact SeqAt.EqAt.list_bool gy px.isList (by omega)
 | n,.lst gx,.int gy,A,x,y,u,v,hd,hu,hx,hy,rx,ry=>by
  rw[aR] at hx;obtain⟨ax,xsx,rfl,qx,lx⟩:=hx;cases rx;obtain⟨usx,vx,px,_⟩:=I.list qx
  rw[aR] at hy;subst hy;obtain⟨ty,rfl⟩:=ry
  rw[show bA (.lst gx) (.int gy)=false from by simp [bA]];exact SeqAt.EqAt.list_int gy ty px.isList (by omega)
 | n,.lst gx,.str gy,A,x,y,u,v,hd,hu,hx,hy,rx,ry=>by
  rw[aR] at hx;obtain⟨ax,xsx,rfl,qx,lx⟩:=hx;cases rx;obtain⟨usx,vx,px,_⟩:=I.list qx
  rw[aR] at hy;subst hy;obtain⟨ty,rfl⟩:=ry
  rw[show bA (.lst gx) (.str gy)=false from by simp [bA]];exact SeqAt.EqAt.list_str gy ty px.isList (by omega)
 | n,.lst gx,.tup gy,A,x,y,u,v,hd,hu,hx,hy,rx,ry=>by
  rw[aR] at hx;obtain⟨ax,xsx,rfl,qx,lx⟩:=hx;cases rx;obtain⟨usx,vx,px,_⟩:=I.list qx
  rw[aR] at hy;obtain⟨ay,xsy,rfl,qy,ly⟩:=hy;cases ry;obtain⟨usy,vy,py,_⟩:=I.tuple qy
  rw[show bA (.lst gx) (.tup gy)=false from by simp [bA]];exact SeqAt.EqAt.list_tuple px.isList py (by omega)
 | 0,.lst gx,.lst gy,A,x,y,u,v,hd,_,_,_,_,_=>by rw[depG] at hd;omega
 | n+1,.lst gx,.lst gy,A,x,y,u,v,hd,hu,hx,hy,rx,ry=>by
  rw[aR] at hx;obtain⟨ax,xsx,rfl,qx,lx⟩:=hx;cases rx;obtain⟨usx,vx,px,_⟩:=I.list qx
  rw[aR] at hy;obtain⟨ay,xsy,rfl,qy,ly⟩:=hy;cases ry;obtain⟨usy,vy,py,_⟩:=I.list qy
  by_cases hab:ax=ay
  ·subst hab
   have e:=uniqG I (.lst gx) (.lst gy) (.ref ax) (.ref ax) _ (by rw[aR];exact⟨_,_,rfl,qx,lx⟩) (by rw[aR];exact⟨_,_,rfl,qy,ly⟩) rfl rfl
   rw[e,eqG_refl];exact SeqAt.EqAt.same _
  have e1:=vx.length
  have e2:=vy.length
  have e3:=lx.length
  have e4:=ly.length
  rw[show bA (.lst gx) (.lst gy)=eqGL gx gy from by rw[bA]]
  have ex:gx.length=usx.toArray.size:=by rw[← e3,e1,List.size_toArray]
  have ey:gy.length=usy.toArray.size:=by rw[← e4,e2,List.size_toArray]
  by_cases hl:gx.length=gy.length
  ·rw[← all_eAt gx gy hl,ex]
   refine SeqAt.EqAt.of_refs hab ?_;exact SeqAt.RcAt.lists px.isList py.isList (by omega) (by omega) (fun j h1 h2=>el_eqAt (n:=0) (fun g h x y u v hm ix iy tx ty=>eqAtG I n g h A.in1 x y u v (by have:=depGL_mem hm;rw[depG] at hd;omega) (by show A.units+1+n < cLine;omega) ix iy tx ty) lx ly vx vy j h1 h2)
  ·rw[eqGL_len gx gy hl]
   refine SeqAt.EqAt.of_refs hab ?_;exact SeqAt.RcAt.lists_lengths px.isList py.isList (by rw[← ex,← ey];simpa using hl) (by omega)
theorem rneG (I:Inv X pins σ H s) {A:Around} (hu:A.units+40 < cLine):∀ (g h:G) (x y:V) (u v:Value),depG g≤30→aR X.K H g x→aR X.K H h y→aY x u→aY y v→SeqAt.RcNeAt A s u v (!bA g h)
 | .non,.non,x,y,u,v,hd,hx,hy,rx,ry=>by
  rw[aR] at hx;subst hx;cases rx
  rw[aR] at hy;subst hy;cases ry
  rw[bA];exact SeqAt.RcNeAt.none_none
 | .non,.bl gy,x,y,u,v,hd,hx,hy,rx,ry=>by
  rw[aR] at hx;subst hx;cases rx
  rw[aR] at hy;subst hy;cases ry
  rw[show bA (.non) (.bl gy)=false from by simp [bA]];exact SeqAt.RcNeAt.none_bool gy
 | .non,.int gy,x,y,u,v,hd,hx,hy,rx,ry=>by
  rw[aR] at hx;subst hx;cases rx
  rw[aR] at hy;subst hy;obtain⟨ty,rfl⟩:=ry
  rw[show bA (.non) (.int gy)=false from by simp [bA]];exact SeqAt.RcNeAt.none_int gy ty
 | .non,.str gy,x,y,u,v,hd,hx,hy,rx,ry=>by
  rw[aR] at hx;subst hx;cases rx
  rw[aR] at hy;subst hy;obtain⟨ty,rfl⟩:=ry
  rw[show bA (.non) (.str gy)=false from by simp [bA]];exact SeqAt.RcNeAt.none_str gy ty
 | .non,.tup gy,x,y,u,v,hd,hx,hy,rx,ry=>by
  rw[aR] at hx;subst hx;cases rx
  rw[aR] at hy;obtain⟨ay,xsy,rfl,qy,ly⟩:=hy;cases ry;obtain⟨usy,vy,py,_⟩:=I.tuple qy
  rw[show bA (.non) (.tup gy)=false from by simp [bA]];exact SeqAt.RcNeAt.none_tuple py (by omega)
 | .non,.lst gy,x,y,u,v,hd,hx,hy,rx,ry=>by
  rw[aR] at hx;subst hx;cases rx
  rw[aR] at hy;obtain⟨ay,xsy,rfl,qy,ly⟩:=hy;cases ry;obtain⟨usy,vy,py,_⟩:=I.list qy
  rw[show bA (.non) (.lst gy)=false from by simp [bA]];exact SeqAt.RcNeAt.none_list py.isList (by omega)
 | .bl gx,.non,x,y,u,v,hd,hx,hy,rx,ry=>by
  rw[aR] at hx;subst hx;cases rx
  rw[aR] at hy;subst hy;cases ry
  rw[show bA (.bl gx) (.non)=false from by simp [bA]];exact SeqAt.RcNeAt.bool_none gx
 | .bl gx,.bl gy,x,y,u,v,hd,hx,hy,rx,ry=>by
  rw[aR] at hx;subst hx;cases rx
  rw[aR] at hy;subst hy;cases ry
  rw[bA];exact SeqAt.RcNeAt.bool_bool gx gy
 | .bl gx,.int gy,x,y,u,v,hd,hx,hy,rx,ry=>by
  rw[aR] at hx;subst hx;cases rx
  rw[aR] at hy;subst hy;obtain⟨ty,rfl⟩:=ry
  rw[bA];exact SeqAt.RcNeAt.bool_int gx gy ty
 | .bl gx,.str gy,x,y,u,v,hd,hx,hy,rx,ry=>by
  rw[aR] at hx;subst hx;cases rx
  rw[aR] at hy;subst hy;obtain⟨ty,rfl⟩:=ry
  rw[show bA (.bl gx) (.str gy)=false from by simp [bA]];exact SeqAt.RcNeAt.bool_str gx gy ty
 | .bl gx,.tup gy,x,y,u,v,hd,hx,hy,rx,ry=>by
  rw[aR] at hx;subst hx;cases rx
  rw[aR] at hy;obtain⟨ay,xsy,rfl,qy,ly⟩:=hy;cases ry;obtain⟨usy,vy,py,_⟩:=I.tuple qy
  rw[show bA (.bl gx) (.tup gy)=false from by simp [bA]];exact SeqAt.RcNeAt.bool_tuple gx py (by omega)
 | .bl gx,.lst gy,x,y,u,v,hd,hx,hy,rx,ry=>by
  rw[aR] at hx;subst hx;cases rx
  rw[aR] at hy;obtain⟨ay,xsy,rfl,qy,ly⟩:=hy;cases ry;obtain⟨usy,vy,py,_⟩:=I.list qy
  rw[show bA (.bl gx) (.lst gy)=false from by simp [bA]];exact SeqAt.RcNeAt.bool_list gx py.isList (by omega)
 | .int gx,.non,x,y,u,v,hd,hx,hy,rx,ry=>by
  rw[aR] at hx;subst hx;obtain⟨tx,rfl⟩:=rx
  rw[aR] at hy;subst hy;cases ry
  rw[show bA (.int gx) (.non)=false from by simp [bA]];exact SeqAt.RcNeAt.int_none gx tx
 | .int gx,.bl gy,x,y,u,v,hd,hx,hy,rx,ry=>by
  rw[aR] at hx;subst hx;obtain⟨tx,rfl⟩:=rx
  rw[aR] at hy;subst hy;cases ry
  rw[bA];exact SeqAt.RcNeAt.int_bool gx tx gy
 | .int gx,.int gy,x,y,u,v,hd,hx,hy,rx,ry=>by
  rw[aR] at hx;subst hx;obtain⟨tx,rfl⟩:=rx
  rw[aR] at hy;subst hy;obtain⟨ty,rfl⟩:=ry
  rw[bA];exact SeqAt.RcNeAt.int_int gx tx gy ty
 | .int gx,.str gy,x,y,u,v,hd,hx,hy,rx,ry=>by
  rw[aR] at hx;subst hx;obtain⟨tx,rfl⟩:=rx
  rw[aR] at hy;subst hy;obtain⟨ty,rfl⟩:=ry
  rw[show bA (.int gx) (.str gy)=false from by simp [bA]];exact SeqAt.RcNeAt.int_str gx tx gy ty
 | .int gx,.tup gy,x,y,u,v,hd,hx,hy,rx,ry=>by
  rw[aR] at hx;subst hx;obtain⟨tx,rfl⟩:=rx
  rw[aR] at hy;obtain⟨ay,xsy,rfl,qy,ly⟩:=hy;cases ry;obtain⟨usy,vy,py,_⟩:=I.tuple qy
  rw[show bA (.int gx) (.tup gy)=false from by simp [bA]];exact SeqAt.RcNeAt.int_tuple gx tx py (by omega)
 | .int gx,.lst gy,x,y,u,v,hd,hx,hy,rx,ry=>by
  rw[aR] at hx;subst hx;obtain⟨tx,rfl⟩:=rx
  rw[aR] at hy;obtain⟨ay,xsy,rfl,qy,ly⟩:=hy;cases ry;obtain⟨usy,vy,py,_⟩:=I.list qy
  rw[show bA (.int gx) (.lst gy)=false from by simp [bA]];exact SeqAt.RcNeAt.int_list gx tx py.isList (by omega)
 | .str gx,.non,x,y,u,v,hd,hx,hy,rx,ry=>by
  rw[aR] at hx;subst hx;obtain⟨tx,rfl⟩:=rx
  rw[aR] at hy;subst hy;cases ry
  rw[show bA (.str gx) (.non)=false from by simp [bA]];exact SeqAt.RcNeAt.str_none gx tx
 | .str gx,.bl gy,x,y,u,v,hd,hx,hy,rx,ry=>by
  rw[aR] at hx;subst hx;obtain⟨tx,rfl⟩:=rx
  rw[aR] at hy;subst hy;cases ry
  rw[show bA (.str gx) (.bl gy)=false from by simp [bA]];exact SeqAt.RcNeAt.str_bool gx tx gy
 | .str gx,.int gy,x,y,u,v,hd,hx,hy,rx,ry=>by
  rw[aR] at hx;subst hx;obtain⟨tx,rfl⟩:=rx
  rw[aR] at hy;subst hy;obtain⟨ty,rfl⟩:=ry
  rw[show bA (.str gx) (.int gy)=false from by simp [bA]];exact SeqAt.RcNeAt.str_int gx tx gy ty
 | .str gx,.str gy,x,y,u,v,hd,hx,hy,rx,ry=>by
  rw[aR] at hx;subst hx;obtain⟨tx,rfl⟩:=rx
  rw[aR] at hy;subst hy;obtain⟨ty,rfl⟩:=ry
  rw[bA];exact SeqAt.RcNeAt.str_str gx tx gy ty
 | .str gx,.tup gy,x,y,u,v,hd,hx,hy,rx,ry=>by
  rw[aR] at hx;subst hx;obtain⟨tx,rfl⟩:=rx
  rw[aR] at hy;obtain⟨ay,xsy,rfl,qy,ly⟩:=hy;cases ry;obtain⟨usy,vy,py,_⟩:=I.tuple qy
  rw[show bA (.str gx) (.tup gy)=false from by simp [bA]];exact SeqAt.RcNeAt.str_tuple gx tx py (by omega)
 | .str gx,.lst gy,x,y,u,v,hd,hx,hy,rx,ry=>by
  rw[aR] at hx;subst hx;obtain⟨tx,rfl⟩:=rx
  rw[aR] at hy;obtain⟨ay,xsy,rfl,qy,ly⟩:=hy;cases ry;obtain⟨usy,vy,py,_⟩:=I.list qy
  rw[show bA (.str gx) (.lst gy)=false from by simp [bA]];exact SeqAt.RcNeAt.str_list gx tx py.isList (by omega)
 | .tup gx,.non,x,y,u,v,hd,hx,hy,rx,ry=>by
  rw[aR] at hx;obtain⟨ax,xsx,rfl,qx,lx⟩:=hx;cases rx;obtain⟨usx,vx,px,_⟩:=I.tuple qx
  rw[aR] at hy;subst hy;cases ry
  rw[show bA (.tup gx) (.non)=false from by simp [bA]];exact SeqAt.RcNeAt.tuple_none px (by omega)
 | .tup gx,.bl gy,x,y,u,v,hd,hx,hy,rx,ry=>by
  rw[aR] at hx;obtain⟨ax,xsx,rfl,qx,lx⟩:=hx;cases rx;obtain⟨usx,vx,px,_⟩:=I.tuple qx
  rw[aR] at hy;subst hy;cases ry
  rw[show bA (.tup gx) (.bl gy)=false from by simp [bA]];exact SeqAt.RcNeAt.tuple_bool gy px (by omega)
 | .tup gx,.int gy,x,y,u,v,hd,hx,hy,rx,ry=>by
  rw[aR] at hx;obtain⟨ax,xsx,rfl,qx,lx⟩:=hx;cases rx;obtain⟨usx,vx,px,_⟩:=I.tuple qx
  rw[aR] at hy;subst hy;obtain⟨ty,rfl⟩:=ry
  rw[show bA (.tup gx) (.int gy)=false from by simp [bA]];exact SeqAt.RcNeAt.tuple_int gy ty px (by omega)
 | .tup gx,.str gy,x,y,u,v,hd,hx,hy,rx,ry=>by
  rw[aR] at hx;obtain⟨ax,xsx,rfl,qx,lx⟩:=hx;cases rx;obtain⟨usx,vx,px,_⟩:=I.tuple qx
  rw[aR] at hy;subst hy;obtain⟨ty,rfl⟩:=ry
  rw[show bA (.tup gx) (.str gy)=false from by simp [bA]];exact SeqAt.RcNeAt.tuple_str gy ty px (by omega)
 | .tup gx,.tup gy,x,y,u,v,hd,hx,hy,rx,ry=>by
  rw[aR] at hx;obtain⟨ax,xsx,rfl,qx,lx⟩:=hx;cases rx;obtain⟨usx,vx,px,_⟩:=I.tuple qx
  rw[aR] at hy;obtain⟨ay,xsy,rfl,qy,ly⟩:=hy;cases ry;obtain⟨usy,vy,py,_⟩:=I.tuple qy
  have e1:=vx.length
  have e2:=vy.length
  have e3:=lx.length
  have e4:=ly.length
  rw[show bA (.tup gx) (.tup gy)=eqGL gx gy from by rw[bA],← all_eAtT gx gy]
  have ex:gx.length=usx.toArray.size:=by rw[← e3,e1,List.size_toArray]
  have ey:gy.length=usy.toArray.size:=by rw[← e4,e2,List.size_toArray]
  rw[ex,ey]
  exact SeqAt.RcNeAt.tuples px py (by omega) (fun j h1 h2=>el_eqAt (n:=0) (fun g h x y u v hm ix iy tx ty=>eqAtG I 30 g h A.in1 x y u v (by have:=depGL_mem hm;rw[depG] at hd;omega) (by show A.units+1+30 < cLine;omega) ix iy tx ty) lx ly vx vy j h1 h2)
 | .tup gx,.lst gy,x,y,u,v,hd,hx,hy,rx,ry=>by
  rw[aR] at hx;obtain⟨ax,xsx,rfl,qx,lx⟩:=hx;cases rx;obtain⟨usx,vx,px,_⟩:=I.tuple qx
  rw[aR] at hy;obtain⟨ay,xsy,rfl,qy,ly⟩:=hy;cases ry;obtain⟨usy,vy,py,_⟩:=I.list qy
  rw[show bA (.tup gx) (.lst gy)=false from by simp [bA]];exact SeqAt.RcNeAt.tuple_list px py.isList (by omega)
 | .lst gx,.non,x,y,u,v,hd,hx,hy,rx,ry=>by
  rw[aR] at hx;obtain⟨ax,xsx,rfl,qx,lx⟩:=hx;cases rx;obtain⟨usx,vx,px,_⟩:=I.list qx
  rw[aR] at hy;subst hy;cases ry
  rw[show bA (.lst gx) (.non)=false from by simp [bA]];exact SeqAt.RcNeAt.list_none px.isList (by omega)
 | .lst gx,.bl gy,x,y,u,v,hd,hx,hy,rx,ry=>by
  rw[aR] at hx;obtain⟨ax,xsx,rfl,qx,lx⟩:=hx;cases rx;obtain⟨usx,vx,px,_⟩:=I.list qx
  rw[aR] at hy;subst hy;cases ry
  rw[show bA (.lst gx) (.bl gy)=false from by simp [bA]];exact SeqAt.RcNeAt.list_bool gy px.isList (by omega)
 | .lst gx,.int gy,x,y,u,v,hd,hx,hy,rx,ry=>by
  rw[aR] at hx;obtain⟨ax,xsx,rfl,qx,lx⟩:=hx;cases rx;obtain⟨usx,vx,px,_⟩:=I.list qx
  rw[aR] at hy;subst hy;obtain⟨ty,rfl⟩:=ry
  rw[show bA (.lst gx) (.int gy)=false from by simp [bA]];exact SeqAt.RcNeAt.list_int gy ty px.isList (by omega)
 | .lst gx,.str gy,x,y,u,v,hd,hx,hy,rx,ry=>by
  rw[aR] at hx;obtain⟨ax,xsx,rfl,qx,lx⟩:=hx;cases rx;obtain⟨usx,vx,px,_⟩:=I.list qx
  rw[aR] at hy;subst hy;obtain⟨ty,rfl⟩:=ry
  rw[show bA (.lst gx) (.str gy)=false from by simp [bA]];exact SeqAt.RcNeAt.list_str gy ty px.isList (by omega)
 | .lst gx,.tup gy,x,y,u,v,hd,hx,hy,rx,ry=>by
  rw[aR] at hx;obtain⟨ax,xsx,rfl,qx,lx⟩:=hx;cases rx;obtain⟨usx,vx,px,_⟩:=I.list qx
  rw[aR] at hy;obtain⟨ay,xsy,rfl,qy,ly⟩:=hy;cases ry;obtain⟨usy,vy,py,_⟩:=I.tuple qy
  rw[show bA (.lst gx) (.tup gy)=false from by simp [bA]];exact SeqAt.RcNeAt.list_tuple px.isList py (by omega)
 | .lst gx,.lst gy,x,y,u,v,hd,hx,hy,rx,ry=>by
  rw[aR] at hx;obtain⟨ax,xsx,rfl,qx,lx⟩:=hx;cases rx;obtain⟨usx,vx,px,_⟩:=I.list qx
  rw[aR] at hy;obtain⟨ay,xsy,rfl,qy,ly⟩:=hy;cases ry;obtain⟨usy,vy,py,_⟩:=I.list qy
  have e1:=vx.length
  have e2:=vy.length
  have e3:=lx.length
  have e4:=ly.length
  rw[show bA (.lst gx) (.lst gy)=eqGL gx gy from by rw[bA]]
  have ex:gx.length=usx.toArray.size:=by rw[← e3,e1,List.size_toArray]
  have ey:gy.length=usy.toArray.size:=by rw[← e4,e2,List.size_toArray]
  by_cases hl:gx.length=gy.length
  ·rw[← all_eAt gx gy hl,ex]
   exact SeqAt.RcNeAt.lists px.isList py.isList (by omega) (by omega) (fun j h1 h2=>el_eqAt (n:=0) (fun g h x y u v hm ix iy tx ty=>eqAtG I 30 g h A.in1 x y u v (by have:=depGL_mem hm;rw[depG] at hd;omega) (by show A.units+1+30 < cLine;omega) ix iy tx ty) lx ly vx vy j h1 h2)
  ·rw[eqGL_len gx gy hl]
   exact SeqAt.RcNeAt.lists_lengths px.isList py.isList (by rw[← ex,← ey];simpa using hl) (by omega)
noncomputable def rNeG (K:PySem.W.Frag):R2:=fun x y H Q=>∃ g h,depG g≤30∧aR K H g x∧aR K H h y∧Q (.bl (!bA g h)) H
theorem op_neG (hu:X.A.units+64 < cLine):OpR X (compareOp .NotEq) (rNeG X.K):=by
 intro pins s σ H x y v u Q I rx ry h
 obtain⟨g,h,hd,ix,iy,q⟩:=h
 exact rneG I (by omega) g h x y v u hd ix iy rx ry X.prog X.w X.xe _ ⟨.bl _,H,I,rfl,q⟩
theorem op_neGK {K:PySem.W.Frag} (hK:X.K=K) (hu:X.A.units+64 < cLine):OpR X (compareOp .NotEq) (rNeG K):=by subst hK;exact op_neG hu
end
section
variable {K:PySem.W.Frag}{H:Hp}
mutual
noncomputable def toG:D→G
 | .non=>.non
 | .bl b=>.bl b
 | .int i=>.int i
 | .str z=>.str z
 | .tup ds=>.tup (toGL ds)
noncomputable def toGL:List D→List G
 | []=>[]
 | d::ds=>toG d::toGL ds
end
mutual
theorem Is.g:∀ {d:D}{x:V},Is K H d x→aR K H (toG d) x
 | .non,x,h=>by rw[Is] at h;rw[toG,aR];exact h
 | .bl b,x,h=>by rw[Is] at h;rw[toG,aR];exact h
 | .int i,x,h=>by rw[Is] at h;rw[toG,aR];exact h
 | .str z,x,h=>by rw[Is] at h;rw[toG,aR];exact h
 | .tup ds,x,h=>by
  rw[Is] at h;rw[toG,aR]
  obtain⟨a,xs,e,q,l⟩:=h
  exact⟨a,xs,e,q,IsL.g l⟩
theorem IsL.g:∀ {ds:List D}{xs:List V},IsL K H ds xs→IsGL K H (toGL ds) xs
 | [],xs,h=>by rw[IsL] at h;rw[toGL,IsGL];exact h
 | d::ds,xs,h=>by
  rw[IsL] at h;rw[toGL,IsGL]
  obtain⟨x,r,e,h1,h2⟩:=h
  exact⟨x,r,e,Is.g h1,IsL.g h2⟩
end
end
end L2
namespace L2
open PySem PySem.Spec PyProof.Rows TwZ
section
variable {X:Cx}
end
end L2
namespace Tw
open PySem L2
noncomputable def b9 (l:List Nat):List V:=l.map fun (i:Nat)=>V.int (i:Int)
section
variable {P:Program}{w:World}{K:PySem.W.Frag}{mg:Str→Option Value}{base:Heap}
end
end Tw
namespace Tw
open PySem L2
section
variable {P:Program}{w:World}{K:PySem.W.Frag}{mg:Str→Option Value}{base:Heap}{C c_TipError c_NoNet c_NoVessel c_TooLong c_TooMany c_TooMuch c_Nothing c_NoText c_NoRow:Addr}
theorem sp_at {H:Hp}{net:Net}{ys:List V}{j:Nat} (l:IsL K H (net.sps.map spD) ys) (hj:j < net.sps.length):∃ a fl dr,ys[j]? = some (.ref a)∧bR K H a [.int (spAt net (j:Int)),.int fl,.bl dr]:=by
 obtain⟨v,hv,iv⟩:=l.get (i:=j) (d:=spD net.sps[j]) (by rw[List.getElem?_map,List.getElem?_eq_getElem hj];rfl)
 obtain⟨a,xs,rfl,q,lx⟩:=(show Is K H (.tup [.int net.sps[j].1,.int net.sps[j].2.1,.bl net.sps[j].2.2]) v from iv).un
 obtain⟨x1,r,rfl,h1,lx⟩:=lx.un
 obtain⟨x2,r,rfl,h2,lx⟩:=lx.un
 obtain⟨x3,r,rfl,h3,lx⟩:=lx.un
 have:=lx.un0
 subst this
 have e:spAt net (j:Int)=net.sps[j].1:=by
  unfold spAt
  rw[Int.toNat_natCast,List.getD_eq_getElem?_getD,List.getElem?_eq_getElem hj];rfl
 have e1:=h1.ui
 have e2:=h2.ui
 have e3:=h3.ub
 subst e1 e2 e3
 exact⟨a,_,_,hv,by rw[e];exact q⟩
noncomputable def spLeads (K:PySem.W.Frag):Sp:=fun vs H Q _=>∃ (x y:V) (net:Net) (v:Vs),vs=[x,y]∧Is K H (vsD v) x∧Is K H (.tup (net.sps.map spD)) y∧VOk net.vs.length net.sps.length v∧
 ∀ l H',aJ H H'→H l=none→H' l=some (.lst ((leadsN net v).map cK))→Q (.ref l) H'
theorem sc_leads_to:FnScope ["vessel","spouts","size","brim","outs","holds","spill","acts"] ["vessel","spouts"] (aK (bH 18)):=⟨rfl,rfl,rfl,by decide +kernel,rfl,by decide +kernel,by decide +kernel⟩
theorem ok_leads_to {f:Addr}{fd:FuncData} (F:Fun K "leads_to" "leads_to" (bH 18) f fd) (T:Txt mg):FnOk P w K mg base CX0 1 f fd ["vessel","spouts"] (spLeads K):=by
 refine F.ok sc_leads_to (fun vs H Q E h=>?_) (fun cdv A outer s H vs Q E hr h=>?_)
 ·obtain⟨x,y,net,v,rfl,_⟩:=h;rfl
 ·obtain⟨x,y,net,v,rfl,hx,hy,ok,k⟩:=h
  have sc:=sc_leads_to
  refine⟨_,(aE (ps_asg (pv 0) (bN (K:=K) (n:=6) rfl rfl (aH (aF (i:=2) sc.nd rfl (Or.inl rfl)) (aH (aF (i:=3) sc.nd rfl (Or.inl rfl)) (aH (aF (i:=4) sc.nd rfl (Or.inl rfl)) (aH (aF (i:=5) sc.nd rfl (Or.inl rfl)) (aH (aF (i:=6) sc.nd rfl (Or.inl rfl)) (aH (aF (i:=7) sc.nd rfl (Or.inl rfl)) bM))))))))
   (aI (aX (aU op_cat (aU op_cat (pe_lc (fun _ _ h=>h) rfl (LcOk.mk (N':=["target","parts"]) (fr:=[none,none]) rfl trivial rfl rfl rfl rfl rfl trivial) (cJ (K:=K) rfl (pv 4)) (fun _ _ _=>(bN (K:=K) (n:=2) rfl rfl (aH (aF (i:=0) (show (["target","parts"]:List Str).Nodup by decide +kernel) rfl (Or.inl rfl) (Or.inr rfl)) (aH (aF (i:=1) (show (["target","parts"]:List Str).Nodup by decide +kernel) rfl (Or.inl rfl) (Or.inr rfl)) bM)))) (fun _ _ _=>cR) (fun _ _ _=>(pv 0))) (bJ (aA (pv 6) aB))) (pe_lc (fun _ _ h=>h) rfl (LcOk.mk (N':=["word","spout","spouts"]) (fr:=[none,none,some 1]) rfl ⟨rfl,trivial⟩ rfl rfl rfl rfl rfl ⟨⟨_,rfl,rfl,rfl,rfl⟩,trivial⟩) (cJ (K:=K) rfl (pv 7)) (fun _ _ _=>(bN (K:=K) (n:=2) rfl rfl (aH (aF (i:=0) (show (["word","spout","spouts"]:List Str).Nodup by decide +kernel) rfl (Or.inl rfl) (Or.inr rfl)) (aH (aF (i:=1) (show (["word","spout","spouts"]:List Str).Nodup by decide +kernel) rfl (Or.inl rfl) (Or.inr rfl)) bM)))) (fun _ _ _=>cR) (fun _ _ _=>(aM (aG (K:=K) rfl) (aM (aG (K:=K) rfl) (pv 2) (pv 1) (fun _ _=>rfl)) aD (fun _ _=>rfl)))))))),?_⟩
  obtain⟨va,o,c,rfl,qv,ho,hc⟩:=vs_un hx
  obtain⟨oa,os,rfl,qo,lo⟩:=ho.un
  obtain⟨ca,cs,rfl,qc,lc⟩:=hc.un
  obtain⟨sa,ss,rfl,qs,ls⟩:=hy.un
  have eol:os.length=v.outs.length:=by rw[lo.length,List.length_map]
  have ecl:cs.length=v.acts.length:=by rw[lc.length,List.length_map]
  have o3:=ok.o3
  have a3:=ok.a3
  refine⟨_,rfl,va,_,rfl,qv,rfl,_,_,rfl,_,_,rfl,_,_,rfl,_,_,rfl,_,_,rfl,_,_,rfl,rfl,?_⟩
  refine⟨_,rfl,oa,rfl,⟨_,qo⟩,lc_tup (K:=K) (a:=oa) (xs:=os) (fun D i r σ' H'=>H D=none∧aJ H H'∧H' D=some (.lst r)∧r=(v.outs.take i).map (fun o=>cK o.1)∧∃ u1 u2,σ'=[u1,u2])
   (fun D i r σ' H' p=>p.2.1.tup qo) (fun D hD=>⟨hD,aJ.new hD,aC,rfl,none,none,rfl⟩) ?_ ?_⟩
  rotate_left
  ·rintro D i y r σ' H1 hy ⟨hD,sm,hDl,rfl,u1,u2,rfl⟩
   obtain⟨t,ht,ta,rfl,qt⟩:=outs_at lo hy
   refine⟨ta,_,rfl,sm.tup qt,rfl,_,_,rfl,_,_,rfl,rfl,?_⟩
   refine⟨_,rfl,hDl,aN (by rw[List.length_map,List.length_take];omega),hD,sm.put hD,aC,?_,_,_,rfl⟩
   rw[List.take_succ,ht,List.map_append];rfl
  rintro D1 r σ' H1 ⟨hD1,s1,hD1l,rfl,_⟩
  rw[eol,List.take_of_length_le (Nat.le_refl _)] at hD1l
  refine⟨_,rfl,(show 1≤sizeLine by decide),fun p2 hp2=>⟨D1,p2,_,_,rfl,rfl,aJ.new hp2 _ _ hD1l,aC,Nat.le_of_lt (aN (by rw[List.length_map];show v.outs.length+1≤1000;omega)),fun p3 hp3=>?_⟩⟩
  have s3:=(s1.trans (aJ.new (o:=HO.lst [cK v.spill]) hp2)).trans (aJ.new (o:=HO.lst (v.outs.map (fun o=>cK o.1)++[cK v.spill])) hp3)
  have g3:upd (upd H1 p2 (.lst [cK v.spill])) p3 (.lst (v.outs.map (fun o=>cK o.1)++[cK v.spill])) p3=some (.lst (v.outs.map (fun o=>cK o.1)++[cK v.spill])):=aC
  generalize upd (upd H1 p2 (.lst [cK v.spill])) p3 (.lst (v.outs.map (fun o=>cK o.1)++[cK v.spill]))=H3 at s3 g3 ⊢
  refine⟨_,rfl,ca,rfl,⟨_,s3.tup qc⟩,lc_tup (K:=K) (a:=ca) (xs:=cs) (fun D i r σ' H'=>H3 D=none∧aJ H3 H'∧H' D=some (.lst r)∧r=(v.acts.take i).map (fun a=>cK (some (spAt net a.2)))∧∃ u1 u2,σ'=[u1,u2,some (.ref sa)])
   (fun D i r σ' H' p=>p.2.1.tup (s3.tup qc)) (fun D hD=>⟨hD,aJ.new hD,aC,rfl,none,none,rfl⟩) ?_ ?_⟩
  rotate_left
  ·rintro D i y r σ' H4 hy ⟨hD,sm,hDl,rfl,u1,u2,rfl⟩
   have s4:=s3.trans sm
   obtain⟨a,ha,ta,rfl,qt⟩:=acts_at (L2.IsL.mono s4.ts _ _ lc) hy
   have aok:=ok.acts a (List.mem_of_getElem? ha)
   obtain⟨j,hj⟩:∃ j:Nat,a.2=(j:Int):=⟨a.2.toNat,by have:=aok.lo;omega⟩
   have hjl:j < net.sps.length:=by have:=aok.hi;omega
   obtain⟨pa,fl,dr,hpa,qpa⟩:=sp_at (L2.IsL.mono s4.ts _ _ ls) hjl
   refine⟨ta,_,rfl,qt,rfl,_,_,rfl,_,_,rfl,rfl,?_⟩
   refine⟨_,rfl,_,rfl,.inr (.inl ⟨sa,_,_,_,rfl,rfl,s4.tup qs,by rw[hj];exact cS hpa,.inr (.inl ⟨pa,_,0,_,rfl,rfl,qpa,rfl,hDl,aN (by rw[List.length_map,List.length_take];omega),hD,sm.put hD,aC,?_,_,_,rfl⟩)⟩)⟩
   rw[List.take_succ,ha,List.map_append,← hj];rfl
  rintro D4 r σ' H4 ⟨hD4,s4,hD4l,rfl,_⟩
  rw[ecl,List.take_of_length_le (Nat.le_refl _)] at hD4l
  refine⟨p3,D4,_,_,rfl,rfl,s4 _ _ g3,hD4l,Nat.le_of_lt (aN (by rw[List.length_append,List.length_map,List.length_map];show v.outs.length+1+v.acts.length≤1000;omega)),fun p5 hp5=>?_⟩
  refine k p5 _ ((s3.trans s4).trans (aJ.new hp5)) ((s3.trans s4).free hp5) ?_
  rw[aC]
  unfold leadsN
  rw[List.map_append,List.map_append,List.map_map,List.map_map]
  rfl
end
end Tw
namespace Tw
open PySem L2
theorem inV_tg (j:Int):∀ l:List (Option Int),inV (.int j) (l.map cK)=decide (some j∈l)
 | []=>rfl
 | none::l=>by
  show (eqV .non (.int j) || inV (.int j) (l.map cK))=_
  rw[inV_tg j l]
  show (false || decide (some j∈l))=_
  rw[Bool.false_or,decide_eq_decide];simp
 | some i::l=>by
  show (eqV (.int i) (.int j) || inV (.int j) (l.map cK))=_
  rw[inV_tg j l]
  show ((i == j) || decide (some j∈l))=_
  by_cases e:i=j
  ·subst e;simp
  ·have h1:(i == j)=false:=by simp [e]
   have h2:decide (some j∈some i::l)=decide (some j∈l):=by
    rw[decide_eq_decide]
    simp [Ne.symm e]
   rw[h1,h2,Bool.false_or]
theorem flat_tg (l:List (Option Int)):(l.map cK).all flatV=true:=by
 rw[List.all_eq_true]
 intro z hz
 obtain⟨i,_,rfl⟩:=List.mem_map.1 hz
 cases i <;> rfl
structure MatS (net:Net) (w:Nat) (S:List Nat):Prop where
 up:S.Pairwise (· < ·)
 mem:∀ x,x∈S↔x∈matN net w∨x=0
theorem mat_rises {net:Net}{w:Nat}{ms:List Int} (h:Rises ((matN net w++[0]).map fun (i:Nat)=>(i:Int)) ms):∃ S:List Nat,ms.map V.int=b9 S∧MatS net w S:=by
 have nn:∀ x∈ms,∃ i:Nat,i∈matN net w++[0]∧x=(i:Int):=fun x hx=>by
  obtain⟨i,hi,rfl⟩:=List.mem_map.1 ((h.mem x).1 hx)
  exact⟨i,hi,rfl⟩
 have mm:∀ x:Nat,x∈ms.map Int.toNat↔x∈matN net w++[0]:=fun x=>by
  constructor
  ·intro hx
   obtain⟨y,hy,rfl⟩:=List.mem_map.1 hx
   obtain⟨i,hi,rfl⟩:=nn y hy
   exact hi
  ·intro hx
   exact List.mem_map.2 ⟨(x:Int),(h.mem _).2 (List.mem_map.2 ⟨x,hx,rfl⟩),by omega⟩
 refine⟨ms.map Int.toNat,?_,?_,fun x=>?_⟩
 ·unfold b9
  rw[List.map_map]
  apply List.map_congr_left
  intro x hx
  obtain⟨i,_,rfl⟩:=nn x hx
  rfl
 ·rw[List.pairwise_map]
  refine h.up.imp_of_mem fun {a b} ha hb hab=>?_
  obtain⟨i,_,rfl⟩:=nn a ha
  obtain⟨j,_,rfl⟩:=nn b hb
  omega
 ·rw[mm x,List.mem_append,List.mem_singleton]
theorem natV_zero (f:List Nat):b9 f++[V.int 0]=((f++[0]).map fun (i:Nat)=>(i:Int)).map V.int:=by
 unfold b9
 rw[List.map_map,List.map_append]
 rfl
section
variable {P:Program}{w:World}{K:PySem.W.Frag}{mg:Str→Option Value}{base:Heap}{C c_TipError c_NoNet c_NoVessel c_TooLong c_TooMany c_TooMuch c_Nothing c_NoText c_NoRow:Addr}
noncomputable def spMatters (K:PySem.W.Frag) (cV:Addr):Sp:=fun vs H Q E=>∃ (x:V) (net:Net) (v:Int),vs=[x,.int v]∧Is K H (netD net) x∧NetOk net∧
 ((¬ (0≤v∧v < net.vs.length)∧E (.ref cV) none H)∨∃ j:Nat,v=(j:Int)∧j < net.vs.length∧∀ p S H',aJ H H'→bR K H' p (b9 S)→MatS net j S→Q (.ref p) H')
theorem sc_matters:FnScope ["net","watched","vessels","spouts","found","place","number","vessel"] ["net","watched"] (aK (bH 17)):=⟨rfl,rfl,rfl,by decide +kernel,rfl,by decide +kernel,by decide +kernel⟩
theorem ok_mattersR {f f1 f2:Addr}{fd fd1 fd2:FuncData} (F:Fun K "matters" "matters" (bH 17) f fd) (T:Txt mg) (G_need_vessel:CalleeR P w K mg base "need_vessel" ["net","number"] 2 (spNeedR K c_NoVessel) f1 fd1)
  (G_leads_to:Callee P w K mg base "leads_to" ["vessel","spouts"] 1 (spLeads K) f2 fd2):FnOk P w K mg base (CXR P w) 3 f fd ["net","watched"] (spMatters K c_NoVessel):=by
 refine F.okR sc_matters (fun vs H Q E h=>?_) (fun cdv A outer s H vs Q E hr h L=>?_)
 ·obtain⟨x,net,v,rfl,_⟩:=h;rfl
 ·obtain⟨x,net,v,rfl,hx,nok,k⟩:=h
  have sc:=sc_matters
  refine⟨_,(aE (ps_expr (pe_call G_need_vessel.ok (hr.mono (by decide)) rfl G_need_vessel.mg G_need_vessel.kp G_need_vessel.bd .nil (pass_xe L) (aA (pv 0) (aA (pv 1) aB))))
   (aE (ps_asg (pv 0) (bN (K:=K) (n:=2) rfl rfl (aH (aF (i:=2) sc.nd rfl (Or.inl rfl)) (aH (aF (i:=3) sc.nd rfl (Or.inl rfl)) bM))))
   (aE (ps_par (i:=4) (j:=5) rfl sc.nd rfl rfl (by decide) rfl rfl (aA (bJ (aA (pv 1) aB)) (aA aD aB)) rfl)
   (aE (ps_calm fun pn=>(ps_while PassesOwn.never (aS op_lt (pv 5) (aL (aW (K:=K) rfl) rfl T.b_len PySem.boot_len (aA (pv 4) aB)) (bK _)) (aE (cT PassesOwn.never rfl (pi_enumK (K:=K) rfl rfl T.b_enumerate (aA (pv 2) aB)) (bN (K:=K) (n:=2) rfl rfl (aH (aF (i:=6) sc.nd rfl (Or.inl rfl)) (aH (aF (i:=7) sc.nd rfl (Or.inl rfl)) bM))) (aI (cB (PW.pt (pw_and (aS (op_ninK (K:=K) rfl) (pv 6) (pv 4) (by rfl)) (pw_and1 (aS (op_inK (K:=K) rfl) (aM (aG (K:=K) rfl) (pv 4) (pv 5) (fun _ _=>rfl)) (d0 G_leads_to hr (aA (pv 7) (aA (pv 3) aB))) (by rfl))))) (aI (ps_expr (pe_bmK (K:=K) rfl PySem.F.plainAttrs_list PySem.F.slot_list_append PySem.F.type_list_append cX (pv 4) (aA (pv 6) aB)))) bB)))
   (aI (ps_aug (i:=5) sc.nd rfl (Or.inl rfl) aD ip_add)))))
   (aI (aX (aV (bP (K:=K) rfl) rfl T.b_tuple bG (aA (aL (call_srtK (P:=P) (w:=w) rfl rfl rfl) rfl T.b_sorted PyProof.Rows.boot_sorted (aA (aV (call_setK (P:=P) (w:=w) (K:=K) rfl rfl rfl rfl) rfl T.b_set boot_setT (aA (aU op_cat (pv 4) (bJ (aA aD aB))) aB)) aB)) aB)))))))),?_⟩
  refine⟨_,rfl,_,rfl,x,net,v,rfl,hx,?_⟩
  rcases k with ⟨hn,k⟩ | ⟨j,rfl,hj,k⟩
  ·exact .inr ⟨hn,k⟩
  refine .inl ⟨by omega,by omega,?_⟩
  have n12:=nok.hi
  obtain⟨na,nb,nc,xs,ys,rfl,qn,qv,lv,qs,ls⟩:=net_un hx
  have exl:xs.length=net.vs.length:=by rw[lv.length,List.length_map]
  refine⟨_,rfl,na,_,rfl,qn,rfl,_,_,rfl,_,_,rfl,rfl,?_⟩
  refine⟨_,rfl,(show 1≤sizeLine by decide),fun fl hfl=>⟨_,_,rfl,?_⟩⟩
  refine⟨fun m σ' H'=>∃ (p:Nat) (f:List Nat) (v6 v7:Option V),m=13 - p∧WalkAt net j p f∧aJ H H'∧H' fl=some (.lst (b9 f))∧σ'=[some (.ref na),some (.int (j:Int)),some (.ref nb),some (.ref nc),some (.ref fl),some (.int (p:Int)),v6,v7],
   ⟨13,0,[j],none,none,rfl,WalkAt.first hj,aJ.new hfl,aC,rfl⟩,?_⟩
  rintro m σ' H1 ⟨p,f,v6,v7,rfl,wa,s1,hf1,rfl⟩
  have fle:=wa.len
  have nfl:(b9 f).length=f.length:=by unfold b9;rw[List.length_map]
  refine⟨_,rfl,_,rfl,fl,_,rfl,.inl (bT.of hf1),_,_,rfl,rfl,_,rfl,ite2 (fun hT=>?_) fun hF=>?_⟩
  ·have hT:(p:Int) < ((b9 f).length:Int):=of_decide_eq_true hT
   rw[nfl] at hT
   have hp:p < f.length:=by omega
   obtain⟨y,hy⟩:∃ y,f[p]? = some y:=⟨_,List.getElem?_eq_getElem hp⟩
   refine⟨fun σ' H''=>∃ m',m' < 13 - p∧∃ (p:Nat) (f:List Nat) (v6 v7:Option V),m'=13 - p∧WalkAt net j p f∧aJ H H''∧H'' fl=some (.lst (b9 f))∧σ'=[some (.ref na),some (.int (j:Int)),some (.ref nb),some (.ref nc),some (.ref fl),some (.int (p:Int)),v6,v7],
    fun _ _ p=>p,?_⟩
   refine⟨_,rfl,true,nb,rfl,⟨_,(s1.tup qv)⟩,for_enum (K:=K) (t:=true) (a:=nb) (xs:=xs) (fun i σ' H'=>aJ H H'∧H' fl=some (.lst (b9 (cF net y f i)))∧∃ v6 v7,σ'=[some (.ref na),some (.int (j:Int)),some (.ref nb),some (.ref nc),some (.ref fl),some (.int (p:Int)),v6,v7])
    (fun i σ' H' q=>q.1.tup qv) ⟨s1,hf1,v6,v7,rfl⟩ ?_ ?_⟩
   ·rintro σ' H2 ⟨s2,hf2,v6,v7,rfl⟩
    rw[exl] at hf2
    refine⟨_,rfl,_,_,rfl,rfl,13 - (p+1),by omega,p+1,_,v6,v7,rfl,wa.go n12 hy,s2,hf2,?_⟩
    rfl
   ·rintro i x0 σ' H2 Tt hx0 ⟨s2,hf2,v6,v7,rfl⟩ hT
    have hil:i < net.vs.length:=by rw[← exl];exact (List.getElem?_eq_some_iff.mp hx0).1
    have sT:=aJ.new (o:=HO.tup [.int (i:Int),x0]) hT
    refine⟨Tt,_,rfl,bR.of aC,rfl,_,_,rfl,_,_,rfl,rfl,?_⟩
    have hf3:=sT _ _ hf2
    have s3:=s2.trans sT
    generalize upd H2 Tt (.tup [.int (i:Int),x0])=H3 at hf3 s3 ⊢
    obtain⟨gg,eg⟩:=growT_pre net y f i
    have gok:=growT_ok (net:=net) (x:=y) wa.nd wa.lt i (by omega)
    have gl:=d6 _ _ gok.1 gok.2
    have hgp:(cF net y f i)[p]? = some y:=by rw[eg,List.getElem?_append_left hp];exact hy
    have hgs:=growT_succ net y f i
    have iv:Is K H3 (vsD (vAt net i)) x0:=by
     obtain⟨z,hz,iz⟩:=(L2.IsL.mono s3.ts _ _ lv).get (i:=i) (d:=vsD net.vs[i]) (by rw[List.getElem?_map,List.getElem?_eq_getElem hil];rfl)
     rw[hx0] at hz
     cases hz
     rw[show vAt net i=net.vs[i] by unfold vAt;rw[List.getD_eq_getElem?_getD,List.getElem?_eq_getElem hil];rfl]
     exact iz
    have vok:VOk net.vs.length net.sps.length (vAt net i):=by
     rw[show vAt net i=net.vs[i] by unfold vAt;rw[List.getD_eq_getElem?_getD,List.getElem?_eq_getElem hil];rfl]
     exact nok.vs _ (List.getElem_mem hil)
    refine⟨_,rfl,_,rfl,fl,_,rfl,.inl (bT.of hf3),rfl,cN _,_,rfl,?_⟩
    rw[if_pos rfl,show inV (.int (i:Int)) (b9 (cF net y f i))=_ from inV_tip _ _]
    refine ite2 (fun h1=>?_) fun h1=>?_
    ·have h1:i∉cF net y f i:=by simpa using h1
     refine⟨_,rfl,_,rfl,.inl ⟨fl,_,_,_,rfl,rfl,bT.of hf3,cS (show (b9 (cF net y f i))[p]? = some (V.int (y:Int)) by unfold b9;rw[List.getElem?_map,hgp];rfl),_,rfl,_,rfl,x0,.ref nc,net,vAt net i,rfl,iv,Is.tupOf (s3.tup qs) (L2.IsL.mono s3.ts _ _ ls),vok,fun l H4 s4 hln hl4=>?_⟩⟩
     refine⟨l,_,rfl,.inl (bT.of hl4),rfl,flat_tg _,_,rfl,?_⟩
     rw[if_neg Bool.false_ne_true,show inV (.int (y:Int)) ((leadsN net (vAt net i)).map cK)=_ from inV_tg _ _]
     have hf4:=s4 _ _ hf3
     refine ite2 (fun h2=>?_) fun h2=>?_
     ·rw[if_pos ⟨h1,of_decide_eq_true h2⟩] at hgs
      refine⟨_,rfl,.inl ⟨rfl,_,bT.of hf4⟩,_,rfl,fl,_,_,rfl,rfl,hf4,aN (by unfold b9;rw[List.length_map];omega),(s3.trans s4).put hfl,?_,_,_,rfl⟩
      rw[aC,hgs]
      unfold b9
      rw[List.map_append];rfl
     ·rw[if_neg (fun z=>h2 (decide_eq_true z.2))] at hgs
      exact⟨s3.trans s4,by rw[hgs];exact hf4,_,_,rfl⟩
    ·rw[if_neg (fun z=>h1 (by simpa using z.1))] at hgs
     exact⟨s3,by rw[hgs];exact hf3,_,_,rfl⟩
  ·have hF:f.length≤p:=by
    rcases Nat.lt_or_ge p f.length with z | z
    ·exact absurd (decide_eq_true (show (p:Int) < ((b9 f).length:Int) by rw[nfl];omega)) hF
    ·exact z
   have ef:=wa.done hF
   subst ef
   refine⟨_,rfl,(show 1≤sizeLine by decide),fun p2 hp2=>⟨fl,p2,_,_,rfl,rfl,aJ.new hp2 _ _ hf1,aC,Nat.le_of_lt (aN (by rw[nfl];show _+1≤1000;omega)),fun p3 hp3=>?_⟩⟩
   rw[natV_zero]
   have lnz:((matN net j++[0]).map fun (i:Nat)=>(i:Int)).length=(matN net j).length+1:=by rw[List.length_map,List.length_append];rfl
   have dl:=ddL_len ((matN net j++[0]).map fun (i:Nat)=>(i:Int))
   refine⟨p3,_,rfl,bT.of aC,by omega,fun sa hsa=>⟨sa,_,rfl,aC,by omega,fun l ms hl pm pw=>⟨l,_,rfl,.inl ⟨bT.of aC,fun q hq=>?_⟩⟩⟩⟩
   obtain⟨S,e1,mS⟩:=mat_rises (rises_of pm pw)
   refine k q S _ (((((s1.trans (aJ.new hp2)).trans (aJ.new hp3)).trans (aJ.new hsa)).trans (aJ.new hl)).trans (aJ.new hq)) ?_ mS
   rw[← e1]
   exact bR.of aC
end
end Tw
namespace Tw
open PySem L2
section
variable {P:Program}{w:World}{K:PySem.W.Frag}{mg:Str→Option Value}{base:Heap}{C c_TipError c_NoNet c_NoVessel c_TooLong c_TooMany c_TooMuch c_Nothing c_NoText c_NoRow:Addr}
noncomputable def spLMat (K:PySem.W.Frag):Sp:=fun vs H Q _=>∃ (x:V) (net:Net) (j:Nat),vs=[x,.int (j:Int)]∧Is K H (netD net) x∧NetOk net∧j < net.vs.length∧
 ∀ l S H',aJ H H'→H l=none→H' l=some (.lst (b9 S))→MatS net j S→Q (.ref l) H'
theorem sc__law_matters:FnScope ["net","watched","found","at","k","size","brim","outs","holds","spill","acts","goals"] ["net","watched"] (aK (bH 30)):=⟨rfl,rfl,rfl,by decide +kernel,rfl,by decide +kernel,by decide +kernel⟩
theorem ok__law_matters {f:Addr}{fd:FuncData} (F:Fun K "_law_matters" "_law_matters" (bH 30) f fd) (T:Txt mg):FnOk P w K mg base CX0 1 f fd ["net","watched"] (spLMat K):=by
 refine F.ok sc__law_matters (fun vs H Q E h=>?_) (fun cdv A outer s H vs Q E hr h=>?_)
 ·obtain⟨x,net,j,rfl,_⟩:=h;rfl
 ·obtain⟨x,net,j,rfl,hx,nok,hj,k⟩:=h
  have sc:=sc__law_matters
  refine⟨_,(aE (aP (i:=2) sc.nd rfl (Or.inl rfl) (bJ (aA (pv 1) aB)))
   (aE (aP (i:=3) sc.nd rfl (Or.inl rfl) aD)
   (aE (ps_while PassesOwn.never (aS op_lt (pv 3) (aL (aW (K:=K) rfl) rfl T.b_len PySem.boot_len (aA (pv 2) aB)) (bK _)) (aE (cT PassesOwn.never rfl (cO rfl T.b_range (aA (aL (aW (K:=K) rfl) rfl T.b_len PySem.boot_len (aA (aM (aG (K:=K) rfl) (pv 0) aD (fun _ _=>rfl)) aB)) aB)) (aF (i:=4) sc.nd rfl (Or.inl rfl)) (aE (ps_asg (aM (aG (K:=K) rfl) (aM (aG (K:=K) rfl) (pv 0) aD (fun _ _=>rfl)) (pv 4) (fun _ _=>rfl)) (bN (K:=K) (n:=6) rfl rfl (aH (aF (i:=5) sc.nd rfl (Or.inl rfl)) (aH (aF (i:=6) sc.nd rfl (Or.inl rfl)) (aH (aF (i:=7) sc.nd rfl (Or.inl rfl)) (aH (aF (i:=8) sc.nd rfl (Or.inl rfl)) (aH (aF (i:=9) sc.nd rfl (Or.inl rfl)) (aH (aF (i:=10) sc.nd rfl (Or.inl rfl)) bM))))))))
   (aE (aP (i:=11) sc.nd rfl (Or.inl rfl) (aU op_cat (aU op_cat (pe_lc (fun _ _ h=>h) rfl (LcOk.mk (N':=["target","parts"]) (fr:=[none,none]) rfl trivial rfl rfl rfl rfl rfl trivial) (cJ (K:=K) rfl (pv 7)) (fun _ _ _=>(bN (K:=K) (n:=2) rfl rfl (aH (aF (i:=0) (show (["target","parts"]:List Str).Nodup by decide +kernel) rfl (Or.inl rfl) (Or.inr rfl)) (aH (aF (i:=1) (show (["target","parts"]:List Str).Nodup by decide +kernel) rfl (Or.inl rfl) (Or.inr rfl)) bM)))) (fun _ _ _=>cR) (fun _ _ _=>(pv 0))) (bJ (aA (pv 9) aB))) (pe_lc (fun _ _ h=>h) rfl (LcOk.mk (N':=["word","spout","net"]) (fr:=[none,none,some 0]) rfl ⟨rfl,trivial⟩ rfl rfl rfl rfl rfl ⟨⟨_,rfl,rfl,rfl,rfl⟩,trivial⟩) (cJ (K:=K) rfl (pv 10)) (fun _ _ _=>(bN (K:=K) (n:=2) rfl rfl (aH (aF (i:=0) (show (["word","spout","net"]:List Str).Nodup by decide +kernel) rfl (Or.inl rfl) (Or.inr rfl)) (aH (aF (i:=1) (show (["word","spout","net"]:List Str).Nodup by decide +kernel) rfl (Or.inl rfl) (Or.inr rfl)) bM)))) (fun _ _ _=>cR) (fun _ _ _=>(aM (aG (K:=K) rfl) (aM (aG (K:=K) rfl) (aM (aG (K:=K) rfl) (pv 2) aD (fun _ _=>rfl)) (pv 1) (fun _ _=>rfl)) aD (fun _ _=>rfl))))))
   (aI (cB (PW.pt (pw_and (aS (op_ninK (K:=K) rfl) (pv 4) (pv 2) (by rfl)) (pw_and1 (aS (op_inK (K:=K) rfl) (aM (aG (K:=K) rfl) (pv 2) (pv 3) (fun _ _=>rfl)) (pv 11) (by rfl))))) (aI (ps_expr (pe_bmK (K:=K) rfl PySem.F.plainAttrs_list PySem.F.slot_list_append PySem.F.type_list_append cX (pv 2) (aA (pv 4) aB)))) bB)))))
   (aI (aP (i:=3) sc.nd rfl (Or.inl rfl) (aU cM (pv 3) aD)))))
   (aI (aX (aL (call_srtK (P:=P) (w:=w) rfl rfl rfl) rfl T.b_sorted PyProof.Rows.boot_sorted (aA (aV (call_setK (P:=P) (w:=w) (K:=K) rfl rfl rfl rfl) rfl T.b_set boot_setT (aA (aU op_cat (pv 2) (bJ (aA aD aB))) aB)) aB))))))),?_⟩
  have n12:=nok.hi
  obtain⟨na,nb,nc,xs,ys,rfl,qn,qv,lv,qs,ls⟩:=net_un hx
  have exl:xs.length=net.vs.length:=by rw[lv.length,List.length_map]
  refine⟨_,rfl,(show 1≤sizeLine by decide),fun fl hfl=>?_⟩
  refine⟨fun m σ' H'=>∃ (p:Nat) (f:List Nat) (v4 v5 v6 v7 v8 v9 v10 v11:Option V),m=13 - p∧WalkAt net j p f∧aJ H H'∧H' fl=some (.lst (b9 f))∧σ'=[some (.ref na),some (.int (j:Int)),some (.ref fl),some (.int (p:Int)),v4,v5,v6,v7,v8,v9,v10,v11],
   ⟨13,0,[j],none,none,none,none,none,none,none,none,rfl,WalkAt.first hj,aJ.new hfl,aC,rfl⟩,?_⟩
  rintro m σ' H1 ⟨p,f,v4,v5,v6,v7,v8,v9,v10,v11,rfl,wa,s1,hf1,rfl⟩
  have fle:=wa.len
  have nfl:(b9 f).length=f.length:=by unfold b9;rw[List.length_map]
  refine⟨_,rfl,_,rfl,fl,_,rfl,.inl (bT.of hf1),_,_,rfl,rfl,_,rfl,ite2 (fun hT=>?_) fun hF=>?_⟩
  ·have hT:(p:Int) < ((b9 f).length:Int):=of_decide_eq_true hT
   rw[nfl] at hT
   have hp:p < f.length:=by omega
   obtain⟨y,hy⟩:∃ y,f[p]? = some y:=⟨_,List.getElem?_eq_getElem hp⟩
   refine⟨fun σ' H''=>∃ m',m' < 13 - p∧∃ (p:Nat) (f:List Nat) (v4 v5 v6 v7 v8 v9 v10 v11:Option V),m'=13 - p∧WalkAt net j p f∧aJ H H''∧H'' fl=some (.lst (b9 f))∧σ'=[some (.ref na),some (.int (j:Int)),some (.ref fl),some (.int (p:Int)),v4,v5,v6,v7,v8,v9,v10,v11],
    fun _ _ p=>p,?_⟩
   refine⟨_,rfl,.inr (.inl ⟨na,_,0,_,rfl,rfl,s1.tup qn,rfl,nb,xs,rfl,.inr (s1.tup qv),_,rfl,by omega,by omega,?_⟩)⟩
   rw[show ((xs.length:Nat):Int).toNat=net.vs.length by rw[exl];omega]
   refine for_range (lo:=0) (n:=net.vs.length) (fun i σ' H'=>aJ H H'∧H' fl=some (.lst (b9 (cF net y f i)))∧∃ v4 v5 v6 v7 v8 v9 v10 v11,σ'=[some (.ref na),some (.int (j:Int)),some (.ref fl),some (.int (p:Int)),v4,v5,v6,v7,v8,v9,v10,v11])
    ⟨s1,hf1,v4,v5,v6,v7,v8,v9,v10,v11,rfl⟩ ?_ ?_
   rotate_left
   ·rintro σ' H2 ⟨s2,hf2,v4,v5,v6,v7,v8,v9,v10,v11,rfl⟩
    exact⟨_,rfl,_,_,rfl,rfl,13 - (p+1),by omega,p+1,_,v4,v5,v6,v7,v8,v9,v10,v11,rfl,wa.go n12 hy,s2,hf2,rfl⟩
   ·rintro i σ' H2 hil ⟨s2,hf2,v4,v5,v6,v7,v8,v9,v10,v11,rfl⟩
    obtain⟨gg,eg⟩:=growT_pre net y f i
    have gok:=growT_ok (net:=net) (x:=y) wa.nd wa.lt i (by omega)
    have gl:=d6 _ _ gok.1 gok.2
    have hgp:(cF net y f i)[p]? = some y:=by rw[eg,List.getElem?_append_left hp];exact hy
    have hgs:=growT_succ net y f i
    have ev:vAt net i=net.vs[i]:=by unfold vAt;rw[List.getD_eq_getElem?_getD,List.getElem?_eq_getElem hil];rfl
    have vok:VOk net.vs.length net.sps.length (vAt net i):=by rw[ev];exact nok.vs _ (List.getElem_mem hil)
    obtain⟨x0,hx0,iv⟩:=(L2.IsL.mono s2.ts _ _ lv).get (i:=i) (d:=vsD (vAt net i)) (by rw[ev,List.getElem?_map,List.getElem?_eq_getElem hil];rfl)
    generalize vAt net i=v at *
    obtain⟨va,o,c,rfl,qv1,ho,hc⟩:=vs_un iv
    obtain⟨oa,os,rfl,qo,lo⟩:=ho.un
    obtain⟨ca,cs,rfl,qc,lc⟩:=hc.un
    have eol:os.length=v.outs.length:=by rw[lo.length,List.length_map]
    have ecl:cs.length=v.acts.length:=by rw[lc.length,List.length_map]
    have o3:=vok.o3
    have a3:=vok.a3
    refine⟨_,rfl,.inr (.inl ⟨na,_,0,_,rfl,rfl,s2.tup qn,rfl,_,rfl,.inr (.inl ⟨nb,xs,_,_,rfl,rfl,s2.tup qv,by rw[Int.zero_add];exact cS hx0,va,_,rfl,qv1,rfl,_,_,rfl,_,_,rfl,_,_,rfl,_,_,rfl,_,_,rfl,_,_,rfl,rfl,?_⟩)⟩)⟩
    refine⟨_,rfl,oa,rfl,⟨_,qo⟩,lc_tup (K:=K) (a:=oa) (xs:=os) (fun D i r σ' H'=>H2 D=none∧aJ H2 H'∧H' D=some (.lst r)∧r=(v.outs.take i).map (fun o=>cK o.1)∧∃ u1 u2,σ'=[u1,u2])
     (fun D i r σ' H' p=>p.2.1.tup qo) (fun D hD=>⟨hD,aJ.new hD,aC,rfl,none,none,rfl⟩) ?_ ?_⟩
    rotate_left
    ·rintro D i y r σ' H1 hy ⟨hD,sm,hDl,rfl,u1,u2,rfl⟩
     obtain⟨t,ht,ta,rfl,qt⟩:=outs_at lo hy
     refine⟨ta,_,rfl,sm.tup qt,rfl,_,_,rfl,_,_,rfl,rfl,?_⟩
     refine⟨_,rfl,hDl,aN (by rw[List.length_map,List.length_take];omega),hD,sm.put hD,aC,?_,_,_,rfl⟩
     rw[List.take_succ,ht,List.map_append];rfl
    rintro D1 r σ' H3 ⟨hD1,s3',hD1l,rfl,_⟩
    rw[eol,List.take_of_length_le (Nat.le_refl _)] at hD1l
    refine⟨_,rfl,(show 1≤sizeLine by decide),fun p2 hp2=>⟨D1,p2,_,_,rfl,rfl,aJ.new hp2 _ _ hD1l,aC,Nat.le_of_lt (aN (by rw[List.length_map];show v.outs.length+1≤1000;omega)),fun p3 hp3=>?_⟩⟩
    have s4:=(s3'.trans (aJ.new (o:=HO.lst [cK v.spill]) hp2)).trans (aJ.new (o:=HO.lst (v.outs.map (fun o=>cK o.1)++[cK v.spill])) hp3)
    have g4:upd (upd H3 p2 (.lst [cK v.spill])) p3 (.lst (v.outs.map (fun o=>cK o.1)++[cK v.spill])) p3=some (.lst (v.outs.map (fun o=>cK o.1)++[cK v.spill])):=aC
    generalize upd (upd H3 p2 (.lst [cK v.spill])) p3 (.lst (v.outs.map (fun o=>cK o.1)++[cK v.spill]))=H4 at s4 g4 ⊢
    refine⟨_,rfl,ca,rfl,⟨_,s4.tup qc⟩,lc_tup (K:=K) (a:=ca) (xs:=cs) (fun D i r σ' H'=>H4 D=none∧aJ H4 H'∧H' D=some (.lst r)∧r=(v.acts.take i).map (fun a=>cK (some (spAt net a.2)))∧∃ u1 u2,σ'=[u1,u2,some (.ref na)])
     (fun D i r σ' H' p=>p.2.1.tup (s4.tup qc)) (fun D hD=>⟨hD,aJ.new hD,aC,rfl,none,none,rfl⟩) ?_ ?_⟩
    rotate_left
    ·rintro D i y r σ' H5 hy ⟨hD,sm,hDl,rfl,u1,u2,rfl⟩
     have s5:=s4.trans sm
     have s05:=s2.trans s5
     obtain⟨a,ha,ta,rfl,qt⟩:=acts_at (L2.IsL.mono s5.ts _ _ lc) hy
     have aok:=vok.acts a (List.mem_of_getElem? ha)
     obtain⟨q,hq⟩:∃ q:Nat,a.2=(q:Int):=⟨a.2.toNat,by have:=aok.lo;omega⟩
     have hql:q < net.sps.length:=by have:=aok.hi;omega
     obtain⟨pa,fl',dr,hpa,qpa⟩:=sp_at (L2.IsL.mono s05.ts _ _ ls) hql
     refine⟨ta,_,rfl,qt,rfl,_,_,rfl,_,_,rfl,rfl,?_⟩
     refine⟨_,rfl,.inr (.inl ⟨na,_,1,_,rfl,rfl,s05.tup qn,rfl,_,rfl,.inr (.inl ⟨nc,_,_,_,rfl,rfl,s05.tup qs,by rw[hq];exact cS hpa,.inr (.inl ⟨pa,_,0,_,rfl,rfl,qpa,rfl,hDl,aN (by rw[List.length_map,List.length_take];omega),hD,sm.put hD,aC,?_,_,_,rfl⟩)⟩)⟩)⟩
     rw[List.take_succ,ha,List.map_append,← hq];rfl
    rintro D4 r σ' H5 ⟨hD4,s5,hD4l,rfl,_⟩
    rw[ecl,List.take_of_length_le (Nat.le_refl _)] at hD4l
    refine⟨p3,D4,_,_,rfl,rfl,s5 _ _ g4,hD4l,Nat.le_of_lt (aN (by rw[List.length_append,List.length_map,List.length_map];show v.outs.length+1+v.acts.length≤1000;omega)),fun p5 hp5=>?_⟩
    have s6:=((s2.trans s4).trans s5).trans (aJ.new (o:=HO.lst (v.outs.map (fun o=>cK o.1)++[cK v.spill]++v.acts.map (fun a=>cK (some (spAt net a.2))))) hp5)
    have hf6:=((s4.trans s5).trans (aJ.new (o:=HO.lst (v.outs.map (fun o=>cK o.1)++[cK v.spill]++v.acts.map (fun a=>cK (some (spAt net a.2))))) hp5)) _ _ hf2
    have g6:upd H5 p5 (.lst (v.outs.map (fun o=>cK o.1)++[cK v.spill]++v.acts.map (fun a=>cK (some (spAt net a.2))))) p5=some (.lst ((leadsN net v).map cK)):=by
     rw[aC]
     unfold leadsN
     rw[List.map_append,List.map_append,List.map_map,List.map_map]
     rfl
    generalize upd H5 p5 (.lst (v.outs.map (fun o=>cK o.1)++[cK v.spill]++v.acts.map (fun a=>cK (some (spAt net a.2)))))=H6 at s6 hf6 g6 ⊢
    refine⟨_,rfl,_,rfl,fl,_,rfl,.inl (bT.of hf6),rfl,cN _,_,rfl,?_⟩
    rw[if_pos rfl,show inV (.int (0+(i:Int))) (b9 (cF net y f i))=decide (i∈cF net y f i) from by rw[Int.zero_add];exact inV_tip _ _]
    refine ite2 (fun h1=>?_) fun h1=>?_
    ·have h1:i∉cF net y f i:=by simpa using h1
     refine⟨_,rfl,_,rfl,.inl ⟨fl,_,_,_,rfl,rfl,bT.of hf6,cS (show (b9 (cF net y f i))[p]? = some (V.int (y:Int)) by unfold b9;rw[List.getElem?_map,hgp];rfl),_,rfl,p5,_,rfl,.inl (bT.of g6),rfl,flat_tg _,_,rfl,?_⟩⟩
     rw[if_neg Bool.false_ne_true,show inV (.int (y:Int)) ((leadsN net v).map cK)=_ from inV_tg _ _]
     refine ite2 (fun h2=>?_) fun h2=>?_
     ·rw[if_pos ⟨h1,of_decide_eq_true h2⟩] at hgs
      refine⟨_,rfl,.inl ⟨rfl,_,bT.of hf6⟩,_,rfl,fl,_,_,rfl,rfl,hf6,aN (by unfold b9;rw[List.length_map];omega),s6.put hfl,?_,_,_,_,_,_,_,_,_,rfl⟩
      rw[aC,hgs,Int.zero_add]
      unfold b9
      rw[List.map_append];rfl
     ·rw[if_neg (fun z=>h2 (decide_eq_true z.2))] at hgs
      exact⟨s6,by rw[hgs];exact hf6,_,_,_,_,_,_,_,_,rfl⟩
    ·rw[if_neg (fun z=>h1 (by simpa using z.1))] at hgs
     exact⟨s6,by rw[hgs];exact hf6,_,_,_,_,_,_,_,_,rfl⟩
  ·have hF:f.length≤p:=by
    rcases Nat.lt_or_ge p f.length with z | z
    ·exact absurd (decide_eq_true (show (p:Int) < ((b9 f).length:Int) by rw[nfl];omega)) hF
    ·exact z
   have ef:=wa.done hF
   subst ef
   refine⟨_,rfl,(show 1≤sizeLine by decide),fun p2 hp2=>⟨fl,p2,_,_,rfl,rfl,aJ.new hp2 _ _ hf1,aC,Nat.le_of_lt (aN (by rw[nfl];show _+1≤1000;omega)),fun p3 hp3=>?_⟩⟩
   rw[natV_zero]
   have lnz:((matN net j++[0]).map fun (i:Nat)=>(i:Int)).length=(matN net j).length+1:=by rw[List.length_map,List.length_append];rfl
   have dl:=ddL_len ((matN net j++[0]).map fun (i:Nat)=>(i:Int))
   refine⟨p3,_,rfl,bT.of aC,by omega,fun sa hsa=>⟨sa,_,rfl,aC,by omega,fun l ms hl pm pw=>?_⟩⟩
   obtain⟨S,e1,mS⟩:=mat_rises (rises_of pm pw)
   have s2:=((s1.trans (aJ.new (o:=HO.lst [V.int 0]) hp2)).trans (aJ.new hp3)).trans (aJ.new (o:=setO P w sa (ddL ((matN net j++[0]).map fun (i:Nat)=>(i:Int)))) hsa)
   refine k l S _ (s2.trans (aJ.new hl)) (s2.free hl) ?_ mS
   rw[aC,e1]
end
end Tw
namespace L2
open PySem PySem.Spec PyProof.Rows TwZ
noncomputable def Itd (a:Addr) (o:Obj) (kvs:List (Key×V)):It where
 go:=fun i H=>H a=some (.frz o (.dK kvs))∧i < kvs.length
 yld:=fun i H x H'=>H=H'∧∃ k v,kvs[i]? = some (k,v)∧x=kV k
 stop:=fun i H=>H a=some (.frz o (.dK kvs))∧kvs.length≤i
theorem rel_key {k:Key}{u:Value}{P:Program}{w:World} (h:(bU P w).is k u=true):aY (kV k) u:=by
 rcases bL h with ⟨i,t,rfl,rfl⟩ | ⟨x,t,rfl,rfl⟩ | ⟨rfl,rfl⟩
 ·exact⟨t,rfl⟩
 ·exact⟨t,rfl⟩
 ·exact rfl
theorem dictAt_of {P:Program}{w:World}{H:Hp}{h:Heap}{a:Addr}{o:Obj}{kvs:List (Key×V)}{es:Array DictEntry}{ep:Nat} (ok:HOk P w H h) (e:H a=some (.frz o (.dK kvs))) (hd:o.data=.dict es ep) :
  ∃ vs,KV kvs vs∧h.DictAt (bU P w) a vs ep:=by
 obtain⟨g,_,_,vs,rel,o',es',ep',h1,h2,h3,h4,h5,h6⟩:=(show bQ P w H h a (.frz o (.dK kvs)) from ok a _ e)
 rw[g] at h1
 cases h1
 rw[hd] at h3
 cases h3
 exact⟨vs,rel,o,es,g,h2,hd,h4,h5,h6⟩
theorem KV.len {kvs:List (Key×V)}{vs:List (Key×Value)} (r:KV kvs vs):kvs.length=vs.length:=Paired.length r
theorem KV.at {kvs:List (Key×V)}{vs:List (Key×Value)} (r:KV kvs vs):∀ {i:Nat}{k:Key}{v:V},kvs[i]? = some (k,v)→∃ u,vs[i]? = some (k,u):=by
 induction r with
 | nil=>intro i k v h;simp at h
 | @cons p q ps qs hq t ih=>
  intro i k v h
  cases i with
  | zero=>
   have:p=(k,v):=by simpa using h
   subst this
   exact⟨q.2,by rw[List.getElem?_cons_zero];exact congrArg some (Prod.ext hq.1.symm rfl)⟩
  | succ i=>exact ih (by simpa using h)
theorem turn_dict {P:Program}{w:World}{K:PySem.W.Frag}{tg:Expr} (a it:Addr) (o:Obj) (kvs:List (Key×V)) {es:Array DictEntry}{ep:Nat} (hd:o.data=.dict es ep):Turn P w K tg (Itd a o kvs) [it] it (fun i h=>h.IsKeyIter it a i kvs.length ep) where
 mem:=by simp
 obj:=fun i h st b hb=>by
  have e:b=it:=by simpa using hb
  subst e
  obtain⟨o,e,c,d⟩:=st
  exact⟨o,e,fun v z=>by rw[d] at z;cases z⟩
 keep:=fun i h h' st k=>st.at fun o e=>k it (by simp) o e
 item:=by
  intro X hP hw hK hc i pins s σ H E I hf st hg
  subst hP hw hK
  obtain⟨e,hi⟩:=hg
  obtain⟨vs,rel,da⟩:=dictAt_of I.hok e hd
  have hl:=rel.len
  have hki:kvs[i]? = some (kvs[i].1,kvs[i].2):=by simp [hi]
  obtain⟨u,hu⟩:=rel.at hki
  obtain⟨f0,f1,f2,f3,f4,f5⟩:=hf it (by simp)
  rw[hl] at st
  refine wpAny_pyNext_dict_item st da hu fun key h' hk st' sb=>?_
  have I1:Inv X pins σ H { s with heap:=h' }:=I.turned (t':=s.toks) (fun b o hb e=>(sb.2 b hb).trans e) f0 f1 f3 f4 f5
  obtain⟨o,e,c,d⟩:=id st'
  rw[← hl] at st'
  exact⟨key,rfl,go_of (s:={ s with heap:=h' }) e c d (by decide) ⟨_,H,I1,rel_key hk,⟨rfl,_,_,hki,rfl⟩,st',fun b hb=>(hf b hb).1⟩⟩
 done:=by
  intro X hP hw hK hc i pins s σ H E I hf st hg
  subst hP hw hK
  obtain⟨e,hi⟩:=hg
  obtain⟨vs,rel,da⟩:=dictAt_of I.hok e hd
  have hl:=rel.len
  obtain⟨f0,f1,f2,f3,f4,f5⟩:=hf it (by simp)
  rw[hl] at st
  exact wpAny_pyNext_dict_end (I.ok.hd hc) st da (by simp;omega) fun h' eb=>⟨rfl,I.turned (t':=s.toks) (fun b o hb e=>eb b o hb e) f0 f1 f3 f4 f5⟩
 self:=fun _ _ _ _ _ st h=>wpAny_pyIter_keyiter st h
section
variable {X:Cx}{tg:Expr}
noncomputable def iDict (tl:TE):TI:=fun σ H R=>tl σ H fun x H1=>∃ a kvs,x=.ref a∧H1 a=some (.dK kvs)∧∀ o,R (Itd a o kvs) (upd H1 a (.frz o (.dK kvs)))
theorem pi_dict {l:Expr}{tl:TE} (hl:PE X l tl):PI X tg l (iDict tl):=by
 intro pins s σ H R I h
 refine bZ (hl pins s σ H _ I h) fun v s1 ⟨x,H1,I1,r1,q1⟩=>?_
 obtain⟨a,kvs,e,ha,q⟩:=q1
 subst e
 cases r1
 obtain⟨z,hs,vs,rel,o,es,ep,g1,g2,g3,g4,g5,g6⟩:=dk_of I1.hok ha
 have I2:Inv X pins σ (upd H1 a (.frz o (.dK kvs))) { s1 with heap:=s1.heap,toks:=s1.toks }:=
  d_write I1 (by rw[ha];exact True.intro) (Heap.SameBut.refl _ _) ⟨o,g1⟩ ⟨g1,z,hs,vs,rel,o,es,ep,g1,g2,g3,g4,g5,g6⟩
 have hl:=rel.len
 refine wpAny_pyIter_dict (knd:=bU X.prog X.w) (kvs:=vs) (ep:=ep) hs ⟨o,es,g1,g2,g3,g4,g5,g6⟩ ?_
 refine⟨s1.heap.objs.size,[s1.heap.objs.size],_,_,_,rfl,I2.kept (t':=s1.toks) fun b o e=>Heap.get?_push_of_some _ e,turn_dict a _ o kvs g3,⟨_,Heap.get?_push_size _ rfl,rfl,by rw[hl];rfl⟩,fun b hb=>?_,q o⟩
 have e:b=s1.heap.objs.size:=by simpa using hb
 subst e
 exact I2.fpOk (Nat.le_refl _) (I2.hok.fresh (Nat.le_refl _))
end
theorem for_dict {a:Addr}{o:Obj}{kvs:List (Key×V)}{g:TG}{tb:TS}{D:Ends}{σ:St}{H:Hp} (Pv:Nat→St→Hp→Prop) (hq:∀ i σ H,Pv i σ H→H a=some (.frz o (.dK kvs)))
  (h0:Pv 0 σ H) (hstop:∀ σ H,Pv kvs.length σ H→D.nx σ H)
  (hgo:∀ i k v σ H,kvs[i]? = some (k,v)→Pv i σ H→g (kV k) σ H fun σ2 H2=>tb { D with nx:=Pv (i+1),ct:=Pv (i+1),bk:=D.nx } σ2 H2) :
  ∃ W:Nat→Nat→St→Hp→Prop,(∃ m,W 0 m σ H)∧∀ i m σ H,W i m σ H→
   ((Itd a o kvs).stop i H∧D.nx σ H)∨((Itd a o kvs).go i H∧∃ N:St→Hp→Prop,(∀ σ' H',N σ' H'→∃ m',m' < m∧W (i+1) m' σ' H')∧∀ x H',(Itd a o kvs).yld i H x H'→g x σ H' fun σ2 H2=>tb { D with nx:=N,ct:=N,bk:=D.nx } σ2 H2):=by
 refine for_gen (n:=kvs.length) Pv h0 (fun σ H p=>⟨⟨hq _ σ H p,Nat.le_refl _⟩,hstop σ H p⟩) fun i σ H hi p=>⟨⟨hq _ σ H p,hi⟩,?_⟩
 rintro x H' ⟨rfl,k,v,e,rfl⟩
 exact hgo i k v σ H e p
theorem lc_dict {a:Addr}{o:Obj}{kvs:List (Key×V)}{g:TG}{tc:TT}{te:TE}{fr:List (Option Nat)}{σ:St}{H1:Hp}{Q:Addr→Hp→Prop} (Pv:Addr→Nat→List V→St→Hp→Prop) (hq:∀ D i ys σ H,Pv D i ys σ H→H a=some (.frz o (.dK kvs)))
  (h0:∀ D,H1 D=none→Pv D 0 [] (frσ fr σ) (upd H1 D (.lst []))) (hstop:∀ D ys σ' H',Pv D kvs.length ys σ' H'→Q D H')
  (hgo:∀ D i k v ys σ' H',kvs[i]? = some (k,v)→Pv D i ys σ' H'→g (kV k) σ' H' fun σ3 H3=>tc σ3 H3 fun b H4=>
    if b=true then te σ3 H4 fun y H5=>H5 D=some (.lst ys)∧ys.length < sizeLine∧Pv D (i+1) (ys++[y]) σ3 (upd H5 D (.lst (ys++[y])))
    else Pv D (i+1) ys σ3 H4):lcRest (Itd a o kvs) g tc te fr σ H1 Q:=by
 refine lc_gen (n:=kvs.length) Pv h0 (fun D ys σ' H' p=>⟨⟨hq D _ ys σ' H' p,Nat.le_refl _⟩,hstop D ys σ' H' p⟩) fun D i ys σ' H' hi p=>⟨⟨hq D _ ys σ' H' p,hi⟩,?_⟩
 rintro x H2 ⟨rfl,k,v,e,rfl⟩
 exact hgo D i k v ys σ' H' e p
noncomputable def dcRest (J:It) (g:TG) (tc:TT) (tk tv:TE) (fr:List (Option Nat)) (σ:St) (H1:Hp) (Q:Addr→Hp→Prop):Prop:=
 ∀ D,H1 D=none→∃ W:Nat→Nat→St→Hp→Prop,(∃ m,W 0 m (frσ fr σ) (upd H1 D (.dK [])))∧
  ∀ i m σ' H',W i m σ' H'→(J.stop i H'∧Q D H')∨
   (J.go i H'∧∃ N:St→Hp→Prop,(∀ σ'' H'',N σ'' H''→∃ m',m' < m∧W (i+1) m' σ'' H'')∧
    ∀ x H2,J.yld i H' x H2→g x σ' H2 fun σ3 H3=>tc σ3 H3 fun b H4=>
    if b=true then tk σ3 H4 fun y H5=>tv σ3 H5 fun z H6=>∃ kvs k,y=kV k∧H6 D=some (.dK kvs)∧kvs.length < sizeLine∧N σ3 (upd H6 D (.dK (putK kvs k z)))
    else N σ3 H4)
theorem dc_gen {J:It}{n:Nat}{g:TG}{tc:TT}{tk tv:TE}{fr:List (Option Nat)}{σ:St}{H1:Hp}{Q:Addr→Hp→Prop} (Pv:Addr→Nat→St→Hp→Prop)
  (h0:∀ D,H1 D=none→Pv D 0 (frσ fr σ) (upd H1 D (.dK [])))
  (hstop:∀ D σ' H',Pv D n σ' H'→J.stop n H'∧Q D H')
  (hgo:∀ D i σ' H',i < n→Pv D i σ' H'→J.go i H'∧∀ x H2,J.yld i H' x H2→g x σ' H2 fun σ3 H3=>tc σ3 H3 fun b H4=>
    if b=true then tk σ3 H4 fun y H5=>tv σ3 H5 fun z H6=>∃ kvs k,y=kV k∧H6 D=some (.dK kvs)∧kvs.length < sizeLine∧Pv D (i+1) σ3 (upd H6 D (.dK (putK kvs k z)))
    else Pv D (i+1) σ3 H4):dcRest J g tc tk tv fr σ H1 Q:=by
 intro D hD
 refine⟨fun i m σ H=>m=n - i∧i≤n∧Pv D i σ H,⟨n,by simp,Nat.zero_le _,h0 D hD⟩,?_⟩
 rintro i m σ' H' ⟨rfl,hi,p⟩
 by_cases hlt:i < n
 ·obtain⟨go,step⟩:=hgo D i σ' H' hlt p
  exact .inr ⟨go,Pv D (i+1),fun σ'' H'' p'=>⟨n - (i+1),by omega,rfl,hlt,p'⟩,step⟩
 ·have e:i=n:=by omega
  subst e
  exact .inl (hstop D σ' H' p)
noncomputable def tDC (wi:TI) (fr:List (Option Nat)) (g:TG) (tc:TT) (tk tv:TE):TE:=fun σ H Q=>wi σ H fun J H1=>dcRest J g tc tk tv fr σ H1 fun D H'=>Q (.ref D) H'
section
variable {prog:Program}{w:World}{A:Around}{R:Result→Shared→Prop}{s:Shared}
theorem compLoop_anyD {kx vx target iter:Expr}{ifs:List Expr}{scope:Scope}{pos:Pos}{it:Value}{D:Addr}{env:Env} (I:Nat→Shared→Prop)
  (turn:∀ n s,I n s→wpAny (model prog w) A (pyNext it) (fun r s₁=>match r with
   | none=>R (.ok .next) s₁
   | some v=>wpAny (model prog w) A (letOwnedTupleGo target it v) (fun _ s₁'=>wpAny (model prog w) A (assign target env v) (fun _ s₂=>
     wpAny (model prog w) A (forIn ifs true fun c r=>if r=true then do let ok ← isTrue c env (eval c env);pure (ForInStep.yield ok) else pure (ForInStep.yield r)) (fun ok s₃=>
      if ok=true then wpAny (model prog w) A (eval kx env) (fun kv s₄=>wpAny (model prog w) A (eval vx env) (fun vv s₅=>
       wpAny (model prog w) A (dictSet D kv vv) (fun _ s₆=>∃ m,m < n∧I m s₆) (notedBy (model prog w) A env fun e s'=>R (.error e) s') s₅) (notedBy (model prog w) A env fun e s'=>R (.error e) s') s₄) (notedBy (model prog w) A env fun e s'=>R (.error e) s') s₃
      else ∃ m,m < n∧I m s₃) (notedBy (model prog w) A env fun e s'=>R (.error e) s') s₂) (notedBy (model prog w) A env fun e s'=>R (.error e) s') s₁') (notedBy (model prog w) A env fun e s'=>R (.error e) s') s₁)
    (notedBy (model prog w) A env fun e s'=>R (.error e) s') s)
  (n:Nat) (h:I n s) :
  codeAny (model prog w) A (.compLoop (.DictComp kx vx [⟨target,iter,ifs,0⟩] scope pos) 0 it (.ref D) env) R s:=by
 refine codeAny_loop rfl I (fun n s hI=>?_) n h
 show wpAny _ A ((compTurn (.DictComp kx vx [⟨target,iter,ifs,0⟩] scope pos) 0 it (.ref D) env).onRaise (fun x=>do noteFrame x env;theTreesLotGoes x)) _ _ s
 refine wpAny_noted ?_
 rw[compTurn_dict]
 refine wpAny_bind (wpAny_standAt (wpAny_bind (wpAny_mono (turn n s hI) (fun r s₁ h₁=>?_) fun _ _ h'=>h')))
 cases r with
 | none=>exact wpAny_pure h₁
 | some v=>
  refine wpAny_bind (wpAny_mono h₁ (fun _ s₁' h₁'=>?_) fun _ _ h'=>h')
  refine wpAny_bind (wpAny_mono h₁' (fun _ s₂ h₂=>wpAny_bind (wpAny_mono h₂ (fun ok s₃ h₃=>?_) fun _ _ h'=>h')) fun _ _ h'=>h')
  cases ok with
  | false=>exact wpAny_pure ⟨rfl,h₃⟩
  | true=>
   exact wpAny_bind (wpAny_bind (wpAny_mono h₃ (fun kv s₄ h₄=>wpAny_bind (wpAny_holding (wpAny_mono h₄ (fun vv s₅ h₅=>wpAny_bind (wpAny_standAt (wpAny_holding (wpAny_mono h₅ (fun _ s₆ h₆=>wpAny_pure ⟨rfl,h₆⟩) fun _ _ h'=>h')))) fun _ _ h'=>h'))) fun _ _ h'=>h'))
end
section
variable {X:Cx}{pins:List (Addr×Obj)}{σ:St}{H:Hp}{s:Shared}{a:Addr}{v:V}{u r:Value}{A:Around}{E:Value→Shared→Prop}{kvs:List (Key×V)}{k:Key}
theorem d_dictSet {Q:Unit→Shared→Prop} (I:Inv X pins σ H s) (e:H a=some (.dK kvs)) (l:kvs.length < sizeLine) (ry:aY (kV k) u) (rv:aY v r) (h:∀ s',Inv X pins σ (upd H a (.dK (putK kvs k v))) s'→Q () s') :
  wpAny (model X.prog X.w) A (dictSet a u r) Q E s:=by
 obtain⟨z,hd,vs,rel,dd⟩:=dk_of I.hok e
 have hz:vs.length≤sizeLine:=by rw[← rel.length];exact z
 have hl:(putK kvs k v).length≤sizeLine:=by have:=length_putK kvs k v;omega
 refine wpAny_dictSet_pairs (hsz:=hz) (kV_is ry) dd fun h' dd' hs=>h _ ?_
 have he:∃ q,h'.get? a=some q:=let ⟨q,_,_,hq,_⟩:=dd';⟨q,hq⟩
 exact d_write I (by rw[e];exact True.intro) hs he (dk_new hl hd (rel.put k rv) dd')
end
section
variable {X:Cx}
theorem dc_block {kx vx tg iter:Expr}{ifs:List Expr}{scope:Scope}{pos:Pos}{N':List Str}{fr:List (Option Nat)}{cl:List (Str×Addr)}{g:TG}{tc:TT}{tk tv:TE}
  {pins:List (Addr×Obj)}{σ:St}{H:Hp}{s:Shared}{J:It}{fp:List Addr}{it:Addr}{tn:Nat→Heap→Prop}{Q:Addr→Hp→Prop}{RR:Value→Addr→Result→Shared→Prop}{E:Value→Shared→Prop}
  (hx:∀ e s,¬ X.xe e s) (hc:X.calm=true) (S:LcOk X scope cl N' fr)
  (hg:∀ fp s H,PG (cxC X N' scope cl fp s H) tg g) (ht:∀ fp s H,PIf (cxC X N' scope cl fp s H) ifs tc) (hk:∀ fp s H,PE (cxC X N' scope cl fp s H) kx tk) (hv:∀ fp s H,PE (cxC X N' scope cl fp s H) vx tv)
  (I:Inv X pins σ H s) (T:Turn X.prog X.w X.K tg J fp it tn) (st:tn 0 s.heap) (hf:∀ b∈fp,FpOk X pins H b) (h:dcRest J g tc tk tv fr σ H Q)
  (hRR:∀ D C H' s' m',Inv X pins σ H' s'→Q D H'→s'.heap.Ns C m'→FpOk X pins H' C→RR (.ref D) C (.ok .next) s') :
  wpAny (model X.prog X.w) X.A newDict (fun acc s₃=>wpAny (model X.prog X.w) X.A (newFunctionEnv scope X.env.globals cl [] X.env.qual none .none (some X.env)) (fun cenv s₄=>
   codeAny (model X.prog X.w) X.A (.compStart (.DictComp kx vx [⟨tg,iter,ifs,0⟩] scope pos) 0 (.ref it) acc { cenv with scope:=relabel scope X.env }) (RR acc cenv.locals) s₄) E s₃) E s:=by
 have hcell:=S.nocell
 rw[List.all_eq_true] at hcell
 refine wpAny_newObj_type (wpAny_newFunctionEnv (fun x hx'=>by simpa using hcell x hx') (by intro y hy;simp at hy) (fun h₁ hns₁ hsb₁=>?_) S.kind)
 dsimp only at hns₁ hsb₁ ⊢
 have fresh:H s.heap.objs.size=none:=I.hok.fresh (Nat.le_refl _)
 have I3:Inv X pins σ (upd H s.heap.objs.size (.dK [])) { s with heap:=s.heap.push { cls:=.type "dict",data:=.dict #[] },toks:=s.toks }:=
  I.laid (a:=s.heap.objs.size) (o:=.dK []) (t':=s.toks) (fun _ _ q=>Heap.get?_push_of_some _ q) (Nat.le_refl _) (dk_empty s.heap I.big)
 have hf3:∀ b∈fp,FpOk X pins (upd H s.heap.objs.size (.dK [])) b:=fun b hb=>by
  obtain⟨o,ho,_⟩:=T.obj _ _ st b hb
  exact⟨by rw[aO (Nat.ne_of_lt (Heap.lt_size ho))];exact (hf b hb).1,(hf b hb).2⟩
 generalize hs3:({ s with heap:=s.heap.push { cls:=.type "dict",data:=.dict #[] },toks:=s.toks }:Shared)=s3 at I3
 have e3:s3.heap=s.heap.push { cls:=.type "dict",dict:=none,data:=.dict #[] }:=by rw[← hs3]
 have e3s:({ s with heap:=s.heap.push { cls:=.type "dict",dict:=none,data:=.dict #[] } }:Shared)=s3:=hs3
 have hsz3:s3.heap.objs.size=s.heap.objs.size+1:=by rw[e3,Heap.size_push]
 have hfo:∀ b∈fp,b < s3.heap.objs.size:=fun b hb=>by
  obtain⟨o,ho,_⟩:=T.obj _ _ st b hb
  rw[hsz3]
  exact Nat.lt_succ_of_lt (Heap.lt_size ho)
 rw[← e3] at hns₁ hsb₁ ⊢
 have old3:∀ b o,s3.heap.get? b=some o→h₁.get? b=some o:=fun b o e=>hsb₁.extBut b o (Nat.ne_of_lt (Heap.lt_size e)) (Heap.get?_push_of_some _ e)
 have old:∀ b o,s.heap.get? b=some o→s3.heap.get? b=some o:=fun b o e=>by rw[e3];exact Heap.get?_push_of_some _ e
 have I4:=S.invC (tk:=s3.toks) I3 hf3 hfo old3 hns₁
 obtain⟨W,⟨m0,w0⟩,turn⟩:=h s.heap.objs.size fresh
 have stat:∀ {H':Hp},(∀ b∈fp,H' b=none)→∀ b∈fp,FpOk (cxC X N' scope cl fp s3 (upd H s.heap.objs.size (.dK []))) [] H' b:=fun hn b hb=>by
  refine⟨hn b hb,Nat.ne_of_lt (hfo b hb),?_,.inl hb,fun x c e=>(hf b hb).2.2.2.2.1 x c (S.cls.get x c e),fun p hp=>absurd (show p∈([]:List (Addr×Obj)) from hp) (by simp)⟩
  intro hz
  obtain⟨_,f1,f2,_⟩:=hf b hb
  rcases List.mem_cons.mp (I.stkSub b hz) with e | e
  ·exact f1 e
  ·exact f2 e
 have loop:∀ s4:Shared,s4={ s3 with heap:=h₁,toks:=s3.toks }→
   codeAny (model X.prog X.w) X.A (.compLoop (.DictComp kx vx [⟨tg,iter,ifs,0⟩] scope pos) 0 (.ref it) (.ref s.heap.objs.size) (compEnvC scope cl s3.heap.objs.size X.env)) (RR (.ref s.heap.objs.size) s3.heap.objs.size) s4:=by
  intro s4 hs4
  refine compLoop_anyD (fun n s'=>∃ i σ' H',Inv (cxC X N' scope cl fp s3 (upd H s.heap.objs.size (.dK []))) [] σ' H' s'∧tn i s'.heap∧(∀ b∈fp,H' b=none)∧W i n σ' H') ?_ m0
   ⟨0,frσ fr σ,_,by rw[hs4];exact I4,by rw[hs4];exact T.keep _ _ _ st fun b _ o e=>old3 b o (old b o e),fun b hb=>(hf3 b hb).1,w0⟩
  rintro n s5 ⟨i,σ5,H5,I5,st5,fr5,w5⟩
  rcases turn i n σ5 H5 w5 with ⟨stop,qn⟩ | ⟨go,N,hN,step⟩
  ·refine bZ (T.done (cxC X N' scope cl fp s3 (upd H s.heap.objs.size (.dK []))) rfl rfl rfl hc i [] s5 σ5 H5 _ I5 (stat fr5) st5 stop) fun r s6 ⟨hr,I6⟩=>?_
   subst hr
   obtain⟨m',hm',_⟩:=I6.loc
   exact hRR _ _ H5 s6 m' (I3.outC I6 hf3) qn hm' (I3.fpOk (Nat.le_refl _) I6.free)
  ·refine bZ (T.item (cxC X N' scope cl fp s3 (upd H s.heap.objs.size (.dK []))) rfl rfl rfl hc i [] s5 σ5 H5 _ I5 (stat fr5) st5 go) fun r s6 ⟨u,hr,h6⟩=>?_
   subst hr
   refine bZ h6 fun _ s7 ⟨x,H7,I7,r7,y7,st7,fr7⟩=>?_
   have I7':=I7.pinned (stat fr7) (T.obj _ _ st7)
   refine wpAny_mono (hg fp s3 _ _ s7 σ5 H7 x u _ I7' r7 (step x H7 y7)) (fun _ s8 ⟨σ8,H8,I8,q8⟩=>?_) fun e s' z=>(hx e s' z).elim
   refine wpAny_mono (ht fp s3 _ _ s8 σ8 H8 _ I8 q8) (fun ok s9 ⟨H9,I9,q9⟩=>?_) fun e s' z=>(hx e s' z).elim
   have again:∀ {s10:Shared}{H10:Hp},Inv (cxC X N' scope cl fp s3 (upd H s.heap.objs.size (.dK []))) ([]++pinsAt fp s7.heap) σ8 H10 s10→N σ8 H10→
     ∃ m,m < n∧∃ i σ' H',Inv (cxC X N' scope cl fp s3 (upd H s.heap.objs.size (.dK []))) [] σ' H' s10∧tn i s10.heap∧(∀ b∈fp,H' b=none)∧W i m σ' H':=fun {s10 H10} I10 n10=>by
    obtain⟨m',hm,w10⟩:=hN σ8 H10 n10
    refine⟨m',hm,i+1,σ8,H10,I10.unpinned,T.keep _ _ _ st7 fun b hb o e=>(I10.pin (b,o) (List.mem_append_right _ (List.mem_append_right _ (mem_pinsAt hb e)))).1,fun b hb=>?_,w10⟩
    obtain⟨o,e,d⟩:=T.obj _ _ st7 b hb
    exact (I10.pin (b,o) (List.mem_append_right _ (List.mem_append_right _ (mem_pinsAt hb e)))).2.1
   cases ok with
   | false=>
    rw[if_neg Bool.false_ne_true] at q9 ⊢
    exact again I9 q9
   | true=>
    rw[if_pos rfl] at q9 ⊢
    refine wpAny_mono (hk fp s3 _ _ s9 σ8 H9 _ I9 q9) (fun y s10 ⟨yv,H10,I10,r10,q10⟩=>?_) fun e s' z=>(hx e s' z).elim
    refine wpAny_mono (hv fp s3 _ _ s10 σ8 H10 _ I10 q10) (fun z s11 ⟨zv,H11,I11,r11,kvs,kk,ey,hD,hlen,q11⟩=>?_) fun e s' z=>(hx e s' z).elim
    subst ey
    exact d_dictSet (X:=cxC X N' scope cl fp s3 (upd H s.heap.objs.size (.dK []))) I11 hD hlen r10 r11 fun s12 I12=>again I12 q11
 exact codeAny_compStart_dict (loop _ (by rw[← e3s];rfl)) (T.self X.A 0 _ _ _ (T.keep _ _ _ st fun b _ o e=>old3 b o (old b o e)) (loop _ (by rw[← e3s];rfl)))
theorem pe_dc {kx vx tg iter:Expr}{ifs:List Expr}{scope:Scope}{pos:Pos}{N':List Str}{fr:List (Option Nat)}{cl:List (Str×Addr)}{wi:TI}{g:TG}{tc:TT}{tk tv:TE}
  (hx:∀ e s,¬ X.xe e s) (hc:X.calm=true) (S:LcOk X scope cl N' fr) (hi:PI X tg iter wi)
  (hg:∀ fp s H,PG (cxC X N' scope cl fp s H) tg g) (ht:∀ fp s H,PIf (cxC X N' scope cl fp s H) ifs tc) (hk:∀ fp s H,PE (cxC X N' scope cl fp s H) kx tk) (hv:∀ fp s H,PE (cxC X N' scope cl fp s H) vx tv)
  (hs:∀ x,foldedSetIterable iter X.env x=pure x:=by intro _;rfl):PE X (.DictComp kx vx [⟨tg,iter,ifs,0⟩] scope pos) (tDC wi fr g tc tk tv):=by
 intro pins s σ H Q I h
 have hloc:=S.locs
 rw[List.all_eq_true] at hloc
 show wpAny _ X.A (comprehension (.DictComp kx vx [⟨tg,iter,ifs,0⟩] scope pos) scope X.env _ newDict false (eval iter X.env)) _ _ s
 refine wpAny_comprehension_free (use:=none) rfl hs S.clos S.kind (fun x hx' hl=>by have:=hloc x hx';rw[hl] at this;simpa using this) (bZ (hi pins s σ H _ I h) fun v s1 h1=>bZ h1 fun itv s2 h2=>?_)
 obtain⟨it,fp,tn,J,H2,e,I2,T,st2,f2,rest⟩:=h2
 subst e
 refine dc_block (RR:=fun acc C=>compPost (model X.prog X.w) X.A X.xe none (EP X pins σ Q) acc C) hx hc S hg ht hk hv I2 T st2 f2 rest ?_
 intro D C H' s' m' I' q hn f
 exact⟨m',hn,fun h' hsb=>⟨.ref D,H',I'.letgo f hsb,rfl,q⟩⟩
end
end L2
namespace Tw
open PySem L2
end Tw
namespace Tw
open PySem L2
section
variable {K:PySem.W.Frag}
end
section
variable {P:Program}{w:World}{K:PySem.W.Frag}{mg:Str→Option Value}{base:Heap}{C:Addr}
end
end Tw
namespace Tw
open PySem L2
section
variable {K:PySem.W.Frag}
end
section
variable {P:Program}{w:World}{K:PySem.W.Frag}{mg:Str→Option Value}{base:Heap}{C:Addr}
end
end Tw
namespace Tw
open PySem L2
section
variable {K:PySem.W.Frag}{C r dx R M T:Addr}{H H':Hp}{S:RunS}{fp:List Addr}{np mv:V}{ts:List Addr}{rs ms:List V}
end
section
variable {P:Program}{w:World}{K:PySem.W.Frag}{mg:Str→Option Value}{base:Heap}{C:Addr}
end
end Tw
namespace Tw
open PySem L2
end Tw
namespace Tw
open PySem L2
section
variable {K:PySem.W.Frag}{t sl:Addr}{σ:St}{H0:Hp}
end
section
variable {K:PySem.W.Frag}{C:Addr}{H:Hp}{r:Addr}{S:RunS}{fp:List Addr}
end
end Tw
namespace Tw
open PySem L2
end Tw
namespace Tw
open PySem L2
section
variable {P:Program}{w:World}{K:PySem.W.Frag}{mg:Str→Option Value}{base:Heap}
end
end Tw
namespace Tw
open PySem L2
noncomputable abbrev Nums:=List (Int×Int)
noncomputable def lkp (ms:Nums) (i:Int):Option Int:=(ms.find? fun p=>decide (p.1=i)).map (·.2)
noncomputable def dcD (ms:Nums):List (Key×V):=ms.map fun p=>(Sum.inl p.1,V.int p.2)
theorem val_dcD (i:Int):∀ ms:Nums,valV (dcD ms) (Sum.inl i)=(lkp ms i).map V.int
 | []=>rfl
 | p::ms=>by
  have ih:=val_dcD i ms
  show valV ((Sum.inl p.1,V.int p.2)::dcD ms) (Sum.inl i)=_
  unfold lkp at ih ⊢
  by_cases h:p.1=i
  ·rw[valV_pos (by rw[h]),List.find?_cons_of_pos (by simpa using h)];rfl
  ·rw[valV_neg (fun z=>h (by injection z)),ih,List.find?_cons_of_neg (by simpa using h)]
theorem val_dcN:∀ ms:Nums,valV (dcD ms) (Sum.inr none)=none
 | []=>rfl
 | p::ms=>by
  show valV ((Sum.inl p.1,V.int p.2)::dcD ms) (Sum.inr none)=_
  rw[valV_neg (fun z=>by cases z),val_dcN ms]
noncomputable def RdD (H:Hp) (a:Addr) (ms:Nums):Prop:=Rd H a (.dK (dcD ms))
theorem RdD.isD {H:Hp}{a:Addr}{ms:Nums} (h:RdD H a ms):IsD H a:=.inl ⟨_,h⟩
theorem RdD.get {H:Hp}{a:Addr}{ms:Nums} (h:RdD H a ms) (t:Option Int):DGet H a (cK t) ((t.bind (lkp ms)).map V.int):=by
 cases t with
 | none=>exact .inl ⟨_,Sum.inr none,h,rfl,(val_dcN ms).symm⟩
 | some i=>exact .inl ⟨_,Sum.inl i,h,rfl,(val_dcD i ms).symm⟩
theorem RdD.same {H H':Hp}{a:Addr}{ms:Nums} (h:RdD H a ms) (s:aJ H H'):RdD H' a ms:=by
 rcases h with h | ⟨o,h⟩
 ·exact .inl (s _ _ h)
 ·exact .inr ⟨o,s _ _ h⟩
theorem getD_tg (o:Option Int):(o.map V.int).getD .non=cK o:=by cases o <;> rfl
noncomputable def renO (nv:Nums) (o:Option Int×Int):Option Int×Int:=(o.1.bind (lkp nv),o.2)
noncomputable def cZ (ms:Nums) (a:Str×Int):Option (Str×Int):=(lkp ms a.2).map fun s=>(a.1,s)
noncomputable def renV (nv ms:Nums) (v:Vs):Vs:=⟨v.size,v.brim,v.outs.map (renO nv),v.holds,v.spill.bind (lkp nv),v.acts.filterMap (cZ ms)⟩
noncomputable def renS (nv:Nums) (s:Spt):Spt:=((lkp nv s.1).getD 0,s.2)
noncomputable def vNil:Vs:=⟨1,1,[],false,none,[]⟩
noncomputable def renN (net:Net) (nv ms:Nums):Net:=⟨nv.map fun p=>renV nv ms (net.vs.getD p.1.toNat vNil),ms.map fun p=>renS nv (net.sps.getD p.1.toNat (0,0,false))⟩
structure RenOk (net:Net) (nv ms:Nums):Prop where
 vs:∀ p∈nv,0≤p.1∧p.1 < net.vs.length
 sp:∀ p∈ms,0≤p.1∧p.1 < net.sps.length
 tg:∀ p∈ms,∃ j,lkp nv (net.sps.getD p.1.toNat (0,0,false)).1=some j
 lv:nv.length≤12
 ls:ms.length≤12
theorem filterMap_len {α β:Type} (f:α→Option β) (l:List α):(l.filterMap f).length≤l.length:=List.length_filterMap_le f l
section
variable {P:Program}{w:World}{K:PySem.W.Frag}{mg:Str→Option Value}{base:Heap}{C c_TipError c_NoNet c_NoVessel c_TooLong c_TooMany c_TooMuch c_Nothing c_NoText c_NoRow aw:Addr}
noncomputable def spRenV (K:PySem.W.Frag):Sp:=fun vs H Q _=>∃ (x:V) (dv ds:Addr) (v:Vs) (nv ms:Nums),vs=[x,.ref dv,.ref ds]∧Is K H (vsD v) x∧v.outs.length≤3∧v.acts.length≤3∧RdD H dv nv∧RdD H ds ms∧∀ p H',aJ H H'→Is K H' (vsD (renV nv ms v)) p→Q p H'
theorem sc_renumbered_vessel:FnScope ["vessel","new_vessels","new_spouts","size","brim","outs","holds","spill","acts","told_outs","told_acts"] ["vessel","new_vessels","new_spouts"] (aK (bH 15)):=⟨rfl,rfl,rfl,by decide +kernel,rfl,by decide +kernel,by decide +kernel⟩
theorem ok_renumbered_vessel {f:Addr}{fd:FuncData} (F:Fun K "renumbered_vessel" "renumbered_vessel" (bH 15) f fd) (T:Txt mg):FnOk P w K mg base CX0 1 f fd ["vessel","new_vessels","new_spouts"] (spRenV K):=by
 refine F.ok sc_renumbered_vessel (fun vs H Q E h=>?_) (fun cdv A outer s H vs Q E hr h=>?_)
 ·obtain⟨x,dv,ds,v,nv,ms,rfl,_⟩:=h;rfl
 ·obtain⟨x,dv,ds,v,nv,ms,rfl,hx,o3,a3,hdv,hds,k⟩:=h
  have sc:=sc_renumbered_vessel
  have hu:=hu_of hr
  refine⟨_,(aE (ps_asg (pv 0) (bN (K:=K) (n:=6) rfl rfl (aH (aF (i:=3) sc.nd rfl (Or.inl rfl)) (aH (aF (i:=4) sc.nd rfl (Or.inl rfl)) (aH (aF (i:=5) sc.nd rfl (Or.inl rfl)) (aH (aF (i:=6) sc.nd rfl (Or.inl rfl)) (aH (aF (i:=7) sc.nd rfl (Or.inl rfl)) (aH (aF (i:=8) sc.nd rfl (Or.inl rfl)) bM))))))))
   (aE (ps_set_lc (i:=9) sc.nd rfl rfl (fun _ _ h=>h) rfl (LcOk.mk (N':=["target","parts","new_vessels"]) (fr:=[none,none,some 1]) rfl ⟨rfl,trivial⟩ rfl rfl rfl rfl rfl ⟨⟨_,rfl,rfl,rfl,rfl⟩,trivial⟩) (cJ (K:=K) rfl (pv 5)) (fun _ _ _=>(bN (K:=K) (n:=2) rfl rfl (aH (aF (i:=0) (show (["target","parts","new_vessels"]:List Str).Nodup by decide +kernel) rfl (Or.inl rfl) (Or.inr rfl)) (aH (aF (i:=1) (show (["target","parts","new_vessels"]:List Str).Nodup by decide +kernel) rfl (Or.inl rfl) (Or.inr rfl)) bM)))) (fun _ _ _=>cR) (fun _ _ _=>(bX (aA (pe_dget1 hu (pv 2) (pv 0) ⟨rfl,rfl,rfl,rfl⟩) (aA (pv 1) aB)))))
   (aE (ps_set_lc (i:=10) sc.nd rfl rfl (fun _ _ h=>h) rfl (LcOk.mk (N':=["word","spout","new_spouts"]) (fr:=[none,none,some 2]) rfl ⟨rfl,trivial⟩ rfl rfl rfl rfl rfl ⟨⟨_,rfl,rfl,rfl,rfl⟩,trivial⟩) (cJ (K:=K) rfl (pv 8)) (fun _ _ _=>(bN (K:=K) (n:=2) rfl rfl (aH (aF (i:=0) (show (["word","spout","new_spouts"]:List Str).Nodup by decide +kernel) rfl (Or.inl rfl) (Or.inr rfl)) (aH (aF (i:=1) (show (["word","spout","new_spouts"]:List Str).Nodup by decide +kernel) rfl (Or.inl rfl) (Or.inr rfl)) bM)))) (fun _ _ _=>pif_one (pt_cmp (pc_din hu (pv 1) (pv 2)))) (fun _ _ _=>(bX (aA (pv 0) (aA (pe_dget hu (pv 2) (pv 1) (fun _ _=>rfl)) aB)))))
   (aI (aX (bX (aA (pv 3) (aA (pv 4) (aA (aV (bP (K:=K) rfl) rfl T.b_tuple bG (aA (pv 9) aB)) (aA (pv 6) (aA (pe_dget1 hu (pv 1) (pv 7) ⟨rfl,rfl,rfl,rfl⟩) (aA (aV (bP (K:=K) rfl) rfl T.b_tuple bG (aA (pv 10) aB)) aB)))))))))))),?_⟩
  obtain⟨a,o,c,rfl,q,io,ic⟩:=vs_un hx
  obtain⟨oa,os,rfl,qo,lo⟩:=io.un
  obtain⟨ca,cs,rfl,qc,lc⟩:=ic.un
  have eol:os.length=v.outs.length:=by rw[lo.length,List.length_map]
  have ecl:cs.length=v.acts.length:=by rw[lc.length,List.length_map]
  refine⟨_,rfl,a,_,rfl,q,rfl,_,_,rfl,_,_,rfl,_,_,rfl,_,_,rfl,_,_,rfl,_,_,rfl,rfl,?_⟩
  refine⟨_,rfl,oa,rfl,⟨_,qo⟩,lc_tup (K:=K) (a:=oa) (xs:=os) (fun D i r σ' H'=>H D=none∧aJ H H'∧H' D=some (.lst r)∧IsL K H' (((v.outs.take i).map (renO nv)).map outD) r∧∃ u1 u2,σ'=[u1,u2,some (.ref dv)])
   (fun D i r σ' H' p=>p.2.1.tup qo) (fun D hD=>⟨hD,aJ.new hD,aC,.nil,none,none,rfl⟩) ?_ ?_⟩
  rotate_left
  ·rintro D i y r σ' H1 hy ⟨hD,sm,hDl,lr,u1,u2,rfl⟩
   obtain⟨t,ht,ta,rfl,qt⟩:=outs_at lo hy
   have hil:=(List.getElem?_eq_some_iff.mp ht).1
   refine⟨ta,_,rfl,sm.tup qt,rfl,_,_,rfl,_,_,rfl,rfl,?_⟩
   refine yes_of ?_
   have hd1:=hdv.same sm
   refine⟨_,rfl,dv,rfl,hd1.isD,_,rfl,_,hd1.get t.1,_,rfl,(show 2≤sizeLine by decide),fun e he=>?_⟩
   rw[getD_tg]
   have m1:=aJ.new (o:=HO.tup [cK (t.1.bind (lkp nv)),.int t.2]) he
   have i1:Is K (upd H1 e (.tup [cK (t.1.bind (lkp nv)),.int t.2])) (outD (renO nv t)) (.ref e):=Is.tupOf (ds:=[tgD (t.1.bind (lkp nv)),.int t.2]) (bR.of aC) (.cons (Is.tgOf _) (.cons (Is.i _) .nil))
   generalize upd H1 e (.tup [cK (t.1.bind (lkp nv)),.int t.2])=H2 at m1 i1 ⊢
   have hDl2:=m1 _ _ hDl
   have muD:Mut (H2 D):=by rw[hDl2];exact trivial
   have hrl:r.length≤12:=by rw[lr.length,List.length_map,List.length_map,List.length_take];omega
   refine⟨hDl2,aN (by omega),hD,(sm.trans m1).put hD,aC,?_,_,_,rfl⟩
   rw[List.take_succ,ht,List.map_append,List.map_append]
   exact L2.IsL.snoc (Is.mono (cE.ts cE.upd muD) _ _ i1) (L2.IsL.mono (m1.ts.trans (cE.ts cE.upd muD)) _ _ lr)
  rintro D1 r1 σ' H1 ⟨hD1,sm1,hDl1,lr1,_⟩
  rw[eol,List.take_length] at lr1
  refine⟨_,rfl,ca,rfl,⟨_,sm1.tup qc⟩,lc_tup (K:=K) (a:=ca) (xs:=cs) (fun D i r σ' H'=>H1 D=none∧aJ H1 H'∧H' D=some (.lst r)∧IsL K H' (((v.acts.take i).filterMap (cZ ms)).map actD) r∧∃ u1 u2,σ'=[u1,u2,some (.ref ds)])
   (fun D i r σ' H' p=>p.2.1.tup (sm1.tup qc)) (fun D hD=>⟨hD,aJ.new hD,aC,.nil,none,none,rfl⟩) ?_ ?_⟩
  rotate_left
  ·rintro D i y r σ' H2 hy ⟨hD,sm,hDl,lr,u1,u2,rfl⟩
   obtain⟨t,ht,ta,rfl,qt⟩:=acts_at lc hy
   have hil:=(List.getElem?_eq_some_iff.mp ht).1
   have sA:=sm1.trans sm
   have hd2:=hds.same sA
   refine⟨ta,_,rfl,sA.tup qt,rfl,_,_,rfl,_,_,rfl,rfl,?_⟩
   refine⟨_,rfl,_,rfl,ds,_,rfl,hd2.get (some t.2),_,rfl,?_⟩
   have hsn:(v.acts.take (i+1)).filterMap (cZ ms)=(v.acts.take i).filterMap (cZ ms)++(cZ ms t).toList:=by
    rw[List.take_succ,ht,List.filterMap_append]
    show _++List.filterMap (cZ ms) [t]=_
    cases hz:cZ ms t <;> simp [List.filterMap_cons,hz]
   have hrl:r.length≤12:=by
    rw[lr.length,List.length_map]
    have:=filterMap_len (cZ ms) (v.acts.take i)
    rw[List.length_take] at this
    omega
   cases hz:lkp ms t.2 with
   | none=>
    have hn:cZ ms t=none:=by unfold cZ;rw[hz];rfl
    rw[hn] at hsn
    have e0:((some t.2).bind (lkp ms)).map V.int=none:=by show (lkp ms t.2).map V.int=_;rw[hz];rfl
    rw[e0]
    refine cG ⟨hD,sm,hDl,?_,_,_,rfl⟩
    rw[hsn]
    show IsL K H2 (((v.acts.take i).filterMap (cZ ms)++[]).map actD) r
    rw[List.append_nil];exact lr
   | some j=>
    have hn:cZ ms t=some (t.1,j):=by unfold cZ;rw[hz];rfl
    rw[hn] at hsn
    have e0:((some t.2).bind (lkp ms)).map V.int=some (.int j):=by show (lkp ms t.2).map V.int=_;rw[hz];rfl
    have g0:=hd2.get (some t.2)
    rw[e0] at g0 ⊢
    refine iteT ⟨_,rfl,_,rfl,_,rfl,ds,.int j,rfl,g0,(show 2≤sizeLine by decide),fun e he=>?_⟩
    have m1:=aJ.new (o:=HO.tup [.str t.1,.int j]) he
    have i1:Is K (upd H2 e (.tup [.str t.1,.int j])) (actD (t.1,j)) (.ref e):=Is.tupOf (ds:=[.str t.1,.int j]) (bR.of aC) (.cons (Is.s _) (.cons (Is.i _) .nil))
    generalize upd H2 e (.tup [.str t.1,.int j])=H3 at m1 i1 ⊢
    have hDl2:=m1 _ _ hDl
    have muD:Mut (H3 D):=by rw[hDl2];exact trivial
    refine⟨hDl2,aN (by omega),hD,(sm.trans m1).put hD,aC,?_,_,_,rfl⟩
    rw[hsn,List.map_append]
    exact L2.IsL.snoc (Is.mono (cE.ts cE.upd muD) _ _ i1) (L2.IsL.mono (m1.ts.trans (cE.ts cE.upd muD)) _ _ lr)
  rintro D2 r2 σ' H2 ⟨hD2,sm2,hDl2,lr2,_⟩
  rw[ecl,List.take_length] at lr2
  refine⟨_,rfl,_,rfl,_,rfl,D1,_,rfl,.inl ⟨bT.of (sm2 _ _ hDl1),fun p1 hp1=>?_⟩⟩
  have m3:=aJ.new (o:=HO.tup r1) hp1
  have t3:bR K (upd H2 p1 (.tup r1)) p1 r1:=bR.of aC
  generalize upd H2 p1 (.tup r1)=H3 at m3 t3 ⊢
  have s03:=(sm1.trans sm2).trans m3
  have hd3:=hdv.same s03
  refine⟨_,rfl,_,rfl,dv,rfl,hd3.isD,_,rfl,_,hd3.get v.spill,_,rfl,D2,_,rfl,.inl ⟨bT.of (m3 _ _ hDl2),fun p2 hp2=>⟨(show 6≤sizeLine by decide),fun p hp=>?_⟩⟩⟩
  rw[getD_tg]
  have m4:=aJ.new (o:=HO.tup r2) hp2
  have t4:bR K (upd H3 p2 (.tup r2)) p2 r2:=bR.of aC
  generalize upd H3 p2 (.tup r2)=H4 at m4 t4 hp ⊢
  have m5:=aJ.new (o:=HO.tup [.int v.size,.int v.brim,.ref p1,.bl v.holds,cK (v.spill.bind (lkp nv)),.ref p2]) hp
  refine k _ _ ((s03.trans m4).trans m5) ?_
  exact Is.tupOf (ds:=[.int v.size,.int v.brim,.tup ((v.outs.map (renO nv)).map outD),.bl v.holds,tgD (v.spill.bind (lkp nv)),.tup ((v.acts.filterMap (cZ ms)).map actD)]) (bR.of aC)
   (.cons (Is.i _) (.cons (Is.i _) (.cons (Is.tupOf ((m4.trans m5).tup t3) (L2.IsL.mono (((sm2.trans m3).trans m4).trans m5).ts _ _ lr1)) (.cons (Is.b _) (.cons (Is.tgOf _) (.cons (Is.tupOf (m5.tup t4) (L2.IsL.mono ((m3.trans m4).trans m5).ts _ _ lr2)) .nil))))))
end
end Tw
namespace Tw
open PySem L2
theorem dc_at {ms:Nums}{i:Nat}{k:Key}{v:V} (h:(dcD ms)[i]? = some (k,v)):∃ p,ms[i]? = some p∧k=Sum.inl p.1∧v=.int p.2:=by
 unfold dcD at h
 rw[List.getElem?_map] at h
 obtain⟨p,hp,e⟩:=Option.map_eq_some_iff.mp h
 cases e
 exact⟨p,hp,rfl,rfl⟩
section
variable {P:Program}{w:World}{K:PySem.W.Frag}{mg:Str→Option Value}{base:Heap}{C c_TipError c_NoNet c_NoVessel c_TooLong c_TooMany c_TooMuch c_Nothing c_NoText c_NoRow aw:Addr}
noncomputable def spRen (K:PySem.W.Frag):Sp:=fun vs H Q _=>∃ (x:V) (dv ds:Addr) (net:Net) (nv ms:Nums),vs=[x,.ref dv,.ref ds]∧Is K H (netD net) x∧NetOk net∧H dv=some (.dK (dcD nv))∧H ds=some (.dK (dcD ms))∧dv≠ds∧RenOk net nv ms∧
 ∀ p H',ButL [dv,ds] H H'→RdD H' dv nv→Is K H' (netD (renN net nv ms)) p→Q p H'
theorem sc_renumbered:FnScope ["net","new_vessels","new_spouts","vessels","spouts","told_vessels","told_spouts","number","target","flow","door"] ["net","new_vessels","new_spouts"] (aK (bH 14)):=⟨rfl,rfl,rfl,by decide +kernel,rfl,by decide +kernel,by decide +kernel⟩
theorem ok_renumbered {f f1:Addr}{fd fd1:FuncData} (F:Fun K "renumbered" "renumbered" (bH 14) f fd) (T:Txt mg) (G_renumbered_vessel:Callee P w K mg base "renumbered_vessel" ["vessel","new_vessels","new_spouts"] 1 (spRenV K) f1 fd1) :
  FnOk P w K mg base CX0 2 f fd ["net","new_vessels","new_spouts"] (spRen K):=by
 refine F.ok sc_renumbered (fun vs H Q E h=>?_) (fun cdv A outer s H vs Q E hr h=>?_)
 ·obtain⟨x,dv,ds,net,nv,ms,rfl,_⟩:=h;rfl
 ·obtain⟨x,dv,ds,net,nv,ms,rfl,hx,nok,hdv,hds,nds,rok,k⟩:=h
  have sc:=sc_renumbered
  have hu:=hu_of hr
  refine⟨_,(aE (ps_asg (pv 0) (bN (K:=K) (n:=2) rfl rfl (aH (aF (i:=3) sc.nd rfl (Or.inr rfl)) (aH (aF (i:=4) sc.nd rfl (Or.inl rfl)) bM))))
   (aE (ps_set_lc (i:=5) sc.nd rfl rfl (fun _ _ h=>h) rfl (LcOk.mk (N':=["number","new_vessels","new_spouts","vessels"]) (fr:=[none,some 1,some 2,some 3]) rfl ⟨rfl,rfl,rfl,trivial⟩ rfl rfl rfl rfl rfl ⟨⟨_,rfl,rfl,rfl,rfl⟩,⟨_,rfl,rfl,rfl,rfl⟩,⟨_,rfl,rfl,rfl,rfl⟩,trivial⟩) (pi_dict (pv 1)) (fun _ _ _=>(aF (i:=0) (show (["number","new_vessels","new_spouts","vessels"]:List Str).Nodup by decide +kernel) rfl (Or.inl rfl) (Or.inr rfl))) (fun _ _ _=>cR) (fun _ _ _=>(d0 G_renumbered_vessel hr (aA (aM (aG (K:=K) rfl) (pv 3) (pv 0) (fun _ _=>rfl)) (aA (pv 1) (aA (pv 2) aB))))))
   (aE (aP (i:=6) sc.nd rfl (Or.inl rfl) (bJ aB))
   (aE (cT PassesOwn.never rfl (pi_dict (pv 2)) (aF (i:=7) sc.nd rfl (Or.inl rfl)) (aE (ps_asg (aM (aG (K:=K) rfl) (pv 4) (pv 7) (fun _ _=>rfl)) (bN (K:=K) (n:=3) rfl rfl (aH (aF (i:=8) sc.nd rfl (Or.inl rfl)) (aH (aF (i:=9) sc.nd rfl (Or.inl rfl)) (aH (aF (i:=10) sc.nd rfl (Or.inl rfl)) bM)))))
   (aI (ps_expr (pe_bmK (K:=K) rfl PySem.F.plainAttrs_list PySem.F.slot_list_append PySem.F.type_list_append cX (pv 6) (aA (bX (aA (pe_dget hu (pv 1) (pv 8) (fun _ _=>rfl)) (aA (pv 9) (aA (pv 10) aB)))) aB))))))
   (aI (aX (bX (aA (aV (bP (K:=K) rfl) rfl T.b_tuple bG (aA (pv 5) aB)) (aA (aV (bP (K:=K) rfl) rfl T.b_tuple bG (aA (pv 6) aB)) aB))))))))),?_⟩
  obtain⟨na,nb,nc,xs,ys,rfl,q,q1,l1,q2,l2⟩:=net_un hx
  have exl:xs.length=net.vs.length:=by rw[l1.length,List.length_map]
  have eyl:ys.length=net.sps.length:=by rw[l2.length,List.length_map]
  have muv:Mut (H dv):=by rw[hdv];exact trivial
  have mus:Mut (H ds):=by rw[hds];exact trivial
  refine⟨_,rfl,na,_,rfl,q,rfl,_,_,rfl,_,_,rfl,rfl,?_⟩
  refine⟨_,rfl,dv,_,rfl,hdv,fun ob=>?_⟩
  have b1:cE dv H (upd H dv (.frz ob (.dK (dcD nv)))):=cE.upd
  have ts1:=b1.ts (K:=K) muv
  have f1:upd H dv (.frz ob (.dK (dcD nv))) dv=some (.frz ob (.dK (dcD nv))):=aC
  have hds1:=b1 _ _ (fun z=>nds z.symm) hds
  generalize upd H dv (.frz ob (.dK (dcD nv)))=H1 at b1 ts1 f1 hds1
  refine lc_dict (a:=dv) (o:=ob) (kvs:=dcD nv) (fun D i r σ' H'=>H1 D=none∧aJ H1 H'∧H' D=some (.lst r)∧IsL K H' (((nv.take i).map fun p=>renV nv ms (net.vs.getD p.1.toNat vNil)).map vsD) r∧∃ u,σ'=[u,some (.ref dv),some (.ref ds),some (.ref nb)])
   (fun D i r σ' H' p=>p.2.1 _ _ f1) (fun D hD=>⟨hD,aJ.new hD,aC,.nil,none,rfl⟩) ?_ ?_
  rotate_left
  ·rintro D i key vv r σ' H2 hk ⟨hD,sm,hDl,lr,u,rfl⟩
   obtain⟨pp,hpp,rfl,rfl⟩:=dc_at hk
   have hil:=(List.getElem?_eq_some_iff.mp hpp).1
   have hlv:=rok.lv
   obtain⟨p0,p1⟩:=rok.vs pp (List.mem_of_getElem? hpp)
   have hlt:pp.1.toNat < xs.length:=by omega
   have hxj:xs[pp.1.toNat]? = some xs[pp.1.toNat]:=by simp
   obtain⟨d,hd,iv⟩:=l1.get' hxj
   rw[List.getElem?_map] at hd
   obtain⟨v,hv,rfl⟩:=Option.map_eq_some_iff.mp hd
   have vok:=nok.vs v (List.mem_of_getElem? hv)
   have egd:net.vs.getD pp.1.toNat vNil=v:=by rw[List.getD_eq_getElem?_getD,hv];rfl
   refine name_yes ?_
   have tsA:=ts1.trans sm.ts
   refine⟨_,rfl,_,rfl,.inr (.inl ⟨nb,xs,pp.1,xs[pp.1.toNat],rfl,rfl,tsA _ _ q1,atI_int p0 hxj,_,rfl,_,rfl,_,dv,ds,v,nv,ms,rfl,Is.mono tsA _ _ iv,vok.o3,vok.a3,.inr ⟨ob,sm _ _ f1⟩,.inl (sm _ _ hds1),fun p H3 s3 ip=>?_⟩)⟩
   have hDl3:=s3 _ _ hDl
   have muD:Mut (H3 D):=by rw[hDl3];exact trivial
   have hrl:r.length≤12:=by rw[lr.length,List.length_map,List.length_map,List.length_take];omega
   refine⟨hDl3,aN (by omega),hD,(sm.trans s3).put hD,aC,?_,_,rfl⟩
   rw[List.take_succ,hpp,List.map_append,List.map_append]
   refine L2.IsL.snoc ?_ (L2.IsL.mono (s3.ts.trans (cE.ts cE.upd muD)) _ _ lr)
   show Is K _ (vsD (renV nv ms (net.vs.getD pp.1.toNat vNil))) p
   rw[egd]
   exact Is.mono (cE.ts cE.upd muD) _ _ ip
  rintro D1 r1 σ' H2 ⟨hD1,sm1,hDl1,lr1,_⟩
  have elen:(dcD nv).length=nv.length:=by unfold dcD;rw[List.length_map]
  rw[elen,List.take_length] at lr1
  refine⟨Nat.zero_le _,fun D2 hD2=>?_⟩
  have s3:=aJ.new (o:=HO.lst []) hD2
  have e3:upd H2 D2 (.lst []) D2=some (.lst []):=aC
  generalize upd H2 D2 (.lst [])=H3 at s3 e3
  have hds3:=s3 _ _ (sm1 _ _ hds1)
  have nD2:D2≠ds:=fun z=>by rw[z,sm1 _ _ hds1] at hD2;cases hD2
  have mus3:Mut (H3 ds):=by rw[hds3];exact trivial
  refine⟨_,rfl,ds,_,rfl,hds3,fun ob2=>?_⟩
  have b4:cE ds H3 (upd H3 ds (.frz ob2 (.dK (dcD ms)))):=cE.upd
  have ts4:=b4.ts (K:=K) mus3
  have f4:upd H3 ds (.frz ob2 (.dK (dcD ms))) ds=some (.frz ob2 (.dK (dcD ms))):=aC
  have e4:=b4 _ _ nD2 e3
  have g4:=b4 _ _ nds (s3 _ _ (sm1 _ _ f1))
  have nD1:D1≠ds:=fun z=>by rw[z,hds1] at hD1;cases hD1
  have hDl4:=b4 _ _ nD1 (s3 _ _ hDl1)
  have ts14:=((ts1.trans sm1.ts).trans s3.ts).trans ts4
  have lr4:=L2.IsL.mono (s3.ts.trans ts4) _ _ lr1
  have nD12:D1≠D2:=fun z=>by rw[z] at hDl1;rw[hDl1] at hD2;cases hD2
  have nDv:D2≠dv:=fun z=>by rw[z,sm1 _ _ f1] at hD2;cases hD2
  have fD2:H1 D2=none:=sm1.free hD2
  have keep04:∀ b o,b∉[dv,ds]→H b=some o→upd H3 ds (.frz ob2 (.dK (dcD ms))) b=some o:=fun b o hb e=>b4 _ _ (fun z=>hb (by simp [z])) (s3 _ _ (sm1 _ _ (b1 _ _ (fun z=>hb (by simp [z])) e)))
  generalize upd H3 ds (.frz ob2 (.dK (dcD ms)))=H4 at b4 ts4 f4 e4 g4 hDl4 ts14 lr4 keep04
  refine for_dict (a:=ds) (o:=ob2) (kvs:=dcD ms) (fun i σ' H'=>cE D2 H4 H'∧∃ (r:List V) (v7 v8 v9 v10:Option V),H' D2=some (.lst r)∧IsL K H' (((ms.take i).map fun p=>renS nv (net.sps.getD p.1.toNat (0,0,false))).map spD) r∧
    σ'=[some (.ref na),some (.ref dv),some (.ref ds),some (.ref nb),some (.ref nc),some (.ref D1),some (.ref D2),v7,v8,v9,v10])
   (fun i σ' H' p=>p.1 _ _ (fun z=>nD2 z.symm) f4) ⟨cE.refl _,[],_,_,_,_,e4,.nil,rfl⟩ ?_ ?_
  rotate_left
  ·rintro i key vv σ' H5 hk ⟨b5,r,v7,v8,v9,v10,h5,lr,rfl⟩
   obtain⟨pp,hpp,rfl,rfl⟩:=dc_at hk
   have hil:=(List.getElem?_eq_some_iff.mp hpp).1
   have hls:=rok.ls
   obtain⟨p0,p1⟩:=rok.sp pp (List.mem_of_getElem? hpp)
   obtain⟨j,hj⟩:=rok.tg pp (List.mem_of_getElem? hpp)
   have hlt:pp.1.toNat < ys.length:=by omega
   have hyj:ys[pp.1.toNat]? = some ys[pp.1.toNat]:=by simp
   obtain⟨sp,hsp,sa,esa,qs⟩:=sps_at l2 hyj
   have egd:net.sps.getD pp.1.toNat (0,0,false)=sp:=by rw[List.getD_eq_getElem?_getD,hsp];rfl
   rw[egd] at hj
   have muD4:Mut (H4 D2):=by rw[e4];exact trivial
   have ts5:=ts14.trans (b5.ts muD4)
   have hrl:r.length≤12:=by rw[lr.length,List.length_map,List.length_map,List.length_take];omega
   dsimp only [cY]
   refine⟨_,rfl,_,rfl,.inr (.inl ⟨nc,ys,pp.1,.ref sa,rfl,rfl,ts5 _ _ q2,atI_int p0 (by rw[hyj,esa]),sa,_,rfl,ts5 _ _ qs,rfl,_,_,rfl,_,_,rfl,_,_,rfl,rfl,?_⟩)⟩
   have g0:DGet H5 dv (.int sp.1) (some (.int j)):=by
    have:=RdD.get (show RdD H5 dv nv from .inr ⟨ob,b5 _ _ (fun z=>nDv z.symm) g4⟩) (some sp.1)
    rw[show ((some sp.1).bind (lkp nv)).map V.int=some (.int j) by show (lkp nv sp.1).map V.int=_;rw[hj];rfl] at this
    exact this
   refine⟨_,rfl,.inl ⟨rfl,_,bT.of h5⟩,_,rfl,_,rfl,dv,.int j,rfl,g0,_,rfl,_,rfl,(show 3≤sizeLine by decide),fun e he=>?_⟩
   have m6:=aJ.new (o:=HO.tup [.int j,.int sp.2.1,.bl sp.2.2]) he
   have i6:Is K (upd H5 e (.tup [.int j,.int sp.2.1,.bl sp.2.2])) (spD (renS nv (net.sps.getD pp.1.toNat (0,0,false)))) (.ref e):=by
    rw[egd]
    unfold renS
    rw[hj]
    exact Is.tupOf (ds:=[.int j,.int sp.2.1,.bl sp.2.2]) (bR.of aC) (.cons (Is.i _) (.cons (Is.i _) (.cons (Is.b _) .nil)))
   generalize upd H5 e (.tup [.int j,.int sp.2.1,.bl sp.2.2])=H6 at m6 i6 ⊢
   have h6:=m6 _ _ h5
   have muD:Mut (H6 D2):=by rw[h6];exact trivial
   refine⟨D2,r,_,rfl,rfl,h6,aN (by omega),(b5.trans m6.but).trans cE.upd,_,_,_,_,_,aC,?_,rfl⟩
   rw[List.take_succ,hpp,List.map_append,List.map_append]
   exact L2.IsL.snoc (Is.mono (cE.ts cE.upd muD) _ _ i6) (L2.IsL.mono (m6.ts.trans (cE.ts cE.upd muD)) _ _ lr)
  ·rintro σ' H5 ⟨b5,r2,v7,v8,v9,v10,h5,lr2,rfl⟩
   have elen2:(dcD ms).length=ms.length:=by unfold dcD;rw[List.length_map]
   rw[elen2,List.take_length] at lr2
   have muD4:Mut (H4 D2):=by rw[e4];exact trivial
   have ts45:=b5.ts (K:=K) muD4
   refine⟨_,rfl,D1,r1,rfl,.inl ⟨bT.of (b5 _ _ nD12 hDl4),fun p1 hp1=>?_⟩⟩
   have m6:=aJ.new (o:=HO.tup r1) hp1
   have t6:bR K (upd H5 p1 (.tup r1)) p1 r1:=bR.of aC
   generalize upd H5 p1 (.tup r1)=H6 at m6 t6
   refine⟨_,rfl,D2,r2,rfl,.inl ⟨bT.of (m6 _ _ h5),fun p2 hp2=>⟨(show 2≤sizeLine by decide),fun p hp=>?_⟩⟩⟩
   have m7:=aJ.new (o:=HO.tup r2) hp2
   have t7:bR K (upd H6 p2 (.tup r2)) p2 r2:=bR.of aC
   generalize upd H6 p2 (.tup r2)=H7 at m7 t7 hp
   have m8:=aJ.new (o:=HO.tup [.ref p1,.ref p2]) hp
   have m58:=(m6.trans m7).trans m8
   refine k _ _ (fun b o hb e=>m58 _ _ (b5 _ _ (fun z=>?_) (keep04 b o hb e))) (.inr ⟨ob,m58 _ _ (b5 _ _ (fun z=>nDv z.symm) g4)⟩) ?_
   ·have:=b1.free (fun z'=>nDv (by rw[← z'];)) fD2
    rw[z,this] at e;cases e
   ·refine Is.tupOf (ds:=[.tup ((nv.map fun p=>renV nv ms (net.vs.getD p.1.toNat vNil)).map vsD),.tup ((ms.map fun p=>renS nv (net.sps.getD p.1.toNat (0,0,false))).map spD)]) (bR.of aC) (.cons (Is.tupOf ((m7.trans m8).tup t6) (L2.IsL.mono (ts45.trans m58.ts) _ _ lr4)) (.cons (Is.tupOf (m8.tup t7) (L2.IsL.mono m58.ts _ _ lr2)) .nil))
end
end Tw
namespace L2
open PySem PySem.Spec PyProof.Rows
theorem dc_enum {K:PySem.W.Frag}{g:TG}{tc:TT}{tk tv:TE}{fr:List (Option Nat)}{σ:St}{H1:Hp}{Q:Addr→Hp→Prop}{t:Bool}{a:Addr}{xs:List V} (Pv:Addr→Nat→St→Hp→Prop)
  (hq:∀ D i σ H,Pv D i σ H→SqB K H t a xs)
  (h0:∀ D,H1 D=none→Pv D 0 (frσ fr σ) (upd H1 D (.dK []))) (hstop:∀ D σ' H',Pv D xs.length σ' H'→Q D H')
  (hgo:∀ D i x σ' H' T,xs[i]? = some x→Pv D i σ' H'→H' T=none→g (.ref T) σ' (upd H' T (.tup [.int (i:Int),x])) fun σ3 H3=>tc σ3 H3 fun b H4=>
    if b=true then tk σ3 H4 fun y H5=>tv σ3 H5 fun z H6=>∃ kvs k,y=kV k∧H6 D=some (.dK kvs)∧kvs.length < sizeLine∧Pv D (i+1) σ3 (upd H6 D (.dK (putK kvs k z)))
    else Pv D (i+1) σ3 H4):dcRest (Ite K t a) g tc tk tv fr σ H1 Q:=by
 refine dc_gen (n:=xs.length) Pv h0 (fun D σ' H' p=>⟨⟨xs,hq D _ σ' H' p,Nat.le_refl _⟩,hstop D σ' H' p⟩) fun D i σ' H' hi p=>⟨⟨xs,xs[i],hq D _ σ' H' p,by simp [hi]⟩,?_⟩
 rintro v H2 ⟨T,x,hT,rfl,e1,rfl⟩
 exact hgo D i x σ' H' T (e1 xs (hq D _ σ' H' p)) p hT
end L2
namespace Tw
open PySem L2
noncomputable def aT:Nat→List Nat→Nums
 | _,[]=>[]
 | k,s::r=>((s:Int),(k:Int))::aT (k+1) r
theorem numF_len:∀ (r:List Nat) (k:Nat),(aT k r).length=r.length
 | [],_=>rfl
 | s::r,k=>by show (aT (k+1) r).length+1=r.length+1;rw[numF_len r]
theorem numF_app:∀ (r q:List Nat) (k:Nat),aT k (r++q)=aT k r++aT (k+r.length) q
 | [],q,k=>rfl
 | s::r,q,k=>by
  show _::aT (k+1) (r++q)=_::(aT (k+1) r++aT (k+(r.length+1)) q)
  rw[numF_app r q,show k+1+r.length=k+(r.length+1) by omega]
theorem lkp_no {x:Nat}:∀ {r:List Nat}{k:Nat},x∉r→lkp (aT k r) (x:Int)=none
 | [],_,_=>rfl
 | s::r,k,h=>by
  have ih:=lkp_no (r:=r) (k:=k+1) (x:=x) fun z=>h (List.mem_cons_of_mem _ z)
  have ne:¬ ((s:Int)=(x:Int)):=fun z=>h (by rw[show x=s by omega];exact List.mem_cons_self)
  unfold lkp at ih ⊢
  show Option.map _ (List.find? _ (((s:Int),(k:Int))::aT (k+1) r))=none
  rw[List.find?_cons_of_neg (by simpa using ne)]
  exact ih
section
variable {P:Program}{w:World}{K:PySem.W.Frag}{mg:Str→Option Value}{base:Heap}{C c_TipError c_NoNet c_NoVessel c_TooLong c_TooMany c_TooMuch c_Nothing c_NoText c_NoRow:Addr}
noncomputable def spCounted (K:PySem.W.Frag):Sp:=fun vs H Q _=>∃ (a:Addr) (t:Bool) (S:List Nat),vs=[.ref a]∧SqB K H t a (b9 S)∧(t=false→∃ o,H a=some o∧∀ H',H' a=some o→SqB K H' t a (b9 S))∧S.Nodup∧S.length≤12∧
 ∀ d H',aJ H H'→H d=none→H' d=some (.dK (dcD (aT 0 S)))→Q (.ref d) H'
theorem sc_counted:FnScope ["kept"] ["kept"] (aK (bH 20)):=⟨rfl,rfl,rfl,by decide +kernel,rfl,by decide +kernel,by decide +kernel⟩
theorem ok_counted {f:Addr}{fd:FuncData} (F:Fun K "counted" "counted" (bH 20) f fd) (T:Txt mg):FnOk P w K mg base CX0 1 f fd ["kept"] (spCounted K):=by
 refine F.ok sc_counted (fun vs H Q E h=>?_) (fun cdv A outer s H vs Q E hr h=>?_)
 ·obtain⟨a,t,S,rfl,_⟩:=h;rfl
 ·obtain⟨a,t,S,rfl,qa,qk,nd,h12,k⟩:=h
  have sc:=sc_counted
  refine⟨_,(aI (aX (pe_dc (fun _ _ h=>h) rfl (LcOk.mk (N':=["place","number"]) (fr:=[none,none]) rfl trivial rfl rfl rfl rfl rfl trivial) (pi_enumK (K:=K) rfl rfl T.b_enumerate (aA (pv 0) aB)) (fun _ _ _=>(bN (K:=K) (n:=2) rfl rfl (aH (aF (i:=0) (show (["place","number"]:List Str).Nodup by decide +kernel) rfl (Or.inl rfl) (Or.inr rfl)) (aH (aF (i:=1) (show (["place","number"]:List Str).Nodup by decide +kernel) rfl (Or.inl rfl) (Or.inr rfl)) bM)))) (fun _ _ _=>cR) (fun _ _ _=>(pv 1)) (fun _ _ _=>(pv 0))))),?_⟩
  have keep:∀ {H':Hp},aJ H H'→SqB K H' t a (b9 S):=fun {H'} sm=>by
   cases t with
   | true=>exact sm.tup (show bR K H a (b9 S) from qa)
   | false=>
    obtain⟨o,e,h⟩:=qk rfl
    exact h H' (sm _ _ e)
  have nl:(b9 S).length=S.length:=by unfold b9;rw[List.length_map]
  refine⟨_,rfl,t,a,rfl,⟨_,qa⟩,dc_enum (K:=K) (t:=t) (a:=a) (xs:=b9 S) (fun D i σ' H'=>H D=none∧aJ H H'∧H' D=some (.dK (dcD (aT 0 (S.take i))))∧∃ u1 u2,σ'=[u1,u2])
   (fun D i σ' H' p=>keep p.2.1) (fun D hD=>⟨hD,aJ.new hD,aC,none,none,rfl⟩) ?_ ?_⟩
  ·rintro D σ' H' ⟨hD,sm,hDl,_⟩
   rw[nl,List.take_of_length_le (Nat.le_refl _)] at hDl
   exact k D H' sm hD hDl
  ·rintro D i x σ' H1 Tt hx ⟨hD,sm,hDl,u1,u2,rfl⟩ hT
   unfold b9 at hx
   rw[List.getElem?_map] at hx
   obtain⟨z,hz,rfl⟩:=Option.map_eq_some_iff.mp hx
   have hil:=(List.getElem?_eq_some_iff.mp hz).1
   have sT:=aJ.new (o:=HO.tup [.int (i:Int),.int (z:Int)]) hT
   refine⟨Tt,_,rfl,bR.of aC,rfl,_,_,rfl,_,_,rfl,rfl,?_⟩
   have hD2:=sT _ _ hDl
   have lt:(S.take i).length=i:=by rw[List.length_take];omega
   have no:z∉S.take i:=fun hm=>by
    obtain⟨q,hq⟩:=List.mem_iff_getElem?.1 hm
    rw[List.getElem?_take] at hq
    split at hq
    ·rename_i hlt
     have hql:=(List.getElem?_eq_some_iff.mp hq).1
     have e1:=(List.getElem?_eq_some_iff.mp hq).2
     have e2:=(List.getElem?_eq_some_iff.mp hz).2
     have:=(List.nodup_iff_pairwise_ne.1 nd)
     rw[List.pairwise_iff_getElem] at this
     exact this q i hql hil hlt (e1.trans e2.symm)
    ·cases hq
   refine⟨_,rfl,_,rfl,dcD (aT 0 (S.take i)),Sum.inl (z:Int),rfl,hD2,aN (by unfold dcD;rw[List.length_map,numF_len];omega),hD,(sm.trans sT).put hD,?_,_,_,rfl⟩
   have hv:valV (dcD (aT 0 (S.take i))) (Sum.inl (z:Int))=none:=by rw[val_dcD,lkp_no no];rfl
   rw[putK_new _ hv,aC,List.take_succ,hz,show (some z:Option Nat).toList=[z] from rfl,numF_app,Nat.zero_add,lt]
   unfold dcD
   rw[List.map_append];rfl
end
end Tw
namespace Tw
open PySem L2
end Tw
namespace Tw
open PySem L2
section
variable {P:Program}{w:World}{K:PySem.W.Frag}{mg:Str→Option Value}{base:Heap}{C c_TipError c_NoNet c_NoVessel c_TooLong c_TooMany c_TooMuch c_Nothing c_NoText c_NoRow:Addr}
end
end Tw
namespace L2
open PySem PySem.Spec PyProof.Rows TwZ
section
variable {X:Cx}{K:PySem.W.Frag}
end
end L2
namespace Tw
open PySem L2
section
variable {P:Program}{w:World}{K:PySem.W.Frag}{mg:Str→Option Value}{base:Heap}
end
end Tw
namespace Tw
open PySem L2
section
variable {P:Program}{w:World}{K:PySem.W.Frag}{mg:Str→Option Value}{base:Heap}{C c_TipError c_NoNet c_NoVessel c_TooLong c_TooMany c_TooMuch c_Nothing c_NoText c_NoRow:Addr}
end
end Tw
namespace Tw
open PySem L2
end Tw
namespace Tw
open PySem L2
section
variable {P:Program}{w:World}{K:PySem.W.Frag}{mg:Str→Option Value}{base:Heap}{C c_TipError c_NoNet c_NoVessel c_TooLong c_TooMany c_TooMuch c_Nothing c_NoText c_NoRow:Addr}
end
end Tw
namespace Tw
open PySem L2
end Tw
namespace L2
open PySem PySem.Spec PyProof.Rows TwZ
theorem lc_enum {K:PySem.W.Frag}{g:TG}{tc:TT}{te:TE}{fr:List (Option Nat)}{σ:St}{H1:Hp}{Q:Addr→Hp→Prop}{t:Bool}{a:Addr}{xs:List V} (Pv:Addr→Nat→List V→St→Hp→Prop)
  (hq:∀ D i r σ H,Pv D i r σ H→SqB K H t a xs)
  (h0:∀ D,H1 D=none→Pv D 0 [] (frσ fr σ) (upd H1 D (.lst []))) (hstop:∀ D r σ' H',Pv D xs.length r σ' H'→Q D H')
  (hgo:∀ D i x r σ' H' T,xs[i]? = some x→Pv D i r σ' H'→H' T=none→g (.ref T) σ' (upd H' T (.tup [.int (i:Int),x])) fun σ3 H3=>tc σ3 H3 fun b H4=>
    if b=true then te σ3 H4 fun y H5=>H5 D=some (.lst r)∧r.length < PySem.sizeLine∧Pv D (i+1) (r++[y]) σ3 (upd H5 D (.lst (r++[y])))
    else Pv D (i+1) r σ3 H4):lcRest (Ite K t a) g tc te fr σ H1 Q:=by
 refine lc_gen (n:=xs.length) Pv h0 (fun D r σ' H' p=>⟨⟨xs,hq D _ r σ' H' p,Nat.le_refl _⟩,hstop D r σ' H' p⟩) fun D i r σ' H' hi p=>⟨⟨xs,xs[i],hq D _ r σ' H' p,by simp [hi]⟩,?_⟩
 rintro v H2 ⟨T,x,hT,rfl,e1,rfl⟩
 exact hgo D i x r σ' H' T (e1 xs (hq D _ r σ' H' p)) p hT
end L2
namespace Tw
open PySem L2
section
variable {P:Program}{w:World}{K:PySem.W.Frag}{mg:Str→Option Value}{base:Heap}{C c_TipError c_NoNet c_NoVessel c_TooLong c_TooMany c_TooMuch c_Nothing c_NoText c_NoRow:Addr}
end
end Tw
namespace Tw
open PySem L2
theorem lkp_at:∀ {r:List Nat}{k i x:Nat},r.Nodup→r[i]? = some x→lkp (aT k r) (x:Int)=some ((k+i:Nat):Int)
 | [],_,_,_,_,h=>by cases h
 | s::r,k,0,x,_,h=>by
  cases h
  unfold lkp
  show Option.map _ (List.find? _ (((s:Int),(k:Int))::aT (k+1) r))=_
  rw[List.find?_cons_of_pos (by simp)];rfl
 | s::r,k,i+1,x,nd,h=>by
  rw[List.nodup_cons] at nd
  have hx:x∈r:=List.mem_of_getElem? (show r[i]? = some x from h)
  have ne:¬ ((s:Int)=(x:Int)):=fun z=>nd.1 (by rw[show s=x by omega];exact hx)
  have ih:=lkp_at (r:=r) (k:=k+1) (i:=i) (x:=x) nd.2 h
  rw[show k+1+i=k+(i+1) by omega] at ih
  unfold lkp at ih ⊢
  show Option.map _ (List.find? _ (((s:Int),(k:Int))::aT (k+1) r))=_
  rw[List.find?_cons_of_neg (by simpa using ne)]
  exact ih
theorem numF_mem:∀ {r:List Nat}{k:Nat}{p:Int×Int},p∈aT k r→∃ s∈r,p.1=(s:Int)
 | [],_,_,h=>by cases h
 | s::r,k,p,h=>by
  rcases List.mem_cons.1 h with z | z
  ·subst z;exact⟨s,List.mem_cons_self,rfl⟩
  ·obtain⟨s',h1,h2⟩:=numF_mem z
   exact⟨s',List.mem_cons_of_mem _ h1,h2⟩
noncomputable def spK (net:Net) (S:List Nat) (n:Nat):List Nat:=(List.range n).filter fun k=>decide (∃ s∈S,spAt net (k:Int)=(s:Int))
theorem spK_succ (net:Net) (S:List Nat) (n:Nat):spK net S (n+1)=spK net S n++(if ∃ s∈S,spAt net (n:Int)=(s:Int) then [n] else []):=by
 unfold spK
 rw[List.range_succ,List.filter_append]
 by_cases h:∃ s∈S,spAt net (n:Int)=(s:Int)
 ·rw[if_pos h]
  congr 1
  rw[List.filter_cons_of_pos (by simpa using h)];rfl
 ·rw[if_neg h]
  congr 1
  rw[List.filter_cons_of_neg (by simpa using h)];rfl
theorem spK_len (net:Net) (S:List Nat) (n:Nat):(spK net S n).length≤n:=by
 unfold spK
 exact Nat.le_trans (List.length_filter_le _ _) (by simp)
noncomputable def trimN (net:Net) (S:List Nat):Net:=renN net (aT 0 S) (aT 0 (spK net S net.sps.length))
theorem MatS.nd {net:Net}{w:Nat}{S:List Nat} (m:MatS net w S):S.Nodup:=m.up.imp fun z=>Nat.ne_of_lt z
theorem MatS.lt {net:Net}{w:Nat}{S:List Nat} (m:MatS net w S) (h12:net.vs.length≤12) (hw:w < net.vs.length):∀ y∈S,y < net.vs.length:=fun y hy=>by
 rcases (m.mem y).1 hy with z | z
 ·exact (mat_ok h12 hw).2.1 y z
 ·omega
theorem trim_ok {net:Net}{w:Nat}{S:List Nat} (nok:NetOk net) (m:MatS net w S) (hw:w < net.vs.length):RenOk net (aT 0 S) (aT 0 (spK net S net.sps.length)) where
 vs:=fun p hp=>by
  obtain⟨s,hs,e⟩:=numF_mem hp
  have:=m.lt nok.hi hw s hs
  omega
 sp:=fun p hp=>by
  obtain⟨s,hs,e⟩:=numF_mem hp
  have:=List.mem_range.1 (List.mem_filter.1 hs).1
  omega
 tg:=fun p hp=>by
  obtain⟨s,hs,e⟩:=numF_mem hp
  obtain⟨y,hy,e2⟩:=of_decide_eq_true (List.mem_filter.1 hs).2
  obtain⟨i,hi⟩:=List.mem_iff_getElem?.1 hy
  refine⟨((0+i:Nat):Int),?_⟩
  rw[e]
  show lkp _ (spAt net (s:Int))=_
  rw[e2]
  exact lkp_at m.nd hi
 lv:=by
  rw[numF_len]
  exact Nat.le_trans (d6 _ _ m.nd (m.lt nok.hi hw)) nok.hi
 ls:=by
  rw[numF_len]
  exact Nat.le_trans (spK_len _ _ _) nok.sp
theorem inV_nat (z:Int):∀ l:List Nat,inV (.int z) (b9 l)=decide (∃ s∈l,z=(s:Int))
 | []=>by
  show false=_
  rw[eq_comm,decide_eq_false_iff_not]
  rintro⟨s,h,_⟩
  cases h
 | x::l=>by
  show (eqV (.int (x:Int)) (.int z) || inV (.int z) (b9 l))=_
  rw[inV_nat z l]
  show (((x:Int) == z) || decide (∃ s∈l,z=(s:Int)))=_
  by_cases h:(x:Int)=z
  ·rw[show ((x:Int) == z)=true by simp [h],Bool.true_or,eq_comm,decide_eq_true_eq]
   exact⟨x,List.mem_cons_self,h.symm⟩
  ·rw[show ((x:Int) == z)=false by simp [h],Bool.false_or,decide_eq_decide]
   constructor
   ·rintro⟨s,h1,h2⟩
    exact⟨s,List.mem_cons_of_mem _ h1,h2⟩
   ·rintro⟨s,h1,h2⟩
    rcases List.mem_cons.1 h1 with y | y
    ·subst y;exact absurd h2.symm h
    ·exact⟨s,y,h2⟩
section
variable {P:Program}{w:World}{K:PySem.W.Frag}{mg:Str→Option Value}{base:Heap}{C c_TipError c_NoNet c_NoVessel c_TooLong c_TooMany c_TooMuch c_Nothing c_NoText c_NoRow:Addr}
noncomputable def spTrimmed (K:PySem.W.Frag) (cV:Addr):Sp:=fun vs H Q E=>∃ (x:V) (net:Net) (v:Int),vs=[x,.int v]∧Is K H (netD net) x∧NetOk net∧
 ((¬ (0≤v∧v < net.vs.length)∧E (.ref cV) none H)∨∃ j:Nat,v=(j:Int)∧j < net.vs.length∧∀ p S (i:Nat) H',aJ H H'→MatS net j S→S[i]? = some j→Is K H' (.tup [netD (trimN net S),.int (i:Int)]) p→Q p H')
theorem sc_trimmed:FnScope ["net","watched","kept","vessels","spouts","new_vessels","new_spouts"] ["net","watched"] (aK (bH 19)):=⟨rfl,rfl,rfl,by decide +kernel,rfl,by decide +kernel,by decide +kernel⟩
theorem ok_trimmedR {f f1 f2 f3:Addr}{fd fd1 fd2 fd3:FuncData} (F:Fun K "trimmed" "trimmed" (bH 19) f fd) (T:Txt mg) (G_matters:CalleeR P w K mg base "matters" ["net","watched"] 3 (spMatters K c_NoVessel) f1 fd1)
  (G_counted:Callee P w K mg base "counted" ["kept"] 1 (spCounted K) f2 fd2) (G_renumbered:Callee P w K mg base "renumbered" ["net","new_vessels","new_spouts"] 2 (spRen K) f3 fd3):FnOk P w K mg base (CXR P w) 4 f fd ["net","watched"] (spTrimmed K c_NoVessel):=by
 refine F.okR sc_trimmed (fun vs H Q E h=>?_) (fun cdv A outer s H vs Q E hr h L=>?_)
 ·obtain⟨x,net,v,rfl,_⟩:=h;rfl
 ·obtain⟨x,net,v,rfl,hx,nok,k⟩:=h
  have sc:=sc_trimmed
  have hu:=hu_of hr
  refine⟨_,(aE (aP (i:=2) sc.nd rfl (Or.inr rfl) (pe_call G_matters.ok (hr.mono (by decide)) rfl G_matters.mg G_matters.kp G_matters.bd .nil (pass_xe L) (aA (pv 0) (aA (pv 1) aB))))
   (aE (ps_asg (pv 0) (bN (K:=K) (n:=2) rfl rfl (aH (aF (i:=3) sc.nd rfl (Or.inl rfl)) (aH (aF (i:=4) sc.nd rfl (Or.inl rfl)) bM))))
   (aE (aP (i:=5) sc.nd rfl (Or.inl rfl) (d0 G_counted hr (aA (pv 2) aB)))
   (aE (ps_calm fun pn=>(aP (i:=6) sc.nd rfl (Or.inl rfl) (d0 G_counted hr (aA (pe_lc (fun _ _ h=>h) rfl (LcOk.mk (N':=["number","spout","kept"]) (fr:=[none,none,some 2]) rfl ⟨rfl,trivial⟩ rfl rfl rfl rfl rfl ⟨⟨_,rfl,rfl,rfl,rfl⟩,trivial⟩) (pi_enumK (K:=K) rfl rfl T.b_enumerate (aA (pv 4) aB)) (fun _ _ _=>(bN (K:=K) (n:=2) rfl rfl (aH (aF (i:=0) (show (["number","spout","kept"]:List Str).Nodup by decide +kernel) rfl (Or.inl rfl) (Or.inr rfl)) (aH (aF (i:=1) (show (["number","spout","kept"]:List Str).Nodup by decide +kernel) rfl (Or.inl rfl) (Or.inr rfl)) bM)))) (fun _ _ _=>pif_one (aS (op_inK (K:=K) rfl) (aM (aG (K:=K) rfl) (pv 1) aD (fun _ _=>rfl)) (pv 2) (by rfl))) (fun _ _ _=>(pv 0))) aB))))
   (aI (aX (bX (aA (d0 G_renumbered hr (aA (pv 0) (aA (pv 5) (aA (pv 6) aB)))) (aA (pe_dget hu (pv 5) (pv 1) (fun _ _=>rfl)) aB))))))))),?_⟩
  refine⟨_,rfl,_,rfl,x,net,v,rfl,hx,nok,?_⟩
  rcases k with ⟨hn,k⟩ | ⟨j,rfl,hj,k⟩
  ·exact .inl ⟨hn,k⟩
  refine .inr ⟨j,rfl,hj,fun kp S H1 s1 qk mS=>?_⟩
  have hx1:=Is.mono s1.ts _ _ hx
  obtain⟨na,nb,nc,xs,ys,rfl,qn,qv,lv,qs,ls⟩:=net_un hx1
  have eyl:ys.length=net.sps.length:=by rw[ls.length,List.length_map]
  have sl:S.length≤12:=Nat.le_trans (d6 _ _ mS.nd (mS.lt nok.hi hj)) nok.hi
  refine⟨_,rfl,na,_,rfl,qn,rfl,_,_,rfl,_,_,rfl,rfl,?_⟩
  refine⟨_,rfl,kp,true,S,rfl,qk,(fun z=>by cases z),mS.nd,sl,fun dv H2 s2 hdv edv=>?_⟩
  refine⟨_,rfl,true,nc,rfl,⟨_,s2.tup qs⟩,lc_enum (K:=K) (t:=true) (a:=nc) (xs:=ys) (fun D i r σ' H'=>H2 D=none∧aJ H2 H'∧H' D=some (.lst r)∧r=b9 (spK net S i)∧∃ u1 u2,σ'=[u1,u2,some (.ref kp)])
   (fun D i r σ' H' p=>p.2.1.tup (s2.tup qs)) (fun D hD=>⟨hD,aJ.new hD,aC,rfl,none,none,rfl⟩) ?_ ?_⟩
  rotate_left
  ·rintro D i y r σ' H3 Tt hy ⟨hD,sm,hDl,rfl,u1,u2,rfl⟩ hT
   have hil:i < net.sps.length:=by rw[← eyl];exact (List.getElem?_eq_some_iff.mp hy).1
   have sT:=aJ.new (o:=HO.tup [.int (i:Int),y]) hT
   refine⟨Tt,_,rfl,bR.of aC,rfl,_,_,rfl,_,_,rfl,rfl,?_⟩
   have s14:=(s2.trans sm).trans sT
   have hD4:=sT _ _ hDl
   generalize upd H3 Tt (.tup [.int (i:Int),y])=H4 at sT s14 hD4 ⊢
   obtain⟨pa,fl,dr,hpa,qpa⟩:=sp_at (L2.IsL.mono s14.ts _ _ ls) hil
   rw[hpa] at hy
   cases hy
   refine⟨_,rfl,.inr (.inl ⟨pa,_,0,_,rfl,rfl,qpa,rfl,_,rfl,kp,_,rfl,.inr (s14.tup qk),rfl,cN _,_,rfl,?_⟩)⟩
   rw[if_neg Bool.false_ne_true,inV_nat]
   have hs:=spK_succ net S i
   have hln:=spK_len net S i
   have sp12:=nok.sp
   refine ite2 (fun h1=>?_) fun h1=>?_
   ·rw[if_pos (of_decide_eq_true h1)] at hs
    refine⟨_,rfl,hD4,aN (by unfold b9;rw[List.length_map];omega),hD,(sm.trans sT).put hD,aC,?_,_,_,rfl⟩
    rw[hs];unfold b9;rw[List.map_append];rfl
   ·rw[if_neg (fun z=>h1 (decide_eq_true z)),List.append_nil] at hs
    exact⟨hD,sm.trans sT,hD4,by rw[hs],_,_,rfl⟩
  rintro D r σ' H3 ⟨hD,s3,hDl,rfl,_⟩
  rw[eyl] at hDl
  have spl:=spK_len net S net.sps.length
  have sp12:=nok.sp
  refine⟨D,false,spK net S net.sps.length,rfl,bT.of hDl,(fun _=>⟨_,hDl,fun H' e=>bT.of e⟩),List.Pairwise.filter _ List.nodup_range,by omega,fun ds H4 s4 hds eds=>?_⟩
  have s24:=s3.trans s4
  have nds:dv≠ds:=fun z=>by rw[← z,s3 _ _ edv] at hds;cases hds
  have hx4:=Is.mono (s2.trans s24).ts _ _ hx1
  have jS:j∈S:=(mS.mem j).2 (.inl (mat_ok nok.hi hj).2.2)
  obtain⟨i,hi⟩:=List.mem_iff_getElem?.1 jS
  refine⟨_,rfl,_,rfl,_,rfl,.ref na,dv,ds,net,aT 0 S,aT 0 (spK net S net.sps.length),rfl,hx4,nok,s24 _ _ edv,eds,nds,trim_ok nok mS hj,fun q H5 b5 rd ip=>?_⟩
  have g0:DGet H5 dv (.int (j:Int)) (some (.int (i:Int))):=by
   have:=RdD.get rd (some (j:Int))
   rw[show ((some (j:Int)).bind (lkp (aT 0 S))).map V.int=some (.int (i:Int)) by show (lkp (aT 0 S) (j:Int)).map V.int=_;rw[lkp_at mS.nd hi,Nat.zero_add];rfl] at this
   exact this
  refine⟨_,rfl,_,rfl,dv,.int (i:Int),rfl,g0,(show 2≤sizeLine by decide),fun e he=>?_⟩
  have s5:aJ H H5:=fun b o hb=>b5 b o (fun z=>by
   simp only [List.mem_cons,List.mem_singleton,List.not_mem_nil,or_false] at z
   rcases z with z | z
   ·rw[z,s1.free hdv] at hb;cases hb
   ·rw[z,((s1.trans s2).trans s3).free hds] at hb;cases hb) (((s1.trans s2).trans s24) b o hb)
  have s6:=aJ.new (o:=HO.tup [q,.int (i:Int)]) he
  exact k _ S i _ (s5.trans s6) mS hi (Is.tupOf (ds:=[netD (trimN net S),.int (i:Int)]) (bR.of aC) (.cons (Is.mono s6.ts _ _ ip) (.cons (Is.i _) .nil)))
end
end Tw
namespace Tw
open PySem L2
section
variable {P:Program}{w:World}{K:PySem.W.Frag}{mg:Str→Option Value}{base:Heap}{C c_TipError c_NoNet c_NoVessel c_TooLong c_TooMany c_TooMuch c_Nothing c_NoText c_NoRow:Addr}
theorem inV_non:∀ l:List Nat,inV .non (b9 l)=false
 | []=>rfl
 | x::l=>by
  show (eqV (.int (x:Int)) .non || inV .non (b9 l))=_
  rw[inV_non l];rfl
theorem lkp_none {z:Int}:∀ {r:List Nat}{k:Nat},(¬ ∃ s∈r,z=(s:Int))→lkp (aT k r) z=none
 | [],_,_=>rfl
 | s::r,k,h=>by
  have ih:=lkp_none (r:=r) (k:=k+1) (z:=z) fun ⟨s',h1,h2⟩=>h ⟨s',List.mem_cons_of_mem _ h1,h2⟩
  have ne:¬ ((s:Int)=z):=fun y=>h ⟨s,List.mem_cons_self,y.symm⟩
  unfold lkp at ih ⊢
  show Option.map _ (List.find? _ (((s:Int),(k:Int))::aT (k+1) r))=none
  rw[List.find?_cons_of_neg (by simpa using ne)]
  exact ih
noncomputable def spNumIn (K:PySem.W.Frag):Sp:=fun vs H Q _=>∃ (a:Addr) (t:Option Int) (S:List Nat),vs=[.ref a,cK t]∧H a=some (.lst (b9 S))∧S.Nodup∧Q (cK (t.bind (lkp (aT 0 S)))) H
theorem sc__law_number_in:FnScope ["kept","target"] ["kept","target"] (aK (bH 31)):=⟨rfl,rfl,rfl,by decide +kernel,rfl,by decide +kernel,by decide +kernel⟩
theorem ok__law_number_in {f:Addr}{fd:FuncData} (F:Fun K "_law_number_in" "_law_number_in" (bH 31) f fd) (T:Txt mg):FnOk P w K mg base CX0 1 f fd ["kept","target"] (spNumIn K):=by
 refine F.ok sc__law_number_in (fun vs H Q E h=>?_) (fun cdv A outer s H vs Q E hr h=>?_)
 ·obtain⟨a,t,S,rfl,_⟩:=h;rfl
 ·obtain⟨a,t,S,rfl,ha,nd,k⟩:=h
  have sc:=sc__law_number_in
  refine⟨_,(aE (cB (aS (op_ninK (K:=K) rfl) (pv 1) (pv 0) (by rfl)) (aI (aX pe_non)) bB)
   (aI (aX (pe_bmK (K:=K) rfl PySem.F.plainAttrs_list PySem.F.slot_list_index PySem.F.type_list_index mt_index (pv 0) (aA (pv 1) aB))))),?_⟩
  cases t with
  | none=>
   refine⟨_,rfl,_,rfl,a,_,rfl,.inl (bT.of ha),rfl,cN _,_,rfl,?_⟩
   rw[if_pos rfl,show inV (cK none) (b9 S)=false from inV_non S]
   exact iteT k
  | some z=>
   refine⟨_,rfl,_,rfl,a,_,rfl,.inl (bT.of ha),rfl,cN _,_,rfl,?_⟩
   rw[if_pos rfl,show inV (cK (some z)) (b9 S)=_ from inV_nat z S]
   refine ite2 (fun h1=>?_) fun h1=>?_
   ·have h1:¬ ∃ s∈S,z=(s:Int):=by simpa using h1
    rw[show (some z).bind (lkp (aT 0 S))=none from lkp_none h1] at k
    exact k
   ·have h1:∃ s∈S,z=(s:Int):=by simpa using h1
    obtain⟨x,hxS,rfl⟩:=h1
    obtain⟨i,hi⟩:=List.mem_iff_getElem?.1 hxS
    have hil:=(List.getElem?_eq_some_iff.mp hi).1
    rw[show (some (x:Int)).bind (lkp (aT 0 S))=some ((0+i:Nat):Int) from lkp_at nd hi,Nat.zero_add] at k
    refine⟨_,rfl,.inl ⟨rfl,_,bT.of ha⟩,_,rfl,a,_,_,i,rfl,rfl,ha,rfl,cN _,by unfold b9;rw[List.length_map];exact hil,fun q hq=>?_,fun i' q hlt hq=>?_,k⟩
    ·unfold b9 at hq
     rw[List.getElem?_map,hi] at hq
     cases hq
     show ((x:Int) == (x:Int))=true
     simp
    ·unfold b9 at hq
     rw[List.getElem?_map] at hq
     obtain⟨y,hy,rfl⟩:=Option.map_eq_some_iff.mp hq
     have hyl:=(List.getElem?_eq_some_iff.mp hy).1
     have e1:=(List.getElem?_eq_some_iff.mp hy).2
     have e2:=(List.getElem?_eq_some_iff.mp hi).2
     have:=(List.nodup_iff_pairwise_ne.1 nd)
     rw[List.pairwise_iff_getElem] at this
     have ne:=this i' i hyl hil hlt
     rw[e1,e2] at ne
     show ((y:Int) == (x:Int))=false
     simp
     omega
end
end Tw
namespace Tw
open PySem L2
theorem numF_at:∀ {r:List Nat}{k i:Nat}{p:Int×Int},(aT k r)[i]? = some p→∃ s,r[i]? = some s∧p=((s:Int),((k+i:Nat):Int))
 | [],_,_,_,h=>by cases h
 | s::r,k,0,p,h=>by cases h;exact⟨s,rfl,rfl⟩
 | s::r,k,i+1,p,h=>by
  obtain⟨s',h1,h2⟩:=numF_at (r:=r) (k:=k+1) (i:=i) h
  exact⟨s',h1,by rw[h2,show k+1+i=k+(i+1) by omega]⟩
theorem lkp_some {r:List Nat}{z y:Int} (nd:r.Nodup) (h:lkp (aT 0 r) z=some y):∃ i s:Nat,r[i]? = some s∧z=(s:Int)∧y=(i:Int):=by
 by_cases c:∃ s∈r,z=(s:Int)
 ·obtain⟨s,hs,rfl⟩:=c
  obtain⟨i,hi⟩:=List.mem_iff_getElem?.1 hs
  rw[lkp_at nd hi,Nat.zero_add] at h
  injection h with h
  exact⟨i,s,hi,rfl,h.symm⟩
 ·rw[lkp_none c] at h;cases h
theorem trim_net {net:Net}{w:Nat}{S:List Nat} (nok:NetOk net) (m:MatS net w S) (hw:w < net.vs.length):NetOk (trimN net S):=by
 have hS:S.length≤12:=Nat.le_trans (d6 _ _ m.nd (m.lt nok.hi hw)) nok.hi
 have hK:(spK net S net.sps.length).length≤12:=Nat.le_trans (spK_len _ _ _) nok.sp
 have kn:(spK net S net.sps.length).Nodup:=List.Pairwise.filter _ List.nodup_range
 have ev:(trimN net S).vs.length=S.length:=by show (List.map _ _).length=_;rw[List.length_map,numF_len]
 have es:(trimN net S).sps.length=(spK net S net.sps.length).length:=by show (List.map _ _).length=_;rw[List.length_map,numF_len]
 have z0:0∈S:=(m.mem 0).2 (.inr rfl)
 refine { lo:=by rw[ev];exact List.length_pos_of_mem z0,hi:=by rw[ev];exact hS,sp:=by rw[es];exact hK,vs:=fun v hv=>?_,sps:=fun p hp=>?_ }
 ·obtain⟨q,hq,rfl⟩:=List.mem_map.1 hv
  obtain⟨s,hs,e⟩:=numF_mem hq
  have hsl:=m.lt nok.hi hw s hs
  rw[e,Int.toNat_natCast,List.getD_eq_getElem?_getD,List.getElem?_eq_getElem hsl,ev,es]
  have vok:=nok.vs _ (List.getElem_mem hsl)
  show VOk S.length (spK net S net.sps.length).length (renV (aT 0 S) (aT 0 (spK net S net.sps.length)) net.vs[s])
  generalize net.vs[s]=v at vok
  have idx:∀ (t:Option Int) (y:Int),t.bind (lkp (aT 0 S))=some y→0≤y∧y < (S.length:Int):=fun t y h=>by
   cases t with
   | none=>cases h
   | some z=>
    obtain⟨i,s',h1,_,rfl⟩:=lkp_some m.nd (show lkp (aT 0 S) z=some y from h)
    have:=(List.getElem?_eq_some_iff.mp h1).1
    omega
  refine { size:=vok.size,ne:=fun z=>vok.ne (List.map_eq_nil_iff.1 z),o3:=by show (v.outs.map _).length≤3;rw[List.length_map];exact vok.o3,outs:=fun o ho=>?_,spill:=fun t ht=>idx _ _ ht,a3:=Nat.le_trans (List.length_filterMap_le _ _) vok.a3,acts:=fun a ha=>?_ }
  ·obtain⟨o',ho',rfl⟩:=List.mem_map.1 (show o∈v.outs.map (renO (aT 0 S)) from ho)
   have ook:=vok.outs o' ho'
   exact⟨fun t ht=>idx _ _ ht,ook.lo,ook.hi⟩
  ·obtain⟨a',ha',e'⟩:=List.mem_filterMap.1 (show a∈v.acts.filterMap (cZ (aT 0 (spK net S net.sps.length))) from ha)
   have aok:=vok.acts a' ha'
   unfold cZ at e'
   obtain⟨y,hy,rfl⟩:=Option.map_eq_some_iff.mp e'
   obtain⟨i,s',h1,_,rfl⟩:=lkp_some kn hy
   have:=(List.getElem?_eq_some_iff.mp h1).1
   exact⟨aok.word,by show (0:Int)≤(i:Int);omega,by show (i:Int) < _;omega⟩
 ·obtain⟨q,hq,rfl⟩:=List.mem_map.1 hp
  obtain⟨y,hy⟩:=(trim_ok nok m hw).tg q hq
  obtain⟨i,s',h1,_,rfl⟩:=lkp_some m.nd hy
  have:=(List.getElem?_eq_some_iff.mp h1).1
  rw[ev]
  unfold renS
  rw[hy]
  exact⟨by show (0:Int)≤(i:Int);omega,by show (i:Int) < _;omega⟩
theorem trim_full {net:Net}{w:Nat}{S:List Nat} (nok:NetOk net) (nfu:NetFull net) (m:MatS net w S) (hw:w < net.vs.length):NetFull (trimN net S) where
 vs:=fun i v hv=>by
  have hv:((aT 0 S).map fun p=>renV (aT 0 S) (aT 0 (spK net S net.sps.length)) (net.vs.getD p.1.toNat vNil))[i]? = some v:=hv
  rw[List.getElem?_map] at hv
  obtain⟨q,hq,rfl⟩:=Option.map_eq_some_iff.mp hv
  obtain⟨s,hs,rfl⟩:=numF_at hq
  have hsl:=m.lt nok.hi hw s (List.mem_of_getElem? hs)
  have fu:=nfu.vs s net.vs[s] (List.getElem?_eq_getElem hsl)
  show VFull i (renV _ _ (net.vs.getD ((s:Int)).toNat vNil))
  rw[Int.toNat_natCast,List.getD_eq_getElem?_getD,List.getElem?_eq_getElem hsl]
  show VFull i (renV _ _ net.vs[s])
  refine⟨fu.sz,fu.br,fu.bh,fun t ht=>?_⟩
  have ht:net.vs[s].spill.bind (lkp (aT 0 S))=some t:=ht
  cases e:net.vs[s].spill with
  | none=>rw[e] at ht;cases ht
  | some z=>
   rw[e] at ht
   obtain⟨i',s',h1,rfl,rfl⟩:=lkp_some m.nd (show lkp (aT 0 S) z=some t from ht)
   have lt:=fu.sp _ e
   rcases Nat.lt_or_ge i i' with c | c
   ·omega
   ·exfalso
    rcases Nat.lt_or_ge i' i with c2 | c2
    ·have hp:=m.up
     rw[List.pairwise_iff_getElem] at hp
     have l1:=(List.getElem?_eq_some_iff.mp h1)
     have l2:=(List.getElem?_eq_some_iff.mp hs)
     have:=hp i' i l1.1 l2.1 c2
     rw[l1.2,l2.2] at this
     omega
    ·have:i'=i:=by omega
     subst this
     rw[hs] at h1
     injection h1 with h1
     omega
 sps:=fun p hp=>by
  obtain⟨q,hq,rfl⟩:=List.mem_map.1 (show p∈(aT 0 (spK net S net.sps.length)).map fun p=>renS (aT 0 S) (net.sps.getD p.1.toNat (0,0,false)) from hp)
  obtain⟨s,hs,e⟩:=numF_mem hq
  have hsl:=List.mem_range.1 (List.mem_filter.1 hs).1
  rw[e,Int.toNat_natCast,List.getD_eq_getElem?_getD,List.getElem?_eq_getElem hsl]
  have:=nfu.sps _ (List.getElem_mem hsl)
  exact this
end Tw
namespace Tw
open PySem L2
section
variable {P:Program}{w:World}{K:PySem.W.Frag}{mg:Str→Option Value}{base:Heap}{C c_TipError c_NoNet c_NoVessel c_TooLong c_TooMany c_TooMuch c_Nothing c_NoText c_NoRow:Addr}
theorem index_at {S:List Nat}{x i:Nat} (nd:S.Nodup) (hi:S[i]? = some x):i < (b9 S).length∧(∀ q,(b9 S)[i]? = some q→eqV q (.int (x:Int))=true)∧∀ i' q,i' < i→(b9 S)[i']? = some q→eqV q (.int (x:Int))=false:=by
 have hil:=(List.getElem?_eq_some_iff.mp hi).1
 refine⟨by unfold b9;rw[List.length_map];exact hil,fun q hq=>?_,fun i' q hlt hq=>?_⟩
 ·unfold b9 at hq
  rw[List.getElem?_map,hi] at hq
  cases hq
  show ((x:Int) == (x:Int))=true
  simp
 ·unfold b9 at hq
  rw[List.getElem?_map] at hq
  obtain⟨y,hy,rfl⟩:=Option.map_eq_some_iff.mp hq
  have hyl:=(List.getElem?_eq_some_iff.mp hy).1
  have e1:=(List.getElem?_eq_some_iff.mp hy).2
  have e2:=(List.getElem?_eq_some_iff.mp hi).2
  have:=(List.nodup_iff_pairwise_ne.1 nd)
  rw[List.pairwise_iff_getElem] at this
  have ne:=this i' i hyl hil hlt
  rw[e1,e2] at ne
  show ((y:Int) == (x:Int))=false
  simp
  omega
end
end Tw
namespace Tw
open PySem L2
section
variable {P:Program}{w:World}{K:PySem.W.Frag}{mg:Str→Option Value}{base:Heap}{C c_TipError c_NoNet c_NoVessel c_TooLong c_TooMany c_TooMuch c_Nothing c_NoText c_NoRow:Addr}
theorem numF_map {α:Type} (f:Nat→α):∀ (r:List Nat) (k:Nat),(aT k r).map (fun p=>f p.1.toNat)=r.map f
 | [],_=>rfl
 | s::r,k=>by
  show f (((s:Int)).toNat)::(aT (k+1) r).map (fun p=>f p.1.toNat)=f s::r.map f
  rw[numF_map f r (k+1),Int.toNat_natCast]
theorem natV_at {S:List Nat}{i:Nat}{y:V} (h:(b9 S)[i]? = some y):∃ x,S[i]? = some x∧y=.int (x:Int):=by
 unfold b9 at h
 rw[List.getElem?_map] at h
 obtain⟨x,hx,rfl⟩:=Option.map_eq_some_iff.mp h
 exact⟨x,hx,rfl⟩
theorem natV_len (S:List Nat):(b9 S).length=S.length:=by unfold b9;rw[List.length_map]
theorem sc__law_trimmed:FnScope ["net","watched","kept","spouts","vessels","k","size","brim","outs","holds","spill","acts","flows"] ["net","watched"] (aK (bH 32)):=⟨rfl,rfl,rfl,by decide +kernel,rfl,by decide +kernel,by decide +kernel⟩
noncomputable def spLTrim (K:PySem.W.Frag):Sp:=fun vs H Q _=>∃ (x:V) (net:Net) (j:Nat),vs=[x,.int (j:Int)]∧Is K H (netD net) x∧NetOk net∧j < net.vs.length∧
 ∀ p S (i:Nat) H',aJ H H'→MatS net j S→S[i]? = some j→Is K H' (.tup [netD (trimN net S),.int (i:Int)]) p→Q p H'
theorem ok__law_trimmed {f f1 f2:Addr}{fd fd1 fd2:FuncData} (F:Fun K "_law_trimmed" "_law_trimmed" (bH 32) f fd) (T:Txt mg) (G__law_matters:Callee P w K mg base "_law_matters" ["net","watched"] 1 (spLMat K) f1 fd1)
  (G__law_number_in:Callee P w K mg base "_law_number_in" ["kept","target"] 1 (spNumIn K) f2 fd2):FnOk P w K mg base CX0 2 f fd ["net","watched"] (spLTrim K):=by
 refine F.ok sc__law_trimmed (fun vs H Q E h=>?_) (fun cdv A outer s H vs Q E hr h=>?_)
 ·obtain⟨x,net,j,rfl,_⟩:=h;rfl
 ·obtain⟨x,net,j,rfl,hx,nok,hj,k⟩:=h
  have sc:=sc__law_trimmed
  refine⟨_,(aE (aP (i:=2) sc.nd rfl (Or.inr rfl) (d0 G__law_matters hr (aA (pv 0) (aA (pv 1) aB))))
   (aE (aP (i:=3) sc.nd rfl (Or.inr rfl) (pe_lc (fun _ _ h=>h) rfl (LcOk.mk (N':=["k","kept","net"]) (fr:=[none,some 2,some 0]) rfl ⟨rfl,rfl,trivial⟩ rfl rfl rfl rfl rfl ⟨⟨_,rfl,rfl,rfl,rfl⟩,⟨_,rfl,rfl,rfl,rfl⟩,trivial⟩) (cO rfl T.b_range (aA (aL (aW (K:=K) rfl) rfl T.b_len PySem.boot_len (aA (aM (aG (K:=K) rfl) (pv 0) aD (fun _ _=>rfl)) aB)) aB)) (fun _ _ _=>(aF (i:=0) (show (["k","kept","net"]:List Str).Nodup by decide +kernel) rfl (Or.inl rfl) (Or.inr rfl))) (fun _ _ _=>pif_one (aS (op_inK (K:=K) rfl) (aM (aG (K:=K) rfl) (aM (aG (K:=K) rfl) (aM (aG (K:=K) rfl) (pv 2) aD (fun _ _=>rfl)) (pv 0) (fun _ _=>rfl)) aD (fun _ _=>rfl)) (pv 1) (by rfl))) (fun _ _ _=>(pv 0))))
   (aE (aP (i:=4) sc.nd rfl (Or.inl rfl) (bJ aB))
   (aE (cT PassesOwn.never rfl (pi_listK (K:=K) rfl (pv 2)) (aF (i:=5) sc.nd rfl (Or.inl rfl)) (aE (ps_asg (aM (aG (K:=K) rfl) (aM (aG (K:=K) rfl) (pv 0) aD (fun _ _=>rfl)) (pv 5) (fun _ _=>rfl)) (bN (K:=K) (n:=6) rfl rfl (aH (aF (i:=6) sc.nd rfl (Or.inl rfl)) (aH (aF (i:=7) sc.nd rfl (Or.inl rfl)) (aH (aF (i:=8) sc.nd rfl (Or.inl rfl)) (aH (aF (i:=9) sc.nd rfl (Or.inl rfl)) (aH (aF (i:=10) sc.nd rfl (Or.inl rfl)) (aH (aF (i:=11) sc.nd rfl (Or.inl rfl)) bM))))))))
   (aE (aP (i:=8) sc.nd rfl (Or.inl rfl) (aV (bP (K:=K) rfl) rfl T.b_tuple bG (aA (pe_lc (fun _ _ h=>h) rfl (LcOk.mk (N':=["target","parts","kept"]) (fr:=[none,none,some 2]) rfl ⟨rfl,trivial⟩ rfl rfl rfl rfl rfl ⟨⟨_,rfl,rfl,rfl,rfl⟩,trivial⟩) (cJ (K:=K) rfl (pv 8)) (fun _ _ _=>(bN (K:=K) (n:=2) rfl rfl (aH (aF (i:=0) (show (["target","parts","kept"]:List Str).Nodup by decide +kernel) rfl (Or.inl rfl) (Or.inr rfl)) (aH (aF (i:=1) (show (["target","parts","kept"]:List Str).Nodup by decide +kernel) rfl (Or.inl rfl) (Or.inr rfl)) bM)))) (fun _ _ _=>cR) (fun _ _ _=>(bX (aA (d0 G__law_number_in hr (aA (pv 2) (aA (pv 0) aB))) (aA (pv 1) aB))))) aB)))
   (aE (aP (i:=11) sc.nd rfl (Or.inl rfl) (aV (bP (K:=K) rfl) rfl T.b_tuple bG (aA (pe_lc (fun _ _ h=>h) rfl (LcOk.mk (N':=["word","spout","spouts"]) (fr:=[none,none,some 3]) rfl ⟨rfl,trivial⟩ rfl rfl rfl rfl rfl ⟨⟨_,rfl,rfl,rfl,rfl⟩,trivial⟩) (cJ (K:=K) rfl (pv 11)) (fun _ _ _=>(bN (K:=K) (n:=2) rfl rfl (aH (aF (i:=0) (show (["word","spout","spouts"]:List Str).Nodup by decide +kernel) rfl (Or.inl rfl) (Or.inr rfl)) (aH (aF (i:=1) (show (["word","spout","spouts"]:List Str).Nodup by decide +kernel) rfl (Or.inl rfl) (Or.inr rfl)) bM)))) (fun _ _ _=>pif_one (aS (op_inK (K:=K) rfl) (pv 1) (pv 2) (by rfl))) (fun _ _ _=>(bX (aA (pv 0) (aA (pe_bmK (K:=K) rfl PySem.F.plainAttrs_list PySem.F.slot_list_index PySem.F.type_list_index mt_index (pv 2) (aA (pv 1) aB)) aB))))) aB)))
   (aI (ps_expr (pe_bmK (K:=K) rfl PySem.F.plainAttrs_list PySem.F.slot_list_append PySem.F.type_list_append cX (pv 4) (aA (bX (aA (pv 6) (aA (pv 7) (aA (pv 8) (aA (pv 9) (aA (d0 G__law_number_in hr (aA (pv 2) (aA (pv 10) aB))) (aA (pv 11) aB))))))) aB))))))))
   (aE (aP (i:=12) sc.nd rfl (Or.inl rfl) (aV (bP (K:=K) rfl) rfl T.b_tuple bG (aA (pe_lc (fun _ _ h=>h) rfl (LcOk.mk (N':=["k","kept","net"]) (fr:=[none,some 2,some 0]) rfl ⟨rfl,rfl,trivial⟩ rfl rfl rfl rfl rfl ⟨⟨_,rfl,rfl,rfl,rfl⟩,⟨_,rfl,rfl,rfl,rfl⟩,trivial⟩) (pi_listK (K:=K) rfl (pv 3)) (fun _ _ _=>(aF (i:=0) (show (["k","kept","net"]:List Str).Nodup by decide +kernel) rfl (Or.inl rfl) (Or.inr rfl))) (fun _ _ _=>cR) (fun _ _ _=>(aU (op_catTZK (K:=K) rfl) (bX (aA (pe_bmK (K:=K) rfl PySem.F.plainAttrs_list PySem.F.slot_list_index PySem.F.type_list_index mt_index (pv 1) (aA (aM (aG (K:=K) rfl) (aM (aG (K:=K) rfl) (aM (aG (K:=K) rfl) (pv 2) aD (fun _ _=>rfl)) (pv 0) (fun _ _=>rfl)) aD (fun _ _=>rfl)) aB)) aB)) (pe_slice (sl_tupK (K:=K) rfl) (aM (aG (K:=K) rfl) (aM (aG (K:=K) rfl) (pv 2) aD (fun _ _=>rfl)) (pv 0) (fun _ _=>rfl)) (po_some aD) po_none)))) aB)))
   (aI (aX (bX (aA (bX (aA (aV (bP (K:=K) rfl) rfl T.b_tuple bG (aA (pv 4) aB)) (aA (pv 12) aB))) (aA (pe_bmK (K:=K) rfl PySem.F.plainAttrs_list PySem.F.slot_list_index PySem.F.type_list_index mt_index (pv 2) (aA (pv 1) aB)) aB)))))))))),?_⟩
  refine⟨_,rfl,_,rfl,x,net,j,rfl,hx,nok,hj,fun kp S H1 s1 hkp qk mS=>?_⟩
  have hx1:=Is.mono s1.ts _ _ hx
  obtain⟨na,nb,nc,xs,ys,rfl,qn,qv,lv,qs,ls⟩:=net_un hx1
  have exl:xs.length=net.vs.length:=by rw[lv.length,List.length_map]
  have eyl:ys.length=net.sps.length:=by rw[ls.length,List.length_map]
  have sl:S.length≤12:=Nat.le_trans (d6 _ _ mS.nd (mS.lt nok.hi hj)) nok.hi
  have sp12:=nok.sp
  refine⟨_,rfl,.inr (.inl ⟨na,_,1,_,rfl,rfl,qn,rfl,nc,ys,rfl,.inr qs,_,rfl,by omega,by omega,?_⟩)⟩
  rw[Int.toNat_natCast,eyl]
  refine lc_range (n:=net.sps.length) (fun D i r σ' H'=>H1 D=none∧aJ H1 H'∧H' D=some (.lst r)∧r=b9 (spK net S i)∧∃ u,σ'=[u,some (.ref kp),some (.ref na)])
   (fun D hD=>⟨hD,aJ.new hD,aC,rfl,none,rfl⟩) ?_ ?_
  rotate_left
  ·rintro D i r σ' H3 hil ⟨hD,sm,hDl,rfl,u,rfl⟩
   obtain⟨pa,fl,dr,hpa,qpa⟩:=sp_at (L2.IsL.mono sm.ts _ _ ls) hil
   have hs:=spK_succ net S i
   have hln:=spK_len net S i
   refine⟨_,rfl,.inr (.inl ⟨na,_,1,_,rfl,rfl,sm.tup qn,rfl,_,rfl,.inr (.inl ⟨nc,ys,(i:Int),.ref pa,rfl,rfl,sm.tup qs,cS hpa,.inr (.inl ⟨pa,_,0,_,rfl,rfl,qpa,rfl,_,rfl,kp,_,rfl,.inl (bT.of (sm _ _ qk)),rfl,cN _,_,rfl,?_⟩)⟩)⟩)⟩
   rw[if_neg Bool.false_ne_true,inV_nat]
   refine ite2 (fun h1=>?_) fun h1=>?_
   ·rw[if_pos (of_decide_eq_true h1)] at hs
    refine⟨_,rfl,hDl,aN (by unfold b9;rw[List.length_map];omega),hD,sm.put hD,aC,?_,_,rfl⟩
    rw[hs];unfold b9;rw[List.map_append];rfl
   ·rw[if_neg (fun z=>h1 (decide_eq_true z)),List.append_nil] at hs
    exact⟨hD,sm,hDl,by rw[hs],_,rfl⟩
  rintro D r σ' H2 ⟨hD,s2,hDl,rfl,_⟩
  have spl:=spK_len net S net.sps.length
  have knd:(spK net S net.sps.length).Nodup:=List.Pairwise.filter _ List.nodup_range
  refine⟨Nat.zero_le _,fun D2 hD2=>?_⟩
  have s3:=aJ.new (o:=HO.lst []) hD2
  have e3:upd H2 D2 (.lst []) D2=some (.lst []):=aC
  generalize upd H2 D2 (.lst [])=H3 at s3 e3
  have hD3:=s3 _ _ hDl
  have hk3:=s3 _ _ (s2 _ _ qk)
  have s13:=s2.trans s3
  have nD:D≠D2:=fun z=>by rw[z] at hDl;rw[hDl] at hD2;cases hD2
  have nK:kp≠D2:=fun z=>by have:=s2 _ _ qk;rw[z] at this;rw[this] at hD2;cases hD2
  have muD3:Mut (H3 D2):=by rw[e3];exact trivial
  refine⟨_,rfl,kp,rfl,⟨_,bT.of hk3⟩,for_list (K:=K) (a:=kp) (xs:=b9 S) (fun i σ' H'=>cE D2 H3 H'∧∃ (r:List V) (v5 v6 v7 v8 v9 v10 v11 v12:Option V),H' D2=some (.lst r)∧IsL K H' (((S.take i).map fun s=>renV (aT 0 S) (aT 0 (spK net S net.sps.length)) (net.vs.getD s vNil)).map vsD) r∧
    σ'=[some (.ref na),some (.int (j:Int)),some (.ref kp),some (.ref D),some (.ref D2),v5,v6,v7,v8,v9,v10,v11,v12])
   ⟨cE.refl _,[],_,_,_,_,_,_,_,_,e3,.nil,rfl⟩ (fun i σ' H' _ p=>bT.of (p.1 _ _ nK hk3)) ?_ ?_⟩
  ·rintro i y σ' H4 hy ⟨b4,r,v5,v6,v7,v8,v9,v10,v11,v12,h4,lr,rfl⟩
   obtain⟨x,hxi,rfl⟩:=natV_at hy
   have hil:=(List.getElem?_eq_some_iff.mp hxi).1
   have hxl:=mS.lt nok.hi hj x (List.mem_of_getElem? hxi)
   have hxx:x < xs.length:=by omega
   have hxj:xs[x]? = some xs[x]:=by simp
   obtain⟨d,hd,iv⟩:=lv.get' hxj
   rw[List.getElem?_map] at hd
   obtain⟨v,hv,rfl⟩:=Option.map_eq_some_iff.mp hd
   have vok:=nok.vs v (List.mem_of_getElem? hv)
   have o3:=vok.o3
   have a3:=vok.a3
   have egd:net.vs.getD x vNil=v:=by rw[List.getD_eq_getElem?_getD,hv];rfl
   have ts4:=s13.ts.trans (b4.ts (K:=K) muD3)
   have hD4:=b4 _ _ nD hD3
   have hk4:=b4 _ _ nK hk3
   obtain⟨a,o,c,ea,q,io,ic⟩:=vs_un (Is.mono ts4 _ _ iv)
   obtain⟨oa,os,rfl,qo,lo⟩:=io.un
   obtain⟨ca,cs,rfl,qc,lc⟩:=ic.un
   have eol:os.length=v.outs.length:=by rw[lo.length,List.length_map]
   have ecl:cs.length=v.acts.length:=by rw[lc.length,List.length_map]
   dsimp only [cY]
   refine⟨_,rfl,.inr (.inl ⟨na,_,0,_,rfl,rfl,ts4 _ _ qn,rfl,_,rfl,.inr (.inl ⟨nb,xs,(x:Int),.ref a,rfl,rfl,ts4 _ _ qv,cS (by rw[hxj,ea]),a,_,rfl,q,rfl,_,_,rfl,_,_,rfl,_,_,rfl,_,_,rfl,_,_,rfl,_,_,rfl,rfl,?_⟩)⟩)⟩
   refine⟨_,rfl,oa,rfl,⟨_,qo⟩,lc_tup (K:=K) (a:=oa) (xs:=os) (fun D i r σ' H'=>H4 D=none∧aJ H4 H'∧H' D=some (.lst r)∧IsL K H' (((v.outs.take i).map (renO (aT 0 S))).map outD) r∧∃ u1 u2,σ'=[u1,u2,some (.ref kp)])
    (fun D i r σ' H' p=>p.2.1.tup qo) (fun D hD=>⟨hD,aJ.new hD,aC,.nil,none,none,rfl⟩) ?_ ?_⟩
   rotate_left
   ·rintro D5 i y r σ' H5 hy ⟨hD5,sm,hDl5,lr,u1,u2,rfl⟩
    obtain⟨t,ht,ta,rfl,qt⟩:=outs_at lo hy
    have hil:=(List.getElem?_eq_some_iff.mp ht).1
    refine⟨ta,_,rfl,sm.tup qt,rfl,_,_,rfl,_,_,rfl,rfl,?_⟩
    refine yes_of ?_
    refine⟨_,rfl,_,rfl,kp,t.1,S,rfl,sm _ _ hk4,mS.nd,_,rfl,(show 2≤sizeLine by decide),fun e he=>?_⟩
    have m1:=aJ.new (o:=HO.tup [cK (t.1.bind (lkp (aT 0 S))),.int t.2]) he
    have i1:Is K (upd H5 e (.tup [cK (t.1.bind (lkp (aT 0 S))),.int t.2])) (outD (renO (aT 0 S) t)) (.ref e):=Is.tupOf (ds:=[tgD (t.1.bind (lkp (aT 0 S))),.int t.2]) (bR.of aC) (.cons (Is.tgOf _) (.cons (Is.i _) .nil))
    generalize upd H5 e (.tup [cK (t.1.bind (lkp (aT 0 S))),.int t.2])=H6 at m1 i1 ⊢
    have hDl6:=m1 _ _ hDl5
    have muD:Mut (H6 D5):=by rw[hDl6];exact trivial
    have hrl:r.length≤12:=by rw[lr.length,List.length_map,List.length_map,List.length_take];omega
    refine⟨hDl6,aN (by omega),hD5,(sm.trans m1).put hD5,aC,?_,_,_,rfl⟩
    rw[List.take_succ,ht,List.map_append,List.map_append]
    exact L2.IsL.snoc (Is.mono (cE.ts cE.upd muD) _ _ i1) (L2.IsL.mono (m1.ts.trans (cE.ts cE.upd muD)) _ _ lr)
   rintro D5 r5 σ' H5 ⟨hD5,sm5,hDl5,lr5,_⟩
   rw[eol,List.take_length] at lr5
   refine⟨D5,r5,rfl,.inl ⟨bT.of hDl5,fun p1 hp1=>?_⟩⟩
   have m6:=aJ.new (o:=HO.tup r5) hp1
   have t6:bR K (upd H5 p1 (.tup r5)) p1 r5:=bR.of aC
   have i6:Is K (upd H5 p1 (.tup r5)) (.tup ((v.outs.map (renO (aT 0 S))).map outD)) (.ref p1):=Is.tupOf t6 (L2.IsL.mono m6.ts _ _ lr5)
   have s46:=sm5.trans m6
   generalize upd H5 p1 (.tup r5)=H6 at m6 t6 i6 s46 ⊢
   dsimp only [cY]
   refine⟨_,rfl,ca,rfl,⟨_,s46.tup qc⟩,lc_tup (K:=K) (a:=ca) (xs:=cs) (fun Dd i r σ' H'=>H6 Dd=none∧aJ H6 H'∧H' Dd=some (.lst r)∧IsL K H' (((v.acts.take i).filterMap (cZ (aT 0 (spK net S net.sps.length)))).map actD) r∧∃ u1 u2,σ'=[u1,u2,some (.ref D)])
    (fun D i r σ' H' p=>p.2.1.tup (s46.tup qc)) (fun D hD=>⟨hD,aJ.new hD,aC,.nil,none,none,rfl⟩) ?_ ?_⟩
   rotate_left
   ·rintro D7 i y r σ' H7 hy ⟨hD7,sm,hDl7,lr,u1,u2,rfl⟩
    obtain⟨t,ht,ta,rfl,qt⟩:=acts_at lc hy
    have hil:=(List.getElem?_eq_some_iff.mp ht).1
    have sA:=s46.trans sm
    have hDD:=sA _ _ hD4
    refine⟨ta,_,rfl,sA.tup qt,rfl,_,_,rfl,_,_,rfl,rfl,?_⟩
    have hsn:(v.acts.take (i+1)).filterMap (cZ (aT 0 (spK net S net.sps.length)))=(v.acts.take i).filterMap (cZ (aT 0 (spK net S net.sps.length)))++(cZ (aT 0 (spK net S net.sps.length)) t).toList:=by
     rw[List.take_succ,ht,List.filterMap_append]
     show _++List.filterMap (cZ (aT 0 (spK net S net.sps.length))) [t]=_
     cases hz:cZ (aT 0 (spK net S net.sps.length)) t <;> simp [List.filterMap_cons,hz]
    have hrl:r.length≤12:=by
     rw[lr.length,List.length_map]
     have:=filterMap_len (cZ (aT 0 (spK net S net.sps.length))) (v.acts.take i)
     rw[List.length_take] at this
     omega
    refine⟨_,rfl,_,rfl,D,_,rfl,.inl (bT.of hDD),rfl,cN _,_,rfl,?_⟩
    rw[if_neg Bool.false_ne_true,inV_nat]
    refine ite2 (fun h1=>?_) fun h1=>?_
    ·obtain⟨z,hz,ez⟩:=of_decide_eq_true h1
     obtain⟨m,hm⟩:=List.mem_iff_getElem?.1 hz
     have ix:=index_at knd hm
     have hn:cZ (aT 0 (spK net S net.sps.length)) t=some (t.1,(m:Int)):=by
      unfold cZ
      rw[ez,lkp_at knd hm,Nat.zero_add];rfl
     rw[hn] at hsn
     refine⟨_,rfl,_,rfl,.inl ⟨rfl,_,bT.of hDD⟩,_,rfl,D,_,_,m,rfl,rfl,hDD,rfl,cN _,ix.1,(fun q hq=>by rw[ez];exact ix.2.1 q hq),(fun i' q hl hq=>by rw[ez];exact ix.2.2 i' q hl hq),(show 2≤sizeLine by decide),fun e he=>?_⟩
     have m1:=aJ.new (o:=HO.tup [.str t.1,.int (m:Int)]) he
     have i1:Is K (upd H7 e (.tup [.str t.1,.int (m:Int)])) (actD (t.1,(m:Int))) (.ref e):=Is.tupOf (ds:=[.str t.1,.int (m:Int)]) (bR.of aC) (.cons (Is.s _) (.cons (Is.i _) .nil))
     generalize upd H7 e (.tup [.str t.1,.int (m:Int)])=H8 at m1 i1 ⊢
     have hDl8:=m1 _ _ hDl7
     have muD:Mut (H8 D7):=by rw[hDl8];exact trivial
     refine⟨hDl8,aN (by omega),hD7,(sm.trans m1).put hD7,aC,?_,_,_,rfl⟩
     rw[hsn,List.map_append]
     exact L2.IsL.snoc (Is.mono (cE.ts cE.upd muD) _ _ i1) (L2.IsL.mono (m1.ts.trans (cE.ts cE.upd muD)) _ _ lr)
    ·have hn:cZ (aT 0 (spK net S net.sps.length)) t=none:=by
      unfold cZ
      rw[lkp_none (fun z=>h1 (decide_eq_true z))];rfl
     rw[hn] at hsn
     refine⟨hD7,sm,hDl7,?_,_,_,rfl⟩
     rw[hsn]
     show IsL K H7 (((v.acts.take i).filterMap (cZ _)++[]).map actD) r
     rw[List.append_nil];exact lr
   rintro D7 r7 σ' H7 ⟨hD7,sm7,hDl7,lr7,_⟩
   rw[ecl,List.take_length] at lr7
   refine⟨D7,r7,rfl,.inl ⟨bT.of hDl7,fun p2 hp2=>?_⟩⟩
   have m8:=aJ.new (o:=HO.tup r7) hp2
   have t8:bR K (upd H7 p2 (.tup r7)) p2 r7:=bR.of aC
   have i8:Is K (upd H7 p2 (.tup r7)) (.tup ((v.acts.filterMap (cZ (aT 0 (spK net S net.sps.length)))).map actD)) (.ref p2):=Is.tupOf t8 (L2.IsL.mono m8.ts _ _ lr7)
   have s68:=sm7.trans m8
   generalize upd H7 p2 (.tup r7)=H8 at m8 t8 i8 s68 ⊢
   dsimp only [cY]
   have s48:=s46.trans s68
   have h8:=s48 _ _ h4
   have i68:=Is.mono s68.ts _ _ i6
   refine⟨_,rfl,.inl ⟨rfl,_,bT.of h8⟩,_,rfl,_,rfl,_,rfl,_,rfl,_,rfl,_,rfl,kp,v.spill,S,rfl,s48 _ _ hk4,mS.nd,_,rfl,(show 6≤sizeLine by decide),fun e he=>?_⟩
   have m9:=aJ.new (o:=HO.tup [.int v.size,.int v.brim,.ref p1,.bl v.holds,cK (v.spill.bind (lkp (aT 0 S))),.ref p2]) he
   have i9:Is K (upd H8 e (.tup [.int v.size,.int v.brim,.ref p1,.bl v.holds,cK (v.spill.bind (lkp (aT 0 S))),.ref p2])) (vsD (renV (aT 0 S) (aT 0 (spK net S net.sps.length)) v)) (.ref e):=
    Is.tupOf (ds:=[.int v.size,.int v.brim,.tup ((v.outs.map (renO (aT 0 S))).map outD),.bl v.holds,tgD (v.spill.bind (lkp (aT 0 S))),.tup ((v.acts.filterMap (cZ (aT 0 (spK net S net.sps.length)))).map actD)]) (bR.of aC)
     (.cons (Is.i _) (.cons (Is.i _) (.cons (Is.mono m9.ts _ _ i68) (.cons (Is.b _) (.cons (Is.tgOf _) (.cons (Is.mono m9.ts _ _ i8) .nil))))))
   generalize upd H8 e (.tup [.int v.size,.int v.brim,.ref p1,.bl v.holds,cK (v.spill.bind (lkp (aT 0 S))),.ref p2])=H9 at m9 i9 ⊢
   have s49:=s48.trans m9
   have h9:=s49 _ _ h4
   have muD:Mut (H9 D2):=by rw[h9];exact trivial
   have hrl:r.length≤12:=by rw[lr.length,List.length_map,List.length_map,List.length_take];omega
   refine⟨D2,r,_,rfl,rfl,h9,aN (by omega),(b4.trans s49.but).trans cE.upd,_,_,_,_,_,_,_,_,_,aC,?_,rfl⟩
   rw[List.take_succ,hxi,List.map_append,List.map_append]
   refine L2.IsL.snoc ?_ (L2.IsL.mono (s49.ts.trans (cE.ts cE.upd muD)) _ _ lr)
   show Is K _ (vsD (renV _ _ (net.vs.getD x vNil))) _
   rw[egd]
   exact Is.mono (cE.ts cE.upd muD) _ _ i9
  rintro σ' H4 ⟨b4,rv,v5,v6,v7,v8,v9,v10,v11,v12,h4,lrv,rfl⟩
  rw[natV_len,List.take_length] at lrv
  have ts4:=s13.ts.trans (b4.ts (K:=K) muD3)
  have hD4:=b4 _ _ nD hD3
  have hk4:=b4 _ _ nK hk3
  have qn4:=ts4 _ _ qn
  have qs4:=ts4 _ _ qs
  have ls4:=L2.IsL.mono ts4 _ _ ls
  refine⟨_,rfl,D,rfl,⟨_,bT.of hD4⟩,lc_list (K:=K) (a:=D) (xs:=b9 (spK net S net.sps.length)) (fun Dd i r σ' H'=>H4 Dd=none∧aJ H4 H'∧H' Dd=some (.lst r)∧IsL K H' ((((spK net S net.sps.length).take i).map fun z=>renS (aT 0 S) (net.sps.getD z (0,0,false))).map spD) r∧∃ u,σ'=[u,some (.ref kp),some (.ref na)])
   (fun Dd i r σ' H' p=>bT.of (p.2.1 _ _ hD4)) (fun Dd hDd=>⟨hDd,aJ.new hDd,aC,.nil,none,rfl⟩) ?_ ?_⟩
  rotate_left
  ·rintro Dd i y r σ' H5 hy ⟨hDd,sm,hDl5,lr,u,rfl⟩
   obtain⟨z,hz,rfl⟩:=natV_at hy
   have hzm:=List.mem_of_getElem? hz
   have hil:=(List.getElem?_eq_some_iff.mp hz).1
   have hzl:=List.mem_range.1 (List.mem_filter.1 hzm).1
   obtain⟨s',hs',es⟩:=of_decide_eq_true (List.mem_filter.1 hzm).2
   obtain⟨m,hm⟩:=List.mem_iff_getElem?.1 hs'
   have ix:=index_at mS.nd hm
   have hzy:z < ys.length:=by omega
   have hyj:ys[z]? = some ys[z]:=by simp
   obtain⟨sp,hsp,sa,esa,qsa⟩:=sps_at ls4 hyj
   have egd:net.sps.getD z (0,0,false)=sp:=by rw[List.getD_eq_getElem?_getD,hsp];rfl
   have es1:sp.1=(s':Int):=by
    rw[← es,← egd];rfl
   have hk5:=sm _ _ hk4
   refine name_yes ?_
   refine⟨_,rfl,.inl ⟨rfl,_,bT.of hk5⟩,_,rfl,.inr (.inl ⟨na,_,1,_,rfl,rfl,sm.tup qn4,rfl,_,rfl,.inr (.inl ⟨nc,ys,(z:Int),.ref sa,rfl,rfl,sm.tup qs4,cS (by rw[hyj,esa]),.inr (.inl ⟨sa,_,0,_,rfl,rfl,sm.tup qsa,rfl,
    kp,_,_,m,rfl,rfl,hk5,rfl,cN _,ix.1,(fun q hq=>by rw[es1];exact ix.2.1 q hq),(fun i' q hl hq=>by rw[es1];exact ix.2.2 i' q hl hq),(show 1≤sizeLine by decide),fun e he=>?_⟩)⟩)⟩)⟩
   have m6:=aJ.new (o:=HO.tup [.int (m:Int)]) he
   have t6:bR K (upd H5 e (.tup [.int (m:Int)])) e [.int (m:Int)]:=bR.of aC
   generalize upd H5 e (.tup [.int (m:Int)])=H6 at m6 t6 ⊢
   have s46:=sm.trans m6
   refine⟨_,rfl,.inr (.inl ⟨na,_,1,_,rfl,rfl,s46.tup qn4,rfl,_,rfl,.inr (.inl ⟨nc,ys,(z:Int),.ref sa,rfl,rfl,s46.tup qs4,cS (by rw[hyj,esa]),1,rfl,sa,_,rfl,s46.tup qsa,(fun c=>absurd (show (1:Nat)=0 from c.1) (by decide)),fun p hp=>?_⟩)⟩)⟩
   have m7:=aJ.new (o:=HO.tup (cutV [.int sp.1,.int sp.2.1,.bl sp.2.2] (some 1) none)) hp
   refine⟨e,p,_,_,rfl,rfl,m7.tup t6,bR.of aC,(show 3≤sizeLine by decide),fun p' H8 s8 t8=>?_⟩
   have s48:=(s46.trans m7).trans s8
   have i8:Is K H8 (spD (renS (aT 0 S) sp)) (.ref p'):=by
    unfold renS
    rw[es1,lkp_at mS.nd hm,Nat.zero_add]
    exact Is.tupOf (ds:=[.int (m:Int),.int sp.2.1,.bl sp.2.2]) t8 (.cons (Is.i _) (.cons (Is.i _) (.cons (Is.b _) .nil)))
   have s58:=(m6.trans m7).trans s8
   have h8:=s58 _ _ hDl5
   have muD:Mut (H8 Dd):=by rw[h8];exact trivial
   have hrl:r.length≤12:=by
    rw[lr.length,List.length_map,List.length_map,List.length_take]
    omega
   refine⟨h8,aN (by omega),hDd,s48.put hDd,aC,?_,_,rfl⟩
   rw[List.take_succ,hz,List.map_append,List.map_append]
   refine L2.IsL.snoc ?_ (L2.IsL.mono (s58.ts.trans (cE.ts cE.upd muD)) _ _ lr)
   show Is K _ (spD (renS _ (net.sps.getD z (0,0,false)))) _
   rw[egd]
   exact Is.mono (cE.ts cE.upd muD) _ _ i8
  rintro D5 r5 σ' H5 ⟨hD5,sm5,hDl5,lr5,_⟩
  rw[natV_len,List.take_length] at lr5
  refine⟨D5,r5,rfl,.inl ⟨bT.of hDl5,fun p2 hp2=>?_⟩⟩
  have m6:=aJ.new (o:=HO.tup r5) hp2
  have i6:Is K (upd H5 p2 (.tup r5)) (.tup (((spK net S net.sps.length).map fun z=>renS (aT 0 S) (net.sps.getD z (0,0,false))).map spD)) (.ref p2):=Is.tupOf (bR.of aC) (L2.IsL.mono m6.ts _ _ lr5)
  have s46:=sm5.trans m6
  generalize upd H5 p2 (.tup r5)=H6 at m6 i6 s46 ⊢
  dsimp only [cY]
  refine⟨_,rfl,D2,rv,rfl,.inl ⟨bT.of (s46 _ _ h4),fun p1 hp1=>?_⟩⟩
  have m7:=aJ.new (o:=HO.tup rv) hp1
  have i7:Is K (upd H6 p1 (.tup rv)) (.tup ((S.map fun s=>renV (aT 0 S) (aT 0 (spK net S net.sps.length)) (net.vs.getD s vNil)).map vsD)) (.ref p1):=Is.tupOf (bR.of aC) (L2.IsL.mono (s46.trans m7).ts _ _ lrv)
  generalize upd H6 p1 (.tup rv)=H7 at m7 i7 ⊢
  refine⟨_,rfl,(show 2≤sizeLine by decide),fun pn hpn=>?_⟩
  have m8:=aJ.new (o:=HO.tup [.ref p1,.ref p2]) hpn
  have i8:Is K (upd H7 pn (.tup [.ref p1,.ref p2])) (netD (trimN net S)) (.ref pn):=by
   unfold trimN renN
   rw[numF_map (fun s=>renV (aT 0 S) (aT 0 (spK net S net.sps.length)) (net.vs.getD s vNil)) S 0,numF_map (fun z=>renS (aT 0 S) (net.sps.getD z (0,0,false))) (spK net S net.sps.length) 0]
   exact Is.tupOf (ds:=[_,_]) (bR.of aC) (.cons (Is.mono m8.ts _ _ i7) (.cons (Is.mono (m7.trans m8).ts _ _ i6) .nil))
  generalize upd H7 pn (.tup [.ref p1,.ref p2])=H8 at m8 i8 ⊢
  have s48:=(s46.trans m7).trans m8
  have hk8:=s48 _ _ hk4
  have jS:j∈S:=(mS.mem j).2 (.inl (mat_ok nok.hi hj).2.2)
  obtain⟨i,hi⟩:=List.mem_iff_getElem?.1 jS
  have ix:=index_at mS.nd hi
  refine⟨_,rfl,.inl ⟨rfl,_,bT.of hk8⟩,_,rfl,kp,_,_,i,rfl,rfl,hk8,rfl,cN _,ix.1,ix.2.1,ix.2.2,(show 2≤sizeLine by decide),fun p hp=>?_⟩
  have m9:=aJ.new (o:=HO.tup [.ref pn,.int (i:Int)]) hp
  refine k _ S i _ (fun b o hb=>m9 _ _ (s48 _ _ (b4 _ _ (fun z=>?_) (s13 _ _ (s1 _ _ hb))))) mS hi (Is.tupOf (ds:=[netD (trimN net S),.int (i:Int)]) (bR.of aC) (.cons (Is.mono m9.ts _ _ i8) (.cons (Is.i _) .nil)))
  have:=s2 _ _ (s1 _ _ hb)
  rw[z,hD2] at this
  cases this
end
end Tw
namespace Tw
open PySem L2
structure TxtS (mg:Str→Option Value):Prop where
 b_str:mg "str" = none
theorem boot_str:bootBuiltins "str" = some (.type "str"):=by decide +kernel
theorem kit_ss (K:PySem.W.Frag):PySem.W.kitOne K (.type "str") (.type "str")=some true:=by
 unfold PySem.W.kitOne;rw[if_pos (by decide +kernel)]
section
variable {P:Program}{w:World}{K:PySem.W.Frag}{mg:Str→Option Value}{base:Heap}{aw:Addr}
theorem sc__law_whole:FnScope ["thing","low","high"] ["thing","low","high"] (aK (bH 23)):=⟨rfl,rfl,rfl,by decide +kernel,rfl,by decide +kernel,by decide +kernel⟩
theorem ok__law_whole {f:Addr}{fd:FuncData} (F:Fun K "_law_whole" "_law_whole" (bH 23) f fd) (T:Txt mg):FnOk P w K mg base CX0 1 f fd ["thing","low","high"] spWhole:=by
 refine F.ok sc__law_whole (fun vs H Q E h=>?_) (fun cdv A outer s H vs Q E hr h=>?_)
 ·obtain⟨n,lo,hi,rfl,_⟩:=h;rfl
 ·obtain⟨n,lo,hi,rfl,h1,h2,k⟩:=h
  have sc:=sc__law_whole
  refine⟨_,(aI (aX (pe_and (aL (bO (K:=K) rfl) rfl T.b_isinstance aZ (aA (pv 0) (aA (cD (v:=.ty "int") rfl T.b_int bt_int rfl) aB))) (pe_and (pe_not (aL (bO (K:=K) rfl) rfl T.b_isinstance aZ (aA (pv 0) (aA (cD (v:=.ty "bool") rfl T.b_bool bt_bool rfl) aB)))) (pe_and (pe_cmpR op_le (pv 1) (pv 0) (bK _)) (pe_one (pe_cmpR op_le (pv 0) (pv 2) (bK _)))))))),?_⟩
  refine⟨_,rfl,_,"int",_,true,rfl,.inl (.int _),kit_ii K,_,rfl,iteT ?_⟩
  refine⟨_,rfl,_,"bool",_,false,rfl,.inl (.int _),kit_ib K,_,rfl,_,rfl,iteT ?_⟩
  refine⟨_,rfl,_,rfl,_,_,rfl,rfl,_,rfl,iteD h1 ⟨_,rfl,_,rfl,_,_,rfl,rfl,?_⟩⟩
  show Q (.bl (decide _)) H
  rw[decide_eq_true h2];exact k
theorem sc__law_is_vessel:FnScope ["thing","number","many","spouts","pair","target","parts","word","spout"] ["thing","number","many","spouts"] (aK (bH 29)):=⟨rfl,rfl,rfl,by decide +kernel,rfl,by decide +kernel,by decide +kernel⟩
theorem ok__law_is_vessel {f f1:Addr}{fd fd1:FuncData} (F:Fun K "_law_is_vessel" "_law_is_vessel" (bH 29) f fd) (T:Txt mg) (TS:TxtS mg) (G__law_whole:Callee P w K mg base "_law_whole" ["thing","low","high"] 1 spWhole f1 fd1) :
  FnOk P w K mg base CX0 2 f fd ["thing","number","many","spouts"] (spIsVessel K):=by
 refine F.ok sc__law_is_vessel (fun vs H Q E h=>?_) (fun cdv A outer s H vs Q E hr h=>?_)
 ·obtain⟨x,i,n,m,v,rfl,_⟩:=h;rfl
 ·obtain⟨x,i,n,m,v,rfl,hx,ok,fu,k⟩:=h
  have sc:=sc__law_is_vessel
  refine⟨_,(aE (cB (PW.pt (cU (bS (bW (aL (bO (K:=K) rfl) rfl T.b_isinstance aZ (aA (pv 0) (aA (cD (v:=.ty "tuple") rfl T.b_tuple bG rfl) aB))))) (cU (aS op_ne (aL (aW (K:=K) rfl) rfl T.b_len PySem.boot_len (aA (pv 0) aB)) aD (bK _)) (cP (bS (bW (d0 G__law_whole hr (aA (aM (aG (K:=K) rfl) (pv 0) aD (fun _ _=>rfl)) (aA aD (aA aD aB)))))))))) (aI (aX cW)) bB)
   (aE (cB (PW.pt (cU (bS (bW (d0 G__law_whole hr (aA (aM (aG (K:=K) rfl) (pv 0) aD (fun _ _=>rfl)) (aA (aM (aG (K:=K) rfl) (pv 0) aD (fun _ _=>rfl)) (aA aD aB)))))) (cP (bS (bW (aL (bO (K:=K) rfl) rfl T.b_isinstance aZ (aA (aM (aG (K:=K) rfl) (pv 0) aD (fun _ _=>rfl)) (aA (cD (v:=.ty "bool") rfl T.b_bool bt_bool rfl) aB)))))))) (aI (aX cW)) bB)
   (aE (cB (PW.pt (cU (bS (bW (aL (bO (K:=K) rfl) rfl T.b_isinstance aZ (aA (aM (aG (K:=K) rfl) (pv 0) aD (fun _ _=>rfl)) (aA (cD (v:=.ty "tuple") rfl T.b_tuple bG rfl) aB))))) (cP (bS (pt_chain op_le op_le aD (aL (aW (K:=K) rfl) rfl T.b_len PySem.boot_len (aA (aM (aG (K:=K) rfl) (pv 0) aD (fun _ _=>rfl)) aB)) aD))))) (aI (aX cW)) bB)
   (aE (cB (PW.pt (cU (bS (bW (aL (bO (K:=K) rfl) rfl T.b_isinstance aZ (aA (aM (aG (K:=K) rfl) (pv 0) aD (fun _ _=>rfl)) (aA (cD (v:=.ty "tuple") rfl T.b_tuple bG rfl) aB))))) (cP (aS op_gt (aL (aW (K:=K) rfl) rfl T.b_len PySem.boot_len (aA (aM (aG (K:=K) rfl) (pv 0) aD (fun _ _=>rfl)) aB)) aD (bK _))))) (aI (aX cW)) bB)
   (aE (cT PassesOwn.never rfl (cJ (K:=K) rfl (aU (op_catTZK (K:=K) rfl) (aM (aG (K:=K) rfl) (pv 0) aD (fun _ _=>rfl)) (aM (aG (K:=K) rfl) (pv 0) aD (fun _ _=>rfl)))) (aF (i:=4) sc.nd rfl (Or.inl rfl)) (aI (cB (PW.pt (cU (bS (bW (aL (bO (K:=K) rfl) rfl T.b_isinstance aZ (aA (pv 4) (aA (cD (v:=.ty "tuple") rfl T.b_tuple bG rfl) aB))))) (cP (aS op_ne (aL (aW (K:=K) rfl) rfl T.b_len PySem.boot_len (aA (pv 4) aB)) aD (bK _))))) (aI (aX cW)) bB)))
   (aE (cT PassesOwn.never rfl (cJ (K:=K) rfl (aM (aG (K:=K) rfl) (pv 0) aD (fun _ _=>rfl))) (bN (K:=K) (n:=2) rfl rfl (aH (aF (i:=5) sc.nd rfl (Or.inl rfl)) (aH (aF (i:=6) sc.nd rfl (Or.inl rfl)) bM))) (aI (cB (PW.pt (cU (PW.pt (pw_and (aS op_notN (pv 5) pe_non (bK _)) (pw_and1 (bS (bW (d0 G__law_whole hr (aA (pv 5) (aA aD (aA (aU op_sub (pv 2) aD) aB))))))))) (cP (bS (bW (d0 G__law_whole hr (aA (pv 6) (aA aD (aA aD aB))))))))) (aI (aX cW)) bB)))
   (aE (cT PassesOwn.never rfl (cJ (K:=K) rfl (aM (aG (K:=K) rfl) (pv 0) aD (fun _ _=>rfl))) (bN (K:=K) (n:=2) rfl rfl (aH (aF (i:=7) sc.nd rfl (Or.inl rfl)) (aH (aF (i:=8) sc.nd rfl (Or.inl rfl)) bM))) (aI (cB (PW.pt (cU (bS (bW (aL (bO (K:=K) rfl) rfl T.b_isinstance aZ (aA (pv 7) (aA (cD (v:=.ty "str") rfl TS.b_str boot_str rfl) aB))))) (cU (aS (op_ninK (K:=K) rfl) (pv 7) (bJ (aA cI (aA cI (aA cI aB)))) (by rfl)) (cP (bS (bW (d0 G__law_whole hr (aA (pv 8) (aA aD (aA (aU op_sub (pv 3) aD) aB)))))))))) (aI (aX cW)) bB)))
   (aI (aX (pe_or (pe_cmpR op_isN (aM (aG (K:=K) rfl) (pv 0) aD (fun _ _=>rfl)) pe_non (bK _)) (pe_one (d0 G__law_whole hr (aA (aM (aG (K:=K) rfl) (pv 0) aD (fun _ _=>rfl)) (aA (aU cM (pv 1) aD) (aA (aU op_sub (pv 2) aD) aB))))))))))))))),?_⟩
  obtain⟨va,o,cc,rfl,qv,ho,hc⟩:=vs_un hx
  obtain⟨oa,os,rfl,qo,lo⟩:=ho.un
  obtain⟨ca,cs,rfl,qc,lc⟩:=hc.un
  have eol:os.length=v.outs.length:=by rw[lo.length,List.length_map]
  have ecl:cs.length=v.acts.length:=by rw[lc.length,List.length_map]
  have ne1:1≤v.outs.length:=by
   rcases Nat.eq_zero_or_pos v.outs.length with e | e
   ·exact absurd (List.eq_nil_of_length_eq_zero e) ok.ne
   ·exact e
  have o3:=ok.o3
  have a3:=ok.a3
  refine⟨_,rfl,_,"tuple",_,true,rfl,.inr ⟨va,_,rfl,qv,rfl⟩,kit_tt K,_,rfl,cG ?_⟩
  refine⟨_,rfl,va,_,rfl,.inr qv,rfl,_,rfl,cG ?_⟩
  refine⟨_,rfl,.inr (.inl ⟨va,_,0,_,rfl,rfl,qv,rfl,v.size,1,60,rfl,ok.size,fu.sz,_,rfl,cG ?_⟩)⟩
  refine⟨_,rfl,.inr (.inl ⟨va,_,1,_,rfl,rfl,qv,rfl,_,rfl,.inr (.inl ⟨va,_,0,_,rfl,rfl,qv,rfl,v.brim,v.size,200,rfl,fu.br,fu.bh,_,rfl,cG ?_⟩)⟩)⟩
  refine⟨_,rfl,.inr (.inl ⟨va,_,3,_,rfl,rfl,qv,rfl,_,"bool",_,true,rfl,.inl (.bl _),kit_bb K,_,rfl,cG ?_⟩)⟩
  refine⟨_,rfl,.inr (.inl ⟨va,_,2,_,rfl,rfl,qv,rfl,_,"tuple",_,true,rfl,.inr ⟨oa,_,rfl,qo,rfl⟩,kit_tt K,_,rfl,cG ?_⟩)⟩
  refine⟨_,rfl,.inr (.inl ⟨va,_,2,_,rfl,rfl,qv,rfl,oa,os,rfl,.inr qo,_,_,rfl,rfl,_,rfl,iteD (show (1:Int)≤(os.length:Int) by omega) ⟨_,_,rfl,rfl,_,rfl,?_⟩⟩)⟩
  rw[decide_eq_true (show (os.length:Int)≤3 by omega)]
  refine cG ?_
  refine⟨_,rfl,.inr (.inl ⟨va,_,5,_,rfl,rfl,qv,rfl,_,"tuple",_,true,rfl,.inr ⟨ca,_,rfl,qc,rfl⟩,kit_tt K,_,rfl,cG ?_⟩)⟩
  refine⟨_,rfl,.inr (.inl ⟨va,_,5,_,rfl,rfl,qv,rfl,ca,cs,rfl,.inr qc,_,_,rfl,rfl,_,rfl,ite2 (fun z=>?_) fun _=>?_⟩)⟩
  ·have z':(3:Int) < (cs.length:Int):=of_decide_eq_true z
   omega
  refine⟨_,rfl,.inr (.inl ⟨va,_,2,_,rfl,rfl,qv,rfl,_,rfl,.inr (.inl ⟨va,_,5,_,rfl,rfl,qv,rfl,oa,ca,os,cs,rfl,rfl,qo,qc,Nat.le_of_lt (aN (by omega)),fun pp H1 s1 qp=>?_⟩)⟩)⟩
  have pairs:∀ (j:Nat) (x:V),(os++cs)[j]? = some x→∃ a y z,x=.ref a∧bR K H a [y,z]:=fun j x hx=>by
   by_cases h:j < os.length
   ·rw[List.getElem?_append_left h] at hx
    obtain⟨ot,_,oad,rfl,qot⟩:=outs_at lo hx
    exact⟨oad,_,_,rfl,qot⟩
   ·rw[List.getElem?_append_right (by omega)] at hx
    obtain⟨at',_,aa,rfl,qa⟩:=acts_at lc hx
    exact⟨aa,_,_,rfl,qa⟩
  refine⟨pp,rfl,⟨_,qp⟩,for_tup (K:=K) (a:=pp) (xs:=os++cs) (fun j σ' H'=>aJ H1 H'∧∃ v4,σ'=[some (.ref va),some (.int (i:Int)),some (.int (n:Int)),some (.int (m:Int)),v4,none,none,none,none]) ⟨aJ.refl _,_,rfl⟩ (fun j σ' H' _ p=>p.1.tup qp) ?_ ?_⟩
  ·rintro j x σ' H2 hx ⟨s2,v4,rfl⟩
   obtain⟨a,y,z,rfl,qa⟩:=pairs j x hx
   have qa2:=(s1.trans s2).tup qa
   dsimp only [cY]
   refine⟨_,rfl,_,"tuple",_,true,rfl,.inr ⟨a,_,rfl,qa2,rfl⟩,kit_tt K,_,rfl,cG ?_⟩
   refine⟨_,rfl,a,_,rfl,.inr qa2,rfl,_,rfl,iteNS rfl ?_⟩
   exact⟨s2,_,rfl⟩
  rintro σ' H2 ⟨s2,v4,rfl⟩
  have s02:=s1.trans s2
  refine⟨_,rfl,.inr (.inl ⟨va,_,2,_,rfl,rfl,s02.tup qv,rfl,oa,rfl,⟨_,s02.tup qo⟩,for_tup (K:=K) (a:=oa) (xs:=os) (fun j σ' H'=>aJ H2 H'∧∃ v5 v6,σ'=[some (.ref va),some (.int (i:Int)),some (.int (n:Int)),some (.int (m:Int)),v4,v5,v6,none,none]) ⟨aJ.refl _,_,_,rfl⟩ (fun j σ' H' _ p=>(s02.trans p.1).tup qo) ?_ ?_⟩)⟩
  ·rintro j x σ' H3 hx ⟨s3,v5,v6,rfl⟩
   obtain⟨ot,hot,oad,rfl,qot⟩:=outs_at lo hx
   have ook:=ok.outs _ (List.mem_of_getElem? hot)
   refine⟨oad,_,rfl,(s02.trans s3).tup qot,rfl,_,_,rfl,_,_,rfl,rfl,?_⟩
   cases ho1:ot.1 with
   | none=>
    refine⟨_,rfl,rfl,_,rfl,iteNS rfl (cG ?_)⟩
    refine⟨_,rfl,ot.2,1,60,rfl,ook.lo,ook.hi,_,rfl,cG ?_⟩
    exact⟨s3,_,_,rfl⟩
   | some t=>
    have ht:=ook.tg t ho1
    refine⟨_,rfl,rfl,_,rfl,iteT ?_⟩
    refine⟨_,rfl,_,rfl,_,_,rfl,rfl,t,0,_,rfl,ht.1,by omega,_,rfl,cG ?_⟩
    refine⟨_,rfl,ot.2,1,60,rfl,ook.lo,ook.hi,_,rfl,cG ?_⟩
    exact⟨s3,_,_,rfl⟩
  rintro σ' H3 ⟨s3,v5,v6,rfl⟩
  have s03:=s02.trans s3
  refine⟨_,rfl,.inr (.inl ⟨va,_,5,_,rfl,rfl,s03.tup qv,rfl,ca,rfl,⟨_,s03.tup qc⟩,for_tup (K:=K) (a:=ca) (xs:=cs) (fun j σ' H'=>aJ H3 H'∧∃ v7 v8,σ'=[some (.ref va),some (.int (i:Int)),some (.int (n:Int)),some (.int (m:Int)),v4,v5,v6,v7,v8]) ⟨aJ.refl _,_,_,rfl⟩ (fun j σ' H' _ p=>(s03.trans p.1).tup qc) ?_ ?_⟩)⟩
  ·rintro j x σ' H4 hx ⟨s4,v7,v8,rfl⟩
   obtain⟨at',hat,aa,rfl,qa⟩:=acts_at lc hx
   have aok:=ok.acts _ (List.mem_of_getElem? hat)
   have ah:=aok.hi
   refine⟨aa,_,rfl,(s03.trans s4).tup qa,rfl,_,_,rfl,_,_,rfl,rfl,?_⟩
   refine⟨_,rfl,_,"str",_,true,rfl,.inl (.str _),kit_ss K,_,rfl,cG ?_⟩
   refine⟨_,rfl,(show 3≤sizeLine by decide),fun l hl=>?_⟩
   have s5:=aJ.new (o:=HO.lst [.str "open",.str "shut",.str "turn"]) hl
   have hin:inV (.str at'.1) [.str "open",.str "shut",.str "turn"]=true:=by
    rcases aok.word with e | e | e <;> rw[e] <;> decide +kernel
   refine⟨l,_,rfl,.inl (bT.of aC),rfl,rfl,_,rfl,?_⟩
   rw[show (if true=true then !inV (V.str at'.1) [.str "open",.str "shut",.str "turn"] else inV (V.str at'.1) [.str "open",.str "shut",.str "turn"])=false by rw[hin];rfl]
   refine cG ?_
   refine⟨_,rfl,_,rfl,_,_,rfl,rfl,at'.2,0,_,rfl,aok.lo,by omega,_,rfl,cG ?_⟩
   exact⟨s4.trans s5,_,_,rfl⟩
  rintro σ' H4 ⟨s4,v7,v8,rfl⟩
  have s04:=s03.trans s4
  have qv4:=s04.tup qv
  cases hsp:v.spill with
  | none=>
   rw[hsp] at qv4
   exact⟨_,rfl,.inr (.inl ⟨va,_,4,_,rfl,rfl,qv4,rfl,rfl,_,rfl,iteT (k _ s04)⟩)⟩
  | some t=>
   rw[hsp] at qv4
   have h1:=ok.spill t hsp
   have h2:=fu.sp t hsp
   refine⟨_,rfl,.inr (.inl ⟨va,_,4,_,rfl,rfl,qv4,rfl,rfl,_,rfl,cG ?_⟩)⟩
   exact⟨_,rfl,.inr (.inl ⟨va,_,4,_,rfl,rfl,qv4,rfl,_,rfl,_,_,rfl,rfl,_,rfl,_,_,rfl,rfl,t,_,_,rfl,by omega,by omega,k _ s04⟩)⟩
theorem sc__law_is_net:FnScope ["thing","number","spout"] ["thing"] (aK (bH 28)):=⟨rfl,rfl,rfl,by decide +kernel,rfl,by decide +kernel,by decide +kernel⟩
theorem ok__law_is_net {f f1 f2:Addr}{fd fd1 fd2:FuncData} (F:Fun K "_law_is_net" "_law_is_net" (bH 28) f fd) (T:Txt mg) (G__law_whole:Callee P w K mg base "_law_whole" ["thing","low","high"] 1 spWhole f1 fd1)
  (G__law_is_vessel:Callee P w K mg base "_law_is_vessel" ["thing","number","many","spouts"] 2 (spIsVessel K) f2 fd2):FnOk P w K mg base CX0 3 f fd ["thing"] (spIsNet K):=by
 refine F.ok sc__law_is_net (fun vs H Q E h=>?_) (fun cdv A outer s H vs Q E hr h=>?_)
 ·obtain⟨x,net,rfl,_⟩:=h;rfl
 ·obtain⟨x,net,rfl,hx,nok,nfu,k⟩:=h
  have sc:=sc__law_is_net
  refine⟨_,(aE (cB (PW.pt (cU (bS (bW (aL (bO (K:=K) rfl) rfl T.b_isinstance aZ (aA (pv 0) (aA (cD (v:=.ty "tuple") rfl T.b_tuple bG rfl) aB))))) (cU (aS op_ne (aL (aW (K:=K) rfl) rfl T.b_len PySem.boot_len (aA (pv 0) aB)) aD (bK _)) (cP (bS (bW (aL (call_allK (K:=K) rfl rfl) rfl T.b_all PyProof.Rows.boot_all (aA (pe_lc (fun _ _ h=>h) rfl (LcOk.mk (N':=["part"]) (fr:=[none]) rfl trivial rfl rfl rfl rfl rfl trivial) (cJ (K:=K) rfl (pv 0)) (fun _ _ _=>(aF (i:=0) (show (["part"]:List Str).Nodup by decide +kernel) rfl (Or.inl rfl) (Or.inr rfl))) (fun _ _ _=>cR) (fun _ _ _=>(aL (bO (K:=K) rfl) rfl T.b_isinstance aZ (aA (pv 0) (aA (cD (v:=.ty "tuple") rfl T.b_tuple bG rfl) aB))))) aB)))))))) (aI (aX cW)) bB)
   (aE (cB (PW.pt (cU (bS (pt_chain op_le op_le aD (aL (aW (K:=K) rfl) rfl T.b_len PySem.boot_len (aA (aM (aG (K:=K) rfl) (pv 0) aD (fun _ _=>rfl)) aB)) aD)) (cP (aS op_gt (aL (aW (K:=K) rfl) rfl T.b_len PySem.boot_len (aA (aM (aG (K:=K) rfl) (pv 0) aD (fun _ _=>rfl)) aB)) aD (bK _))))) (aI (aX cW)) bB)
   (aE (cT PassesOwn.never rfl (cO rfl T.b_range (aA (aL (aW (K:=K) rfl) rfl T.b_len PySem.boot_len (aA (aM (aG (K:=K) rfl) (pv 0) aD (fun _ _=>rfl)) aB)) aB)) (aF (i:=1) sc.nd rfl (Or.inl rfl)) (aI (cB (bS (bW (d0 G__law_is_vessel hr (aA (aM (aG (K:=K) rfl) (aM (aG (K:=K) rfl) (pv 0) aD (fun _ _=>rfl)) (pv 1) (fun _ _=>rfl)) (aA (pv 1) (aA (aL (aW (K:=K) rfl) rfl T.b_len PySem.boot_len (aA (aM (aG (K:=K) rfl) (pv 0) aD (fun _ _=>rfl)) aB)) (aA (aL (aW (K:=K) rfl) rfl T.b_len PySem.boot_len (aA (aM (aG (K:=K) rfl) (pv 0) aD (fun _ _=>rfl)) aB)) aB))))))) (aI (aX cW)) bB)))
   (aE (cT PassesOwn.never rfl (cJ (K:=K) rfl (aM (aG (K:=K) rfl) (pv 0) aD (fun _ _=>rfl))) (aF (i:=2) sc.nd rfl (Or.inl rfl)) (aE (cB (PW.pt (cU (bS (bW (aL (bO (K:=K) rfl) rfl T.b_isinstance aZ (aA (pv 2) (aA (cD (v:=.ty "tuple") rfl T.b_tuple bG rfl) aB))))) (cU (aS op_ne (aL (aW (K:=K) rfl) rfl T.b_len PySem.boot_len (aA (pv 2) aB)) aD (bK _)) (cP (bS (bW (aL (bO (K:=K) rfl) rfl T.b_isinstance aZ (aA (aM (aG (K:=K) rfl) (pv 2) aD (fun _ _=>rfl)) (aA (cD (v:=.ty "bool") rfl T.b_bool bt_bool rfl) aB))))))))) (aI (aX cW)) bB)
   (aI (cB (PW.pt (cU (bS (bW (d0 G__law_whole hr (aA (aM (aG (K:=K) rfl) (pv 2) aD (fun _ _=>rfl)) (aA aD (aA (aU op_sub (aL (aW (K:=K) rfl) rfl T.b_len PySem.boot_len (aA (aM (aG (K:=K) rfl) (pv 0) aD (fun _ _=>rfl)) aB)) aD) aB)))))) (cP (bS (bW (d0 G__law_whole hr (aA (aM (aG (K:=K) rfl) (pv 2) aD (fun _ _=>rfl)) (aA aD (aA aD aB))))))))) (aI (aX cW)) bB))))
   (aI (aX cW)))))),?_⟩
  obtain⟨a,b,c,xs,ys,rfl,q,q1,l1,q2,l2⟩:=net_un hx
  have exl:xs.length=net.vs.length:=by rw[l1.length,List.length_map]
  have eyl:ys.length=net.sps.length:=by rw[l2.length,List.length_map]
  have n1:=nok.lo
  have n2:=nok.hi
  have n3:=nok.sp
  refine⟨_,rfl,_,"tuple",_,true,rfl,.inr ⟨a,_,rfl,q,rfl⟩,kit_tt K,_,rfl,cG ?_⟩
  refine⟨_,rfl,a,_,rfl,.inr q,rfl,_,rfl,iteNS rfl ?_⟩
  refine⟨_,rfl,a,rfl,⟨_,q⟩,lc_tup (K:=K) (a:=a) (xs:=[.ref b,.ref c]) (fun D i r σ' H'=>H D=none∧aJ H H'∧H' D=some (.lst r)∧r=(List.replicate i true).map V.bl∧∃ u,σ'=[u])
   (fun D i r σ' H' p=>p.2.1.tup q) (fun D hD=>⟨hD,aJ.new hD,aC,rfl,none,rfl⟩) ?_ ?_⟩
  rotate_left
  ·rintro D j y r σ' H2 hy ⟨hD,sm,hDl,rfl,u,rfl⟩
   have hjl:=(List.getElem?_eq_some_iff.mp hy).1
   have hj2:j < 2:=hjl
   have ty:∃ e zs,y=.ref e∧bR K H2 e zs:=by
    match j,hy with
    | 0,hy=>cases hy;exact⟨b,_,rfl,sm.tup q1⟩
    | 1,hy=>cases hy;exact⟨c,_,rfl,sm.tup q2⟩
   obtain⟨e,zs,rfl,qe⟩:=ty
   refine name_yes ?_
   refine⟨_,rfl,_,"tuple",_,true,rfl,.inr ⟨e,_,rfl,qe,rfl⟩,kit_tt K,hDl,aN (by simp;omega),hD,sm.put hD,aC,?_,_,rfl⟩
   rw[List.replicate_succ',List.map_append];rfl
  rintro D r σ' H2 ⟨hD,sm2,hDl,rfl,_⟩
  refine⟨false,D,_,rfl,bT.of hDl,_,rfl,?_⟩
  rw[all_true]
  refine cG ?_
  have qa:=sm2.tup q
  have qb:=sm2.tup q1
  have qc:=sm2.tup q2
  refine⟨_,rfl,.inr (.inl ⟨a,_,0,_,rfl,rfl,qa,rfl,b,xs,rfl,.inr qb,_,_,rfl,rfl,_,rfl,iteD (show (1:Int)≤(xs.length:Int) by omega) ⟨_,_,rfl,rfl,_,rfl,?_⟩⟩)⟩
  rw[decide_eq_true (show (xs.length:Int)≤12 by omega)]
  refine cG ?_
  refine⟨_,rfl,.inr (.inl ⟨a,_,1,_,rfl,rfl,qa,rfl,c,ys,rfl,.inr qc,_,_,rfl,rfl,_,rfl,ite2 (fun z=>?_) fun _=>?_⟩)⟩
  ·have z':(12:Int) < (ys.length:Int):=of_decide_eq_true z
   omega
  refine⟨_,rfl,.inr (.inl ⟨a,_,0,_,rfl,rfl,qa,rfl,b,xs,rfl,.inr qb,?_⟩)⟩
  rw[exl]
  refine⟨_,rfl,by omega,by omega,for_range (lo:=0) (n:=net.vs.length) (fun j σ' H'=>aJ H2 H'∧∃ v1,σ'=[some (.ref a),v1,none]) ⟨aJ.refl _,_,rfl⟩ ?_ ?_⟩
  ·rintro j σ' H3 hj ⟨s3,v1,rfl⟩
   rw[Int.zero_add]
   have s03:=sm2.trans s3
   obtain⟨xj,hxj⟩:∃ x,xs[j]? = some x:=⟨xs[j]'(by omega),by simp⟩
   obtain⟨d,hd,iv⟩:=l1.get' hxj
   rw[List.getElem?_map] at hd
   obtain⟨v,hv,rfl⟩:=Option.map_eq_some_iff.mp hd
   dsimp only [cY]
   refine⟨_,rfl,.inr (.inl ⟨a,_,0,_,rfl,rfl,s03.tup q,rfl,_,rfl,.inr (.inl ⟨b,xs,(j:Int),_,rfl,rfl,s03.tup q1,cS hxj,_,rfl,?_⟩)⟩)⟩
   refine⟨_,rfl,.inr (.inl ⟨a,_,0,_,rfl,rfl,s03.tup q,rfl,b,xs,rfl,.inr (s03.tup q1),_,rfl,.inr (.inl ⟨a,_,1,_,rfl,rfl,s03.tup q,rfl,c,ys,rfl,.inr (s03.tup q2),_,j,net.vs.length,net.sps.length,v,by rw[exl,eyl];rfl,Is.mono s03.ts _ _ iv,nok.vs v (List.mem_of_getElem? hv),nfu.vs j v hv,fun H4 s4=>⟨_,rfl,cG ?_⟩⟩)⟩)⟩
   exact⟨s3.trans s4,_,rfl⟩
  rintro σ' H3 ⟨s3,v1,rfl⟩
  have s03:=sm2.trans s3
  refine⟨_,rfl,.inr (.inl ⟨a,_,1,_,rfl,rfl,s03.tup q,rfl,c,rfl,⟨_,s03.tup q2⟩,for_tup (K:=K) (a:=c) (xs:=ys) (fun j σ' H'=>aJ H3 H'∧∃ v2,σ'=[some (.ref a),v1,v2]) ⟨aJ.refl _,_,rfl⟩ (fun j σ' H' _ p=>(s03.trans p.1).tup q2) ?_ ?_⟩)⟩
  ·rintro j x σ' H4 hx' ⟨s4,v2,rfl⟩
   have s04:=s03.trans s4
   obtain⟨sp,hsi,sa,rfl,qs⟩:=sps_at l2 hx'
   have hm:=List.mem_of_getElem? hsi
   have h1:=nok.sps sp hm
   have h2:=nfu.sps sp hm
   have qs4:=s04.tup qs
   dsimp only [cY]
   refine⟨_,rfl,_,"tuple",_,true,rfl,.inr ⟨sa,_,rfl,qs4,rfl⟩,kit_tt K,_,rfl,cG ?_⟩
   refine⟨_,rfl,sa,_,rfl,.inr qs4,rfl,_,rfl,iteNS rfl ?_⟩
   refine⟨_,rfl,.inr (.inl ⟨sa,_,2,_,rfl,rfl,qs4,rfl,_,"bool",_,true,rfl,.inl (.bl _),kit_bb K,_,rfl,cG ?_⟩)⟩
   refine⟨_,rfl,.inr (.inl ⟨sa,_,0,_,rfl,rfl,qs4,rfl,_,rfl,.inr (.inl ⟨a,_,0,_,rfl,rfl,s04.tup q,rfl,b,xs,rfl,.inr (s04.tup q1),_,_,rfl,rfl,sp.1,0,_,rfl,h1.1,by omega,_,rfl,cG ?_⟩)⟩)⟩
   refine⟨_,rfl,.inr (.inl ⟨sa,_,1,_,rfl,rfl,qs4,rfl,sp.2.1,0,60,rfl,h2.1,h2.2,_,rfl,cG ?_⟩)⟩
   exact⟨s4,_,rfl⟩
  rintro σ' H4 ⟨s4,v2,rfl⟩
  exact k _ (s03.trans s4)
end
end Tw
namespace HT
open PySem PySem.Spec PyProof.Rows L2
section
variable {prog:Program}{w:World}{A:Around}{E:Value→Shared→Prop}{s:Shared}
end
end HT
namespace L2
open PySem
section
variable {X:Cx}{K:PySem.W.Frag}
end
end L2
namespace Tw
open PySem L2
theorem rise_uniq:∀ {S T:List Nat},S.Pairwise (· < ·)→T.Pairwise (· < ·)→(∀ x,x∈S↔x∈T)→S=T
 | [],[],_,_,_=>rfl
 | [],y::T,_,_,h=>absurd ((h y).2 List.mem_cons_self) (by simp)
 | x::S,[],_,_,h=>absurd ((h x).1 List.mem_cons_self) (by simp)
 | x::S,y::T,hs,ht,h=>by
  rw[List.pairwise_cons] at hs ht
  have hx:y≤x:=by
   rcases List.mem_cons.1 ((h x).1 List.mem_cons_self) with z | z
   ·omega
   ·exact Nat.le_of_lt (ht.1 x z)
  have hy:x≤y:=by
   rcases List.mem_cons.1 ((h y).2 List.mem_cons_self) with z | z
   ·omega
   ·exact Nat.le_of_lt (hs.1 y z)
  have e:x=y:=by omega
  subst e
  rw[rise_uniq hs.2 ht.2 fun z=>?_]
  constructor
  ·intro hz
   have l:=hs.1 z hz
   rcases List.mem_cons.1 ((h z).1 (List.mem_cons_of_mem _ hz)) with q | q
   ·omega
   ·exact q
  ·intro hz
   have l:=ht.1 z hz
   rcases List.mem_cons.1 ((h z).2 (List.mem_cons_of_mem _ hz)) with q | q
   ·omega
   ·exact q
theorem MatS.uniq {net:Net}{w:Nat}{S T:List Nat} (a:MatS net w S) (b:MatS net w T):S=T:=rise_uniq a.up b.up fun x=>by rw[a.mem,b.mem]
section
variable {P:Program}{w:World}{K:PySem.W.Frag}{mg:Str→Option Value}{base:Heap}{C c_TipError c_NoNet c_NoVessel c_TooLong c_TooMany c_TooMuch c_Nothing c_NoText c_NoRow:Addr}
noncomputable def told21 (net:Net) (S:List Nat) (i way:Nat):L2.D:=if way=0 then .tup ((S.map fun (s:Nat)=>(s:Int)).map L2.D.int) else .tup [netD (trimN net S),.int (i:Int)]
noncomputable def spTry21 (K:PySem.W.Frag):Sp:=fun vs H Q _=>∃ (x:V) (net:Net) (way:Nat) (v:Int),vs=[.int (way:Int),x,.int v]∧Is K H (netD net) x∧NetOk net∧
 ((¬ (0≤v∧v < net.vs.length)∧∀ p H',aJ H H'→Is K H' (.tup [.str "vessel"]) p→Q p H')∨
  ∃ j:Nat,v=(j:Int)∧j < net.vs.length∧∀ p S (i:Nat) H',aJ H H'→MatS net j S→S[i]? = some j→Is K H' (told21 net S i way) p→Q p H')
theorem sc__law_tried:FnScope ["way","net","watched","error","found","e"] ["way","net","watched"] (aK (bH 33)):=⟨rfl,rfl,rfl,by decide +kernel,rfl,by decide +kernel,by decide +kernel⟩
theorem ok__law_tried {f f1 f2 f3:Addr}{fd fd1 fd2 fd3:FuncData} (F:Fun K "_law_tried" "_law_tried" (bH 33) f fd) (T:Txt mg) (W:TxtW mg c_TipError c_NoNet c_NoVessel c_TooLong c_TooMany c_TooMuch c_Nothing c_NoText c_NoRow)
  (kdV:KindOf K c_NoNet c_NoVessel c_TooLong c_TooMany c_TooMuch c_Nothing c_NoText c_NoRow c_NoVessel [false,true,false,false,false,false,false,false]) (hmV:PySem.W.exmOne K (.ref c_NoVessel) (.ref c_TipError)=some true)
  (G_matters:CalleeR P w K mg base "matters" ["net","watched"] 3 (spMatters K c_NoVessel) f1 fd1)
  (G_trimmed:CalleeR P w K mg base "trimmed" ["net","watched"] 4 (spTrimmed K c_NoVessel) f3 fd3)
  (G__law_word:Callee P w K mg base "_law_word" ["error"] 1 (spWord K c_NoNet c_NoVessel c_TooLong c_TooMany c_TooMuch c_Nothing c_NoText c_NoRow) f2 fd2) :
  FnOk P w K mg base CX0 5 f fd ["way","net","watched"] (spTry21 K):=by
 refine F.ok sc__law_tried (fun vs H Q E h=>?_) (fun cdv A outer s H vs Q E hr h=>?_)
 ·obtain⟨x,net,way,v,rfl,_⟩:=h;rfl
 ·obtain⟨x,net,way,v,rfl,hx,nok,k⟩:=h
  have sc:=sc__law_tried
  let EX:XK:=fun cls _ H'=>aJ H H'∧cls=.ref c_NoVessel∧∀ p H',aJ H H'→Is K H' (.tup [.str "vessel"]) p→Q p H'
  refine⟨_,(aE (aP (i:=3) sc.nd rfl (Or.inl rfl) pe_non)
   (aE (aP (i:=4) sc.nd rfl (Or.inl rfl) pe_non)
   (aE (ps_try (EX:=EX) rfl rfl (fun pn xe hx=>(aI (cB (aS op_eq (pv 0) aD (bK _)) (aI (aP (i:=4) sc.nd rfl (Or.inl rfl) (pe_call G_matters.ok (hr.mono (by decide)) rfl G_matters.mg G_matters.kp G_matters.bd .nil hx (aA (pv 1) (aA (pv 2) aB))))) (aI (aP (i:=4) sc.nd rfl (Or.inl rfl) (pe_call G_trimmed.ok (hr.mono (by decide)) rfl G_trimmed.mg G_trimmed.kp G_trimmed.bd .nil hx (aA (pv 1) (aA (pv 2) aB)))))))) rfl W.m_TipError sc.nd (i:=5) rfl rfl (fun ea=>(aI (aP (i:=3) sc.nd rfl (Or.inl rfl) (pv 5)))))
   (aE (cB (aS op_isN (pv 3) pe_non (bK _)) (aI (aX (pv 4))) bB)
   (aI (aX (d0 G__law_word hr (aA (pv 3) aB)))))))),?_⟩
  dsimp only [tSeq,tAsg,cY,tC]
  refine⟨?_,?_⟩
  ·refine⟨_,rfl,rfl,_,rfl,ite2 (fun hT=>?_) fun hF=>?_⟩
   ·have hT:=of_decide_eq_true hT
    have hw:way=0:=by injection hT with hT;omega
    subst hw
    refine⟨_,rfl,_,rfl,x,net,v,rfl,hx,nok,?_⟩
    rcases k with ⟨hn,k⟩ | ⟨j,rfl,hj,k⟩
    ·exact .inl ⟨hn,aJ.refl H,rfl,k⟩
    ·refine .inr ⟨j,rfl,hj,fun p S H1 s1 qp mS=>?_⟩
     obtain⟨i,hi⟩:=List.mem_iff_getElem?.1 ((mS.mem j).2 (.inl (mat_ok nok.hi hj).2.2))
     refine⟨_,rfl,rfl,_,rfl,iteT ⟨_,rfl,k _ S i H1 s1 mS hi ?_⟩⟩
     unfold told21
     rw[if_pos rfl]
     refine Is.tupOf qp ?_
     have e:b9 S=(S.map fun (s:Nat)=>(s:Int)).map V.int:=by unfold b9;rw[List.map_map];rfl
     rw[e]
     exact IsL.of_ints _
   ·have hw:way≠0:=fun z=>hF (by rw[z];rfl)
    refine⟨_,rfl,_,rfl,x,net,v,rfl,hx,nok,?_⟩
    rcases k with ⟨hn,k⟩ | ⟨j,rfl,hj,k⟩
    ·exact .inl ⟨hn,aJ.refl H,rfl,k⟩
    ·refine .inr ⟨j,rfl,hj,fun p S i H1 s1 mS hi ip=>?_⟩
     refine⟨_,rfl,rfl,_,rfl,iteT ⟨_,rfl,k _ S i H1 s1 mS hi ?_⟩⟩
     unfold told21
     rw[if_neg hw];exact ip
  ·rintro cls H' ea σ' ⟨sH,rfl,kk⟩ hlen hea
   obtain⟨u0,u1,u2,u3,u4,u5,rfl⟩:∃ u0 u1 u2 u3 u4 u5,σ'=[u0,u1,u2,u3,u4,u5]:=by
    match σ',hlen with
    | [u0,u1,u2,u3,u4,u5],_=>exact⟨_,_,_,_,_,_,rfl⟩
   have s1:=aJ.new (o:=excO ea (.ref c_NoVessel)) hea
   refine⟨hmV,⟨_,rfl,?_⟩⟩
   refine⟨_,rfl,rfl,_,rfl,cG ?_⟩
   refine⟨_,rfl,ea,c_NoVessel,_,1,"vessel",rfl,aC,kdV,rfl,rfl,fun i b hi hb=>?_,rfl,fun p H2 sm2 qp=>kk _ H2 ((sH.trans s1).trans sm2) (Is.tupOf qp (.cons (Is.s _) .nil))⟩
   match i,hi with
   | 0,_=>simpa using hb.symm
end
end Tw
namespace Tw
open PySem L2
theorem depG_tg (t:Option Int):depG (toG (tgD t))=0:=by cases t <;> simp [tgD,toG,depG]
theorem depGL_le {α:Type} (f:α→L2.D) (n:Nat):∀ (l:List α),(∀ a∈l,depG (toG (f a))≤n)→cQ (toGL (l.map f))≤n
 | [],_=>by rw[List.map_nil,toGL,cQ];exact Nat.zero_le _
 | a::l,h=>by
  rw[List.map_cons,toGL,cQ]
  have h1:=h a List.mem_cons_self
  have h2:=depGL_le f n l fun b hb=>h b (List.mem_cons_of_mem _ hb)
  omega
theorem depG_net (net:Net):depG (toG (netD net))≤5:=by
 have h1:cQ (toGL (net.vs.map vsD))≤3:=depGL_le vsD 3 net.vs fun v _=>by
  have g1:cQ (toGL (v.outs.map outD))≤1:=depGL_le outD 1 v.outs fun o _=>by
   unfold outD;simp only [toG,toGL,depG,cQ,depG_tg];omega
  have g2:cQ (toGL (v.acts.map actD))≤1:=depGL_le actD 1 v.acts fun o _=>by
   unfold actD;simp only [toG,toGL,depG,cQ];omega
  unfold vsD
  simp only [toG,toGL,depG,cQ,depG_tg]
  omega
 have h2:cQ (toGL (net.sps.map spD))≤1:=depGL_le spD 1 net.sps fun s _=>by
  unfold spD;simp only [toG,toGL,depG,cQ];omega
 unfold netD
 simp only [toG,toGL,depG,cQ]
 omega
section
variable {P:Program}{w:World}{K:PySem.W.Frag}{mg:Str→Option Value}{base:Heap}{C c_TipError c_NoNet c_NoVessel c_TooLong c_TooMany c_TooMuch c_Nothing c_NoText c_NoRow:Addr}
structure L21 (K:PySem.W.Frag) (H:Hp) (t sl:Addr) (x:V) (A:Net):Prop where
 tp:d7 H t sl
 hx:Is K H (netD A) x
 oa:NetOk A
 fa:NetFull A
theorem L21.same {H H':Hp}{t sl:Addr}{x:V}{A:Net} (h:L21 K H t sl x A) (s:aJ H H'):L21 K H' t sl x A:=
 { h with tp:=h.tp.same s,hx:=Is.mono s.ts _ _ h.hx }
theorem L21.draw {H H':Hp}{t sl:Addr}{x:V}{A:Net} (h:L21 K H t sl x A) (b:cE t H H') (tp:d7 H' t sl):L21 K H' t sl x A:=
 { h with tp:=tp,hx:=Is.mono (b.ts h.tp.mut) _ _ h.hx }
theorem sc_law:FnScope ["script","tape","turn","net","watched","found","odd"] ["script"] (aK (bH 34)):=⟨rfl,rfl,rfl,by decide +kernel,rfl,by decide +kernel,by decide +kernel⟩
theorem ok_law {f f1 f2 f3 f5 f6 f7:Addr}{fd fd1 fd2 fd3 fd5 fd6 fd7:FuncData} (F:Fun K "law" "law" (bH 34) f fd) (T:Txt mg)
  (G__law_draw:Callee P w K mg base "_law_draw" ["tape","many"] 1 spDraw f1 fd1) (GB__law_draw:Callee P w K mg base "_law_draw" ["tape","many"] 1 spDrawB f1 fd1)
  (G__law_net:Callee P w K mg base "_law_net" ["tape","most","small"] 4 (spNetM K) f2 fd2)
  (G__law_matters:Callee P w K mg base "_law_matters" ["net","watched"] 1 (spLMat K) f3 fd3)
  (G__law_trimmed:Callee P w K mg base "_law_trimmed" ["net","watched"] 2 (spLTrim K) f5 fd5)
  (G__law_is_net:Callee P w K mg base "_law_is_net" ["thing"] 3 (spIsNet K) f6 fd6)
  (G__law_tried:Callee P w K mg base "_law_tried" ["way","net","watched"] 5 (spTry21 K) f7 fd7):FnOk P w K mg base CX0 6 f fd ["script"] (spLaw K):=by
 refine F.ok sc_law (fun vs H Q E h=>?_) (fun cdv A outer s H vs Q E hr h=>?_)
 ·obtain⟨a,ns,rfl,_⟩:=h;rfl
 ·obtain⟨a,ns,rfl,hS,hlen,k⟩:=h
  have sc:=sc_law
  refine⟨_,(aE (aP (i:=1) sc.nd rfl (Or.inl rfl) (bJ (aA (aV (call_lstK (K:=K) rfl) rfl T.b_list bt_list (aA (pv 0) aB)) (aA aD (aA aD aB)))))
   (aE (cT PassesOwn.never rfl (cO rfl T.b_range (aA aD aB)) (aF (i:=2) sc.nd rfl (Or.inl rfl)) (aE (aP (i:=3) sc.nd rfl (Or.inl rfl) (d0 G__law_net hr (aA (pv 1) (aA aD (aA (pe_cmpR op_eq (pv 2) aD (bK _)) aB)))))
   (aE (cT PassesOwn.never rfl (cO rfl T.b_range (aA (aL (aW (K:=K) rfl) rfl T.b_len PySem.boot_len (aA (aM (aG (K:=K) rfl) (pv 3) aD (fun _ _=>rfl)) aB)) aB)) (aF (i:=4) sc.nd rfl (Or.inl rfl)) (aE (aP (i:=5) sc.nd rfl (Or.inl rfl) (d0 G__law_tried hr (aA aD (aA (pv 3) (aA (pv 4) aB)))))
   (aE (cB (PW.pt (cU (aS (op_neGK (K:=K) rfl hr.units) (pv 5) (aV (bP (K:=K) rfl) rfl T.b_tuple bG (aA (d0 G__law_matters hr (aA (pv 3) (aA (pv 4) aB))) aB)) (bK _)) (cP (aS (op_inK (K:=K) rfl) cW (pe_lc (fun _ _ h=>h) rfl (LcOk.mk (N':=["one"]) (fr:=[none]) rfl trivial rfl rfl rfl rfl rfl trivial) (cJ (K:=K) rfl (pv 5)) (fun _ _ _=>(aF (i:=0) (show (["one"]:List Str).Nodup by decide +kernel) rfl (Or.inl rfl) (Or.inr rfl))) (fun _ _ _=>cR) (fun _ _ _=>(aL (bO (K:=K) rfl) rfl T.b_isinstance aZ (aA (pv 0) (aA (cD (v:=.ty "bool") rfl T.b_bool bt_bool rfl) aB))))) (by rfl))))) (aI (aX cW)) bB)
   (aE (aP (i:=5) sc.nd rfl (Or.inl rfl) (d0 G__law_tried hr (aA aD (aA (pv 3) (aA (pv 4) aB)))))
   (aI (cB (PW.pt (cU (aS (op_neGK (K:=K) rfl hr.units) (pv 5) (d0 G__law_trimmed hr (aA (pv 3) (aA (pv 4) aB))) (bK _)) (cP (bS (bW (d0 G__law_is_net hr (aA (aM (aG (K:=K) rfl) (pv 5) aD (fun _ _=>rfl)) aB))))))) (aI (aX cW)) bB))))))
   (aI (cT PassesOwn.never rfl (pi_listK (K:=K) rfl (bJ (aA (pe_un un_neg aD) (aA (aL (aW (K:=K) rfl) rfl T.b_len PySem.boot_len (aA (aM (aG (K:=K) rfl) (pv 3) aD (fun _ _=>rfl)) aB)) (aA (aU cM aD (d0 GB__law_draw hr (aA (pv 1) (aA (aU op_pow aD aD) aB)))) aB))))) (aF (i:=6) sc.nd rfl (Or.inl rfl)) (aI (cB (PW.pt (cU (aS (op_neGK (K:=K) rfl hr.units) (d0 G__law_tried hr (aA aD (aA (pv 3) (aA (pv 6) aB)))) (bX (aA cI aB)) (bK _)) (cP (aS (op_neGK (K:=K) rfl hr.units) (d0 G__law_tried hr (aA aD (aA (pv 3) (aA (pv 6) aB)))) (bX (aA cI aB)) (bK _))))) (aI (aX cW)) bB)))))))
   (aI (aX cW)))),?_⟩
  refine⟨_,rfl,a,_,rfl,.inl hS,fun sl hsl=>⟨(show 3≤sizeLine by decide),fun t ht=>?_⟩⟩
  have nst:sl≠t:=aQ (show upd H sl (.lst (ns.map V.int)) sl=_ from aC) ht
  have tp0:d7 (upd (upd H sl (.lst (ns.map V.int))) t (.lst [.ref sl,.int 0,.int 0])) t sl:=⟨ns,0,0,aC,by rw[aO nst];exact aC,by omega⟩
  generalize upd (upd H sl (.lst (ns.map V.int))) t (.lst [.ref sl,.int 0,.int 0])=H0 at tp0
  refine⟨_,rfl,by decide,by decide,for_range (lo:=0) (n:=4) (fun _ σ' H'=>d7 H' t sl∧∃ v2 v3 v4 v5 v6,σ'=[some (.ref a),some (.ref t),v2,v3,v4,v5,v6]) ⟨tp0,_,_,_,_,_,rfl⟩ ?_ fun σ' H1 _=>k H1⟩
  clear tp0
  rintro turn σ' H0 _ ⟨tp0,v2,v3,v4,v5,v6,rfl⟩
  refine⟨_,rfl,_,rfl,rfl,t,sl,12,_,rfl,by omega,by omega,tp0,fun A0 p0 H2 e2 nok0 nfu0 _ hp0=>?_⟩
  have l2:L21 K H2 t sl p0 A0:=⟨e2.tp,hp0,nok0,nfu0⟩
  have n1:=nok0.lo
  have n2:=nok0.hi
  clear hp0 e2 tp0
  obtain⟨na,nb,nc,xs,ys,rfl,q,q1,_,_,_⟩:=net_un l2.hx
  rename_i lx _ _
  have exl:xs.length=A0.vs.length:=by rw[lx.length,List.length_map]
  refine⟨_,rfl,.inr (.inl ⟨na,_,0,_,rfl,rfl,q,rfl,nb,xs,rfl,.inr q1,_,rfl,by omega,by omega,?_⟩)⟩
  rw[Int.toNat_natCast,exl]
  refine for_range (lo:=0) (n:=A0.vs.length) (fun _ σ' H'=>L21 K H' t sl (.ref na) A0∧∃ v4 v5 v6,σ'=[some (.ref a),some (.ref t),some (.int (0+(turn:Int))),some (.ref na),v4,v5,v6]) ⟨l2,_,_,_,rfl⟩ ?_ ?_
  ·rintro j σ' H3 hj ⟨l3,v4,v5,v6,rfl⟩
   have v1:(0:Int)+(j:Int)=(j:Int):=Int.zero_add _
   refine⟨_,rfl,_,rfl,.ref na,A0,0,(j:Int),by rw[v1];rfl,l3.hx,l3.oa,.inr ⟨j,rfl,hj,fun p S i0 H4 s4 mS hi ip=>?_⟩⟩
   have l4:=l3.same s4
   have ip:Is K H4 (.tup ((S.map fun (s:Nat)=>(s:Int)).map L2.D.int)) p:=by unfold told21 at ip;rw[if_pos rfl] at ip;exact ip
   obtain⟨fa,fs,rfl,qf,lf⟩:=ip.un
   have ef:=IsL.ints lf
   have sl:S.length≤12:=Nat.le_trans (d6 _ _ mS.nd (mS.lt nok0.hi hj)) nok0.hi
   refine⟨_,rfl,_,rfl,_,rfl,.ref na,A0,j,by rw[v1];rfl,l4.hx,l4.oa,hj,fun kp S' H5 s5 hkp qk mS'=>?_⟩
   obtain rfl:=mS'.uniq mS
   refine⟨kp,_,rfl,.inl ⟨bT.of qk,fun tp htp=>?_⟩⟩
   have s6:=aJ.new (o:=HO.tup (b9 S')) htp
   have i6:Is K (upd H5 tp (.tup (b9 S'))) (.tup ((S'.map fun (s:Nat)=>(s:Int)).map L2.D.int)) (.ref tp):=by
    refine Is.tupOf (bR.of aC) ?_
    have e:b9 S'=(S'.map fun (s:Nat)=>(s:Int)).map V.int:=by unfold b9;rw[List.map_map];rfl
    rw[e]
    exact IsL.of_ints _
   generalize upd H5 tp (.tup (b9 S'))=H6 at s6 i6 ⊢
   have s46:=s5.trans s6
   have dg:depG (toG (.tup ((S'.map fun (s:Nat)=>(s:Int)).map L2.D.int)))≤5:=by
    have h1:cQ (toGL ((S'.map fun (s:Nat)=>(s:Int)).map L2.D.int))≤1:=depGL_le L2.D.int 1 _ fun o _=>by simp [toG,depG]
    simp only [toG,depG];omega
   have qf6:bR K H6 fa ((S'.map fun (s:Nat)=>(s:Int)).map V.int):=by rw[← ef];exact s46.tup qf
   refine⟨toG (.tup ((S'.map fun (s:Nat)=>(s:Int)).map L2.D.int)),toG (.tup ((S'.map fun (s:Nat)=>(s:Int)).map L2.D.int)),by omega,L2.Is.g (Is.mono s46.ts _ _ ip),L2.Is.g i6,_,rfl,?_⟩
   rw[eqG_refl]
   refine cG ?_
   refine⟨_,rfl,fa,rfl,⟨_,qf6⟩,lc_tup (K:=K) (a:=fa) (xs:=(S'.map fun (s:Nat)=>(s:Int)).map V.int) (fun D i r σ' H'=>H6 D=none∧aJ H6 H'∧H' D=some (.lst r)∧r=List.replicate i (.bl false)∧∃ u,σ'=[u])
    (fun D i r σ' H' p=>p.2.1.tup qf6) (fun D hD=>⟨hD,aJ.new hD,aC,rfl,none,rfl⟩) ?_ ?_⟩
   rotate_left
   ·rintro D i y r σ' H16 hy ⟨hD,sm,hDl,rfl,u,rfl⟩
    have hil:=(List.getElem?_eq_some_iff.mp hy).1
    rw[List.length_map,List.length_map] at hil
    rw[List.getElem?_map] at hy
    obtain⟨n,hn,rfl⟩:=Option.map_eq_some_iff.mp hy
    refine name_yes ?_
    exact⟨_,rfl,_,"bool",_,false,rfl,.inl (.int _),kit_ib K,hDl,aN (by rw[List.length_replicate];omega),hD,sm.put hD,aC,by rw[List.replicate_succ'],_,rfl⟩
   rintro D r σ' H7 ⟨hD,s7,hDl,rfl,_⟩
   generalize ((S'.map fun (s:Nat)=>(s:Int)).map V.int).length=nn at hDl
   have hin:inV (.bl true) (List.replicate nn (.bl false))=false:=by
    clear hDl
    induction nn with
    | zero=>rfl
    | succ n ih=>rw[List.replicate_succ];exact ih
   have hflt:(List.replicate nn (V.bl false)).all flatV=true:=by
    rw[List.all_eq_true]
    intro z hz
    have:=List.eq_of_mem_replicate hz;subst this;rfl
   refine⟨D,_,rfl,.inl (bT.of hDl),rfl,hflt,_,rfl,?_⟩
   rw[if_neg Bool.false_ne_true,hin]
   refine cG ?_
   have l7:=l4.same (s46.trans s7)
   refine⟨_,rfl,_,rfl,.ref na,A0,1,(j:Int),by rw[v1];rfl,l7.hx,l7.oa,.inr ⟨j,rfl,hj,fun p2 S2 i2 H8 s8 mS2 hi2 ip2=>?_⟩⟩
   obtain rfl:=mS2.uniq mS'
   have l8:=l7.same s8
   have ip2:Is K H8 (.tup [netD (trimN A0 S2),.int (i2:Int)]) p2:=by unfold told21 at ip2;rw[if_neg (by decide)] at ip2;exact ip2
   refine⟨_,rfl,_,rfl,_,rfl,.ref na,A0,j,by rw[v1];rfl,l8.hx,l8.oa,hj,fun p3 S3 i3 H9 s9 mS3 hi3 ip3=>?_⟩
   obtain rfl:=mS3.uniq mS2
   obtain rfl:i3=i2:=(List.getElem?_inj (List.getElem?_eq_some_iff.mp hi3).1 mS3.nd).1 (by rw[hi3,hi2])
   have dg2:depG (toG (.tup [netD (trimN A0 S3),.int (i3:Int)]))≤6:=by
    have:=depG_net (trimN A0 S3)
    simp only [toG,toGL,depG,cQ];omega
   have ip2:=Is.mono s9.ts _ _ ip2
   refine⟨toG (.tup [netD (trimN A0 S3),.int (i3:Int)]),toG (.tup [netD (trimN A0 S3),.int (i3:Int)]),by omega,L2.Is.g ip2,L2.Is.g ip3,_,rfl,?_⟩
   rw[eqG_refl]
   refine cG ?_
   obtain⟨pa,ps,rfl,qp,lp⟩:=ip2.un
   obtain⟨u0,u1,rfl⟩:∃ u0 u1,ps=[u0,u1]:=by
    have hl:=lp.length
    match ps,hl with
    | [u0,u1],_=>exact⟨_,_,rfl⟩
   obtain⟨d,hd,h0⟩:=L2.IsL.get' lp (show [u0,u1][0]? = some u0 from rfl)
   cases hd
   refine⟨_,rfl,.inr (.inl ⟨pa,_,0,_,rfl,rfl,qp,rfl,_,_,rfl,h0,trim_net nok0 mS3 hj,trim_full nok0 nfu0 mS3 hj,fun H10 s10=>⟨_,rfl,cG ?_⟩⟩)⟩
   exact⟨(l8.same s9).same s10,_,_,_,rfl⟩
  rintro σ' H3 ⟨l10,v4,v5,v6,rfl⟩
  clear q q1 lx l2 exl
  obtain⟨na',nb,nc,xs,ys,ena,q,q1,l1,q2,l2⟩:=net_un l10.hx
  cases ena
  have exl:xs.length=A0.vs.length:=by rw[l1.length,List.length_map]
  refine⟨1,rfl,_,rfl,.inr (.inl ⟨na,_,0,_,rfl,rfl,q,rfl,nb,xs,rfl,.inr q1,?_⟩)⟩
  refine⟨_,rfl,_,_,rfl,rfl,⟨by decide,by decide,by decide⟩,t,sl,_,rfl,l10.tp,by decide,by decide,fun rr H11 b11 t11 rr0 rr1=>⟨_,_,rfl,rfl,(show 3≤sizeLine by decide),fun l3 hl3=>?_⟩⟩
  have l11:=l10.draw b11 t11
  have s12:=aJ.new (o:=HO.lst [.int (-1),.int (xs.length:Int),.int (12+rr)]) hl3
  refine⟨l3,rfl,⟨_,bT.of aC⟩,for_list (K:=K) (a:=l3) (xs:=[.int (-1),.int (xs.length:Int),.int (12+rr)])
   (fun m σ' H'=>L21 K H' t sl (.ref na) A0∧H' l3=some (.lst [.int (-1),.int (xs.length:Int),.int (12+rr)])∧∃ v4 v5 v6,σ'=[some (.ref a),some (.ref t),some (.int (0+(turn:Int))),some (.ref na),v4,v5,v6])
   ⟨l11.same s12,aC,_,_,_,rfl⟩ (fun m σ' H' _ p=>bT.of p.2.1) ?_ ?_⟩
  ·rintro m y σ' H13 hy ⟨l13,e13,v4,v5,v6,rfl⟩
   have hyv:∃ v:Int,y=.int v∧¬ (0≤v∧v < A0.vs.length):=by
    have hm:=List.mem_of_getElem? hy
    rcases List.mem_cons.1 hm with rfl | hm
    ·exact⟨-1,rfl,by omega⟩
    rcases List.mem_cons.1 hm with rfl | hm
    ·exact⟨_,rfl,by omega⟩
    ·have:=List.mem_singleton.1 hm;subst this;exact⟨_,rfl,by omega⟩
   obtain⟨v,rfl,hn⟩:=hyv
   refine⟨_,rfl,_,rfl,_,A0,0,v,rfl,l13.hx,l13.oa,.inl ⟨hn,fun p H14 s14 ip=>⟨(show 1≤sizeLine by decide),fun e he=>?_⟩⟩⟩
   have s15:=aJ.new (o:=HO.tup [.str "vessel"]) he
   have i15:Is K (upd H14 e (.tup [.str "vessel"])) (.tup [.str "vessel"]) (.ref e):=Is.tupOf (ds:=[.str "vessel"]) (bR.of aC) (.cons (Is.s _) .nil)
   generalize upd H14 e (.tup [.str "vessel"])=H15 at s15 i15
   refine⟨toG (.tup [.str "vessel"]),toG (.tup [.str "vessel"]),by simp only [toG,toGL,depG,cQ];omega,L2.Is.g (Is.mono s15.ts _ _ ip),L2.Is.g i15,_,rfl,?_⟩
   rw[eqG_refl]
   refine cG ?_
   have l15:=l13.same (s14.trans s15)
   have e15:=s15 _ _ (s14 _ _ e13)
   refine⟨_,rfl,_,rfl,_,A0,1,v,rfl,l15.hx,l15.oa,.inl ⟨hn,fun p H16 s16 ip=>⟨(show 1≤sizeLine by decide),fun e he=>?_⟩⟩⟩
   have s17:=aJ.new (o:=HO.tup [.str "vessel"]) he
   have i17:Is K (upd H16 e (.tup [.str "vessel"])) (.tup [.str "vessel"]) (.ref e):=Is.tupOf (ds:=[.str "vessel"]) (bR.of aC) (.cons (Is.s _) .nil)
   generalize upd H16 e (.tup [.str "vessel"])=H17 at s17 i17
   refine⟨toG (.tup [.str "vessel"]),toG (.tup [.str "vessel"]),by simp only [toG,toGL,depG,cQ];omega,L2.Is.g (Is.mono s17.ts _ _ ip),L2.Is.g i17,_,rfl,?_⟩
   rw[eqG_refl]
   exact cG ⟨l15.same (s16.trans s17),s17 _ _ (s16 _ _ e15),_,_,_,rfl⟩
  ·rintro σ' H13 ⟨l13,_,v4,v5,v6,rfl⟩
   exact⟨l13.tp,_,_,_,_,_,rfl⟩
end
end Tw
namespace Tw
open PySem L2
theorem by_len1 {α:Type}{p:List α→Prop} (h:∀ a0,p [a0]):∀ us:List α,us.length=1→p us
 | [a0],_=>h a0
theorem by_len2 {α:Type}{p:List α→Prop} (h:∀ a0 a1,p [a0,a1]):∀ us:List α,us.length=2→p us
 | [a0,a1],_=>h a0 a1
theorem by_len3 {α:Type}{p:List α→Prop} (h:∀ a0 a1 a2,p [a0,a1,a2]):∀ us:List α,us.length=3→p us
 | [a0,a1,a2],_=>h a0 a1 a2
theorem by_len4 {α:Type}{p:List α→Prop} (h:∀ a0 a1 a2 a3,p [a0,a1,a2,a3]):∀ us:List α,us.length=4→p us
 | [a0,a1,a2,a3],_=>h a0 a1 a2 a3
theorem by_len5 {α:Type}{p:List α→Prop} (h:∀ a0 a1 a2 a3 a4,p [a0,a1,a2,a3,a4]):∀ us:List α,us.length=5→p us
 | [a0,a1,a2,a3,a4],_=>h a0 a1 a2 a3 a4
theorem all_mk {l:PySem.W.OpenLaw}{w:World}{K:PySem.W.Frag}{h:Heap}{mg:Str→Option Value}{fa f0 f1 f2 f3 f4 f5 f6 f7 f8 f9 f10 f11 f12 f13 f14 f15 f16 f17 f18 f19 f20 c_TipError c_NoNet c_NoVessel c_TooLong c_TooMany c_TooMuch c_Nothing c_NoText c_NoRow:Addr} (X:K.In h) (G:h.Ns mainGlobals mg) (hfa:mg "law" = some (.ref fa))
  {od0 an0 od1 an1 od2 an2 od3 an3 od4 an4 od5 an5 od6 an6 od7 an7 od8 an8 od9 an9 od10 an10 od11 an11 od12 an12 od13 an13 od14 an14 od15 an15 od16 an16 od17 an17 od18 an18 od19 an19 od20 an20:Option Addr}{sl0 sl1 sl2 sl3 sl4 sl5 sl6 sl7 sl8 sl9 sl10 sl11 sl12 sl13 sl14 sl15 sl16 sl17 sl18 sl19 sl20:Array (Option Value)}{oc0 kV0 dc0 pm0 cd0 ct0 oc1 kV1 dc1 pm1 cd1 ct1 oc2 kV2 dc2 pm2 cd2 ct2 oc3 kV3 dc3 pm3 cd3 ct3 oc4 kV4 dc4 pm4 cd4 ct4 oc5 kV5 dc5 pm5 cd5 ct5 oc6 kV6 dc6 pm6 cd6 ct6 oc7 kV7 dc7 pm7 cd7 ct7 oc8 kV8 dc8 pm8 cd8 ct8 oc9 kV9 dc9 pm9 cd9 ct9 oc10 kV10 dc10 pm10 cd10 ct10 oc11 kV11 dc11 pm11 cd11 ct11 oc12 kV12 dc12 pm12 cd12 ct12 oc13 kV13 dc13 pm13 cd13 ct13 oc14 kV14 dc14 pm14 cd14 ct14 oc15 kV15 dc15 pm15 cd15 ct15 oc16 kV16 dc16 pm16 cd16 ct16 oc17 kV17 dc17 pm17 cd17 ct17 oc18 kV18 dc18 pm18 cd18 ct18 oc19 kV19 dc19 pm19 cd19 ct19 oc20 kV20 dc20 pm20 cd20 ct20:Value}
  {qcV:Value}{qdV:Option Addr}{qkV:ClassData}{qsV:Array (Option Value)}
  (a0:PySem.W.nsIn K mainGlobals "_law_draw" = some (some (.ref f0)))
  (l0:K.lookup f0=some ⟨oc0,od0,.func (PySem.W.fnOf "_law_draw" "_law_draw" (bE (bH 22)) (bC (bH 22)) (aK (bH 22)) .none kV0 dc0 pm0 an0 cd0 ct0),sl0⟩)
  (c0:PySem.W.codeIn K cd0 "_law_draw" = true)
  (k0:PySem.W.keepIn K (.ref f0)=true)
  (a1:PySem.W.nsIn K mainGlobals "_law_outs" = some (some (.ref f1)))
  (l1:K.lookup f1=some ⟨oc1,od1,.func (PySem.W.fnOf "_law_outs" "_law_outs" (bE (bH 25)) (bC (bH 25)) (aK (bH 25)) .none kV1 dc1 pm1 an1 cd1 ct1),sl1⟩)
  (c1:PySem.W.codeIn K cd1 "_law_outs" = true)
  (k1:PySem.W.keepIn K (.ref f1)=true)
  (a2:PySem.W.nsIn K mainGlobals "_law_vessel" = some (some (.ref f2)))
  (l2:K.lookup f2=some ⟨oc2,od2,.func (PySem.W.fnOf "_law_vessel" "_law_vessel" (bE (bH 26)) (bC (bH 26)) (aK (bH 26)) .none kV2 dc2 pm2 an2 cd2 ct2),sl2⟩)
  (c2:PySem.W.codeIn K cd2 "_law_vessel" = true)
  (k2:PySem.W.keepIn K (.ref f2)=true)
  (a3:PySem.W.nsIn K mainGlobals "_law_net" = some (some (.ref f3)))
  (l3:K.lookup f3=some ⟨oc3,od3,.func (PySem.W.fnOf "_law_net" "_law_net" (bE (bH 27)) (bC (bH 27)) (aK (bH 27)) .none kV3 dc3 pm3 an3 cd3 ct3),sl3⟩)
  (c3:PySem.W.codeIn K cd3 "_law_net" = true)
  (k3:PySem.W.keepIn K (.ref f3)=true)
  (a4:PySem.W.nsIn K mainGlobals "_law_matters" = some (some (.ref f4)))
  (l4:K.lookup f4=some ⟨oc4,od4,.func (PySem.W.fnOf "_law_matters" "_law_matters" (bE (bH 30)) (bC (bH 30)) (aK (bH 30)) .none kV4 dc4 pm4 an4 cd4 ct4),sl4⟩)
  (c4:PySem.W.codeIn K cd4 "_law_matters" = true)
  (k4:PySem.W.keepIn K (.ref f4)=true)
  (a5:PySem.W.nsIn K mainGlobals "_law_number_in" = some (some (.ref f5)))
  (l5:K.lookup f5=some ⟨oc5,od5,.func (PySem.W.fnOf "_law_number_in" "_law_number_in" (bE (bH 31)) (bC (bH 31)) (aK (bH 31)) .none kV5 dc5 pm5 an5 cd5 ct5),sl5⟩)
  (c5:PySem.W.codeIn K cd5 "_law_number_in" = true)
  (k5:PySem.W.keepIn K (.ref f5)=true)
  (a6:PySem.W.nsIn K mainGlobals "_law_trimmed" = some (some (.ref f6)))
  (l6:K.lookup f6=some ⟨oc6,od6,.func (PySem.W.fnOf "_law_trimmed" "_law_trimmed" (bE (bH 32)) (bC (bH 32)) (aK (bH 32)) .none kV6 dc6 pm6 an6 cd6 ct6),sl6⟩)
  (c6:PySem.W.codeIn K cd6 "_law_trimmed" = true)
  (k6:PySem.W.keepIn K (.ref f6)=true)
  (a7:PySem.W.nsIn K mainGlobals "_law_whole" = some (some (.ref f7)))
  (l7:K.lookup f7=some ⟨oc7,od7,.func (PySem.W.fnOf "_law_whole" "_law_whole" (bE (bH 23)) (bC (bH 23)) (aK (bH 23)) .none kV7 dc7 pm7 an7 cd7 ct7),sl7⟩)
  (c7:PySem.W.codeIn K cd7 "_law_whole" = true)
  (k7:PySem.W.keepIn K (.ref f7)=true)
  (a8:PySem.W.nsIn K mainGlobals "_law_is_vessel" = some (some (.ref f8)))
  (l8:K.lookup f8=some ⟨oc8,od8,.func (PySem.W.fnOf "_law_is_vessel" "_law_is_vessel" (bE (bH 29)) (bC (bH 29)) (aK (bH 29)) .none kV8 dc8 pm8 an8 cd8 ct8),sl8⟩)
  (c8:PySem.W.codeIn K cd8 "_law_is_vessel" = true)
  (k8:PySem.W.keepIn K (.ref f8)=true)
  (a9:PySem.W.nsIn K mainGlobals "_law_is_net" = some (some (.ref f9)))
  (l9:K.lookup f9=some ⟨oc9,od9,.func (PySem.W.fnOf "_law_is_net" "_law_is_net" (bE (bH 28)) (bC (bH 28)) (aK (bH 28)) .none kV9 dc9 pm9 an9 cd9 ct9),sl9⟩)
  (c9:PySem.W.codeIn K cd9 "_law_is_net" = true)
  (k9:PySem.W.keepIn K (.ref f9)=true)
  (a10:PySem.W.nsIn K mainGlobals "is_whole" = some (some (.ref f10)))
  (l10:K.lookup f10=some ⟨oc10,od10,.func (PySem.W.fnOf "is_whole" "is_whole" (bE (bH 12)) (bC (bH 12)) (aK (bH 12)) .none kV10 dc10 pm10 an10 cd10 ct10),sl10⟩)
  (c10:PySem.W.codeIn K cd10 "is_whole" = true)
  (k10:PySem.W.keepIn K (.ref f10)=true)
  (a11:PySem.W.nsIn K mainGlobals "need_vessel" = some (some (.ref f11)))
  (l11:K.lookup f11=some ⟨oc11,od11,.func (PySem.W.fnOf "need_vessel" "need_vessel" (bE (bH 11)) (bC (bH 11)) (aK (bH 11)) .none kV11 dc11 pm11 an11 cd11 ct11),sl11⟩)
  (c11:PySem.W.codeIn K cd11 "need_vessel" = true)
  (k11:PySem.W.keepIn K (.ref f11)=true)
  (a12:PySem.W.nsIn K mainGlobals "leads_to" = some (some (.ref f12)))
  (l12:K.lookup f12=some ⟨oc12,od12,.func (PySem.W.fnOf "leads_to" "leads_to" (bE (bH 18)) (bC (bH 18)) (aK (bH 18)) .none kV12 dc12 pm12 an12 cd12 ct12),sl12⟩)
  (c12:PySem.W.codeIn K cd12 "leads_to" = true)
  (k12:PySem.W.keepIn K (.ref f12)=true)
  (a13:PySem.W.nsIn K mainGlobals "matters" = some (some (.ref f13)))
  (l13:K.lookup f13=some ⟨oc13,od13,.func (PySem.W.fnOf "matters" "matters" (bE (bH 17)) (bC (bH 17)) (aK (bH 17)) .none kV13 dc13 pm13 an13 cd13 ct13),sl13⟩)
  (c13:PySem.W.codeIn K cd13 "matters" = true)
  (k13:PySem.W.keepIn K (.ref f13)=true)
  (a14:PySem.W.nsIn K mainGlobals "counted" = some (some (.ref f14)))
  (l14:K.lookup f14=some ⟨oc14,od14,.func (PySem.W.fnOf "counted" "counted" (bE (bH 20)) (bC (bH 20)) (aK (bH 20)) .none kV14 dc14 pm14 an14 cd14 ct14),sl14⟩)
  (c14:PySem.W.codeIn K cd14 "counted" = true)
  (k14:PySem.W.keepIn K (.ref f14)=true)
  (a15:PySem.W.nsIn K mainGlobals "renumbered_vessel" = some (some (.ref f15)))
  (l15:K.lookup f15=some ⟨oc15,od15,.func (PySem.W.fnOf "renumbered_vessel" "renumbered_vessel" (bE (bH 15)) (bC (bH 15)) (aK (bH 15)) .none kV15 dc15 pm15 an15 cd15 ct15),sl15⟩)
  (c15:PySem.W.codeIn K cd15 "renumbered_vessel" = true)
  (k15:PySem.W.keepIn K (.ref f15)=true)
  (a16:PySem.W.nsIn K mainGlobals "renumbered" = some (some (.ref f16)))
  (l16:K.lookup f16=some ⟨oc16,od16,.func (PySem.W.fnOf "renumbered" "renumbered" (bE (bH 14)) (bC (bH 14)) (aK (bH 14)) .none kV16 dc16 pm16 an16 cd16 ct16),sl16⟩)
  (c16:PySem.W.codeIn K cd16 "renumbered" = true)
  (k16:PySem.W.keepIn K (.ref f16)=true)
  (a17:PySem.W.nsIn K mainGlobals "trimmed" = some (some (.ref f17)))
  (l17:K.lookup f17=some ⟨oc17,od17,.func (PySem.W.fnOf "trimmed" "trimmed" (bE (bH 19)) (bC (bH 19)) (aK (bH 19)) .none kV17 dc17 pm17 an17 cd17 ct17),sl17⟩)
  (c17:PySem.W.codeIn K cd17 "trimmed" = true)
  (k17:PySem.W.keepIn K (.ref f17)=true)
  (a18:PySem.W.nsIn K mainGlobals "_law_word" = some (some (.ref f18)))
  (l18:K.lookup f18=some ⟨oc18,od18,.func (PySem.W.fnOf "_law_word" "_law_word" (bE (bH 24)) (bC (bH 24)) (aK (bH 24)) .none kV18 dc18 pm18 an18 cd18 ct18),sl18⟩)
  (c18:PySem.W.codeIn K cd18 "_law_word" = true)
  (k18:PySem.W.keepIn K (.ref f18)=true)
  (a19:PySem.W.nsIn K mainGlobals "_law_tried" = some (some (.ref f19)))
  (l19:K.lookup f19=some ⟨oc19,od19,.func (PySem.W.fnOf "_law_tried" "_law_tried" (bE (bH 33)) (bC (bH 33)) (aK (bH 33)) .none kV19 dc19 pm19 an19 cd19 ct19),sl19⟩)
  (c19:PySem.W.codeIn K cd19 "_law_tried" = true)
  (k19:PySem.W.keepIn K (.ref f19)=true)
  (a20:PySem.W.nsIn K mainGlobals "law" = some (some (.ref f20)))
  (l20:K.lookup f20=some ⟨oc20,od20,.func (PySem.W.fnOf "law" "law" (bE (bH 34)) (bC (bH 34)) (aK (bH 34)) .none kV20 dc20 pm20 an20 cd20 ct20),sl20⟩)
  (c20:PySem.W.codeIn K cd20 "law" = true)
  (k20:PySem.W.keepIn K (.ref f20)=true)
  (zS:PySem.W.nsIn K mainGlobals "str" = some none)
  (xcTipError:PySem.W.nsIn K mainGlobals "TipError" = some (some (.ref c_TipError)))
  (xcNoNet:PySem.W.nsIn K mainGlobals "NoNet" = some (some (.ref c_NoNet)))
  (xcNoVessel:PySem.W.nsIn K mainGlobals "NoVessel" = some (some (.ref c_NoVessel)))
  (xcTooLong:PySem.W.nsIn K mainGlobals "TooLong" = some (some (.ref c_TooLong)))
  (xcTooMany:PySem.W.nsIn K mainGlobals "TooMany" = some (some (.ref c_TooMany)))
  (xcTooMuch:PySem.W.nsIn K mainGlobals "TooMuch" = some (some (.ref c_TooMuch)))
  (xcNothing:PySem.W.nsIn K mainGlobals "Nothing" = some (some (.ref c_Nothing)))
  (xcNoText:PySem.W.nsIn K mainGlobals "NoText" = some (some (.ref c_NoText)))
  (xcNoRow:PySem.W.nsIn K mainGlobals "NoRow" = some (some (.ref c_NoRow)))
  (xv:PySem.W.nsIn K mainGlobals "ValueError" = some none)
  (gaV:PySem.W.findIn K (.ref c_NoVessel) "__getattribute__" = some (some (.builtin "BaseException.__getattribute__")))
  (gtV:PySem.W.findIn K (.ref c_NoVessel) "__getattr__" = some none)
  (caV:PySem.W.findIn K (.ref c_NoVessel) "__class__" = some (some (.builtin "object.__class__")))
  (gg:PySem.W.specialIn K (.builtin "object.__class__") "__get__" = some (some (.builtin "getset_descriptor.__get__")))
  (tk:PySem.W.takesIn K (.builtin "object.__class__")=some true)
  (moV:PySem.W.mroIn K c_NoVessel (.type "object")=some true)
  (mbV:PySem.W.mroIn K c_NoVessel (.type "BaseException")=some true)
  (clV:K.lookup c_NoVessel=some ⟨qcV,qdV,.cls qkV,qsV⟩)
  (z0:PySem.W.nsIn K mainGlobals "len" = some none)
  (z1:PySem.W.nsIn K mainGlobals "sum" = some none)
  (z2:PySem.W.nsIn K mainGlobals "all" = some none)
  (z3:PySem.W.nsIn K mainGlobals "max" = some none)
  (z4:PySem.W.nsIn K mainGlobals "min" = some none)
  (z5:PySem.W.nsIn K mainGlobals "int" = some none)
  (z6:PySem.W.nsIn K mainGlobals "tuple" = some none)
  (z7:PySem.W.nsIn K mainGlobals "list" = some none)
  (z8:PySem.W.nsIn K mainGlobals "bool" = some none)
  (z9:PySem.W.nsIn K mainGlobals "range" = some none)
  (z10:PySem.W.nsIn K mainGlobals "zip" = some none)
  (z11:PySem.W.nsIn K mainGlobals "enumerate" = some none)
  (z12:PySem.W.nsIn K mainGlobals "isinstance" = some none)
  (z13:PySem.W.nsIn K mainGlobals "divmod" = some none)
  (z14:PySem.W.nsIn K mainGlobals "set" = some none)
  (z15:PySem.W.nsIn K mainGlobals "sorted" = some none)
  (exV:PySem.W.excIn K c_NoVessel [.type "ValueError",.type "Exception",.type "BaseException",.type "object"] "ValueError.__new__" = true)
  (vaV:PySem.W.kitOne K (.ref c_NoVessel) (.type "ValueError")=some true)
  (kkV0:PySem.W.kitOne K (.ref c_NoVessel) (.ref c_NoNet)=some false)
  (kkV1:PySem.W.kitOne K (.ref c_NoVessel) (.ref c_NoVessel)=some true)
  (kkV2:PySem.W.kitOne K (.ref c_NoVessel) (.ref c_TooLong)=some false)
  (kkV3:PySem.W.kitOne K (.ref c_NoVessel) (.ref c_TooMany)=some false)
  (kkV4:PySem.W.kitOne K (.ref c_NoVessel) (.ref c_TooMuch)=some false)
  (kkV5:PySem.W.kitOne K (.ref c_NoVessel) (.ref c_Nothing)=some false)
  (kkV6:PySem.W.kitOne K (.ref c_NoVessel) (.ref c_NoText)=some false)
  (kkV7:PySem.W.kitOne K (.ref c_NoVessel) (.ref c_NoRow)=some false)
  (hmVh:PySem.W.exmOne K (.ref c_NoVessel) (.ref c_TipError)=some true) :
  ∃ fd:FuncData,(∀ (s:Shared) (v:Value),BindsTo s fd ⟨[v],[]⟩ [("script",v)])∧∀ base:Heap,K.In base→base.Ns mainGlobals mg→FnOk l.prog w K mg base CX0 6 fa fd ["script"] (spLaw K):=by
 have e:=hfa.symm.trans (PySem.W.mg_of X G a20)
 cases e
 have T:Txt mg:=⟨PySem.W.mg_none_of X G z0,PySem.W.mg_none_of X G z1,PySem.W.mg_none_of X G z2,PySem.W.mg_none_of X G z3,PySem.W.mg_none_of X G z4,PySem.W.mg_none_of X G z5,PySem.W.mg_none_of X G z6,PySem.W.mg_none_of X G z7,PySem.W.mg_none_of X G z8,PySem.W.mg_none_of X G z9,PySem.W.mg_none_of X G z10,PySem.W.mg_none_of X G z11,PySem.W.mg_none_of X G z12,PySem.W.mg_none_of X G z13,PySem.W.mg_none_of X G z14,PySem.W.mg_none_of X G z15⟩
 have TS:TxtS mg:=⟨PySem.W.mg_none_of X G zS⟩
 have W:TxtW mg c_TipError c_NoNet c_NoVessel c_TooLong c_TooMany c_TooMuch c_Nothing c_NoText c_NoRow:=⟨PySem.W.mg_of X G xcTipError,PySem.W.mg_of X G xcNoNet,PySem.W.mg_of X G xcNoVessel,PySem.W.mg_of X G xcTooLong,PySem.W.mg_of X G xcTooMany,PySem.W.mg_of X G xcTooMuch,PySem.W.mg_of X G xcNothing,PySem.W.mg_of X G xcNoText,PySem.W.mg_of X G xcNoRow,PySem.W.mg_none_of X G xv⟩
 have XC_NoVessel:ExC K "NoVessel" c_NoVessel:=⟨xcNoVessel,exV⟩
 have kdV:KindOf K c_NoNet c_NoVessel c_TooLong c_TooMany c_TooMuch c_Nothing c_NoText c_NoRow c_NoVessel [false,true,false,false,false,false,false,false]:=⟨⟨gaV,gtV,caV,gg,tk,moV,mbV⟩,⟨_,_,_,_,clV⟩,vaV,⟨_,_,_,_,_,_,_,_,rfl,kkV0,kkV1,kkV2,kkV3,kkV4,kkV5,kkV6,kkV7⟩⟩
 have hmV:=hmVh
 have F0:=bY (st:=(bH 22)) l0 c0 k0
 have F1:=bY (st:=(bH 25)) l1 c1 k1
 have F2:=bY (st:=(bH 26)) l2 c2 k2
 have F3:=bY (st:=(bH 27)) l3 c3 k3
 have F4:=bY (st:=(bH 30)) l4 c4 k4
 have F5:=bY (st:=(bH 31)) l5 c5 k5
 have F6:=bY (st:=(bH 32)) l6 c6 k6
 have F7:=bY (st:=(bH 23)) l7 c7 k7
 have F8:=bY (st:=(bH 29)) l8 c8 k8
 have F9:=bY (st:=(bH 28)) l9 c9 k9
 have F10:=bY (st:=(bH 12)) l10 c10 k10
 have F11:=bY (st:=(bH 11)) l11 c11 k11
 have F12:=bY (st:=(bH 18)) l12 c12 k12
 have F13:=bY (st:=(bH 17)) l13 c13 k13
 have F14:=bY (st:=(bH 20)) l14 c14 k14
 have F15:=bY (st:=(bH 15)) l15 c15 k15
 have F16:=bY (st:=(bH 14)) l16 c16 k16
 have F17:=bY (st:=(bH 19)) l17 c17 k17
 have F18:=bY (st:=(bH 24)) l18 c18 k18
 have F19:=bY (st:=(bH 33)) l19 c19 k19
 have F20:=bY (st:=(bH 34)) l20 c20 k20
 refine⟨PySem.W.fnOf "law" "law" (bE (bH 34)) (bC (bH 34)) (aK (bH 34)) .none kV20 dc20 pm20 an20 cd20 ct20,fun s v=>.of_eq rfl,fun base _ _=>?_⟩
 have CB0:Callee l.prog w K mg base "_law_draw" ["tape","many"] 1 spDrawB f0 _:=⟨ok__law_drawB F0 T,PySem.W.mg_of X G a0,k0,F0.binds (ps:=["tape","many"]) fun _ _ _ _ _ _=>by_len2 fun _ _=>rfl⟩
 have C0:Callee l.prog w K mg base "_law_draw" ["tape","many"] 1 spDraw f0 _:=⟨ok__law_draw F0 T,PySem.W.mg_of X G a0,k0,F0.binds (ps:=["tape","many"]) fun _ _ _ _ _ _=>by_len2 fun _ _=>rfl⟩
 have C1:Callee l.prog w K mg base "_law_outs" ["tape","many","small"] 2 (spOuts K) f1 _:=⟨ok__law_outs F1 T C0,PySem.W.mg_of X G a1,k1,F1.binds (ps:=["tape","many","small"]) fun _ _ _ _ _ _=>by_len3 fun _ _ _=>rfl⟩
 have C2:Callee l.prog w K mg base "_law_vessel" ["tape","number","many","spouts","small"] 3 (spVessel K) f2 _:=⟨ok__law_vessel F2 T C0 C1,PySem.W.mg_of X G a2,k2,F2.binds (ps:=["tape","number","many","spouts","small"]) fun _ _ _ _ _ _=>by_len5 fun _ _ _ _ _=>rfl⟩
 have C3:Callee l.prog w K mg base "_law_net" ["tape","most","small"] 4 (spNetM K) f3 _:=⟨ok__law_netM F3 T C0 C2,PySem.W.mg_of X G a3,k3,F3.binds (ps:=["tape","most","small"]) fun _ _ _ _ _ _=>by_len3 fun _ _ _=>rfl⟩
 have C4:Callee l.prog w K mg base "_law_matters" ["net","watched"] 1 (spLMat K) f4 _:=⟨ok__law_matters F4 T,PySem.W.mg_of X G a4,k4,F4.binds (ps:=["net","watched"]) fun _ _ _ _ _ _=>by_len2 fun _ _=>rfl⟩
 have C5:Callee l.prog w K mg base "_law_number_in" ["kept","target"] 1 (spNumIn K) f5 _:=⟨ok__law_number_in F5 T,PySem.W.mg_of X G a5,k5,F5.binds (ps:=["kept","target"]) fun _ _ _ _ _ _=>by_len2 fun _ _=>rfl⟩
 have C6:Callee l.prog w K mg base "_law_trimmed" ["net","watched"] 2 (spLTrim K) f6 _:=⟨ok__law_trimmed F6 T C4 C5,PySem.W.mg_of X G a6,k6,F6.binds (ps:=["net","watched"]) fun _ _ _ _ _ _=>by_len2 fun _ _=>rfl⟩
 have C7:Callee l.prog w K mg base "_law_whole" ["thing","low","high"] 1 spWhole f7 _:=⟨ok__law_whole F7 T,PySem.W.mg_of X G a7,k7,F7.binds (ps:=["thing","low","high"]) fun _ _ _ _ _ _=>by_len3 fun _ _ _=>rfl⟩
 have C8:Callee l.prog w K mg base "_law_is_vessel" ["thing","number","many","spouts"] 2 (spIsVessel K) f8 _:=⟨ok__law_is_vessel F8 T TS C7,PySem.W.mg_of X G a8,k8,F8.binds (ps:=["thing","number","many","spouts"]) fun _ _ _ _ _ _=>by_len4 fun _ _ _ _=>rfl⟩
 have C9:Callee l.prog w K mg base "_law_is_net" ["thing"] 3 (spIsNet K) f9 _:=⟨ok__law_is_net F9 T C7 C8,PySem.W.mg_of X G a9,k9,F9.binds (ps:=["thing"]) fun _ _ _ _ _ _=>by_len1 fun _=>rfl⟩
 have C10:Callee l.prog w K mg base "is_whole" ["thing","least","most"] 1 spWholeI f10 _:=⟨ok_is_wholeI F10 T,PySem.W.mg_of X G a10,k10,F10.binds (ps:=["thing","least","most"]) fun _ _ _ _ _ _=>by_len3 fun _ _ _=>rfl⟩
 have C11:CalleeR l.prog w K mg base "need_vessel" ["net","number"] 2 (spNeedR K c_NoVessel) f11 _:=⟨ok_need_vesselR F11 T XC_NoVessel C10,PySem.W.mg_of X G a11,k11,F11.binds (ps:=["net","number"]) fun _ _ _ _ _ _=>by_len2 fun _ _=>rfl⟩
 have C12:Callee l.prog w K mg base "leads_to" ["vessel","spouts"] 1 (spLeads K) f12 _:=⟨ok_leads_to F12 T,PySem.W.mg_of X G a12,k12,F12.binds (ps:=["vessel","spouts"]) fun _ _ _ _ _ _=>by_len2 fun _ _=>rfl⟩
 have C13:CalleeR l.prog w K mg base "matters" ["net","watched"] 3 (spMatters K c_NoVessel) f13 _:=⟨ok_mattersR F13 T C11 C12,PySem.W.mg_of X G a13,k13,F13.binds (ps:=["net","watched"]) fun _ _ _ _ _ _=>by_len2 fun _ _=>rfl⟩
 have C14:Callee l.prog w K mg base "counted" ["kept"] 1 (spCounted K) f14 _:=⟨ok_counted F14 T,PySem.W.mg_of X G a14,k14,F14.binds (ps:=["kept"]) fun _ _ _ _ _ _=>by_len1 fun _=>rfl⟩
 have C15:Callee l.prog w K mg base "renumbered_vessel" ["vessel","new_vessels","new_spouts"] 1 (spRenV K) f15 _:=⟨ok_renumbered_vessel F15 T,PySem.W.mg_of X G a15,k15,F15.binds (ps:=["vessel","new_vessels","new_spouts"]) fun _ _ _ _ _ _=>by_len3 fun _ _ _=>rfl⟩
 have C16:Callee l.prog w K mg base "renumbered" ["net","new_vessels","new_spouts"] 2 (spRen K) f16 _:=⟨ok_renumbered F16 T C15,PySem.W.mg_of X G a16,k16,F16.binds (ps:=["net","new_vessels","new_spouts"]) fun _ _ _ _ _ _=>by_len3 fun _ _ _=>rfl⟩
 have C17:CalleeR l.prog w K mg base "trimmed" ["net","watched"] 4 (spTrimmed K c_NoVessel) f17 _:=⟨ok_trimmedR F17 T C13 C14 C16,PySem.W.mg_of X G a17,k17,F17.binds (ps:=["net","watched"]) fun _ _ _ _ _ _=>by_len2 fun _ _=>rfl⟩
 have C18:Callee l.prog w K mg base "_law_word" ["error"] 1 (spWord K c_NoNet c_NoVessel c_TooLong c_TooMany c_TooMuch c_Nothing c_NoText c_NoRow) f18 _:=⟨ok__law_word F18 T W,PySem.W.mg_of X G a18,k18,F18.binds (ps:=["error"]) fun _ _ _ _ _ _=>by_len1 fun _=>rfl⟩
 have C19:Callee l.prog w K mg base "_law_tried" ["way","net","watched"] 5 (spTry21 K) f19 _:=⟨ok__law_tried F19 T W kdV hmV C13 C17 C18,PySem.W.mg_of X G a19,k19,F19.binds (ps:=["way","net","watched"]) fun _ _ _ _ _ _=>by_len3 fun _ _ _=>rfl⟩
 exact ok_law F20 T C0 CB0 C3 C4 C6 C9 C19
theorem walk {l:PySem.W.OpenLaw}{q:Program}{loose:List Str}{XP:(Str→Option Value)→Heap→Prop}{YP:World→Heap→Prop}{d:DefRec}{K:Params→PySem.W.Frag} (hn:l.most=some 63) (hdf:d.params.defaults=[])
  (hY:∀ (w:World) (h:Heap),YP w h→(K w.params).In h)
  (F:∀ (w:World) (mg:Str→Option Value) (fa:Addr) (h:Heap),(K w.params).In h→h.Ns mainGlobals mg→mg d.name=some (.ref fa)→
   ∃ fd:FuncData,(∀ (s:Shared) (u:Value),BindsTo s fd ⟨[u],[]⟩ [("script",u)])∧∀ base:Heap,(K w.params).In base→base.Ns mainGlobals mg→FnOk l.prog w (K w.params) mg base CX0 6 fa fd ["script"] (spLaw (K w.params))) :
  PySem.W.WalkO q loose XP YP l.row.toRowW d [] (fun f vs=>PySem.call f vs):=
 L2.walk_of (n:=63) (k:=6) (x := "script") (CX:=fun _=>CX0) (sp:=fun w=>spLaw (K w.params)) hn (by decide) hdf ⟨rfl,by decide,by decide⟩ hY F (fun _ _ a ns hl _ hS=>⟨a,ns,rfl,hS,hl,fun _=>rfl⟩) fun _ _ _ _ _ z=>z
end Tw
noncomputable def PySem.W.Fast.tw4451784449773824693:Nat:=0
theorem PySem.W.Fast.te4451784449773824693:PySem.W.Fast.tw4451784449773824693=PySem.W.Fast.tw4451784449773824693:=rfl
noncomputable def PySem.W.Fast.tw4621014144887380484:PySem.Program:=PySem.Challenge.pw_tipwell_k21_what_matters
theorem PySem.W.Fast.te4621014144887380484:PySem.Challenge.pw_tipwell_k21_what_matters=PySem.W.Fast.tw4621014144887380484:=rfl
namespace PySem.W.Fast
def tw13485622419915158337:=0
def tw11976367321737964231:=0
def tw17801497492253756110:=0
def tw17184759048546984686:=0
def tw4257742978173048556:=0
def tw14673973760214677278:=0
def tw8631536068403051815:=0
def tw7862828627665171595:=0
def tw12468503886484133902:=0
def tw11314548975612644210:=0
def tw16585868578572908413:=0
def tw7395286635862564133:=0
def tw2794561957416527226:=0
def tw16757095599480228447:=0
def tw18334293688772189153:=0
def tw11405690786866713746:=0
def tw8745962538505500053:=0
def tw3336141114749044034:=0
def tw13193929016203721513:=0
def tw6406807811342684955:=0
def tw14526889920824093728:=0
def tw1070904064943130862:=0
def tw13003665148725795314:=0
def tw6038041606022808965:=0
def tw11103248959099046702:=0
def tw1587605742596993854:=0
def tw5705803063261409505:=0
def tw3681134912120453812:=0
def tw11165658890359111759:=0
def tw1254931169678062803:=0
def tw1440272545988357385:=0
def tw14243840116542971862:=0
def tw577036361792058772:=0
def tw12530245765758774344:=0
def tw16289649225895765442:=0
def tw1912762049393604925:=0
def tw6234740941592474320:=0
def tw17489986213814844435:=0
def tw16916603196624723662:=0
def tw8135898216235280920:=0
def tw8558854208510831405:=0
def tw704213772896221186:=0
def tw12742952838968853775:=0
def tw5550835088686832558:=0
def tw6506169684310836135:=0
def tw8745983635949913536:=0
def tw16346075597222518829:=0
def tw1406356000646041817:=0
def tw15744355814471237556:=0
def tw7175863078687135862:=0
def tw15436455122286192321:=0
def tw5376627749678613035:=0
def tw3853134323413686944:=0
def tw10404314086316869445:=0
def tw6554705458189541358:=0
def tw10962599662786186195:=0
def tw5238195662785383498:=0
def tw4434524372726191818:=0
def tw18055547845589139543:=0
def tw6726238557991883448:=0
def tw3907225579854099055:=0
def tw8619668588664918483:=0
def tw2350692222316747555:=0
def tw4803762203982055697:=0
def tw2488764875999468692:=0
def tw9226339974243369940:=0
def tw18269000691632657971:=0
end PySem.W.Fast
open PySem PySem.W PyProof.Rows
set_option maxRecDepth 100000 in
set_option maxHeartbeats 0 in
theorem PySem.Challenge.cw_tipwell_k21_what_matters_holds : PySem.Challenge.rw_tipwell_k21_what_matters.Holds := by
 w_on;o_law;k_head;(case hw=>w_witness2)
 k_fill
 refine Tw.walk (l:=PySem.Challenge.rw_tipwell_k21_what_matters) rfl rfl (fun w h Y=>by first | exact PySem.W.kIn_of Y | exact PySem.W.km_in_of Y) ?F
 case F=>
  intro w mg fa h KX G hmg
  refine' Tw.all_mk KX G hmg ?_ ?_ ?_ ?_ ?_ ?_ ?_ ?_ ?_ ?_ ?_ ?_ ?_ ?_ ?_ ?_ ?_ ?_ ?_ ?_ ?_ ?_ ?_ ?_ ?_ ?_ ?_ ?_ ?_ ?_ ?_ ?_ ?_ ?_ ?_ ?_ ?_ ?_ ?_ ?_ ?_ ?_ ?_ ?_ ?_ ?_ ?_ ?_ ?_ ?_ ?_ ?_ ?_ ?_ ?_ ?_ ?_ ?_ ?_ ?_ ?_ ?_ ?_ ?_ ?_ ?_ ?_ ?_ ?_ ?_ ?_ ?_ ?_ ?_ ?_ ?_ ?_ ?_ ?_ ?_ ?_ ?_ ?_ ?_ ?_ ?_ ?_ ?_ ?_ ?_ ?_ ?_ ?_ ?_ ?_ ?_ ?_ ?_ ?_ ?_ ?_ ?_ ?_ ?_ ?_ ?_ ?_ ?_ ?_ ?_ ?_ ?_ ?_ ?_ ?_ ?_ ?_ ?_ ?_ ?exV ?vaV ?kkV0 ?kkV1 ?kkV2 ?kkV3 ?kkV4 ?kkV5 ?kkV6 ?kkV7 ?hmVh
  all_goals try k_is
  (case exV=>k_exc)
  (case vaV=>kit_is)
  (case kkV0=>kit_is)
  (case kkV1=>kit_is)
  (case kkV2=>kit_is)
  (case kkV3=>kit_is)
  (case kkV4=>kit_is)
  (case kkV5=>kit_is)
  (case kkV6=>kit_is)
  (case kkV7=>kit_is)
  (case hmVh=>kts_exm)
#print axioms PySem.Challenge.cw_tipwell_k21_what_matters_holds