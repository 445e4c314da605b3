import PyProof.Rows.All
import Wide.All
import OpenK.AllK
import Wide.FinOn
import Lean
import PyProof.EqAt
import PyProof.EqKinds
import PyProof.TupleCall
import PyProof.FactsAll.NoneType
import PyProof.ZipIter
import PyProof.EnumMake
import KE.KUnpack
import KE.KTryMore
import PyProof.NsDelKeeps
import PyProof.TupleKey
import PyProof.FactsAll.bool_1
import PyProof.NeKinds
import PyProof.ListRange
import PyProof.FactsAll.tuple_0
import PyProof.FactsAll.tuple_2
import PyProof.Rows.SetFrom
import PyProof.CollectWalk
import PyProof.Rows.SortWalk
import KE.RegKIsAll
import KE.RegKTryMore
import PySem.Challenge.RW_tipwell_k08_whole_tips_for_ever
set_option Elab.async false
set_option linter.all false
set_option maxRecDepth 100000
namespace L2
open PySem PySem.Spec PyProof.Rows
noncomputable abbrev Key:=Sum Int (Option Str)
noncomputable def isNon:Value→Bool
 | .none=>true
 | _=>false
theorem isNon_shape {v:Value} (h:isNon v=true):v=Value.none:=by
 cases v <;> simp_all [isNon]
noncomputable def keyIs:Key→Value→Bool
 | .inl k,v=>Value.isInt k v
 | .inr (some x),v=>Value.isStrOf x v
 | .inr none,v=>isNon v
noncomputable def hashNon:Int:=0xFCA86420
noncomputable def keyH (w:World):Key→Int
 | .inl k=>hashInt k
 | .inr (some x)=>hashStr w x
 | .inr none=>hashNon
theorem cO:∀ {k:Key}{v:Value},keyIs k v=true→(∃ i t,k=Sum.inl i∧v=Value.int i t)∨(∃ x t,k=Sum.inr (some x)∧v=Value.str x t)∨(k=Sum.inr none∧v=Value.none)
 | .inl i,v,h=>by
  obtain⟨t,e⟩:=Value.isInt_shape (k:=i) (v:=v) h
  exact .inl ⟨i,t,rfl,e⟩
 | .inr (some x),v,h=>by
  obtain⟨t,e⟩:=Value.isStrOf_shape (x:=x) (v:=v) h
  exact .inr (.inl ⟨x,t,rfl,e⟩)
 | .inr none,v,h=>.inr (.inr ⟨rfl,isNon_shape h⟩)
theorem keyIs_int (i:Int) (t:Tok):keyIs (.inl i) (.int i t)=true:=by simp [keyIs,Value.isInt]
theorem keyIs_str (x:Str) (t:Tok):keyIs (.inr (some x)) (.str x t)=true:=by simp [keyIs,Value.isStrOf]
theorem key_ll (a b:Int):decide ((Sum.inl a:Key)=Sum.inl b)=(a == b):=by
 by_cases e:a=b
 ·subst e;simp
 ·have h:¬ (Sum.inl a:Key)=Sum.inl b:=fun q=>e (Sum.inl.inj q)
  rw[decide_eq_false h]
  exact (beq_eq_false_iff_ne.mpr e).symm
theorem key_rr (a b:Str):decide ((Sum.inr (some a):Key)=Sum.inr (some b))=decide (a=b):=by
 by_cases e:a=b
 ·subst e;simp
 ·have h:¬ (Sum.inr (some a):Key)=Sum.inr (some b):=fun q=>e (Option.some.inj (Sum.inr.inj q))
  rw[decide_eq_false h,decide_eq_false e]
theorem key_li (i:Int) (o:Option Str):decide ((Sum.inl i:Key)=Sum.inr o)=false:=decide_eq_false (fun q=>nomatch q)
theorem key_il (i:Int) (o:Option Str):decide ((Sum.inr o:Key)=Sum.inl i)=false:=decide_eq_false (fun q=>nomatch q)
theorem key_sn (x:Str):decide ((Sum.inr (some x):Key)=Sum.inr none)=false:=decide_eq_false (fun q=>nomatch (Sum.inr.inj q))
theorem key_ns (x:Str):decide ((Sum.inr none:Key)=Sum.inr (some x))=false:=decide_eq_false (fun q=>nomatch (Sum.inr.inj q))
theorem hash_non {prog:Program}{w:World}{A:Around}{E:Value→Shared→Prop}{s:Shared}{Q:Int→Shared→Prop} (h:Q hashNon { s with toks:=s.toks+1 }) :
  wpAny (model prog w) A (pyHash .none) Q E s:=by
 have hT:s.TypeIs .none "NoneType" := rfl
 unfold pyHash
 have hv:[Value.none].any Value.onHeap=false:=rfl
 refine wpAny_bind ?_
 rw[cRoomFor,if_neg (by rw[hv];exact Bool.false_ne_true)];refine wpAny_pure ?_
 refine wpAny_bind (wpAny_specialOf hT F.slot_NoneType_hash.lookup ?_)
 show wpAny _ _ (if (some (Value.builtin "NoneType.__hash__") == some Value.none)=true then _ else _) Q E s
 rw[if_neg (by rw[beq_builtin_none];exact Bool.false_ne_true)]
 refine wpAny_bind (wpAny_specialOf hT F.slot_NoneType_hash.lookup ?_)
 show wpAny _ _ (callSpecialIfBoundUnlessNone? .none "__hash__" _ >>= _) Q E s
 refine wpAny_bind (wpAny_callSpecialIfBoundUnlessNone?_slot hT F.slot_NoneType_hash
  (wpAny_call_entry F.slot_NoneType_hash hT F.entry_NoneType_hash
   (show wpAny _ _ (do ret (← mkInt hashNon)) _ _ s from wpAny_ret_mkInt ?_) (F.args_NoneType_hash_1 _)))
 show wpAny _ _ (if (decide (-(2:Int) ^ 63≤hashNon) && decide (hashNon < 2 ^ 63))=true then _ else _) Q E _
 rw[if_pos (by decide)]
 exact wpAny_pure h
noncomputable def dH (prog:Program) (w:World):PySem.KeyKind prog w Key where
 is:=keyIs
 hash:=keyH w
 inj:=fun v a b ha hb=>by
  rcases cO ha with ⟨i,t,rfl,rfl⟩ | ⟨x,t,rfl,rfl⟩ | ⟨rfl,rfl⟩
  ·rcases cO hb with ⟨j,u,rfl,e⟩ | ⟨y,u,rfl,e⟩ | ⟨rfl,e⟩
   ·injection e with e1 _;rw[e1]
   ·exact nomatch e
   ·exact nomatch e
  ·rcases cO hb with ⟨j,u,rfl,e⟩ | ⟨y,u,rfl,e⟩ | ⟨rfl,e⟩
   ·exact nomatch e
   ·injection e with e1 _;rw[e1]
   ·exact nomatch e
  ·rcases cO hb with ⟨j,u,rfl,e⟩ | ⟨y,u,rfl,e⟩ | ⟨rfl,e⟩
   ·exact nomatch e
   ·exact nomatch e
   ·rfl
 byValue:=fun k v h=>by
  rcases cO h with ⟨i,t,rfl,rfl⟩ | ⟨x,t,rfl,rfl⟩ | ⟨rfl,rfl⟩ <;> rfl
 pyHash:=fun hv h=>by
  rcases cO hv with ⟨i,t,rfl,rfl⟩ | ⟨x,t,rfl,rfl⟩ | ⟨rfl,rfl⟩
  ·exact wpAny_pyHash_int h
  ·exact wpAny_pyHash_str h
  ·exact hash_non h
 eqBool:=fun hu hv h=>by
  rcases cO hu with ⟨i,t,rfl,rfl⟩ | ⟨x,t,rfl,rfl⟩ | ⟨rfl,rfl⟩
  ·rcases cO hv with ⟨j,u,rfl,rfl⟩ | ⟨y,u,rfl,rfl⟩ | ⟨rfl,rfl⟩
   ·rw[key_ll] at h;exact wpAny_eqBool_int h
   ·rw[key_li] at h;exact SeqAt.EqAt.int_str i t y u _ _ _ _ h
   ·rw[key_li] at h;exact SeqAt.EqAt.int_none i t _ _ _ _ h
  ·rcases cO hv with ⟨j,u,rfl,rfl⟩ | ⟨y,u,rfl,rfl⟩ | ⟨rfl,rfl⟩
   ·rw[key_il] at h;exact SeqAt.EqAt.str_int x t j u _ _ _ _ h
   ·rw[key_rr] at h;exact wpAny_eqBool_str h
   ·rw[key_sn] at h;exact SeqAt.EqAt.str_none x t _ _ _ _ h
  ·rcases cO hv with ⟨j,u,rfl,rfl⟩ | ⟨y,u,rfl,rfl⟩ | ⟨rfl,rfl⟩
   ·rw[key_il] at h;exact SeqAt.EqAt.none_int j u _ _ _ _ h
   ·rw[key_ns] at h;exact SeqAt.EqAt.none_str y u _ _ _ _ h
   ·rw[decide_eq_true rfl] at h;exact SeqAt.EqAt.same Value.none _ _ _ _ h
 «strs»:=fun k x t v h=>by
  rcases cO h with ⟨i,u,rfl,e⟩ | ⟨y,u,rfl,e⟩ | ⟨rfl,e⟩
  ·exact nomatch e
  ·injection e with e1 _
   subst e1
   cases v <;> rfl
  ·exact nomatch e
theorem mixKind_int (prog:Program) (w:World) (i:Int) (t:Tok):(dH prog w).is (.inl i) (.int i t)=true:=keyIs_int i t
theorem mixKind_str (prog:Program) (w:World) (x:Str) (t:Tok):(dH prog w).is (.inr (some x)) (.str x t)=true:=keyIs_str x t
end L2
namespace L2
open PySem PySem.Spec PyProof.Rows
inductive V where
 | non | bl (b:Bool) | int (i:Int) | str (x:Str) | byt (b:Array UInt8) | flt (b:UInt64) | ref (a:Addr) | ty (n:String)
 deriving DecidableEq
noncomputable def bS:V→Value→Prop
 | .non,u=>u=Value.none
 | .bl b,u=>u=Value.bool b
 | .int i,u=>∃ t,u=Value.int i t
 | .str x,u=>∃ t,u=Value.str x t
 | .byt b,u=>∃ t,u=Value.bytes b t
 | .flt b,u=>∃ t,u=Value.float b t
 | .ref a,u=>u=Value.ref a
 | .ty n,u=>u=Value.type n
noncomputable abbrev bX:List V→List Value→Prop:=Paired bS
theorem bX.length {xs:List V}{us:List Value} (r:bX xs us):xs.length=us.length:=Paired.length r
theorem bX.get:∀ {xs:List V}{us:List Value}{i:Nat}{x:V},bX xs us→xs[i]? = some x→∃ u,us[i]? = some u∧bS x u
 | _,_,_,_,.nil,e=>by simp at e
 | _,_,0,_,.cons r _,e=>by simp at e;subst e;exact⟨_,rfl,r⟩
 | _,_,i+1,x,.cons _ t,e=>by
  obtain⟨u,h1,h2⟩:=bX.get (i:=i) (x:=x) t (by simpa using e)
  exact⟨u,by simpa using h1,h2⟩
theorem bX.set {x:V}{u:Value} (r:bS x u):∀ {xs:List V}{us:List Value} (i:Nat),bX xs us→bX (xs.set i x) (us.set i u)
 | _,_,_,.nil=>.nil
 | _,_,0,.cons _ t=>.cons r t
 | _,_,i+1,.cons q t=>.cons q (bX.set r i t)
theorem bX.append:∀ {xs ys:List V}{us ws:List Value},bX xs us→bX ys ws→bX (xs++ys) (us++ws)
 | _,_,_,_,.nil,s=>s
 | _,_,_,_,.cons r t,s=>.cons r (bX.append t s)
theorem bX.take:∀ {xs:List V}{us:List Value} (n:Nat),bX xs us→bX (xs.take n) (us.take n)
 | _,_,0,_=>.nil
 | _,_,_+1,.nil=>.nil
 | _,_,n+1,.cons r t=>.cons r (bX.take n t)
theorem bX.drop:∀ {xs:List V}{us:List Value} (n:Nat),bX xs us→bX (xs.drop n) (us.drop n)
 | _,_,0,r=>r
 | _,_,_+1,.nil=>.nil
 | _,_,n+1,.cons _ t=>bX.drop n t
noncomputable def RelO:Option V→Option Value→Prop
 | some v,some u=>bS v u
 | none,none=>True
 | _,_=>False
noncomputable def KV {κ:Type}:List (κ×V)→List (κ×Value)→Prop:=Paired fun (p:κ×V) (q:κ×Value)=>p.1=q.1∧bS p.2 q.2
noncomputable def kV:Key→V
 | .inl i=>.int i
 | .inr (some x)=>.str x
 | .inr none=>.non
inductive HO where
 | lst (xs:List V)
 | tup (xs:List V)
 | dK (kvs:List (Key×V)) | dT (kvs:List (List Key×V))
 | set (S:Int→Bool) (n:Nat)
 | ins (C dx:Addr) (fs:List (Str×V))
 | own (x:Addr)
 | xd (fs:List (Str×V))
 | met (f x:Addr)
 | rng (lo hi:Int)
 | frz (o:Obj) (u:HO)
 | tbl (ps:Array Value)
 | ext (φ:Heap→Prop)
noncomputable abbrev Hp:=Addr→Option HO
noncomputable def upd (H:Hp) (a:Addr) (o:HO):Hp:=fun b=>if b=a then some o else H b
theorem aC {H:Hp}{a:Addr}{o:HO}:upd H a o a=some o:=by unfold upd;rw[if_pos rfl]
theorem aQ {H:Hp}{a b:Addr}{o:HO} (h:b≠a):upd H a o b=H b:=by unfold upd;rw[if_neg h]
theorem ne_of {H:Hp}{a b:Addr}{o u:HO} (h:H a=some o) (h':H b=some u) (d:o≠u):a≠b:=by
 intro e;subst e;rw[h] at h';exact d (Option.some.inj h')
theorem aN {H:Hp}{a b:Addr}{o:HO} (h:H a=some o) (h':H b=none):a≠b:=by
 intro e;subst e;rw[h] at h';cases h'
section
variable (P:Program) (w:World)
noncomputable def cZ (H:Hp) (h:Heap) (a:Addr):HO→Prop
 | .lst xs=>xs.length≤sizeLine∧∃ (its:List Value) (n:Nat),bX xs its∧h.get? a=some { cls:=.type "list",data:=.seq its.toArray n }
 | .tup xs=>xs.length≤sizeLine∧∃ its:List Value,bX xs its∧IsTup h a its.toArray
 | .dK kvs=>kvs.length≤sizeLine∧(a == sysModules)=false∧∃ vs,KV kvs vs∧h.DictOf (dH P w) a vs
 | .dT kvs=>kvs.length≤sizeLine∧(a == sysModules)=false∧∃ xs:List (List Key×Addr×Value),
   Paired (fun (p:List Key×V) (q:List Key×Addr×Value)=>p.1=q.1∧H q.2.1=some (.tup (p.1.map kV))∧bS p.2 q.2.2) kvs xs∧
   ∃ o es ep,h.get? a=some o∧o.ExactDict∧o.data=.dict es ep∧es.toList=xs.map (entryOfKey (tupleKind (dH P w)))∧(xs.map (·.1)).Nodup
 | .set S n=>h.SetOf (intKind P w) a S n
 | .ins C dx fs=>H dx=some (.own a)∧fs.length≤1000∧dx≠a∧h.get? a=some (PySem.W.instObj C dx)∧
   ∃ mA,h.Ns1 dx mA∧(∀ f,RelO (fs.lookup f) (mA f))∧PySem.Within mA (fs.map (·.1))
 | .own _=>∃ o,h.get? a=some o
 | .xd fs=>∃ mA,h.Ns1 a mA∧∀ f,RelO (fs.lookup f) (mA f)
 | .rng lo hi=>∃ t u v,h.get? a=some { cls:=.type "range",data:=.fields #[.int lo t,.int hi u,.int 1 v] }
 | .frz o u=>h.get? a=some o∧cZ H h a u
 | .tbl ps=>h.get? a=some { cls:=.none,data:=.fields ps }
 | .met f x=>h.get? a=some (PySem.W.methodObj (.ref f) (.ref x))
 | .ext φ=>φ h∧(∃ o,h.get? a=some o)∧∀ h1 h2:Heap,φ h1→(∀ o,h1.get? a=some o→h2.get? a=some o)→φ h2
noncomputable def HOk (H:Hp) (h:Heap):Prop:=∀ a o,H a=some o→cZ P w H h a o
end
section
variable {P:Program}{w:World}{H H':Hp}{h h':Heap}{a:Addr}{o:HO}
theorem cZ.lt (x:cZ P w H h a o):a < h.objs.size:=by
 cases o with
 | lst xs=>obtain⟨_,_,_,_,e⟩:=x;exact Heap.lt_size e
 | tup xs=>obtain⟨_,_,_,p⟩:=x;exact p.lt
 | dK kvs=>obtain⟨_,_,_,_,o,_,_,e,_⟩:=x;exact Heap.lt_size e
 | dT kvs=>obtain⟨_,_,_,_,o,_,_,e,_⟩:=x;exact Heap.lt_size e
 | set S n=>obtain⟨o,_,_,_,e,_⟩:=x;exact Heap.lt_size e
 | ins C dx fs=>obtain⟨_,_,_,e,_⟩:=x;exact Heap.lt_size e
 | own y=>obtain⟨_,e⟩:=x;exact Heap.lt_size e
 | xd fs=>obtain⟨_,⟨_,_,_,e,_⟩,_⟩:=x;exact Heap.lt_size e
 | rng lo hi=>obtain⟨_,_,_,e⟩:=x;exact Heap.lt_size e
 | frz ob u=>obtain⟨e,_⟩:=x;exact Heap.lt_size e
 | tbl ps=>exact Heap.lt_size (show h.get? a=some _ from x)
 | met f y=>exact Heap.lt_size (show h.get? a=some _ from x)
 | ext φ=>obtain⟨_,⟨_,e⟩,_⟩:=x;exact Heap.lt_size e
theorem Paired.mapP {α β:Type}{F G:α→β→Prop}:∀ {l₁:List α}{l₂:List β},Paired F l₁ l₂→(∀ a b,F a b→G a b)→Paired G l₁ l₂
 | _,_,.nil,_=>.nil
 | _,_,.cons r t,f=>.cons (f _ _ r) (Paired.mapP t f)
theorem cZ.stay (x:cZ P w H h a o) (k:∀ b u,(b=a∨H b=some (.own a))→h.get? b=some u→h'.get? b=some u)
  (ho:∀ b,H b=some (.own a)→H' b=some (.own a)) (ht:∀ b xs,H b=some (.tup xs)→H' b=some (.tup xs)):cZ P w H' h' a o:=by
 induction o with
 | lst xs=>obtain⟨z,its,n,r,e⟩:=x;exact⟨z,its,n,r,k _ _ (.inl rfl) e⟩
 | tup xs=>obtain⟨z,its,r,ob,e,c⟩:=x;exact⟨z,its,r,ob,k _ _ (.inl rfl) e,c⟩
 | dK kvs=>obtain⟨z,y,vs,r,ob,es,ep,e,c⟩:=x;exact⟨z,y,vs,r,ob,es,ep,k _ _ (.inl rfl) e,c⟩
 | dT kvs=>
  obtain⟨z,y,xs,r,ob,es,ep,e,c⟩:=x
  exact⟨z,y,xs,Paired.mapP r fun p q z=>⟨z.1,ht _ _ z.2.1,z.2.2⟩,ob,es,ep,k _ _ (.inl rfl) e,c⟩
 | set S n=>obtain⟨ob,es,ep,t,e,c⟩:=x;exact⟨ob,es,ep,t,k _ _ (.inl rfl) e,c⟩
 | ins C dx fs=>
  obtain⟨d,z,ne,e,mA,⟨od,es,ep,e2,c⟩,r⟩:=x
  exact⟨ho _ d,z,ne,k _ _ (.inl rfl) e,mA,⟨od,es,ep,k _ _ (.inr d) e2,c⟩,r⟩
 | own y=>obtain⟨ob,e⟩:=x;exact⟨ob,k _ _ (.inl rfl) e⟩
 | xd fs=>obtain⟨mA,⟨od,es,ep,e,c⟩,r⟩:=x;exact⟨mA,⟨od,es,ep,k _ _ (.inl rfl) e,c⟩,r⟩
 | rng lo hi=>obtain⟨t,u,v,e⟩:=x;exact⟨t,u,v,k _ _ (.inl rfl) e⟩
 | frz ob u ih=>obtain⟨e,q⟩:=x;exact⟨k _ _ (.inl rfl) e,ih q⟩
 | tbl ps=>
  have e:h.get? a=some { cls:=.none,data:=.fields ps }:=x
  show h'.get? a=some { cls:=.none,data:=.fields ps }
  exact k a _ (.inl rfl) e
 | met f y=>
  have e:h.get? a=some (PySem.W.methodObj (.ref f) (.ref y)):=x
  show h'.get? a=some (PySem.W.methodObj (.ref f) (.ref y))
  exact k a _ (.inl rfl) e
 | ext φ=>obtain⟨p,⟨o,e⟩,st⟩:=x;exact⟨st _ _ p fun o q=>k _ _ (.inl rfl) q,⟨o,k _ _ (.inl rfl) e⟩,st⟩
theorem HOk.lt (x:HOk P w H h) (e:H a=some o):a < h.objs.size:=(x a o e).lt
theorem HOk.fresh (x:HOk P w H h) (e:h.objs.size≤a):H a=none:=by
 cases q:H a with
 | none=>rfl
 | some u=>exact absurd (Nat.lt_of_lt_of_le (x.lt q) e) (Nat.lt_irrefl _)
theorem HOk.kept (x:HOk P w H h) (k:∀ b u,h.get? b=some u→h'.get? b=some u):HOk P w H h':=fun a o e=>
 (x a o e).stay (fun b u _ q=>k b u q) (fun _ q=>q) fun _ _ q=>q
theorem HOk.laid (x:HOk P w H h) (k:∀ b u,h.get? b=some u→h'.get? b=some u) (hp:h.objs.size≤a) (new:cZ P w (upd H a o) h' a o):HOk P w (upd H a o) h':=fun b u e=>by
 have hn:=x.fresh hp
 by_cases hb:b=a
 ·subst hb;rw[aC] at e;cases e;exact new
 ·rw[aQ hb] at e
  exact (x b u e).stay (fun c v _ q=>k c v q) (fun c q=>by rw[aQ (aN q hn)];exact q) fun c xs q=>by rw[aQ (aN q hn)];exact q
end
noncomputable def Rd (H:Hp) (a:Addr) (u:HO):Prop:=H a=some u∨∃ o,H a=some (.frz o u)
theorem Rd.ok {P:Program}{w:World}{H:Hp}{h:Heap}{a:Addr}{u:HO} (r:Rd H a u) (x:HOk P w H h):cZ P w H h a u:=by
 rcases r with r | ⟨o,r⟩
 ·exact x a u r
 ·obtain⟨_,q⟩:=x a _ r
  exact q
noncomputable def Mut:Option HO→Prop
 | some (.lst _)=>True
 | some (.dK _)=>True
 | some (.dT _)=>True
 | some (.set _ _)=>True
 | some (.ins _ _ _)=>True
 | some (.ext _)=>True
 | _=>False
section
variable {P:Program}{w:World}{H:Hp}{h h':Heap}{x e:Addr}{o':HO}
theorem HOk.write (ok:HOk P w H h) (mu:Mut (H x)) (he:e=x∨H e=some (.own x)) (k:∀ b u,b≠e→h.get? b=some u→h'.get? b=some u) (heo:∃ u,h'.get? e=some u)
  (new:cZ P w (upd H x o') h' x o'):HOk P w (upd H x o') h':=fun b u q=>by
 have nown:∀ c y,H c=some (.own y)→c≠x:=fun c y r z=>by subst z;rw[r] at mu;exact mu
 have ntup:∀ c xs,H c=some (.tup xs)→c≠x:=fun c xs r z=>by subst z;rw[r] at mu;exact mu
 by_cases hb:b=x
 ·subst hb;rw[aC] at q;cases q;exact new
 ·rw[aQ hb] at q
  by_cases hbe:b=e
  ·have q':H b=some (.own x):=by
    rcases he with z | z
    ·exact absurd (hbe.trans z) hb
    ·rw[hbe];exact z
   rw[q] at q';cases q'
   obtain⟨v,hv⟩:=heo
   exact⟨v,by rw[hbe];exact hv⟩
  ·refine (ok b u q).stay (fun c v hc r=>k c v ?_ r) (fun c r=>by rw[aQ (nown c b r)];exact r) fun c xs r=>by rw[aQ (ntup c xs r)];exact r
   rcases hc with rfl | hc
   ·exact hbe
   ·rintro rfl
    rcases he with z | z
    ·exact nown c b hc z
    ·rw[hc] at z;cases z;exact hb rfl
end
structure Un (fs ex:List Addr) (H H':Hp) (h h':Heap):Prop where
 keep:∀ b o,h.get? b=some o→H b=none→b∉fs→b∉ex→h'.get? b=some o
 slot:∀ b o,h.get? b=some o→H b=none→b∈fs→b∉ex→∃ sl,h'.get? b=some { o with slots:=sl }
 free:∀ b o,h.get? b=some o→H b=none→b∉ex→H' b=none
 there:∀ b o,h.get? b=some o→b∉ex→∃ o',h'.get? b=some o'
 tups:∀ b xs,H b=some (.tup xs)→H' b=some (.tup xs)
 frzs:∀ b o u,H b=some (.frz o u)→H' b=some (.frz o u)
 tbls:∀ b ps,H b=some (.tbl ps)→∃ more,H' b=some (.tbl (ps++more))
section
variable {fs fs' ex ex':List Addr}{H H1 H2:Hp}{h h1 h2 h':Heap}{a x e:Addr}{o:HO}
theorem Un.any (u:Un fs ex H H1 h h1) {b:Addr}{ob:Obj} (q:h.get? b=some ob) (n:H b=none) (hx:b∉ex):∃ sl,h1.get? b=some { ob with slots:=sl }:=by
 by_cases hb:b∈fs
 ·exact u.slot b ob q n hb hx
 ·exact⟨ob.slots,u.keep b ob q n hb hx⟩
theorem Un.kept (k:∀ b u,h.get? b=some u→h'.get? b=some u):Un fs ex H H h h':=
 ⟨fun b ob q _ _ _=>k b ob q,fun b ob q _ _ _=>⟨ob.slots,k b ob q⟩,fun _ _ _ n _=>n,fun b ob q _=>⟨ob,k b ob q⟩,fun _ _ q=>q,fun _ _ _ q=>q,fun _ ps q=>⟨#[],by rw[q];simp⟩⟩
theorem Un.refl:Un fs ex H H h h:=Un.kept fun _ _ q=>q
theorem Un.laid (k:∀ b u,h.get? b=some u→h'.get? b=some u) (hp:h.objs.size≤a) (hn:H a=none):Un fs ex H (upd H a o) h h' where
 keep:=fun b u q _ _ _=>k b u q
 slot:=fun b u q _ _ _=>⟨u.slots,k b u q⟩
 free:=fun b u q n _=>by rw[aQ (Nat.ne_of_lt (Nat.lt_of_lt_of_le (Heap.lt_size q) hp))];exact n
 there:=fun b u q _=>⟨u,k b u q⟩
 tups:=fun b xs q=>by rw[aQ (aN q hn)];exact q
 frzs:=fun b u xs q=>by rw[aQ (aN q hn)];exact q
 tbls:=fun b ps q=>⟨#[],by rw[aQ (aN q hn),q];simp⟩
theorem Un.write (mu:Mut (H x)) (he:e=x∨H e=some (.own x)) (k:∀ b u,b≠e→h.get? b=some u→h'.get? b=some u) (heo:∃ u,h'.get? e=some u):Un fs ex H (upd H x o) h h':=by
 have hx:∀ b,H b=none→b≠x:=fun b n z=>by subst z;rw[n] at mu;exact mu
 have hb:∀ b,H b=none→b≠e:=fun b n z=>by
  subst z
  rcases he with r | r
  ·exact hx b n r
  ·rw[n] at r;cases r
 have hm:∀ b u,H b=some u→¬ Mut (some u)→b≠x:=fun b u q nm z=>by subst z;rw[q] at mu;exact nm mu
 refine⟨fun b u q n _ _=>k b u (hb b n) q,fun b u q n _ _=>⟨u.slots,k b u (hb b n) q⟩,fun b u q n _=>by rw[aQ (hx b n)];exact n,fun b u q _=>?_,
  fun b xs q=>by rw[aQ (hm b _ q fun z=>z)];exact q,fun b u xs q=>by rw[aQ (hm b _ q fun z=>z)];exact q,fun b ps q=>⟨#[],by rw[aQ (hm b _ q fun z=>z),q];simp⟩⟩
 by_cases hbe:b=e
 ·subst hbe;exact heo
 ·exact⟨u,k b u hbe q⟩
end
noncomputable def trk (h:Heap) (H:Hp):List Addr:=(List.range h.objs.size).filter fun a=>(H a).isSome
noncomputable def hidT (h:Heap) (H:Hp):Heap:=PySem.W.hideAll h (trk h H)
theorem hidT_size (h:Heap) (H:Hp):(hidT h H).objs.size=h.objs.size:=PySem.W.hideAll_size _ _
theorem hidT_get {h:Heap}{H:Hp}{b:Addr}{o:Obj} (e:h.get? b=some o) (n:H b=none):(hidT h H).get? b=some o:=
 PySem.W.hideAll_get _ e fun hm=>by
  have q:(H b).isSome=true:=(List.mem_filter.mp hm).2
  rw[n] at q;simp at q
theorem of_hidT {h:Heap}{H:Hp}{b:Addr}{o:Obj} (e:(hidT h H).get? b=some o):h.get? b=some o∧H b=none:=by
 have e':h.get? b=some o:=PySem.W.of_hideAll (trk h H) e
 refine⟨e',?_⟩
 cases q:H b with
 | none=>rfl
 | some x=>
  have hm:b∈trk h H:=List.mem_filter.mpr ⟨List.mem_range.mpr (Heap.lt_size e'),by simp [q]⟩
  have z:(hidT h H).get? b=none:=PySem.W.hideAll_none (trk h H) hm
  rw[z] at e;cases e
end L2
namespace L2
open PySem PySem.Spec PyProof.Rows
structure Mod (K:PySem.W.Frag) (mg:Str→Option Value) (base:Heap):Prop where
 kin:K.In base
 glob:base.Ns mainGlobals mg
 blt:∃ mb,base.Ns builtinsNs mb∧∀ x:Str,x ≠ "__name__" → mb x=bootBuiltins x
 nolimit:base.NoLimit
structure Cx where
 prog:Program
 w:World
 K:PySem.W.Frag
 mg:Str→Option Value
 base:Heap
 A:Around
 N:List Str
 s₀:Shared
 H₀:Hp
 env:Env
 outer:List Env
 stack:List Env
 ex:List Addr
 fn:Str→Bool
 calm:Bool
 pn:List (Addr×Obj)
 xe:Value→Shared→Prop
noncomputable def frs (l:List Env):List Addr:=l.filterMap (·.frame)
noncomputable abbrev Cx.fs (X:Cx):List Addr:=frs X.outer
noncomputable def Vis (sc:Scope) (x:Str):Prop:=sc.names.lookup x=some .local∨sc.names.lookup x=some .cell∨sc.names.lookup x=some .free
noncomputable def Loc (sc:Scope) (x:Str):Prop:=sc.names.lookup x=some .local∨sc.names.lookup x=some .cell
noncomputable def Look (env:Env) (h:Heap) (m:Str→Option Value) (x:Str) (u:Value):Prop:=
 (env.kindOf x=some .local∧m x=some u)∨((env.kindOf x=some .cell∨env.kindOf x=some .free)∧∃ c,env.cells.lookup x=some c∧h.IsCell c (some u))
structure Cx.Ok (X:Cx):Prop where
 mod:Mod X.K X.mg X.base
 kind:X.env.scope.kind=.function
 glob:X.env.globals=mainGlobals
 blt:X.env.builtins=builtinsNs
 above:X.s₀.heap.objs.size≤X.env.locals
 inj:∀ x y c,X.env.cells.lookup x=some c→X.env.cells.lookup y=some c→x=y
 has:∀ x,(X.env.kindOf x=some .cell∨X.env.kindOf x=some .free)→∃ c,X.env.cells.lookup x=some c
 cab:∀ x c,X.fn x=true→X.env.cells.lookup x=some c→X.s₀.heap.objs.size≤c
 hd:X.calm=true→X.A.handled=none
 frames:X.A.frames=some X.stack
 stk:X.stack=X.outer∨(X.stack=X.env::X.outer∧X.env.frame=some X.env.locals)
 exf:∀ b∈X.ex,b≠X.env.locals∧∀ x c,X.env.cells.lookup x=some c→c≠b
 bs:∀ b o,X.base.get? b=some o→X.s₀.heap.get? b=some o∧X.H₀ b=none
 bsz:X.base.objs.size≤X.s₀.heap.objs.size
 noex:∀ b o,X.base.get? b=some o→b∉X.ex
 exfs:∀ b∈X.ex,b∉X.fs
 funs:X.s₀.heap.FunFrames X.base X.outer
 frf:∀ b∈X.fs,X.H₀ b=none
structure Inv (X:Cx) (pins:List (Addr×Obj)) (σ:List (Option V)) (H:Hp) (s:Shared):Prop where
 ok:X.Ok
 os:s.os=X.s₀.os
 bare:AllBare s.gens
 base:Un X.fs X.ex X.H₀ H X.s₀.heap s.heap
 loc:∃ m,s.heap.Ns X.env.locals m∧∀ (i:Nat) (x:Str) (v:V),X.N[i]? = some x→σ[i]? = some (some v)→Vis X.env.scope x→∃ u,bS v u∧Look X.env s.heap m x u
 cell:∀ x c,X.env.cells.lookup x=some c→∃ v,s.heap.IsCell c v
 free:H X.env.locals=none
 freeC:∀ x c,X.env.cells.lookup x=some c→H c=none
 pin:∀ p∈X.pn++pins,s.heap.get? p.1=some p.2∧H p.1=none∧p.1≠X.env.locals∧p.1∉X.fs∧∀ v,p.2.data≠.cell v
 hok:HOk X.prog X.w H s.heap
 len:σ.length=X.N.length
section
variable {X:Cx}{pins:List (Addr×Obj)}{σ:List (Option V)}{H H':Hp}{s:Shared}{h':Heap}
theorem Cx.Ok.nofr (ok:X.Ok) {b:Addr}{o:Obj} (e:X.base.get? b=some o):b∉X.fs:=fun hb=>by
 have:=(ok.funs.mem hb).1
 rw[e] at this;cases this
theorem Inv.bs (I:Inv X pins σ H s):∀ b o,X.base.get? b=some o→s.heap.get? b=some o∧H b=none:=fun b o e=>
 ⟨I.base.keep b o (I.ok.bs b o e).1 (I.ok.bs b o e).2 (I.ok.nofr e) (I.ok.noex b o e),I.base.free b o (I.ok.bs b o e).1 (I.ok.bs b o e).2 (I.ok.noex b o e)⟩
theorem Inv.bk (I:Inv X pins σ H s):∀ b o,X.base.get? b=some o→s.heap.get? b=some o:=fun b o e=>(I.bs b o e).1
theorem Inv.mod (I:Inv X pins σ H s):Mod X.K X.mg X.base:=I.ok.mod
theorem Inv.kIn (I:Inv X pins σ H s):X.K.In s.heap:=I.ok.mod.kin.keeps I.bk
theorem Inv.lt (I:Inv X pins σ H s):X.env.locals < s.heap.objs.size:=let ⟨_,hn,_⟩:=I.loc;hn.lt
theorem Inv.sz (I:Inv X pins σ H s):X.s₀.heap.objs.size≤s.heap.objs.size:=Nat.le_trans I.ok.above (Nat.le_of_lt I.lt)
theorem Inv.nofs (I:Inv X pins σ H s) {a:Addr} (h:s.heap.objs.size≤a):a∉X.fs:=fun hb=>by
 obtain⟨_,o,ho,_⟩:=I.ok.funs.mem hb
 exact absurd (Nat.lt_of_lt_of_le (Heap.lt_size ho) (Nat.le_trans I.sz h)) (Nat.lt_irrefl _)
theorem Inv.cne (I:Inv X pins σ H s):∀ x c,X.env.cells.lookup x=some c→c≠X.env.locals:=fun x c e z=>by
 obtain⟨v,o,ho,hd⟩:=I.cell x c e
 obtain⟨m,⟨o',es,ep,ho',hd',_⟩,_⟩:=I.loc
 rw[z,ho'] at ho;cases ho;rw[hd'] at hd;cases hd
theorem Inv.funs (I:Inv X pins σ H s):s.heap.FunFrames X.base X.outer:=by
 have all:∀ (l:List Env),(∀ b∈frs l,b∈X.fs)→X.s₀.heap.FunFrames X.base l→s.heap.FunFrames X.base l:=by
  intro l
  induction l with
  | nil=>intro _ _;trivial
  | cons env r ih=>
   intro hs hl
   obtain⟨hk,⟨L,o,hf,hn,ho,hd⟩,hr⟩:=hl
   have hL:L∈X.fs:=hs L (by unfold frs;rw[List.filterMap_cons,hf];exact List.mem_cons_self)
   obtain⟨sl,e⟩:=I.base.slot L o ho (I.ok.frf L hL) hL fun z=>I.ok.exfs L z hL
   exact⟨hk,⟨L,_,hf,hn,e,hd⟩,ih (fun b hb=>hs b (by unfold frs;rw[List.filterMap_cons,hf];exact List.mem_cons_of_mem _ hb)) hr⟩
 exact all X.outer (fun _ hb=>hb) I.ok.funs
theorem Inv.stack (I:Inv X pins σ H s):s.heap.FunFrames X.base X.stack:=by
 rcases I.ok.stk with e | ⟨e,hf⟩
 ·rw[e];exact I.funs
 ·rw[e]
  obtain⟨m,hn,_⟩:=I.loc
  refine .cons (by rw[I.ok.kind];decide) hf hn ?_ I.funs
  exact Heap.get?_none_of_le (Nat.le_trans I.ok.bsz I.ok.above)
theorem Inv.stkSub (I:Inv X pins σ H s):∀ b∈frs X.stack,b∈X.env.locals::X.fs:=fun b hb=>by
 rcases I.ok.stk with e | ⟨e,hf⟩
 ·rw[e] at hb;exact List.mem_cons_of_mem _ hb
 ·rw[e] at hb
  unfold frs at hb
  rw[List.filterMap_cons,hf] at hb
  exact hb
theorem Inv.stkFree (I:Inv X pins σ H s):∀ b∈frs X.stack,H b=none:=fun b hb=>by
 rcases List.mem_cons.mp (I.stkSub b hb) with e | hb
 ·rw[e];exact I.free
 ·obtain⟨_,o,ho,_⟩:=I.ok.funs.mem hb
  exact I.base.free b o ho (I.ok.frf b hb) fun z=>I.ok.exfs b z hb
theorem Inv.step {g':Array GenState}{t':Nat}{d':Drawn}{ch:List Addr} (I:Inv X pins σ H s)
  (hch:∀ b∈ch,(b∈X.ex∨X.s₀.heap.objs.size≤b)∧b≠X.env.locals∧(∀ x c,X.env.cells.lookup x=some c→c≠b)∧∀ p∈X.pn++pins,p.1≠b)
  (keep:∀ b o,b≠X.env.locals→b∉X.fs→b∉ch→s.heap.get? b=some o→H b=none→h'.get? b=some o)
  (slot:∀ b o,b≠X.env.locals→b∈X.fs→b∉ch→s.heap.get? b=some o→H b=none→∃ sl,h'.get? b=some { o with slots:=sl }) (free:∀ b o,b∉ch→s.heap.get? b=some o→H b=none→H' b=none)
  (there:∀ b o,b∉ch→s.heap.get? b=some o→∃ o',h'.get? b=some o')
  (tups:∀ b xs,H b=some (.tup xs)→H' b=some (.tup xs)) (frzs:∀ b o u,H b=some (.frz o u)→H' b=some (.frz o u)) (tbls:∀ b ps,H b=some (.tbl ps)→∃ more,H' b=some (.tbl (ps++more)))
  (ns:∀ m,s.heap.Ns X.env.locals m→h'.Ns X.env.locals m) (hok:HOk X.prog X.w H' h') (hg:AllBare g') :
  Inv X pins σ H' { s with heap:=h',gens:=g',drawn:=d',toks:=t' }:=by
 have neL:∀ b o,X.s₀.heap.get? b=some o→b≠X.env.locals:=fun b o e=>Nat.ne_of_lt (Nat.lt_of_lt_of_le (Heap.lt_size e) I.ok.above)
 have neC:∀ b o,X.s₀.heap.get? b=some o→b∉X.ex→b∉ch:=fun b o e hx hb=>by
  rcases (hch b hb).1 with z | z
  ·exact hx z
  ·exact absurd (Nat.lt_of_lt_of_le (Heap.lt_size e) z) (Nat.lt_irrefl _)
 have cellK:∀ x c,X.env.cells.lookup x=some c→∀ v,s.heap.IsCell c v→h'.IsCell c v:=fun x c e v ⟨o,ho,hd⟩=>by
  have nch:c∉ch:=fun z=>(hch c z).2.2.1 x c e rfl
  by_cases hc:c∈X.fs
  ·obtain⟨sl,q⟩:=slot c o (I.cne x c e) hc nch ho (I.freeC x c e)
   exact⟨_,q,hd⟩
  ·exact⟨o,keep c o (I.cne x c e) hc nch ho (I.freeC x c e),hd⟩
 refine⟨I.ok,I.os,hg,⟨fun b o e n hb hx=>?_,fun b o e n hb hx=>?_,fun b o e n hx=>?_,fun b o e hx=>?_,fun b xs e=>tups b xs (I.base.tups b xs e),fun b o xs e=>frzs b o xs (I.base.frzs b o xs e),fun b ps e=>?_⟩,?_,fun x c e=>?_,?_,fun x c e=>?_,fun p hp=>?_,hok,I.len⟩
 ·exact keep b o (neL b o e) hb (neC b o e hx) (I.base.keep b o e n hb hx) (I.base.free b o e n hx)
 ·obtain⟨sl,e1⟩:=I.base.slot b o e n hb hx
  obtain⟨sl',e2⟩:=slot b _ (neL b o e) hb (neC b o e hx) e1 (I.base.free b o e n hx)
  exact⟨sl',e2⟩
 ·obtain⟨o',e1⟩:=I.base.there b o e hx
  exact free b o' (neC b o e hx) e1 (I.base.free b o e n hx)
 ·obtain⟨o',e1⟩:=I.base.there b o e hx
  exact there b o' (neC b o e hx) e1
 ·obtain⟨m1,e1⟩:=I.base.tbls b ps e
  obtain⟨m2,e2⟩:=tbls b _ e1
  exact⟨m1++m2,by rw[e2,Array.append_assoc]⟩
 ·obtain⟨m,hn,hl⟩:=I.loc
  refine⟨m,ns m hn,fun i x v e1 e2 e3=>?_⟩
  obtain⟨u,r,l⟩:=hl i x v e1 e2 e3
  refine⟨u,r,?_⟩
  rcases l with l | ⟨k,c,e,z⟩
  ·exact .inl l
  ·exact .inr ⟨k,c,e,cellK x c e _ z⟩
 ·obtain⟨v,z⟩:=I.cell x c e
  exact⟨v,cellK x c e v z⟩
 ·obtain⟨m,⟨o,_,_,ho,_⟩,_⟩:=I.loc
  exact free _ o (fun z=>(hch _ z).2.1 rfl) ho I.free
 ·obtain⟨v,o,ho,hd⟩:=I.cell x c e
  exact free c o (fun z=>(hch c z).2.2.1 x c e rfl) ho (I.freeC x c e)
 ·obtain⟨e,n,ne,nf,d⟩:=I.pin p hp
  have nch:p.1∉ch:=fun z=>(hch p.1 z).2.2.2 p hp rfl
  exact⟨keep p.1 p.2 ne nf nch e n,free p.1 p.2 nch e n,ne,nf,d⟩
theorem Inv.un {t':Nat} (I:Inv X pins σ H s) (u:Un X.fs [] H H' s.heap h') (hok:HOk X.prog X.w H' h'):Inv X pins σ H' { s with heap:=h',toks:=t' }:=by
 obtain⟨m,⟨o,es,ep,ho,r⟩,_⟩:=id I.loc
 obtain⟨sl,hL⟩:=u.any ho I.free (by simp)
 exact I.step (g':=s.gens) (d':=s.drawn) (ch:=[]) (fun _ z=>nomatch z) (fun b o _ hb _ e n=>u.keep b o e n hb (by simp)) (fun b o _ hb _ e n=>u.slot b o e n hb (by simp)) (fun b o _ e n=>u.free b o e n (by simp)) (fun b o _ e=>u.there b o e (by simp)) u.tups u.frzs u.tbls (fun m' hm=>by
  obtain⟨o',es',ep',ho',r'⟩:=hm
  rw[ho] at ho';cases ho'
  exact⟨_,es',ep',hL,r'⟩) hok I.bare
theorem Inv.call {g':Array GenState}{t':Nat}{d':Drawn}{ch:List Addr} (I:Inv X pins σ H s) (u:Un (frs X.stack) ch H H' s.heap h') (hok:HOk X.prog X.w H' h') (hg:AllBare g')
  (hch:∀ b∈ch,(b∈X.ex∨X.s₀.heap.objs.size≤b)∧b≠X.env.locals∧(∀ x c,X.env.cells.lookup x=some c→c≠b)∧∀ p∈X.pn++pins,p.1≠b) :
  Inv X pins σ H' { s with heap:=h',gens:=g',drawn:=d',toks:=t' }:=by
 obtain⟨m,⟨o,es,ep,ho,r⟩,_⟩:=id I.loc
 obtain⟨sl,hL⟩:=u.any ho I.free fun z=>(hch _ z).2.1 rfl
 exact I.step (ch:=ch) hch (fun b o hL hb hc e n=>u.keep b o e n (fun z=>(List.mem_cons.mp (I.stkSub b z)).elim hL hb) hc) (fun b o _ _ hc e n=>u.any e n hc) (fun b o hc e n=>u.free b o e n hc) (fun b o hc e=>u.there b o e hc) u.tups u.frzs u.tbls (fun m' hm=>by
  obtain⟨o',es',ep',ho',r'⟩:=hm
  rw[ho] at ho';cases ho'
  exact⟨_,es',ep',hL,r'⟩) hok hg
theorem Inv.turned {t':Nat}{it:Addr} (I:Inv X pins σ H s) (k:∀ b o,b≠it→s.heap.get? b=some o→h'.get? b=some o) (hn:H it=none) (hL:it≠X.env.locals)
  (h1:it∈X.ex∨X.s₀.heap.objs.size≤it) (h2:∀ x c,X.env.cells.lookup x=some c→c≠it) (h3:∀ p∈X.pn++pins,p.1≠it):Inv X pins σ H { s with heap:=h',toks:=t' }:=by
 have nit:∀ b u,H b=some u→b≠it:=fun b u e z=>by rw[z,hn] at e;cases e
 refine I.step (g':=s.gens) (d':=s.drawn) (ch:=[it]) (fun b hb=>?_) (fun b o _ _ hc e _=>k b o (fun z=>hc (by simp [z])) e) (fun b o _ _ hc e _=>⟨o.slots,k b o (fun z=>hc (by simp [z])) e⟩) (fun _ _ _ _ n=>n)
  (fun b o hc e=>⟨o,k b o (fun z=>hc (by simp [z])) e⟩) (fun _ _ e=>e) (fun _ _ _ e=>e) (fun b ps e=>⟨#[],by rw[e];simp⟩) (fun m hm=>?_) (fun b u e=>?_) I.bare
 ·have e:b=it:=by simpa using hb
  subst e
  exact⟨h1,hL,h2,h3⟩
 ·obtain⟨o,es,ep,ho,r⟩:=hm
  exact⟨o,es,ep,k _ o (Ne.symm hL) ho,r⟩
 ·refine (I.hok b u e).stay (fun c v hc q=>k c v ?_ q) (fun _ q=>q) fun _ _ q=>q
  rcases hc with z | z
  ·rw[z];exact nit b u e
  ·exact nit c _ z
theorem Inv.tok (I:Inv X pins σ H s) (t:Nat):Inv X pins σ H { s with toks:=t }:=I.un (h':=s.heap) (t':=t) Un.refl I.hok
theorem Inv.kept {t':Nat} (I:Inv X pins σ H s) (k:∀ b u,s.heap.get? b=some u→h'.get? b=some u):Inv X pins σ H { s with heap:=h',toks:=t' }:=I.un (Un.kept k) (I.hok.kept k)
theorem Inv.laid {a:Addr}{o:HO}{t':Nat} (I:Inv X pins σ H s) (k:∀ b u,s.heap.get? b=some u→h'.get? b=some u) (hp:s.heap.objs.size≤a) (new:cZ X.prog X.w (upd H a o) h' a o) :
  Inv X pins σ (upd H a o) { s with heap:=h',toks:=t' }:=I.un (Un.laid k hp (I.hok.fresh hp)) (I.hok.laid k hp new)
theorem Inv.write {x e:Addr}{o:HO}{t':Nat} (I:Inv X pins σ H s) (mu:Mut (H x)) (he:e=x∨H e=some (.own x)) (k:∀ b u,b≠e→s.heap.get? b=some u→h'.get? b=some u) (heo:∃ u,h'.get? e=some u)
  (new:cZ X.prog X.w (upd H x o) h' x o):Inv X pins σ (upd H x o) { s with heap:=h',toks:=t' }:=I.un (Un.write mu he k heo) (I.hok.write mu he k heo new)
theorem Inv.pins_of {pins':List (Addr×Obj)} (I:Inv X pins σ H s) (h:∀ p∈pins',s.heap.get? p.1=some p.2∧H p.1=none∧p.1≠X.env.locals∧p.1∉X.fs∧∀ v,p.2.data≠.cell v):Inv X pins' σ H s:=
 ⟨I.ok,I.os,I.bare,I.base,I.loc,I.cell,I.free,I.freeC,fun p hp=>(List.mem_append.mp hp).elim (fun z=>I.pin p (List.mem_append_left _ z)) (h p),I.hok,I.len⟩
theorem nodup_ix {N:List Str} (hN:N.Nodup) {i j:Nat}{x:Str} (a:N[i]? = some x) (b:N[j]? = some x):i=j:=by
 obtain⟨h1,e1⟩:=List.getElem?_eq_some_iff.mp a
 obtain⟨h2,e2⟩:=List.getElem?_eq_some_iff.mp b
 exact (List.getElem_inj hN).mp (e1.trans e2.symm)
theorem store_ok2 {M:Model}{A:Around}{E:Value→Shared→Prop}{i:Nat}{x:Str}{v:V}{u:Value}{Q:Unit→Shared→Prop} (I:Inv X pins σ H s) (hN:X.N.Nodup) (hi:X.N[i]? = some x) (hx:Loc X.env.scope x) (r:bS v u)
  (h:∀ s',Inv X pins (σ.set i (some v)) H s'→(∃ a,Heap.SameBut a s.heap s'.heap∧(a=X.env.locals∨X.env.cells.lookup x=some a))→Q () s') (hf:X.fn x=true∨X.env.scope.names.lookup x=some .local:=by first | exact .inl rfl | exact .inr rfl | assumption):wpAny M A (storeName X.env x u) Q E s:=by
 obtain⟨m,hn,hl⟩:=id I.loc
 have hcls:(X.env.scope.kind == .class || (X.env.scope.kind == .module && X.env.locals != X.env.globals))=false:=by rw[I.ok.kind];rfl
 have hiσ:i < σ.length:=by rw[I.len];exact (List.getElem?_eq_some_iff.mp hi).1
 have cne:=I.cne
 have tracked:∀ {a:Addr}{h':Heap},(∃ o,s.heap.get? a=some o∧H a=none)→Heap.SameBut a s.heap h'→HOk X.prog X.w H h':=fun {a h'} ha hs b ob e=>by
  obtain⟨_,_,hfree⟩:=ha
  refine (I.hok b ob e).stay (fun c w' hc q=>(hs.2 c ?_).trans q) (fun _ q=>q) fun _ _ q=>q
  rintro rfl
  rcases hc with rfl | hc
  ·rw[hfree] at e;cases e
  ·rw[hfree] at hc;cases hc
 rcases hx with hk | hk
 ·refine wpAny_storeName_local hk hn (fun h' hn' hs=>?_) hcls
  obtain⟨oL,_,_,hoL,_⟩:=id hn
  refine h _ ⟨I.ok,I.os,I.bare,⟨fun b o e n hb hx=>?_,fun b o e n hb hx=>?_,I.base.free,fun b o e hx=>?_,I.base.tups,I.base.frzs,I.base.tbls⟩,⟨_,hn',fun j y v' e1 e2 e3=>?_⟩,fun y c e=>?_,I.free,I.freeC,fun p hp=>?_,tracked ⟨oL,hoL,I.free⟩ hs,by simpa using I.len⟩ ⟨_,hs,.inl rfl⟩
  ·exact (hs.2 b (Nat.ne_of_lt (Nat.lt_of_lt_of_le (Heap.lt_size e) I.ok.above))).trans (I.base.keep b o e n hb hx)
  ·obtain⟨sl,e1⟩:=I.base.slot b o e n hb hx
   exact⟨sl,(hs.2 b (Nat.ne_of_lt (Nat.lt_of_lt_of_le (Heap.lt_size e) I.ok.above))).trans e1⟩
  ·obtain⟨o',e1⟩:=I.base.there b o e hx
   exact⟨o',(hs.2 b (Nat.ne_of_lt (Nat.lt_of_lt_of_le (Heap.lt_size e) I.ok.above))).trans e1⟩
  ·by_cases hj:j=i
   ·subst hj
    rw[hi] at e1;cases e1
    rw[List.getElem?_set_self hiσ] at e2
    cases e2
    exact⟨u,r,.inl ⟨hk,by simp⟩⟩
   ·rw[List.getElem?_set_ne (Ne.symm hj)] at e2
    obtain⟨u',r',q⟩:=hl j y v' e1 e2 e3
    refine⟨u',r',?_⟩
    rcases q with ⟨k,e⟩ | ⟨k,c,e,z⟩
    ·refine .inl ⟨k,?_⟩
     have:y≠x:=fun e=>hj (nodup_ix hN e1 (e ▸ hi))
     simp [this,e]
    ·exact .inr ⟨k,c,e,z.sameBut hs (cne y c e)⟩
  ·obtain⟨w',z⟩:=I.cell y c e
   exact⟨w',z.sameBut hs (cne y c e)⟩
  ·obtain⟨e,n,ne,nf,d⟩:=I.pin p hp
   exact⟨(hs.2 p.1 ne).trans e,n,ne,nf,d⟩
 ·have hfn:X.fn x=true:=by
   rcases hf with z | z
   ·exact z
   ·rw[z] at hk;cases hk
  obtain⟨c,hc⟩:=I.ok.has x (.inl hk)
  obtain⟨w',z⟩:=I.cell x c hc
  refine wpAny_storeName_cell I.ok.kind hk hc z (fun h' hc' hs=>?_)
  obtain⟨oc,hoc,hocd⟩:=id z
  refine h { s with heap:=h' } ⟨I.ok,I.os,I.bare,⟨fun b o e n hb hx=>?_,fun b o e n hb hx=>?_,I.base.free,fun b o e hx=>?_,I.base.tups,I.base.frzs,I.base.tbls⟩,⟨m,hn.sameBut hs (Ne.symm (cne x c hc)),fun j y v' e1 e2 e3=>?_⟩,fun y c' e=>?_,I.free,I.freeC,fun p hp=>?_,tracked ⟨oc,hoc,I.freeC x c hc⟩ hs,by simpa using I.len⟩ ⟨c,hs,.inr hc⟩
  ·exact (hs.2 b (Nat.ne_of_lt (Nat.lt_of_lt_of_le (Heap.lt_size e) (I.ok.cab x c hfn hc)))).trans (I.base.keep b o e n hb hx)
  ·obtain⟨sl,e1⟩:=I.base.slot b o e n hb hx
   exact⟨sl,(hs.2 b (Nat.ne_of_lt (Nat.lt_of_lt_of_le (Heap.lt_size e) (I.ok.cab x c hfn hc)))).trans e1⟩
  ·obtain⟨o',e1⟩:=I.base.there b o e hx
   exact⟨o',(hs.2 b (Nat.ne_of_lt (Nat.lt_of_lt_of_le (Heap.lt_size e) (I.ok.cab x c hfn hc)))).trans e1⟩
  ·by_cases hj:j=i
   ·subst hj
    rw[hi] at e1;cases e1
    rw[List.getElem?_set_self hiσ] at e2
    cases e2
    exact⟨u,r,.inr ⟨.inl hk,c,hc,hc'⟩⟩
   ·rw[List.getElem?_set_ne (Ne.symm hj)] at e2
    obtain⟨u',r',q⟩:=hl j y v' e1 e2 e3
    refine⟨u',r',?_⟩
    rcases q with q | ⟨k,c',e,z'⟩
    ·exact .inl q
    ·refine .inr ⟨k,c',e,z'.sameBut hs ?_⟩
     rintro rfl
     exact hj (nodup_ix hN e1 (I.ok.inj _ _ _ e hc ▸ hi))
  ·by_cases hcc:c'=c
   ·subst hcc;exact⟨_,hc'⟩
   ·obtain⟨w2,z2⟩:=I.cell y c' e
    exact⟨w2,z2.sameBut hs hcc⟩
  ·obtain⟨e,n,ne,nf,d⟩:=I.pin p hp
   refine⟨(hs.2 p.1 ?_).trans e,n,ne,nf,d⟩
   intro q
   rw[q,hoc] at e
   have q':oc=p.2:=Option.some.inj e
   exact d w' (by rw[← q'];exact hocd)
theorem store_ok {M:Model}{A:Around}{E:Value→Shared→Prop}{i:Nat}{x:Str}{v:V}{u:Value}{Q:Unit→Shared→Prop} (I:Inv X pins σ H s) (hN:X.N.Nodup) (hi:X.N[i]? = some x) (hx:Loc X.env.scope x) (r:bS v u)
  (h:∀ s',Inv X pins (σ.set i (some v)) H s'→Q () s') (hf:X.fn x=true∨X.env.scope.names.lookup x=some .local:=by first | exact .inl rfl | exact .inr rfl | assumption):wpAny M A (storeName X.env x u) Q E s:=
 store_ok2 I hN hi hx r (fun s' I' _=>h s' I') hf
theorem Inv.call' {s':Shared}{ch:List Addr} (I:Inv X pins σ H s) (ho:s'.os=s.os) (u:Un (frs X.stack) ch H H' s.heap s'.heap) (hok:HOk X.prog X.w H' s'.heap) (hg:AllBare s'.gens)
  (hch:∀ b∈ch,(b∈X.ex∨X.s₀.heap.objs.size≤b)∧b≠X.env.locals∧(∀ x c,X.env.cells.lookup x=some c→c≠b)∧∀ p∈X.pn++pins,p.1≠b):Inv X pins σ H' s':=by
 obtain⟨h',g',d',t',o'⟩:=s'
 have e:o'=s.os:=ho
 subst e
 exact I.call (g':=g') (t':=t') (d':=d') u hok hg hch
end
noncomputable abbrev XK:=Value→Option Addr→Hp→Prop
noncomputable abbrev St:=List (Option V)
noncomputable abbrev VK:=V→Hp→Prop
noncomputable abbrev TE:=St→Hp→VK→Prop
noncomputable abbrev TT:=St→Hp→(Bool→Hp→Prop)→Prop
noncomputable abbrev TA:=St→Hp→(List V→Hp→Prop)→Prop
structure Ends where
 nx:St→Hp→Prop
 rt:VK
 bk:St→Hp→Prop:=fun _ _=>False
 ct:St→Hp→Prop:=fun _ _=>False
noncomputable abbrev TS:=Ends→St→Hp→Prop
noncomputable def EP (X:Cx) (pins:List (Addr×Obj)) (σ:St) (Q:VK) (u:Value) (s':Shared):Prop:=∃ v H',Inv X pins σ H' s'∧bS v u∧Q v H'
noncomputable def TP (X:Cx) (pins:List (Addr×Obj)) (σ:St) (Q:Bool→Hp→Prop) (b:Bool) (s':Shared):Prop:=∃ H',Inv X pins σ H' s'∧Q b H'
noncomputable def AP (X:Cx) (pins:List (Addr×Obj)) (σ:St) (Q:List V→Hp→Prop) (us:List Value) (s':Shared):Prop:=∃ vs H',Inv X pins σ H' s'∧bX vs us∧Q vs H'
noncomputable def SP (X:Cx) (pins:List (Addr×Obj)) (D:Ends) (f:Flow) (s':Shared):Prop:=
 match f with
 | .next=>∃ σ' H',Inv X pins σ' H' s'∧D.nx σ' H'
 | .brk=>∃ σ' H',Inv X pins σ' H' s'∧D.bk σ' H'
 | .cont=>∃ σ' H',Inv X pins σ' H' s'∧D.ct σ' H'
 | .ret u=>∃ v σ' H',Inv X pins σ' H' s'∧bS v u∧D.rt v H'
noncomputable def PE (X:Cx) (e:Expr) (t:TE):Prop:=
 ∀ (pins:List (Addr×Obj)) (s:Shared) (σ:St) (H:Hp) (Q:VK),Inv X pins σ H s→t σ H Q→wpAny (model X.prog X.w) X.A (eval e X.env) (EP X pins σ Q) X.xe s
noncomputable def PT (X:Cx) (e:Expr) (t:TT):Prop:=
 ∀ (pins:List (Addr×Obj)) (s:Shared) (σ:St) (H:Hp) (Q:Bool→Hp→Prop),Inv X pins σ H s→t σ H Q→wpAny (model X.prog X.w) X.A (isTrue e X.env (eval e X.env)) (TP X pins σ Q) X.xe s
noncomputable def PW (X:Cx) (e:Expr) (t:TT):Prop:=
 ∀ (whole:Sem Value) (pins:List (Addr×Obj)) (s:Shared) (σ:St) (H:Hp) (Q:Bool→Hp→Prop),Inv X pins σ H s→t σ H Q→wpAny (model X.prog X.w) X.A (isTrue e X.env whole) (TP X pins σ Q) X.xe s
theorem PW.pt {X:Cx}{e:Expr}{t:TT} (h:PW X e t):PT X e t:=h _
noncomputable def PA (X:Cx) (es:List Expr) (t:TA):Prop:=
 ∀ (pos:Pos) (pins:List (Addr×Obj)) (s:Shared) (σ:St) (H:Hp) (Q:List V→Hp→Prop),Inv X pins σ H s→t σ H Q→wpAny (model X.prog X.w) X.A (spliced (backTo pos (starEach es X.env))) (AP X pins σ Q) X.xe s
noncomputable def PS (X:Cx) (st:Stmt) (t:TS):Prop:=
 ∀ (pins:List (Addr×Obj)) (s:Shared) (σ:St) (H:Hp) (D:Ends),Inv X pins σ H s→t D σ H→wpAny (model X.prog X.w) X.A (exec st X.env) (SP X pins D) X.xe s
noncomputable def PSs (X:Cx) (st:List Stmt) (t:TS):Prop:=
 ∀ (pins:List (Addr×Obj)) (s:Shared) (σ:St) (H:Hp) (D:Ends),Inv X pins σ H s→t D σ H→wpAny (model X.prog X.w) X.A (execs st X.env) (SP X pins D) X.xe s
theorem d0 {α:Type}{t:Sem α}{Q Q':α→Shared→Prop}{M:Model}{A:Around}{E:Value→Shared→Prop}{s:Shared} (h:wpAny M A t Q E s) (hQ:∀ a s,Q a s→Q' a s):wpAny M A t Q' E s:=wpAny_mono h hQ fun _ _ x=>x
end L2
namespace L2
open PySem PySem.Spec PyProof.Rows
section
variable {X:Cx}
noncomputable def cS (i:Nat):TE:=fun σ H Q=>∃ v,σ[i]? = some (some v)∧Q v H
noncomputable def tC (v:V):TE:=fun _ H Q=>Q v H
theorem pe_var {i:Nat}{x:Str}{pos:Pos} (hN:X.N[i]? = some x) (hv:Vis X.env.scope x) (hd:(x == ("__debug__" : Str))=false:=by decide) (hcd:(x == ("__classdict__" : Str))=false:=by decide):PE X (.Name x pos) (cS i):=by
 intro pins s σ H Q I h
 obtain⟨v,e,h⟩:=h
 obtain⟨m,hn,hl⟩:=I.loc
 obtain⟨u,r,l⟩:=hl i x v hN e hv
 have fin:EP X pins σ Q u s:=⟨v,H,I,r,h⟩
 rcases l with ⟨hk,hm⟩ | ⟨hk,c,hc,hcell⟩
 ·exact wpAny_Name (wpAny_loadName_local I.ok.kind hk hn hm fin) hd
 ·rcases hk with hk | hk
  ·exact wpAny_Name (wpAny_loadName_cell I.ok.kind hk hc hcell fin) hd
  ·exact wpAny_Name (wpAny_loadName_free I.ok.kind hk hc hcell fin hcd) hd
theorem aE {i j pos}:PE X (.Constant (.int i) j pos) (tC (.int i)):=fun _ _ _ H _ I h=>wpAny_Constant_int ⟨.int i,H,I.tok _,⟨_,rfl⟩,h⟩
theorem fG {b j pos}:PE X (.Constant (.bool b) j pos) (tC (.bl b)):=fun _ _ _ H _ I h=>Constant_bool ⟨.bl b,H,I,rfl,h⟩
theorem dR {j pos}:PE X (.Constant .none j pos) (tC .non):=fun _ _ _ H _ I h=>Constant_none ⟨.non,H,I,rfl,h⟩
theorem pe_str {x j pos}:PE X (.Constant (.str x) j pos) (tC (.str x)):=fun _ _ _ H _ I h=>Calls.Constant_str ⟨.str x,H,I.tok _,⟨_,rfl⟩,h⟩
noncomputable def Gl (X:Cx) (x:Str):Prop:=X.env.kindOf x=some .globalImplicit
theorem ld_glob {E:Value→Shared→Prop}{pins:List (Addr×Obj)}{s:Shared}{σ:St}{H:Hp}{x:Str}{u:Value}{pos:Pos}{Q:Value→Shared→Prop} (I:Inv X pins σ H s) (hg:Gl X x) (hm:X.mg x=some u) (h:Q u s)
  (hd:(x == ("__debug__" : Str))=false:=by decide):wpAny (model X.prog X.w) X.A (eval (.Name x pos) X.env) Q E s:=
 Calls.Name_function_global I.ok.kind hg (Calls.loadGlobal_global (by rw[I.ok.glob];exact I.mod.glob.keeps I.bk) hm h) hd
theorem ld_blt {E:Value→Shared→Prop}{pins:List (Addr×Obj)}{s:Shared}{σ:St}{H:Hp}{x:Str}{u:Value}{pos:Pos}{Q:Value→Shared→Prop} (I:Inv X pins σ H s) (hg:Gl X x) (hm:X.mg x=none) (hv:bootBuiltins x=some u) (h:Q u s)
  (hn:x ≠ "__name__" := by decide) (hd:(x == ("__debug__" : Str))=false:=by decide):wpAny (model X.prog X.w) X.A (eval (.Name x pos) X.env) Q E s:=by
 obtain⟨mb,h1,h2⟩:=I.mod.blt
 exact Calls.Name_function_global I.ok.kind hg (Calls.loadGlobal_builtin (by rw[I.ok.glob];exact I.mod.glob.keeps I.bk) hm (by rw[I.ok.blt];exact h1.keeps I.bk) ((h2 x hn).trans hv) h) hd
theorem pe_glob {x:Str}{v:V}{u:Value}{pos:Pos} (hg:Gl X x) (hm:X.mg x=some u) (r:bS v u) (hd:(x == ("__debug__" : Str))=false:=by decide):PE X (.Name x pos) (tC v):=
 fun _ _ _ H _ I h=>ld_glob I hg hm ⟨v,H,I,r,h⟩ hd
theorem pe_bltn {x:Str}{v:V}{u:Value}{pos:Pos} (hg:Gl X x) (hm:X.mg x=none) (hv:bootBuiltins x=some u) (r:bS v u) (hn:x ≠ "__name__" := by decide) (hd:(x == ("__debug__" : Str))=false:=by decide):PE X (.Name x pos) (tC v):=
 fun _ _ _ H _ I h=>ld_blt I hg hm hv ⟨v,H,I,r,h⟩ hn hd
variable {a b:Expr}{ta tb:TE}{pos:Pos}
noncomputable def tB (t:TE):TT:=fun σ H Q=>t σ H fun x H1=>∃ c,x=.bl c∧Q c H1
theorem pt_val {e:Expr}{t:TE} (h:PE X e t) (he:∀ whole,isTrue e X.env whole=(do let v ← whole;standAt e.pos;holding [v] (truthy v)):=by intro _;rfl):PT X e (tB t):=by
 intro pins s σ H Q I hw
 refine isTrue_plain (d0 (h pins s σ H _ I hw) fun v s1 ⟨x,H1,I1,r1,q1⟩=>?_) (he _)
 obtain⟨d,rfl,q⟩:=q1
 cases r1
 exact wpAny_truthy_bool ⟨H1,I1,q⟩
variable {tA tB':TT}{rest:List Expr}
noncomputable def tAnd (t u:TT):TT:=fun σ H Q=>t σ H fun c H1=>if c=true then u σ H1 Q else Q false H1
noncomputable def tOr (t u:TT):TT:=fun σ H Q=>t σ H fun c H1=>if c=true then Q true H1 else u σ H1 Q
noncomputable def tNot (t:TT):TT:=fun σ H Q=>t σ H fun c H1=>Q (!c) H1
theorem pw_and1 (ha:PT X a tA):PW X (.BoolOp .And [a] pos) tA:=by
 intro wh pins s σ H Q I h
 refine isTrue_and (d0 (ha pins s σ H Q I h) fun c s1 e=>?_)
 cases c with
 | true=>exact isTrue_and_nil e
 | false=>exact e
theorem pw_or1 (ha:PT X a tA):PW X (.BoolOp .Or [a] pos) tA:=by
 intro wh pins s σ H Q I h
 refine isTrue_or (d0 (ha pins s σ H Q I h) fun c s1 e=>?_)
 cases c with
 | false=>exact isTrue_or_nil e
 | true=>exact e
theorem pw_and (ha:PT X a tA) (hb:PW X (.BoolOp .And (b::rest) pos) tB'):PW X (.BoolOp .And (a::b::rest) pos) (tAnd tA tB'):=by
 intro wh pins s σ H Q I h
 refine isTrue_and (d0 (ha pins s σ H _ I h) fun c s1 ⟨H1,I1,q1⟩=>?_)
 cases c with
 | true=>exact hb wh pins s1 σ H1 Q I1 q1
 | false=>exact⟨H1,I1,q1⟩
theorem pw_or (ha:PT X a tA) (hb:PW X (.BoolOp .Or (b::rest) pos) tB'):PW X (.BoolOp .Or (a::b::rest) pos) (tOr tA tB'):=by
 intro wh pins s σ H Q I h
 refine isTrue_or (d0 (ha pins s σ H _ I h) fun c s1 ⟨H1,I1,q1⟩=>?_)
 cases c with
 | true=>exact⟨H1,I1,q1⟩
 | false=>exact hb wh pins s1 σ H1 Q I1 q1
theorem pt_not (ha:PT X a tA):PT X (.UnaryOp .Not a pos) (tNot tA):=by
 intro pins s σ H Q I h
 exact isTrue_not (ha pins s σ H (fun c H1=>Q (!c) H1) I h)
noncomputable def tAndV (ta tb:TE):TE:=fun σ H Q=>ta σ H fun x H1=>∃ c,x=.bl c∧if c=true then tb σ H1 Q else Q (.bl false) H1
noncomputable def tOrV (ta tb:TE):TE:=fun σ H Q=>ta σ H fun x H1=>∃ c,x=.bl c∧if c=true then Q (.bl true) H1 else tb σ H1 Q
noncomputable def tNotV (ta:TE):TE:=fun σ H Q=>ta σ H fun x H1=>∃ c,x=.bl c∧Q (.bl (!c)) H1
theorem pe_one {op}{t:TE} (h:PE X a t):PE X (.BoolOp op [a] pos) t:=fun pins s σ H Q I hw=>BoolOp_one (h pins s σ H Q I hw)
theorem pe_and (ha:PE X a ta) (hb:PE X (.BoolOp .And (b::rest) pos) tb):PE X (.BoolOp .And (a::b::rest) pos) (tAndV ta tb):=by
 intro pins s σ H Q I h
 refine BoolOp_and (d0 (ha pins s σ H _ I h) fun v s1 ⟨x,H1,I1,r1,q1⟩=>?_)
 obtain⟨c,rfl,q1⟩:=q1
 cases r1
 refine wpAny_truthy_bool ?_
 cases c with
 | true=>exact hb pins s1 σ H1 Q I1 q1
 | false=>exact⟨.bl false,H1,I1,rfl,q1⟩
theorem pe_or (ha:PE X a ta) (hb:PE X (.BoolOp .Or (b::rest) pos) tb):PE X (.BoolOp .Or (a::b::rest) pos) (tOrV ta tb):=by
 intro pins s σ H Q I h
 refine BoolOp_or (d0 (ha pins s σ H _ I h) fun v s1 ⟨x,H1,I1,r1,q1⟩=>?_)
 obtain⟨c,rfl,q1⟩:=q1
 cases r1
 refine wpAny_truthy_bool ?_
 cases c with
 | false=>exact hb pins s1 σ H1 Q I1 q1
 | true=>exact⟨.bl true,H1,I1,rfl,q1⟩
theorem pe_not (ha:PE X a ta):PE X (.UnaryOp .Not a pos) (tNotV ta):=by
 intro pins s σ H Q I h
 refine UnaryOp_ (d0 (ha pins s σ H _ I h) fun v s1 ⟨x,H1,I1,r1,q1⟩=>?_)
 obtain⟨c,rfl,q1⟩:=q1
 cases r1
 exact not_of (wpAny_truthy_bool ⟨.bl (!c),H1,I1,rfl,q1⟩)
noncomputable def tIf (t:TT) (ta tb:TE):TE:=fun σ H Q=>t σ H fun c H1=>if c=true then ta σ H1 Q else tb σ H1 Q
theorem pe_ifExp {c:Expr} (hc:PT X c tA) (ha:PE X a ta) (hb:PE X b tb):PE X (.IfExp c a b pos) (tIf tA ta tb):=by
 intro pins s σ H Q I h
 refine wpAny_IfExp (d0 (hc pins s σ H _ I h) fun d s1 ⟨H1,I1,q1⟩=>?_)
 cases d with
 | true=>exact ha pins s1 σ H1 Q I1 q1
 | false=>exact hb pins s1 σ H1 Q I1 q1
end
end L2
namespace L2
open PySem PySem.Spec PyProof.Rows
noncomputable def bT (K:PySem.W.Frag) (H:Hp) (a:Addr) (xs:List V):Prop:=
 Rd H a (.lst xs)∨
  ∃ (o:Obj) (its:Array Value) (n:Nat),K.lookup a=some o∧o.cls=.type "list" ∧ o.dict=none∧o.data=.seq its n∧its.size≤sizeLine∧bX xs its.toList
noncomputable def bR (K:PySem.W.Frag) (H:Hp) (a:Addr) (xs:List V):Prop:=
 Rd H a (.tup xs)∨
  ∃ (o:Obj) (its:Array Value) (n:Nat),K.lookup a=some o∧o.cls=.type "tuple" ∧ o.data=.seq its n∧its.size≤sizeLine∧bX xs its.toList
noncomputable def absV:Value→Option V
 | .none=>some .non
 | .bool b=>some (.bl b)
 | .int i _=>some (.int i)
 | .str x _=>some (.str x)
 | .bytes b _=>some (.byt b)
 | .float b _=>some (.flt b)
 | .ref a=>some (.ref a)
 | .type n=>some (.ty n)
 | _=>none
theorem bS.abs {x:V}{u:Value} (r:bS x u):absV u=some x:=by
 cases x with
 | non=>cases r;rfl
 | bl _=>cases r;rfl
 | int _=>obtain⟨t,rfl⟩:=r;rfl
 | str _=>obtain⟨t,rfl⟩:=r;rfl
 | byt _=>obtain⟨t,rfl⟩:=r;rfl
 | flt _=>obtain⟨t,rfl⟩:=r;rfl
 | ref _=>cases r;rfl
 | ty _=>cases r;rfl
theorem bS.inj {x y:V}{u:Value} (r:bS x u) (q:bS y u):x=y:=Option.some.inj (r.abs.symm.trans q.abs)
theorem bX.inj:∀ {xs ys:List V}{us:List Value},bX xs us→bX ys us→xs=ys
 | _,_,_,.nil,.nil=>rfl
 | _,_,_,.cons r t,.cons r' t'=>by rw[r.inj r',bX.inj t t']
section
variable {X:Cx}{pins:List (Addr×Obj)}{σ:St}{H:Hp}{s:Shared}{a:Addr}{xs ys:List V}
theorem bT.of {K:PySem.W.Frag} (h:H a=some (.lst xs)):bT K H a xs:=.inl (.inl h)
theorem bR.of {K:PySem.W.Frag} (h:H a=some (.tup xs)):bR K H a xs:=.inl (.inl h)
theorem Inv.list (I:Inv X pins σ H s) (h:bT X.K H a xs):∃ its:List Value,bX xs its∧PlainL s.heap a its.toArray∧xs.length≤sizeLine:=by
 rcases h with h | ⟨o,its,n,hk,hc,hd,hs,hz,r⟩
 ·obtain⟨z,its,n,r,e⟩:=h.ok I.hok
  exact⟨its,r,⟨_,n,e,rfl,rfl,rfl⟩,z⟩
 ·refine⟨its.toList,r,⟨o,n,I.kIn a o hk,hc,hd,by simpa using hs⟩,?_⟩
  have e:=r.length
  simp only [Array.length_toList] at e
  omega
theorem Inv.tuple (I:Inv X pins σ H s) (h:bR X.K H a xs):∃ its:List Value,bX xs its∧IsTup s.heap a its.toArray∧xs.length≤sizeLine:=by
 rcases h with h | ⟨o,its,n,hk,hc,hs,hz,r⟩
 ·obtain⟨z,its,r,p⟩:=h.ok I.hok
  exact⟨its,r,p,z⟩
 ·refine⟨its.toList,r,⟨o,I.kIn a o hk,hc,n,by simpa using hs⟩,?_⟩
  have e:=r.length
  simp only [Array.length_toList] at e
  omega
theorem Inv.list_inj (I:Inv X pins σ H s) (h:bT X.K H a xs) (h':bT X.K H a ys):xs=ys:=by
 obtain⟨its,r,⟨o,n,e,_,_,d⟩,_⟩:=I.list h
 obtain⟨its',r',⟨o',n',e',_,_,d'⟩,_⟩:=I.list h'
 rw[e] at e';cases e'
 rw[d] at d'
 injection d' with d1 _
 have:its=its':=by simpa using congrArg Array.toList d1
 subst this
 exact r.inj r'
theorem Inv.tuple_inj (I:Inv X pins σ H s) (h:bR X.K H a xs) (h':bR X.K H a ys):xs=ys:=by
 obtain⟨its,r,⟨o,e,_,n,d⟩,_⟩:=I.tuple h
 obtain⟨its',r',⟨o',e',_,n',d'⟩,_⟩:=I.tuple h'
 rw[e] at e';cases e'
 rw[d] at d'
 injection d' with d1 _
 have:its=its':=by simpa using congrArg Array.toList d1
 subst this
 exact r.inj r'
end
noncomputable abbrev Cx.wish (X:Cx) (E:Value→Shared→Prop):Cx:={ X with xe:=E }
noncomputable abbrev Cx.nox (X:Cx):Cx:=X.wish fun _ _=>False
theorem Cx.Ok.wish {X:Cx} (ok:X.Ok) (E:Value→Shared→Prop):(X.wish E).Ok:=
 ⟨ok.mod,ok.kind,ok.glob,ok.blt,ok.above,ok.inj,ok.has,ok.cab,ok.hd,ok.frames,ok.stk,ok.exf,ok.bs,ok.bsz,ok.noex,ok.exfs,ok.funs,ok.frf⟩
theorem Cx.Ok.unwish {X:Cx}{E:Value→Shared→Prop} (ok:(X.wish E).Ok):X.Ok:=
 ⟨ok.mod,ok.kind,ok.glob,ok.blt,ok.above,ok.inj,ok.has,ok.cab,ok.hd,ok.frames,ok.stk,ok.exf,ok.bs,ok.bsz,ok.noex,ok.exfs,ok.funs,ok.frf⟩
section
variable {X:Cx}{pins:List (Addr×Obj)}{σ:St}{H:Hp}{s:Shared}{E:Value→Shared→Prop}
theorem Inv.wish (I:Inv X pins σ H s) (E:Value→Shared→Prop):Inv (X.wish E) pins σ H s:=⟨I.ok.wish E,I.os,I.bare,I.base,I.loc,I.cell,I.free,I.freeC,I.pin,I.hok,I.len⟩
theorem Inv.unwish (I:Inv (X.wish E) pins σ H s):Inv X pins σ H s:=⟨I.ok.unwish,I.os,I.bare,I.base,I.loc,I.cell,I.free,I.freeC,I.pin,I.hok,I.len⟩
theorem SP.unwish {D:Ends}{f:Flow}{s':Shared} (h:SP (X.wish E) pins D f s'):SP X pins D f s':=by
 cases f with
 | next=>obtain⟨σ',H',I,q⟩:=h;exact⟨σ',H',I.unwish,q⟩
 | brk=>obtain⟨σ',H',I,q⟩:=h;exact⟨σ',H',I.unwish,q⟩
 | cont=>obtain⟨σ',H',I,q⟩:=h;exact⟨σ',H',I.unwish,q⟩
 | ret u=>obtain⟨v,σ',H',I,r,q⟩:=h;exact⟨v,σ',H',I.unwish,r,q⟩
theorem PSs.nox {st:List Stmt}{t:TS} (h:PSs X.nox st t):PSs X st t:=fun pins s σ H D I hw=>
 wpAny_mono (h pins s σ H D (I.wish _) hw) (fun _ _ q=>q.unwish) fun _ _ z=>False.elim z
end
section
variable {X:Cx}{st:Stmt}{rest:List Stmt}{t u:TS}{e:Expr}{te:TE}{pos:Pos}
noncomputable def tNext:TS:=fun D σ H=>D.nx σ H
noncomputable def tSeq (t u:TS):TS:=fun D σ H=>t { D with nx:=u D } σ H
theorem bY:PSs X [] tNext:=fun _ _ σ H _ I h=>wpAny_execs_nil ⟨σ,H,I,h⟩
theorem aD (h1:PS X st t) (h2:PSs X rest u):PSs X (st::rest) (tSeq t u):=by
 intro pins s σ H D I h
 refine wpAny_execs_cons (d0 (h1 pins s σ H { D with nx:=u D } I h) fun f s1 q=>?_)
 cases f with
 | next=>
  obtain⟨σ',H',I',q⟩:=q
  exact h2 pins s1 σ' H' D I' q
 | ret v=>exact q
 | brk=>exact q
 | cont=>exact q
theorem aL (h1:PS X st t):PSs X [st] t:=by
 intro pins s σ H D I h
 refine wpAny_execs_cons (d0 (h1 pins s σ H D I h) fun f s1 q=>?_)
 cases f with
 | next=>exact wpAny_execs_nil q
 | ret v=>exact q
 | brk=>exact q
 | cont=>exact q
theorem Inv.quiet {pins:List (Addr×Obj)}{σ:St}{H:Hp}{s:Shared} (I:Inv X pins σ H s):interactive X.env=false:=by simp [interactive,I.ok.kind]
noncomputable def tDrop (te:TE):TS:=fun D σ H=>te σ H fun _ H1=>D.nx σ H1
theorem dA (he:PE X e te) (hs:swapsWith e none pos.line X.env=pure false:=by rfl):PS X (.Expr e pos) (tDrop te):=by
 intro pins s σ H D I h
 exact wpAny_Expr_any (d0 (he pins s σ H _ I h) fun v s1 ⟨x,H1,I1,r1,q1⟩=>⟨σ,H1,I1,q1⟩) I.quiet hs
noncomputable def tRet (te:TE):TS:=fun D σ H=>te σ H D.rt
theorem bL (he:PE X e te):PS X (.Return (some e) pos) (tRet te):=by
 intro pins s σ H D I h
 exact wpAny_Return_some (d0 (he pins s σ H _ I h) fun v s1 ⟨x,H1,I1,r1,q1⟩=>⟨x,σ,H1,I1,r1,q1⟩)
noncomputable def tIfS (c:TT) (t u:TS):TS:=fun D σ H=>c σ H fun b H1=>if b=true then t D σ H1 else u D σ H1
theorem dG {c:Expr}{a b:List Stmt}{tc:TT} (hc:PT X c tc) (ha:PSs X a t) (hb:PSs X b u):PS X (.If c a b pos) (tIfS tc t u):=by
 intro pins s σ H D I h
 refine wpAny_If (d0 (hc pins s σ H _ I h) fun d s1 ⟨H1,I1,q1⟩=>?_)
 cases d with
 | true=>exact ha pins s1 σ H1 D I1 q1
 | false=>exact hb pins s1 σ H1 D I1 q1
end
noncomputable abbrev TG:=V→St→Hp→(St→Hp→Prop)→Prop
noncomputable abbrev TGs:=List V→St→Hp→(St→Hp→Prop)→Prop
noncomputable def PG (X:Cx) (target:Expr) (t:TG):Prop:=
 ∀ (pins:List (Addr×Obj)) (s:Shared) (σ:St) (H:Hp) (v:V) (u:Value) (Q:St→Hp→Prop),Inv X pins σ H s→bS v u→t v σ H Q→
  wpAny (model X.prog X.w) X.A (assign target X.env u) (fun _ s'=>∃ σ' H',Inv X pins σ' H' s'∧Q σ' H') X.xe s
noncomputable def PGs (X:Cx) (ts:List Expr) (t:TGs):Prop:=
 ∀ (pins:List (Addr×Obj)) (s:Shared) (σ:St) (H:Hp) (vs:List V) (us:List Value) (Q:St→Hp→Prop),Inv X pins σ H s→bX vs us→t vs σ H Q→
  wpAny (model X.prog X.w) X.A (assignInOrder ((assignEach ts X.env).map (·.2)) us) (fun _ s'=>∃ σ' H',Inv X pins σ' H' s'∧Q σ' H') X.xe s
noncomputable abbrev TSet:=V→V→V→Hp→(Hp→Prop)→Prop
noncomputable def PSet (X:Cx) (t:TSet):Prop:=
 ∀ (pins:List (Addr×Obj)) (s:Shared) (σ:St) (H:Hp) (o i v:V) (ov iv u:Value) (Q:Hp→Prop),Inv X pins σ H s→bS o ov→bS i iv→bS v u→t o i v H Q→
  wpAny (model X.prog X.w) X.A (setItem ov iv u) (fun _ s'=>∃ H',Inv X pins σ H' s'∧Q H') X.xe s
noncomputable abbrev TIp:=V→V→Hp→VK→Prop
noncomputable def PIp (X:Cx) (op:Operator) (t:TIp):Prop:=
 ∀ (pins:List (Addr×Obj)) (s:Shared) (σ:St) (H:Hp) (x y:V) (v u:Value) (Q:VK),Inv X pins σ H s→bS x v→bS y u→t x y H Q→
  wpAny (model X.prog X.w) X.A (inplaceOp op v u) (EP X pins σ Q) X.xe s
section
variable {X:Cx}{pos:Pos}
noncomputable def gName (i:Nat):TG:=fun v σ H Q=>Q (σ.set i (some v)) H
theorem aH {i:Nat}{x:Str} (hN:X.N.Nodup) (hi:X.N[i]? = some x) (hx:Loc X.env.scope x) (hf:X.fn x=true∨X.env.scope.names.lookup x=some .local:=by first | exact .inl rfl | exact .inr rfl | assumption):PG X (.Name x pos) (gName i):=by
 intro pins s σ H v u Q I r h
 exact wpAny_assign_Name (store_ok I hN hi hx r (fun s' I'=>⟨_,H,I',h⟩) hf)
noncomputable def gNil:TGs:=fun vs σ H Q=>vs=[]∧Q σ H
noncomputable def gCons (t:TG) (u:TGs):TGs:=fun vs σ H Q=>∃ v r,vs=v::r∧t v σ H fun σ' H'=>u r σ' H' Q
theorem bK:PGs X [] gNil:=by
 intro pins s σ H vs us Q I r h
 obtain⟨e,h⟩:=h
 subst e
 cases r
 exact assignInOrder_nil ⟨σ,H,I,h⟩
theorem aI {e:Expr}{es:List Expr}{t:TG}{u:TGs} (h1:PG X e t) (h2:PGs X es u)
  (hs:(assignEach (e::es) X.env).map (·.2)=assign e X.env::(assignEach es X.env).map (·.2):=by rfl):PGs X (e::es) (gCons t u):=by
 intro pins s σ H vs us Q I r h
 obtain⟨v,vr,e1,h⟩:=h
 subst e1
 cases r with
 | cons r rr=>
  rw[hs]
  refine assignInOrder_cons (d0 (h1 pins s σ H _ _ _ I r h) fun _ s1 ⟨σ1,H1,I1,q1⟩=>?_)
  exact h2 pins s1 σ1 H1 _ _ Q I1 rr q1
noncomputable def gTup (K:PySem.W.Frag) (n:Nat) (t:TGs):TG:=fun v σ H Q=>∃ a xs,v=.ref a∧bR K H a xs∧xs.length=n∧t xs σ H Q
theorem pg_tup {es:List Expr}{k:Nat}{t:TGs}{n:Nat} (hc:X.calm=true) (h:PGs X es t)
  (hn:(assignEach es X.env).length=n:=by rfl) (hst:(assignEach es X.env).findIdx? (·.1)=none:=by rfl):PG X (.Tuple es k pos) (gTup X.K n t):=by
 intro pins s σ H v u Q I r hw
 obtain⟨a,xs,e1,hq,hl,hw⟩:=hw
 subst e1
 cases r
 obtain⟨its,rv,ht,hz⟩:=I.tuple hq
 refine assign_Tuple_tuple (I.ok.hd hc) ht (by simp [hn,← hl,rv.length]) hst fun h' hx=>?_
 have I1:Inv X pins σ H { s with heap:=h' }:=I.kept (t':=s.toks) fun b o e=>hx b o (Nat.ne_of_lt (Heap.lt_size e)) e
 exact h pins _ σ H xs _ Q I1 (by simpa using rv) hw
noncomputable def gSub (to ti:TE) (t:TSet):TG:=fun v σ H Q=>to σ H fun o H1=>ti σ H1 fun i H2=>t o i v H2 fun H3=>Q σ H3
theorem pg_sub {o i:Expr}{to ti:TE}{t:TSet} (ho:PE X o to) (hi:PE X i ti) (hs:PSet X t)
  (ha:∀ v,assign (.Subscript o i pos) X.env v=(do
   let ov ← holding [v] (eval o X.env)
   let iv ← holding [v,ov] (eval i X.env)
   standAt pos
   holding [v,ov,iv] (setItem ov iv v)
   release [v,ov,iv] []):=by intro _;rfl):PG X (.Subscript o i pos) (gSub to ti t):=by
 intro pins s σ H v u Q I r h
 rw[ha]
 refine wpAny_bind (wpAny_holding (d0 (ho pins s σ H _ I h) fun ov s1 ⟨x,H1,I1,r1,q1⟩=>?_))
 refine wpAny_bind (wpAny_holding (d0 (hi pins s1 σ H1 _ I1 q1) fun iv s2 ⟨y,H2,I2,r2,q2⟩=>?_))
 refine wpAny_bind (wpAny_standAt (wpAny_bind (wpAny_holding (d0 (hs pins s2 σ H2 x y v ov iv u _ I2 r1 r2 r q2) fun _ s3 ⟨H3,I3,q3⟩=>?_))))
 exact wpAny_release ⟨σ,H3,I3,q3⟩
noncomputable def tAsg (te:TE) (g:TG):TS:=fun D σ H=>te σ H fun x H1=>g x σ H1 D.nx
theorem cX {tg e:Expr}{te:TE}{g:TG} (he:PE X e te) (hg:PG X tg g) (hs:swapsWithSole [tg] e pos.line X.env=pure false:=by rfl) (hw:swappedStores [tg] e X.env=pure none:=by rfl)
  (h1:(assignEach [tg] X.env).map (·.2)=[assign tg X.env]:=by rfl):PS X (.Assign [tg] e pos) (tAsg te g):=by
 intro pins s σ H D I h
 refine wpAny_Assign_stores (d0 (he pins s σ H _ I h) fun v s1 ⟨x,H1,I1,r1,q1⟩=>?_) hs hw
 rw[h1]
 exact d0 (hg pins s1 σ H1 x v _ I1 r1 q1) fun _ s2 q=>q
theorem aS {i:Nat}{x:Str}{e:Expr}{te:TE}{pos':Pos} (hN:X.N.Nodup) (hi:X.N[i]? = some x) (hx:Loc X.env.scope x) (he:PE X e te) (hs:swapsWith e (some (.Name x pos')) pos.line X.env=pure false:=by rfl) (hf:X.fn x=true∨X.env.scope.names.lookup x=some .local:=by first | exact .inl rfl | exact .inr rfl | assumption) :
  PS X (.Assign [.Name x pos'] e pos) (tAsg te (gName i)):=by
 intro pins s σ H D I h
 refine wpAny_Assign_Name (d0 (he pins s σ H _ I h) fun v s1 ⟨y,H1,I1,r1,q1⟩=>?_) hs
 exact store_ok I1 hN hi hx r1 (fun s2 I2=>⟨_,H1,I2,q1⟩) hf
noncomputable def tPar (i j:Nat) (ta:TA):TS:=fun D σ H=>ta σ H fun vs H1=>∃ v w,vs=[v,w]∧D.nx ((σ.set i (some v)).set j (some w)) H1
theorem ps_par {i j:Nat}{x y:Str}{a b:Expr}{ta:TA}{px py pt:Pos}{kt k2 pt2} (hc:X.calm=true) (hN:X.N.Nodup) (hi:X.N[i]? = some x) (hj:X.N[j]? = some y) (hij:i≠j)
  (hx:X.env.scope.names.lookup x=some .local) (hy:X.env.scope.names.lookup y=some .local) (ha:PA X [a,b] ta)
  (hw:swappedStores [.Tuple [.Name x px,.Name y py] kt pt] (.Tuple [a,b] k2 pt2) X.env=pure (some [x,y]))
  (hs:swapsWithSole [.Tuple [.Name x px,.Name y py] kt pt] (.Tuple [a,b] k2 pt2) pos.line X.env=pure false:=by rfl) :
  PS X (.Assign [.Tuple [.Name x px,.Name y py] kt pt] (.Tuple [a,b] k2 pt2) pos) (tPar i j ta):=by
 intro pins s σ H D I h
 rw[exec_Assign_arm]
 refine wpAny_bind (wpAny_standAt ?_)
 rw[hs]
 refine wpAny_bind (wpAny_pure ?_)
 rw[if_neg (by decide)]
 refine wpAny_bind (Tuple_ (d0 (ha _ pins s σ H _ I h) fun us s1 ⟨vs,H1,I1,r1,q1⟩=>?_))
 obtain⟨v,w,e1,q1⟩:=q1
 subst e1
 obtain⟨u1,u2,rfl,rv,rw'⟩:∃ u1 u2,us=[u1,u2]∧bS v u1∧bS w u2:=by
  cases r1 with
  | cons p q=>
   cases q with
   | cons p' q'=>
    cases q'
    exact⟨_,_,rfl,p,p'⟩
 refine wpAny_newObj_type ?_ (by show 2≤sizeLine;decide)
 have I2:Inv X pins σ H1 { s1 with heap:=s1.heap.push { cls:=.type "tuple",data:=.seq [u1,u2].toArray } }:=I1.kept (t':=s1.toks) fun b o e=>Heap.get?_push_of_some _ e
 rw[hw]
 refine wpAny_bind (wpAny_pure ?_)
 show wpAny (model X.prog X.w) X.A (do rule "assign.swapped-stores";let items ← unpackItems (.ref s1.heap.objs.size) 2 none;assignInOrder [fun v=>bindName X.env y v,fun v=>bindName X.env x v] items.reverse;pure Flow.next) _ _ _
 refine wpAny_bind (wpAny_rule (wpAny_bind (unpackItems_tuple (items:=#[u1,u2]) (I.ok.hd hc) (IsTup.new s1.heap _) fun h' hx'=>?_)))
 have I3:=I2.kept (h':=h') (t':=s1.toks) fun b o e=>hx' b o (Nat.ne_of_lt (Heap.lt_size e)) e
 show wpAny _ _ (assignInOrder [fun v=>bindName X.env y v,fun v=>bindName X.env x v] [u2,u1] >>= fun _=>pure Flow.next) _ _ _
 refine wpAny_bind (assignInOrder_cons (wpAny_bindName (store_ok I3 hN hj (.inl hy) rw' (fun s2 I4=>?_) (.inr hy))))
 refine assignInOrder_cons (wpAny_bindName (store_ok I4 hN hi (.inl hx) rv (fun s3 I5=>assignInOrder_nil (wpAny_pure ?_)) (.inr hx)))
 rw[List.set_comm _ _ (Ne.symm hij)] at I5
 exact⟨_,H1,I5,q1⟩
noncomputable def tAug (i:Nat) (te:TE) (ti:TIp):TS:=fun D σ H=>∃ x,σ[i]? = some (some x)∧te σ H fun y H1=>ti x y H1 fun z H2=>D.nx (σ.set i (some z)) H2
theorem ps_aug {i:Nat}{x:Str}{e:Expr}{te:TE}{op:Operator}{ti:TIp}{pos':Pos} (hN:X.N.Nodup) (hi:X.N[i]? = some x) (hx:Loc X.env.scope x) (he:PE X e te) (ho:PIp X op ti) (hf:X.fn x=true∨X.env.scope.names.lookup x=some .local:=by first | exact .inl rfl | exact .inr rfl | assumption) :
  PS X (.AugAssign (.Name x pos') op e pos) (tAug i te ti):=by
 intro pins s σ H D I h
 obtain⟨v,e1,h⟩:=h
 obtain⟨m,hn,hl⟩:=I.loc
 have vis:Vis X.env.scope x:=by rcases hx with k | k;exact .inl k;exact .inr (.inl k)
 obtain⟨u,r,l⟩:=hl i x v hi e1 vis
 refine wpAny_AugAssign_Name ?_
 have go:wpAny (model X.prog X.w) X.A (eval e X.env) (fun w s₂=>wpAny (model X.prog X.w) X.A (inplaceOp op u w) (fun r s₃=>wpAny (model X.prog X.w) X.A (storeName X.env x r) (fun _=>SP X pins D .next) X.xe s₃) X.xe s₂) X.xe s:=by
  refine d0 (he pins s σ H _ I h) fun w s1 ⟨y,H1,I1,r1,q1⟩=>?_
  refine d0 (ho pins s1 σ H1 v y u w _ I1 r r1 q1) fun z s2 ⟨zv,H2,I2,r2,q2⟩=>?_
  exact store_ok I2 hN hi hx r2 (fun s3 I3=>⟨_,H2,I3,q2⟩) hf
 rcases l with ⟨hk,hm⟩ | ⟨hk,c,hc,hcell⟩
 ·exact wpAny_loadName_local I.ok.kind hk hn hm go
 ·rcases hk with hk | hk
  ·exact wpAny_loadName_cell I.ok.kind hk hc hcell go
  ·rcases hx with k | k
   ·have:X.env.scope.names.lookup x=some .free:=hk
    rw[k] at this;cases this
   ·have:X.env.scope.names.lookup x=some .free:=hk
    rw[k] at this;cases this
noncomputable def tAugS (to ti te:TE) (tget:V→V→Hp→VK→Prop) (tip:TIp) (tset:TSet):TS:=fun D σ H=>to σ H fun o H1=>ti σ H1 fun i H2=>tget o i H2 fun x H3=>te σ H3 fun y H4=>tip x y H4 fun z H5=>tset o i z H5 fun H6=>D.nx σ H6
noncomputable def PGet (X:Cx) (t:V→V→Hp→VK→Prop):Prop:=
 ∀ (pins:List (Addr×Obj)) (s:Shared) (σ:St) (H:Hp) (o i:V) (ov iv:Value) (Q:VK),Inv X pins σ H s→bS o ov→bS i iv→t o i H Q→
  wpAny (model X.prog X.w) X.A (getItem ov iv) (EP X pins σ Q) X.xe s
theorem ps_augS {o i e:Expr}{to ti te:TE}{tget:V→V→Hp→VK→Prop}{tip:TIp}{tset:TSet}{op:Operator}{tpos:Pos} (ho:PE X o to) (hi:PE X i ti) (hg:PGet X tget) (he:PE X e te) (hp:PIp X op tip) (hs:PSet X tset)
  (ha:∀ ov iv new,augStore i ov iv new=(do holding [new,ov,iv] (setItem ov iv new);release [new,ov,iv] [];pure .next):=by intros;rfl):PS X (.AugAssign (.Subscript o i tpos) op e pos) (tAugS to ti te tget tip tset):=by
 intro pins s σ H D I h
 refine wpAny_AugAssign_SubscriptAny (d0 (ho pins s σ H _ I h) fun ov s1 ⟨x1,H1,I1,r1,q1⟩=>?_) ha
 refine d0 (hi pins s1 σ H1 _ I1 q1) fun iv s2 ⟨x2,H2,I2,r2,q2⟩=>?_
 refine d0 (hg pins s2 σ H2 x1 x2 ov iv _ I2 r1 r2 q2) fun old s3 ⟨x3,H3,I3,r3,q3⟩=>?_
 refine d0 (he pins s3 σ H3 _ I3 q3) fun v s4 ⟨x4,H4,I4,r4,q4⟩=>?_
 refine d0 (hp pins s4 σ H4 x3 x4 old v _ I4 r3 r4 q4) fun new s5 ⟨x5,H5,I5,r5,q5⟩=>?_
 exact d0 (hs pins s5 σ H5 x1 x2 x5 ov iv new _ I5 r1 r2 r5 q5) fun _ s6 ⟨H6,I6,q6⟩=>⟨σ,H6,I6,q6⟩
noncomputable def ipI (f:Int→Int→Int):TIp:=fun x y H Q=>∃ i j,x=.int i∧y=.int j∧Q (.int (f i j)) H
theorem ip_add:PIp X .Add (ipI fun i j=>i+j):=by
 intro pins s σ H x y v u Q I r1 r2 h
 obtain⟨i,j,e1,e2,q⟩:=h
 subst e1;subst e2
 obtain⟨t,rfl⟩:=r1
 obtain⟨t',rfl⟩:=r2
 exact iadd_int ⟨.int _,H,I.tok _,⟨_,rfl⟩,q⟩
theorem ip_sub:PIp X .Sub (ipI fun i j=>i - j):=by
 intro pins s σ H x y v u Q I r1 r2 h
 obtain⟨i,j,e1,e2,q⟩:=h
 subst e1;subst e2
 obtain⟨t,rfl⟩:=r1
 obtain⟨t',rfl⟩:=r2
 exact isub_int ⟨.int _,H,I.tok _,⟨_,rfl⟩,q⟩
end
section
variable {X:Cx}{pos:Pos}
end
structure It where
 go:Nat→Hp→Prop
 yld:Nat→Hp→V→Hp→Prop
 stop:Nat→Hp→Prop
noncomputable def FpOk (X:Cx) (pins:List (Addr×Obj)) (H:Hp) (b:Addr):Prop:=
 H b=none∧b≠X.env.locals∧b∉X.fs∧(b∈X.ex∨X.s₀.heap.objs.size≤b)∧(∀ x c,X.env.cells.lookup x=some c→c≠b)∧∀ p∈X.pn++pins,p.1≠b
theorem Inv.fpOk {X:Cx}{pins:List (Addr×Obj)}{σ:St}{H H':Hp}{s:Shared}{b:Addr} (I:Inv X pins σ H s) (hb:s.heap.objs.size≤b) (hn:H' b=none):FpOk X pins H' b:=by
 refine⟨hn,Nat.ne_of_gt (Nat.lt_of_lt_of_le I.lt hb),I.nofs hb,.inr (Nat.le_trans I.sz hb),fun x c e z=>?_,fun p hp z=>?_⟩
 ·obtain⟨v,q⟩:=I.cell x c e
  exact absurd (Nat.lt_of_lt_of_le q.lt (by rw[z];exact hb)) (Nat.lt_irrefl _)
 ·exact absurd (Nat.lt_of_lt_of_le (Heap.lt_size (I.pin p hp).1) (by rw[z];exact hb)) (Nat.lt_irrefl _)
structure Turn (P:Program) (w:World) (K:PySem.W.Frag) (tg:Expr) (J:It) (fp:List Addr) (it:Addr) (tn:Nat→Heap→Prop):Prop where
 mem:it∈fp
 obj:∀ i h,tn i h→∀ b∈fp,∃ o,h.get? b=some o∧∀ v,o.data≠.cell v
 keep:∀ i h h',tn i h→(∀ b∈fp,∀ o,h.get? b=some o→h'.get? b=some o)→tn i h'
 item:∀ (X:Cx),X.prog=P→X.w=w→X.K=K→X.calm=true→∀ (i:Nat) (pins:List (Addr×Obj)) (s:Shared) (σ:St) (H:Hp) (E:Value→Shared→Prop),Inv X pins σ H s→(∀ b∈fp,FpOk X pins H b)→tn i s.heap→J.go i H→
  wpAny (model P w) X.A (pyNext (.ref it)) (fun r s1=>∃ u,r=some u∧
   wpAny (model P w) X.A (letOwnedTupleGo tg (.ref it) u) (fun _ s2=>∃ x H',Inv X pins σ H' s2∧bS x u∧J.yld i H x H'∧tn (i+1) s2.heap∧∀ b∈fp,H' b=none) E s1) E s
 done:∀ (X:Cx),X.prog=P→X.w=w→X.K=K→X.calm=true→∀ (i:Nat) (pins:List (Addr×Obj)) (s:Shared) (σ:St) (H:Hp) (E:Value→Shared→Prop),Inv X pins σ H s→(∀ b∈fp,FpOk X pins H b)→tn i s.heap→J.stop i H→
  wpAny (model P w) X.A (pyNext (.ref it)) (fun r s1=>r=none∧Inv X pins σ H s1) E s
 self:∀ (A:Around) (i:Nat) (s:Shared) (Q:Value→Shared→Prop) (E:Value→Shared→Prop),tn i s.heap→Q (.ref it) s→wpAny (model P w) A (pyIter (.ref it)) Q E s
noncomputable abbrev TI:=St→Hp→(It→Hp→Prop)→Prop
noncomputable def PIE (X:Cx) (pins:List (Addr×Obj)) (σ:St) (tg:Expr) (R:It→Hp→Prop) (itv:Value) (s2:Shared):Prop:=
 ∃ (it:Addr) (fp:List Addr) (tn:Nat→Heap→Prop) (J:It) (H':Hp),itv=.ref it∧Inv X pins σ H' s2∧Turn X.prog X.w X.K tg J fp it tn∧tn 0 s2.heap∧(∀ b∈fp,FpOk X pins H' b)∧R J H'
noncomputable def PI (X:Cx) (tg iter:Expr) (wi:TI):Prop:=
 ∀ (pins:List (Addr×Obj)) (s:Shared) (σ:St) (H:Hp) (R:It→Hp→Prop),Inv X pins σ H s→wi σ H R→
  wpAny (model X.prog X.w) X.A (eval iter X.env) (fun v s1=>wpAny (model X.prog X.w) X.A (pyIter v) (PIE X pins σ tg R) X.xe s1) X.xe s
theorem go_of {M:Model}{A:Around}{E:Value→Shared→Prop}{s:Shared}{tg:Expr}{it:Addr}{u:Value}{o:Obj}{n:String}{vs:Array Value}{Q:Unit→Shared→Prop} (ho:s.heap.get? it=some o) (hc:o.cls=.type n) (hd:o.data=.fields vs)
  (hn:["enumerate","zip","dict_itemiterator","dict_reverseitemiterator","odict_iterator","itertools.zip_longest","itertools.pairwise"].contains n=false) (hQ:Q () s):wpAny M A (letOwnedTupleGo tg (.ref it) u) Q E s:=by
 unfold letOwnedTupleGo
 cases tg <;> first
  | exact wpAny_pure hQ
  | (cases u <;> first
    | exact wpAny_pure hQ
    | (refine wpAny_bind (wpAny_load ho ?_)
       rw[hc,hd]
       show wpAny M A (if (["enumerate","zip","dict_itemiterator","dict_reverseitemiterator","odict_iterator","itertools.zip_longest","itertools.pairwise"].contains n && vs[0]? == some (rawInt _))=true then _ else _) Q E s
       rw[if_neg (by intro h;rw[hn,Bool.false_and] at h;cases h)]
       exact wpAny_pure hQ))
noncomputable def Itl (K:PySem.W.Frag) (a:Addr):It:=
 ⟨fun i H=>∃ xs x,bT K H a xs∧xs[i]? = some x,fun i H x H'=>H'=H∧∀ xs,bT K H a xs→xs[i]? = some x,fun i H=>∃ xs,bT K H a xs∧xs.length≤i⟩
noncomputable def Itt (K:PySem.W.Frag) (a:Addr):It:=
 ⟨fun i H=>∃ xs x,bR K H a xs∧xs[i]? = some x,fun i H x H'=>H'=H∧∀ xs,bR K H a xs→xs[i]? = some x,fun i H=>∃ xs,bR K H a xs∧xs.length≤i⟩
noncomputable def Itr (lo:Int) (n:Nat):It:=⟨fun i _=>i < n,fun i H x H'=>H'=H∧x=.int (lo+i),fun i _=>n≤i⟩
theorem turn_list {P:Program}{w:World}{K:PySem.W.Frag}{tg:Expr} (a it:Addr):Turn P w K tg (Itl K a) [it] it (fun i h=>h.IsListIter it a i) where
 mem:=by simp
 obj:=fun i h st b hb=>by
  have e:b=it:=by simpa using hb
  subst e
  obtain⟨o,e,c,d⟩:=st
  exact⟨o,e,fun v z=>by rw[d] at z;cases z⟩
 keep:=fun i h h' st k=>st.at fun o e=>k it (by simp) o e
 item:=by
  intro X hP hw hK hc i pins s σ H E I hf st hg
  subst hP hw hK
  obtain⟨xs,x,hq,hx⟩:=hg
  obtain⟨its,rv,p,hz⟩:=I.list hq
  obtain⟨u,hu,ru⟩:=rv.get hx
  obtain⟨f0,f1,f2,f3,f4,f5⟩:=hf it (by simp)
  refine wpAny_pyNext_list_item st p.isList (x:=u) (by simpa using hu) fun h' st' sb=>?_
  have I1:Inv X pins σ H { s with heap:=h' }:=I.turned (t':=s.toks) (fun b o hb e=>(sb.2 b hb).trans e) f0 f1 f3 f4 f5
  obtain⟨o,e,c,d⟩:=id st'
  exact⟨u,rfl,go_of (s:={ s with heap:=h' }) e c d (by decide) ⟨x,H,I1,ru,⟨rfl,fun ys hy=>by rw[I.list_inj hy hq];exact hx⟩,st',fun b hb=>(hf b hb).1⟩⟩
 done:=by
  intro X hP hw hK hc i pins s σ H E I hf st hg
  subst hP hw hK
  obtain⟨xs,hq,hx⟩:=hg
  obtain⟨its,rv,p,hz⟩:=I.list hq
  obtain⟨f0,f1,f2,f3,f4,f5⟩:=hf it (by simp)
  have hl:=rv.length
  exact wpAny_pyNext_list_end (I.ok.hd hc) st p.isList (by simp;omega) fun h' eb=>⟨rfl,I.turned (t':=s.toks) (fun b o hb e=>eb b o hb e) f0 f1 f3 f4 f5⟩
 self:=fun _ _ _ _ _ st h=>wpAny_pyIter_listiter st h
theorem turn_tuple {P:Program}{w:World}{K:PySem.W.Frag}{tg:Expr} (a it:Addr):Turn P w K tg (Itt K a) [it] it (fun i h=>h.IsTupleIter it a i) where
 mem:=by simp
 obj:=fun i h st b hb=>by
  have e:b=it:=by simpa using hb
  subst e
  obtain⟨o,e,c,d⟩:=st
  exact⟨o,e,fun v z=>by rw[d] at z;cases z⟩
 keep:=fun i h h' st k=>st.at fun o e=>k it (by simp) o e
 item:=by
  intro X hP hw hK hc i pins s σ H E I hf st hg
  subst hP hw hK
  obtain⟨xs,x,hq,hx⟩:=hg
  obtain⟨its,rv,p,hz⟩:=I.tuple hq
  obtain⟨u,hu,ru⟩:=rv.get hx
  obtain⟨f0,f1,f2,f3,f4,f5⟩:=hf it (by simp)
  refine wpAny_pyNext_tuple_item st (show s.heap.IsTuple a its.toArray from p) (x:=u) (by simpa using hu) fun h' st' sb=>?_
  have I1:Inv X pins σ H { s with heap:=h' }:=I.turned (t':=s.toks) (fun b o hb e=>(sb.2 b hb).trans e) f0 f1 f3 f4 f5
  obtain⟨o,e,c,d⟩:=id st'
  exact⟨u,rfl,go_of (s:={ s with heap:=h' }) e c d (by decide) ⟨x,H,I1,ru,⟨rfl,fun ys hy=>by rw[I.tuple_inj hy hq];exact hx⟩,st',fun b hb=>(hf b hb).1⟩⟩
 done:=by
  intro X hP hw hK hc i pins s σ H E I hf st hg
  subst hP hw hK
  obtain⟨xs,hq,hx⟩:=hg
  obtain⟨its,rv,p,hz⟩:=I.tuple hq
  obtain⟨f0,f1,f2,f3,f4,f5⟩:=hf it (by simp)
  have hl:=rv.length
  exact wpAny_pyNext_tuple_end (I.ok.hd hc) st (show s.heap.IsTuple a its.toArray from p) (by simp;omega) fun h' eb=>⟨rfl,I.turned (t':=s.toks) (fun b o hb e=>eb b o hb e) f0 f1 f3 f4 f5⟩
 self:=fun _ _ _ _ _ st h=>wpAny_pyIter_tupleiter st h
theorem turn_range {P:Program}{w:World}{K:PySem.W.Frag}{tg:Expr} (it:Addr) (lo:Int) (n:Nat):Turn P w K tg (Itr lo n) [it] it (fun i h=>IsRangeIter h it (lo+(i:Nat) * 1) ((n:Int) - (i:Nat)) 1) where
 mem:=by simp
 obj:=fun i h st b hb=>by
  have e:b=it:=by simpa using hb
  subst e
  exact⟨_,st,fun v z=>by
   have z':Data.fields _=Data.cell v:=z
   cases z'⟩
 keep:=fun i h h' st k=>k it (by simp) _ st
 item:=by
  intro X hP hw hK hc i pins s σ H E I hf st hg
  subst hP hw hK
  obtain⟨f0,f1,f2,f3,f4,f5⟩:=hf it (by simp)
  have W:=Walks.range (prog:=X.prog) (w:=X.w) (I.ok.hd hc) it lo 1 n
  refine W.item i s _ _ hg st fun v h' tk hv st' kk=>?_
  obtain⟨t,rfl⟩:=hv
  have I1:Inv X pins σ H { s with heap:=h',toks:=tk }:=I.turned (fun b o hb e=>kk b o (by simpa using hb) e) f0 f1 f3 f4 f5
  refine⟨_,rfl,go_of (s:={ s with heap:=h',toks:=tk }) (n := "range_iterator") st' rfl rfl (by decide) ⟨.int (lo+i),H,I1,⟨t,?_⟩,⟨rfl,rfl⟩,st',fun b hb=>(hf b hb).1⟩⟩
  rw[Int.mul_one]
 done:=by
  intro X hP hw hK hc i pins s σ H E I hf st hg
  subst hP hw hK
  obtain⟨f0,f1,f2,f3,f4,f5⟩:=hf it (by simp)
  exact wpAny_pyNext_range_end (I.ok.hd hc) st (by have:n≤i:=hg;omega) fun h' eb=>⟨rfl,I.turned (t':=s.toks) (fun b o hb e=>eb b o hb e) f0 f1 f3 f4 f5⟩
 self:=fun _ _ _ _ _ st h=>wpAny_pyIter_rangeiter st h
end L2
namespace L2
open PySem PySem.Spec PyProof.Rows
section
variable {X:Cx}{tg:Expr}
noncomputable def iList (K:PySem.W.Frag) (tl:TE):TI:=fun σ H R=>tl σ H fun x H1=>∃ a,x=.ref a∧(∃ xs,bT K H1 a xs)∧R (Itl K a) H1
noncomputable def iTup (K:PySem.W.Frag) (tl:TE):TI:=fun σ H R=>tl σ H fun x H1=>∃ a,x=.ref a∧(∃ xs,bR K H1 a xs)∧R (Itt K a) H1
theorem pi_list {l:Expr}{tl:TE} (hl:PE X l tl):PI X tg l (iList X.K tl):=by
 intro pins s σ H R I h
 refine d0 (hl pins s σ H _ I h) fun v s1 ⟨x,H1,I1,r1,q1⟩=>?_
 obtain⟨a,e,⟨xs,hq⟩,q⟩:=q1
 subst e
 cases r1
 obtain⟨its,rv,p,hz⟩:=I1.list hq
 refine wpAny_pyIter_list p.isList ?_
 refine⟨s1.heap.objs.size,[s1.heap.objs.size],_,_,H1,rfl,I1.kept (t':=s1.toks) fun b o e=>Heap.get?_push_of_some _ e,turn_list a _,⟨_,Heap.get?_push_size _ rfl,rfl,rfl⟩,fun b hb=>?_,q⟩
 have e:b=s1.heap.objs.size:=by simpa using hb
 subst e
 exact I1.fpOk (Nat.le_refl _) (I1.hok.fresh (Nat.le_refl _))
theorem pi_tup {l:Expr}{tl:TE} (hl:PE X l tl):PI X tg l (iTup X.K tl):=by
 intro pins s σ H R I h
 refine d0 (hl pins s σ H _ I h) fun v s1 ⟨x,H1,I1,r1,q1⟩=>?_
 obtain⟨a,e,⟨xs,hq⟩,q⟩:=q1
 subst e
 cases r1
 obtain⟨its,rv,p,hz⟩:=I1.tuple hq
 refine wpAny_pyIter_tuple (show s1.heap.IsTuple a its.toArray from p) ?_
 refine⟨s1.heap.objs.size,[s1.heap.objs.size],_,_,H1,rfl,I1.kept (t':=s1.toks) fun b o e=>Heap.get?_push_of_some _ e,turn_tuple a _,⟨_,Heap.get?_push_size _ rfl,rfl,rfl⟩,fun b hb=>?_,q⟩
 have e:b=s1.heap.objs.size:=by simpa using hb
 subst e
 exact I1.fpOk (Nat.le_refl _) (I1.hok.fresh (Nat.le_refl _))
theorem range_it {pins:List (Addr×Obj)}{σ:St}{H:Hp}{s:Shared}{R:It→Hp→Prop}{E:Value→Shared→Prop}{lo hi:Int}{t u v:Tok}{tk:Nat} (I:Inv X pins σ H s) (h1 : -(2 ^ 62)≤lo) (h2:lo < 2 ^ 62) (h3 : -(2 ^ 62)≤hi) (h4:hi < 2 ^ 62)
  (q:R (Itr lo (hi - lo).toNat) H):wpAny (model X.prog X.w) X.A (pyIter (.ref s.heap.objs.size)) (PIE X pins σ tg R) E { s with heap:=s.heap.push { cls:=.type "range",data:=.fields #[.int lo t,.int hi u,.int 1 v] },toks:=tk }:=by
 refine wpAny_pyIter_range (IsRange.new ..) (small_one h1 h2 h3 h4) ?_
 have I1:Inv X pins σ H { s with heap:=s.heap.push { cls:=.type "range",data:=.fields #[.int lo t,.int hi u,.int 1 v] },toks:=tk }:=I.kept fun b o e=>Heap.get?_push_of_some _ e
 refine⟨(s.heap.push { cls:=.type "range",data:=.fields #[.int lo t,.int hi u,.int 1 v] }).objs.size,[(s.heap.push { cls:=.type "range",data:=.fields #[.int lo t,.int hi u,.int 1 v] }).objs.size],_,_,H,rfl,
  I1.kept (t':=tk) fun b o e=>Heap.get?_push_of_some _ e,turn_range _ lo (hi - lo).toNat,?_,fun b hb=>?_,q⟩
 ·have e1:lo+((0:Nat):Int) * 1=lo:=by simp
  have e2:(((hi - lo).toNat:Nat):Int) - ((0:Nat):Int)=Builtin.Range.rangeSize lo hi 1:=by rw[rangeSize_one];split <;> omega
  show IsRangeIter _ _ (lo+((0:Nat):Int) * 1) ((((hi - lo).toNat:Nat):Int) - ((0:Nat):Int)) 1
  rw[e1,e2]
  exact Heap.get?_push_size _ rfl
 ·have e:b=(s.heap.push { cls:=.type "range",data:=.fields #[.int lo t,.int hi u,.int 1 v] }).objs.size:=by simpa using hb
  subst e
  exact I1.fpOk (Nat.le_refl _) (I1.hok.fresh (Nat.le_refl _))
noncomputable def iRng1 (ta:TA):TI:=fun σ H R=>ta σ H fun vs H1=>∃ j:Int,vs=[.int j]∧-(2 ^ 62)≤j∧j < 2 ^ 62∧R (Itr 0 j.toNat) H1
theorem cP {a:Expr}{ta:TA}{p pos:Pos} (hg:Gl X "range") (hm:X.mg "range" = none) (ha:PA X [a] ta) (hs:starEach [a] X.env=[(false,eval a X.env)]:=by rfl):PI X tg (.Call (.Name "range" p) [a] [] pos) (iRng1 ta):=by
 intro pins s σ H R I h
 refine Call_ (ld_blt I hg hm boot_range (PyProof.Rows.callWith_type1 (d0 (ha pos pins s σ H _ I h) fun us s1 ⟨vs,H1,I1,r1,q1⟩=>?_) hs rfl))
 obtain⟨j,e,q1,q2,q⟩:=q1
 subst e
 cases r1 with
 | cons r rr=>
  cases rr
  obtain⟨t,rfl⟩:=r
  exact call_range_1 (range_it I1 (by omega) (by omega) q1 q2 (by simpa using q))
noncomputable def tFor (wi:TI) (g:TG) (tb:TS):TS:=fun D σ H=>wi σ H fun J H1=>∃ W:Nat→Nat→St→Hp→Prop,(∃ m,W 0 m σ H1)∧∀ i m σ H,W i m σ H→
 (J.stop i H∧D.nx σ H)∨(J.go i H∧∃ N:St→Hp→Prop,(∀ σ' H',N σ' H'→∃ m',m' < m∧W (i+1) m' σ' H')∧∀ x H',J.yld i H x H'→g x σ H' fun σ2 H2=>tb { D with nx:=N,ct:=N,bk:=D.nx } σ2 H2)
noncomputable def pinsAt (fp:List Addr) (h:Heap):List (Addr×Obj):=fp.filterMap fun b=>(h.get? b).map fun o=>(b,o)
theorem mem_pinsAt {fp:List Addr}{h:Heap}{b:Addr}{o:Obj} (hb:b∈fp) (e:h.get? b=some o):(b,o)∈pinsAt fp h:=List.mem_filterMap.mpr ⟨b,hb,by rw[e];rfl⟩
theorem of_pinsAt {fp:List Addr}{h:Heap}{p:Addr×Obj} (hp:p∈pinsAt fp h):p.1∈fp∧h.get? p.1=some p.2:=by
 obtain⟨b,hb,e⟩:=List.mem_filterMap.mp hp
 cases q:h.get? b with
 | none=>rw[q] at e;cases e
 | some o=>
  rw[q] at e
  have e':(b,o)=p:=Option.some.inj e
  subst e'
  exact⟨hb,q⟩
theorem Inv.pinned {pins:List (Addr×Obj)}{σ:St}{H:Hp}{s:Shared}{fp:List Addr} (I:Inv X pins σ H s) (hf:∀ b∈fp,FpOk X pins H b) (ho:∀ b∈fp,∃ o,s.heap.get? b=some o∧∀ v,o.data≠.cell v):Inv X (pins++pinsAt fp s.heap) σ H s:=
 I.pins_of fun p hp=>(List.mem_append.mp hp).elim (fun z=>I.pin p (List.mem_append_right _ z)) fun z=>by
  obtain⟨hb,e⟩:=of_pinsAt z
  obtain⟨f0,f1,f2,_⟩:=hf p.1 hb
  obtain⟨o,e',d⟩:=ho p.1 hb
  rw[e] at e';cases e'
  exact⟨e,f0,f1,f2,d⟩
theorem Inv.unpinned {pins pl:List (Addr×Obj)}{σ:St}{H:Hp}{s:Shared} (I:Inv X (pins++pl) σ H s):Inv X pins σ H s:=I.pins_of fun p hp=>I.pin p (List.mem_append_right _ (List.mem_append_left _ hp))
theorem dL {iter:Expr}{body:List Stmt}{wi:TI}{g:TG}{tb:TS}{pos:Pos} (hp:PassesOwn (model X.prog X.w) X.A X.env X.xe) (hc:X.calm=true) (hi:PI X tg iter wi) (hg:PG X tg g) (hb:PSs X body tb)
  (hs:∀ x,foldedSetIterable iter X.env x=pure x:=by intro _;rfl):PS X (.For tg iter body [] pos) (tFor wi g tb):=by
 intro pins s σ H D I h
 refine wpAny_For (d0 (hi pins s σ H _ I h) fun v s1 h1=>d0 h1 fun itv s2 h2=>?_) hs
 obtain⟨it,fp,tn,J,H2,e,I2,T,st2,f2,W,⟨m0,w0⟩,turn⟩:=h2
 subst e
 have stat:∀ {H':Hp},(∀ b∈fp,H' b=none)→∀ b∈fp,FpOk X pins H' b:=fun hn b hb=>⟨hn b hb,(f2 b hb).2⟩
 refine codeAny_forLoop_any (fun n s'=>∃ i σ' H',Inv X pins σ' H' s'∧tn i s'.heap∧(∀ b∈fp,H' b=none)∧W i n σ' H') ?_ m0 ⟨0,σ,H2,I2,st2,fun b hb=>(f2 b hb).1,w0⟩
 rintro n s3 ⟨i,σ3,H3,I3,st3,fr3,w3⟩
 rcases turn i n σ3 H3 w3 with ⟨stop,qn⟩ | ⟨go,N,hN,step⟩
 ·refine wpAny_passesOwn hp (d0 (T.done X rfl rfl rfl hc i pins s3 σ3 H3 X.xe I3 (stat fr3) st3 stop) fun r s4 ⟨hr,I4⟩=>?_)
  subst hr
  exact wpAny_execs_nil ⟨σ3,H3,I4,qn⟩
 ·refine wpAny_passesOwn hp (d0 (T.item X rfl rfl rfl hc i pins s3 σ3 H3 X.xe I3 (stat fr3) st3 go) fun r s4 ⟨u,hr,h4⟩=>?_)
  subst hr
  refine wpAny_passesOwn hp (d0 h4 fun _ s5 ⟨x,H5,I5,r5,y5,st5,fr5⟩=>?_)
  have I5':=I5.pinned (stat fr5) (T.obj _ _ st5)
  refine wpAny_passesOwn hp (d0 (hg _ s5 σ3 H5 x u _ I5' r5 (step x H5 y5)) fun _ s6 ⟨σ6,H6,I6,q6⟩=>?_)
  refine wpAny_passesOwn hp (d0 (hb _ s6 σ6 H6 _ I6 q6) fun f s7 q7=>?_)
  have again:∀ {σ7:St}{H7:Hp},Inv X (pins++pinsAt fp s5.heap) σ7 H7 s7→N σ7 H7→∃ m,m < n∧∃ i σ' H',Inv X pins σ' H' s7∧tn i s7.heap∧(∀ b∈fp,H' b=none)∧W i m σ' H':=fun {σ7 H7} I7 n7=>by
   obtain⟨m',hm,w7⟩:=hN σ7 H7 n7
   refine⟨m',hm,i+1,σ7,H7,I7.unpinned,T.keep _ _ _ st5 fun b hb o e=>(I7.pin (b,o) (List.mem_append_right _ (List.mem_append_right _ (mem_pinsAt hb e)))).1,fun b hb=>?_,w7⟩
   obtain⟨o,e,d⟩:=T.obj _ _ st5 b hb
   exact (I7.pin (b,o) (List.mem_append_right _ (List.mem_append_right _ (mem_pinsAt hb e)))).2.1
  cases f with
  | next=>obtain⟨σ7,H7,I7,n7⟩:=q7;exact again I7 n7
  | cont=>obtain⟨σ7,H7,I7,n7⟩:=q7;exact again I7 n7
  | brk=>obtain⟨σ7,H7,I7,q7⟩:=q7;exact⟨σ7,H7,I7.unpinned,q7⟩
  | ret v=>obtain⟨x7,σ7,H7,I7,r7,q7⟩:=q7;exact⟨x7,σ7,H7,I7.unpinned,r7,q7⟩
end
theorem for_list {K:PySem.W.Frag}{a:Addr}{xs:List V}{g:TG}{tb:TS}{D:Ends}{σ:St}{H:Hp} (Pv:Nat→St→Hp→Prop) (h0:Pv 0 σ H) (hl:∀ i σ H,i≤xs.length→Pv i σ H→bT K H a xs)
  (hs:∀ i x σ H,xs[i]? = some x→Pv i σ H→g x σ H fun σ2 H2=>tb { D with nx:=Pv (i+1),ct:=Pv (i+1),bk:=D.nx } σ2 H2) (hd:∀ σ H,Pv xs.length σ H→D.nx σ H) :
  ∃ W:Nat→Nat→St→Hp→Prop,(∃ m,W 0 m σ H)∧∀ i m σ H,W i m σ H→
   ((Itl K a).stop i H∧D.nx σ H)∨((Itl K a).go i H∧∃ N:St→Hp→Prop,(∀ σ' H',N σ' H'→∃ m',m' < m∧W (i+1) m' σ' H')∧∀ x H',(Itl K a).yld i H x H'→g x σ H' fun σ2 H2=>tb { D with nx:=N,ct:=N,bk:=D.nx } σ2 H2):=by
 refine⟨fun i m σ H=>m=xs.length - i∧i≤xs.length∧Pv i σ H,⟨xs.length,by simp,Nat.zero_le _,h0⟩,?_⟩
 rintro i m σ H ⟨rfl,hi,p⟩
 have q:=hl i σ H hi p
 by_cases hlt:i < xs.length
 ·refine .inr ⟨⟨xs,xs[i],q,by simp [hlt]⟩,Pv (i+1),fun σ' H' p'=>⟨xs.length - (i+1),by omega,rfl,hlt,p'⟩,fun x H' y=>?_⟩
  obtain⟨e,y⟩:=y
  subst e
  exact hs i x σ _ (y xs q) p
 ·have e:i=xs.length:=by omega
  subst e
  exact .inl ⟨⟨xs,q,Nat.le_refl _⟩,hd σ H p⟩
theorem for_tup {K:PySem.W.Frag}{a:Addr}{xs:List V}{g:TG}{tb:TS}{D:Ends}{σ:St}{H:Hp} (Pv:Nat→St→Hp→Prop) (h0:Pv 0 σ H) (hl:∀ i σ H,i≤xs.length→Pv i σ H→bR K H a xs)
  (hs:∀ i x σ H,xs[i]? = some x→Pv i σ H→g x σ H fun σ2 H2=>tb { D with nx:=Pv (i+1),ct:=Pv (i+1),bk:=D.nx } σ2 H2) (hd:∀ σ H,Pv xs.length σ H→D.nx σ H) :
  ∃ W:Nat→Nat→St→Hp→Prop,(∃ m,W 0 m σ H)∧∀ i m σ H,W i m σ H→
   ((Itt K a).stop i H∧D.nx σ H)∨((Itt K a).go i H∧∃ N:St→Hp→Prop,(∀ σ' H',N σ' H'→∃ m',m' < m∧W (i+1) m' σ' H')∧∀ x H',(Itt K a).yld i H x H'→g x σ H' fun σ2 H2=>tb { D with nx:=N,ct:=N,bk:=D.nx } σ2 H2):=by
 refine⟨fun i m σ H=>m=xs.length - i∧i≤xs.length∧Pv i σ H,⟨xs.length,by simp,Nat.zero_le _,h0⟩,?_⟩
 rintro i m σ H ⟨rfl,hi,p⟩
 have q:=hl i σ H hi p
 by_cases hlt:i < xs.length
 ·refine .inr ⟨⟨xs,xs[i],q,by simp [hlt]⟩,Pv (i+1),fun σ' H' p'=>⟨xs.length - (i+1),by omega,rfl,hlt,p'⟩,fun x H' y=>?_⟩
  obtain⟨e,y⟩:=y
  subst e
  exact hs i x σ _ (y xs q) p
 ·have e:i=xs.length:=by omega
  subst e
  exact .inl ⟨⟨xs,q,Nat.le_refl _⟩,hd σ H p⟩
theorem eI {lo:Int}{n:Nat}{g:TG}{tb:TS}{D:Ends}{σ:St}{H:Hp} (Pv:Nat→St→Hp→Prop) (h0:Pv 0 σ H)
  (hs:∀ i σ H,i < n→Pv i σ H→g (.int (lo+i)) σ H fun σ2 H2=>tb { D with nx:=Pv (i+1),ct:=Pv (i+1),bk:=D.nx } σ2 H2) (hd:∀ σ H,Pv n σ H→D.nx σ H) :
  ∃ W:Nat→Nat→St→Hp→Prop,(∃ m,W 0 m σ H)∧∀ i m σ H,W i m σ H→
   ((Itr lo n).stop i H∧D.nx σ H)∨((Itr lo n).go i H∧∃ N:St→Hp→Prop,(∀ σ' H',N σ' H'→∃ m',m' < m∧W (i+1) m' σ' H')∧∀ x H',(Itr lo n).yld i H x H'→g x σ H' fun σ2 H2=>tb { D with nx:=N,ct:=N,bk:=D.nx } σ2 H2):=by
 refine⟨fun i m σ H=>m=n - i∧i≤n∧Pv i σ H,⟨n,by simp,Nat.zero_le _,h0⟩,?_⟩
 rintro i m σ H ⟨rfl,hi,p⟩
 by_cases hlt:i < n
 ·refine .inr ⟨hlt,Pv (i+1),fun σ' H' p'=>⟨n - (i+1),by omega,rfl,hlt,p'⟩,fun x H' y=>?_⟩
  obtain⟨e,y⟩:=y
  subst e y
  exact hs i σ _ hlt p
 ·have e:i=n:=by omega
  subst e
  exact .inl ⟨Nat.le_refl _,hd σ H p⟩
end L2
namespace L2
open PySem PySem.Spec PyProof.Rows
noncomputable abbrev R2:=V→V→Hp→VK→Prop
noncomputable def OpR (X:Cx) (f:Value→Value→Sem Value) (r:R2):Prop:=
 ∀ (pins:List (Addr×Obj)) (s:Shared) (σ:St) (H:Hp) (x y:V) (v u:Value) (Q:VK),Inv X pins σ H s→bS x v→bS y u→r x y H Q→
  wpAny (model X.prog X.w) X.A (f v u) (EP X pins σ Q) X.xe s
noncomputable def UnR (X:Cx) (f:Value→Sem Value) (r:V→Hp→VK→Prop):Prop:=
 ∀ (pins:List (Addr×Obj)) (s:Shared) (σ:St) (H:Hp) (x:V) (v:Value) (Q:VK),Inv X pins σ H s→bS x v→r x H Q→
  wpAny (model X.prog X.w) X.A (f v) (EP X pins σ Q) X.xe s
noncomputable def eJ (X:Cx) (f:Value) (r:List V→Hp→VK→Prop):Prop:=
 ∀ (pins:List (Addr×Obj)) (s:Shared) (σ:St) (H:Hp) (xs:List V) (us:List Value) (Q:VK),Inv X pins σ H s→bX xs us→r xs H Q→
  wpAny (model X.prog X.w) X.A (call f us) (EP X pins σ Q) X.xe s
noncomputable def TruR (X:Cx) (r:V→Hp→(Bool→Hp→Prop)→Prop):Prop:=
 ∀ (pins:List (Addr×Obj)) (s:Shared) (σ:St) (H:Hp) (x:V) (v:Value) (Q:Bool→Hp→Prop),Inv X pins σ H s→bS x v→r x H Q→
  wpAny (model X.prog X.w) X.A (truthy v) (TP X pins σ Q) X.xe s
noncomputable def tOp (r:R2) (ta tb:TE):TE:=fun σ H Q=>ta σ H fun x H1=>tb σ H1 fun y H2=>r x y H2 Q
noncomputable def tUn (r:V→Hp→VK→Prop) (ta:TE):TE:=fun σ H Q=>ta σ H fun x H1=>r x H1 Q
noncomputable def rI (C:Int→Int→Prop) (g:Int→Int→V):R2:=fun x y H Q=>∃ i j,x=.int i∧y=.int j∧C i j∧Q (g i j) H
noncomputable def rI0 (g:Int→Int→V):R2:=fun x y H Q=>∃ i j,x=.int i∧y=.int j∧Q (g i j) H
noncomputable def rU (g:Int→V):V→Hp→VK→Prop:=fun x H Q=>∃ i,x=.int i∧Q (g i) H
section
variable {X:Cx}{a b c:Expr}{ta tb tc:TE}{pos:Pos}
theorem binT (ha:PE X a ta) (hb:PE X b tb) {pins:List (Addr×Obj)}{s:Shared}{σ:St}{H:Hp}{R:V→V→Hp→Prop} (I:Inv X pins σ H s)
  (h:ta σ H fun x H1=>tb σ H1 fun y H2=>R x y H2) {Q:Value→Shared→Prop}{f:Value→Value→Sem Value}
  (hf:∀ v u s2 x y H2,Inv X pins σ H2 s2→bS x v→bS y u→R x y H2→wpAny (model X.prog X.w) X.A (f v u) Q X.xe s2) :
  wpAny (model X.prog X.w) X.A (eval a X.env) (fun v s₁=>wpAny (model X.prog X.w) X.A (eval b X.env) (fun u s₂=>wpAny (model X.prog X.w) X.A (f v u) Q X.xe s₂) X.xe s₁) X.xe s:=by
 refine d0 (ha pins s σ H _ I h) fun v s1 ⟨x,H1,I1,r1,q1⟩=>?_
 refine d0 (hb pins s1 σ H1 _ I1 q1) fun u s2 ⟨y,H2,I2,r2,q2⟩=>?_
 exact hf v u s2 x y H2 I2 r1 r2 q2
theorem aO {op:Operator}{r:R2} (ho:OpR X (binaryOp op) r) (ha:PE X a ta) (hb:PE X b tb):PE X (.BinOp a op b pos) (tOp r ta tb):=by
 intro pins s σ H Q I h
 exact wpAny_BinOp (binT ha hb I h fun v u s2 x y H2 I2 rx ry q=>ho pins s2 σ H2 x y v u Q I2 rx ry q)
theorem pe_un {op:UnaryOp}{r:V→Hp→VK→Prop} (ho:UnR X (unaryOp op) r) (ha:PE X a ta):PE X (.UnaryOp op a pos) (tUn r ta):=by
 intro pins s σ H Q I h
 exact UnaryOp_ (d0 (ha pins s σ H _ I h) fun v s1 ⟨x,H1,I1,r1,q1⟩=>ho pins s1 σ H1 x v Q I1 r1 q1)
theorem opI {f:Value→Value→Sem Value}{C:Int→Int→Prop}{g:Int→Int→Int}
  (rule:∀ (i j:Int) (t u:Tok) (s:Shared) (Q:Value→Shared→Prop) (E:Value→Shared→Prop),C i j→Q (.int (g i j) s.toks) { s with toks:=s.toks+1 }→wpAny (model X.prog X.w) X.A (f (.int i t) (.int j u)) Q E s) :
  OpR X f (rI C fun i j=>.int (g i j)):=by
 intro pins s σ H x y v u Q I rx ry h
 obtain⟨i,j,rfl,rfl,hc,q⟩:=h
 obtain⟨t,rfl⟩:=rx
 obtain⟨t',rfl⟩:=ry
 exact rule i j t t' s _ _ hc ⟨.int (g i j),H,I.tok _,⟨_,rfl⟩,q⟩
theorem opI0 {f:Value→Value→Sem Value}{g:Int→Int→Int}
  (rule:∀ (i j:Int) (t u:Tok) (s:Shared) (Q:Value→Shared→Prop) (E:Value→Shared→Prop),Q (.int (g i j) s.toks) { s with toks:=s.toks+1 }→wpAny (model X.prog X.w) X.A (f (.int i t) (.int j u)) Q E s) :
  OpR X f (rI0 fun i j=>.int (g i j)):=by
 intro pins s σ H x y v u Q I rx ry h
 obtain⟨i,j,rfl,rfl,q⟩:=h
 obtain⟨t,rfl⟩:=rx
 obtain⟨t',rfl⟩:=ry
 exact rule i j t t' s _ _ ⟨.int (g i j),H,I.tok _,⟨_,rfl⟩,q⟩
theorem opB0 {f:Value→Value→Sem Value}{g:Int→Int→Bool}
  (rule:∀ (i j:Int) (t u:Tok) (s:Shared) (Q:Value→Shared→Prop) (E:Value→Shared→Prop),Q (.bool (g i j)) s→wpAny (model X.prog X.w) X.A (f (.int i t) (.int j u)) Q E s) :
  OpR X f (rI0 fun i j=>.bl (g i j)):=by
 intro pins s σ H x y v u Q I rx ry h
 obtain⟨i,j,rfl,rfl,q⟩:=h
 obtain⟨t,rfl⟩:=rx
 obtain⟨t',rfl⟩:=ry
 exact rule i j t t' s _ _ ⟨.bl (g i j),H,I,rfl,q⟩
noncomputable def CDiv (i j:Int):Prop:=0 < j∧j < 1073741824
noncomputable def CPow (i j:Int):Prop:=0≤j∧j≤1000000∧i.natAbs < 2 ^ 64
noncomputable def CMul (i j:Int):Prop:=(-(2 ^ 64) < i∧i < 2 ^ 64)∨(-(2 ^ 64) < j∧j < 2 ^ 64)
theorem CMul.ok {i j:Int} (h:CMul i j):IntMulOk i j:=by
 rcases h with ⟨h1,h2⟩ | ⟨h1,h2⟩
 ·exact .of_left (intBits_le_64 h1 h2)
 ·exact .of_right (intBits_le_64 h1 h2)
theorem bH:OpR X (binaryOp .Add) (rI0 fun i j=>.int (i+j)):=opI0 fun _ _ _ _ _ _ _ q=>add_int q
theorem d7:OpR X (binaryOp .Sub) (rI0 fun i j=>.int (i - j)):=opI0 fun _ _ _ _ _ _ _ q=>sub_int q
theorem eD:OpR X (binaryOp .Mult) (rI CMul fun i j=>.int (i * j)):=opI fun _ _ _ _ _ _ _ hc q=>mul_int q hc.ok
theorem fH:OpR X (binaryOp .FloorDiv) (rI CDiv fun i j=>.int (i / j)):=opI fun i j _ _ _ _ _ hc q=>by
 have h1:(0:Int) < j:=hc.1
 have h2:j < 1073741824:=hc.2
 exact floordiv_int (by omega) (by rw[Int.fdiv_eq_ediv_of_nonneg i (by omega)];exact q) (.inl (PyProof.noPylong_small (by omega)))
theorem op_mod:OpR X (binaryOp .Mod) (rI (fun _ j=>0 < j) fun i j=>.int (i % j)):=opI fun i j _ _ _ _ _ hc q=>by
 have h1:(0:Int) < j:=hc
 exact mod_int' (by omega) (by rw[Int.fmod_eq_emod_of_nonneg i (by omega)];exact q)
theorem op_pow:OpR X (binaryOp .Pow) (rI CPow fun i j=>.int (i ^ j.toNat)):=opI fun _ _ _ _ _ _ _ hc q=>pow_int_small hc.1 hc.2.1 hc.2.2 q
theorem unI {f:Value→Sem Value}{g:Int→Int}
  (rule:∀ (i:Int) (t:Tok) (s:Shared) (Q:Value→Shared→Prop) (E:Value→Shared→Prop),Q (.int (g i) s.toks) { s with toks:=s.toks+1 }→wpAny (model X.prog X.w) X.A (f (.int i t)) Q E s) :
  UnR X f (rU fun i=>.int (g i)):=by
 intro pins s σ H x v Q I rx h
 obtain⟨i,rfl,q⟩:=h
 obtain⟨t,rfl⟩:=rx
 exact rule i t s _ _ ⟨.int (g i),H,I.tok _,⟨_,rfl⟩,q⟩
theorem un_neg:UnR X (unaryOp .USub) (rU fun i=>.int (-i)):=unI fun _ _ _ _ _ q=>neg_int q
end
noncomputable def scal:V→V→Bool
 | .non,.non=>true | .non,.int _=>true | .int _,.non=>true | .non,.bl _=>true | .bl _,.non=>true | .non,.str _=>true | .str _,.non=>true
 | .int _,.int _=>true | .bl _,.bl _=>true | .str _,.str _=>true | .byt _,.byt _=>true
 | .int _,.str _=>true | .str _,.int _=>true | .bl _,.str _=>true | .str _,.bl _=>true
 | _,_=>false
noncomputable def rEq:R2:=fun x y H Q=>scal x y=true∧Q (.bl (decide (x=y))) H
noncomputable def rNe:R2:=fun x y H Q=>scal x y=true∧Q (.bl (!decide (x=y))) H
theorem dec_int {i j:Int}:decide (V.int i=V.int j)=(i == j):=by
 rw[Bool.eq_iff_iff]
 simp
theorem dec_bl {i j:Bool}:decide (V.bl i=V.bl j)=(i == j):=by
 rw[Bool.eq_iff_iff]
 simp
theorem dec_str {i j:Str}:decide (V.str i=V.str j)=(i == j):=by
 rw[Bool.eq_iff_iff]
 simp
theorem dec_byt {i j:Array UInt8}:decide (V.byt i=V.byt j)=(i.toList == j.toList):=by
 rw[Bool.eq_iff_iff]
 cases i
 cases j
 simp
section
variable {X:Cx}{a b c:Expr}{ta tb tc:TE}{pos:Pos}
theorem cH {pins:List (Addr×Obj)}{σ:St}{H:Hp}{s:Shared}{Q:VK}{k k':Bool} (I:Inv X pins σ H s) (q:Q (.bl k) H) (e:k=k'):EP X pins σ Q (.bool k') s:=by
 subst e
 exact⟨.bl k,H,I,rfl,q⟩
theorem op_eq:OpR X (compareOp .Eq) rEq:=by
 intro pins s σ H x y v u Q I rx ry h
 obtain⟨hs,q⟩:=h
 cases x with
 | non=>
  cases rx
  cases y with
  | non=>cases ry;exact PySem.EqNone.eq_none_none (cH I q (by simp))
  | bl j=>cases ry;exact PySem.EqNone.eq_none_bool (cH I q (by simp))
  | int j=>obtain⟨t',rfl⟩:=ry;exact PySem.EqNone.eq_none_int (cH I q (by simp))
  | str j=>obtain⟨t',rfl⟩:=ry;exact PySem.EqNone.eq_none_str (cH I q (by simp))
  | _=>exact absurd (show false=true from hs) Bool.false_ne_true
 | bl i=>
  cases rx
  cases y with
  | non=>cases ry;exact PySem.EqNone.eq_bool_none (cH I q (by simp))
  | bl j=>cases ry;exact eq_bool (cH I q dec_bl)
  | str j=>obtain⟨t',rfl⟩:=ry;exact PySem.EqMixed.eq_bool_str (cH I q (by simp))
  | _=>exact absurd (show false=true from hs) Bool.false_ne_true
 | int i=>
  obtain⟨t,rfl⟩:=rx
  cases y with
  | non=>cases ry;exact PySem.EqNone.eq_int_none (cH I q (by simp))
  | int j=>obtain⟨t',rfl⟩:=ry;exact eq_int (cH I q dec_int)
  | str j=>obtain⟨t',rfl⟩:=ry;exact PySem.EqMixed.eq_int_str (cH I q (by simp))
  | _=>exact absurd (show false=true from hs) Bool.false_ne_true
 | str i=>
  obtain⟨t,rfl⟩:=rx
  cases y with
  | non=>cases ry;exact PySem.EqNone.eq_str_none (cH I q (by simp))
  | bl j=>cases ry;exact PySem.EqMixed.eq_str_bool (cH I q (by simp))
  | int j=>obtain⟨t',rfl⟩:=ry;exact PySem.EqMixed.eq_str_int (cH I q (by simp))
  | str j=>obtain⟨t',rfl⟩:=ry;exact eq_str (cH I q dec_str)
  | _=>exact absurd (show false=true from hs) Bool.false_ne_true
 | byt i=>
  obtain⟨t,rfl⟩:=rx
  cases y with
  | byt j=>obtain⟨t',rfl⟩:=ry;exact PySem.W.eq_bytes (cH I q dec_byt)
  | _=>exact absurd (show false=true from hs) Bool.false_ne_true
 | _=>cases y <;> exact absurd (show false=true from hs) Bool.false_ne_true
theorem op_ne:OpR X (compareOp .NotEq) rNe:=by
 intro pins s σ H x y v u Q I rx ry h
 obtain⟨hs,q⟩:=h
 cases x with
 | non=>
  cases rx
  cases y with
  | non=>cases ry;exact PySem.EqNone.ne_none_none (cH I q (by simp))
  | bl j=>cases ry;exact PySem.EqNone.ne_none_bool (cH I q (by simp))
  | int j=>obtain⟨t',rfl⟩:=ry;exact PySem.EqNone.ne_none_int (cH I q (by simp))
  | str j=>obtain⟨t',rfl⟩:=ry;exact PySem.EqNone.ne_none_str (cH I q (by simp))
  | _=>exact absurd (show false=true from hs) Bool.false_ne_true
 | bl i=>
  cases rx
  cases y with
  | non=>cases ry;exact PySem.EqNone.ne_bool_none (cH I q (by simp))
  | bl j=>cases ry;exact ne_bool (cH I q (congrArg not dec_bl))
  | str j=>obtain⟨t',rfl⟩:=ry;exact PySem.EqMixed.ne_bool_str (cH I q (by simp))
  | _=>exact absurd (show false=true from hs) Bool.false_ne_true
 | int i=>
  obtain⟨t,rfl⟩:=rx
  cases y with
  | non=>cases ry;exact PySem.EqNone.ne_int_none (cH I q (by simp))
  | int j=>obtain⟨t',rfl⟩:=ry;exact ne_int (cH I q (congrArg not dec_int))
  | str j=>obtain⟨t',rfl⟩:=ry;exact PySem.EqMixed.ne_int_str (cH I q (by simp))
  | _=>exact absurd (show false=true from hs) Bool.false_ne_true
 | str i=>
  obtain⟨t,rfl⟩:=rx
  cases y with
  | non=>cases ry;exact PySem.EqNone.ne_str_none (cH I q (by simp))
  | bl j=>cases ry;exact PySem.EqMixed.ne_str_bool (cH I q (by simp))
  | int j=>obtain⟨t',rfl⟩:=ry;exact PySem.EqMixed.ne_str_int (cH I q (by simp))
  | str j=>obtain⟨t',rfl⟩:=ry;exact ne_str (cH I q (congrArg not dec_str))
  | _=>exact absurd (show false=true from hs) Bool.false_ne_true
 | byt i=>
  obtain⟨t,rfl⟩:=rx
  cases y with
  | byt j=>obtain⟨t',rfl⟩:=ry;exact PySem.W.ne_bytes (cH I q (congrArg not dec_byt))
  | _=>exact absurd (show false=true from hs) Bool.false_ne_true
 | _=>cases y <;> exact absurd (show false=true from hs) Bool.false_ne_true
theorem op_lt:OpR X (compareOp .Lt) (rI0 fun i j=>.bl (decide (i < j))):=opB0 fun _ _ _ _ _ _ _ q=>lt_int q
theorem op_le:OpR X (compareOp .LtE) (rI0 fun i j=>.bl (decide (i≤j))):=opB0 fun _ _ _ _ _ _ _ q=>le_int q
theorem op_gt:OpR X (compareOp .Gt) (rI0 fun i j=>.bl (decide (j < i))):=opB0 fun _ _ _ _ _ _ _ q=>gt_int q
theorem op_ge:OpR X (compareOp .GtE) (rI0 fun i j=>.bl (decide (j≤i))):=opB0 fun _ _ _ _ _ _ _ q=>ge_int q
theorem op_isN:OpR X (compareOp .Is) (fun x y H Q=>y=.non∧Q (.bl (decide (x=.non))) H):=by
 intro pins s σ H x y v u Q I rx ry h
 obtain⟨rfl,q⟩:=h
 cases ry
 refine is_none_gen (cH I q ?_)
 cases x <;> first
  | (cases rx;rfl)
  | (obtain⟨t,rfl⟩:=rx;rfl)
theorem bU (b:Expr) {op:CmpOp} (h:op≠.In:=by decide) (h2:op≠.NotIn:=by decide):behindInMarks op b=false:=by
 have e1:(op == CmpOp.In)=false:=by cases op <;> first | rfl | exact absurd rfl h
 have e2:(op == CmpOp.NotIn)=false:=by cases op <;> first | rfl | exact absurd rfl h2
 cases b <;> simp [behindInMarks,e1,e2]
theorem pe_cmpR {op:CmpOp}{r:R2} (ho:OpR X (compareOp op) r) (ha:PE X a ta) (hb:PE X b tb) (hm:behindInMarks op b=false):PE X (.Compare a [op] [b] pos) (tOp r ta tb):=by
 intro pins s σ H Q I h
 exact wpAny_Compare1 (binT ha hb I h fun v u s2 x y H2 I2 rx ry q=>ho pins s2 σ H2 x y v u Q I2 rx ry q) hm
noncomputable def tTest (t:TE):TT:=fun σ H Q=>t σ H fun x H'=>∃ k,x=.bl k∧Q k H'
theorem bJ {op:CmpOp}{r:R2} (ho:OpR X (compareOp op) r) (ha:PE X a ta) (hb:PE X b tb) (hm:behindInMarks op b=false):PT X (.Compare a [op] [b] pos) (tTest (tOp r ta tb)):=by
 intro pins s σ H Q I h
 refine wpAny_isTrue_Compare1 (d0 (ha pins s σ H _ I h) fun v s1 ⟨x,H1,I1,r1,q1⟩=>d0 (hb pins s1 σ H1 _ I1 q1) fun u s2 ⟨y,H2,I2,r2,q2⟩=>
  d0 (ho pins s2 σ H2 x y v u _ I2 r1 r2 q2) fun c s3 ⟨z,H3,I3,r3,k,e,q3⟩=>?_) hm
 subst e
 cases r3
 exact wpAny_truthy_bool ⟨H3,I3,q3⟩
noncomputable def tChain (r r':R2) (ta tb tc:TE):TE:=fun σ H Q=>ta σ H fun x H1=>tb σ H1 fun y H2=>r x y H2 fun z H3=>∃ k,z=.bl k∧
 (if k=true then tc σ H3 fun w' H4=>r' y w' H4 Q else Q (.bl false) H3)
theorem pe_chain {op op':CmpOp}{r r':R2} (ho:OpR X (compareOp op) r) (ho':OpR X (compareOp op') r') (ha:PE X a ta) (hb:PE X b tb) (hc:PE X c tc)
  (hm:lastMarks [op,op'] [b,c]=false:=by with_unfolding_all rfl):PE X (.Compare a [op,op'] [b,c] pos) (tChain r r' ta tb tc):=by
 intro pins s σ H Q I h
 refine Compare_chain (d0 (ha pins s σ H _ I h) fun v s1 ⟨x,H1,I1,r1,q1⟩=>chain_link (d0 (hb pins s1 σ H1 _ I1 q1) fun u s2 ⟨y,H2,I2,r2,q2⟩=>
  d0 (ho pins s2 σ H2 x y v u _ I2 r1 r2 q2) fun d s3 ⟨z,H3,I3,r3,k,e,q3⟩=>?_)) hm
 subst e
 cases r3
 refine wpAny_truthy_bool ?_
 cases k with
 | false=>exact ite_ff ⟨.bl false,H3,I3,rfl,q3⟩
 | true=>exact ite_tt (chain_last (d0 (hc pins s3 σ H3 _ I3 q3) fun w' s4 ⟨z',H4,I4,r4,q4⟩=>ho' pins s4 σ H4 y z' u w' Q I4 r2 r4 q4))
theorem pt_chain {op op':CmpOp}{r r':R2} (ho:OpR X (compareOp op) r) (ho':OpR X (compareOp op') r') (ha:PE X a ta) (hb:PE X b tb) (hc:PE X c tc)
  (hm:lastMarks [op,op'] [b,c]=false:=by with_unfolding_all rfl):PT X (.Compare a [op,op'] [b,c] pos) (tTest (tChain r r' ta tb tc)):=by
 intro pins s σ H Q I h
 refine isTrue_chain (d0 (ha pins s σ H _ I h) fun v s1 ⟨x,H1,I1,r1,q1⟩=>test_link (d0 (hb pins s1 σ H1 _ I1 q1) fun u s2 ⟨y,H2,I2,r2,q2⟩=>
  d0 (ho pins s2 σ H2 x y v u _ I2 r1 r2 q2) fun d s3 ⟨z,H3,I3,r3,k,e,q3⟩=>?_)) hm
 subst e
 cases r3
 refine wpAny_truthy_bool ?_
 cases k with
 | false=>
  obtain⟨k',e',q'⟩:=q3
  cases e'
  exact ite_ff ⟨H3,I3,q'⟩
 | true=>
  refine ite_tt (test_last (d0 (hc pins s3 σ H3 _ I3 q3) fun w' s4 ⟨z',H4,I4,r4,q4⟩=>d0 (ho' pins s4 σ H4 y z' u w' _ I4 r2 r4 q4) fun d' s5 ⟨z2,H5,I5,r5,k2,e2,q5⟩=>?_))
  subst e2
  cases r5
  exact wpAny_truthy_bool ⟨H5,I5,q5⟩
noncomputable def TruV (K:PySem.W.Frag) (x:V) (H:Hp) (k:Bool):Prop:=
 match x with
 | .non=>k=false
 | .bl b=>k=b
 | .int i=>k=(i != 0)
 | .str y=>y.length≤sizeLine∧k=((y.length:Int) != 0)
 | .byt y=>y.size≤sizeLine∧k=((y.size:Int) != 0)
 | .ref p=>(∃ xs,bT K H p xs∧k = !xs.isEmpty)∨(∃ xs,bR K H p xs∧k = !xs.isEmpty)∨∃ kvs,H p=some (.dK kvs)∧k = !kvs.isEmpty
 | _=>False
theorem isEmpty_kv {κ:Type}{kvs:List (κ×V)}{vs:List (κ×Value)} (r:KV kvs vs):(!vs.isEmpty) = !kvs.isEmpty:=by
 cases r <;> rfl
theorem isEmpty_of {xs:List V}{its:List Value} (r:bX xs its):(!its.toArray.isEmpty) = !xs.isEmpty:=by
 cases r <;> simp
theorem line63:(sizeLine:Nat) < 2 ^ 63:=by rw[sizeLine_eq];decide
theorem tru_ok:TruR X (fun x H Q=>∃ k,TruV X.K x H k∧Q k H):=by
 intro pins s σ H x v Q I rx h
 obtain⟨k,e,q⟩:=h
 have hl:=line63
 have hs:sizeLine=16777216:=sizeLine_eq
 cases x with
 | non=>
  cases rx
  have e':k=false:=e
  subst e'
  exact truthy_none ⟨H,I,q⟩
 | bl b=>
  cases rx
  have e':k=b:=e
  subst e'
  exact wpAny_truthy_bool ⟨H,I,q⟩
 | int i=>
  obtain⟨t,rfl⟩:=rx
  have e':k=(i != 0):=e
  subst e'
  exact PySem.P.truthy_int ⟨H,I,q⟩
 | str y=>
  obtain⟨t,rfl⟩:=rx
  obtain⟨hy,e'⟩:y.length≤sizeLine∧k=((y.length:Int) != 0):=e
  subst e'
  exact PySem.P.truthy_str (by omega) ⟨H,I.tok _,q⟩
 | byt y=>
  obtain⟨t,rfl⟩:=rx
  obtain⟨hy,e'⟩:y.size≤sizeLine∧k=((y.size:Int) != 0):=e
  subst e'
  exact PySem.W.truthy_bytes (by omega) ⟨H,I.tok _,q⟩
 | ref p=>
  cases rx
  have e':(∃ xs,bT X.K H p xs∧k = !xs.isEmpty)∨(∃ xs,bR X.K H p xs∧k = !xs.isEmpty)∨∃ kvs,H p=some (.dK kvs)∧k = !kvs.isEmpty:=e
  rcases e' with ⟨xs,hx,e'⟩ | ⟨xs,hx,e'⟩ | ⟨kvs,hx,e'⟩
  ·subst e'
   obtain⟨its,r,pl,hz⟩:=I.list hx
   have hlen:=r.length
   exact wpAny_truthy_list pl.isList (by simp only [List.size_toArray];omega) ⟨H,I.tok _,by rw[isEmpty_of r];exact q⟩
  ·subst e'
   obtain⟨its,r,pl,hz⟩:=I.tuple hx
   have hlen:=r.length
   exact truthy_tuple pl (by simp only [List.size_toArray];omega) ⟨H,I.tok _,by rw[isEmpty_of r];exact q⟩
  ·subst e'
   obtain⟨hz,hS,vs,r,m⟩:kvs.length≤sizeLine∧(p == sysModules)=false∧∃ vs,KV kvs vs∧s.heap.DictOf (dH X.prog X.w) p vs:=I.hok p _ hx
   have hlen:kvs.length=vs.length:=Paired.length r
   exact wpAny_truthy_dict hS m (by omega) ⟨H,I.tok _,by rw[isEmpty_kv r];exact q⟩
 | _=>exact (show False from e).elim
theorem pt_truth (ha:PE X a ta) (he:∀ whole,isTrue a X.env whole=(do let v ← whole;standAt a.pos;holding [v] (truthy v))) :
  PT X a (fun σ H Q=>ta σ H fun x H'=>∃ k,TruV X.K x H' k∧Q k H'):=by
 intro pins s σ H Q I h
 exact isTrue_plain (d0 (ha pins s σ H _ I h) fun v s1 ⟨x,H1,I1,r1,q1⟩=>tru_ok pins s1 σ H1 x v Q I1 r1 q1) (he _)
theorem vals1 {x:V}{us:List Value} (r:bX [x] us):∃ u,us=[u]∧bS x u:=by
 cases r with
 | cons r1 r2=>cases r2;exact⟨_,rfl,r1⟩
theorem vals2 {x y:V}{us:List Value} (r:bX [x,y] us):∃ u w',us=[u,w']∧bS x u∧bS y w':=by
 cases r with
 | cons r1 r2=>
  cases r2 with
  | cons r3 r4=>cases r4;exact⟨_,_,rfl,r1,r3⟩
theorem call_max2 (hc:X.calm=true):eJ X (.builtin "max") (fun xs H Q=>∃ i j,xs=[.int i,.int j]∧Q (.int (if j > i then j else i)) H):=by
 intro pins s σ H xs us Q I r h
 obtain⟨i,j,rfl,q⟩:=h
 obtain⟨u,w',rfl,⟨t,rfl⟩,⟨t',rfl⟩⟩:=vals2 r
 refine max_two_ints (I.ok.hd hc) fun h' tk k=>⟨_,H,I.kept k,?_,q⟩
 by_cases hj:j > i
 ·rw[if_pos hj,if_pos hj];exact⟨_,rfl⟩
 ·rw[if_neg hj,if_neg hj];exact⟨_,rfl⟩
theorem call_min2 (hc:X.calm=true):eJ X (.builtin "min") (fun xs H Q=>∃ i j,xs=[.int i,.int j]∧Q (.int (if j < i then j else i)) H):=by
 intro pins s σ H xs us Q I r h
 obtain⟨i,j,rfl,q⟩:=h
 obtain⟨u,w',rfl,⟨t,rfl⟩,⟨t',rfl⟩⟩:=vals2 r
 refine min_two_ints (I.ok.hd hc) fun h' tk k=>⟨_,H,I.kept k,?_,q⟩
 by_cases hj:j < i
 ·rw[if_pos hj,if_pos hj];exact⟨_,rfl⟩
 ·rw[if_neg hj,if_neg hj];exact⟨_,rfl⟩
theorem call_int1:eJ X (.type "int") (fun xs H Q=>(∃ i,xs=[.int i]∧Q (.int i) H)∨∃ k,xs=[.bl k]∧Q (.int (if k then 1 else 0)) H):=by
 intro pins s σ H xs us Q I r h
 rcases h with ⟨i,rfl,q⟩ | ⟨k,rfl,q⟩
 ·obtain⟨u,rfl,t,rfl⟩:=vals1 r
  exact call_int_int ⟨.int i,H,I,⟨_,rfl⟩,q⟩
 ·obtain⟨u,rfl,r1⟩:=vals1 r
  cases r1
  exact call_int_bool ⟨.int (if k then 1 else 0),H,I.tok _,⟨_,rfl⟩,q⟩
theorem call_divmod:eJ X (.builtin "divmod") (fun xs H Q=>∃ i j,xs=[.int i,.int j]∧CDiv i j∧∀ p,H p=none→Q (.ref p) (upd H p (.tup [.int (i / j),.int (i % j)]))):=by
 intro pins s σ H xs us Q I r h
 obtain⟨i,j,rfl,⟨h1,h2⟩,q⟩:=h
 obtain⟨u,w',rfl,⟨t,rfl⟩,⟨t',rfl⟩⟩:=vals2 r
 refine divmod_int (by omega) ?_ (.inl (PyProof.noPylong_small (by omega)))
 rw[Int.fdiv_eq_ediv_of_nonneg i (by omega),Int.fmod_eq_emod_of_nonneg i (by omega)]
 have hn:H s.heap.objs.size=none:=I.hok.fresh (Nat.le_refl _)
 refine⟨.ref s.heap.objs.size,_,?_,rfl,q _ hn⟩
 refine I.laid (fun b o e=>Heap.get?_push_of_some _ e) (Nat.le_refl _) ⟨by simp only [List.length_cons,List.length_nil];rw[sizeLine_eq];decide,[.int (i / j) s.toks,.int (i % j) (s.toks+1)],.cons ⟨_,rfl⟩ (.cons ⟨_,rfl⟩ .nil),?_⟩
 exact⟨_,Heap.get?_push_size s.heap rfl,rfl,0,rfl⟩
end
end L2
namespace L2
open PySem PySem.Spec PyProof.Rows
structure ObjM (h:Heap) (x dx C:Addr) (mA:Str→Option Value):Prop where
 obj:h.get? x=some (PySem.W.instObj C dx)
 ns:h.Ns1 dx mA
 ne:dx≠x
theorem lookIn_ns {h:Heap}{dx:Addr}{mA:Str→Option Value} (n:h.Ns1 dx mA):∃ od,h.get? dx=some od∧∀ name,PySem.W.lookIn name od=some (mA name):=by
 obtain⟨o,es,ep,ho,hd,hk,_,hm⟩:=n
 refine⟨o,ho,fun name=>?_⟩
 have e:=hm name
 unfold nsFind findBy at e
 rw[← Array.find?_toList] at e
 unfold PySem.W.lookIn
 rw[hd]
 dsimp only
 split
 ·rename_i y q
  rw[q] at e
  exact congrArg some e
 ·rename_i q
  rw[q] at e
  have a:es.toList.any (·.refKey)=false:=by
   rw[List.any_eq_false]
   intro y hy
   obtain⟨z,t,hkey⟩:=hk y (Array.mem_toList_iff.mp hy)
   simp [DictEntry.refKey,hkey]
  have a':¬ es.toList.any (·.refKey)=true:=by rw[a];exact Bool.false_ne_true
  rw[if_neg a']
  exact congrArg some e
theorem ObjM.look {h:Heap}{x dx C:Addr}{mA:Str→Option Value} (I:ObjM h x dx C mA):∃ od,PySem.W.InstAt h x (PySem.W.instObj C dx) C (some od)∧∀ name,PySem.W.lookIn name od=some (mA name):=
 let ⟨od,ho,hl⟩:=lookIn_ns I.ns
 ⟨od,⟨I.obj,rfl,rfl,ho⟩,hl⟩
section
variable {prog:Program}{w:World}{A:Around}{E:Value→Shared→Prop}{s:Shared}{K:PySem.W.Frag}{x dx C f:Addr}{mA:Str→Option Value}{name:Str}{v:Value}
end
theorem RelO.some_of {v:V}{o:Option Value} (r:RelO (some v) o):∃ u,o=some u∧bS v u:=by
 cases o with
 | none=>exact (show False from r).elim
 | some u=>exact⟨u,rfl,r⟩
section
variable {P:Program}{w:World}{H H':Hp}{h h':Heap}{a C dx:Addr}{fs fs':List (Str×V)}
theorem ins_get (hok:HOk P w H h) (e:H a=some (.ins C dx fs)):∃ mA,ObjM h a dx C mA∧(∀ f,RelO (fs.lookup f) (mA f))∧PySem.Within mA (fs.map (·.1))∧fs.length≤1000∧H dx=some (.own a):=by
 obtain⟨d,z,ne,ob,mA,n,r,q⟩:=(show cZ P w H h a (.ins C dx fs) from hok a _ e)
 exact⟨mA,⟨ob,n,ne⟩,r,q,z,d⟩
end
structure Cls (K:PySem.W.Frag) (C:Addr):Prop where
 pg:PySem.W.plainGet K C Str.empty=true
 hd:PySem.W.hasDictIn K C=true
 po:PySem.W.plainOver K C=true
 sa:PySem.W.findIn K (.ref C) "__setattr__" = some (some (.builtin "object.__setattr__"))
theorem Cls.get {K:PySem.W.Frag}{C:Addr} (c:Cls K C) (f:Str):PySem.W.plainGet K C f=true:=c.pg
section
variable {X:Cx}{pins:List (Addr×Obj)}{σ:St}{H:Hp}{s:Shared}{a C dx:Addr}{fs:List (Str×V)}{f:Str}{v:V}{A:Around}{E:Value→Shared→Prop}
end
section
variable {X:Cx}{o e value:Expr}{f:Str}{pos pos' tpos:Pos}{ta tv:TE}
end
section
variable {X:Cx}{pins:List (Addr×Obj)}{σ:St}{H:Hp}{s:Shared}{A:Around}{E:Value→Shared→Prop}{Q:Value→Shared→Prop}{c:Value}{b:Bool}
inductive TyOf (K:PySem.W.Frag) (H:Hp):V→Value→Prop where
 | non:TyOf K H .non (.type "NoneType")
 | bl (x:Bool):TyOf K H (.bl x) (.type "bool")
 | int (i:Int):TyOf K H (.int i) (.type "int")
 | str (x:Str):TyOf K H (.str x) (.type "str")
 | flt (x:UInt64):TyOf K H (.flt x) (.type "float")
 | lst {a:Addr}{xs:List V} (e:H a=some (.lst xs)):TyOf K H (.ref a) (.type "list")
 | frz {a:Addr}{o:Obj}{xs:List V} (e:H a=some (.frz o (.lst xs))):TyOf K H (.ref a) (.type "list")
 | tup {a:Addr}{xs:List V} (e:H a=some (.tup xs)):TyOf K H (.ref a) (.type "tuple")
 | dK {a:Addr}{kvs:List (Key×V)} (e:H a=some (.dK kvs)):TyOf K H (.ref a) (.type "dict")
 | dT {a:Addr}{kvs:List (List Key×V)} (e:H a=some (.dT kvs)):TyOf K H (.ref a) (.type "dict")
 | ins {a C dx:Addr}{fs:List (Str×V)} (e:H a=some (.ins C dx fs)) (cl:Cls K C) (ha:PySem.W.findIn K (.ref C) "__class__" = some (some (.builtin "object.__class__")))
   (hn:PySem.W.specialIn K (.builtin "object.__class__") "__get__" = some (some (.builtin "getset_descriptor.__get__"))) (htk:PySem.W.takesIn K (.builtin "object.__class__")=some true)
   (hm:PySem.W.mroIn K C (.type "object")=some true):TyOf K H (.ref a) (.ref C)
theorem isinst_ok {x:V}{u t:Value} (I:Inv X pins σ H s) (rx:bS x u) (ty:TyOf X.K H x t) (e:PySem.W.kitOne X.K t c=some b) (h:∀ tk,Q (.bool b) { s with toks:=tk }) :
  wpAny (model X.prog X.w) A (call (.builtin "isinstance") [u,c]) Q E s:=by
 cases ty with
 | non=>cases (show u=Value.none from rx);exact PySem.W.kia_one PySem.W.kitx_none I.kIn True.intro e (fun z=>nomatch z) h
 | bl y=>cases (show u=Value.bool y from rx);exact PySem.W.kia_one PySem.W.kitx_bool I.kIn True.intro e (fun z=>nomatch z) h
 | int i=>obtain⟨t,q⟩:=(show ∃ t,u=Value.int i t from rx);cases q;exact PySem.W.kia_one PySem.W.kitx_int I.kIn True.intro e (fun z=>nomatch z) h
 | str y=>obtain⟨t,q⟩:=(show ∃ t,u=Value.str y t from rx);cases q;exact PySem.W.kia_one PySem.W.kitx_str I.kIn True.intro e (fun z=>nomatch z) h
 | flt y=>obtain⟨t,q⟩:=(show ∃ t,u=Value.float y t from rx);cases q;exact PySem.W.kia_one PySem.W.kitx_float I.kIn True.intro e (fun z=>nomatch z) h
 | @lst a xs ea=>
  cases (show u=Value.ref a from rx)
  obtain⟨_,_,n,_,h1⟩:=(show cZ X.prog X.w H s.heap a (.lst xs) from I.hok a _ ea)
  exact PySem.W.kia_one PySem.W.kitx_list I.kIn ⟨_,h1,rfl⟩ e (fun z=>nomatch z) h
 | @frz a ob xs ea=>
  cases (show u=Value.ref a from rx)
  obtain⟨_,_,_,n,_,h1⟩:=(show cZ X.prog X.w H s.heap a (.frz ob (.lst xs)) from I.hok a _ ea)
  exact PySem.W.kia_one PySem.W.kitx_list I.kIn ⟨_,h1,rfl⟩ e (fun z=>nomatch z) h
 | @tup a xs ea=>
  cases (show u=Value.ref a from rx)
  obtain⟨_,_,_,p⟩:=(show cZ X.prog X.w H s.heap a (.tup xs) from I.hok a _ ea)
  obtain⟨o,h1,h2,_⟩:=p
  exact PySem.W.kia_one PySem.W.kitx_tuple I.kIn ⟨o,h1,h2⟩ e (fun z=>nomatch z) h
 | @dK a kvs ea=>
  cases (show u=Value.ref a from rx)
  obtain⟨_,_,vs,_,p⟩:=(show cZ X.prog X.w H s.heap a (.dK kvs) from I.hok a _ ea)
  obtain⟨o,es,ep,h1,h2,_⟩:=p
  exact PySem.W.kia_one PySem.W.kitx_dict I.kIn ⟨o,h1,h2.1⟩ e (fun z=>nomatch z) h
 | @dT a kvs ea=>
  cases (show u=Value.ref a from rx)
  obtain⟨_,_,xs,_,o,es,ep,h1,h2,_⟩:=(show cZ X.prog X.w H s.heap a (.dT kvs) from I.hok a _ ea)
  exact PySem.W.kia_one PySem.W.kitx_dict I.kIn ⟨o,h1,h2.1⟩ e (fun z=>nomatch z) h
 | @ins a C dx fs ea cl ha hn htk hm=>
  cases (show u=Value.ref a from rx)
  obtain⟨mA,O,_⟩:=ins_get I.hok ea
  obtain⟨od,J,_⟩:=O.look
  exact PySem.W.kia_one (PySem.W.kitx_own (cl.get _) cl.hd ha hn htk hm) I.kIn J e (fun z=>nomatch z) h
end
end L2
namespace L2
open PySem PySem.Spec PyProof.Rows
structure Room (k:Nat) (A:Around):Prop where
 hd:A.handled=none
 dp:A.depth+3 * k+5 < recursionLimit
 un:A.units+16 * k+200 < cLine
theorem Room.mono {j k:Nat}{A:Around} (r:Room k A) (h:j≤k):Room j A:=⟨r.hd,by have:=r.dp;omega,by have:=r.un;omega⟩
theorem Room.deeper {k:Nat}{A:Around} (r:Room (k+1) A) (env:Env):Room k (A.deeper env):=
 ⟨r.hd,by have:=r.dp;show A.depth+1+3 * k+5 < _;omega,by have:=r.un;show A.units+3+16 * k+200 < _;omega⟩
theorem Room.depth {k:Nat}{A:Around} (r:Room k A):A.depth < recursionLimit:=by have:=r.dp;omega
theorem Room.units {k:Nat}{A:Around} (r:Room k A):A.units+64 < cLine:=by have:=r.un;omega
noncomputable def tNil:TA:=fun _ H Q=>Q [] H
noncomputable def dF (ta:TE) (tr:TA):TA:=fun σ H Q=>ta σ H fun x H1=>tr σ H1 fun xs H2=>Q (x::xs) H2
section
variable {X:Cx}{e:Expr}{es:List Expr}{te:TE}{t:TA}{pos:Pos}
theorem aB:PA X [] tNil:=fun _ _ _ _ H Q I h=>Calls.spliced_nil ⟨[],H,I,.nil,h⟩
theorem aA (ha:PE X e te) (hr:PA X es t) (hs:starEach (e::es) X.env=(false,eval e X.env)::starEach es X.env:=by rfl):PA X (e::es) (dF te t):=by
 intro pos pins s σ H Q I h
 rw[hs]
 show wpAny _ _ (spliced ((false,eval e X.env)::backTo pos (starEach es X.env))) _ _ s
 refine Calls.spliced_cons (d0 (ha pins s σ H _ I h) fun u s1 ⟨x,H1,I1,r1,q1⟩=>?_)
 exact d0 (hr pos pins s1 σ H1 _ I1 q1) fun us s2 ⟨xs,H2,I2,r2,q2⟩=>⟨x::xs,H2,I2,.cons r1 r2,q2⟩
noncomputable def tTup (t:TA):TE:=fun σ H Q=>t σ H fun xs H1=>xs.length≤sizeLine∧∀ p,H1 p=none→Q (.ref p) (upd H1 p (.tup xs))
noncomputable def tLst (t:TA):TE:=fun σ H Q=>t σ H fun xs H1=>xs.length≤sizeLine∧∀ p,H1 p=none→Q (.ref p) (upd H1 p (.lst xs))
theorem bA {x1} (h:PA X es t):PE X (.Tuple es x1 pos) (tTup t):=by
 intro pins s σ H Q I hq
 refine wpAny_Tuple_spliced (d0 (h pos pins s σ H _ I hq) fun us s1 ⟨xs,H1,I1,r,z,q⟩=>⟨by rw[← r.length];exact z,?_⟩)
 have hf:H1 s1.heap.objs.size=none:=I1.hok.fresh (Nat.le_refl _)
 refine⟨.ref s1.heap.objs.size,upd H1 s1.heap.objs.size (.tup xs),I1.laid (t':=s1.toks) (fun b u e=>Heap.get?_push_of_some _ e) (Nat.le_refl _) ?_,rfl,q _ hf⟩
 exact⟨z,us,r,⟨_,Heap.get?_push_size _ rfl,rfl,_,rfl⟩⟩
theorem cB (h:PA X es t):PE X (.List es pos) (tLst t):=by
 intro pins s σ H Q I hq
 refine wpAny_List_spliced (d0 (h pos pins s σ H _ I hq) fun us s1 ⟨xs,H1,I1,r,z,q⟩=>⟨by rw[← r.length];exact z,?_⟩)
 have hf:H1 s1.heap.objs.size=none:=I1.hok.fresh (Nat.le_refl _)
 refine⟨.ref s1.heap.objs.size,upd H1 s1.heap.objs.size (.lst xs),I1.laid (t':=s1.toks) (fun b u e=>Heap.get?_push_of_some _ e) (Nat.le_refl _) ?_,rfl,q _ hf⟩
 exact⟨z,us,0,r,Heap.get?_push_size _ rfl⟩
end
noncomputable abbrev Sp:=List V→Hp→VK→XK→Prop
noncomputable abbrev CXT:=List Env→Hp→Shared→XK→Value→Shared→Prop
structure Env0 (P:Program) (w:World) (K:PySem.W.Frag) (mg:Str→Option Value) (base:Heap) (A:Around) (outer:List Env) (s:Shared) (H:Hp):Prop where
 frames:A.frames=some outer
 mod:Mod K mg base
 bs:∀ b o,base.get? b=some o→s.heap.get? b=some o∧H b=none
 bsz:base.objs.size≤s.heap.objs.size
 funs:s.heap.FunFrames base outer
 frf:∀ b∈frs outer,H b=none
 hok:HOk P w H s.heap
 bare:AllBare s.gens
noncomputable def CE (outer:List Env) (P:Program) (w:World) (H:Hp) (s:Shared) (Q:VK) (u:Value) (s':Shared):Prop:=
 ∃ v H',s'.os=s.os∧AllBare s'.gens∧Un (frs outer) [] H H' s.heap s'.heap∧HOk P w H' s'.heap∧bS v u∧Q v H'
noncomputable def CR (CX:CXT) (outer:List Env) (P:Program) (w:World) (H:Hp) (s:Shared) (Q:VK) (E:XK) (r:Result) (s':Shared):Prop:=
 match r with
 | .ok (.ret u)=>CE outer P w H s Q u s'
 | .ok _=>False
 | .error e=>CX outer H s E e s'
structure FnOk (P:Program) (w:World) (K:PySem.W.Frag) (mg:Str→Option Value) (base:Heap) (CX:CXT) (k:Nat) (f:Addr) (fd:FuncData) (ps:List Str) (sp:Sp):Prop where
 len:∀ vs H Q E,sp vs H Q E→vs.length=ps.length
 run:∀ (A:Around) (outer:List Env) (s:Shared) (H:Hp) (args:Args) (us:List Value) (vs:List V) (Q:VK) (E:XK),Room k A→Env0 P w K mg base A outer s H→BindsTo s fd args (ps.zip us)→bX vs us→sp vs H Q E→
  codeAny (model P w) A (.call (.ref f) args) (CR CX outer P w H s Q E) s
theorem FnOk.imp {P:Program}{w:World}{K:PySem.W.Frag}{mg:Str→Option Value}{base:Heap}{CX:CXT}{k:Nat}{f:Addr}{fd:FuncData}{ps:List Str}{sp sp':Sp} (F:FnOk P w K mg base CX k f fd ps sp)
  (h:∀ vs H Q E,sp' vs H Q E→sp vs H Q E):FnOk P w K mg base CX k f fd ps sp':=
 ⟨fun vs H Q E q=>F.len vs H Q E (h _ _ _ _ q),fun A outer s H args us vs Q E hr he hb hv hs=>F.run A outer s H args us vs Q E hr he hb hv (h _ _ _ _ hs)⟩
section
variable {X:Cx}{pins:List (Addr×Obj)}{σ:St}{H:Hp}{s s':Shared}
theorem Inv.env0 (I:Inv X pins σ H s):Env0 X.prog X.w X.K X.mg X.base X.A X.stack s H:=
 ⟨I.ok.frames,I.ok.mod,I.bs,Nat.le_trans I.ok.bsz I.sz,I.stack,I.stkFree,I.hok,I.bare⟩
theorem Inv.after {Q:VK}{u:Value} (I:Inv X pins σ H s) (h:CE X.stack X.prog X.w H s Q u s'):EP X pins σ Q u s':=by
 obtain⟨v,H',os,bare,un,hok,r,q⟩:=h
 obtain⟨hh,g,d,t,os'⟩:=s'
 obtain rfl:os'=s.os:=os
 exact⟨v,H',I.call (h':=hh) (g':=g) (d':=d) (t':=t) (ch:=[]) un hok bare (fun b z=>absurd z (by simp)),r,q⟩
end
noncomputable def tCall (sp:Sp) (dvs:List V) (E:XK) (t:TA):TE:=fun σ H Q=>t σ H fun vs H1=>sp (vs++dvs) H1 Q E
noncomputable def Binds (K:PySem.W.Frag) (fd:FuncData) (ps:List Str) (ds:List Value):Prop:=
 ∀ (s:Shared) (us:List Value),K.In s.heap→(us++ds).length=ps.length→BindsTo s fd ⟨us,[]⟩ (ps.zip (us++ds))
theorem Binds.all {K:PySem.W.Frag}{fd:FuncData}{ps:List Str} (h:∀ us:List Value,us.length=ps.length→bindArgs fd ⟨us,[]⟩=pure (ps.zip us)):Binds K fd ps []:=fun s us _ hl=>by
 rw[List.append_nil] at hl ⊢
 exact .of_eq (h us hl)
noncomputable def Passes (CX:CXT) (X:Cx) (E:XK):Prop:=∀ (pins:List (Addr×Obj)) (σ:St) (H:Hp) (s:Shared) (e:Value) (s':Shared),Inv X pins σ H s→CX X.stack H s E e s'→X.xe e s'
section
variable {X:Cx}{CX:CXT}{k:Nat}{f C:Addr}{fd:FuncData}{ps:List Str}{sp:Sp}{dvs:List V}{ds:List Value}{E:XK}{x m:Str}{p pos apos:Pos}{e o:Expr}{es:List Expr}{ta:TE}{t:TA}
theorem run_fn {pins:List (Addr×Obj)}{σ:St}{H:Hp}{s:Shared}{Q:VK}{us:List Value}{vs:List V} (F:FnOk X.prog X.w X.K X.mg X.base CX k f fd ps sp) (hr:Room k X.A) (hb:Binds X.K fd ps ds) (hd:bX dvs ds) (hx:Passes CX X E)
  (I:Inv X pins σ H s) (r:bX vs us) (h:sp (vs++dvs) H Q E):wpAny (model X.prog X.w) X.A (call (.ref f) us) (EP X pins σ Q) X.xe s:=by
 have r2:bX (vs++dvs) (us++ds):=r.append hd
 have hl:(us++ds).length=ps.length:=by rw[← r2.length];exact F.len _ _ _ _ h
 refine wpAny_call (codeAny_mono (F.run X.A X.stack s H ⟨us,[]⟩ (us++ds) (vs++dvs) Q E hr I.env0 (hb s us I.kIn hl) r2 h) fun r s' hq=>?_)
 cases r with
 | error e=>exact hx pins σ H s e s' I hq
 | ok fl=>
  cases fl with
  | ret u=>exact I.after hq
  | next=>exact False.elim hq
  | brk=>exact False.elim hq
  | cont=>exact False.elim hq
theorem eG (F:FnOk X.prog X.w X.K X.mg X.base CX k f fd ps sp) (hr:Room k X.A) (hg:Gl X x) (hm:X.mg x=some (.ref f)) (hk:PySem.W.keepIn X.K (.ref f)=true) (hb:Binds X.K fd ps ds) (hd:bX dvs ds) (hx:Passes CX X E)
  (ha:PA X (e::es) t) (hdb:(x == ("__debug__" : Str))=false:=by decide) (he:starEach (e::es) X.env=(false,eval e X.env)::starEach es X.env:=by rfl) (hpl:(backTo pos (starEach es X.env)).any (·.1)=false:=by rfl) :
  PE X (.Call (.Name x p) (e::es) [] pos) (tCall sp dvs E t):=by
 intro pins s σ H Q I h
 refine wpAny_Call_Name_kw (ld_glob I hg hm ?_ hdb)
 refine PySem.W.callWith_K (h₀:=X.base) I.ok.mod.kin hk (d0 (ha pos pins s σ H _ I h) fun us s1 ⟨vs,H1,I1,r,q⟩=>⟨I1.kIn,?_⟩) he hpl
 exact run_fn F hr hb hd hx I1 r q
end
section
variable {X:Cx}{CX:CXT}{k:Nat}{f C:Addr}{fd:FuncData}{ps ks:List Str}{sp:Sp}{E:XK}{x m:Str}{p pos apos kpos:Pos}{e o:Expr}{es:List Expr}{kws:List Keyword}{te ta:TE}{t tk:TA}{nm:Option Str}
variable {g:List Value→List Value→List Value}{gV:List V→List V→List V}
end
structure FnScope (N P:List Str) (sc:Scope):Prop where
 kind:sc.kind=.function
 co:sc.isCoroutine=false
 gen:sc.isGenerator=false
 nd:N.Nodup
 pre:N.take P.length=P
 par:∀ x∈P,sc.names.lookup x=some .local∨sc.names.lookup x=some .cell
 nofree:∀ y∈sc.names,y.2≠.free
theorem bindL_out {kindOf:Str→Option NameKind}{x:Str}:∀ {binds:List (Str×Value)}{m:Str→Option Value},(∀ v,(x,v)∉binds)→bindL kindOf binds m x=m x
 | [],_,_=>rfl
 | (n,v)::r,m,h=>by
  unfold bindL
  rw[bindL_out fun w hw=>h w (List.mem_cons_of_mem _ hw)]
  split
  ·have:x≠n:=by rintro rfl;exact h v List.mem_cons_self
   simp [this]
  ·rfl
theorem bindC_out {kindOf:Str→Option NameKind}{x:Str}:∀ {binds:List (Str×Value)}{m:Str→Option Value},(∀ v,(x,v)∉binds)→bindC kindOf binds m x=m x
 | [],_,_=>rfl
 | (n,v)::r,m,h=>by
  unfold bindC
  rw[bindC_out fun w hw=>h w (List.mem_cons_of_mem _ hw)]
  split
  ·rfl
  ·have:x≠n:=by rintro rfl;exact h v List.mem_cons_self
   simp [this]
theorem bindL_get {kindOf:Str→Option NameKind}{x:Str}{v:Value}:∀ {P:List Str}{vs:List Value}{i:Nat}{m:Str→Option Value},P.Nodup→P[i]? = some x→vs[i]? = some v→kindOf x=some .local→
  bindL kindOf (P.zip vs) m x=some v
 | [],_,_,_,_,h,_,_=>by simp at h
 | _::_,[],_,_,_,_,h,_=>by simp at h
 | p::P,w::vs,0,m,nd,h1,h2,hk=>by
  simp at h1 h2;subst h1;subst h2
  show bindL kindOf ((p,w)::P.zip vs) m p=_
  unfold bindL
  rw[bindL_out fun v hv=>(List.nodup_cons.mp nd).1 (List.of_mem_zip hv).1,if_pos hk]
  simp
 | p::P,w::vs,i+1,m,nd,h1,h2,hk=>by
  show bindL kindOf ((p,w)::P.zip vs) m x=_
  unfold bindL
  exact bindL_get (i:=i) (List.nodup_cons.mp nd).2 (by simpa using h1) (by simpa using h2) hk
theorem bindC_get {kindOf:Str→Option NameKind}{x:Str}{v:Value}:∀ {P:List Str}{vs:List Value}{i:Nat}{m:Str→Option Value},P.Nodup→P[i]? = some x→vs[i]? = some v→kindOf x≠some .local→
  bindC kindOf (P.zip vs) m x=some v
 | [],_,_,_,_,h,_,_=>by simp at h
 | _::_,[],_,_,_,_,h,_=>by simp at h
 | p::P,w::vs,0,m,nd,h1,h2,hk=>by
  simp at h1 h2;subst h1;subst h2
  show bindC kindOf ((p,w)::P.zip vs) m p=_
  unfold bindC
  rw[bindC_out fun v hv=>(List.nodup_cons.mp nd).1 (List.of_mem_zip hv).1,if_neg hk]
  simp
 | p::P,w::vs,i+1,m,nd,h1,h2,hk=>by
  show bindC kindOf ((p,w)::P.zip vs) m x=_
  unfold bindC
  exact bindC_get (i:=i) (List.nodup_cons.mp nd).2 (by simpa using h1) (by simpa using h2) hk
noncomputable def start (N:List Str) (vs:List V):St:=vs.map some++List.replicate (N.length - vs.length) none
noncomputable def cxOf (CX:CXT) (P:Program) (w:World) (K:PySem.W.Frag) (mg:Str→Option Value) (base:Heap) (N:List Str) (qual:Str) (scope:Scope) (f:Addr) (cd:Value) (A:Around) (outer:List Env) (s:Shared) (H:Hp) (E:XK):Cx where
 prog:=P
 w:=w
 K:=K
 mg:=mg
 base:=base
 A:=A.deeper (envOfC qual scope s.heap.objs.size f cd)
 N:=N
 s₀:=s
 H₀:=H
 env:=envOfC qual scope s.heap.objs.size f cd
 outer:=outer
 stack:=envOfC qual scope s.heap.objs.size f cd::outer
 ex:=[]
 calm:=true
 fn:=fun _=>true
 pn:=[]
 xe:=fun e s'=>wpAny (model P w) (A.deeper (envOfC qual scope s.heap.objs.size f cd)) (leaving (envOfC qual scope s.heap.objs.size f cd) e) (fun _ s''=>CX outer H s E e s'') (fun e' s''=>CX outer H s E e' s'') s'
theorem cell_has {sc:Scope}{n:Nat}{x:Str} (h:sc.names.lookup x=some .cell):∃ c,(cellsFrom n sc.names []).lookup x=some c:=by
 have q:=PySem.W.cellsFrom_some sc.names n [] (.inl h)
 exact Option.isSome_iff_exists.mp q
theorem inv_start {CX:CXT}{P:Program}{w:World}{K:PySem.W.Frag}{mg:Str→Option Value}{base:Heap}{N ps:List Str}{qual:Str}{scope:Scope}{f:Addr}{cd:Value}{A:Around}{outer:List Env}{s s1:Shared}{H:Hp}{E:XK}{us:List Value}{vs:List V}
  (S:FnScope N ps scope) (hd:A.handled=none) (e0:Env0 P w K mg base A outer s H) (hl:vs.length=ps.length) (r:bX vs us)
  (x:InCallC s s.heap.objs.size (bindL (envOfC qual scope s.heap.objs.size f cd).kindOf (ps.zip us) fun _=>none) (cellsFrom (s.heap.objs.size+1) scope.names []) (bindC (envOfC qual scope s.heap.objs.size f cd).kindOf (ps.zip us) fun _=>none) s1) :
  Inv (cxOf CX P w K mg base N qual scope f cd A outer s H E) [] (start N vs) H s1:=by
 have hpl:ps.length≤N.length:=by have:=congrArg List.length S.pre;rw[List.length_take] at this;omega
 obtain⟨h1,tk,rfl,hk⟩:=x.done
 have noA:∀ b:Addr,b∉(cxOf CX P w K mg base N qual scope f cd A outer s H E).ex:=fun b z=>absurd (show b∈([]:List Addr) from z) (by simp)
 refine⟨⟨e0.mod,S.kind,rfl,rfl,Nat.le_refl _,fun y z c h1 h2=>?_,fun y hy=>?_,fun y c _ h=>?_,fun _=>hd,Around.frames_deeper e0.frames,.inr ⟨rfl,rfl⟩,fun b z=>absurd z (noA b),e0.bs,e0.bsz,fun b _ _=>noA b,fun b z=>absurd z (noA b),e0.funs,e0.frf⟩,
  rfl,e0.bare,Un.kept hk,⟨_,x.toInCall.ns,fun i y v h1 h2 h3=>?_⟩,fun y c h=>⟨_,x.cell y c h⟩,e0.hok.fresh (Nat.le_refl _),fun y c h=>?_,fun p hp=>absurd (show p∈([]:List (Addr×Obj)) from hp) (by simp),e0.hok.kept hk,?_⟩
 ·exact name_of_addr x.apart (PySem.mem_of_lookup h1) (PySem.mem_of_lookup h2)
 ·have hy:scope.names.lookup y=some .cell∨scope.names.lookup y=some .free:=hy
  rcases hy with hy | hy
  ·exact cell_has hy
  ·exact absurd rfl (S.nofree _ (PySem.mem_of_lookup hy))
 ·exact Nat.le_of_lt (x.above y c (PySem.mem_of_lookup h))
 ·have hi:i < vs.length:=by
   unfold start at h2
   by_cases hi:i < vs.length
   ·exact hi
   ·rw[List.getElem?_append_right (by simpa using hi)] at h2
    rw[List.getElem?_replicate] at h2
    split at h2 <;> cases h2
  have ha:vs[i]? = some v:=by
   unfold start at h2
   rw[List.getElem?_append_left (by simpa using hi),List.getElem?_map] at h2
   cases e:vs[i]? with
   | none=>rw[e] at h2;cases h2
   | some a=>rw[e] at h2;cases h2;rfl
  obtain⟨u,hu,rv⟩:=r.get ha
  have hp:ps[i]? = some y:=by
   rw[← S.pre,List.getElem?_take_of_lt (by omega)];exact h1
  have ndP:ps.Nodup:=by rw[← S.pre];exact S.nd.sublist (List.take_sublist _ _)
  refine⟨u,rv,?_⟩
  rcases S.par y (List.mem_of_getElem? hp) with k | k
  ·exact .inl ⟨k,bindL_get ndP hp hu k⟩
  ·obtain⟨c,e⟩:=cell_has (n:=s.heap.objs.size+1) k
   refine .inr ⟨.inl k,c,e,?_⟩
   have q:=x.cell y c e
   rw[bindC_get ndP hp hu (by show scope.names.lookup y≠_;rw[k];decide)] at q
   exact q
 ·exact e0.hok.fresh (Nat.le_of_lt (x.above y c (PySem.mem_of_lookup h)))
 ·unfold start
  show _=N.length
  rw[List.length_append,List.length_map,List.length_replicate]
  omega
theorem fn_of {CX:CXT}{P:Program}{w:World}{K:PySem.W.Frag}{mg:Str→Option Value}{base:Heap}{k:Nat}{f:Addr}{name qual:Str}{params:Arguments}{body:List Stmt}{scope:Scope}{dV kV doc pm cdv ct oc:Value}{an od:Option Addr}
  {osl:Array (Option Value)}{N ps:List Str}{sp:Sp} (lk:K.lookup f=some ⟨oc,od,.func (PySem.W.fnOf name qual params body scope dV kV doc pm an cdv ct),osl⟩) (hcd:PySem.W.codeIn K cdv qual=true) (S:FnScope N ps scope)
  (len:∀ vs H Q E,sp vs H Q E→vs.length=ps.length)
  (hbody:∀ (A:Around) (outer:List Env) (s:Shared) (H:Hp) (vs:List V) (Q:VK) (E:XK),Room k (A.deeper (envOfC qual scope s.heap.objs.size f cdv))→sp vs H Q E→
   ∃ t,PSs (cxOf CX P w K mg base N qual scope f cdv A outer s H E) body t∧t { nx:=fun _ H'=>Q .non H',rt:=Q } (start N vs) H) :
  FnOk P w K mg base CX (k+1) f (PySem.W.fnOf name qual params body scope dV kV doc pm an cdv ct) ps sp:=by
 refine⟨len,fun A outer s H args us vs Q E hr e0 hb r hsp=>?_⟩
 have hl:=len _ _ _ _ hsp
 have KX:K.In s.heap:=e0.mod.kin.keeps fun b o e=>(e0.bs b o e).1
 have lim:s.heap.NoLimit:=e0.mod.nolimit.keeps fun b o e=>(e0.bs b o e).1
 have hkind:∀ y∈ps.zip us,scope.names.lookup y.1=some .local∨(scope.names.lookup y.1=some .cell∧((cellsFrom (s.heap.objs.size+1) scope.names []).lookup y.1).isSome=true):=fun ⟨n,v⟩ hy=>by
  rcases S.par n (List.of_mem_zip hy).1 with q | q
  ·exact .inl q
  ·exact .inr ⟨q,PySem.W.cellsFrom_some _ _ _ (.inl q)⟩
 refine codeAny_call_function hr.depth (KX _ _ lk) rfl S.co S.gen rfl (PySem.W.codeRec_of KX hcd) (hb _ _ _ _ ?_)
 refine wpAny_newFunctionEnv_cells S.kind hkind fun env he s1 x=>?_
 subst he
 refine⟨lim.keeps x.toInCall.keep,codeAny_func ?_⟩
 obtain⟨t,ht,hq⟩:=hbody A outer s H vs Q E (hr.deeper _) hsp
 have I:Inv (cxOf CX P w K mg base N qual scope f cdv A outer s H E) [] (start N vs) H s1:=inv_start S hr.hd e0 hl r x
 refine wpAny_mono (ht [] s1 (start N vs) H _ I hq) (fun fl s' hs=>?_) fun e s' hs=>hs
 have fin:∀ {σ':St}{H':Hp}{v:V}{u:Value},Inv (cxOf CX P w K mg base N qual scope f cdv A outer s H E) [] σ' H' s'→bS v u→Q v H'→CE outer P w H s Q u s':=
  fun {σ' H' v u} J rv q=>⟨v,H',J.os,J.bare,J.base,J.hok,rv,q⟩
 cases fl with
 | ret u=>
  obtain⟨v,σ',H',J,rv,q⟩:=hs
  exact fin J rv q
 | next=>
  obtain⟨σ',H',J,q⟩:=hs
  exact fin (v:=V.non) (u:=Value.none) J rfl q
 | brk=>
  obtain⟨_,_,_,q⟩:=hs
  exact False.elim q
 | cont=>
  obtain⟨_,_,_,q⟩:=hs
  exact False.elim q
end L2
namespace L2
open PySem PySem.Spec PyProof.Rows
section
variable {X:Cx}{x:Str}{p pos:Pos}{e:Expr}{es:List Expr}{t:TA}{id T:String}{r:List V→Hp→VK→Prop}
noncomputable def tCB (r:List V→Hp→VK→Prop) (t:TA):TE:=fun σ H Q=>t σ H fun vs H1=>r vs H1 Q
theorem aP (hc:eJ X (.builtin id) r) (hg:Gl X x) (hm:X.mg x=none) (hv:bootBuiltins x=some (.builtin id)) (ha:PA X (e::es) t) (hn:x ≠ "__name__" := by decide) (hdb:(x == ("__debug__" : Str))=false:=by decide)
  (he:starEach (e::es) X.env=(false,eval e X.env)::starEach es X.env:=by rfl) (hpl:(backTo pos (starEach es X.env)).any (·.1)=false:=by rfl):PE X (.Call (.Name x p) (e::es) [] pos) (tCB r t):=by
 intro pins s σ H Q I h
 refine wpAny_Call_Name_kw (ld_blt I hg hm hv ?_ hn hdb)
 exact PyProof.Rows.callWith_builtin1 (d0 (ha pos pins s σ H _ I h) fun us s1 ⟨vs,H1,I1,r1,q1⟩=>hc pins s1 σ H1 vs us Q I1 r1 q1) he hpl
theorem bD (hc:eJ X (.type T) r) (hg:Gl X x) (hm:X.mg x=none) (hv:bootBuiltins x=some (.type T)) (ha:PA X (e::es) t) (hn:x ≠ "__name__" := by decide) (hdb:(x == ("__debug__" : Str))=false:=by decide)
  (he:starEach (e::es) X.env=(false,eval e X.env)::starEach es X.env:=by rfl) (hpl:(backTo pos (starEach es X.env)).any (·.1)=false:=by rfl):PE X (.Call (.Name x p) (e::es) [] pos) (tCB r t):=by
 intro pins s σ H Q I h
 refine wpAny_Call_Name_kw (ld_blt I hg hm hv ?_ hn hdb)
 exact PyProof.Rows.callWith_type1 (d0 (ha pos pins s σ H _ I h) fun us s1 ⟨vs,H1,I1,r1,q1⟩=>hc pins s1 σ H1 vs us Q I1 r1 q1) he hpl
end
end L2
namespace HT
open PySem PyProof.Rows
section
open PySem.SeqAt
open PySem.AutoSeq1 (wpAny_loadPart')
open PySem.MeetsSeq PySem.MeetsSeq2 PySem.MeetsSeq3
end
section
variable {prog:Program}{w:World}{A:Around}{E:Value→Shared→Prop}{s:Shared}
theorem cat_tup {t b:Addr}{vs ws:List Value}{Q:Value→Shared→Prop} (ht:IsTup s.heap t vs.toArray) (hb:IsTup s.heap b ws.toArray) (hv:vs≠[])
  (h1:ws=[]→Q (.ref t) s) (h2:ws≠[]→Q (.ref s.heap.objs.size) { s with heap:=s.heap.push { cls:=.type "tuple",data:=.seq (vs++ws).toArray } })
  (hsz:vs.length+ws.length≤sizeLine):wpAny (model prog w) A (binaryOp .Add (.ref t) (.ref b)) Q E s:=by
 obtain⟨⟨cls,dd,data,sl⟩,ho,hc,n,hd⟩:=id ht
 obtain⟨⟨cls2,dd2,data2,sl2⟩,ho2,hc2,n2,hd2⟩:=id hb
 simp only at hc hd hc2 hd2
 subst hc hd hc2 hd2
 have e:vs.toArray++ws.toArray=(vs++ws).toArray:=by simp
 by_cases hw:ws=[]
 ·exact concat_meets ⟨_,ho,rfl⟩ ⟨_,ho2,rfl⟩ noFill_tuple_add seq_tuple_add PySem.F.slot_tuple_add PySem.F.entry_tuple_add (PySem.F.args_tuple_add_2 _ _)
   (tuple_addW1 t b vs.toArray ws.toArray n n2 dd dd2 sl sl2 (by simpa using hv) (by simp [hw])) ⟨ho,ho2,h1 hw⟩
 ·refine concat_meets ⟨_,ho,rfl⟩ ⟨_,ho2,rfl⟩ noFill_tuple_add seq_tuple_add PySem.F.slot_tuple_add PySem.F.entry_tuple_add (PySem.F.args_tuple_add_2 _ _)
   (tuple_addW2 t b vs.toArray ws.toArray n n2 dd dd2 sl sl2 (by simpa using hv) (by simpa using hw) (by rw[List.size_toArray,List.size_toArray];exact hsz)) ⟨ho,ho2,?_⟩
  rw[e]
  exact h2 hw
noncomputable def sIx (n d:Nat):Option Int→Nat
 | none=>d
 | some v=>if v < 0 then (v+(n:Int)).toNat else min v.toNat n
theorem sIx_none (n d:Nat):sIx n d none=d:=rfl
theorem sIx_nat (n d k:Nat):sIx n d (some (k:Int))=min k n:=by
 show (if (k:Int) < 0 then ((k:Int)+(n:Int)).toNat else min (k:Int).toNat n)=min k n
 rw[if_neg (by omega),Int.toNat_natCast]
end
end HT
namespace L2
open PySem PySem.Spec PyProof.Rows
noncomputable abbrev TO:=St→Hp→(Option Int→Hp→Prop)→Prop
noncomputable def PO (X:Cx) (e:Option Expr) (t:TO):Prop:=
 ∀ (pins:List (Addr×Obj)) (s:Shared) (σ:St) (H:Hp) (Q:Option Int→Hp→Prop),Inv X pins σ H s→t σ H Q→
  wpAny (model X.prog X.w) X.A (evalPart e X.env) (fun u s'=>∃ o H',Inv X pins σ H' s'∧IsPart u o∧Q o H') X.xe s
noncomputable def tNoPart:TO:=fun _ H Q=>Q none H
noncomputable def tPart (t:TE):TO:=fun σ H Q=>t σ H fun x H1=>∃ i,x=.int i∧Q (some i) H1
theorem intsAre_of {ns:List Int}:∀ {us:List Value},bX (ns.map V.int) us→IntsAre us ns:=by
 induction ns with
 | nil=>intro us r;rw[List.map_nil] at r;cases r;exact .nil
 | cons n ns ih=>
  intro us r
  rw[List.map_cons] at r
  cases r with
  | cons r1 r2=>
   obtain⟨t,e⟩:=r1
   subst e
   exact .cons n t (ih r2)
section
variable {X:Cx}{e:Expr}{te:TE}{lo hi:Option Expr}{tl th:TO}{pos p2:Pos}
theorem po_none:PO X none tNoPart:=by
 intro pins s σ H Q I h
 rw[evalPart_none]
 exact wpAny_pure ⟨none,H,I,.none,h⟩
theorem po_some (h:PE X e te):PO X (some e) (tPart te):=by
 intro pins s σ H Q I hw
 rw[evalPart_some]
 refine d0 (h pins s σ H _ I hw) fun u s1 ⟨x,H1,I1,r1,q1⟩=>?_
 obtain⟨i,rfl,q⟩:=q1
 obtain⟨t,rfl⟩:=r1
 exact⟨some i,H1,I1,.int i t,q⟩
noncomputable def SlR (X:Cx) (r:V→Option Int→Option Int→Hp→VK→Prop):Prop:=
 ∀ (pins:List (Addr×Obj)) (s:Shared) (σ:St) (H:Hp) (x:V) (v vl vu:Value) (lo hi:Option Int) (sl:Addr) (Q:VK),Inv X pins σ H s→bS x v→s.heap.IsSliceOf sl vl vu .none→IsPart vl lo→IsPart vu hi→r x lo hi H Q→
  ∃ T id,typeLookup (.type T) "__getitem__" = pure (some (.builtin id))∧s.TypeIs v T∧wpAny (model X.prog X.w) X.A (getItem v (.ref sl)) (EP X pins σ Q) X.xe s
noncomputable def tSl (r:V→Option Int→Option Int→Hp→VK→Prop) (te:TE) (tl th:TO):TE:=fun σ H Q=>te σ H fun x H1=>tl σ H1 fun l H2=>th σ H2 fun u H3=>r x l u H3 Q
theorem pe_slice {r:V→Option Int→Option Int→Hp→VK→Prop} (hr:SlR X r) (he:PE X e te) (hl:PO X lo tl) (hu:PO X hi th):PE X (.Subscript e (.Slice lo hi none p2) pos) (tSl r te tl th):=by
 intro pins s σ H Q I h
 refine Subscript_ (d0 (he pins s σ H _ I h) fun v s1 ⟨x,H1,I1,r1,q1⟩=>?_)
 refine wpAny_Slice (d0 (hl pins s1 σ H1 _ I1 q1) fun vl s2 ⟨l,H2,I2,pl,q2⟩=>d0 (hu pins s2 σ H2 _ I2 q2) fun vu s3 ⟨u,H3,I3,pu,q3⟩=>?_)
 rw[evalPart_none]
 refine wpAny_pure ?_
 have I4:Inv X pins σ H3 { s3 with heap:=s3.heap.push { cls:=.type "slice",data:=.fields #[vl,vu,.none] } }:=I3.kept (t':=s3.toks) fun b ob q=>Heap.get?_push_of_some _ q
 obtain⟨T,id,hT,ht,hg⟩:=hr pins { s3 with heap:=s3.heap.push { cls:=.type "slice",data:=.fields #[vl,vu,.none] } } σ H3 x v vl vu l u s3.heap.objs.size Q I4 r1 (Heap.IsSliceOf.new ..) pl pu q3
 show wpAny (model X.prog X.w) X.A (subscriptTail e (.Slice lo hi none p2) v (.ref s3.heap.objs.size)) (EP X pins σ Q) X.xe { s3 with heap:=s3.heap.push { cls:=.type "slice",data:=.fields #[vl,vu,.none] } }
 exact tail_any (ops:=[.ref s3.heap.objs.size,v]) ht hT hg (by with_unfolding_all rfl)
noncomputable def cutV (xs:List V) (lo hi:Option Int):List V:=(xs.drop (HT.sIx xs.length 0 lo)).take (HT.sIx xs.length xs.length hi - HT.sIx xs.length 0 lo)
theorem cutV_length (xs:List V) (lo hi:Option Int):(cutV xs lo hi).length≤xs.length:=by
 unfold cutV
 rw[List.length_take,List.length_drop]
 omega
noncomputable def rCatT (K:PySem.W.Frag):R2:=fun x y H Q=>∃ a b xs ys,x=.ref a∧y=.ref b∧bR K H a xs∧bR K H b ys∧xs≠[]∧xs.length+ys.length≤sizeLine∧
 (ys=[]→Q (.ref a) H)∧(ys≠[]→∀ p,H p=none→Q (.ref p) (upd H p (.tup (xs++ys))))
theorem bX.nil_iff {xs:List V}{us:List Value} (r:bX xs us):us=[]↔xs=[]:=by
 cases r with
 | nil=>simp
 | cons _ _=>simp
theorem op_catT:OpR X (binaryOp .Add) (rCatT X.K):=by
 intro pins s σ H x y v u Q I rx ry h
 obtain⟨a,b,xs,ys,rfl,rfl,ha,hb,hx,hz,q1,q2⟩:=h
 cases rx
 cases ry
 obtain⟨its,r1,p1,_⟩:=I.tuple ha
 obtain⟨its2,r2,p2,_⟩:=I.tuple hb
 refine HT.cat_tup p1 p2 (fun z=>hx (r1.nil_iff.mp z)) (fun z=>⟨.ref a,H,I,rfl,q1 (r2.nil_iff.mp z)⟩) (fun z=>?_) (by rw[← r1.length,← r2.length];exact hz)
 refine⟨.ref s.heap.objs.size,_,I.laid (t':=s.toks) (o:=.tup (xs++ys)) (fun b ob q=>Heap.get?_push_of_some _ q) (Nat.le_refl _) ?_,rfl,q2 (fun w=>z (r2.nil_iff.mpr w)) _ (I.hok.fresh (Nat.le_refl _))⟩
 exact⟨by rw[List.length_append];exact hz,_,r1.append r2,IsTup.new _ _⟩
end
end L2
namespace L2
open PySem PySem.Spec PyProof.Rows
noncomputable def ixN (n:Nat) (i:Int):Option Nat:=if 0≤i then (if i < n then some i.toNat else none) else if -(n:Int)≤i then some (i+n).toNat else none
noncomputable def atI {α:Type} (xs:List α) (i:Int):Option α:=(ixN xs.length i).bind fun j=>xs[j]?
theorem ixN_seq {n:Nat}{i:Int}{j:Nat} (h:ixN n i=some j):seqIndex? i n=some j∧j < n∧-(n:Int)≤i∧i < n:=by
 unfold ixN at h
 by_cases h0:0≤i
 ·rw[if_pos h0] at h
  by_cases h1:i < n
  ·rw[if_pos h1] at h
   have e:i.toNat=j:=Option.some.inj h
   exact⟨by rw[seqIndex_of h0 h1,e],by omega,by omega,h1⟩
  ·rw[if_neg h1] at h;cases h
 ·rw[if_neg h0] at h
  by_cases h1 : -(n:Int)≤i
  ·rw[if_pos h1] at h
   have e:(i+n).toNat=j:=Option.some.inj h
   exact⟨by rw[seqIndex_neg (by omega) h1,e],by omega,h1,by omega⟩
  ·rw[if_neg h1] at h;cases h
theorem atI_get {α:Type}{xs:List α}{i:Int}{v:α} (h:atI xs i=some v):∃ j,seqIndex? i xs.length=some j∧xs[j]? = some v∧j < xs.length∧-(xs.length:Int)≤i∧i < xs.length:=by
 unfold atI at h
 cases e:ixN xs.length i with
 | none=>rw[e] at h;cases h
 | some j=>
  rw[e] at h
  obtain⟨h1,h2,h3,h4⟩:=ixN_seq e
  exact⟨j,h1,h,h2,h3,h4⟩
theorem cT {α:Type}{xs:List α}{j:Nat}{v:α} (h:xs[j]? = some v):atI xs (j:Int)=some v:=by
 have hj:j < xs.length:=(List.getElem?_eq_some_iff.mp h).1
 have e:ixN xs.length (j:Int)=some j:=by
  unfold ixN
  rw[if_pos (by omega),if_pos (by omega)];simp
 unfold atI;rw[e];exact h
theorem atI_last {α:Type} (xs:List α) (v:α):atI (xs++[v]) (-1)=some v:=by
 have hl:(xs++[v]).length=xs.length+1:=by simp
 have e:ixN (xs++[v]).length (-1)=some xs.length:=by
  unfold ixN
  rw[hl,if_neg (by decide),if_pos (by omega)]
  congr 1
  omega
 unfold atI
 rw[e]
 show (xs++[v])[xs.length]? = some v
 simp
noncomputable def PlainIx (b:Expr):Prop:=∀ o i,subscripted b false o i=operate [o,i] (getItem o i)
noncomputable def IxR (X:Cx) (r:R2):Prop:=
 ∀ (value slice:Expr) (pins:List (Addr×Obj)) (s:Shared) (σ:St) (H:Hp) (x y:V) (v u:Value) (Q:VK),Inv X pins σ H s→bS x v→bS y u→r x y H Q→
  subscripted slice false v u=operate [v,u] (getItem v u)→wpAny (model X.prog X.w) X.A (subscriptTail value slice v u) (EP X pins σ Q) X.xe s
noncomputable def MtR (X:Cx) (id:String) (r:V→List V→Hp→VK→Prop):Prop:=
 ∀ (pins:List (Addr×Obj)) (s:Shared) (σ:St) (H:Hp) (x:V) (xs:List V) (v:Value) (us:List Value) (Q:VK),Inv X pins σ H s→bS x v→bX xs us→r x xs H Q→
  wpAny (model X.prog X.w) X.A (call (.builtin id) (v::us)) (EP X pins σ Q) X.xe s
section
variable {X:Cx}{a b:Expr}{ta tb:TE}{pos:Pos}
theorem IxR.or {r r':R2} (h:IxR X r) (h':IxR X r'):IxR X (fun x y H Q=>r x y H Q∨r' x y H Q):=by
 intro value slice pins s σ H x y v u Q I rx ry q hs
 rcases q with q | q
 ·exact h value slice pins s σ H x y v u Q I rx ry q hs
 ·exact h' value slice pins s σ H x y v u Q I rx ry q hs
theorem aT {r:R2} (hr:IxR X r) (ha:PE X a ta) (hb:PE X b tb) (hs:PlainIx b):PE X (.Subscript a b pos) (tOp r ta tb):=by
 intro pins s σ H Q I h
 exact Subscript_ (binT ha hb I h fun v u s2 x y H2 I2 rx ry q=>hr a b pins s2 σ H2 x y v u Q I2 rx ry q (hs _ _))
noncomputable def rIxL (K:PySem.W.Frag):R2:=fun x y H Q=>∃ p xs i v,x=.ref p∧y=.int i∧bT K H p xs∧atI xs i=some v∧Q v H
noncomputable def rIxT (K:PySem.W.Frag):R2:=fun x y H Q=>∃ p xs i v,x=.ref p∧y=.int i∧bR K H p xs∧atI xs i=some v∧Q v H
noncomputable def rIxS:R2:=fun x y H Q=>∃ z i c,x=.str z∧y=.int i∧z.length≤sizeLine∧atI z.cps.toList i=some c∧Q (.str ⟨#[c]⟩) H
theorem ix_list:IxR X (rIxL X.K):=by
 intro value slice pins s σ H x y v u Q I rx ry h hs
 obtain⟨p,xs,i,z,rfl,rfl,hq,he,q⟩:=h
 cases rx
 obtain⟨t,rfl⟩:=ry
 obtain⟨its,r,pl,hz⟩:=I.list hq
 obtain⟨j,h1,h2,h3,h4,h5⟩:=atI_get he
 obtain⟨w,ew,rw'⟩:=r.get h2
 have hl:=r.length
 have hn:=line63
 have fin:EP X pins σ Q w s:=⟨z,H,I,rw',q⟩
 by_cases h0:0≤i
 ·have hj:i.toNat=j:=by
   rw[seqIndex_of h0 h5] at h1
   exact Option.some.inj h1
  exact item_listR pl.isList h0 (by omega) (by rw[hj];simpa using ew) fin hs
 ·have hj:(i+(its.toArray.size:Int)).toNat=j:=by
   rw[seqIndex_neg (by omega) h4] at h1
   rw[List.size_toArray,← hl]
   exact Option.some.inj h1
  exact subscriptTail_builtinR (x:=w) pl.isList.typeIs slot_list_getitem.lookup
   (wpAny_getItem_list_neg (Q:=fun r s'=>r=w∧EP X pins σ Q r s') pl.isList (by omega) (by rw[List.size_toArray] <;> omega) (by omega) (by rw[hj];simpa using ew) ⟨rfl,fin⟩) hs
theorem ix_tup:IxR X (rIxT X.K):=by
 intro value slice pins s σ H x y v u Q I rx ry h hs
 obtain⟨p,xs,i,z,rfl,rfl,hq,he,q⟩:=h
 cases rx
 obtain⟨t,rfl⟩:=ry
 obtain⟨its,r,pl,hz⟩:=I.tuple hq
 obtain⟨j,h1,h2,h3,h4,h5⟩:=atI_get he
 obtain⟨w,ew,rw'⟩:=r.get h2
 have hl:=r.length
 have hn:=line63
 have fin:EP X pins σ Q w s:=⟨z,H,I,rw',q⟩
 exact subscriptTail_builtinR (x:=w) pl.typeIs slot_tuple_getitem.lookup
  (getItem_tuple (j:=j) (Q:=fun r s'=>r=w∧EP X pins σ Q r s') pl (by omega) (by omega) (by rw[List.size_toArray,← hl];exact h1) (by simpa using ew) ⟨rfl,fin⟩) hs
theorem ix_str:IxR X rIxS:=by
 intro value slice pins s σ H x y v u Q I rx ry h hs
 obtain⟨z,i,c,rfl,rfl,hz,he,q⟩:=h
 obtain⟨t,rfl⟩:=rx
 obtain⟨t',rfl⟩:=ry
 obtain⟨j,h1,h2,h3,h4,h5⟩:=atI_get he
 have hl:z.cps.toList.length=z.length:=by simp [Str.length]
 rw[hl] at h1 h4 h5
 have hn:=line63
 exact tail_any (typeIs_str s z t) slot_str_getitem.lookup (getItem_str (c:=c) (by
  have e1:decide (i < -(2 ^ 63:Int))=false:=decide_eq_false (by omega)
  have e2:decide (i ≥ 2 ^ 63)=false:=decide_eq_false (by omega)
  rw[e1,e2,Bool.or_false]) (by rw[h1];simpa using h2) ⟨.str ⟨#[c]⟩,H,I.tok _,⟨_,rfl⟩,q⟩) hs
noncomputable def rIx (K:PySem.W.Frag):R2:=fun x y H Q=>rIxL K x y H Q∨rIxT K x y H Q∨rIxS x y H Q
theorem ix_seq:IxR X (rIx X.K):=ix_list.or (ix_tup.or ix_str)
theorem mapSeq_set (its:List Value) (n j:Nat) (u:Value):Obj.mapSeq (·.setIfInBounds j u) { cls:=.type "list",data:=.seq its.toArray n }={ cls:=.type "list",data:=.seq (its.set j u).toArray n }:=by
 simp [Obj.mapSeq]
theorem Inv.lst {pins:List (Addr×Obj)}{σ:St}{H:Hp}{s:Shared}{p:Addr}{xs:List V} (I:Inv X pins σ H s) (h:H p=some (.lst xs)) :
  ∃ (its:List Value) (n:Nat),bX xs its∧s.heap.get? p=some { cls:=.type "list",data:=.seq its.toArray n }∧xs.length≤sizeLine:=by
 obtain⟨z,its,n,r,e⟩:=I.hok p _ h
 exact⟨its,n,r,e,z⟩
theorem Inv.lstUpd {pins:List (Addr×Obj)}{σ:St}{H:Hp}{s:Shared}{p:Addr}{xs ys:List V}{its its':List Value}{n n':Nat}{f:Obj→Obj} (I:Inv X pins σ H s) (h:H p=some (.lst xs))
  (ho:s.heap.get? p=some { cls:=.type "list",data:=.seq its.toArray n }) (hf:f { cls:=.type "list",data:=.seq its.toArray n }={ cls:=.type "list",data:=.seq its'.toArray n' }) (r:bX ys its') (hz:ys.length≤sizeLine) (t:Nat) :
  Inv X pins σ (upd H p (.lst ys)) { s with heap:=s.heap.update p f,toks:=t }:=by
 have e:(s.heap.update p f).get? p=some { cls:=.type "list",data:=.seq its'.toArray n' }:=by
  rw[Heap.get?_update_self f ho (by rw[hf] <;> rfl),hf]
 refine I.write (x:=p) (e:=p) (by rw[h];trivial) (.inl rfl) (fun b u hb q=>(Heap.get?_update_other _ _ (Ne.symm hb)).trans q) ⟨_,e⟩ ?_
 exact⟨hz,its',n',r,e⟩
noncomputable def rSetL:V→V→V→Hp→(Hp→Prop)→Prop:=fun o i v H Q=>∃ p xs k j,o=.ref p∧i=.int k∧H p=some (.lst xs)∧ixN xs.length k=some j∧Q (upd H p (.lst (xs.set j v)))
theorem set_list:PSet X rSetL:=by
 intro pins s σ H o i v ov iv u Q I ro ri rv h
 obtain⟨p,xs,k,j,rfl,rfl,hp,hj,q⟩:=h
 cases ro
 obtain⟨t,rfl⟩:=ri
 obtain⟨its,n,r,ho,hz⟩:=I.lst hp
 obtain⟨h1,h2,h3,h4⟩:=ixN_seq hj
 have hl:=r.length
 have hn:=line63
 have I':Inv X pins σ (upd H p (.lst (xs.set j v))) { s with heap:=s.heap.update p (Obj.mapSeq (·.setIfInBounds j u)) }:=
  I.lstUpd hp ho (mapSeq_set its n j u) (r.set rv j) (by rw[List.length_set];exact hz) s.toks
 by_cases h0:0≤k
 ·have hk:k.toNat=j:=by
   rw[seqIndex_of h0 h4] at h1
   exact Option.some.inj h1
  exact PySem.W.ki_setAt ho h0 (by omega) (by rw[List.size_toArray,← hl];exact h4) (by rw[hk];exact⟨_,I',q⟩)
 ·have hk:(k+(its.toArray.size:Int)).toNat=j:=by
   rw[seqIndex_neg (by omega) h3] at h1
   rw[List.size_toArray,← hl]
   exact Option.some.inj h1
  exact PySem.W.ki_setBack ho (by omega) (by rw[List.size_toArray,← hl];exact h3) (by omega) (by rw[hk];exact⟨_,I',q⟩)
theorem slice_bounds (lo hi:Option Int) (n:Nat):(sliceBounds lo hi none n).1=((HT.sIx n 0 lo:Nat):Int)∧(sliceBounds lo hi none n).2.1=((HT.sIx n n hi:Nat):Int)∧(sliceBounds lo hi none n).2.2=1:=by
 refine⟨?_,?_,rfl⟩
 ·cases lo with
  | none=>simp [sliceBounds,HT.sIx]
  | some i=>
   simp only [sliceBounds,HT.sIx,Option.getD_none,show (1:Int) > 0 by decide,if_true]
   by_cases h:i < 0
   ·simp only [h,if_true] <;> omega
   ·simp only [h,if_false] <;> omega
 ·cases hi with
  | none=>simp [sliceBounds,HT.sIx]
  | some i=>
   simp only [sliceBounds,HT.sIx,Option.getD_none,show (1:Int) > 0 by decide,if_true]
   by_cases h:i < 0
   ·simp only [h,if_true] <;> omega
   ·simp only [h,if_false] <;> omega
theorem slicePick_cut (its:List Value) (lo hi:Option Int):slicePick its.toArray lo hi none=((its.drop (HT.sIx its.length 0 lo)).take (HT.sIx its.length its.length hi - HT.sIx its.length 0 lo)).toArray:=by
 obtain⟨h1,h2,h3⟩:=slice_bounds lo hi its.toArray.size
 unfold slicePick
 rw[h1,h2,h3]
 simp only [sliceRange_one,pick_run,List.size_toArray] <;> rfl
noncomputable def rSlL (K:PySem.W.Frag):V→Option Int→Option Int→Hp→VK→Prop:=fun x lo hi H Q=>∃ a xs,x=.ref a∧bT K H a xs∧∀ p,H p=none→Q (.ref p) (upd H p (.lst (cutV xs lo hi)))
theorem sl_list:SlR X (rSlL X.K):=by
 intro pins s σ H x v vl vu lo hi sl Q I rx hs pl pu h
 obtain⟨a,xs,rfl,hx,q⟩:=h
 cases rx
 obtain⟨its,r,ht,hz⟩:=I.list hx
 have hlen:=r.length
 refine⟨"list",_,slot_list_getitem.lookup,ht.isList.typeIs,?_⟩
 refine wpAny_getItem_list_slice ht.isList hs pl pu .none (by simp) ?_ (by rw[List.size_toArray] <;> omega)
 rw[slicePick_cut,← hlen]
 refine⟨.ref s.heap.objs.size,_,I.laid (t':=s.toks) (o:=.lst (cutV xs lo hi)) (fun b ob q=>Heap.get?_push_of_some _ q) (Nat.le_refl _) ?_,rfl,q _ (I.hok.fresh (Nat.le_refl _))⟩
 exact⟨Nat.le_trans (cutV_length xs lo hi) hz,_,0,(r.drop (HT.sIx xs.length 0 lo)).take (HT.sIx xs.length xs.length hi - HT.sIx xs.length 0 lo),Heap.get?_push_size _ rfl⟩
noncomputable def flatV:V→Bool
 | .non=>true
 | .bl _=>true
 | .int _=>true
 | .str _=>true
 | _=>false
noncomputable def eqV:V→V→Bool
 | .non,.non=>true
 | .bl a,.bl b=>a == b
 | .bl a,.int b=>(if a then 1 else 0) == b
 | .int a,.bl b=>a == (if b then 1 else 0)
 | .int a,.int b=>a == b
 | .str a,.str b=>a == b
 | _,_=>false
theorem eqAt_V {A:Around}{s:Shared}{y x:V}{u v:Value} (ry:bS y u) (rx:bS x v) (fy:flatV y=true) (fx:flatV x=true):SeqAt.EqAt A s u v (eqV y x):=by
 cases y with
 | non=>
  cases ry
  cases x with
  | non=>cases rx;exact SeqAt.EqAt.same _
  | bl b=>cases rx;exact SeqAt.EqAt.none_bool b
  | int b=>obtain⟨t,rfl⟩:=rx;exact SeqAt.EqAt.none_int b t
  | str b=>obtain⟨t,rfl⟩:=rx;exact SeqAt.EqAt.none_str b t
  | _=>exact absurd (show false=true from fx) Bool.false_ne_true
 | bl a=>
  cases ry
  cases x with
  | non=>cases rx;exact SeqAt.EqAt.bool_none a
  | bl b=>cases rx;exact SeqAt.EqAt.bool_bool a b
  | int b=>obtain⟨t,rfl⟩:=rx;exact SeqAt.EqAt.bool_int a b t
  | str b=>obtain⟨t,rfl⟩:=rx;exact SeqAt.EqAt.bool_str a b t
  | _=>exact absurd (show false=true from fx) Bool.false_ne_true
 | int a=>
  obtain⟨t',rfl⟩:=ry
  cases x with
  | non=>cases rx;exact SeqAt.EqAt.int_none a t'
  | bl b=>cases rx;exact SeqAt.EqAt.int_bool a t' b
  | int b=>obtain⟨t,rfl⟩:=rx;exact SeqAt.EqAt.int_int a t' b t
  | str b=>obtain⟨t,rfl⟩:=rx;exact SeqAt.EqAt.int_str a t' b t
  | _=>exact absurd (show false=true from fx) Bool.false_ne_true
 | str a=>
  obtain⟨t',rfl⟩:=ry
  cases x with
  | non=>cases rx;exact SeqAt.EqAt.str_none a t'
  | bl b=>cases rx;exact SeqAt.EqAt.str_bool a t' b
  | int b=>obtain⟨t,rfl⟩:=rx;exact SeqAt.EqAt.str_int a t' b t
  | str b=>obtain⟨t,rfl⟩:=rx;exact SeqAt.EqAt.str_str a t' b t
  | _=>exact absurd (show false=true from fx) Bool.false_ne_true
 | _=>exact absurd (show false=true from fy) Bool.false_ne_true
noncomputable def eqU (x:V) (u:Value):Bool:=match u with
 | .none=>eqV .non x
 | .bool b=>eqV (.bl b) x
 | .int i _=>eqV (.int i) x
 | .str z _=>eqV (.str z) x
 | _=>false
theorem eqU_of {x y:V}{u:Value} (r:bS y u) (f:flatV y=true):eqU x u=eqV y x:=by
 cases y with
 | non=>cases r;rfl
 | bl b=>cases r;rfl
 | int i=>obtain⟨t,rfl⟩:=r;rfl
 | str z=>obtain⟨t,rfl⟩:=r;rfl
 | _=>exact absurd (show false=true from f) Bool.false_ne_true
theorem any_eqU {x:V}:∀ {xs:List V}{us:List Value},bX xs us→xs.all flatV=true→us.any (eqU x)=xs.any fun y=>eqV y x
 | _,_,.nil,_=>rfl
 | y::xs,u::us,.cons r t,f=>by
  rw[List.all_cons,Bool.and_eq_true] at f
  rw[List.any_cons,List.any_cons,eqU_of r f.1,any_eqU t f.2]
theorem mem_eqAt {A:Around}{s:Shared}{x:V}{v:Value} (rx:bS x v) (fx:flatV x=true):∀ {xs:List V}{us:List Value},bX xs us→xs.all flatV=true→∀ u∈us,SeqAt.EqAt A s u v (eqU x u)
 | _,_,.nil,_=>fun u hu=>by cases hu
 | y::xs,u::us,.cons r t,f=>fun u' hu=>by
  rw[List.all_cons,Bool.and_eq_true] at f
  rcases List.mem_cons.mp hu with rfl | hu
  ·rw[eqU_of r f.1];exact eqAt_V r rx f.1 fx
  ·exact mem_eqAt rx fx t f.2 u' hu
noncomputable def inV (x:V) (xs:List V):Bool:=xs.any fun y=>eqV y x
noncomputable def rIn (K:PySem.W.Frag) (neg:Bool):R2:=fun x y H Q=>∃ p xs,y=.ref p∧(bT K H p xs∨bR K H p xs)∧flatV x=true∧xs.all flatV=true∧Q (.bl (if neg then !inV x xs else inV x xs)) H
theorem op_in_seq:OpR X (compareOp .In) (rIn X.K false):=by
 intro pins s σ H x y v u Q I rx ry h
 obtain⟨p,xs,rfl,hq,fx,fs,q⟩:=h
 cases ry
 rcases hq with hq | hq
 ·obtain⟨its,r,pl,hz⟩:=I.list hq
  refine SeqAt.in_listAt (eqU x) pl.isList (fun w hw=>mem_eqAt rx fx r fs w (by simpa using hw)) ⟨.bl _,H,I,rfl,?_⟩
  rw[show its.toArray.any (eqU x)=its.any (eqU x) by simp,any_eqU r fs]
  exact q
 ·obtain⟨its,r,pl,hz⟩:=I.tuple hq
  refine SeqAt.in_tupleAt (eqU x) pl (fun w hw=>mem_eqAt rx fx r fs w (by simpa using hw)) ⟨.bl _,H,I,rfl,?_⟩
  rw[show its.toArray.any (eqU x)=its.any (eqU x) by simp,any_eqU r fs]
  exact q
theorem call_len_seq:eJ X (.builtin "len") (fun xs H Q=>∃ p ys,xs=[.ref p]∧(bT X.K H p ys∨bR X.K H p ys)∧Q (.int ys.length) H):=by
 intro pins s σ H xs us Q I r h
 obtain⟨p,ys,rfl,hq,q⟩:=h
 obtain⟨u,rfl,rx⟩:=vals1 r
 cases rx
 have hn:=line63
 rcases hq with hq | hq
 ·obtain⟨its,r',pl,hz⟩:=I.list hq
  have hlen:=r'.length
  exact Calls.call_len_list pl.isList (by simp only [List.size_toArray] <;> omega) ⟨.int ys.length,H,I.tok _,⟨s.toks+1,by rw[List.size_toArray,hlen]⟩,q⟩
 ·obtain⟨its,r',pl,hz⟩:=I.tuple hq
  have hlen:=r'.length
  exact len_tuple pl (by simp only [List.size_toArray] <;> omega) ⟨.int ys.length,H,I.tok _,⟨s.toks+1,by rw[List.size_toArray,hlen]⟩,q⟩
theorem call_list_of:eJ X (.type "list") (fun xs H Q=>∃ p ys,xs=[.ref p]∧(bT X.K H p ys∨bR X.K H p ys)∧∀ l,H l=none→Q (.ref l) (upd H l (.lst ys))):=by
 intro pins s σ H xs us Q I r h
 obtain⟨p,ys,rfl,hq,q⟩:=h
 obtain⟨u,rfl,rx⟩:=vals1 r
 cases rx
 have fin:∀ (its:List Value),bX ys its→ys.length≤sizeLine→∀ (h':Heap) (c':Nat),(∀ b o',s.heap.get? b=some o'→h'.get? b=some o')→
   h'.get? s.heap.objs.size=some { cls:=.type "list",dict:=none,data:=.seq its.toArray c',slots:=#[] }→EP X pins σ Q (.ref s.heap.objs.size) { s with heap:=h' }:=fun its r' hz h' c' kp e=>
  ⟨.ref s.heap.objs.size,_,I.laid (t':=s.toks) kp (Nat.le_refl _) (show cZ X.prog X.w _ h' _ (.lst ys) from ⟨hz,its,c',r',e⟩),rfl,q _ (I.hok.fresh (Nat.le_refl _))⟩
 rcases hq with hq | hq
 ·obtain⟨its,r',pl,hz⟩:=I.list hq
  have hlen:=r'.length
  obtain⟨o,ho,hc,n,hd⟩:=pl.isList
  exact call_list_seq p (.inl rfl) ho hc hd (fun h' c' kp e=>fin its r' hz h' c' kp e) (by simp only [List.size_toArray] <;> omega)
 ·obtain⟨its,r',pl,hz⟩:=I.tuple hq
  have hlen:=r'.length
  obtain⟨o,ho,hc,n,hd⟩:=pl
  exact call_list_seq p (.inr rfl) ho hc hd (fun h' c' kp e=>fin its r' hz h' c' kp e) (by simp only [List.size_toArray] <;> omega)
theorem call_tuple_of:eJ X (.type "tuple") (fun xs H Q=>∃ p ys,xs=[.ref p]∧((bT X.K H p ys∧∀ l,H l=none→Q (.ref l) (upd H l (.tup ys)))∨(bR X.K H p ys∧Q (.ref p) H))):=by
 intro pins s σ H xs us Q I r h
 obtain⟨p,ys,rfl,h⟩:=h
 obtain⟨u,rfl,rx⟩:=vals1 r
 cases rx
 rcases h with ⟨hq,q⟩ | ⟨hq,q⟩
 ·obtain⟨its,r',pl,hz⟩:=I.list hq
  have hlen:=r'.length
  refine call_tuple_list pl.isList (fun h' kp=>?_) (by simp only [List.size_toArray] <;> omega)
  have I1:Inv X pins σ H { s with heap:=h' }:=I.kept (t':=s.toks) kp
  have I2:Inv X pins σ (upd H h'.objs.size (.tup ys)) { s with heap:=h'.push { cls:=.type "tuple",data:=.seq its.toArray } }:=
   I1.laid (t':=s.toks) (fun b o e=>Heap.get?_push_of_some _ e) (Nat.le_refl _) (show cZ X.prog X.w _ _ _ (.tup ys) from ⟨hz,its,r',IsTup.new _ _⟩)
  exact⟨.ref h'.objs.size,_,I2,rfl,q _ (I1.hok.fresh (Nat.le_refl _))⟩
 ·obtain⟨its,r',pl,hz⟩:=I.tuple hq
  exact call_tuple_same pl ⟨.ref p,H,I,rfl,q⟩
noncomputable def tyV (K:PySem.W.Frag) (T:String) (x:V) (H:Hp):Prop:=match x with
 | .str _=>T = "str"
 | .int _=>T = "int"
 | .ref p=>(T = "list" ∧ ∃ xs,bT K H p xs)∨(T = "tuple" ∧ ∃ o,K.lookup p=some o∧o.cls=.type "tuple" ∧ o.dict=none)∨
   (T = "dict" ∧ ((∃ kvs,H p=some (.dK kvs))∨∃ kvs,H p=some (.dT kvs)))∨(T = "set" ∧ ∃ S n,H p=some (.set S n))
 | _=>False
theorem tyV_is {pins:List (Addr×Obj)}{σ:St}{H:Hp}{s:Shared}{T:String}{x:V}{v:Value} (I:Inv X pins σ H s) (r:bS x v) (ty:tyV X.K T x H) :
  s.TypeIs v T∧∀ a,v=.ref a→∃ ob,s.heap.get? a=some ob∧ob.dict=none:=by
 cases x with
 | str z=>
  obtain⟨t,rfl⟩:=r
  cases (show T = "str" from ty)
  exact⟨typeIs_str s z t,fun _ e=>nomatch e⟩
 | int i=>
  obtain⟨t,rfl⟩:=r
  cases (show T = "int" from ty)
  exact⟨typeIs_int s i t,fun _ e=>nomatch e⟩
 | ref p=>
  cases r
  rcases ty with ⟨rfl,xs,hq⟩ | ⟨rfl,o,hk,hc,hd⟩ | ⟨rfl,hk⟩ | ⟨rfl,S,n,hk⟩
  ·obtain⟨its,_,pl,_⟩:=I.list hq
   refine⟨pl.isList.typeIs,fun a e=>?_⟩
   cases e
   obtain⟨o,n,e,c,hd,_⟩:=pl
   exact⟨o,e,hd⟩
  ·refine⟨⟨o,I.kIn p o hk,hc⟩,fun a e=>?_⟩
   cases e
   exact⟨o,I.kIn _ o hk,hd⟩
  ·have z:∃ o,s.heap.get? p=some o∧o.ExactDict:=by
    rcases hk with ⟨kvs,hk⟩ | ⟨kvs,hk⟩
    ·obtain⟨_,_,_,_,o,_,_,e,ex,_⟩:=I.hok p _ hk
     exact⟨o,e,ex⟩
    ·obtain⟨_,_,_,_,o,_,_,e,ex,_⟩:=I.hok p _ hk
     exact⟨o,e,ex⟩
   obtain⟨o,e,ex⟩:=z
   refine⟨⟨o,e,ex.1⟩,fun a e2=>?_⟩
   cases e2
   exact⟨o,e,ex.2.1⟩
  ·obtain⟨o,_,_,_,e,ex,_⟩:=I.hok p _ hk
   refine⟨⟨o,e,ex.1⟩,fun a e2=>?_⟩
   cases e2
   exact⟨o,e,ex.2.1⟩
 | _=>exact False.elim ty
noncomputable def tBM (K:PySem.W.Frag) (T:String) (r:V→List V→Hp→VK→Prop) (to:TE) (t:TA):TE:=fun σ H Q=>to σ H fun x H1=>tyV K T x H1∧t σ H1 fun xs H2=>r x xs H2 Q
variable {o e:Expr}{es:List Expr}{to:TE}{t:TA}{name:Str}{apos cpos:Pos}{T id:String}{r:V→List V→Hp→VK→Prop}
theorem pe_bm (pa:PlainAttrs T) (slot:Slot T name id) (hty:typeOf (.builtin id)=pure (.type "method_descriptor")) (hm:MtR X id r) (ho:PE X o to) (ha:PA X (e::es) t)
  (hbase:attributeBase o name X.env (eval o X.env)=eval o X.env:=by rfl)
  (hfew:((backTo cpos (starEach (e::es) X.env)).all (fun x=>!x.1) && (backToKw cpos (keywordEach [] X.env)).all (fun x=>x.1.isSome)
   && decide ((e::es).length+([]:List Keyword).length+(if ([]:List Keyword).isEmpty then 0 else 1) < 30))=true:=by rfl)
  (hline:(apos.endLine == cpos.line)=true:=by rfl) (hs:starEach (e::es) X.env=(false,eval e X.env)::starEach es X.env:=by rfl) (hplain:(backTo cpos (starEach es X.env)).any (·.1)=false:=by rfl) :
  PE X (.Call (.Attribute o name apos) (e::es) [] cpos) (tBM X.K T r to t):=by
 intro pins s σ H Q I h
 refine wpAny_Call_method_late hbase hfew hline rfl (d0 (ho pins s σ H _ I h) fun v s1 ⟨x,H1,I1,r1,ty,q1⟩=>?_)
 obtain⟨h1,h2⟩:=tyV_is I1 r1 ty
 refine⟨T,id,pa,slot,hty,h1,h2,?_⟩
 have hA:=ha cpos pins s1 σ H1 _ I1 q1
 rw[hs] at hA ⊢
 refine Calls.callWith_builtin (by show (false || (backTo cpos (starEach es X.env)).any (·.1))=false;rw[hplain] <;> rfl) (Calls.evalArgs_plain ?_)
 exact d0 hA fun us s2 ⟨vs,H2,I2,r2,q2⟩=>hm pins s2 σ H2 x vs v us Q I2 r1 r2 q2
end
end L2
namespace L2
open PySem PySem.Spec PyProof.Rows
noncomputable def MtM (X:Cx) (id:String) (r:V→List V→Hp→VK→Prop):Prop:=
 ∀ (pins:List (Addr×Obj)) (s:Shared) (σ:St) (H:Hp) (x:V) (xs:List V) (v:Value) (us:List Value) (Q:VK),Inv X pins σ H s→bS x v→bX xs us→r x xs H Q→
  wpAny (model X.prog X.w) X.A (call (.builtin id) (v::us)) (EP X pins σ Q) X.xe s
theorem bX.one {x:V}{us:List Value} (h:bX [x] us):∃ u,us=[u]∧bS x u:=vals1 h
theorem bX.two {x y:V}{us:List Value} (h:bX [x,y] us):∃ u v,us=[u,v]∧bS x u∧bS y v:=vals2 h
theorem bX.rep {xs:List V}{us:List Value} (h:bX xs us):∀ k:Nat,bX (List.replicate k xs).flatten (List.replicate k us).flatten
 | 0=>.nil
 | k+1=>by
  rw[List.replicate_succ,List.replicate_succ,List.flatten_cons,List.flatten_cons]
  exact bX.append h (bX.rep h k)
theorem foldl_rep (its:List Value):∀ (k:Nat) (acc:List Value),
  List.foldl (fun x1 x2=>x1++x2) acc.toArray (List.replicate k its.toArray)=(acc++(List.replicate k its).flatten).toArray
 | 0,acc=>by simp
 | k+1,acc=>by
  have e:acc.toArray++its.toArray=(acc++its).toArray:=by simp
  have e2:(acc++its)++(List.replicate k its).flatten=acc++(List.replicate (k+1) its).flatten:=by
   rw[List.replicate_succ,List.flatten_cons,List.append_assoc]
  rw[← e2,← foldl_rep its k (acc++its),← e,List.replicate_succ,List.foldl_cons]
section
variable {X:Cx}{pins:List (Addr×Obj)}{σ:St}{H:Hp}{s:Shared}{l b:Addr}{xs ys zs:List V}
theorem Inv.lset {its its':List Value}{n:Nat}{f:Array Value→Array Value}{t':Nat} (I:Inv X pins σ H s) (hH:H l=some (.lst xs))
  (e:s.heap.get? l=some { cls:=.type "list",data:=.seq its.toArray n }) (hf:f its.toArray=its'.toArray) (hv:bX ys its') (hz:ys.length≤sizeLine) :
  Inv X pins σ (upd H l (.lst ys)) { s with heap:=s.heap.update l (Obj.mapSeq f),toks:=t' }:=by
 have q:=PySem.IsL.update e f
 rw[hf] at q
 refine I.write (x:=l) (e:=l) (by rw[hH];exact trivial) (.inl rfl) (fun b' u hb hu=>(Heap.get?_update_other s.heap (Obj.mapSeq f) (Ne.symm hb)).trans hu) ⟨_,q⟩ ?_
 exact⟨hz,its',_,hv,q⟩
theorem Inv.lnew {its:List Value}{t':Nat} (I:Inv X pins σ H s) (hv:bX ys its) (hz:ys.length≤sizeLine) :
  Inv X pins σ (upd H s.heap.objs.size (.lst ys)) { s with heap:=s.heap.push { cls:=.type "list",data:=.seq its.toArray },toks:=t' }:=
 I.laid (fun _ _ q=>Heap.get?_push_of_some _ q) (Nat.le_refl _) ⟨hz,its,0,hv,Heap.get?_push_size _ rfl⟩
theorem Inv.fresh (I:Inv X pins σ H s):H s.heap.objs.size=none:=I.hok.fresh (Nat.le_refl _)
theorem Inv.lstM (I:Inv X pins σ H s) (hH:H l=some (.lst xs)):xs.length≤sizeLine∧∃ (its:List Value) (n:Nat),bX xs its∧xs.length=its.length∧s.heap.get? l=some { cls:=.type "list",data:=.seq its.toArray n }:=by
 obtain⟨z,its,n,r,e⟩:=I.hok l _ hH
 exact⟨z,its,n,r,r.length,e⟩
end
section
variable {X:Cx}
noncomputable def rAppend:V→List V→Hp→VK→Prop:=fun x vs H Q=>∃ l xs y,x=.ref l∧vs=[y]∧H l=some (.lst xs)∧xs.length < sizeLine∧Q .non (upd H l (.lst (xs++[y])))
theorem cQ:MtM X "list.append" rAppend:=by
 intro pins s σ H x vs v us Q I rx rv h
 obtain⟨l,xs,y,rfl,rfl,hH,hz,q⟩:=h
 cases rx
 obtain⟨u,rfl,ru⟩:=rv.one
 obtain⟨z,its,n,r,hl,e⟩:=I.lstM hH
 refine call_meets F.slot_list_append ⟨_,e,rfl⟩ F.entry_list_append (F.args_list_append_2 _ _) (PySem.list_append l its.toArray n u (by rw[List.size_toArray];omega)) ⟨e,?_⟩
 refine⟨.non,_,I.lset (its':=its++[u]) hH e (by simp) (r.append (.cons ru .nil)) ?_,rfl,q⟩
 rw[List.length_append,List.length_singleton]
 omega
noncomputable def rCat:R2:=fun x y H Q=>∃ l b xs zs,x=.ref l∧y=.ref b∧H l=some (.lst xs)∧H b=some (.lst zs)∧xs.length+zs.length≤sizeLine∧∀ p,H p=none→Q (.ref p) (upd H p (.lst (xs++zs)))
theorem op_cat:OpR X (binaryOp .Add) rCat:=by
 intro pins s σ H x y v u Q I rx ry h
 obtain⟨l,b,xs,zs,rfl,rfl,hH,hB,hz,q⟩:=h
 cases rx
 cases ry
 obtain⟨z,its,n,r,hl,e⟩:=I.lstM hH
 obtain⟨z2,its2,n2,r2,hl2,e2⟩:=I.lstM hB
 refine PySem.P.add_list e e2 ?_ (by rw[List.size_toArray,List.size_toArray];omega)
 have ea:its.toArray++its2.toArray=(its++its2).toArray:=by simp
 rw[ea]
 exact⟨.ref _,_,I.lnew (t':=s.toks) (r.append r2) (by rw[List.length_append];omega),rfl,q _ I.fresh⟩
theorem len_rep {α:Type} (xs:List α) (k:Nat):(List.replicate k xs).flatten.length=k * xs.length:=by
 induction k with
 | zero=>simp
 | succ k ih=>rw[List.replicate_succ,List.flatten_cons,List.length_append,ih,Nat.succ_mul,Nat.add_comm]
end
section
variable {prog:Program}{w:World}{A:Around}{E:Value→Shared→Prop}{s:Shared}
end
section
variable {X:Cx}
end
end L2
namespace L2
open PySem PySem.Spec PyProof.Rows
section
variable {κ:Type} [DecidableEq κ]
noncomputable def dY (kvs:List (κ×V)) (k:κ):Option V:=(kvs.find? fun kv=>decide (kv.1=k)).map (·.2)
noncomputable def putK (kvs:List (κ×V)) (k:κ) (v:V):List (κ×V):=
 if (kvs.any fun kv=>decide (kv.1=k))=true then kvs.map (fun kv=>if kv.1=k then (kv.1,v) else kv) else kvs++[(k,v)]
theorem dM {p:κ×V}{r:List (κ×V)}{k:κ} (e:p.1=k):dY (p::r) k=some p.2:=by simp [dY,List.find?_cons,e]
theorem dN {p:κ×V}{r:List (κ×V)}{k:κ} (e:¬ p.1=k):dY (p::r) k=dY r k:=by simp [dY,List.find?_cons,e]
theorem valV_any (k:κ):∀ kvs:List (κ×V),(kvs.any fun kv=>decide (kv.1=k))=(dY kvs k).isSome
 | []=>rfl
 | p::r=>by
  rw[List.any_cons]
  by_cases e:p.1=k
  ·simp only [dM e,decide_eq_true e,Bool.true_or,Option.isSome_some]
  ·rw[dN e,decide_eq_false e,Bool.false_or];exact valV_any k r
theorem valV_map (k j:κ) (y:V):∀ kvs:List (κ×V),dY (kvs.map fun kv=>if kv.1=k then (kv.1,y) else kv) j=(dY kvs j).map fun x=>if j=k then y else x
 | []=>rfl
 | p::r=>by
  have ih:=valV_map k j y r
  rw[List.map_cons]
  by_cases h:p.1=k
  ·rw[if_pos h]
   by_cases e:p.1=j
   ·rw[dM (p:=(p.1,y)) e,dM e,Option.map_some,if_pos (e.symm.trans h)]
   ·rw[dN (p:=(p.1,y)) e,dN e,ih]
  ·rw[if_neg h]
   by_cases e:p.1=j
   ·rw[dM (p:=p) e,dM e,Option.map_some,if_neg (fun z=>h (e.trans z))]
   ·rw[dN (p:=p) e,dN e,ih]
theorem valV_snoc (k j:κ) (y:V):∀ kvs:List (κ×V),dY kvs k=none→dY (kvs++[(k,y)]) j=if j=k then some y else dY kvs j
 | [],_=>by
  by_cases e:k=j
  ·rw[if_pos e.symm];exact dM (p:=(k,y)) e
  ·rw[if_neg (fun z=>e z.symm)];exact dN (p:=(k,y)) e
 | p::r,hn=>by
  rw[List.cons_append]
  have hk:¬ p.1=k:=fun z=>by rw[dM z] at hn;cases hn
  rw[dN hk] at hn
  have ih:=valV_snoc k j y r hn
  by_cases e:p.1=j
  ·rw[dM e,dM e,if_neg (fun z=>hk (e.trans z))]
  ·rw[dN e,dN e,ih]
theorem valV_put (kvs:List (κ×V)) (k j:κ) (y:V):dY (putK kvs k y) j=if j=k then some y else dY kvs j:=by
 unfold putK
 by_cases a:(kvs.any fun kv=>decide (kv.1=k))=true
 ·rw[if_pos a,valV_map]
  rw[valV_any] at a
  by_cases e:j=k
  ·obtain⟨x,hx⟩:=Option.isSome_iff_exists.mp a
   rw[if_pos e,e,hx,Option.map_some,if_pos rfl]
  ·rw[if_neg e]
   cases dY kvs j with
   | none=>rfl
   | some x=>rw[Option.map_some,if_neg e]
 ·rw[if_neg a]
  refine valV_snoc k j y kvs ?_
  rw[valV_any] at a
  cases q:dY kvs k with
  | none=>rfl
  | some x=>rw[q] at a;exact (a rfl).elim
theorem length_putK (kvs:List (κ×V)) (k:κ) (v:V):(putK kvs k v).length≤kvs.length+1:=by
 unfold putK
 split
 ·rw[List.length_map];omega
 ·rw[List.length_append,List.length_cons,List.length_nil];omega
theorem RelO.isSome_eq {o:Option V}{u:Option Value} (r:RelO o u):o.isSome=u.isSome:=by
 cases o with
 | none=>cases u with
  | none=>rfl
  | some _=>exact (show False from r).elim
 | some _=>cases u with
  | none=>exact (show False from r).elim
  | some _=>rfl
theorem RelO.getD {o:Option V}{u:Option Value}{d:V}{d':Value} (r:RelO o u) (rd:bS d d'):bS (o.getD d) (u.getD d'):=by
 cases o with
 | none=>cases u with
  | none=>exact rd
  | some _=>exact (show False from r).elim
 | some _=>cases u with
  | none=>exact (show False from r).elim
  | some _=>exact r
theorem KV.val {kvs:List (κ×V)}{vs:List (κ×Value)} (r:KV kvs vs) (k:κ):RelO (dY kvs k) (valueAt vs k):=by
 unfold KV at r
 induction r with
 | nil=>exact True.intro
 | @cons p q ps qs h t ih=>
  obtain⟨h1,h2⟩:=h
  by_cases e:p.1=k
  ·have e':q.1=k:=h1.symm.trans e
   have b:valueAt (q::qs) k=some q.2:=by simp [valueAt,List.find?_cons,e']
   rw[dM e,b];exact h2
  ·have e':¬ q.1=k:=fun z=>e (h1.trans z)
   have b:valueAt (q::qs) k=valueAt qs k:=by simp [valueAt,List.find?_cons,e']
   rw[dN e,b];exact ih
theorem KV.any {kvs:List (κ×V)}{vs:List (κ×Value)} (r:KV kvs vs) (k:κ):(kvs.any fun kv=>decide (kv.1=k))=vs.any fun kv=>decide (kv.1=k):=by
 unfold KV at r
 induction r with
 | nil=>rfl
 | cons h t ih=>rw[List.any_cons,List.any_cons,ih,h.1]
theorem KV.repl {kvs:List (κ×V)}{vs:List (κ×Value)} (r:KV kvs vs) (k:κ) {y:V}{u:Value} (ry:bS y u) :
  KV (kvs.map fun kv=>if kv.1=k then (kv.1,y) else kv) (vs.map fun kv=>if kv.1=k then (kv.1,u) else kv):=by
 unfold KV at r ⊢
 induction r with
 | nil=>exact .nil
 | @cons p q ps qs h t ih=>
  rw[List.map_cons,List.map_cons]
  refine .cons ?_ ih
  obtain⟨h1,h2⟩:=h
  by_cases e:p.1=k
  ·rw[if_pos e,if_pos (h1.symm.trans e)];exact⟨h1,ry⟩
  ·rw[if_neg e,if_neg (fun z=>e (h1.trans z))];exact⟨h1,h2⟩
theorem KV.put {kvs:List (κ×V)}{vs:List (κ×Value)} (r:KV kvs vs) (k:κ) {y:V}{u:Value} (ry:bS y u):KV (putK kvs k y) (stored vs k u):=by
 unfold putK stored
 rw[r.any k]
 by_cases e:(vs.any fun kv=>decide (kv.1=k))=true
 ·rw[if_pos e,if_pos e];exact r.repl k ry
 ·rw[if_neg e,if_neg e];exact Paired.snoc r ⟨rfl,ry⟩
theorem KV.length {kvs:List (κ×V)}{vs:List (κ×Value)} (r:KV kvs vs):kvs.length=vs.length:=Paired.length r
end
theorem kV_is {P:Program}{w:World}{k:Key}{u:Value} (r:bS (kV k) u):(dH P w).is k u=true:=by
 cases k with
 | inl i=>obtain⟨t,e⟩:=(show ∃ t,u=Value.int i t from r);subst e;exact mixKind_int P w i t
 | inr z=>cases z with
  | some x=>obtain⟨t,e⟩:=(show ∃ t,u=Value.str x t from r);subst e;exact mixKind_str P w x t
  | none=>obtain rfl:=(show u=Value.none from r);rfl
theorem items_are {P:Program}{w:World}:∀ {ks:List Key}{us:List Value},bX (ks.map kV) us→ItemsAre (dH P w) ks us
 | [],_,r=>by rw[List.map_nil] at r;cases r;exact .nil
 | k::ks,_,r=>by
  rw[List.map_cons] at r
  cases r with
  | cons h t=>exact .cons (kV_is h) (items_are t)
noncomputable abbrev KT (H:Hp):List (List Key×V)→List (List Key×Addr×Value)→Prop:=Paired fun p q=>p.1=q.1∧H q.2.1=some (.tup (p.1.map kV))∧bS p.2 q.2.2
theorem KT.val {H:Hp}{kvs:List (List Key×V)}{xs:List (List Key×Addr×Value)} (r:KT H kvs xs) (k:List Key):RelO (dY kvs k) ((atKey xs k).map (·.2)):=by
 induction r with
 | nil=>exact True.intro
 | @cons p q ps qs h t ih=>
  obtain⟨h1,_,h2⟩:=h
  by_cases e:p.1=k
  ·have e':q.1=k:=h1.symm.trans e
   have b:atKey (q::qs) k=some q.2:=by simp [atKey,List.find?_cons,e']
   rw[dM e,b];exact h2
  ·have e':¬ q.1=k:=fun z=>e (h1.trans z)
   have b:atKey (q::qs) k=atKey qs k:=by simp [atKey,List.find?_cons,e']
   rw[dN e,b];exact ih
theorem KT.repl {H:Hp}{kvs:List (List Key×V)}{xs:List (List Key×Addr×Value)} (r:KT H kvs xs) (k:List Key) {y:V}{u:Value} (ry:bS y u) :
  KT H (kvs.map fun kv=>if kv.1=k then (kv.1,y) else kv) (xs.map (putAt k u)):=by
 induction r with
 | nil=>exact .nil
 | @cons p q ps qs h t ih=>
  rw[List.map_cons,List.map_cons]
  refine .cons ?_ ih
  obtain⟨h1,h2,h3⟩:=h
  unfold putAt
  by_cases e:p.1=k
  ·rw[if_pos e,if_pos (h1.symm.trans e)];exact⟨h1,h2,ry⟩
  ·rw[if_neg e,if_neg (fun z=>e (h1.trans z))];exact⟨h1,h2,h3⟩
theorem KT.put {H:Hp}{kvs:List (List Key×V)}{xs:List (List Key×Addr×Value)} (r:KT H kvs xs) (k:List Key) {b:Addr}{y:V}{u:Value} (hb:H b=some (.tup (k.map kV))) (ry:bS y u) :
  KT H (putK kvs k y) (storedH xs k b u):=by
 have e:(kvs.any fun kv=>decide (kv.1=k))=(atKey xs k).isSome:=by
  rw[valV_any,(r.val k).isSome_eq,Option.isSome_map]
 unfold putK storedH
 rw[e]
 by_cases q:(atKey xs k).isSome=true
 ·rw[if_pos q,if_pos q];exact r.repl k ry
 ·rw[if_neg q,if_neg q];exact Paired.snoc r ⟨rfl,hb,ry⟩
theorem KT.keeps {H H':Hp}{kvs:List (List Key×V)}{xs:List (List Key×Addr×Value)} (r:KT H kvs xs) (ht:∀ b ys,H b=some (.tup ys)→H' b=some (.tup ys)):KT H' kvs xs:=
 Paired.mapP r fun _ _ z=>⟨z.1,ht _ _ z.2.1,z.2.2⟩
section
variable {P:Program}{w:World}{H:Hp}{h:Heap}{a:Addr}
theorem rd_of {u:HO} (ok:HOk P w H h) (e:Rd H a u):cZ P w H h a u:=e.ok ok
theorem dk_rd {kvs:List (Key×V)} (ok:HOk P w H h) (e:Rd H a (.dK kvs)):kvs.length≤sizeLine∧(a == sysModules)=false∧∃ vs,KV kvs vs∧h.DictOf (dH P w) a vs:=
 show cZ P w H h a (.dK kvs) from rd_of ok e
theorem dk_of {kvs:List (Key×V)} (ok:HOk P w H h) (e:H a=some (.dK kvs)):kvs.length≤sizeLine∧(a == sysModules)=false∧∃ vs,KV kvs vs∧h.DictOf (dH P w) a vs:=dk_rd ok (.inl e)
theorem key_of {ks:List Key} (ok:HOk P w H h) (e:H a=some (.tup (ks.map kV))):(tupleKind (dH P w)).is h ks a:=by
 obtain⟨_,its,r,o,h1,h2,n,h3⟩:=(show cZ P w H h a (.tup (ks.map kV)) from ok a _ e)
 exact⟨o,its.toArray,n,h1,h2,h3,by simpa using items_are r⟩
theorem dt_rd {kvs:List (List Key×V)} (ok:HOk P w H h) (e:Rd H a (.dT kvs)):kvs.length≤sizeLine∧(a == sysModules)=false∧
  ∃ xs,KT H kvs xs∧h.DictOfH (tupleKind (dH P w)) a xs:=by
 obtain⟨z,y,xs,r,o,es,ep,h1,h2,h3,h4,h5⟩:=(show cZ P w H h a (.dT kvs) from rd_of ok e)
 refine⟨z,y,xs,r,o,es,ep,h1,h2,h3,h4,fun x hx=>?_,h5⟩
 have all:∀ {l:List (List Key×V)}{m:List (List Key×Addr×Value)},KT H l m→∀ x∈m,(tupleKind (dH P w)).is h x.1 x.2.1:=by
  intro l m q
  induction q with
  | nil=>intro x hx;exact nomatch hx
  | @cons p q ps qs hq t ih=>
   intro x hx
   rcases List.mem_cons.mp hx with e | hx
   ·subst e
    exact key_of ok (by rw[← hq.1];exact hq.2.1)
   ·exact ih x hx
 exact all r x hx
theorem dt_of {kvs:List (List Key×V)} (ok:HOk P w H h) (e:H a=some (.dT kvs)):kvs.length≤sizeLine∧(a == sysModules)=false∧
  ∃ xs,KT H kvs xs∧h.DictOfH (tupleKind (dH P w)) a xs:=dt_rd ok (.inl e)
end
noncomputable def DGet (H:Hp) (a:Addr) (y:V) (r:Option V):Prop:=
 (∃ kvs k,Rd H a (.dK kvs)∧y=kV k∧r=dY kvs k)∨∃ kvs k b,Rd H a (.dT kvs)∧y=.ref b∧H b=some (.tup (k.map kV))∧r=dY kvs k
noncomputable def DPut (H:Hp) (a:Addr) (y v:V) (H':Hp):Prop:=
 (∃ kvs k,H a=some (.dK kvs)∧y=kV k∧kvs.length < sizeLine∧H'=upd H a (.dK (putK kvs k v)))∨
 ∃ kvs k b,H a=some (.dT kvs)∧y=.ref b∧H b=some (.tup (k.map kV))∧kvs.length < sizeLine∧H'=upd H a (.dT (putK kvs k v))
theorem DGet.k {H:Hp}{a:Addr}{kvs:List (Key×V)}{k:Key} (e:H a=some (.dK kvs)):DGet H a (kV k) (dY kvs k):=.inl ⟨kvs,k,.inl e,rfl,rfl⟩
theorem DPut.k {H:Hp}{a:Addr}{kvs:List (Key×V)}{k:Key}{v:V} (e:H a=some (.dK kvs)) (hl:kvs.length < sizeLine):DPut H a (kV k) v (upd H a (.dK (putK kvs k v))):=.inl ⟨kvs,k,e,rfl,hl,rfl⟩
section
variable {X:Cx}{pins:List (Addr×Obj)}{σ:St}{H:Hp}{s:Shared}{a:Addr}{y v:V}{u r:Value}{o:Option V}{A:Around}{E:Value→Shared→Prop}
theorem Inv.big (I:Inv X pins σ H s):sysModules < s.heap.objs.size:=by
 have h:mainGlobals < s.heap.objs.size:=(I.mod.glob.keeps I.bk).lt
 exact Nat.lt_trans (by decide) h
theorem d_write {h':Heap}{t':Nat}{ob:HO} (I:Inv X pins σ H s) (mu:Mut (H a)) (hs:Heap.SameBut a s.heap h') (he:∃ q,h'.get? a=some q) (new:cZ X.prog X.w (upd H a ob) h' a ob) :
  Inv X pins σ (upd H a ob) { s with heap:=h',toks:=t' }:=
 I.write (x:=a) (e:=a) mu (.inl rfl) (fun b q hb z=>(hs.2 b hb).trans z) he new
theorem dk_new {P:Program}{w:World}{H':Hp}{h':Heap}{kvs:List (Key×V)}{vs:List (Key×Value)} (z:kvs.length≤sizeLine) (hd:(a == sysModules)=false) (rel:KV kvs vs) (dd:h'.DictOf (dH P w) a vs) :
  cZ P w H' h' a (.dK kvs):=⟨z,hd,vs,rel,dd⟩
theorem d_setItem {H':Hp}{Q:Unit→Shared→Prop} (hu:A.units+1 < cLine) (I:Inv X pins σ H s) (g:DPut H a y v H') (ry:bS y u) (rv:bS v r) (h:∀ s',Inv X pins σ H' s'→Q () s') :
  wpAny (model X.prog X.w) A (setItem (.ref a) u r) Q E s:=by
 rcases g with ⟨kvs,k,e,ey,l,eH⟩ | ⟨kvs,k,b,e,ey,eb,l,eH⟩
 ·subst ey eH
  obtain⟨z,hd,vs,rel,dd⟩:=dk_of I.hok e
  have hz:vs.length≤sizeLine:=by rw[← rel.length];exact z
  have hl:(putK kvs k v).length≤sizeLine:=by have:=length_putK kvs k v;omega
  refine wpAny_setItem_pairs (hsz:=hz) (kV_is ry) dd fun h' dd' hs=>h _ ?_
  have he:∃ q,h'.get? a=some q:=let ⟨q,_,_,hq,_⟩:=dd';⟨q,hq⟩
  exact d_write I (by rw[e];exact True.intro) hs he (dk_new hl hd (rel.put k rv) dd')
 ·subst ey eH
  cases (show u=Value.ref b from ry)
  obtain⟨z,hd,xs,rel,dd⟩:=dt_of I.hok e
  have hz:xs.length≤sizeLine:=by rw[← Paired.length rel];exact z
  have hl:(putK kvs k v).length≤sizeLine:=by have:=length_putK kvs k v;omega
  refine wpAny_setItem_heap (hsz:=hz) (tupleKind_room_in1 hu) (key_of I.hok eb) dd fun h' dd' hs=>h _ ?_
  obtain⟨q,es,ep,hq,h2,h3,h4,_,h5⟩:=dd'
  refine d_write I (by rw[e];exact True.intro) hs ⟨q,hq⟩ ⟨hl,hd,_,(rel.put k eb rv).keeps fun c ys ec=>?_,q,es,ep,hq,h2,h3,h4,h5⟩
  rw[aQ (ne_of ec e (fun z=>nomatch z))]
  exact ec
end
section
variable {X:Cx}{pins:List (Addr×Obj)}{σ:St}{H:Hp}{s:Shared}{a:Addr}{kvs:List (Key×V)}{k:Key}{u:Value}{A:Around}{E:Value→Shared→Prop}
end
noncomputable def sDPut (td ty tv:TE):TS:=fun D σ H=>tv σ H fun v H1=>td σ H1 fun x H2=>ty σ H2 fun y H3=>∃ a H4,x=.ref a∧DPut H3 a y v H4∧D.nx σ H4
section
variable {X:Cx}{o i e value:Expr}{pos pos' tpos:Pos}{td ty tv:TE}
theorem ps_dput (hu:X.A.units+1 < cLine) (ho:PE X o td) (hi:PE X i ty) (hv:PE X value tv) (hs:swapsWith value (some (.Subscript o i pos')) pos.line X.env=pure false) :
  PS X (.Assign [.Subscript o i pos'] value pos) (sDPut td ty tv):=by
 intro pins s σ H D I h
 refine wpAny_Assign_Subscript (d0 (hv pins s σ H _ I h) fun r s1 ⟨v,H1,I1,rv,q1⟩=>d0 (ho pins s1 σ H1 _ I1 q1) fun u s2 ⟨x,H2,I2,rx,q2⟩=>d0 (hi pins s2 σ H2 _ I2 q2) fun iv s3 ⟨y,H3,I3,ry,a,H4,ex,g,q3⟩=>?_) hs
 subst ex
 obtain rfl:u=Value.ref a:=rx
 exact d_setItem hu I3 g ry rv fun s4 I4=>⟨σ,H4,I4,q3⟩
end
theorem dk_empty {P:Program}{w:World}{H:Hp} (h:Heap) (hb:sysModules < h.objs.size):cZ P w H (h.push { cls:=.type "dict",data:=.dict #[] }) h.objs.size (.dK []):=
 ⟨Nat.zero_le _,beq_eq_false_iff_ne.mpr (Ne.symm (Nat.ne_of_lt hb)),[],.nil,Heap.DictOf.new h⟩
noncomputable def tDNewK:TE:=fun _ H Q=>∀ p,H p=none→Q (.ref p) (upd H p (.dK []))
section
variable {X:Cx}{pos:Pos}
theorem pe_dnewK:PE X (.Dict [] [] pos) tDNewK:=fun pins s σ H Q I h=>
 wpAny_Dict_empty ⟨.ref s.heap.objs.size,_,I.laid (a:=s.heap.objs.size) (o:=.dK []) (t':=s.toks) (fun _ _ q=>Heap.get?_push_of_some _ q) (Nat.le_refl _) (dk_empty s.heap I.big),rfl,h _ (I.hok.fresh (Nat.le_refl _))⟩
end
structure M2 (X:Cx) (o:Expr) (m:Str) (apos:Pos) (e f:Expr) (cpos:Pos):Prop where
 base:attributeBase o m X.env (eval o X.env)=eval o X.env
 few:((backTo cpos (starEach [e,f] X.env)).all (fun x=>!x.1) && (backToKw cpos (keywordEach [] X.env)).all (fun x=>x.1.isSome)
  && decide (([e,f]:List Expr).length+([]:List Keyword).length+(if ([]:List Keyword).isEmpty then 0 else 1) < 30))=true
 line:(apos.endLine == cpos.line)=true
 trees:backTo cpos (starEach [e,f] X.env)=[(false,eval e X.env),(false,eval f X.env)]
noncomputable def IsD (H:Hp) (a:Addr):Prop:=(∃ kvs,Rd H a (.dK kvs))∨∃ kvs,Rd H a (.dT kvs)
theorem isD_at {X:Cx}{pins:List (Addr×Obj)}{σ:St}{H:Hp}{s:Shared}{a:Addr} (I:Inv X pins σ H s) (d:IsD H a) :
  s.TypeIs (.ref a) "dict" ∧ (∀ b,Value.ref a=.ref b→∃ ob,s.heap.get? b=some ob∧ob.dict=none)∧(a == sysModules)=false:=by
 rcases d with ⟨kvs,e⟩ | ⟨kvs,e⟩
 ·obtain⟨_,hd,vs,_,dd⟩:=dk_rd I.hok e
  refine⟨dd.typeIs,fun b q=>?_,hd⟩
  cases q
  obtain⟨ob,_,_,h1,h2,_⟩:=dd
  exact⟨ob,h1,h2.2.1⟩
 ·obtain⟨_,hd,xs,_,dd⟩:=dt_rd I.hok e
  refine⟨dd.typeIs,fun b q=>?_,hd⟩
  cases q
  obtain⟨ob,_,_,h1,h2,_⟩:=dd
  exact⟨ob,h1,h2.2.1⟩
section
variable {X:Cx}{pins:List (Addr×Obj)}{σ:St}{H:Hp}{s:Shared}{a:Addr}{y d:V}{u r:Value}{o:Option V}{A:Around}{E:Value→Shared→Prop}
theorem d_get2 {Q:Value→Shared→Prop} (hu:A.units+1 < cLine) (I:Inv X pins σ H s) (g:DGet H a y o) (ry:bS y u) (rd:bS d r) (h:∀ w' s',Inv X pins σ H s'→bS (o.getD d) w'→Q w' s') :
  wpAny (model X.prog X.w) A (call (.builtin "dict.get") [.ref a,u,r]) Q E s:=by
 rcases g with ⟨kvs,k,e,ey,l⟩ | ⟨kvs,k,b,e,ey,eb,l⟩
 ·subst ey
  obtain⟨z,hd,vs,rel,dd⟩:=dk_rd I.hok e
  refine call_meetsIn PySem.F.slot_dict_get dd.typeIs PySem.F.entry_dict_get (PySem.F.args_dict_get_3 _ _ _) (meets_dict_get_default (dH X.prog X.w) a (kV_is ry) hd r) ⟨_,dd.mapOf,h _ _ (I.tok _) ?_⟩
  rw[l]
  exact (rel.val k).getD rd
 ·subst ey
  cases (show u=Value.ref b from ry)
  obtain⟨z,hd,xs,rel,dd⟩:=dt_rd I.hok e
  refine call_meetsIn PySem.F.slot_dict_get dd.typeIs PySem.F.entry_dict_get (PySem.F.args_dict_get_3 _ _ _) (meetsH_dict_get_default (tupleKind (dH X.prog X.w)) a b hd r) ⟨tupleKind_room_in1 hu,k,xs,key_of I.hok eb,dd,h _ _ (I.tok _) ?_⟩
  rw[l]
  exact (rel.val k).getD rd
end
noncomputable def tDGet2 (td ty tx:TE):TE:=fun σ H Q=>td σ H fun x H1=>∃ a,x=.ref a∧IsD H1 a∧ty σ H1 fun y H2=>tx σ H2 fun z H3=>∃ o,DGet H3 a y o∧Q (o.getD z) H3
section
variable {X:Cx}{o e f:Expr}{apos cpos:Pos}{td ty tx:TE}
theorem pe_dget2 (hu:X.A.units+1 < cLine) (ho:PE X o td) (he:PE X e ty) (hf:PE X f tx) (m:M2 X o "get" apos e f cpos):PE X (.Call (.Attribute o "get" apos) [e,f] [] cpos) (tDGet2 td ty tx):=by
 intro pins s σ H Q I h
 refine wpAny_Call_method m.base m.few m.line PySem.F.plainAttrs_dict PySem.F.slot_dict_get PySem.F.type_dict_get (d0 (ho pins s σ H _ I h) fun u s1 ⟨x,H1,I1,rx,a,ex,d,q1⟩=>?_)
 subst ex
 obtain rfl:u=Value.ref a:=rx
 obtain⟨t1,t2,_⟩:=isD_at I1 d
 refine⟨t1,t2,?_⟩
 rw[m.trees]
 refine Calls.callWith_builtin rfl (Calls.evalArgs_plain (Calls.spliced_cons (d0 (he pins s1 σ H1 _ I1 q1) fun iv s2 ⟨y,H2,I2,ry,q2⟩=>
  Calls.spliced_cons (d0 (hf pins s2 σ H2 _ I2 q2) fun fv s3 ⟨z,H3,I3,rz,ov,g,q3⟩=>Calls.spliced_nil ?_))))
 exact d_get2 hu I3 g ry rz fun w' s4 I4 rw'=>⟨_,H3,I4,rw',q3⟩
end
section
variable {X:Cx}{pins:List (Addr×Obj)}{σ:St}{H:Hp}{s:Shared}{a:Addr}{kvs:List (Key×V)}{A:Around}{E:Value→Shared→Prop}
end
section
variable {X:Cx}{pins:List (Addr×Obj)}{σ:St}{H:Hp}{s:Shared}{a:Addr}{y:V}{u:Value}{A:Around}{E:Value→Shared→Prop}
end
end L2
namespace Att
open PySem PySem.W PySem.Calls PyProof.Rows
theorem ints_of_wellAll {P:Params}{h:Heap}:∀ (ns:List Int) (vs:List Value),WellAll P h vs (ns.map WData.int)→IntsAre vs ns:=by
 intro ns
 induction ns with
 | nil=>
  intro vs w
  rw[List.map_nil] at w
  cases w
  exact .nil
 | cons n ns ih=>
  intro vs w
  rw[List.map_cons] at w
  cases w with
  | cons a b=>
   cases a
   exact .cons _ _ (ih _ b)
theorem script_of {l:OpenLaw}{n:Nat} (hn:l.most=some n) {P:Params}{h:Heap}{args:List WData}{vals:List Value}
  (hpre:l.row.toRowW.claim.pre args=true) (hwl:WellAll P h vals args) :
  ∃ a vs ns,vals=[Value.ref a]∧args=[WData.list (ns.map WData.int)]∧h.get? a=some { cls:=.type "list",data:=.seq vs.toArray }∧IntsAre vs ns∧ns.length≤n:=by
 have hsh:WShape.hasAll [] args [.list .int]=true:=(pre_splitW hpre).1
 have hc:l.pre.holds [] { args:=args }=true:=(pre_splitW hpre).2
 obtain⟨d,r,rfl,h1,h2⟩:=hasAllW_cons hsh
 obtain rfl:=hasAllW_nil h2
 obtain⟨xs,rfl,h3⟩:=hasW_list h1
 obtain⟨ns,rfl⟩:=items_int h3
 have hlen:ns.length≤n:=by
  unfold OpenLaw.pre at hc
  have h4:(WTm.not (.lt (.lit (.int (n:Int))) (.len (.arg 0)))).holds [] { args:=[.list (ns.map .int)] }=true:=by
   have h4:=(holds_andW hc).1
   rw[hn] at h4
   exact h4
  have h5:=condW_of h4 (w_not (w_lt w_lit (w_len_list (w_arg rfl))))
  rw[List.length_map] at h5
  refine Nat.le_of_not_lt fun q=>?_
  have q':(n:Int) < ((ns.length:Nat):Int):=by omega
  first
   | (rw[decide_eq_true q'] at h5;exact absurd h5 (by decide))
   | (simp at h5;omega)
 cases hwl with
 | cons w1 w2=>
  cases w2
  cases w1 with
  | list ho hall=>exact⟨_,_,ns,rfl,rfl,ho,ints_of_wellAll ns _ hall,hlen⟩
theorem post_true (l:OpenLaw) (args:List WData):l.row.toRowW.claim.post args (.bool true) args=true:=
 postW_of (r:=l.row.toRowW) (X:=(true == true))
  (show WShape.has [] (.bool true) .bool=true by first | rfl | decide | simp [WShape.has,WShape.arms,WShape.armsAll])
  (show (WTm.eq .res (.lit (.bool true))).value [] { args:=args,res:=some (.bool true),after:=args }=some (.bool (true == true)) from w_eq_bool (w_res rfl) w_lit) rfl
theorem attach_call {l:OpenLaw}{n:Nat}{q:Program}{loose:List Str}{XP:(Str→Option Value)→Heap→Prop}{YP:World→Heap→Prop}{d:DefRec}
  (hn:l.most=some n) (hdf:d.params.defaults=[])
  (call:∀ (w:World) (s₀ s₁:Shared) (mg mb:Str→Option Value) (fa:Addr) (o:Obj) (pm cd doc:Value) (a:Addr) (vs:List Value) (ns:List Int),
   Ground q loose [] XP w s₀ mg mb s₁.heap→YP w s₁.heap→
   s₁.heap.get? fa=some o→o.data=.func (docDef d.name d.params d.body d.scope pm cd doc)→s₁.heap.CodeRec cd d.name→mg d.name=some (.ref fa)→
   s₁.heap.get? a=some { cls:=.type "list",data:=.seq vs.toArray }→IntsAre vs ns→ns.length≤n→s₁.gens = #[]→
   codeAny (model l.prog w) callerA (.call (.ref fa) ⟨[.ref a],[]⟩) (fun r s'=>r=.ok (.ret (.bool true))∧OldK s₁.heap s'.heap∧s'.os=s₁.os∧AllBare s'.gens) s₁) :
  WalkO q loose XP YP l.row.toRowW d [] (fun f vs=>PySem.call f vs):=by
 intro w s₀ s₁ mg mb G Y fa o pm cd doc dV kV ho hd hcd hD hmg hg args vals as hpre hlay hrd hwl hlo
 obtain rfl:dV=.none:=Dflts.none hD hdf
 obtain rfl:kV=.none:=Dflts.noKw hD
 obtain⟨a,vs,ns,rfl,rfl,hobj,hints,hlen⟩:=script_of hn hpre hwl
 refine enter_call (codeAny_mono (call w s₀ s₁ mg mb fa o pm cd doc a vs ns G Y ho (fd_plain hd) hcd hmg hobj hints hlen hg) fun r s' hq=>?_)
 obtain⟨rfl,h2,h3,h4⟩:=hq
 exact⟨.inl ⟨.bool true,.bool true,[],rfl,fun _=>rfl,.bool true,post_true l _,fun _=>⟨List.Pairwise.nil,fun _ hm=>(nomatch hm)⟩⟩,h2,h3,h4⟩
section
variable {prog:Program}{w:World}{A:Around}{E:Value→Shared→Prop}{s:Shared}{K:Frag}
end
end Att
namespace L2
open PySem PySem.Spec PyProof.Rows
theorem vals_ints:∀ {vs:List Value}{ns:List Int},IntsAre vs ns→bX (ns.map V.int) vs
 | _,_,.nil=>.nil
 | _,_,.cons n t h=>.cons ⟨t,rfl⟩ (vals_ints h)
noncomputable def Only (H:Hp):Prop:=∀ b,H b=none∨∃ o xs,H b=some (.frz o (.lst xs))
theorem law_call {P:Program}{w:World}{K:PySem.W.Frag}{mg mb:Str→Option Value}{CX:CXT}{k:Nat}{fa a:Addr}{fd:FuncData}{x:Str}{sp:Sp}{s₁:Shared}{vs:List Value}{ns:List Int}
  (KX:K.In s₁.heap) (hns:s₁.heap.Ns mainGlobals mg) (hb:s₁.heap.Ns builtinsNs mb) (hbb:∀ x:Str,x ≠ "__name__" → mb x=bootBuiltins x) (hlim:s₁.heap.NoLimit) (hg:s₁.gens = #[])
  (ha:s₁.heap.get? a=some { cls:=.type "list",data:=.seq vs.toArray }) (hi:IntsAre vs ns) (hl:ns.length≤sizeLine) (hr:Room k callerA)
  (F:∀ base:Heap,K.In base→base.Ns mainGlobals mg→FnOk P w K mg base CX k fa fd [x] sp) (hbind:∀ (s:Shared) (u:Value),BindsTo s fd ⟨[u],[]⟩ [(x,u)])
  (hsp:∀ H:Hp,Only H→bT K H a (ns.map V.int)→sp [.ref a] H (fun v _=>v=.bl true) fun _ _ _=>False)
  (hCX:∀ H e s',CX [] H s₁ (fun _ _ _=>False) e s'→False) :
  codeAny (model P w) callerA (.call (.ref fa) ⟨[.ref a],[]⟩) (fun r s'=>r=.ok (.ret (.bool true))∧OldK s₁.heap s'.heap∧s'.os=s₁.os∧AllBare s'.gens) s₁:=by
 have rv:=vals_ints hi
 have lenV:=hi.length
 have core:∀ H:Hp,Only H→bT K H a (ns.map V.int)→HOk P w H s₁.heap→(∀ b,H b≠none→b=a)→(H a≠none→K.lookup a=none)→
   codeAny (model P w) callerA (.call (.ref fa) ⟨[.ref a],[]⟩) (fun r s'=>r=.ok (.ret (.bool true))∧OldK s₁.heap s'.heap∧s'.os=s₁.os∧AllBare s'.gens) s₁:=by
  intro H hO hS hok hA hK
  have base_of:∀ {b:Addr}{o:Obj},s₁.heap.get? b=some o→H b=none→(hidT s₁.heap H).get? b=some o:=fun e n=>hidT_get e n
  have noA:∀ {b:Addr}{o:Obj}{es:Array DictEntry}{ep:Nat},s₁.heap.get? b=some o→o.data=.dict es ep→H b=none:=fun {b o es ep} e d=>by
   cases q:H b with
   | none=>rfl
   | some u=>
    have e':b=a:=hA b (by rw[q];simp)
    subst e'
    rw[ha] at e;cases e
    have d':Data.seq vs.toArray _=Data.dict es ep:=d
    cases d'
  have nsK:∀ {b:Addr}{m:Str→Option Value},s₁.heap.Ns b m→(hidT s₁.heap H).Ns b m:=fun {b m} ⟨o,es,ep,e,d,r⟩=>⟨o,es,ep,base_of e (noA e d),d,r⟩
  have hKb:K.In (hidT s₁.heap H):=fun b o e=>base_of (KX b o e) (by
   cases q:H b with
   | none=>rfl
   | some u=>
    have e':b=a:=hA b (by rw[q];simp)
    subst e'
    rw[hK (by rw[q];simp)] at e;cases e)
  have hM:Mod K mg (hidT s₁.heap H):=⟨hKb,nsK hns,⟨mb,nsK hb,hbb⟩,let ⟨mc,h1,h2⟩:=hlim;⟨mc,nsK h1,h2⟩⟩
  have e0:Env0 P w K mg (hidT s₁.heap H) callerA [] s₁ H:=⟨rfl,hM,fun b o e=>of_hidT e,Nat.le_of_eq (hidT_size _ _),trivial,fun b hb=>absurd (show b∈([]:List Addr) from hb) (by simp),hok,.of_eq hg⟩
  refine codeAny_mono ((F _ hKb (nsK hns)).run callerA [] s₁ H ⟨[.ref a],[]⟩ [.ref a] [.ref a] _ _ hr e0 (hbind s₁ (.ref a)) (.cons rfl .nil) (hsp H hO hS)) fun r s' h=>?_
  cases r with
  | error e=>exact (hCX H e s' h).elim
  | ok fl=>
   cases fl with
   | next=>exact False.elim h
   | brk=>exact False.elim h
   | cont=>exact False.elim h
   | ret u=>
    obtain⟨v,H',os,bare,un,hok',r',q⟩:=h
    have q':v=.bl true:=q
    subst q'
    obtain rfl:u=Value.bool true:=r'
    refine⟨rfl,OldK.of_keep fun b o e=>?_,os,bare⟩
    cases q:H b with
    | none=>exact un.keep b o e q (by intro z;exact absurd (show b∈([]:List Addr) from z) (by simp)) (by simp)
    | some u=>
     rcases hO b with z | ⟨ob,xs,z⟩
     ·rw[q] at z;cases z
     ·have z2:=un.frzs b ob _ z
      obtain⟨e1,_⟩:=hok b _ z
      obtain⟨e2,_⟩:=hok' b _ z2
      rw[e] at e1;cases e1
      exact e2
 cases hk:K.lookup a with
 | some o=>
  have e:=KX a o hk
  rw[ha] at e
  cases e
  refine core (fun _=>none) (fun _=>.inl rfl) (.inr ⟨_,vs.toArray,_,hk,rfl,rfl,rfl,by rw[List.size_toArray,lenV];exact hl,by simpa using rv⟩) (fun b u z=>by have z':(none:Option HO)=some u:=z;cases z') (fun b z=>absurd rfl z) fun z=>absurd rfl z
 | none=>
  refine core (fun b=>if b=a then some (.frz { cls:=.type "list",data:=.seq vs.toArray } (.lst (ns.map V.int))) else none) (fun b=>?_) (.inl (.inr ⟨{ cls:=.type "list",data:=.seq vs.toArray },if_pos rfl⟩)) (fun b u z=>?_) (fun b z=>?_) fun _=>hk
  ·by_cases hb:b=a
   ·exact .inr ⟨_,_,if_pos hb⟩
   ·exact .inl (if_neg hb)
  ·by_cases hb:b=a
   ·have z':=(if_pos hb).symm.trans z
    cases z'
    subst hb
    exact⟨ha,by rw[List.length_map];exact hl,vs,_,rv,ha⟩
   ·have z':=(if_neg hb).symm.trans z
    cases z'
  ·by_cases hb:b=a
   ·exact hb
   ·exact absurd (if_neg hb) z
end L2
namespace L2
open PySem PySem.Spec PyProof.Rows
theorem walk_of {l:PySem.W.OpenLaw}{n k:Nat}{q:Program}{loose:List Str}{XP:(Str→Option Value)→Heap→Prop}{YP:World→Heap→Prop}{d:DefRec}{K:Params→PySem.W.Frag}{CX:World→CXT}{sp:World→Sp}{x:Str}
  (hn:l.most=some n) (hn2:n≤sizeLine) (hdf:d.params.defaults=[]) (hr:Room k callerA)
  (hY:∀ (w:World) (h:Heap),YP w h→(K w.params).In h)
  (F:∀ (w:World) (mg:Str→Option Value) (fa:Addr) (h:Heap),(K w.params).In h→h.Ns mainGlobals mg→mg d.name=some (.ref fa)→
   ∃ fd:FuncData,(∀ (s:Shared) (u:Value),BindsTo s fd ⟨[u],[]⟩ [(x,u)])∧
    ∀ base:Heap,(K w.params).In base→base.Ns mainGlobals mg→FnOk l.prog w (K w.params) mg base (CX w) k fa fd [x] (sp w))
  (hsp:∀ (w:World) (H:Hp) (a:Addr) (ns:List Int),ns.length≤n→Only H→bT (K w.params) H a (ns.map V.int)→sp w [.ref a] H (fun v _=>v=.bl true) fun _ _ _=>False)
  (hCX:∀ (w:World) (H:Hp) (s:Shared) (e:Value) (s':Shared),CX w [] H s (fun _ _ _=>False) e s'→False) :
  PySem.W.WalkO q loose XP YP l.row.toRowW d [] (fun f vs=>PySem.call f vs):=by
 refine Att.attach_call hn hdf fun w s₀ s₁ mg mb fa o pm cd doc a vs ns G Y ho hd hcd hmg hobj hints hlen hg=>?_
 have KX:=hY w _ Y
 obtain⟨fd,hb,hF⟩:=F w mg fa _ KX G.T.g hmg
 exact law_call KX G.T.g G.T.b G.T.builtins G.T.nolimit hg hobj hints (Nat.le_trans hlen hn2) hr hF hb (fun H hO hS=>hsp w H a ns hlen hO hS) fun H e s'=>hCX w H s₁ e s'
end L2
namespace L2
open PySem PySem.Spec PyProof.Rows
noncomputable def bG (s:Stmt):Arguments:=match s with
 | .FunctionDef _ a _ _ _ _ _ _ _ _=>a
 | _=>{ posonlyargs:=[],args:=[],vararg:=none,kwonlyargs:=[],kw_defaults:=[],kwarg:=none,defaults:=[] }
noncomputable def bB (s:Stmt):List Stmt:=match s with
 | .FunctionDef _ _ b _ _ _ _ _ _ _=>b
 | _=>[]
noncomputable def aJ (s:Stmt):Scope:=match s with
 | .FunctionDef _ _ _ _ _ _ sc _ _ _=>sc
 | _=>{ kind:=.function,names:=[],isGenerator:=false,isCoroutine:=false }
noncomputable abbrev CX0:CXT:=fun _ _ _ _ _ _=>False
noncomputable abbrev E0:XK:=fun _ _ _=>False
theorem pass0 {X:Cx}:Passes CX0 X E0:=fun _ _ _ _ _ _ _ h=>h.elim
structure Fun (K:PySem.W.Frag) (x qual:Str) (st:Stmt) (f:Addr) (fd:FuncData):Prop where
 ex:∃ (oc:Value) (od:Option Addr) (kV doc pm:Value) (an:Option Addr) (cdv ct:Value) (osl:Array (Option Value)),
  fd=PySem.W.fnOf x qual (bG st) (bB st) (aJ st) .none kV doc pm an cdv ct∧K.lookup f=some ⟨oc,od,.func fd,osl⟩∧PySem.W.codeIn K cdv qual=true
 kp:PySem.W.keepIn K (.ref f)=true
section
variable {P:Program}{w:World}{K:PySem.W.Frag}{mg:Str→Option Value}{base:Heap}
theorem Fun.ok {x qual:Str}{st:Stmt}{f:Addr}{fd:FuncData}{N ps:List Str}{k:Nat}{sp:Sp} (F:Fun K x qual st f fd) (S:FnScope N ps (aJ st)) (len:∀ vs H Q E,sp vs H Q E→vs.length=ps.length)
  (hbody:∀ (cdv:Value) (A:Around) (outer:List Env) (s:Shared) (H:Hp) (vs:List V) (Q:VK) (E:XK),Room k (A.deeper (envOfC qual (aJ st) s.heap.objs.size f cdv))→sp vs H Q E→
   ∃ t,PSs (cxOf CX0 P w K mg base N qual (aJ st) f cdv A outer s H E).nox (bB st) t∧t { nx:=fun _ H'=>Q .non H',rt:=Q } (start N vs) H):FnOk P w K mg base CX0 (k+1) f fd ps sp:=by
 obtain⟨oc,od,kV,doc,pm,an,cdv,ct,osl,rfl,lk,hcd⟩:=F.ex
 refine fn_of lk hcd S len fun A outer s H vs Q E hr hsp=>?_
 obtain⟨t,h,q⟩:=hbody cdv A outer s H vs Q E hr hsp
 exact⟨t,h.nox,q⟩
theorem Fun.binds {x qual:Str}{st:Stmt}{f:Addr}{fd:FuncData}{ps:List Str} (F:Fun K x qual st f fd)
  (h:∀ (kV doc pm:Value) (an:Option Addr) (cdv ct:Value) (us:List Value),us.length=ps.length→bindArgs (PySem.W.fnOf x qual (bG st) (bB st) (aJ st) .none kV doc pm an cdv ct) ⟨us,[]⟩=pure (ps.zip us)):Binds K fd ps []:=by
 obtain⟨oc,od,kV,doc,pm,an,cdv,ct,osl,rfl,lk,hcd⟩:=F.ex
 exact .all (h kV doc pm an cdv ct)
theorem cJ {x qual:Str}{st:Stmt}{f:Addr}{oc:Value}{od an:Option Addr}{osl:Array (Option Value)}{kV doc pm cdv ct:Value} (l:K.lookup f=some ⟨oc,od,.func (PySem.W.fnOf x qual (bG st) (bB st) (aJ st) .none kV doc pm an cdv ct),osl⟩)
  (c:PySem.W.codeIn K cdv qual=true) (k:PySem.W.keepIn K (.ref f)=true):Fun K x qual st f (PySem.W.fnOf x qual (bG st) (bB st) (aJ st) .none kV doc pm an cdv ct):=⟨⟨oc,od,kV,doc,pm,an,cdv,ct,osl,rfl,l,c⟩,k⟩
end
theorem hu_of {A:Around}{k:Nat} (hr:Room k A):A.units+1 < cLine:=Nat.lt_of_le_of_lt (Nat.add_le_add_left (by decide:1≤64) _) hr.units
theorem bC {n:Nat} (h:n≤1000):n < sizeLine:=Nat.lt_of_le_of_lt h (by decide)
section
variable {X:Cx}
theorem pv (i:Nat) {x:Str}{pos:Pos} (hN:X.N[i]? = some x:=by rfl) (hv:Vis X.env.scope x:=by first | exact Or.inl rfl | exact Or.inr (Or.inl rfl) | exact Or.inr (Or.inr rfl)) (hd:(x == ("__debug__" : Str))=false:=by decide)
  (hcd:(x == ("__classdict__" : Str))=false:=by decide):PE X (.Name x pos) (cS i):=pe_var hN hv hd hcd
end
theorem iteF {A B:Prop} (h:B):if false=true then A else B:=by
 rw[if_neg Bool.false_ne_true]
 exact h
theorem iteT {A B:Prop} (h:A):if true=true then A else B:=by
 rw[if_pos rfl]
 exact h
theorem ite2 {c A B:Prop} [Decidable c] (h1:c→A) (h2:¬ c→B):if c then A else B:=by
 by_cases h:c
 ·rw[if_pos h]
  exact h1 h
 ·rw[if_neg h]
  exact h2 h
theorem iteNS {c A B:Prop} [Decidable c] (hc:c) (h:B):if (!decide c)=true then A else B:=by
 rw[decide_eq_true hc]
 exact iteF h
noncomputable def aG (H H':Hp):Prop:=∀ b o,H b=some o→H' b=some o
theorem aG.refl (H:Hp):aG H H:=fun _ _ h=>h
theorem aG.trans {H H1 H2:Hp} (a:aG H H1) (b:aG H1 H2):aG H H2:=fun c o h=>b c o (a c o h)
theorem aG.free {H H':Hp} (e:aG H H') {l:Addr} (h:H' l=Option.none):H l=Option.none:=by
 cases q:H l with
 | none=>rfl
 | some o=>
  rw[e l o q] at h
  cases h
theorem aG.seq {K:PySem.W.Frag}{H H':Hp}{a:Addr}{xs:List V} (e:aG H H') (h:bT K H a xs):bT K H' a xs:=by
 rcases h with (h | ⟨o,h⟩) | h
 ·exact .inl (.inl (e _ _ h))
 ·exact .inl (.inr ⟨o,e _ _ h⟩)
 ·exact .inr h
end L2
set_option maxHeartbeats 4000000
namespace L2
open PySem PySem.Spec PyProof.Rows
theorem eP {env:Env} (hk:env.scope.kind=.function):∀ {names:List (Str×NameKind)}{x:Str},names.lookup x=some .free→env.kindOf x=some .cell→
  (names.map fun (n,k)=>if (k == NameKind.free && env.scope.kind == .function && env.kindOf n == some .cell) then (n,NameKind.cell) else (n,k)).lookup x=some .cell
 | [],_,h,_=>by simp at h
 | (n,k)::r,x,h,hc=>by
  have ih:=@eP env hk r x
  show List.lookup x ((if (k == NameKind.free && env.scope.kind == .function && env.kindOf n == some .cell)=true then (n,NameKind.cell) else (n,k))::_)=_
  cases hx:x == n with
  | true=>
   simp only [List.lookup_cons,hx] at h
   cases h
   have e:x=n:=by simpa using hx
   subst e
   rw[if_pos (by rw[hk,hc];decide)]
   simp [List.lookup_cons]
  | false=>
   simp only [List.lookup_cons,hx] at h
   by_cases hq:(k == NameKind.free && env.scope.kind == .function && env.kindOf n == some .cell)=true
   ·rw[if_pos hq];simp only [List.lookup_cons,hx];exact ih h hc
   ·rw[if_neg hq];simp only [List.lookup_cons,hx];exact ih h hc
noncomputable def ClOk (env:Env):List (Str×Addr)→Prop
 | []=>True
 | p::r=>env.cells.lookup p.1=some p.2∧ClOk env r
theorem ClOk.get {env:Env}:∀ {cl:List (Str×Addr)},ClOk env cl→∀ x c,cl.lookup x=some c→env.cells.lookup x=some c
 | [],_,_,_,e=>by simp at e
 | (n,a)::r,h,x,c,e=>by
  cases hx:x == n with
  | true=>
   simp only [List.lookup_cons,hx] at e
   cases e
   have e':x=n:=by simpa using hx
   subst e'
   exact h.1
  | false=>
   simp only [List.lookup_cons,hx] at e
   exact ClOk.get h.2 x c e
noncomputable def FrOk (X:Cx) (scope:Scope) (N':List Str):List (Option Nat)→Nat→Prop
 | [],_=>True
 | none::r,i=>FrOk X scope N' r (i+1)
 | some j::r,i=>(∃ x,N'[i]? = some x∧X.N[j]? = some x∧scope.names.lookup x=some .free∧X.env.kindOf x=some .cell)∧FrOk X scope N' r (i+1)
theorem FrOk.get {X:Cx}{scope:Scope}{N':List Str}:∀ {fr:List (Option Nat)}{k:Nat},FrOk X scope N' fr k→∀ i j,fr[i]? = some (some j)→
  ∃ x,N'[k+i]? = some x∧X.N[j]? = some x∧scope.names.lookup x=some .free∧X.env.kindOf x=some .cell
 | [],_,_,i,j,e=>by simp at e
 | none::r,k,h,0,j,e=>by simp at e
 | some _::r,k,h,0,j,e=>by simp at e;subst e;exact h.1
 | none::r,k,h,i+1,j,e=>by
  have:=FrOk.get (k:=k+1) (show FrOk X scope N' r (k+1) from h) i j (by simpa using e)
  rwa [Nat.add_right_comm] at this
 | some _::r,k,h,i+1,j,e=>by
  have:=FrOk.get (k:=k+1) h.2 i j (by simpa using e)
  rwa [Nat.add_right_comm] at this
structure LcOk (X:Cx) (scope:Scope) (cl:List (Str×Addr)) (N':List Str) (fr:List (Option Nat)):Prop where
 clos:closureFor scope X.env=pure cl
 cls:ClOk X.env cl
 kind:scope.kind=.function
 nocell:(scope.names.all fun p=>p.2 != NameKind.cell)=true
 locs:(scope.names.all fun p=>p.2 != NameKind.local || scope.names.lookup p.1 == some NameKind.local)=true
 frees:(scope.names.all fun p=>p.2 != NameKind.free || (cl.lookup p.1).isSome)=true
 len:fr.length=N'.length
 fr:FrOk X scope N' fr 0
noncomputable def frσ (fr:List (Option Nat)) (σ:St):St:=fr.map fun o=>o.bind fun j=>(σ[j]?).join
noncomputable def cxC (X:Cx) (N':List Str) (scope:Scope) (cl:List (Str×Addr)) (fp:List Addr) (s:Shared) (H:Hp):Cx:=
 { X with N:=N',s₀:=s,H₀:=H,env:=compEnvC scope cl s.heap.objs.size X.env,outer:=X.stack,ex:=fp,fn:=fun _=>false,pn:=[] }
noncomputable def PIf (X:Cx) (ifs:List Expr) (t:TT):Prop:=
 ∀ (pins:List (Addr×Obj)) (s:Shared) (σ:St) (H:Hp) (Q:Bool→Hp→Prop),Inv X pins σ H s→t σ H Q→
  wpAny (model X.prog X.w) X.A (forIn ifs true fun c r=>if r=true then do let ok ← isTrue c X.env (eval c X.env);pure (ForInStep.yield ok) else pure (ForInStep.yield r)) (TP X pins σ Q) X.xe s
noncomputable def tYes:TT:=fun _ H Q=>Q true H
theorem eS {X:Cx}:PIf X [] tYes:=fun _ _ _ H _ I h=>wpAny_tests_nil ⟨H,I,h⟩
theorem pif_one {X:Cx}{c:Expr}{t:TT} (h:PT X c t):PIf X [c] t:=fun pins s σ H Q I hw=>wpAny_tests_one (h pins s σ H Q I hw)
noncomputable def lcRest (J:It) (g:TG) (tc:TT) (te:TE) (fr:List (Option Nat)) (σ:St) (H1:Hp) (Q:Addr→Hp→Prop):Prop:=
 ∀ D,H1 D=none→∃ W:Nat→Nat→List V→St→Hp→Prop,(∃ m,W 0 m [] (frσ fr σ) (upd H1 D (.lst [])))∧
  ∀ i m ys σ' H',W i m ys σ' H'→(J.stop i H'∧Q D H')∨
   (J.go i H'∧∃ N:List V→St→Hp→Prop,(∀ ys' σ'' H'',N ys' σ'' H''→∃ m',m' < m∧W (i+1) m' ys' σ'' H'')∧
    ∀ x H2,J.yld i H' x H2→g x σ' H2 fun σ3 H3=>tc σ3 H3 fun b H4=>
    if b=true then te σ3 H4 fun y H5=>H5 D=some (.lst ys)∧ys.length < sizeLine∧N (ys++[y]) σ3 (upd H5 D (.lst (ys++[y])))
    else N ys σ3 H4)
theorem lc_gen {J:It}{n:Nat}{g:TG}{tc:TT}{te:TE}{fr:List (Option Nat)}{σ:St}{H1:Hp}{Q:Addr→Hp→Prop} (Pv:Addr→Nat→List V→St→Hp→Prop)
  (h0:∀ D,H1 D=none→Pv D 0 [] (frσ fr σ) (upd H1 D (.lst [])))
  (hstop:∀ D ys σ' H',Pv D n ys σ' H'→J.stop n H'∧Q D H')
  (hgo:∀ D i ys σ' H',i < n→Pv D i ys σ' H'→J.go i H'∧∀ x H2,J.yld i H' x H2→g x σ' H2 fun σ3 H3=>tc σ3 H3 fun b H4=>
    if b=true then te σ3 H4 fun y H5=>H5 D=some (.lst ys)∧ys.length < sizeLine∧Pv D (i+1) (ys++[y]) σ3 (upd H5 D (.lst (ys++[y])))
    else Pv D (i+1) ys σ3 H4):lcRest J g tc te fr σ H1 Q:=by
 intro D hD
 refine⟨fun i m ys σ H=>m=n - i∧i≤n∧Pv D i ys σ H,⟨n,by simp,Nat.zero_le _,h0 D hD⟩,?_⟩
 rintro i m ys σ' H' ⟨rfl,hi,p⟩
 by_cases hlt:i < n
 ·obtain⟨go,step⟩:=hgo D i ys σ' H' hlt p
  exact .inr ⟨go,Pv D (i+1),fun ys' σ'' H'' p'=>⟨n - (i+1),by omega,rfl,hlt,p'⟩,step⟩
 ·have e:i=n:=by omega
  subst e
  exact .inl (hstop D ys σ' H' p)
theorem for_gen {J:It}{n:Nat}{g:TG}{tb:TS}{D:Ends}{σ:St}{H:Hp} (Pv:Nat→St→Hp→Prop) (h0:Pv 0 σ H) (hstop:∀ σ H,Pv n σ H→J.stop n H∧D.nx σ H)
  (hgo:∀ i σ H,i < n→Pv i σ H→J.go i H∧∀ x H',J.yld i H x H'→g x σ H' fun σ2 H2=>tb { D with nx:=Pv (i+1),ct:=Pv (i+1),bk:=D.nx } σ2 H2) :
  ∃ W:Nat→Nat→St→Hp→Prop,(∃ m,W 0 m σ H)∧∀ i m σ H,W i m σ H→
   (J.stop i H∧D.nx σ H)∨(J.go i H∧∃ N:St→Hp→Prop,(∀ σ' H',N σ' H'→∃ m',m' < m∧W (i+1) m' σ' H')∧∀ x H',J.yld i H x H'→g x σ H' fun σ2 H2=>tb { D with nx:=N,ct:=N,bk:=D.nx } σ2 H2):=by
 refine⟨fun i m σ H=>m=n - i∧i≤n∧Pv i σ H,⟨n,by simp,Nat.zero_le _,h0⟩,?_⟩
 rintro i m σ H ⟨rfl,hi,p⟩
 by_cases hlt:i < n
 ·obtain⟨go,step⟩:=hgo i σ H hlt p
  exact .inr ⟨go,Pv (i+1),fun σ' H' p'=>⟨n - (i+1),by omega,rfl,hlt,p'⟩,step⟩
 ·have e:i=n:=by omega
  subst e
  exact .inl (hstop σ H p)
noncomputable def tLC (wi:TI) (fr:List (Option Nat)) (g:TG) (tc:TT) (te:TE):TE:=fun σ H Q=>wi σ H fun J H1=>lcRest J g tc te fr σ H1 fun D H'=>Q (.ref D) H'
section
variable {prog:Program}{w:World}{A:Around}{R:Result→Shared→Prop}{s:Shared}
theorem compLoop_any {elt target iter:Expr}{ifs:List Expr}{scope:Scope}{pos:Pos}{it acc:Value}{env:Env} (I:Nat→Shared→Prop)
  (turn:∀ n s,I n s→wpAny (model prog w) A (pyNext it) (fun r s₁=>match r with
   | none=>R (.ok .next) s₁
   | some v=>wpAny (model prog w) A (letOwnedTupleGo target it v) (fun _ s₁'=>wpAny (model prog w) A (assign target env v) (fun _ s₂=>
     wpAny (model prog w) A (forIn ifs true fun c r=>if r=true then do let ok ← isTrue c env (eval c env);pure (ForInStep.yield ok) else pure (ForInStep.yield r)) (fun ok s₃=>
      if ok=true then wpAny (model prog w) A (eval elt env) (fun x s₄=>
       wpAny (model prog w) A (call (.builtin "list.append") [acc,x]) (fun _ s₅=>∃ m,m < n∧I m s₅) (notedBy (model prog w) A env fun e s'=>R (.error e) s') s₄) (notedBy (model prog w) A env fun e s'=>R (.error e) s') s₃
      else ∃ m,m < n∧I m s₃) (notedBy (model prog w) A env fun e s'=>R (.error e) s') s₂) (notedBy (model prog w) A env fun e s'=>R (.error e) s') s₁') (notedBy (model prog w) A env fun e s'=>R (.error e) s') s₁)
    (notedBy (model prog w) A env fun e s'=>R (.error e) s') s)
  (n:Nat) (h:I n s) :
  codeAny (model prog w) A (.compLoop (.ListComp elt [⟨target,iter,ifs,0⟩] scope pos) 0 it acc env) R s:=by
 refine codeAny_loop rfl I (fun n s hI=>?_) n h
 show wpAny _ A ((compTurn (.ListComp elt [⟨target,iter,ifs,0⟩] scope pos) 0 it acc env).onRaise (fun x=>do noteFrame x env;theTreesLotGoes x)) _ _ s
 refine wpAny_noted ?_
 rw[compTurn_list]
 refine wpAny_bind (wpAny_standAt (wpAny_bind (wpAny_mono (turn n s hI) (fun r s₁ h₁=>?_) fun _ _ h'=>h')))
 cases r with
 | none=>exact wpAny_pure h₁
 | some v=>
  refine wpAny_bind (wpAny_mono h₁ (fun _ s₁' h₁'=>?_) fun _ _ h'=>h')
  refine wpAny_bind (wpAny_mono h₁' (fun _ s₂ h₂=>wpAny_bind (wpAny_mono h₂ (fun ok s₃ h₃=>?_) fun _ _ h'=>h')) fun _ _ h'=>h')
  cases ok with
  | false=>exact wpAny_pure ⟨rfl,h₃⟩
  | true=>
   exact wpAny_bind (wpAny_bind (wpAny_mono h₃ (fun x s₄ h₄=>wpAny_bind (wpAny_mono h₄ (fun _ s₅ h₅=>wpAny_pure (wpAny_pure ⟨rfl,h₅⟩)) fun _ _ h'=>h')) fun _ _ h'=>h'))
end
section
variable {X:Cx}
theorem LcOk.invC {scope:Scope}{cl:List (Str×Addr)}{N':List Str}{fr:List (Option Nat)}{pins:List (Addr×Obj)}{σ:St}{H:Hp}{s:Shared}{h1:Heap}{fp:List Addr}{m1:Str→Option Value}{tk:Nat}
  (S:LcOk X scope cl N' fr) (I:Inv X pins σ H s) (hf:∀ b∈fp,FpOk X pins H b) (hfo:∀ b∈fp,b < s.heap.objs.size)
  (k:∀ b o,s.heap.get? b=some o→h1.get? b=some o) (hn:h1.Ns s.heap.objs.size m1):Inv (cxC X N' scope cl fp s H) [] (frσ fr σ) H { s with heap:=h1,toks:=tk }:=by
 have hfree:=S.frees
 have hcell:=S.nocell
 rw[List.all_eq_true] at hfree hcell
 have fresh:H s.heap.objs.size=none:=I.hok.fresh (Nat.le_refl _)
 have clg:=S.cls.get
 refine⟨⟨I.ok.mod,S.kind,I.ok.glob,I.ok.blt,Nat.le_refl _,fun x y c e1 e2=>I.ok.inj x y c (clg x c e1) (clg y c e2),fun x hx=>?_,(fun x c e=>nomatch e),I.ok.hd,I.ok.frames,.inl rfl,fun b hb=>⟨Nat.ne_of_lt (hfo b hb),fun x c e=>(hf b hb).2.2.2.2.1 x c (clg x c e)⟩,
  I.bs,Nat.le_trans I.ok.bsz I.sz,fun b o e hb=>?_,fun b hb hz=>?_,I.stack,I.stkFree⟩,rfl,I.bare,Un.kept k,⟨m1,hn,fun i x v e1 e2 e3=>?_⟩,fun x c e=>?_,fresh,fun x c e=>I.freeC x c (clg x c e),fun p hp=>absurd (show p∈([]:List (Addr×Obj)) from hp) (by simp),I.hok.kept k,?_⟩
 ·
  have hm:∃ k',(x,k')∈scope.names∧k'=NameKind.free:=by
   have hx':(relabel scope X.env).names.lookup x=some .cell∨(relabel scope X.env).names.lookup x=some .free:=hx
   obtain⟨k',e,hk'⟩:∃ k',(relabel scope X.env).names.lookup x=some k'∧(k'=.cell∨k'=.free):=by
    rcases hx' with e | e
    ·exact⟨_,e,.inl rfl⟩
    ·exact⟨_,e,.inr rfl⟩
   have hmem:=PySem.mem_of_lookup e
   obtain⟨⟨n,kn⟩,hp,he⟩:=List.mem_map.mp hmem
   dsimp only at he
   split at he
   ·rename_i hc
    cases he
    have:kn=.free:=by
     simp only [Bool.and_eq_true,beq_iff_eq] at hc
     exact hc.1.1
    exact⟨kn,hp,this⟩
   ·cases he
    rcases hk' with e' | e'
    ·subst e'
     have:=hcell _ hp
     simp at this
    ·exact⟨_,hp,e'⟩
  obtain⟨k',hp,rfl⟩:=hm
  have:=hfree _ hp
  simp only [bne_self_eq_false,Bool.false_or] at this
  exact Option.isSome_iff_exists.mp this
 ·rcases (hf b hb).2.2.2.1 with z | z
  ·exact I.ok.noex b o e z
  ·have:=Heap.lt_size e
   exact absurd (Nat.lt_of_lt_of_le this (Nat.le_trans I.ok.bsz z)) (Nat.lt_irrefl _)
 ·obtain⟨_,f1,f2,_⟩:=hf b hb
  rcases List.mem_cons.mp (I.stkSub b hz) with e | e
  ·exact f1 e
  ·exact f2 e
 ·
  unfold frσ at e2
  rw[List.getElem?_map] at e2
  cases ef:fr[i]? with
  | none=>rw[ef] at e2;cases e2
  | some o=>
   rw[ef] at e2
   cases o with
   | none=>simp at e2
   | some j=>
    have e2':(σ[j]?).join=some v:=by simpa using e2
    obtain⟨x',h1',h2',h3',h4'⟩:=S.fr.get i j ef
    rw[Nat.zero_add] at h1'
    have ex:x'=x:=by
     have:N'[i]? = some x:=e1
     rw[h1'] at this
     exact Option.some.inj this
    subst ex
    have e2'':σ[j]? = some (some v):=by
     cases q:σ[j]? with
     | none=>rw[q] at e2';cases e2'
     | some z=>rw[q] at e2';simp at e2';rw[e2']
    obtain⟨m,hm,hl⟩:=I.loc
    obtain⟨u,r,lk⟩:=hl j x' v h2' e2'' (.inr (.inl h4'))
    refine⟨u,r,?_⟩
    rcases lk with ⟨q,_⟩ | ⟨_,c,hc,z⟩
    ·rw[h4'] at q;cases q
    ·have hcl:∃ c',cl.lookup x'=some c':=by
      have:=hfree _ (PySem.mem_of_lookup h3')
      simp only [bne_self_eq_false,Bool.false_or] at this
      exact Option.isSome_iff_exists.mp this
     obtain⟨c',hc'⟩:=hcl
     have e':=clg x' c' hc'
     rw[hc] at e'
     cases e'
     obtain⟨oc,hoc,hd⟩:=z
     refine .inr ⟨.inl ?_,c,hc',oc,k c oc hoc,hd⟩
     exact eP I.ok.kind h3' h4'
 ·obtain⟨v,oc,hoc,hd⟩:=I.cell x c (clg x c e)
  exact⟨v,oc,k c oc hoc,hd⟩
 ·show (frσ fr σ).length=N'.length
  unfold frσ
  rw[List.length_map,S.len]
theorem Inv.outC {scope:Scope}{cl:List (Str×Addr)}{N':List Str}{pins pins':List (Addr×Obj)}{σ σ':St}{H H':Hp}{s s':Shared}{fp:List Addr} (I:Inv X pins σ H s) (J:Inv (cxC X N' scope cl fp s H) pins' σ' H' s')
  (hf:∀ b∈fp,FpOk X pins H b):Inv X pins σ H' s':=
 I.call' (ch:=fp) J.os J.base J.hok J.bare fun b hb=>by
  obtain⟨_,f1,_,f3,f4,f5⟩:=hf b hb
  exact⟨f3,f1,f4,f5⟩
theorem Inv.letgo {pins:List (Addr×Obj)}{σ:St}{H:Hp}{s:Shared}{C:Addr}{h':Heap} (I:Inv X pins σ H s) (f:FpOk X pins H C) (hsb:Heap.SameBut C s.heap h'):Inv X pins σ H { s with heap:=h' }:=by
 obtain⟨f0,f1,f2,f3,f4,f5⟩:=f
 exact I.turned (t':=s.toks) (it:=C) (h':=h') (fun b o hb e=>(hsb.2 b hb).trans e) f0 f1 f3 f4 f5
theorem lc_block {elt tg iter:Expr}{ifs:List Expr}{scope:Scope}{pos:Pos}{N':List Str}{fr:List (Option Nat)}{cl:List (Str×Addr)}{g:TG}{tc:TT}{te:TE}
  {pins:List (Addr×Obj)}{σ:St}{H:Hp}{s:Shared}{J:It}{fp:List Addr}{it:Addr}{tn:Nat→Heap→Prop}{Q:Addr→Hp→Prop}{RR:Value→Addr→Result→Shared→Prop}{E:Value→Shared→Prop}
  (hx:∀ e s,¬ X.xe e s) (hc:X.calm=true) (S:LcOk X scope cl N' fr)
  (hg:∀ fp s H,PG (cxC X N' scope cl fp s H) tg g) (ht:∀ fp s H,PIf (cxC X N' scope cl fp s H) ifs tc) (he:∀ fp s H,PE (cxC X N' scope cl fp s H) elt te)
  (I:Inv X pins σ H s) (T:Turn X.prog X.w X.K tg J fp it tn) (st:tn 0 s.heap) (hf:∀ b∈fp,FpOk X pins H b) (h:lcRest J g tc te fr σ H Q)
  (hRR:∀ D C H' s' m',Inv X pins σ H' s'→Q D H'→s'.heap.Ns C m'→FpOk X pins H' C→RR (.ref D) C (.ok .next) s') :
  wpAny (model X.prog X.w) X.A (newList []) (fun acc s₃=>wpAny (model X.prog X.w) X.A (newFunctionEnv scope X.env.globals cl [] X.env.qual none .none (some X.env)) (fun cenv s₄=>
   codeAny (model X.prog X.w) X.A (.compStart (.ListComp elt [⟨tg,iter,ifs,0⟩] scope pos) 0 (.ref it) acc { cenv with scope:=relabel scope X.env }) (RR acc cenv.locals) s₄) E s₃) E s:=by
 have hcell:=S.nocell
 rw[List.all_eq_true] at hcell
 refine wpAny_newObj_type (wpAny_newFunctionEnv (fun x hx'=>by simpa using hcell x hx') (by intro y hy;simp at hy) (fun h₁ hns₁ hsb₁=>?_) S.kind)
 dsimp only at hns₁ hsb₁ ⊢
 have fresh:H s.heap.objs.size=none:=I.hok.fresh (Nat.le_refl _)
 have I3:Inv X pins σ (upd H s.heap.objs.size (.lst [])) { s with heap:=s.heap.push { cls:=.type "list",data:=.seq ([]:List Value).toArray },toks:=s.toks }:=I.lnew (ys:=[]) (its:=[]) .nil (Nat.zero_le _)
 have hf3:∀ b∈fp,FpOk X pins (upd H s.heap.objs.size (.lst [])) b:=fun b hb=>by
  obtain⟨o,ho,_⟩:=T.obj _ _ st b hb
  exact⟨by rw[aQ (Nat.ne_of_lt (Heap.lt_size ho))];exact (hf b hb).1,(hf b hb).2⟩
 generalize hs3:({ s with heap:=s.heap.push { cls:=.type "list",data:=.seq ([]:List Value).toArray },toks:=s.toks }:Shared)=s3 at I3
 have e3:s3.heap=s.heap.push { cls:=.type "list",dict:=none,data:=.seq ([]:List Value).toArray }:=by rw[← hs3]
 have e3s:({ s with heap:=s.heap.push { cls:=.type "list",dict:=none,data:=.seq ([]:List Value).toArray } }:Shared)=s3:=hs3
 have hsz3:s3.heap.objs.size=s.heap.objs.size+1:=by rw[e3,Heap.size_push]
 have hfo:∀ b∈fp,b < s3.heap.objs.size:=fun b hb=>by
  obtain⟨o,ho,_⟩:=T.obj _ _ st b hb
  rw[hsz3]
  exact Nat.lt_succ_of_lt (Heap.lt_size ho)
 rw[← e3] at hns₁ hsb₁ ⊢
 have old3:∀ b o,s3.heap.get? b=some o→h₁.get? b=some o:=fun b o e=>hsb₁.extBut b o (Nat.ne_of_lt (Heap.lt_size e)) (Heap.get?_push_of_some _ e)
 have old:∀ b o,s.heap.get? b=some o→s3.heap.get? b=some o:=fun b o e=>by rw[e3];exact Heap.get?_push_of_some _ e
 have I4:=S.invC (tk:=s3.toks) I3 hf3 hfo old3 hns₁
 obtain⟨W,⟨m0,w0⟩,turn⟩:=h s.heap.objs.size fresh
 have stat:∀ {H':Hp},(∀ b∈fp,H' b=none)→∀ b∈fp,FpOk (cxC X N' scope cl fp s3 (upd H s.heap.objs.size (.lst []))) [] H' b:=fun hn b hb=>by
  refine⟨hn b hb,Nat.ne_of_lt (hfo b hb),?_,.inl hb,fun x c e=>(hf b hb).2.2.2.2.1 x c (S.cls.get x c e),fun p hp=>absurd (show p∈([]:List (Addr×Obj)) from hp) (by simp)⟩
  intro hz
  obtain⟨_,f1,f2,_⟩:=hf b hb
  rcases List.mem_cons.mp (I.stkSub b hz) with e | e
  ·exact f1 e
  ·exact f2 e
 have loop:∀ s4:Shared,s4={ s3 with heap:=h₁,toks:=s3.toks }→
   codeAny (model X.prog X.w) X.A (.compLoop (.ListComp elt [⟨tg,iter,ifs,0⟩] scope pos) 0 (.ref it) (.ref s.heap.objs.size) (compEnvC scope cl s3.heap.objs.size X.env)) (RR (.ref s.heap.objs.size) s3.heap.objs.size) s4:=by
  intro s4 hs4
  refine compLoop_any (fun n s'=>∃ i ys σ' H',Inv (cxC X N' scope cl fp s3 (upd H s.heap.objs.size (.lst []))) [] σ' H' s'∧tn i s'.heap∧(∀ b∈fp,H' b=none)∧W i n ys σ' H') ?_ m0
   ⟨0,[],frσ fr σ,_,by rw[hs4];exact I4,by rw[hs4];exact T.keep _ _ _ st fun b _ o e=>old3 b o (old b o e),fun b hb=>(hf3 b hb).1,w0⟩
  rintro n s5 ⟨i,ys,σ5,H5,I5,st5,fr5,w5⟩
  rcases turn i n ys σ5 H5 w5 with ⟨stop,qn⟩ | ⟨go,N,hN,step⟩
  ·refine d0 (T.done (cxC X N' scope cl fp s3 (upd H s.heap.objs.size (.lst []))) rfl rfl rfl hc i [] s5 σ5 H5 _ I5 (stat fr5) st5 stop) fun r s6 ⟨hr,I6⟩=>?_
   subst hr
   obtain⟨m',hm',_⟩:=I6.loc
   exact hRR _ _ H5 s6 m' (I3.outC I6 hf3) qn hm' (I3.fpOk (Nat.le_refl _) I6.free)
  ·refine d0 (T.item (cxC X N' scope cl fp s3 (upd H s.heap.objs.size (.lst []))) rfl rfl rfl hc i [] s5 σ5 H5 _ I5 (stat fr5) st5 go) fun r s6 ⟨u,hr,h6⟩=>?_
   subst hr
   refine d0 h6 fun _ s7 ⟨x,H7,I7,r7,y7,st7,fr7⟩=>?_
   have I7':=I7.pinned (stat fr7) (T.obj _ _ st7)
   refine wpAny_mono (hg fp s3 _ _ s7 σ5 H7 x u _ I7' r7 (step x H7 y7)) (fun _ s8 ⟨σ8,H8,I8,q8⟩=>?_) fun e s' z=>(hx e s' z).elim
   refine wpAny_mono (ht fp s3 _ _ s8 σ8 H8 _ I8 q8) (fun ok s9 ⟨H9,I9,q9⟩=>?_) fun e s' z=>(hx e s' z).elim
   have again:∀ {s10:Shared}{H10:Hp}{ys':List V},Inv (cxC X N' scope cl fp s3 (upd H s.heap.objs.size (.lst []))) ([]++pinsAt fp s7.heap) σ8 H10 s10→N ys' σ8 H10→
     ∃ m,m < n∧∃ i ys σ' H',Inv (cxC X N' scope cl fp s3 (upd H s.heap.objs.size (.lst []))) [] σ' H' s10∧tn i s10.heap∧(∀ b∈fp,H' b=none)∧W i m ys σ' H':=fun {s10 H10 ys'} I10 n10=>by
    obtain⟨m',hm,w10⟩:=hN ys' σ8 H10 n10
    refine⟨m',hm,i+1,ys',σ8,H10,I10.unpinned,T.keep _ _ _ st7 fun b hb o e=>(I10.pin (b,o) (List.mem_append_right _ (List.mem_append_right _ (mem_pinsAt hb e)))).1,fun b hb=>?_,w10⟩
    obtain⟨o,e,d⟩:=T.obj _ _ st7 b hb
    exact (I10.pin (b,o) (List.mem_append_right _ (List.mem_append_right _ (mem_pinsAt hb e)))).2.1
   cases ok with
   | false=>
    rw[if_neg Bool.false_ne_true] at q9 ⊢
    exact again I9 q9
   | true=>
    rw[if_pos rfl] at q9 ⊢
    refine wpAny_mono (he fp s3 _ _ s9 σ8 H9 _ I9 q9) (fun y s10 ⟨yv,H10,I10,r10,hD,hlen,q10⟩=>?_) fun e s' z=>(hx e s' z).elim
    refine wpAny_mono (cQ (X:=cxC X N' scope cl fp s3 (upd H s.heap.objs.size (.lst []))) _ s10 σ8 H10 (.ref s.heap.objs.size) [yv] (.ref s.heap.objs.size) [y] (fun _ H11=>H11=upd H10 s.heap.objs.size (.lst (ys++[yv]))) I10 rfl (.cons r10 .nil)
     ⟨_,ys,yv,rfl,rfl,hD,hlen,rfl⟩) (fun _ s11 ⟨_,H11,I11,_,e11⟩=>?_) fun e s' z=>(hx e s' z).elim
    subst e11
    exact again I11 q10
 exact codeAny_compStart_list (loop _ (by rw[← e3s];rfl)) (T.self X.A 0 _ _ _ (T.keep _ _ _ st fun b _ o e=>old3 b o (old b o e)) (loop _ (by rw[← e3s];rfl)))
theorem pe_lc {elt tg iter:Expr}{ifs:List Expr}{scope:Scope}{pos:Pos}{N':List Str}{fr:List (Option Nat)}{cl:List (Str×Addr)}{wi:TI}{g:TG}{tc:TT}{te:TE}
  (hx:∀ e s,¬ X.xe e s) (hc:X.calm=true) (S:LcOk X scope cl N' fr) (hi:PI X tg iter wi)
  (hg:∀ fp s H,PG (cxC X N' scope cl fp s H) tg g) (ht:∀ fp s H,PIf (cxC X N' scope cl fp s H) ifs tc) (he:∀ fp s H,PE (cxC X N' scope cl fp s H) elt te)
  (hs:∀ x,foldedSetIterable iter X.env x=pure x:=by intro _;rfl):PE X (.ListComp elt [⟨tg,iter,ifs,0⟩] scope pos) (tLC wi fr g tc te):=by
 intro pins s σ H Q I h
 have hloc:=S.locs
 rw[List.all_eq_true] at hloc
 rw[eval_ListComp]
 refine wpAny_comprehension_free (use:=none) rfl hs S.clos S.kind (fun x hx' hl=>by have:=hloc x hx';rw[hl] at this;simpa using this) (d0 (hi pins s σ H _ I h) fun v s1 h1=>d0 h1 fun itv s2 h2=>?_)
 obtain⟨it,fp,tn,J,H2,e,I2,T,st2,f2,rest⟩:=h2
 subst e
 refine lc_block (RR:=fun acc C=>compPost (model X.prog X.w) X.A X.xe none (EP X pins σ Q) acc C) hx hc S hg ht he I2 T st2 f2 rest ?_
 intro D C H' s' m' I' q hn f
 exact⟨m',hn,fun h' hsb=>⟨.ref D,H',I'.letgo f hsb,rfl,q⟩⟩
theorem eX {i:Nat}{y:Str}{py:Pos}{spos:Pos}{elt tg iter:Expr}{ifs:List Expr}{scope:Scope}{pos:Pos}{N':List Str}{fr:List (Option Nat)}{cl:List (Str×Addr)}{wi:TI}{g:TG}{tc:TT}{te:TE}
  (hN:X.N.Nodup) (hy:X.N[i]? = some y) (hk:X.env.scope.names.lookup y=some .local)
  (hx:∀ e s,¬ X.xe e s) (hc:X.calm=true) (S:LcOk X scope cl N' fr) (hi:PI X tg iter wi)
  (hg:∀ fp s H,PG (cxC X N' scope cl fp s H) tg g) (ht:∀ fp s H,PIf (cxC X N' scope cl fp s H) ifs tc) (he:∀ fp s H,PE (cxC X N' scope cl fp s H) elt te)
  (hsw:swapsWith (.ListComp elt [⟨tg,iter,ifs,0⟩] scope pos) (some (.Name y py)) spos.line X.env=pure true:=by rfl)
  (hs:∀ x,foldedSetIterable iter X.env x=pure x:=by intro _;rfl):PS X (.Assign [.Name y py] (.ListComp elt [⟨tg,iter,ifs,0⟩] scope pos) spos) (tAsg (tLC wi fr g tc te) (gName i)):=by
 intro pins s σ H D I h
 have hloc:=S.locs
 rw[List.all_eq_true] at hloc
 rw[exec_Assign_Name_used _ _ _ _ hsw]
 refine wpAny_bind (wpAny_standAt (wpAny_bind ?_))
 show wpAny _ X.A (do let _ ← comprehension (.ListComp elt [⟨tg,iter,ifs,0⟩] scope pos) scope X.env _ (newList []) false (eval iter X.env) (some (assign (.Name y py) X.env))) _ _ s
 refine wpAny_bind (wpAny_mono (wpAny_comprehension_free (use:=some (assign (.Name y py) X.env)) (Q:=fun _ s'=>SP X pins D .next s') rfl hs S.clos S.kind (fun x hx' hl=>by have:=hloc x hx';rw[hl] at this;simpa using this)
  (d0 (hi pins s σ H _ I h) fun v s1 h1=>d0 h1 fun itv s2 h2=>?_)) (fun _ s' hq=>wpAny_pure (wpAny_pure hq)) fun _ _ e=>e)
 obtain⟨it,fp,tn,J,H2,e,I2,T,st2,f2,rest⟩:=h2
 subst e
 refine lc_block (RR:=fun acc C=>compPost (model X.prog X.w) X.A X.xe (some (assign (.Name y py) X.env)) (fun _ s'=>SP X pins D .next s') acc C) hx hc S hg ht he I2 T st2 f2 rest ?_
 intro Da C H' s' m' I' q hn f
 show wpAny _ X.A (assign (.Name y py) X.env (.ref Da)) _ _ _
 refine wpAny_assign_Name (store_ok2 I' hN hy (.inl hk) (v:=.ref Da) rfl (fun s'' I'' hch=>?_) (.inr hk))
 obtain⟨a,hsb,ha⟩:=hch
 have haC:a≠C:=by
  rcases ha with e | e
  ·rw[e];exact Ne.symm f.2.1
  ·exact f.2.2.2.2.1 _ _ e
 exact⟨m',hn.sameBut hsb (Ne.symm haC),fun h' hs'=>⟨_,H',I''.letgo f hs',q⟩⟩
end
end L2
namespace TwZ
open PySem
open Sem (wp)
noncomputable def dD (h:Heap) (t:Bool) (it a:Addr) (i:Nat):Prop:=if t=true then h.IsTupleIter it a i else h.IsListIter it a i
noncomputable def cG (h:Heap) (t:Bool) (a:Addr) (items:Array Value):Prop:=if t=true then h.IsTuple a items else h.IsList a items
theorem dD.at {h h':Heap}{t:Bool}{it a:Addr}{i:Nat} (x:dD h t it a i) (k:∀ o,h.get? it=some o→h'.get? it=some o):dD h' t it a i:=by
 cases t <;> (obtain⟨o,ho,r⟩:=x;exact⟨o,k o ho,r⟩)
theorem ex {h h':Heap}{b c:Addr}{o:Obj} (hs:Heap.SameBut b h h') (hc:@Ne Nat c b) (e:h.get? c=some o):h'.get? c=some o:=hs.extBut _ _ hc e
theorem dD.ext {h h':Heap}{t:Bool}{it a b:Addr}{i:Nat} (x:dD h t it a i) (hs:Heap.SameBut b h h') (hab:@Ne Nat it b):dD h' t it a i:=x.at fun o e=>hs.extBut _ _ hab e
theorem cG.at {h h':Heap}{t:Bool}{a:Addr}{xs:Array Value} (x:cG h t a xs) (k:∀ o,h.get? a=some o→h'.get? a=some o):cG h' t a xs:=by
 cases t <;> (obtain⟨o,ho,r⟩:=x;exact⟨o,k o ho,r⟩)
theorem cG.ext {h h':Heap}{t:Bool}{a b:Addr}{xs:Array Value} (x:cG h t a xs) (hs:Heap.SameBut b h h') (hab:@Ne Nat a b):cG h' t a xs:=x.at fun o e=>hs.extBut _ _ hab e
theorem cG.lt {h:Heap}{t:Bool}{a:Addr}{xs:Array Value} (x:cG h t a xs):a < h.objs.size:=by
 cases t <;> (obtain⟨o,ho,r⟩:=x;exact Heap.lt_size ho)
theorem dD.obj {h:Heap}{t:Bool}{it a:Addr}{i:Nat} (x:dD h t it a i):∃ o,h.get? it=some o∧∀ v,o.data≠.cell v:=by
 cases t <;> (obtain⟨o,ho,_,d⟩:=x;exact⟨o,ho,fun v z=>by rw[d] at z;cases z⟩)
section
variable {prog:Program}{w:World}{M:Model}{A:Around}{E:Value→Shared→Prop}{s:Shared}
theorem wpAny_alive {a:Addr}{Q:Option Obj→Shared→Prop} (h:Q (s.heap.get? a) s):wpAny M A (loadIfAlive a) Q E s:=fun Γ p _=>by
 unfold loadIfAlive
 rw[Sem.wp_loadIfAlive]
 exact h
theorem nextOf_tuple_item {it l:Addr}{i:Nat}{items}{x:Value}{Q:Value→Shared→Prop} (hit:s.heap.IsTupleIter it l i)
  (hl:s.heap.IsTuple l items) (hx:items[i]? = some x)
  (hQ:∀ h',h'.IsTupleIter it l (i+1)→Heap.SameBut it s.heap h'→Q x { s with heap:=h' }) :
  wpAny (model prog w) A (Builtin.SmallTypes.nextOf (.ref it)) Q E s:=by
 obtain⟨o,ho,hc,hd⟩:=id hit
 obtain⟨ol,hol,_,nl,hdl⟩:=hl
 unfold Builtin.SmallTypes.nextOf
 refine wpAny_bind (wpAny_callSpecial?_slot (name:=Str.ofString "__next__") hit.typeIs F.slot_tuple_iterator_next
  (wpAny_call_entry F.slot_tuple_iterator_next hit.typeIs F.entry_tuple_iterator_next ?_ (F.args_tuple_iterator_next_1 _)))
 show wpAny _ _ (field (.ref it) 0 >>= _) _ _ s
 refine wpAny_bind (wpAny_field ho hd (x:=.ref l) rfl ?_)
 show wpAny _ _ (if (Value.ref l == Value.none)=true then _ else _) _ _ s
 rw[if_neg (show ¬ ((Value.ref l == Value.none)=true) from Bool.false_ne_true)]
 show wpAny _ _ (field (.ref it) 1 >>= _) _ _ s
 refine wpAny_bind (wpAny_field ho hd (x:=.int i 0) rfl ?_)
 show wpAny _ _ (seqItems? (.ref l) >>= _) _ _ s
 refine wpAny_bind (wpAny_seqItems hol hdl ?_)
 simp only [Int.toNat_natCast,hx]
 refine wpAny_bind (wpAny_setField ho hd (by simp) (wpAny_pure ⟨x,rfl,wpAny_pure (hQ _ ?_ (Heap.SameBut.update ..))⟩))
 exact⟨_,Heap.get?_update_self _ ho (Obj.isFreed_of_fields (Obj.data_mapFields hd _)),(Obj.cls_mapFields ..).trans hc,by
  rw[Obj.data_mapFields hd];simp [rawInt]⟩
theorem nextOf_tuple_end {it l:Addr}{i:Nat}{items}{Q:Value→Shared→Prop} (hh:A.handled=none)
  (hit:s.heap.IsTupleIter it l i) (hl:s.heap.IsTuple l items) (hx:items[i]? = none)
  (hE:∀ h' e,Heap.ExtBut it s.heap h'→(∃ o,h'.get? e=some o∧o.cls=.type "StopIteration")→E (.ref e) { s with heap:=h' }) :
  wpAny (model prog w) A (Builtin.SmallTypes.nextOf (.ref it)) Q E s:=by
 obtain⟨o,ho,hc,hd⟩:=id hit
 obtain⟨ol,hol,_,nl,hdl⟩:=hl
 unfold Builtin.SmallTypes.nextOf
 refine wpAny_bind (wpAny_callSpecial?_slot (name:=Str.ofString "__next__") hit.typeIs F.slot_tuple_iterator_next
  (wpAny_call_entry F.slot_tuple_iterator_next hit.typeIs F.entry_tuple_iterator_next ?_ (F.args_tuple_iterator_next_1 _)))
 show wpAny _ _ (field (.ref it) 0 >>= _) _ _ s
 refine wpAny_bind (wpAny_field ho hd (x:=.ref l) rfl ?_)
 show wpAny _ _ (if (Value.ref l == Value.none)=true then _ else _) _ _ s
 rw[if_neg (show ¬ ((Value.ref l == Value.none)=true) from Bool.false_ne_true)]
 show wpAny _ _ (field (.ref it) 1 >>= _) _ _ s
 refine wpAny_bind (wpAny_field ho hd (x:=.int i 0) rfl ?_)
 show wpAny _ _ (seqItems? (.ref l) >>= _) _ _ s
 refine wpAny_bind (wpAny_seqItems hol hdl ?_)
 simp only [Int.toNat_natCast,hx]
 refine wpAny_bind (wpAny_rule (wpAny_bind (wpAny_setField ho hd (by simp) ?_)))
 show wpAny _ _ (newExc (.type "StopIteration") [] >>= _) _ _ _
 refine wpAny_bind ?_
 simp only [newExc,newTuple]
 refine wpAny_bind (wpAny_newObj_type ?_ (by size_fits))
 refine wpAny_bind (m:=firstArgMember _ _) (wpAny_of_eq (a:=Value.none) (by first | rfl | (simp only [firstArgMember];rfl)) ?_)
 refine wpAny_newObj_type ?_ (by size_fits)
 simp only [raiseNew]
 refine wpAny_bind (wpAny_handled ?_)
 first | rw[show A.in1.handled=none from hh] | rw[hh]
 refine wpAny_bind (wpAny_pure (wpAny_throw ?_))
 exact hE _ _ (((Heap.SameBut.update ..).extBut.push _).push _) ⟨_,Heap.get?_push_size _ rfl,rfl⟩
theorem bM {t:Bool}{it l:Addr}{i:Nat}{items}{x:Value}{Q:Value→Shared→Prop} (hit:dD s.heap t it l i)
  (hl:cG s.heap t l items) (hx:items[i]? = some x)
  (hQ:∀ h',dD h' t it l (i+1)→Heap.SameBut it s.heap h'→Q x { s with heap:=h' }) :
  wpAny (model prog w) A (Builtin.SmallTypes.nextOf (.ref it)) Q E s:=by
 cases t with
 | true=>exact nextOf_tuple_item hit hl hx hQ
 | false=>exact wpAny_nextOf_list_item hit hl hx hQ
theorem cY {t:Bool}{it l:Addr}{i:Nat}{items}{Q:Value→Shared→Prop} (hh:A.handled=none)
  (hit:dD s.heap t it l i) (hl:cG s.heap t l items) (hx:items[i]? = none)
  (hE:∀ h' e,Heap.ExtBut it s.heap h'→(∃ o,h'.get? e=some o∧o.cls=.type "StopIteration")→E (.ref e) { s with heap:=h' }) :
  wpAny (model prog w) A (Builtin.SmallTypes.nextOf (.ref it)) Q E s:=by
 cases t with
 | true=>exact nextOf_tuple_end hh hit hl hx hE
 | false=>exact wpAny_nextOf_list_end hh hit hl hx hE
noncomputable abbrev IsZ (h:Heap) (z TI TO:Addr) (f0:Value) (f1:Bool):Prop:=
 h.get? z=some { cls:=.type "zip",dict:=none,data:=.fields #[f0,.bool f1,.bool false,.ref TI,.ref TO],slots:=#[] }
noncomputable abbrev d8 (h:Heap) (T:Addr) (vs:Array Value):Prop:=h.get? T=some { cls:=.type "tuple",data:=.seq vs }
noncomputable def Free0 (f0:Value):Prop:=f0=.none∨∃ a:Int,f0=.int a 0
theorem owned_free {z TI TO:Addr}{f0:Value}{f1:Bool}{Q:Bool→Shared→Prop} (hz:IsZ s.heap z TI TO f0 f1) (hf:Free0 f0) (yes:Q true s)
  (no:∀ h',IsZ h' z TI TO f0 true→Heap.SameBut z s.heap h'→Q false { s with heap:=h' }):wpAny (model prog w) A (Builtin.SmallTypes.ownedTupleIsFree (.ref z)) Q E s:=by
 unfold Builtin.SmallTypes.ownedTupleIsFree
 refine wpAny_bind (wpAny_field hz rfl (x:=f0) rfl ?_)
 rcases hf with rfl | ⟨a,rfl⟩
 ·exact wpAny_pure yes
 ·refine wpAny_bind (wpAny_alive ?_)
  cases h:s.heap.get? a.toNat with
  | none=>exact wpAny_pure yes
  | some o=>
   show wpAny _ _ (field (.ref z) 1 >>= _) _ _ _
   refine wpAny_bind (wpAny_field hz rfl (x:=.bool f1) rfl ?_)
   cases f1 with
   | true=>exact wpAny_pure (no s.heap hz (Heap.SameBut.refl ..))
   | false=>
    show wpAny _ _ (setField (.ref z) 1 (.bool true) >>= _) _ _ _
    refine wpAny_bind (wpAny_setField_rec hz (by simp) fun h₁ hz₁ hs₁=>wpAny_pure (no h₁ hz₁ hs₁))
theorem handOut {z TI TO:Addr}{f0:Value}{f1:Bool}{T:Addr}{Q:Unit→Shared→Prop} (hz:IsZ s.heap z TI TO f0 f1)
  (h:∀ h',IsZ h' z TI TO (rawInt T) false→Heap.SameBut z s.heap h'→Q () { s with heap:=h' }):wpAny (model prog w) A (Builtin.SmallTypes.ownedTupleHandOut (.ref z) (.ref T)) Q E s:=by
 unfold Builtin.SmallTypes.ownedTupleHandOut
 refine wpAny_bind (wpAny_setField_rec hz (by simp) fun h₁ hz₁ hs₁=>?_)
 replace hz₁:IsZ h₁ z TI TO (rawInt T) f1:=hz₁
 refine wpAny_setField_rec hz₁ (by simp) fun h₂ hz₂ hs₂=>?_
 exact h h₂ hz₂ (Heap.SameBut.trans hs₁ hs₂)
theorem seq_set {T:Addr}{vs:Array Value}{x:Value}{k:Nat}{Q:Unit→Shared→Prop} (hT:d8 s.heap T vs) (h3:vs.size≤3)
  (h:∀ h',d8 h' T (vs.setIfInBounds k x)→Heap.SameBut T s.heap h'→Q () { s with heap:=h' }):wpAny (model prog w) A (updateSeq T (·.setIfInBounds k x)) Q E s:=by
 have hl:vs.size≤sizeLine:=Nat.le_trans h3 (by decide)
 refine wpAny_updateSeq (hz:=hl) (_hz':=by rw[Array.size_setIfInBounds];omega) hT rfl (h _ ?_ (Heap.SameBut.update ..))
 show Heap.get? _ _=_
 rw[Heap.get?_update_self _ hT rfl]
 simp [Obj.mapSeq]
theorem nn {n i j:Nat} (h:i≠j):n+i≠n+j:=fun e=>h (Nat.add_left_cancel e)
theorem n0 {n j:Nat} (h:0 < j):n≠n+j:=fun e=>absurd e (Nat.ne_of_lt (Nat.lt_add_of_pos_right h))
theorem aU {n j:Nat} (h:0 < j):n+j≠n:=Ne.symm (n0 h)
theorem al {a n:Nat} (h:a < n) (j:Nat):a≠n+j:=Nat.ne_of_lt (Nat.lt_of_lt_of_le h (Nat.le_add_right n j))
theorem aF {a n:Nat} (h:a < n):a≠n:=Nat.ne_of_lt h
theorem co {c n m k:Nat} (h:c < n∨n+m < c) (hk:k≤m):c≠n+k:=fun e=>h.elim (fun h=>absurd e (al h k)) fun h=>absurd (Nat.lt_of_le_of_lt (Nat.add_le_add_left hk n) h) (by rw[e];exact Nat.lt_irrefl _)
theorem aV {c n m:Nat} (h:c < n∨n+m < c):c≠n:=co (k:=0) h (Nat.zero_le m)
theorem zip3_next {n a1 a2 a3:Nat}{t1 t2 t3:Bool}{k:Nat}{xs ys zs:Array Value}{x y z c1 c2 c3 f0:Value}{f1:Bool}{Q:Value→Shared→Prop} (hf:Free0 f0)
  (hz:IsZ s.heap (n+5) (n+3) (n+4) f0 f1) (hTI:d8 s.heap (n+3) #[.ref n,.ref (n+1),.ref (n+2)]) (hTO:d8 s.heap (n+4) #[c1,c2,c3])
  (i1:dD s.heap t1 n a1 k) (i2:dD s.heap t2 (n+1) a2 k) (i3:dD s.heap t3 (n+2) a3 k) (s1:cG s.heap t1 a1 xs) (s2:cG s.heap t2 a2 ys) (s3:cG s.heap t3 a3 zs)
  (l1:a1 < n) (l2:a2 < n) (l3:a3 < n) (hx:xs[k]? = some x) (hy:ys[k]? = some y) (hw:zs[k]? = some z)
  (hQ:∀ (T:Nat) h' f0' f1' d1 d2 d3,s.heap.objs.size≤T→Free0 f0'→IsZ h' (n+5) (n+3) (n+4) f0' f1'→d8 h' (n+3) #[.ref n,.ref (n+1),.ref (n+2)]→d8 h' (n+4) #[d1,d2,d3]→
   dD h' t1 n a1 (k+1)→dD h' t2 (n+1) a2 (k+1)→dD h' t3 (n+2) a3 (k+1)→d8 h' T #[x,y,z]→
   (∀ (c:Nat) o,(c < n∨n+5 < c)→s.heap.get? c=some o→h'.get? c=some o)→Q (.ref T) { s with heap:=h' }) :
  wpAny (model prog w) A (Builtin.«zip.__next__» ⟨[.ref (n+5)],[]⟩) (fun fin s'=>∃ v,fin=.done (.ret v)∧Q v s') E s:=by
 have hzlt:n+5 < s.heap.objs.size:=Heap.lt_size hz
 show wpAny _ _ (field (.ref (n+5)) 2 >>= _) _ _ _
 refine wpAny_bind (wpAny_field hz rfl (x:=.bool false) rfl ?_)
 show wpAny _ _ (field (.ref (n+5)) 3 >>= _) _ _ _
 refine wpAny_bind (wpAny_field hz rfl (x:=.ref (n+3)) rfl ?_)
 refine wpAny_bind (wpAny_seqItems hTI rfl ?_)
 show wpAny _ _ (Builtin.SmallTypes.ownedTupleIsFree (.ref (n+5)) >>= _) _ _ _
 refine wpAny_bind (owned_free hz hf ?_ ?_)
 ·simp only [if_true]
  refine wpAny_bind (wpAny_rule ?_)
  refine wpAny_bind (wpAny_field hz rfl (x:=.ref (n+4)) rfl ?_)
  refine wpAny_bind (wpAny_setField_rec hz (by simp) fun h₁ hz₁ hs₁=>?_)
  replace hz₁:IsZ h₁ (n+5) (n+3) (n+4) .ellipsis f1:=hz₁
  refine wpAny_bind ?_
  simp only [List.zipIdx_cons,List.zipIdx_nil,List.forIn_cons,List.forIn_nil]
  refine wpAny_bind (wpAny_bind (wpAny_onRaise ?_))
  show wpAny _ _ (Builtin.SmallTypes.nextOf (.ref n) >>= _) _ _ _
  refine wpAny_bind (bM (i1.ext hs₁ (by first | exact nn (by decide) | exact n0 (by decide) | exact aU (by decide) | exact al l1 _ | exact al l2 _ | exact al l3 _ | exact aF l1 | exact aF l2 | exact aF l3 | exact co hc (by decide) | exact aV hc | omega)) (s1.ext hs₁ (by first | exact nn (by decide) | exact n0 (by decide) | exact aU (by decide) | exact al l1 _ | exact al l2 _ | exact al l3 _ | exact aF l1 | exact aF l2 | exact aF l3 | exact co hc (by decide) | exact aV hc | omega)) hx fun h₂ i1₂ hs₂=>wpAny_pure ?_)
  have hTO₂:d8 h₂ (n+4) #[c1,c2,c3]:=ex hs₂ (by first | exact nn (by decide) | exact n0 (by decide) | exact aU (by decide) | exact al l1 _ | exact al l2 _ | exact al l3 _ | exact aF l1 | exact aF l2 | exact aF l3 | exact co hc (by decide) | exact aV hc | omega) (ex hs₁ (by first | exact nn (by decide) | exact n0 (by decide) | exact aU (by decide) | exact al l1 _ | exact al l2 _ | exact al l3 _ | exact aF l1 | exact aF l2 | exact aF l3 | exact co hc (by decide) | exact aV hc | omega) hTO)
  refine wpAny_bind (wpAny_seqItems hTO₂ rfl ?_)
  refine wpAny_bind (seq_set hTO₂ (by simp) fun h₃ hTO₃ hs₃=>?_)
  replace hTO₃:d8 h₃ (n+4) #[x,c2,c3]:=hTO₃
  refine wpAny_bind (wpAny_letGo (wpAny_pure ?_))
  refine wpAny_bind (wpAny_bind (wpAny_onRaise ?_))
  show wpAny _ _ (Builtin.SmallTypes.nextOf (.ref (n+1)) >>= _) _ _ _
  refine wpAny_bind (bM (((i2.ext hs₁ (by first | exact nn (by decide) | exact n0 (by decide) | exact aU (by decide) | exact al l1 _ | exact al l2 _ | exact al l3 _ | exact aF l1 | exact aF l2 | exact aF l3 | exact co hc (by decide) | exact aV hc | omega)).ext hs₂ (by first | exact nn (by decide) | exact n0 (by decide) | exact aU (by decide) | exact al l1 _ | exact al l2 _ | exact al l3 _ | exact aF l1 | exact aF l2 | exact aF l3 | exact co hc (by decide) | exact aV hc | omega)).ext hs₃ (by first | exact nn (by decide) | exact n0 (by decide) | exact aU (by decide) | exact al l1 _ | exact al l2 _ | exact al l3 _ | exact aF l1 | exact aF l2 | exact aF l3 | exact co hc (by decide) | exact aV hc | omega)) (((s2.ext hs₁ (by first | exact nn (by decide) | exact n0 (by decide) | exact aU (by decide) | exact al l1 _ | exact al l2 _ | exact al l3 _ | exact aF l1 | exact aF l2 | exact aF l3 | exact co hc (by decide) | exact aV hc | omega)).ext hs₂ (by first | exact nn (by decide) | exact n0 (by decide) | exact aU (by decide) | exact al l1 _ | exact al l2 _ | exact al l3 _ | exact aF l1 | exact aF l2 | exact aF l3 | exact co hc (by decide) | exact aV hc | omega)).ext hs₃ (by first | exact nn (by decide) | exact n0 (by decide) | exact aU (by decide) | exact al l1 _ | exact al l2 _ | exact al l3 _ | exact aF l1 | exact aF l2 | exact aF l3 | exact co hc (by decide) | exact aV hc | omega)) hy fun h₄ i2₄ hs₄=>wpAny_pure ?_)
  have hTO₄:d8 h₄ (n+4) #[x,c2,c3]:=ex hs₄ (by first | exact nn (by decide) | exact n0 (by decide) | exact aU (by decide) | exact al l1 _ | exact al l2 _ | exact al l3 _ | exact aF l1 | exact aF l2 | exact aF l3 | exact co hc (by decide) | exact aV hc | omega) hTO₃
  refine wpAny_bind (wpAny_seqItems hTO₄ rfl ?_)
  refine wpAny_bind (seq_set hTO₄ (by simp) fun h₅ hTO₅ hs₅=>?_)
  replace hTO₅:d8 h₅ (n+4) #[x,y,c3]:=hTO₅
  refine wpAny_bind (wpAny_letGo (wpAny_pure ?_))
  refine wpAny_bind (wpAny_bind (wpAny_onRaise ?_))
  show wpAny _ _ (Builtin.SmallTypes.nextOf (.ref (n+2)) >>= _) _ _ _
  refine wpAny_bind (bM (((((i3.ext hs₁ (by first | exact nn (by decide) | exact n0 (by decide) | exact aU (by decide) | exact al l1 _ | exact al l2 _ | exact al l3 _ | exact aF l1 | exact aF l2 | exact aF l3 | exact co hc (by decide) | exact aV hc | omega)).ext hs₂ (by first | exact nn (by decide) | exact n0 (by decide) | exact aU (by decide) | exact al l1 _ | exact al l2 _ | exact al l3 _ | exact aF l1 | exact aF l2 | exact aF l3 | exact co hc (by decide) | exact aV hc | omega)).ext hs₃ (by first | exact nn (by decide) | exact n0 (by decide) | exact aU (by decide) | exact al l1 _ | exact al l2 _ | exact al l3 _ | exact aF l1 | exact aF l2 | exact aF l3 | exact co hc (by decide) | exact aV hc | omega)).ext hs₄ (by first | exact nn (by decide) | exact n0 (by decide) | exact aU (by decide) | exact al l1 _ | exact al l2 _ | exact al l3 _ | exact aF l1 | exact aF l2 | exact aF l3 | exact co hc (by decide) | exact aV hc | omega)).ext hs₅ (by first | exact nn (by decide) | exact n0 (by decide) | exact aU (by decide) | exact al l1 _ | exact al l2 _ | exact al l3 _ | exact aF l1 | exact aF l2 | exact aF l3 | exact co hc (by decide) | exact aV hc | omega))
   (((((s3.ext hs₁ (by first | exact nn (by decide) | exact n0 (by decide) | exact aU (by decide) | exact al l1 _ | exact al l2 _ | exact al l3 _ | exact aF l1 | exact aF l2 | exact aF l3 | exact co hc (by decide) | exact aV hc | omega)).ext hs₂ (by first | exact nn (by decide) | exact n0 (by decide) | exact aU (by decide) | exact al l1 _ | exact al l2 _ | exact al l3 _ | exact aF l1 | exact aF l2 | exact aF l3 | exact co hc (by decide) | exact aV hc | omega)).ext hs₃ (by first | exact nn (by decide) | exact n0 (by decide) | exact aU (by decide) | exact al l1 _ | exact al l2 _ | exact al l3 _ | exact aF l1 | exact aF l2 | exact aF l3 | exact co hc (by decide) | exact aV hc | omega)).ext hs₄ (by first | exact nn (by decide) | exact n0 (by decide) | exact aU (by decide) | exact al l1 _ | exact al l2 _ | exact al l3 _ | exact aF l1 | exact aF l2 | exact aF l3 | exact co hc (by decide) | exact aV hc | omega)).ext hs₅ (by first | exact nn (by decide) | exact n0 (by decide) | exact aU (by decide) | exact al l1 _ | exact al l2 _ | exact al l3 _ | exact aF l1 | exact aF l2 | exact aF l3 | exact co hc (by decide) | exact aV hc | omega)) hw fun h₆ i3₆ hs₆=>wpAny_pure ?_)
  have hTO₆:d8 h₆ (n+4) #[x,y,c3]:=ex hs₆ (by first | exact nn (by decide) | exact n0 (by decide) | exact aU (by decide) | exact al l1 _ | exact al l2 _ | exact al l3 _ | exact aF l1 | exact aF l2 | exact aF l3 | exact co hc (by decide) | exact aV hc | omega) hTO₅
  refine wpAny_bind (wpAny_seqItems hTO₆ rfl ?_)
  refine wpAny_bind (seq_set hTO₆ (by simp) fun h₇ hTO₇ hs₇=>?_)
  replace hTO₇:d8 h₇ (n+4) #[x,y,z]:=hTO₇
  refine wpAny_bind (wpAny_letGo (wpAny_pure (wpAny_pure ?_)))
  refine wpAny_bind (wpAny_seqItems hTO₇ rfl ?_)
  refine wpAny_bind (wpAny_newTuple ?_)
  have hsz:h₇.objs.size=s.heap.objs.size:=by rw[hs₇.1,hs₆.1,hs₅.1,hs₄.1,hs₃.1,hs₂.1,hs₁.1]
  have keep:∀ (c:Nat) o,(c < n∨n+5 < c)→s.heap.get? c=some o→h₇.get? c=some o:=fun c o hc e=>
   ex hs₇ (by first | exact nn (by decide) | exact n0 (by decide) | exact aU (by decide) | exact al l1 _ | exact al l2 _ | exact al l3 _ | exact aF l1 | exact aF l2 | exact aF l3 | exact co hc (by decide) | exact aV hc | omega) (ex hs₆ (by first | exact nn (by decide) | exact n0 (by decide) | exact aU (by decide) | exact al l1 _ | exact al l2 _ | exact al l3 _ | exact aF l1 | exact aF l2 | exact aF l3 | exact co hc (by decide) | exact aV hc | omega) (ex hs₅ (by first | exact nn (by decide) | exact n0 (by decide) | exact aU (by decide) | exact al l1 _ | exact al l2 _ | exact al l3 _ | exact aF l1 | exact aF l2 | exact aF l3 | exact co hc (by decide) | exact aV hc | omega) (ex hs₄ (by first | exact nn (by decide) | exact n0 (by decide) | exact aU (by decide) | exact al l1 _ | exact al l2 _ | exact al l3 _ | exact aF l1 | exact aF l2 | exact aF l3 | exact co hc (by decide) | exact aV hc | omega) (ex hs₃ (by first | exact nn (by decide) | exact n0 (by decide) | exact aU (by decide) | exact al l1 _ | exact al l2 _ | exact al l3 _ | exact aF l1 | exact aF l2 | exact aF l3 | exact co hc (by decide) | exact aV hc | omega) (ex hs₂ (by first | exact nn (by decide) | exact n0 (by decide) | exact aU (by decide) | exact al l1 _ | exact al l2 _ | exact al l3 _ | exact aF l1 | exact aF l2 | exact aF l3 | exact co hc (by decide) | exact aV hc | omega) (ex hs₁ (by first | exact nn (by decide) | exact n0 (by decide) | exact aU (by decide) | exact al l1 _ | exact al l2 _ | exact al l3 _ | exact aF l1 | exact aF l2 | exact aF l3 | exact co hc (by decide) | exact aV hc | omega) e))))))
  have hz₇:IsZ h₇ (n+5) (n+3) (n+4) .ellipsis f1:=ex hs₇ (by first | exact nn (by decide) | exact n0 (by decide) | exact aU (by decide) | exact al l1 _ | exact al l2 _ | exact al l3 _ | exact aF l1 | exact aF l2 | exact aF l3 | exact co hc (by decide) | exact aV hc | omega) (ex hs₆ (by first | exact nn (by decide) | exact n0 (by decide) | exact aU (by decide) | exact al l1 _ | exact al l2 _ | exact al l3 _ | exact aF l1 | exact aF l2 | exact aF l3 | exact co hc (by decide) | exact aV hc | omega) (ex hs₅ (by first | exact nn (by decide) | exact n0 (by decide) | exact aU (by decide) | exact al l1 _ | exact al l2 _ | exact al l3 _ | exact aF l1 | exact aF l2 | exact aF l3 | exact co hc (by decide) | exact aV hc | omega) (ex hs₄ (by first | exact nn (by decide) | exact n0 (by decide) | exact aU (by decide) | exact al l1 _ | exact al l2 _ | exact al l3 _ | exact aF l1 | exact aF l2 | exact aF l3 | exact co hc (by decide) | exact aV hc | omega) (ex hs₃ (by first | exact nn (by decide) | exact n0 (by decide) | exact aU (by decide) | exact al l1 _ | exact al l2 _ | exact al l3 _ | exact aF l1 | exact aF l2 | exact aF l3 | exact co hc (by decide) | exact aV hc | omega) (ex hs₂ (by first | exact nn (by decide) | exact n0 (by decide) | exact aU (by decide) | exact al l1 _ | exact al l2 _ | exact al l3 _ | exact aF l1 | exact aF l2 | exact aF l3 | exact co hc (by decide) | exact aV hc | omega) hz₁)))))
  have hTI₇:d8 h₇ (n+3) #[.ref n,.ref (n+1),.ref (n+2)]:=ex hs₇ (by first | exact nn (by decide) | exact n0 (by decide) | exact aU (by decide) | exact al l1 _ | exact al l2 _ | exact al l3 _ | exact aF l1 | exact aF l2 | exact aF l3 | exact co hc (by decide) | exact aV hc | omega) (ex hs₆ (by first | exact nn (by decide) | exact n0 (by decide) | exact aU (by decide) | exact al l1 _ | exact al l2 _ | exact al l3 _ | exact aF l1 | exact aF l2 | exact aF l3 | exact co hc (by decide) | exact aV hc | omega) (ex hs₅ (by first | exact nn (by decide) | exact n0 (by decide) | exact aU (by decide) | exact al l1 _ | exact al l2 _ | exact al l3 _ | exact aF l1 | exact aF l2 | exact aF l3 | exact co hc (by decide) | exact aV hc | omega) (ex hs₄ (by first | exact nn (by decide) | exact n0 (by decide) | exact aU (by decide) | exact al l1 _ | exact al l2 _ | exact al l3 _ | exact aF l1 | exact aF l2 | exact aF l3 | exact co hc (by decide) | exact aV hc | omega) (ex hs₃ (by first | exact nn (by decide) | exact n0 (by decide) | exact aU (by decide) | exact al l1 _ | exact al l2 _ | exact al l3 _ | exact aF l1 | exact aF l2 | exact aF l3 | exact co hc (by decide) | exact aV hc | omega) (ex hs₂ (by first | exact nn (by decide) | exact n0 (by decide) | exact aU (by decide) | exact al l1 _ | exact al l2 _ | exact al l3 _ | exact aF l1 | exact aF l2 | exact aF l3 | exact co hc (by decide) | exact aV hc | omega) (ex hs₁ (by first | exact nn (by decide) | exact n0 (by decide) | exact aU (by decide) | exact al l1 _ | exact al l2 _ | exact al l3 _ | exact aF l1 | exact aF l2 | exact aF l3 | exact co hc (by decide) | exact aV hc | omega) hTI))))))
  have i1₇:=((((i1₂.ext hs₃ (by first | exact nn (by decide) | exact n0 (by decide) | exact aU (by decide) | exact al l1 _ | exact al l2 _ | exact al l3 _ | exact aF l1 | exact aF l2 | exact aF l3 | exact co hc (by decide) | exact aV hc | omega)).ext hs₄ (by first | exact nn (by decide) | exact n0 (by decide) | exact aU (by decide) | exact al l1 _ | exact al l2 _ | exact al l3 _ | exact aF l1 | exact aF l2 | exact aF l3 | exact co hc (by decide) | exact aV hc | omega)).ext hs₅ (by first | exact nn (by decide) | exact n0 (by decide) | exact aU (by decide) | exact al l1 _ | exact al l2 _ | exact al l3 _ | exact aF l1 | exact aF l2 | exact aF l3 | exact co hc (by decide) | exact aV hc | omega)).ext hs₆ (by first | exact nn (by decide) | exact n0 (by decide) | exact aU (by decide) | exact al l1 _ | exact al l2 _ | exact al l3 _ | exact aF l1 | exact aF l2 | exact aF l3 | exact co hc (by decide) | exact aV hc | omega)).ext hs₇ (by first | exact nn (by decide) | exact n0 (by decide) | exact aU (by decide) | exact al l1 _ | exact al l2 _ | exact al l3 _ | exact aF l1 | exact aF l2 | exact aF l3 | exact co hc (by decide) | exact aV hc | omega)
  have i2₇:=((i2₄.ext hs₅ (by first | exact nn (by decide) | exact n0 (by decide) | exact aU (by decide) | exact al l1 _ | exact al l2 _ | exact al l3 _ | exact aF l1 | exact aF l2 | exact aF l3 | exact co hc (by decide) | exact aV hc | omega)).ext hs₆ (by first | exact nn (by decide) | exact n0 (by decide) | exact aU (by decide) | exact al l1 _ | exact al l2 _ | exact al l3 _ | exact aF l1 | exact aF l2 | exact aF l3 | exact co hc (by decide) | exact aV hc | omega)).ext hs₇ (by first | exact nn (by decide) | exact n0 (by decide) | exact aU (by decide) | exact al l1 _ | exact al l2 _ | exact al l3 _ | exact aF l1 | exact aF l2 | exact aF l3 | exact co hc (by decide) | exact aV hc | omega)
  have i3₇:=i3₆.ext hs₇ (by first | exact nn (by decide) | exact n0 (by decide) | exact aU (by decide) | exact al l1 _ | exact al l2 _ | exact al l3 _ | exact aF l1 | exact aF l2 | exact aF l3 | exact co hc (by decide) | exact aV hc | omega)
  have hzlt₇:n+5 < h₇.objs.size:=by rw[hsz];exact hzlt
  have up:∀ {c o},h₇.get? c=some o→(h₇.push { cls:=.type "tuple",data:=.seq #[x,y,z] }).get? c=some o:=fun e=>Heap.get?_push_of_some _ e
  refine wpAny_bind (handOut (z:=n+5) (TI:=n+3) (TO:=n+4) (f0:=.ellipsis) (f1:=f1) (up hz₇) fun h₈ hz₈ hs₈=>?_)
  have up8:∀ {c:Nat}{o},c≠n+5→h₇.get? c=some o→h₈.get? c=some o:=fun hc e=>ex hs₈ hc (up e)
  refine wpAny_pure ⟨_,rfl,hQ h₇.objs.size h₈ (rawInt h₇.objs.size) false x y z (by rw[hsz];exact Nat.le_refl _) (.inr ⟨_,rfl⟩) hz₈ (up8 (by first | exact nn (by decide) | exact n0 (by decide) | exact aU (by decide) | exact al l1 _ | exact al l2 _ | exact al l3 _ | exact aF l1 | exact aF l2 | exact aF l3 | exact co hc (by decide) | exact aV hc | omega) hTI₇) (up8 (by first | exact nn (by decide) | exact n0 (by decide) | exact aU (by decide) | exact al l1 _ | exact al l2 _ | exact al l3 _ | exact aF l1 | exact aF l2 | exact aF l3 | exact co hc (by decide) | exact aV hc | omega) hTO₇) (i1₇.at fun o e=>up8 (by first | exact nn (by decide) | exact n0 (by decide) | exact aU (by decide) | exact al l1 _ | exact al l2 _ | exact al l3 _ | exact aF l1 | exact aF l2 | exact aF l3 | exact co hc (by decide) | exact aV hc | omega) e) (i2₇.at fun o e=>up8 (by first | exact nn (by decide) | exact n0 (by decide) | exact aU (by decide) | exact al l1 _ | exact al l2 _ | exact al l3 _ | exact aF l1 | exact aF l2 | exact aF l3 | exact co hc (by decide) | exact aV hc | omega) e) (i3₇.at fun o e=>up8 (by first | exact nn (by decide) | exact n0 (by decide) | exact aU (by decide) | exact al l1 _ | exact al l2 _ | exact al l3 _ | exact aF l1 | exact aF l2 | exact aF l3 | exact co hc (by decide) | exact aV hc | omega) e)
   (ex hs₈ (by first | exact nn (by decide) | exact n0 (by decide) | exact aU (by decide) | exact al l1 _ | exact al l2 _ | exact al l3 _ | exact aF l1 | exact aF l2 | exact aF l3 | exact co hc (by decide) | exact aV hc | omega) (Heap.get?_push_size _ rfl)) fun c o hc e=>up8 (by first | exact nn (by decide) | exact n0 (by decide) | exact aU (by decide) | exact al l1 _ | exact al l2 _ | exact al l3 _ | exact aF l1 | exact aF l2 | exact aF l3 | exact co hc (by decide) | exact aV hc | omega) (keep c o hc e)⟩
 ·intro h₁ hz₁ hs₁
  simp only [Bool.false_eq_true,if_false]
  refine wpAny_bind ?_
  rw[← Array.forIn_toList]
  simp only [List.forIn_cons,List.forIn_nil]
  refine wpAny_bind (wpAny_bind (wpAny_holding ?_))
  show wpAny _ _ (Builtin.SmallTypes.nextOf (.ref n) >>= _) _ _ _
  refine wpAny_bind (bM (i1.ext hs₁ (by first | exact nn (by decide) | exact n0 (by decide) | exact aU (by decide) | exact al l1 _ | exact al l2 _ | exact al l3 _ | exact aF l1 | exact aF l2 | exact aF l3 | exact co hc (by decide) | exact aV hc | omega)) (s1.ext hs₁ (by first | exact nn (by decide) | exact n0 (by decide) | exact aU (by decide) | exact al l1 _ | exact al l2 _ | exact al l3 _ | exact aF l1 | exact aF l2 | exact aF l3 | exact co hc (by decide) | exact aV hc | omega)) hx fun h₂ i1₂ hs₂=>wpAny_pure (wpAny_pure ?_))
  refine wpAny_bind (wpAny_bind (wpAny_holding ?_))
  show wpAny _ _ (Builtin.SmallTypes.nextOf (.ref (n+1)) >>= _) _ _ _
  refine wpAny_bind (bM ((i2.ext hs₁ (by first | exact nn (by decide) | exact n0 (by decide) | exact aU (by decide) | exact al l1 _ | exact al l2 _ | exact al l3 _ | exact aF l1 | exact aF l2 | exact aF l3 | exact co hc (by decide) | exact aV hc | omega)).ext hs₂ (by first | exact nn (by decide) | exact n0 (by decide) | exact aU (by decide) | exact al l1 _ | exact al l2 _ | exact al l3 _ | exact aF l1 | exact aF l2 | exact aF l3 | exact co hc (by decide) | exact aV hc | omega)) ((s2.ext hs₁ (by first | exact nn (by decide) | exact n0 (by decide) | exact aU (by decide) | exact al l1 _ | exact al l2 _ | exact al l3 _ | exact aF l1 | exact aF l2 | exact aF l3 | exact co hc (by decide) | exact aV hc | omega)).ext hs₂ (by first | exact nn (by decide) | exact n0 (by decide) | exact aU (by decide) | exact al l1 _ | exact al l2 _ | exact al l3 _ | exact aF l1 | exact aF l2 | exact aF l3 | exact co hc (by decide) | exact aV hc | omega)) hy fun h₃ i2₃ hs₃=>wpAny_pure (wpAny_pure ?_))
  refine wpAny_bind (wpAny_bind (wpAny_holding ?_))
  show wpAny _ _ (Builtin.SmallTypes.nextOf (.ref (n+2)) >>= _) _ _ _
  refine wpAny_bind (bM (((i3.ext hs₁ (by first | exact nn (by decide) | exact n0 (by decide) | exact aU (by decide) | exact al l1 _ | exact al l2 _ | exact al l3 _ | exact aF l1 | exact aF l2 | exact aF l3 | exact co hc (by decide) | exact aV hc | omega)).ext hs₂ (by first | exact nn (by decide) | exact n0 (by decide) | exact aU (by decide) | exact al l1 _ | exact al l2 _ | exact al l3 _ | exact aF l1 | exact aF l2 | exact aF l3 | exact co hc (by decide) | exact aV hc | omega)).ext hs₃ (by first | exact nn (by decide) | exact n0 (by decide) | exact aU (by decide) | exact al l1 _ | exact al l2 _ | exact al l3 _ | exact aF l1 | exact aF l2 | exact aF l3 | exact co hc (by decide) | exact aV hc | omega)) (((s3.ext hs₁ (by first | exact nn (by decide) | exact n0 (by decide) | exact aU (by decide) | exact al l1 _ | exact al l2 _ | exact al l3 _ | exact aF l1 | exact aF l2 | exact aF l3 | exact co hc (by decide) | exact aV hc | omega)).ext hs₂ (by first | exact nn (by decide) | exact n0 (by decide) | exact aU (by decide) | exact al l1 _ | exact al l2 _ | exact al l3 _ | exact aF l1 | exact aF l2 | exact aF l3 | exact co hc (by decide) | exact aV hc | omega)).ext hs₃ (by first | exact nn (by decide) | exact n0 (by decide) | exact aU (by decide) | exact al l1 _ | exact al l2 _ | exact al l3 _ | exact aF l1 | exact aF l2 | exact aF l3 | exact co hc (by decide) | exact aV hc | omega)) hw fun h₄ i3₄ hs₄=>wpAny_pure (wpAny_pure (wpAny_pure ?_)))
  refine wpAny_bind (wpAny_newTuple (hsz:=by show 3≤sizeLine;decide) (wpAny_pure ⟨_,rfl,?_⟩))
  have hsz:h₄.objs.size=s.heap.objs.size:=by rw[hs₄.1,hs₃.1,hs₂.1,hs₁.1]
  have up:∀ {c o},h₄.get? c=some o→(h₄.push { cls:=.type "tuple",data:=.seq #[x,y,z] }).get? c=some o:=fun e=>Heap.get?_push_of_some _ e
  have keep:∀ (c:Nat) o,(c < n∨n+5 < c)→s.heap.get? c=some o→h₄.get? c=some o:=fun c o hc e=>ex hs₄ (by first | exact nn (by decide) | exact n0 (by decide) | exact aU (by decide) | exact al l1 _ | exact al l2 _ | exact al l3 _ | exact aF l1 | exact aF l2 | exact aF l3 | exact co hc (by decide) | exact aV hc | omega) (ex hs₃ (by first | exact nn (by decide) | exact n0 (by decide) | exact aU (by decide) | exact al l1 _ | exact al l2 _ | exact al l3 _ | exact aF l1 | exact aF l2 | exact aF l3 | exact co hc (by decide) | exact aV hc | omega) (ex hs₂ (by first | exact nn (by decide) | exact n0 (by decide) | exact aU (by decide) | exact al l1 _ | exact al l2 _ | exact al l3 _ | exact aF l1 | exact aF l2 | exact aF l3 | exact co hc (by decide) | exact aV hc | omega) (ex hs₁ (by first | exact nn (by decide) | exact n0 (by decide) | exact aU (by decide) | exact al l1 _ | exact al l2 _ | exact al l3 _ | exact aF l1 | exact aF l2 | exact aF l3 | exact co hc (by decide) | exact aV hc | omega) e)))
  refine hQ h₄.objs.size (h₄.push { cls:=.type "tuple",data:=.seq #[x,y,z] }) f0 true c1 c2 c3 (by rw[hsz];exact Nat.le_refl _) hf (up (ex hs₄ (by first | exact nn (by decide) | exact n0 (by decide) | exact aU (by decide) | exact al l1 _ | exact al l2 _ | exact al l3 _ | exact aF l1 | exact aF l2 | exact aF l3 | exact co hc (by decide) | exact aV hc | omega) (ex hs₃ (by first | exact nn (by decide) | exact n0 (by decide) | exact aU (by decide) | exact al l1 _ | exact al l2 _ | exact al l3 _ | exact aF l1 | exact aF l2 | exact aF l3 | exact co hc (by decide) | exact aV hc | omega) (ex hs₂ (by first | exact nn (by decide) | exact n0 (by decide) | exact aU (by decide) | exact al l1 _ | exact al l2 _ | exact al l3 _ | exact aF l1 | exact aF l2 | exact aF l3 | exact co hc (by decide) | exact aV hc | omega) hz₁))))
   (up (ex hs₄ (by first | exact nn (by decide) | exact n0 (by decide) | exact aU (by decide) | exact al l1 _ | exact al l2 _ | exact al l3 _ | exact aF l1 | exact aF l2 | exact aF l3 | exact co hc (by decide) | exact aV hc | omega) (ex hs₃ (by first | exact nn (by decide) | exact n0 (by decide) | exact aU (by decide) | exact al l1 _ | exact al l2 _ | exact al l3 _ | exact aF l1 | exact aF l2 | exact aF l3 | exact co hc (by decide) | exact aV hc | omega) (ex hs₂ (by first | exact nn (by decide) | exact n0 (by decide) | exact aU (by decide) | exact al l1 _ | exact al l2 _ | exact al l3 _ | exact aF l1 | exact aF l2 | exact aF l3 | exact co hc (by decide) | exact aV hc | omega) (ex hs₁ (by first | exact nn (by decide) | exact n0 (by decide) | exact aU (by decide) | exact al l1 _ | exact al l2 _ | exact al l3 _ | exact aF l1 | exact aF l2 | exact aF l3 | exact co hc (by decide) | exact aV hc | omega) hTI))))) (up (ex hs₄ (by first | exact nn (by decide) | exact n0 (by decide) | exact aU (by decide) | exact al l1 _ | exact al l2 _ | exact al l3 _ | exact aF l1 | exact aF l2 | exact aF l3 | exact co hc (by decide) | exact aV hc | omega) (ex hs₃ (by first | exact nn (by decide) | exact n0 (by decide) | exact aU (by decide) | exact al l1 _ | exact al l2 _ | exact al l3 _ | exact aF l1 | exact aF l2 | exact aF l3 | exact co hc (by decide) | exact aV hc | omega) (ex hs₂ (by first | exact nn (by decide) | exact n0 (by decide) | exact aU (by decide) | exact al l1 _ | exact al l2 _ | exact al l3 _ | exact aF l1 | exact aF l2 | exact aF l3 | exact co hc (by decide) | exact aV hc | omega) (ex hs₁ (by first | exact nn (by decide) | exact n0 (by decide) | exact aU (by decide) | exact al l1 _ | exact al l2 _ | exact al l3 _ | exact aF l1 | exact aF l2 | exact aF l3 | exact co hc (by decide) | exact aV hc | omega) hTO)))))
   (((i1₂.ext hs₃ (by first | exact nn (by decide) | exact n0 (by decide) | exact aU (by decide) | exact al l1 _ | exact al l2 _ | exact al l3 _ | exact aF l1 | exact aF l2 | exact aF l3 | exact co hc (by decide) | exact aV hc | omega)).ext hs₄ (by first | exact nn (by decide) | exact n0 (by decide) | exact aU (by decide) | exact al l1 _ | exact al l2 _ | exact al l3 _ | exact aF l1 | exact aF l2 | exact aF l3 | exact co hc (by decide) | exact aV hc | omega)).at fun o e=>up e) ((i2₃.ext hs₄ (by first | exact nn (by decide) | exact n0 (by decide) | exact aU (by decide) | exact al l1 _ | exact al l2 _ | exact al l3 _ | exact aF l1 | exact aF l2 | exact aF l3 | exact co hc (by decide) | exact aV hc | omega)).at fun o e=>up e) (i3₄.at fun o e=>up e) (Heap.get?_push_size _ rfl) fun c o hc e=>up (keep c o hc e)
theorem zip3_end {n a1 a2 a3:Nat}{t1 t2 t3:Bool}{k:Nat}{xs ys zs:Array Value}{c1 c2 c3 f0:Value}{f1:Bool}{Q:Fin→Shared→Prop} (hh:A.handled=none) (hf:Free0 f0)
  (hz:IsZ s.heap (n+5) (n+3) (n+4) f0 f1) (hTI:d8 s.heap (n+3) #[.ref n,.ref (n+1),.ref (n+2)]) (hTO:d8 s.heap (n+4) #[c1,c2,c3])
  (i1:dD s.heap t1 n a1 k) (i2:dD s.heap t2 (n+1) a2 k) (i3:dD s.heap t3 (n+2) a3 k) (s1:cG s.heap t1 a1 xs) (s2:cG s.heap t2 a2 ys) (s3:cG s.heap t3 a3 zs)
  (l1:a1 < n) (l2:a2 < n) (l3:a3 < n) (hend:xs[k]? = none∨ys[k]? = none∨zs[k]? = none)
  (hE:∀ h' e,(∀ (c:Nat) o,(c < n∨n+5 < c)→s.heap.get? c=some o→h'.get? c=some o)→(∃ o,h'.get? e=some o∧o.cls=.type "StopIteration")→E (.ref e) { s with heap:=h' }) :
  wpAny (model prog w) A (Builtin.«zip.__next__» ⟨[.ref (n+5)],[]⟩) Q E s:=by
 show wpAny _ _ (field (.ref (n+5)) 2 >>= _) _ _ _
 refine wpAny_bind (wpAny_field hz rfl (x:=.bool false) rfl ?_)
 show wpAny _ _ (field (.ref (n+5)) 3 >>= _) _ _ _
 refine wpAny_bind (wpAny_field hz rfl (x:=.ref (n+3)) rfl ?_)
 refine wpAny_bind (wpAny_seqItems hTI rfl ?_)
 show wpAny _ _ (Builtin.SmallTypes.ownedTupleIsFree (.ref (n+5)) >>= _) _ _ _
 refine wpAny_bind (owned_free hz hf ?_ ?_)
 ·simp only [if_true]
  refine wpAny_bind (wpAny_rule ?_)
  refine wpAny_bind (wpAny_field hz rfl (x:=.ref (n+4)) rfl ?_)
  refine wpAny_bind (wpAny_setField_rec hz (by simp) fun h₁ hz₁ hs₁=>?_)
  replace hz₁:IsZ h₁ (n+5) (n+3) (n+4) .ellipsis f1:=hz₁
  refine wpAny_bind ?_
  simp only [List.zipIdx_cons,List.zipIdx_nil,List.forIn_cons,List.forIn_nil]
  have fin:∀ {h₂ h₃:Heap}{e j:Nat}{oe:Obj},IsZ h₂ (n+5) (n+3) (n+4) .ellipsis f1→Heap.ExtBut j h₂ h₃→@Ne Nat (n+5) j→(n≤j∧j≤n+5)→(∀ (c:Nat) o,(c < n∨n+5 < c)→s.heap.get? c=some o→h₂.get? c=some o)→h₃.get? e=some oe→oe.cls=.type "StopIteration" →
    wpAny (model prog w) A (setField (.ref (n+5)) 0 .none) (fun _ s'=>E (.ref e) s') E { s with heap:=h₃ }:=fun {h₂ h₃ e j oe} hz₂ hx hj hr hk hoe hce=>by
   have hz₃:IsZ h₃ (n+5) (n+3) (n+4) .ellipsis f1:=hx _ _ hj hz₂
   have hez:e≠n+5:=fun q=>by subst q;rw[hz₃] at hoe;cases hoe;simp at hce
   refine wpAny_setField_rec hz₃ (by simp) fun h₄ _ hs₄=>hE h₄ e (fun c o hc q=>ex hs₄ (by first | exact nn (by decide) | exact n0 (by decide) | exact aU (by decide) | exact al l1 _ | exact al l2 _ | exact al l3 _ | exact aF l1 | exact aF l2 | exact aF l3 | exact co hc (by decide) | exact aV hc | omega) (hx c o (show @Ne Nat c j by omega) (hk c o hc q))) ⟨oe,hs₄.extBut _ _ hez hoe,hce⟩
  refine wpAny_bind (wpAny_bind (wpAny_onRaise ?_))
  show wpAny _ _ (Builtin.SmallTypes.nextOf (.ref n) >>= _) _ _ _
  cases hx:xs[k]? with
  | none=>
   refine wpAny_bind (cY hh (i1.ext hs₁ (by first | exact nn (by decide) | exact n0 (by decide) | exact aU (by decide) | exact al l1 _ | exact al l2 _ | exact al l3 _ | exact aF l1 | exact aF l2 | exact aF l3 | exact co hc (by decide) | exact aV hc | omega)) (s1.ext hs₁ (by first | exact nn (by decide) | exact n0 (by decide) | exact aU (by decide) | exact al l1 _ | exact al l2 _ | exact al l3 _ | exact aF l1 | exact aF l2 | exact aF l3 | exact co hc (by decide) | exact aV hc | omega)) hx fun h₂ e hs₂ he=>?_)
   obtain⟨oe,hoe,hce⟩:=he
   exact fin hz₁ hs₂ (by first | exact nn (by decide) | exact n0 (by decide) | exact aU (by decide) | exact al l1 _ | exact al l2 _ | exact al l3 _ | exact aF l1 | exact aF l2 | exact aF l3 | exact co hc (by decide) | exact aV hc | omega) (by first | exact nn (by decide) | exact n0 (by decide) | exact aU (by decide) | exact al l1 _ | exact al l2 _ | exact al l3 _ | exact aF l1 | exact aF l2 | exact aF l3 | exact co hc (by decide) | exact aV hc | omega) (fun c o hc q=>ex hs₁ (by first | exact nn (by decide) | exact n0 (by decide) | exact aU (by decide) | exact al l1 _ | exact al l2 _ | exact al l3 _ | exact aF l1 | exact aF l2 | exact aF l3 | exact co hc (by decide) | exact aV hc | omega) q) hoe hce
  | some x=>
   refine wpAny_bind (bM (i1.ext hs₁ (by first | exact nn (by decide) | exact n0 (by decide) | exact aU (by decide) | exact al l1 _ | exact al l2 _ | exact al l3 _ | exact aF l1 | exact aF l2 | exact aF l3 | exact co hc (by decide) | exact aV hc | omega)) (s1.ext hs₁ (by first | exact nn (by decide) | exact n0 (by decide) | exact aU (by decide) | exact al l1 _ | exact al l2 _ | exact al l3 _ | exact aF l1 | exact aF l2 | exact aF l3 | exact co hc (by decide) | exact aV hc | omega)) hx fun h₂ i1₂ hs₂=>wpAny_pure ?_)
   have hTO₂:d8 h₂ (n+4) #[c1,c2,c3]:=ex hs₂ (by first | exact nn (by decide) | exact n0 (by decide) | exact aU (by decide) | exact al l1 _ | exact al l2 _ | exact al l3 _ | exact aF l1 | exact aF l2 | exact aF l3 | exact co hc (by decide) | exact aV hc | omega) (ex hs₁ (by first | exact nn (by decide) | exact n0 (by decide) | exact aU (by decide) | exact al l1 _ | exact al l2 _ | exact al l3 _ | exact aF l1 | exact aF l2 | exact aF l3 | exact co hc (by decide) | exact aV hc | omega) hTO)
   refine wpAny_bind (wpAny_seqItems hTO₂ rfl ?_)
   refine wpAny_bind (seq_set hTO₂ (by simp) fun h₃ hTO₃ hs₃=>?_)
   replace hTO₃:d8 h₃ (n+4) #[x,c2,c3]:=hTO₃
   refine wpAny_bind (wpAny_letGo (wpAny_pure ?_))
   have hz₃:IsZ h₃ (n+5) (n+3) (n+4) .ellipsis f1:=ex hs₃ (by first | exact nn (by decide) | exact n0 (by decide) | exact aU (by decide) | exact al l1 _ | exact al l2 _ | exact al l3 _ | exact aF l1 | exact aF l2 | exact aF l3 | exact co hc (by decide) | exact aV hc | omega) (ex hs₂ (by first | exact nn (by decide) | exact n0 (by decide) | exact aU (by decide) | exact al l1 _ | exact al l2 _ | exact al l3 _ | exact aF l1 | exact aF l2 | exact aF l3 | exact co hc (by decide) | exact aV hc | omega) hz₁)
   have k₃:∀ (c:Nat) o,(c < n∨n+5 < c)→s.heap.get? c=some o→h₃.get? c=some o:=fun c o hc e=>ex hs₃ (by first | exact nn (by decide) | exact n0 (by decide) | exact aU (by decide) | exact al l1 _ | exact al l2 _ | exact al l3 _ | exact aF l1 | exact aF l2 | exact aF l3 | exact co hc (by decide) | exact aV hc | omega) (ex hs₂ (by first | exact nn (by decide) | exact n0 (by decide) | exact aU (by decide) | exact al l1 _ | exact al l2 _ | exact al l3 _ | exact aF l1 | exact aF l2 | exact aF l3 | exact co hc (by decide) | exact aV hc | omega) (ex hs₁ (by first | exact nn (by decide) | exact n0 (by decide) | exact aU (by decide) | exact al l1 _ | exact al l2 _ | exact al l3 _ | exact aF l1 | exact aF l2 | exact aF l3 | exact co hc (by decide) | exact aV hc | omega) e))
   refine wpAny_bind (wpAny_bind (wpAny_onRaise ?_))
   show wpAny _ _ (Builtin.SmallTypes.nextOf (.ref (n+1)) >>= _) _ _ _
   cases hy:ys[k]? with
   | none=>
    refine wpAny_bind (cY hh (((i2.ext hs₁ (by first | exact nn (by decide) | exact n0 (by decide) | exact aU (by decide) | exact al l1 _ | exact al l2 _ | exact al l3 _ | exact aF l1 | exact aF l2 | exact aF l3 | exact co hc (by decide) | exact aV hc | omega)).ext hs₂ (by first | exact nn (by decide) | exact n0 (by decide) | exact aU (by decide) | exact al l1 _ | exact al l2 _ | exact al l3 _ | exact aF l1 | exact aF l2 | exact aF l3 | exact co hc (by decide) | exact aV hc | omega)).ext hs₃ (by first | exact nn (by decide) | exact n0 (by decide) | exact aU (by decide) | exact al l1 _ | exact al l2 _ | exact al l3 _ | exact aF l1 | exact aF l2 | exact aF l3 | exact co hc (by decide) | exact aV hc | omega)) (((s2.ext hs₁ (by first | exact nn (by decide) | exact n0 (by decide) | exact aU (by decide) | exact al l1 _ | exact al l2 _ | exact al l3 _ | exact aF l1 | exact aF l2 | exact aF l3 | exact co hc (by decide) | exact aV hc | omega)).ext hs₂ (by first | exact nn (by decide) | exact n0 (by decide) | exact aU (by decide) | exact al l1 _ | exact al l2 _ | exact al l3 _ | exact aF l1 | exact aF l2 | exact aF l3 | exact co hc (by decide) | exact aV hc | omega)).ext hs₃ (by first | exact nn (by decide) | exact n0 (by decide) | exact aU (by decide) | exact al l1 _ | exact al l2 _ | exact al l3 _ | exact aF l1 | exact aF l2 | exact aF l3 | exact co hc (by decide) | exact aV hc | omega)) hy fun h₄ e hs₄ he=>?_)
    obtain⟨oe,hoe,hce⟩:=he
    exact fin hz₃ hs₄ (by first | exact nn (by decide) | exact n0 (by decide) | exact aU (by decide) | exact al l1 _ | exact al l2 _ | exact al l3 _ | exact aF l1 | exact aF l2 | exact aF l3 | exact co hc (by decide) | exact aV hc | omega) (by first | exact nn (by decide) | exact n0 (by decide) | exact aU (by decide) | exact al l1 _ | exact al l2 _ | exact al l3 _ | exact aF l1 | exact aF l2 | exact aF l3 | exact co hc (by decide) | exact aV hc | omega) k₃ hoe hce
   | some y=>
    have hw:zs[k]? = none:=by rcases hend with h | h | h;rw[hx] at h;cases h;rw[hy] at h;cases h;exact h
    refine wpAny_bind (bM (((i2.ext hs₁ (by first | exact nn (by decide) | exact n0 (by decide) | exact aU (by decide) | exact al l1 _ | exact al l2 _ | exact al l3 _ | exact aF l1 | exact aF l2 | exact aF l3 | exact co hc (by decide) | exact aV hc | omega)).ext hs₂ (by first | exact nn (by decide) | exact n0 (by decide) | exact aU (by decide) | exact al l1 _ | exact al l2 _ | exact al l3 _ | exact aF l1 | exact aF l2 | exact aF l3 | exact co hc (by decide) | exact aV hc | omega)).ext hs₃ (by first | exact nn (by decide) | exact n0 (by decide) | exact aU (by decide) | exact al l1 _ | exact al l2 _ | exact al l3 _ | exact aF l1 | exact aF l2 | exact aF l3 | exact co hc (by decide) | exact aV hc | omega)) (((s2.ext hs₁ (by first | exact nn (by decide) | exact n0 (by decide) | exact aU (by decide) | exact al l1 _ | exact al l2 _ | exact al l3 _ | exact aF l1 | exact aF l2 | exact aF l3 | exact co hc (by decide) | exact aV hc | omega)).ext hs₂ (by first | exact nn (by decide) | exact n0 (by decide) | exact aU (by decide) | exact al l1 _ | exact al l2 _ | exact al l3 _ | exact aF l1 | exact aF l2 | exact aF l3 | exact co hc (by decide) | exact aV hc | omega)).ext hs₃ (by first | exact nn (by decide) | exact n0 (by decide) | exact aU (by decide) | exact al l1 _ | exact al l2 _ | exact al l3 _ | exact aF l1 | exact aF l2 | exact aF l3 | exact co hc (by decide) | exact aV hc | omega)) hy fun h₄ i2₄ hs₄=>wpAny_pure ?_)
    have hTO₄:d8 h₄ (n+4) #[x,c2,c3]:=ex hs₄ (by first | exact nn (by decide) | exact n0 (by decide) | exact aU (by decide) | exact al l1 _ | exact al l2 _ | exact al l3 _ | exact aF l1 | exact aF l2 | exact aF l3 | exact co hc (by decide) | exact aV hc | omega) hTO₃
    refine wpAny_bind (wpAny_seqItems hTO₄ rfl ?_)
    refine wpAny_bind (seq_set hTO₄ (by simp) fun h₅ hTO₅ hs₅=>?_)
    refine wpAny_bind (wpAny_letGo (wpAny_pure ?_))
    refine wpAny_bind (wpAny_bind (wpAny_onRaise ?_))
    show wpAny _ _ (Builtin.SmallTypes.nextOf (.ref (n+2)) >>= _) _ _ _
    refine wpAny_bind (cY hh (((((i3.ext hs₁ (by first | exact nn (by decide) | exact n0 (by decide) | exact aU (by decide) | exact al l1 _ | exact al l2 _ | exact al l3 _ | exact aF l1 | exact aF l2 | exact aF l3 | exact co hc (by decide) | exact aV hc | omega)).ext hs₂ (by first | exact nn (by decide) | exact n0 (by decide) | exact aU (by decide) | exact al l1 _ | exact al l2 _ | exact al l3 _ | exact aF l1 | exact aF l2 | exact aF l3 | exact co hc (by decide) | exact aV hc | omega)).ext hs₃ (by first | exact nn (by decide) | exact n0 (by decide) | exact aU (by decide) | exact al l1 _ | exact al l2 _ | exact al l3 _ | exact aF l1 | exact aF l2 | exact aF l3 | exact co hc (by decide) | exact aV hc | omega)).ext hs₄ (by first | exact nn (by decide) | exact n0 (by decide) | exact aU (by decide) | exact al l1 _ | exact al l2 _ | exact al l3 _ | exact aF l1 | exact aF l2 | exact aF l3 | exact co hc (by decide) | exact aV hc | omega)).ext hs₅ (by first | exact nn (by decide) | exact n0 (by decide) | exact aU (by decide) | exact al l1 _ | exact al l2 _ | exact al l3 _ | exact aF l1 | exact aF l2 | exact aF l3 | exact co hc (by decide) | exact aV hc | omega))
     (((((s3.ext hs₁ (by first | exact nn (by decide) | exact n0 (by decide) | exact aU (by decide) | exact al l1 _ | exact al l2 _ | exact al l3 _ | exact aF l1 | exact aF l2 | exact aF l3 | exact co hc (by decide) | exact aV hc | omega)).ext hs₂ (by first | exact nn (by decide) | exact n0 (by decide) | exact aU (by decide) | exact al l1 _ | exact al l2 _ | exact al l3 _ | exact aF l1 | exact aF l2 | exact aF l3 | exact co hc (by decide) | exact aV hc | omega)).ext hs₃ (by first | exact nn (by decide) | exact n0 (by decide) | exact aU (by decide) | exact al l1 _ | exact al l2 _ | exact al l3 _ | exact aF l1 | exact aF l2 | exact aF l3 | exact co hc (by decide) | exact aV hc | omega)).ext hs₄ (by first | exact nn (by decide) | exact n0 (by decide) | exact aU (by decide) | exact al l1 _ | exact al l2 _ | exact al l3 _ | exact aF l1 | exact aF l2 | exact aF l3 | exact co hc (by decide) | exact aV hc | omega)).ext hs₅ (by first | exact nn (by decide) | exact n0 (by decide) | exact aU (by decide) | exact al l1 _ | exact al l2 _ | exact al l3 _ | exact aF l1 | exact aF l2 | exact aF l3 | exact co hc (by decide) | exact aV hc | omega)) hw fun h₆ e hs₆ he=>?_)
    obtain⟨oe,hoe,hce⟩:=he
    exact fin (ex hs₅ (by first | exact nn (by decide) | exact n0 (by decide) | exact aU (by decide) | exact al l1 _ | exact al l2 _ | exact al l3 _ | exact aF l1 | exact aF l2 | exact aF l3 | exact co hc (by decide) | exact aV hc | omega) (ex hs₄ (by first | exact nn (by decide) | exact n0 (by decide) | exact aU (by decide) | exact al l1 _ | exact al l2 _ | exact al l3 _ | exact aF l1 | exact aF l2 | exact aF l3 | exact co hc (by decide) | exact aV hc | omega) hz₃)) hs₆ (by first | exact nn (by decide) | exact n0 (by decide) | exact aU (by decide) | exact al l1 _ | exact al l2 _ | exact al l3 _ | exact aF l1 | exact aF l2 | exact aF l3 | exact co hc (by decide) | exact aV hc | omega) (by first | exact nn (by decide) | exact n0 (by decide) | exact aU (by decide) | exact al l1 _ | exact al l2 _ | exact al l3 _ | exact aF l1 | exact aF l2 | exact aF l3 | exact co hc (by decide) | exact aV hc | omega) (fun c o hc q=>ex hs₅ (by first | exact nn (by decide) | exact n0 (by decide) | exact aU (by decide) | exact al l1 _ | exact al l2 _ | exact al l3 _ | exact aF l1 | exact aF l2 | exact aF l3 | exact co hc (by decide) | exact aV hc | omega) (ex hs₄ (by first | exact nn (by decide) | exact n0 (by decide) | exact aU (by decide) | exact al l1 _ | exact al l2 _ | exact al l3 _ | exact aF l1 | exact aF l2 | exact aF l3 | exact co hc (by decide) | exact aV hc | omega) (k₃ c o hc q))) hoe hce
 ·intro h₁ hz₁ hs₁
  simp only [Bool.false_eq_true,if_false]
  refine wpAny_bind ?_
  rw[← Array.forIn_toList]
  simp only [List.forIn_cons,List.forIn_nil]
  refine wpAny_bind (wpAny_bind (wpAny_holding ?_))
  show wpAny _ _ (Builtin.SmallTypes.nextOf (.ref n) >>= _) _ _ _
  cases hx:xs[k]? with
  | none=>
   refine wpAny_bind (cY hh (i1.ext hs₁ (by first | exact nn (by decide) | exact n0 (by decide) | exact aU (by decide) | exact al l1 _ | exact al l2 _ | exact al l3 _ | exact aF l1 | exact aF l2 | exact aF l3 | exact co hc (by decide) | exact aV hc | omega)) (s1.ext hs₁ (by first | exact nn (by decide) | exact n0 (by decide) | exact aU (by decide) | exact al l1 _ | exact al l2 _ | exact al l3 _ | exact aF l1 | exact aF l2 | exact aF l3 | exact co hc (by decide) | exact aV hc | omega)) hx fun h₂ e hs₂ he=>?_)
   exact hE h₂ e (fun c o hc q=>hs₂ c o (show @Ne Nat c n by omega) (ex hs₁ (by first | exact nn (by decide) | exact n0 (by decide) | exact aU (by decide) | exact al l1 _ | exact al l2 _ | exact al l3 _ | exact aF l1 | exact aF l2 | exact aF l3 | exact co hc (by decide) | exact aV hc | omega) q)) he
  | some x=>
   refine wpAny_bind (bM (i1.ext hs₁ (by first | exact nn (by decide) | exact n0 (by decide) | exact aU (by decide) | exact al l1 _ | exact al l2 _ | exact al l3 _ | exact aF l1 | exact aF l2 | exact aF l3 | exact co hc (by decide) | exact aV hc | omega)) (s1.ext hs₁ (by first | exact nn (by decide) | exact n0 (by decide) | exact aU (by decide) | exact al l1 _ | exact al l2 _ | exact al l3 _ | exact aF l1 | exact aF l2 | exact aF l3 | exact co hc (by decide) | exact aV hc | omega)) hx fun h₂ i1₂ hs₂=>wpAny_pure (wpAny_pure ?_))
   refine wpAny_bind (wpAny_bind (wpAny_holding ?_))
   show wpAny _ _ (Builtin.SmallTypes.nextOf (.ref (n+1)) >>= _) _ _ _
   cases hy:ys[k]? with
   | none=>
    refine wpAny_bind (cY hh ((i2.ext hs₁ (by first | exact nn (by decide) | exact n0 (by decide) | exact aU (by decide) | exact al l1 _ | exact al l2 _ | exact al l3 _ | exact aF l1 | exact aF l2 | exact aF l3 | exact co hc (by decide) | exact aV hc | omega)).ext hs₂ (by first | exact nn (by decide) | exact n0 (by decide) | exact aU (by decide) | exact al l1 _ | exact al l2 _ | exact al l3 _ | exact aF l1 | exact aF l2 | exact aF l3 | exact co hc (by decide) | exact aV hc | omega)) ((s2.ext hs₁ (by first | exact nn (by decide) | exact n0 (by decide) | exact aU (by decide) | exact al l1 _ | exact al l2 _ | exact al l3 _ | exact aF l1 | exact aF l2 | exact aF l3 | exact co hc (by decide) | exact aV hc | omega)).ext hs₂ (by first | exact nn (by decide) | exact n0 (by decide) | exact aU (by decide) | exact al l1 _ | exact al l2 _ | exact al l3 _ | exact aF l1 | exact aF l2 | exact aF l3 | exact co hc (by decide) | exact aV hc | omega)) hy fun h₃ e hs₃ he=>?_)
    exact hE h₃ e (fun c o hc q=>hs₃ c o (show @Ne Nat c (n+1) by omega) (ex hs₂ (by first | exact nn (by decide) | exact n0 (by decide) | exact aU (by decide) | exact al l1 _ | exact al l2 _ | exact al l3 _ | exact aF l1 | exact aF l2 | exact aF l3 | exact co hc (by decide) | exact aV hc | omega) (ex hs₁ (by first | exact nn (by decide) | exact n0 (by decide) | exact aU (by decide) | exact al l1 _ | exact al l2 _ | exact al l3 _ | exact aF l1 | exact aF l2 | exact aF l3 | exact co hc (by decide) | exact aV hc | omega) q))) he
   | some y=>
    have hw:zs[k]? = none:=by rcases hend with h | h | h;rw[hx] at h;cases h;rw[hy] at h;cases h;exact h
    refine wpAny_bind (bM ((i2.ext hs₁ (by first | exact nn (by decide) | exact n0 (by decide) | exact aU (by decide) | exact al l1 _ | exact al l2 _ | exact al l3 _ | exact aF l1 | exact aF l2 | exact aF l3 | exact co hc (by decide) | exact aV hc | omega)).ext hs₂ (by first | exact nn (by decide) | exact n0 (by decide) | exact aU (by decide) | exact al l1 _ | exact al l2 _ | exact al l3 _ | exact aF l1 | exact aF l2 | exact aF l3 | exact co hc (by decide) | exact aV hc | omega)) ((s2.ext hs₁ (by first | exact nn (by decide) | exact n0 (by decide) | exact aU (by decide) | exact al l1 _ | exact al l2 _ | exact al l3 _ | exact aF l1 | exact aF l2 | exact aF l3 | exact co hc (by decide) | exact aV hc | omega)).ext hs₂ (by first | exact nn (by decide) | exact n0 (by decide) | exact aU (by decide) | exact al l1 _ | exact al l2 _ | exact al l3 _ | exact aF l1 | exact aF l2 | exact aF l3 | exact co hc (by decide) | exact aV hc | omega)) hy fun h₃ i2₃ hs₃=>wpAny_pure (wpAny_pure ?_))
    refine wpAny_bind (wpAny_bind (wpAny_holding ?_))
    show wpAny _ _ (Builtin.SmallTypes.nextOf (.ref (n+2)) >>= _) _ _ _
    refine wpAny_bind (cY hh (((i3.ext hs₁ (by first | exact nn (by decide) | exact n0 (by decide) | exact aU (by decide) | exact al l1 _ | exact al l2 _ | exact al l3 _ | exact aF l1 | exact aF l2 | exact aF l3 | exact co hc (by decide) | exact aV hc | omega)).ext hs₂ (by first | exact nn (by decide) | exact n0 (by decide) | exact aU (by decide) | exact al l1 _ | exact al l2 _ | exact al l3 _ | exact aF l1 | exact aF l2 | exact aF l3 | exact co hc (by decide) | exact aV hc | omega)).ext hs₃ (by first | exact nn (by decide) | exact n0 (by decide) | exact aU (by decide) | exact al l1 _ | exact al l2 _ | exact al l3 _ | exact aF l1 | exact aF l2 | exact aF l3 | exact co hc (by decide) | exact aV hc | omega)) (((s3.ext hs₁ (by first | exact nn (by decide) | exact n0 (by decide) | exact aU (by decide) | exact al l1 _ | exact al l2 _ | exact al l3 _ | exact aF l1 | exact aF l2 | exact aF l3 | exact co hc (by decide) | exact aV hc | omega)).ext hs₂ (by first | exact nn (by decide) | exact n0 (by decide) | exact aU (by decide) | exact al l1 _ | exact al l2 _ | exact al l3 _ | exact aF l1 | exact aF l2 | exact aF l3 | exact co hc (by decide) | exact aV hc | omega)).ext hs₃ (by first | exact nn (by decide) | exact n0 (by decide) | exact aU (by decide) | exact al l1 _ | exact al l2 _ | exact al l3 _ | exact aF l1 | exact aF l2 | exact aF l3 | exact co hc (by decide) | exact aV hc | omega)) hw fun h₄ e hs₄ he=>?_)
    exact hE h₄ e (fun c o hc q=>hs₄ c o (show @Ne Nat c (n+2) by omega) (ex hs₃ (by first | exact nn (by decide) | exact n0 (by decide) | exact aU (by decide) | exact al l1 _ | exact al l2 _ | exact al l3 _ | exact aF l1 | exact aF l2 | exact aF l3 | exact co hc (by decide) | exact aV hc | omega) (ex hs₂ (by first | exact nn (by decide) | exact n0 (by decide) | exact aU (by decide) | exact al l1 _ | exact al l2 _ | exact al l3 _ | exact aF l1 | exact aF l2 | exact aF l3 | exact co hc (by decide) | exact aV hc | omega) (ex hs₁ (by first | exact nn (by decide) | exact n0 (by decide) | exact aU (by decide) | exact al l1 _ | exact al l2 _ | exact al l3 _ | exact aF l1 | exact aF l2 | exact aF l3 | exact co hc (by decide) | exact aV hc | omega) q)))) he
theorem zip2_next {n a1 a2:Nat}{t1 t2:Bool}{k:Nat}{xs ys:Array Value}{x y c1 c2 f0:Value}{f1:Bool}{Q:Value→Shared→Prop} (hf:Free0 f0)
  (hz:IsZ s.heap (n+4) (n+2) (n+3) f0 f1) (hTI:d8 s.heap (n+2) #[.ref n,.ref (n+1)]) (hTO:d8 s.heap (n+3) #[c1,c2])
  (i1:dD s.heap t1 n a1 k) (i2:dD s.heap t2 (n+1) a2 k) (s1:cG s.heap t1 a1 xs) (s2:cG s.heap t2 a2 ys)
  (l1:a1 < n) (l2:a2 < n) (hx:xs[k]? = some x) (hy:ys[k]? = some y)
  (hQ:∀ (T:Nat) h' f0' f1' d1 d2,s.heap.objs.size≤T→Free0 f0'→IsZ h' (n+4) (n+2) (n+3) f0' f1'→d8 h' (n+2) #[.ref n,.ref (n+1)]→d8 h' (n+3) #[d1,d2]→
   dD h' t1 n a1 (k+1)→dD h' t2 (n+1) a2 (k+1)→d8 h' T #[x,y]→
   (∀ (c:Nat) o,(c < n∨n+4 < c)→s.heap.get? c=some o→h'.get? c=some o)→Q (.ref T) { s with heap:=h' }) :
  wpAny (model prog w) A (Builtin.«zip.__next__» ⟨[.ref (n+4)],[]⟩) (fun fin s'=>∃ v,fin=.done (.ret v)∧Q v s') E s:=by
 have hzlt:n+4 < s.heap.objs.size:=Heap.lt_size hz
 show wpAny _ _ (field (.ref (n+4)) 2 >>= _) _ _ _
 refine wpAny_bind (wpAny_field hz rfl (x:=.bool false) rfl ?_)
 show wpAny _ _ (field (.ref (n+4)) 3 >>= _) _ _ _
 refine wpAny_bind (wpAny_field hz rfl (x:=.ref (n+2)) rfl ?_)
 refine wpAny_bind (wpAny_seqItems hTI rfl ?_)
 show wpAny _ _ (Builtin.SmallTypes.ownedTupleIsFree (.ref (n+4)) >>= _) _ _ _
 refine wpAny_bind (owned_free hz hf ?_ ?_)
 ·simp only [if_true]
  refine wpAny_bind (wpAny_rule ?_)
  refine wpAny_bind (wpAny_field hz rfl (x:=.ref (n+3)) rfl ?_)
  refine wpAny_bind (wpAny_setField_rec hz (by simp) fun h₁ hz₁ hs₁=>?_)
  replace hz₁:IsZ h₁ (n+4) (n+2) (n+3) .ellipsis f1:=hz₁
  refine wpAny_bind ?_
  simp only [List.zipIdx_cons,List.zipIdx_nil,List.forIn_cons,List.forIn_nil]
  refine wpAny_bind (wpAny_bind (wpAny_onRaise ?_))
  show wpAny _ _ (Builtin.SmallTypes.nextOf (.ref n) >>= _) _ _ _
  refine wpAny_bind (bM (i1.ext hs₁ (by first | exact nn (by decide) | exact n0 (by decide) | exact aU (by decide) | exact al l1 _ | exact al l2 _ | exact aF l1 | exact aF l2 | exact co hc (by decide) | exact aV hc | omega)) (s1.ext hs₁ (by first | exact nn (by decide) | exact n0 (by decide) | exact aU (by decide) | exact al l1 _ | exact al l2 _ | exact aF l1 | exact aF l2 | exact co hc (by decide) | exact aV hc | omega)) hx fun h₂ i1₂ hs₂=>wpAny_pure ?_)
  have hTO₂:d8 h₂ (n+3) #[c1,c2]:=ex hs₂ (by first | exact nn (by decide) | exact n0 (by decide) | exact aU (by decide) | exact al l1 _ | exact al l2 _ | exact aF l1 | exact aF l2 | exact co hc (by decide) | exact aV hc | omega) (ex hs₁ (by first | exact nn (by decide) | exact n0 (by decide) | exact aU (by decide) | exact al l1 _ | exact al l2 _ | exact aF l1 | exact aF l2 | exact co hc (by decide) | exact aV hc | omega) hTO)
  refine wpAny_bind (wpAny_seqItems hTO₂ rfl ?_)
  refine wpAny_bind (seq_set hTO₂ (by simp) fun h₃ hTO₃ hs₃=>?_)
  replace hTO₃:d8 h₃ (n+3) #[x,c2]:=hTO₃
  refine wpAny_bind (wpAny_letGo (wpAny_pure ?_))
  refine wpAny_bind (wpAny_bind (wpAny_onRaise ?_))
  show wpAny _ _ (Builtin.SmallTypes.nextOf (.ref (n+1)) >>= _) _ _ _
  refine wpAny_bind (bM (((i2.ext hs₁ (by first | exact nn (by decide) | exact n0 (by decide) | exact aU (by decide) | exact al l1 _ | exact al l2 _ | exact aF l1 | exact aF l2 | exact co hc (by decide) | exact aV hc | omega)).ext hs₂ (by first | exact nn (by decide) | exact n0 (by decide) | exact aU (by decide) | exact al l1 _ | exact al l2 _ | exact aF l1 | exact aF l2 | exact co hc (by decide) | exact aV hc | omega)).ext hs₃ (by first | exact nn (by decide) | exact n0 (by decide) | exact aU (by decide) | exact al l1 _ | exact al l2 _ | exact aF l1 | exact aF l2 | exact co hc (by decide) | exact aV hc | omega)) (((s2.ext hs₁ (by first | exact nn (by decide) | exact n0 (by decide) | exact aU (by decide) | exact al l1 _ | exact al l2 _ | exact aF l1 | exact aF l2 | exact co hc (by decide) | exact aV hc | omega)).ext hs₂ (by first | exact nn (by decide) | exact n0 (by decide) | exact aU (by decide) | exact al l1 _ | exact al l2 _ | exact aF l1 | exact aF l2 | exact co hc (by decide) | exact aV hc | omega)).ext hs₃ (by first | exact nn (by decide) | exact n0 (by decide) | exact aU (by decide) | exact al l1 _ | exact al l2 _ | exact aF l1 | exact aF l2 | exact co hc (by decide) | exact aV hc | omega)) hy fun h₄ i2₄ hs₄=>wpAny_pure ?_)
  have hTO₄:d8 h₄ (n+3) #[x,c2]:=ex hs₄ (by first | exact nn (by decide) | exact n0 (by decide) | exact aU (by decide) | exact al l1 _ | exact al l2 _ | exact aF l1 | exact aF l2 | exact co hc (by decide) | exact aV hc | omega) hTO₃
  refine wpAny_bind (wpAny_seqItems hTO₄ rfl ?_)
  refine wpAny_bind (seq_set hTO₄ (by simp) fun h₇ hTO₇ hs₇=>?_)
  replace hTO₇:d8 h₇ (n+3) #[x,y]:=hTO₇
  refine wpAny_bind (wpAny_letGo (wpAny_pure (wpAny_pure ?_)))
  refine wpAny_bind (wpAny_seqItems hTO₇ rfl ?_)
  refine wpAny_bind (wpAny_newTuple ?_)
  have hsz:h₇.objs.size=s.heap.objs.size:=by rw[hs₇.1,hs₄.1,hs₃.1,hs₂.1,hs₁.1]
  have keep:∀ (c:Nat) o,(c < n∨n+4 < c)→s.heap.get? c=some o→h₇.get? c=some o:=fun c o hc e=>
   ex hs₇ (by first | exact nn (by decide) | exact n0 (by decide) | exact aU (by decide) | exact al l1 _ | exact al l2 _ | exact aF l1 | exact aF l2 | exact co hc (by decide) | exact aV hc | omega) (ex hs₄ (by first | exact nn (by decide) | exact n0 (by decide) | exact aU (by decide) | exact al l1 _ | exact al l2 _ | exact aF l1 | exact aF l2 | exact co hc (by decide) | exact aV hc | omega) (ex hs₃ (by first | exact nn (by decide) | exact n0 (by decide) | exact aU (by decide) | exact al l1 _ | exact al l2 _ | exact aF l1 | exact aF l2 | exact co hc (by decide) | exact aV hc | omega) (ex hs₂ (by first | exact nn (by decide) | exact n0 (by decide) | exact aU (by decide) | exact al l1 _ | exact al l2 _ | exact aF l1 | exact aF l2 | exact co hc (by decide) | exact aV hc | omega) (ex hs₁ (by first | exact nn (by decide) | exact n0 (by decide) | exact aU (by decide) | exact al l1 _ | exact al l2 _ | exact aF l1 | exact aF l2 | exact co hc (by decide) | exact aV hc | omega) e))))
  have hz₇:IsZ h₇ (n+4) (n+2) (n+3) .ellipsis f1:=ex hs₇ (by first | exact nn (by decide) | exact n0 (by decide) | exact aU (by decide) | exact al l1 _ | exact al l2 _ | exact aF l1 | exact aF l2 | exact co hc (by decide) | exact aV hc | omega) (ex hs₄ (by first | exact nn (by decide) | exact n0 (by decide) | exact aU (by decide) | exact al l1 _ | exact al l2 _ | exact aF l1 | exact aF l2 | exact co hc (by decide) | exact aV hc | omega) (ex hs₃ (by first | exact nn (by decide) | exact n0 (by decide) | exact aU (by decide) | exact al l1 _ | exact al l2 _ | exact aF l1 | exact aF l2 | exact co hc (by decide) | exact aV hc | omega) (ex hs₂ (by first | exact nn (by decide) | exact n0 (by decide) | exact aU (by decide) | exact al l1 _ | exact al l2 _ | exact aF l1 | exact aF l2 | exact co hc (by decide) | exact aV hc | omega) hz₁)))
  have hTI₇:d8 h₇ (n+2) #[.ref n,.ref (n+1)]:=ex hs₇ (by first | exact nn (by decide) | exact n0 (by decide) | exact aU (by decide) | exact al l1 _ | exact al l2 _ | exact aF l1 | exact aF l2 | exact co hc (by decide) | exact aV hc | omega) (ex hs₄ (by first | exact nn (by decide) | exact n0 (by decide) | exact aU (by decide) | exact al l1 _ | exact al l2 _ | exact aF l1 | exact aF l2 | exact co hc (by decide) | exact aV hc | omega) (ex hs₃ (by first | exact nn (by decide) | exact n0 (by decide) | exact aU (by decide) | exact al l1 _ | exact al l2 _ | exact aF l1 | exact aF l2 | exact co hc (by decide) | exact aV hc | omega) (ex hs₂ (by first | exact nn (by decide) | exact n0 (by decide) | exact aU (by decide) | exact al l1 _ | exact al l2 _ | exact aF l1 | exact aF l2 | exact co hc (by decide) | exact aV hc | omega) (ex hs₁ (by first | exact nn (by decide) | exact n0 (by decide) | exact aU (by decide) | exact al l1 _ | exact al l2 _ | exact aF l1 | exact aF l2 | exact co hc (by decide) | exact aV hc | omega) hTI))))
  have i1₇:=((i1₂.ext hs₃ (by first | exact nn (by decide) | exact n0 (by decide) | exact aU (by decide) | exact al l1 _ | exact al l2 _ | exact aF l1 | exact aF l2 | exact co hc (by decide) | exact aV hc | omega)).ext hs₄ (by first | exact nn (by decide) | exact n0 (by decide) | exact aU (by decide) | exact al l1 _ | exact al l2 _ | exact aF l1 | exact aF l2 | exact co hc (by decide) | exact aV hc | omega)).ext hs₇ (by first | exact nn (by decide) | exact n0 (by decide) | exact aU (by decide) | exact al l1 _ | exact al l2 _ | exact aF l1 | exact aF l2 | exact co hc (by decide) | exact aV hc | omega)
  have i2₇:=i2₄.ext hs₇ (by first | exact nn (by decide) | exact n0 (by decide) | exact aU (by decide) | exact al l1 _ | exact al l2 _ | exact aF l1 | exact aF l2 | exact co hc (by decide) | exact aV hc | omega)
  have hzlt₇:n+4 < h₇.objs.size:=by rw[hsz];exact hzlt
  have up:∀ {c o},h₇.get? c=some o→(h₇.push { cls:=.type "tuple",data:=.seq #[x,y] }).get? c=some o:=fun e=>Heap.get?_push_of_some _ e
  refine wpAny_bind (handOut (z:=n+4) (TI:=n+2) (TO:=n+3) (f0:=.ellipsis) (f1:=f1) (up hz₇) fun h₈ hz₈ hs₈=>?_)
  have up8:∀ {c:Nat}{o},c≠n+4→h₇.get? c=some o→h₈.get? c=some o:=fun hc e=>ex hs₈ hc (up e)
  refine wpAny_pure ⟨_,rfl,hQ h₇.objs.size h₈ (rawInt h₇.objs.size) false x y (by rw[hsz];exact Nat.le_refl _) (.inr ⟨_,rfl⟩) hz₈ (up8 (by first | exact nn (by decide) | exact n0 (by decide) | exact aU (by decide) | exact al l1 _ | exact al l2 _ | exact aF l1 | exact aF l2 | exact co hc (by decide) | exact aV hc | omega) hTI₇) (up8 (by first | exact nn (by decide) | exact n0 (by decide) | exact aU (by decide) | exact al l1 _ | exact al l2 _ | exact aF l1 | exact aF l2 | exact co hc (by decide) | exact aV hc | omega) hTO₇) (i1₇.at fun o e=>up8 (by first | exact nn (by decide) | exact n0 (by decide) | exact aU (by decide) | exact al l1 _ | exact al l2 _ | exact aF l1 | exact aF l2 | exact co hc (by decide) | exact aV hc | omega) e) (i2₇.at fun o e=>up8 (by first | exact nn (by decide) | exact n0 (by decide) | exact aU (by decide) | exact al l1 _ | exact al l2 _ | exact aF l1 | exact aF l2 | exact co hc (by decide) | exact aV hc | omega) e)
   (ex hs₈ (by first | exact nn (by decide) | exact n0 (by decide) | exact aU (by decide) | exact al l1 _ | exact al l2 _ | exact aF l1 | exact aF l2 | exact co hc (by decide) | exact aV hc | omega) (Heap.get?_push_size _ rfl)) fun c o hc e=>up8 (by first | exact nn (by decide) | exact n0 (by decide) | exact aU (by decide) | exact al l1 _ | exact al l2 _ | exact aF l1 | exact aF l2 | exact co hc (by decide) | exact aV hc | omega) (keep c o hc e)⟩
 ·intro h₁ hz₁ hs₁
  simp only [Bool.false_eq_true,if_false]
  refine wpAny_bind ?_
  rw[← Array.forIn_toList]
  simp only [List.forIn_cons,List.forIn_nil]
  refine wpAny_bind (wpAny_bind (wpAny_holding ?_))
  show wpAny _ _ (Builtin.SmallTypes.nextOf (.ref n) >>= _) _ _ _
  refine wpAny_bind (bM (i1.ext hs₁ (by first | exact nn (by decide) | exact n0 (by decide) | exact aU (by decide) | exact al l1 _ | exact al l2 _ | exact aF l1 | exact aF l2 | exact co hc (by decide) | exact aV hc | omega)) (s1.ext hs₁ (by first | exact nn (by decide) | exact n0 (by decide) | exact aU (by decide) | exact al l1 _ | exact al l2 _ | exact aF l1 | exact aF l2 | exact co hc (by decide) | exact aV hc | omega)) hx fun h₂ i1₂ hs₂=>wpAny_pure (wpAny_pure ?_))
  refine wpAny_bind (wpAny_bind (wpAny_holding ?_))
  show wpAny _ _ (Builtin.SmallTypes.nextOf (.ref (n+1)) >>= _) _ _ _
  refine wpAny_bind (bM ((i2.ext hs₁ (by first | exact nn (by decide) | exact n0 (by decide) | exact aU (by decide) | exact al l1 _ | exact al l2 _ | exact aF l1 | exact aF l2 | exact co hc (by decide) | exact aV hc | omega)).ext hs₂ (by first | exact nn (by decide) | exact n0 (by decide) | exact aU (by decide) | exact al l1 _ | exact al l2 _ | exact aF l1 | exact aF l2 | exact co hc (by decide) | exact aV hc | omega)) ((s2.ext hs₁ (by first | exact nn (by decide) | exact n0 (by decide) | exact aU (by decide) | exact al l1 _ | exact al l2 _ | exact aF l1 | exact aF l2 | exact co hc (by decide) | exact aV hc | omega)).ext hs₂ (by first | exact nn (by decide) | exact n0 (by decide) | exact aU (by decide) | exact al l1 _ | exact al l2 _ | exact aF l1 | exact aF l2 | exact co hc (by decide) | exact aV hc | omega)) hy fun h₄ i2₄ hs₄=>wpAny_pure (wpAny_pure (wpAny_pure ?_)))
  refine wpAny_bind (wpAny_newTuple (hsz:=by show 2≤sizeLine;decide) (wpAny_pure ⟨_,rfl,?_⟩))
  have hsz:h₄.objs.size=s.heap.objs.size:=by rw[hs₄.1,hs₂.1,hs₁.1]
  have up:∀ {c o},h₄.get? c=some o→(h₄.push { cls:=.type "tuple",data:=.seq #[x,y] }).get? c=some o:=fun e=>Heap.get?_push_of_some _ e
  have keep:∀ (c:Nat) o,(c < n∨n+4 < c)→s.heap.get? c=some o→h₄.get? c=some o:=fun c o hc e=>ex hs₄ (by first | exact nn (by decide) | exact n0 (by decide) | exact aU (by decide) | exact al l1 _ | exact al l2 _ | exact aF l1 | exact aF l2 | exact co hc (by decide) | exact aV hc | omega) (ex hs₂ (by first | exact nn (by decide) | exact n0 (by decide) | exact aU (by decide) | exact al l1 _ | exact al l2 _ | exact aF l1 | exact aF l2 | exact co hc (by decide) | exact aV hc | omega) (ex hs₁ (by first | exact nn (by decide) | exact n0 (by decide) | exact aU (by decide) | exact al l1 _ | exact al l2 _ | exact aF l1 | exact aF l2 | exact co hc (by decide) | exact aV hc | omega) e))
  refine hQ h₄.objs.size (h₄.push { cls:=.type "tuple",data:=.seq #[x,y] }) f0 true c1 c2 (by rw[hsz];exact Nat.le_refl _) hf (up (ex hs₄ (by first | exact nn (by decide) | exact n0 (by decide) | exact aU (by decide) | exact al l1 _ | exact al l2 _ | exact aF l1 | exact aF l2 | exact co hc (by decide) | exact aV hc | omega) (ex hs₂ (by first | exact nn (by decide) | exact n0 (by decide) | exact aU (by decide) | exact al l1 _ | exact al l2 _ | exact aF l1 | exact aF l2 | exact co hc (by decide) | exact aV hc | omega) hz₁)))
   (up (ex hs₄ (by first | exact nn (by decide) | exact n0 (by decide) | exact aU (by decide) | exact al l1 _ | exact al l2 _ | exact aF l1 | exact aF l2 | exact co hc (by decide) | exact aV hc | omega) (ex hs₂ (by first | exact nn (by decide) | exact n0 (by decide) | exact aU (by decide) | exact al l1 _ | exact al l2 _ | exact aF l1 | exact aF l2 | exact co hc (by decide) | exact aV hc | omega) (ex hs₁ (by first | exact nn (by decide) | exact n0 (by decide) | exact aU (by decide) | exact al l1 _ | exact al l2 _ | exact aF l1 | exact aF l2 | exact co hc (by decide) | exact aV hc | omega) hTI)))) (up (ex hs₄ (by first | exact nn (by decide) | exact n0 (by decide) | exact aU (by decide) | exact al l1 _ | exact al l2 _ | exact aF l1 | exact aF l2 | exact co hc (by decide) | exact aV hc | omega) (ex hs₂ (by first | exact nn (by decide) | exact n0 (by decide) | exact aU (by decide) | exact al l1 _ | exact al l2 _ | exact aF l1 | exact aF l2 | exact co hc (by decide) | exact aV hc | omega) (ex hs₁ (by first | exact nn (by decide) | exact n0 (by decide) | exact aU (by decide) | exact al l1 _ | exact al l2 _ | exact aF l1 | exact aF l2 | exact co hc (by decide) | exact aV hc | omega) hTO))))
   ((i1₂.ext hs₄ (by first | exact nn (by decide) | exact n0 (by decide) | exact aU (by decide) | exact al l1 _ | exact al l2 _ | exact aF l1 | exact aF l2 | exact co hc (by decide) | exact aV hc | omega)).at fun o e=>up e) (i2₄.at fun o e=>up e) (Heap.get?_push_size _ rfl) fun c o hc e=>up (keep c o hc e)
theorem zip2_end {n a1 a2:Nat}{t1 t2:Bool}{k:Nat}{xs ys:Array Value}{c1 c2 f0:Value}{f1:Bool}{Q:Fin→Shared→Prop} (hh:A.handled=none) (hf:Free0 f0)
  (hz:IsZ s.heap (n+4) (n+2) (n+3) f0 f1) (hTI:d8 s.heap (n+2) #[.ref n,.ref (n+1)]) (hTO:d8 s.heap (n+3) #[c1,c2])
  (i1:dD s.heap t1 n a1 k) (i2:dD s.heap t2 (n+1) a2 k) (s1:cG s.heap t1 a1 xs) (s2:cG s.heap t2 a2 ys)
  (l1:a1 < n) (l2:a2 < n) (hend:xs[k]? = none∨ys[k]? = none)
  (hE:∀ h' e,(∀ (c:Nat) o,(c < n∨n+4 < c)→s.heap.get? c=some o→h'.get? c=some o)→(∃ o,h'.get? e=some o∧o.cls=.type "StopIteration")→E (.ref e) { s with heap:=h' }) :
  wpAny (model prog w) A (Builtin.«zip.__next__» ⟨[.ref (n+4)],[]⟩) Q E s:=by
 show wpAny _ _ (field (.ref (n+4)) 2 >>= _) _ _ _
 refine wpAny_bind (wpAny_field hz rfl (x:=.bool false) rfl ?_)
 show wpAny _ _ (field (.ref (n+4)) 3 >>= _) _ _ _
 refine wpAny_bind (wpAny_field hz rfl (x:=.ref (n+2)) rfl ?_)
 refine wpAny_bind (wpAny_seqItems hTI rfl ?_)
 show wpAny _ _ (Builtin.SmallTypes.ownedTupleIsFree (.ref (n+4)) >>= _) _ _ _
 refine wpAny_bind (owned_free hz hf ?_ ?_)
 ·simp only [if_true]
  refine wpAny_bind (wpAny_rule ?_)
  refine wpAny_bind (wpAny_field hz rfl (x:=.ref (n+3)) rfl ?_)
  refine wpAny_bind (wpAny_setField_rec hz (by simp) fun h₁ hz₁ hs₁=>?_)
  replace hz₁:IsZ h₁ (n+4) (n+2) (n+3) .ellipsis f1:=hz₁
  refine wpAny_bind ?_
  simp only [List.zipIdx_cons,List.zipIdx_nil,List.forIn_cons,List.forIn_nil]
  have fin:∀ {h₂ h₃:Heap}{e j:Nat}{oe:Obj},IsZ h₂ (n+4) (n+2) (n+3) .ellipsis f1→Heap.ExtBut j h₂ h₃→@Ne Nat (n+4) j→(n≤j∧j≤n+4)→(∀ (c:Nat) o,(c < n∨n+4 < c)→s.heap.get? c=some o→h₂.get? c=some o)→h₃.get? e=some oe→oe.cls=.type "StopIteration" →
    wpAny (model prog w) A (setField (.ref (n+4)) 0 .none) (fun _ s'=>E (.ref e) s') E { s with heap:=h₃ }:=fun {h₂ h₃ e j oe} hz₂ hx hj hr hk hoe hce=>by
   have hz₃:IsZ h₃ (n+4) (n+2) (n+3) .ellipsis f1:=hx _ _ hj hz₂
   have hez:e≠n+4:=fun q=>by subst q;rw[hz₃] at hoe;cases hoe;simp at hce
   refine wpAny_setField_rec hz₃ (by simp) fun h₄ _ hs₄=>hE h₄ e (fun c o hc q=>ex hs₄ (by first | exact nn (by decide) | exact n0 (by decide) | exact aU (by decide) | exact al l1 _ | exact al l2 _ | exact aF l1 | exact aF l2 | exact co hc (by decide) | exact aV hc | omega) (hx c o (show @Ne Nat c j by omega) (hk c o hc q))) ⟨oe,hs₄.extBut _ _ hez hoe,hce⟩
  refine wpAny_bind (wpAny_bind (wpAny_onRaise ?_))
  show wpAny _ _ (Builtin.SmallTypes.nextOf (.ref n) >>= _) _ _ _
  cases hx:xs[k]? with
  | none=>
   refine wpAny_bind (cY hh (i1.ext hs₁ (by first | exact nn (by decide) | exact n0 (by decide) | exact aU (by decide) | exact al l1 _ | exact al l2 _ | exact aF l1 | exact aF l2 | exact co hc (by decide) | exact aV hc | omega)) (s1.ext hs₁ (by first | exact nn (by decide) | exact n0 (by decide) | exact aU (by decide) | exact al l1 _ | exact al l2 _ | exact aF l1 | exact aF l2 | exact co hc (by decide) | exact aV hc | omega)) hx fun h₂ e hs₂ he=>?_)
   obtain⟨oe,hoe,hce⟩:=he
   exact fin hz₁ hs₂ (by first | exact nn (by decide) | exact n0 (by decide) | exact aU (by decide) | exact al l1 _ | exact al l2 _ | exact aF l1 | exact aF l2 | exact co hc (by decide) | exact aV hc | omega) (by first | exact nn (by decide) | exact n0 (by decide) | exact aU (by decide) | exact al l1 _ | exact al l2 _ | exact aF l1 | exact aF l2 | exact co hc (by decide) | exact aV hc | omega) (fun c o hc q=>ex hs₁ (by first | exact nn (by decide) | exact n0 (by decide) | exact aU (by decide) | exact al l1 _ | exact al l2 _ | exact aF l1 | exact aF l2 | exact co hc (by decide) | exact aV hc | omega) q) hoe hce
  | some x=>
   have hy:ys[k]? = none:=by rcases hend with h | h;rw[hx] at h;cases h;exact h
   refine wpAny_bind (bM (i1.ext hs₁ (by first | exact nn (by decide) | exact n0 (by decide) | exact aU (by decide) | exact al l1 _ | exact al l2 _ | exact aF l1 | exact aF l2 | exact co hc (by decide) | exact aV hc | omega)) (s1.ext hs₁ (by first | exact nn (by decide) | exact n0 (by decide) | exact aU (by decide) | exact al l1 _ | exact al l2 _ | exact aF l1 | exact aF l2 | exact co hc (by decide) | exact aV hc | omega)) hx fun h₂ i1₂ hs₂=>wpAny_pure ?_)
   have hTO₂:d8 h₂ (n+3) #[c1,c2]:=ex hs₂ (by first | exact nn (by decide) | exact n0 (by decide) | exact aU (by decide) | exact al l1 _ | exact al l2 _ | exact aF l1 | exact aF l2 | exact co hc (by decide) | exact aV hc | omega) (ex hs₁ (by first | exact nn (by decide) | exact n0 (by decide) | exact aU (by decide) | exact al l1 _ | exact al l2 _ | exact aF l1 | exact aF l2 | exact co hc (by decide) | exact aV hc | omega) hTO)
   refine wpAny_bind (wpAny_seqItems hTO₂ rfl ?_)
   refine wpAny_bind (seq_set hTO₂ (by simp) fun h₃ hTO₃ hs₃=>?_)
   refine wpAny_bind (wpAny_letGo (wpAny_pure ?_))
   have hz₃:IsZ h₃ (n+4) (n+2) (n+3) .ellipsis f1:=ex hs₃ (by first | exact nn (by decide) | exact n0 (by decide) | exact aU (by decide) | exact al l1 _ | exact al l2 _ | exact aF l1 | exact aF l2 | exact co hc (by decide) | exact aV hc | omega) (ex hs₂ (by first | exact nn (by decide) | exact n0 (by decide) | exact aU (by decide) | exact al l1 _ | exact al l2 _ | exact aF l1 | exact aF l2 | exact co hc (by decide) | exact aV hc | omega) hz₁)
   have k₃:∀ (c:Nat) o,(c < n∨n+4 < c)→s.heap.get? c=some o→h₃.get? c=some o:=fun c o hc e=>ex hs₃ (by first | exact nn (by decide) | exact n0 (by decide) | exact aU (by decide) | exact al l1 _ | exact al l2 _ | exact aF l1 | exact aF l2 | exact co hc (by decide) | exact aV hc | omega) (ex hs₂ (by first | exact nn (by decide) | exact n0 (by decide) | exact aU (by decide) | exact al l1 _ | exact al l2 _ | exact aF l1 | exact aF l2 | exact co hc (by decide) | exact aV hc | omega) (ex hs₁ (by first | exact nn (by decide) | exact n0 (by decide) | exact aU (by decide) | exact al l1 _ | exact al l2 _ | exact aF l1 | exact aF l2 | exact co hc (by decide) | exact aV hc | omega) e))
   refine wpAny_bind (wpAny_bind (wpAny_onRaise ?_))
   show wpAny _ _ (Builtin.SmallTypes.nextOf (.ref (n+1)) >>= _) _ _ _
   refine wpAny_bind (cY hh (((i2.ext hs₁ (by first | exact nn (by decide) | exact n0 (by decide) | exact aU (by decide) | exact al l1 _ | exact al l2 _ | exact aF l1 | exact aF l2 | exact co hc (by decide) | exact aV hc | omega)).ext hs₂ (by first | exact nn (by decide) | exact n0 (by decide) | exact aU (by decide) | exact al l1 _ | exact al l2 _ | exact aF l1 | exact aF l2 | exact co hc (by decide) | exact aV hc | omega)).ext hs₃ (by first | exact nn (by decide) | exact n0 (by decide) | exact aU (by decide) | exact al l1 _ | exact al l2 _ | exact aF l1 | exact aF l2 | exact co hc (by decide) | exact aV hc | omega)) (((s2.ext hs₁ (by first | exact nn (by decide) | exact n0 (by decide) | exact aU (by decide) | exact al l1 _ | exact al l2 _ | exact aF l1 | exact aF l2 | exact co hc (by decide) | exact aV hc | omega)).ext hs₂ (by first | exact nn (by decide) | exact n0 (by decide) | exact aU (by decide) | exact al l1 _ | exact al l2 _ | exact aF l1 | exact aF l2 | exact co hc (by decide) | exact aV hc | omega)).ext hs₃ (by first | exact nn (by decide) | exact n0 (by decide) | exact aU (by decide) | exact al l1 _ | exact al l2 _ | exact aF l1 | exact aF l2 | exact co hc (by decide) | exact aV hc | omega)) hy fun h₄ e hs₄ he=>?_)
   obtain⟨oe,hoe,hce⟩:=he
   exact fin hz₃ hs₄ (by first | exact nn (by decide) | exact n0 (by decide) | exact aU (by decide) | exact al l1 _ | exact al l2 _ | exact aF l1 | exact aF l2 | exact co hc (by decide) | exact aV hc | omega) (by first | exact nn (by decide) | exact n0 (by decide) | exact aU (by decide) | exact al l1 _ | exact al l2 _ | exact aF l1 | exact aF l2 | exact co hc (by decide) | exact aV hc | omega) k₃ hoe hce
 ·intro h₁ hz₁ hs₁
  simp only [Bool.false_eq_true,if_false]
  refine wpAny_bind ?_
  rw[← Array.forIn_toList]
  simp only [List.forIn_cons,List.forIn_nil]
  refine wpAny_bind (wpAny_bind (wpAny_holding ?_))
  show wpAny _ _ (Builtin.SmallTypes.nextOf (.ref n) >>= _) _ _ _
  cases hx:xs[k]? with
  | none=>
   refine wpAny_bind (cY hh (i1.ext hs₁ (by first | exact nn (by decide) | exact n0 (by decide) | exact aU (by decide) | exact al l1 _ | exact al l2 _ | exact aF l1 | exact aF l2 | exact co hc (by decide) | exact aV hc | omega)) (s1.ext hs₁ (by first | exact nn (by decide) | exact n0 (by decide) | exact aU (by decide) | exact al l1 _ | exact al l2 _ | exact aF l1 | exact aF l2 | exact co hc (by decide) | exact aV hc | omega)) hx fun h₂ e hs₂ he=>?_)
   exact hE h₂ e (fun c o hc q=>hs₂ c o (show @Ne Nat c n by omega) (ex hs₁ (by first | exact nn (by decide) | exact n0 (by decide) | exact aU (by decide) | exact al l1 _ | exact al l2 _ | exact aF l1 | exact aF l2 | exact co hc (by decide) | exact aV hc | omega) q)) he
  | some x=>
   have hy:ys[k]? = none:=by rcases hend with h | h;rw[hx] at h;cases h;exact h
   refine wpAny_bind (bM (i1.ext hs₁ (by first | exact nn (by decide) | exact n0 (by decide) | exact aU (by decide) | exact al l1 _ | exact al l2 _ | exact aF l1 | exact aF l2 | exact co hc (by decide) | exact aV hc | omega)) (s1.ext hs₁ (by first | exact nn (by decide) | exact n0 (by decide) | exact aU (by decide) | exact al l1 _ | exact al l2 _ | exact aF l1 | exact aF l2 | exact co hc (by decide) | exact aV hc | omega)) hx fun h₂ i1₂ hs₂=>wpAny_pure (wpAny_pure ?_))
   refine wpAny_bind (wpAny_bind (wpAny_holding ?_))
   show wpAny _ _ (Builtin.SmallTypes.nextOf (.ref (n+1)) >>= _) _ _ _
   refine wpAny_bind (cY hh ((i2.ext hs₁ (by first | exact nn (by decide) | exact n0 (by decide) | exact aU (by decide) | exact al l1 _ | exact al l2 _ | exact aF l1 | exact aF l2 | exact co hc (by decide) | exact aV hc | omega)).ext hs₂ (by first | exact nn (by decide) | exact n0 (by decide) | exact aU (by decide) | exact al l1 _ | exact al l2 _ | exact aF l1 | exact aF l2 | exact co hc (by decide) | exact aV hc | omega)) ((s2.ext hs₁ (by first | exact nn (by decide) | exact n0 (by decide) | exact aU (by decide) | exact al l1 _ | exact al l2 _ | exact aF l1 | exact aF l2 | exact co hc (by decide) | exact aV hc | omega)).ext hs₂ (by first | exact nn (by decide) | exact n0 (by decide) | exact aU (by decide) | exact al l1 _ | exact al l2 _ | exact aF l1 | exact aF l2 | exact co hc (by decide) | exact aV hc | omega)) hy fun h₃ e hs₃ he=>?_)
   exact hE h₃ e (fun c o hc q=>hs₃ c o (show @Ne Nat c (n+1) by omega) (ex hs₂ (by first | exact nn (by decide) | exact n0 (by decide) | exact aU (by decide) | exact al l1 _ | exact al l2 _ | exact aF l1 | exact aF l2 | exact co hc (by decide) | exact aV hc | omega) (ex hs₁ (by first | exact nn (by decide) | exact n0 (by decide) | exact aU (by decide) | exact al l1 _ | exact al l2 _ | exact aF l1 | exact aF l2 | exact co hc (by decide) | exact aV hc | omega) q))) he
theorem pyNext_zip {z TI TO:Addr}{f0:Value}{f1:Bool}{Q:Option Value→Shared→Prop} (hz:IsZ s.heap z TI TO f0 f1)
  (h:wpAny (model prog w) A.in1 (Builtin.«zip.__next__» ⟨[.ref z],[]⟩) (fun fin s'=>∃ v,fin=.done (.ret v)∧Q (some v) s') (fun e s'=>(∃ a o,e=.ref a∧s'.heap.get? a=some o∧o.cls=.type "StopIteration")∧Q none s') s) :
  wpAny (model prog w) A (pyNext (.ref z)) Q E s:=by
 have hT:s.TypeIs (.ref z) "zip" := ⟨_,hz,rfl⟩
 unfold pyNext
 refine wpAny_bind (wpAny_attempt (wpAny_callSpecial?_slot (name:=Str.ofString "__next__") hT F.slot_zip_next
  (wpAny_call_entry F.slot_zip_next hT F.entry_zip_next (wpAny_mono h (fun fin s' h'=>?_) fun e s' h'=>?_) (F.args_zip_next_1 _))))
 ·obtain⟨v,rfl,q⟩:=h'
  exact⟨v,rfl,wpAny_pure q⟩
 ·obtain⟨⟨a,o,rfl,ho,hc⟩,q⟩:=h'
  exact wpAny_bind (wpAny_isInstance (T := "StopIteration") (b:=true) ⟨o,ho,hc⟩ isSubtype_stop (wpAny_pure q))
theorem letGo_zip {tg:Expr}{z TI TO T:Addr}{f0:Value}{f1:Bool}{Q:Unit→Shared→Prop} (hf:Free0 f0) (hz:IsZ s.heap z TI TO f0 f1)
  (hQ:∀ h' f0',Free0 f0'→IsZ h' z TI TO f0' f1→Heap.SameBut z s.heap h'→Q () { s with heap:=h' }):wpAny (model prog w) A (letOwnedTupleGo tg (.ref z) (.ref T)) Q E s:=by
 have same:Q () s:=hQ s.heap f0 hf hz (Heap.SameBut.refl ..)
 have core:wpAny (model prog w) A (do
   let o ← load z
   match o.cls,o.data with
   | .type n,.fields vs=>
    if ["enumerate","zip","dict_itemiterator","dict_reverseitemiterator","odict_iterator","itertools.zip_longest","itertools.pairwise"].contains n && vs[0]? == some (rawInt T) then
     rule "for.unpacks-the-owned-tuple"
     updateField z 0 .none
   | _,_=>pure ()) Q E s:=by
  refine wpAny_bind (wpAny_load hz ?_)
  show wpAny _ _ (if (["enumerate","zip","dict_itemiterator","dict_reverseitemiterator","odict_iterator","itertools.zip_longest","itertools.pairwise"].contains "zip" &&
   (#[f0,.bool f1,.bool false,.ref TI,.ref TO]:Array Value)[0]? == some (rawInt T))=true then _ else _) Q E s
  split
  ·refine wpAny_bind (wpAny_rule ?_)
   show wpAny _ _ (setField (.ref z) 0 .none) Q E s
   exact wpAny_setField_rec hz (by simp) fun h' hz' hs'=>hQ h' .none (.inl rfl) hz' hs'
  ·exact wpAny_pure same
 unfold letOwnedTupleGo
 cases tg <;> first
  | exact wpAny_pure same
  | exact core
theorem pyIter_zip {z TI TO:Addr}{f0:Value}{f1:Bool}{Q:Value→Shared→Prop} (hz:IsZ s.heap z TI TO f0 f1) (h:Q (.ref z) s):wpAny (model prog w) A (pyIter (.ref z)) Q E s:=by
 have hT:s.TypeIs (.ref z) "zip" := ⟨_,hz,rfl⟩
 refine wpAny_pyIter_slot hT F.slot_zip_iter (wpAny_call_entry F.slot_zip_iter hT F.entry_zip_iter ?_ (F.args_zip_iter_1 _))
 show wpAny _ _ (ret (.ref z)) _ _ s
 exact wpAny_pure ⟨_,rfl,"zip",_,hT,F.slot_zip_next.lookup,h⟩
noncomputable def itObj (t:Bool) (a:Addr):Obj:={ cls:=.type (if t=true then "tuple_iterator" else "list_iterator"),data:=.fields #[.ref a,.int 0 0] }
theorem eC {t:Bool}{a:Addr}{items:Array Value}{Q:Value→Shared→Prop} (hs:cG s.heap t a items) (hQ:Q (.ref s.heap.objs.size) { s with heap:=s.heap.push (itObj t a) }) :
  wpAny (model prog w) A (pyIter (.ref a)) Q E s:=by
 cases t with
 | true=>exact wpAny_pyIter_tuple hs hQ
 | false=>exact wpAny_pyIter_list hs hQ
theorem itObj_is {h:Heap}{t:Bool}{a it:Addr} (e:h.get? it=some (itObj t a)):dD h t it a 0:=by
 cases t <;> exact⟨_,e,rfl,rfl⟩
noncomputable abbrev zA (h:Heap) (t:Bool) (a:Addr):Heap:=h.push (itObj t a)
noncomputable abbrev zTup (h:Heap) (vs:List Value):Heap:=h.push { cls:=.type "tuple",data:=.seq vs.toArray }
noncomputable abbrev z2B (h:Heap) (t1 t2:Bool) (l1 l2:Addr):Heap:=zTup (zA (zA h t1 l1) t2 l2) [.ref h.objs.size,.ref (zA h t1 l1).objs.size]
noncomputable abbrev z2H (h:Heap) (t1 t2:Bool) (l1 l2:Addr):Heap:=zTup (z2B h t1 t2 l1 l2) [.none,.none]
noncomputable abbrev z2E (h:Heap) (t1 t2:Bool) (l1 l2:Addr):Heap:=(z2H h t1 t2 l1 l2).push { cls:=.type "zip",data:=.fields #[.none,.bool false,.bool false,.ref (zA (zA h t1 l1) t2 l2).objs.size,.ref (z2B h t1 t2 l1 l2).objs.size] }
noncomputable abbrev z3B (h:Heap) (t1 t2 t3:Bool) (l1 l2 l3:Addr):Heap:=zTup (zA (zA (zA h t1 l1) t2 l2) t3 l3) [.ref h.objs.size,.ref (zA h t1 l1).objs.size,.ref (zA (zA h t1 l1) t2 l2).objs.size]
noncomputable abbrev z3H (h:Heap) (t1 t2 t3:Bool) (l1 l2 l3:Addr):Heap:=zTup (z3B h t1 t2 t3 l1 l2 l3) [.none,.none,.none]
noncomputable abbrev z3E (h:Heap) (t1 t2 t3:Bool) (l1 l2 l3:Addr):Heap:=(z3H h t1 t2 t3 l1 l2 l3).push { cls:=.type "zip",data:=.fields #[.none,.bool false,.bool false,.ref (zA (zA (zA h t1 l1) t2 l2) t3 l3).objs.size,.ref (z3B h t1 t2 t3 l1 l2 l3).objs.size] }
theorem meets_zip2 (t1 t2:Bool) (l1 l2:Addr) (xs ys:Array Value) :
  Meets (Builtin.«zip.__new__» ⟨[.type "zip",.ref l1,.ref l2],[]⟩) (fun _ R s=>cG s.heap t1 l1 xs∧cG s.heap t2 l2 ys∧
   R (.ok (.ret (.ref (z2H s.heap t1 t2 l1 l2).objs.size))) { s with heap:=z2E s.heap t1 t2 l1 l2 }):=
 .of_wp fun prog w A R s h=>by
  obtain⟨hp,g,d,tk,os⟩:=s;obtain⟨hl1,hl2,h⟩:=h
  have hsub:=sub_zip
  have hL1:cG (Shared.heap ⟨hp,g,d,tk,os⟩) t1 l1 xs:=hl1
  have hL2:cG (Shared.heap ⟨hp.push (itObj t1 l1),g,d,tk,os⟩) t2 l2 ys:=hl2.at fun o e=>Heap.get?_push_of_some _ e
  wp_walk using eC hL1,eC hL2
  exact⟨_,rfl,h⟩
theorem meets_zip3 (t1 t2 t3:Bool) (l1 l2 l3:Addr) (xs ys zs:Array Value) :
  Meets (Builtin.«zip.__new__» ⟨[.type "zip",.ref l1,.ref l2,.ref l3],[]⟩) (fun _ R s=>cG s.heap t1 l1 xs∧cG s.heap t2 l2 ys∧cG s.heap t3 l3 zs∧
   R (.ok (.ret (.ref (z3H s.heap t1 t2 t3 l1 l2 l3).objs.size))) { s with heap:=z3E s.heap t1 t2 t3 l1 l2 l3 }):=
 .of_wp fun prog w A R s h=>by
  obtain⟨hp,g,d,tk,os⟩:=s;obtain⟨hl1,hl2,hl3,h⟩:=h
  have hsub:=sub_zip
  have hL1:cG (Shared.heap ⟨hp,g,d,tk,os⟩) t1 l1 xs:=hl1
  have hL2:cG (Shared.heap ⟨hp.push (itObj t1 l1),g,d,tk,os⟩) t2 l2 ys:=hl2.at fun o e=>Heap.get?_push_of_some _ e
  have hL3:cG (Shared.heap ⟨(hp.push (itObj t1 l1)).push (itObj t2 l2),g,d,tk,os⟩) t3 l3 zs:=hl3.at fun o e=>Heap.get?_push_of_some _ (Heap.get?_push_of_some _ e)
  wp_walk using eC hL1,eC hL2,eC hL3
  exact⟨_,rfl,h⟩
theorem typeCall_zip_3 (a b c:Value):checkTypeCall "zip" ⟨[a,b,c],[]⟩=pure ():=by kernel_rfl
theorem newCall_zip_3 (a b c:Value):checkBuiltinCall "zip.__new__" ⟨[.type "zip",a,b,c],[]⟩=pure ():=by kernel_rfl
theorem args_object_init_4 (a b c d:Value):argsOk "object.__init__" ⟨[a,b,c,d],[]⟩:=by
 unfold argsOk;rw[signature?_of (id := "object.__init__") (n:=['_','_','t','i','n','i','_','_']) (o:=['t','c','e','j','b','o']) (by kernel_rfl) F.owner_object];kernel_rfl
theorem call_zip2 {t1 t2:Bool}{l1 l2:Addr}{xs ys:Array Value}{Q:Value→Shared→Prop} (hl1:cG s.heap t1 l1 xs) (hl2:cG s.heap t2 l2 ys)
  (h:∀ h',IsZ h' (s.heap.objs.size+4) (s.heap.objs.size+2) (s.heap.objs.size+3) .none false→d8 h' (s.heap.objs.size+2) #[.ref s.heap.objs.size,.ref (s.heap.objs.size+1)]→
   d8 h' (s.heap.objs.size+3) #[.none,.none]→dD h' t1 s.heap.objs.size l1 0→dD h' t2 (s.heap.objs.size+1) l2 0→
   (∀ c o,s.heap.get? c=some o→h'.get? c=some o)→Q (.ref (s.heap.objs.size+4)) { s with heap:=h' }):wpAny (model prog w) A (call (.type "zip") [.ref l1,.ref l2]) Q E s:=by
 refine callType_new F.called_zip (by decide) (F.typeCall_zip_2 _ _) (F.newCall_zip_2 _ _) (fun obj=>F.args_object_init_3 obj _ _) F.entry_zip_new (meets_zip2 t1 t2 l1 l2 xs ys) ⟨hl1,hl2,?_⟩
 generalize s.heap=h0 at *
 have z1:(zA h0 t1 l1).objs.size=h0.objs.size+1:=Heap.size_push ..
 have z2:(zA (zA h0 t1 l1) t2 l2).objs.size=h0.objs.size+2:=by rw[Heap.size_push,z1]
 have z3:(z2B h0 t1 t2 l1 l2).objs.size=h0.objs.size+3:=by rw[Heap.size_push,z2]
 have z4:(z2H h0 t1 t2 l1 l2).objs.size=h0.objs.size+4:=by rw[Heap.size_push,z3]
 have g5:(z2E h0 t1 t2 l1 l2).get? (z2H h0 t1 t2 l1 l2).objs.size=some _:=Heap.get?_push_size _ rfl
 have g4:(z2E h0 t1 t2 l1 l2).get? (z2B h0 t1 t2 l1 l2).objs.size=some _:=Heap.get?_push_of_some _ (Heap.get?_push_size _ rfl)
 have g3:(z2E h0 t1 t2 l1 l2).get? (zA (zA h0 t1 l1) t2 l2).objs.size=some _:=Heap.get?_push_of_some _ (Heap.get?_push_of_some _ (Heap.get?_push_size _ rfl))
 have g2:(z2E h0 t1 t2 l1 l2).get? (zA h0 t1 l1).objs.size=some _:=Heap.get?_push_of_some _ (Heap.get?_push_of_some _ (Heap.get?_push_of_some _ (Heap.get?_push_size _ rfl)))
 have g1:(z2E h0 t1 t2 l1 l2).get? h0.objs.size=some _:=Heap.get?_push_of_some _ (Heap.get?_push_of_some _ (Heap.get?_push_of_some _ (Heap.get?_push_of_some _ (Heap.get?_push_size _ rfl))))
 show _∧_
 rw[z2,z3,z4] at g5
 rw[z1,z2] at g3
 rw[z3] at g4
 rw[z1] at g2
 rw[z4]
 exact⟨⟨_,g5,rfl⟩,h _ g5 g3 g4 (itObj_is g1) (itObj_is g2) fun c o x=>Heap.get?_push_of_some _ (Heap.get?_push_of_some _ (Heap.get?_push_of_some _ (Heap.get?_push_of_some _ (Heap.get?_push_of_some _ x))))⟩
theorem call_zip3 {t1 t2 t3:Bool}{l1 l2 l3:Addr}{xs ys zs:Array Value}{Q:Value→Shared→Prop} (hl1:cG s.heap t1 l1 xs) (hl2:cG s.heap t2 l2 ys) (hl3:cG s.heap t3 l3 zs)
  (h:∀ h',IsZ h' (s.heap.objs.size+5) (s.heap.objs.size+3) (s.heap.objs.size+4) .none false→d8 h' (s.heap.objs.size+3) #[.ref s.heap.objs.size,.ref (s.heap.objs.size+1),.ref (s.heap.objs.size+2)]→
   d8 h' (s.heap.objs.size+4) #[.none,.none,.none]→dD h' t1 s.heap.objs.size l1 0→dD h' t2 (s.heap.objs.size+1) l2 0→dD h' t3 (s.heap.objs.size+2) l3 0→
   (∀ c o,s.heap.get? c=some o→h'.get? c=some o)→Q (.ref (s.heap.objs.size+5)) { s with heap:=h' }):wpAny (model prog w) A (call (.type "zip") [.ref l1,.ref l2,.ref l3]) Q E s:=by
 refine callType_new F.called_zip (by decide) (typeCall_zip_3 _ _ _) (newCall_zip_3 _ _ _) (fun obj=>args_object_init_4 obj _ _ _) F.entry_zip_new (meets_zip3 t1 t2 t3 l1 l2 l3 xs ys zs) ⟨hl1,hl2,hl3,?_⟩
 generalize s.heap=h0 at *
 have z1:(zA h0 t1 l1).objs.size=h0.objs.size+1:=Heap.size_push ..
 have z2:(zA (zA h0 t1 l1) t2 l2).objs.size=h0.objs.size+2:=by rw[Heap.size_push,z1]
 have z2':(zA (zA (zA h0 t1 l1) t2 l2) t3 l3).objs.size=h0.objs.size+3:=by rw[Heap.size_push,z2]
 have z3:(z3B h0 t1 t2 t3 l1 l2 l3).objs.size=h0.objs.size+4:=by rw[Heap.size_push,z2']
 have z4:(z3H h0 t1 t2 t3 l1 l2 l3).objs.size=h0.objs.size+5:=by rw[Heap.size_push,z3]
 have g5:(z3E h0 t1 t2 t3 l1 l2 l3).get? (z3H h0 t1 t2 t3 l1 l2 l3).objs.size=some _:=Heap.get?_push_size _ rfl
 have g4:(z3E h0 t1 t2 t3 l1 l2 l3).get? (z3B h0 t1 t2 t3 l1 l2 l3).objs.size=some _:=Heap.get?_push_of_some _ (Heap.get?_push_size _ rfl)
 have g3:(z3E h0 t1 t2 t3 l1 l2 l3).get? (zA (zA (zA h0 t1 l1) t2 l2) t3 l3).objs.size=some _:=Heap.get?_push_of_some _ (Heap.get?_push_of_some _ (Heap.get?_push_size _ rfl))
 have g2':(z3E h0 t1 t2 t3 l1 l2 l3).get? (zA (zA h0 t1 l1) t2 l2).objs.size=some _:=Heap.get?_push_of_some _ (Heap.get?_push_of_some _ (Heap.get?_push_of_some _ (Heap.get?_push_size _ rfl)))
 have g2:(z3E h0 t1 t2 t3 l1 l2 l3).get? (zA h0 t1 l1).objs.size=some _:=Heap.get?_push_of_some _ (Heap.get?_push_of_some _ (Heap.get?_push_of_some _ (Heap.get?_push_of_some _ (Heap.get?_push_size _ rfl))))
 have g1:(z3E h0 t1 t2 t3 l1 l2 l3).get? h0.objs.size=some _:=Heap.get?_push_of_some _ (Heap.get?_push_of_some _ (Heap.get?_push_of_some _ (Heap.get?_push_of_some _ (Heap.get?_push_of_some _ (Heap.get?_push_size _ rfl)))))
 show _∧_
 rw[z2',z3,z4] at g5
 rw[z1,z2,z2'] at g3
 rw[z3] at g4
 rw[z2] at g2'
 rw[z1] at g2
 rw[z4]
 exact⟨⟨_,g5,rfl⟩,h _ g5 g3 g4 (itObj_is g1) (itObj_is g2) (itObj_is g2') fun c o x=>Heap.get?_push_of_some _ (Heap.get?_push_of_some _ (Heap.get?_push_of_some _ (Heap.get?_push_of_some _ (Heap.get?_push_of_some _ (Heap.get?_push_of_some _ x)))))⟩
end
end TwZ
namespace TwZ
open PySem
open Sem (wp)
open AutoSeq1 (wpAny_loadPart')
section
variable {prog:Program}{w:World}{M:Model}{A:Around}{E:Value→Shared→Prop}{s:Shared}
noncomputable abbrev IsEn (h:Heap) (e it:Addr) (f0:Value) (f1:Bool) (i:Int) (old:Value):Prop:=
 h.get? e=some { cls:=.type "enumerate",dict:=none,data:=.fields #[f0,.bool f1,.ref it,rawInt i,.none,old],slots:=#[] }
theorem ownedE_free {e it:Addr}{f0:Value}{f1:Bool}{i:Int}{old:Value}{Q:Bool→Shared→Prop} (hz:IsEn s.heap e it f0 f1 i old) (hf:Free0 f0) (yes:Q true s)
  (no:∀ h',IsEn h' e it f0 true i old→Heap.SameBut e s.heap h'→Q false { s with heap:=h' }):wpAny (model prog w) A (Builtin.SmallTypes.ownedTupleIsFree (.ref e)) Q E s:=by
 unfold Builtin.SmallTypes.ownedTupleIsFree
 refine wpAny_bind (wpAny_field hz rfl (x:=f0) rfl ?_)
 rcases hf with rfl | ⟨a,rfl⟩
 ·exact wpAny_pure yes
 ·refine wpAny_bind (wpAny_alive ?_)
  cases h:s.heap.get? a.toNat with
  | none=>exact wpAny_pure yes
  | some o=>
   show wpAny _ _ (field (.ref e) 1 >>= _) _ _ _
   refine wpAny_bind (wpAny_field hz rfl (x:=.bool f1) rfl ?_)
   cases f1 with
   | true=>exact wpAny_pure (no s.heap hz (Heap.SameBut.refl ..))
   | false=>
    show wpAny _ _ (setField (.ref e) 1 (.bool true) >>= _) _ _ _
    refine wpAny_bind (wpAny_setField_rec hz (by simp) fun h₁ hz₁ hs₁=>wpAny_pure (no h₁ hz₁ hs₁))
theorem handOutE {e it:Addr}{f0:Value}{f1:Bool}{i:Int}{old:Value}{T:Addr}{Q:Unit→Shared→Prop} (hz:IsEn s.heap e it f0 f1 i old)
  (h:∀ h',IsEn h' e it (rawInt T) false i old→Heap.SameBut e s.heap h'→Q () { s with heap:=h' }):wpAny (model prog w) A (Builtin.SmallTypes.ownedTupleHandOut (.ref e) (.ref T)) Q E s:=by
 unfold Builtin.SmallTypes.ownedTupleHandOut
 refine wpAny_bind (wpAny_setField_rec hz (by simp) fun h₁ hz₁ hs₁=>?_)
 replace hz₁:IsEn h₁ e it (rawInt T) f1 i old:=hz₁
 refine wpAny_setField_rec hz₁ (by simp) fun h₂ hz₂ hs₂=>?_
 exact h h₂ hz₂ (Heap.SameBut.trans hs₁ hs₂)
theorem enum_next {n a:Nat}{t:Bool}{k:Nat}{xs:Array Value}{x old f0:Value}{f1:Bool}{Q:Value→Shared→Prop} (hf:Free0 f0)
  (he:IsEn s.heap (n+1) n f0 f1 k old) (i1:dD s.heap t n a k) (s1:cG s.heap t a xs) (l1:a < n) (hx:xs[k]? = some x)
  (hQ:∀ (T:Nat) h' f0' f1' old',s.heap.objs.size≤T→Free0 f0'→IsEn h' (n+1) n f0' f1' ((k:Int)+1) old'→dD h' t n a (k+1)→d8 h' T #[.int k s.toks,x]→
   (∀ (c:Nat) o,(c < n∨n+1 < c)→s.heap.get? c=some o→h'.get? c=some o)→Q (.ref T) { s with heap:=h',toks:=s.toks+1 }) :
  wpAny (model prog w) A (Builtin.«enumerate.__next__» ⟨[.ref (n+1)],[]⟩) (fun fin s'=>∃ v,fin=.done (.ret v)∧Q v s') E s:=by
 obtain⟨hp,g,d,tk,os⟩:=s
 have helt:n+1 < hp.objs.size:=Heap.lt_size he
 show wpAny _ _ (field (.ref (n+1)) 2 >>= _) _ _ _
 refine wpAny_bind (wpAny_field he rfl (x:=.ref n) rfl ?_)
 refine wpAny_bind (bM i1 s1 hx fun h₁ i1₁ hs₁=>?_)
 replace hs₁:Heap.SameBut n hp h₁:=hs₁
 have he₁:IsEn h₁ (n+1) n f0 f1 k old:=ex hs₁ (by omega) he
 show wpAny _ _ (field (.ref (n+1)) 3 >>= _) _ _ ⟨h₁,g,d,tk,os⟩
 refine wpAny_bind (wpAny_field he₁ rfl (x:=rawInt k) rfl ?_)
 show wpAny _ _ (field (.ref (n+1)) 4 >>= _) _ _ ⟨h₁,g,d,tk,os⟩
 refine wpAny_bind (wpAny_field he₁ rfl (x:=.none) rfl ?_)
 show wpAny _ _ (mkInt k >>= _) _ _ ⟨h₁,g,d,tk,os⟩
 refine wpAny_bind (wpAny_mkInt ?_)
 show wpAny _ _ (setField (.ref (n+1)) 3 (rawInt ((k:Int)+1)) >>= _) _ _ ⟨h₁,g,d,tk+1,os⟩
 refine wpAny_bind (wpAny_setField_rec he₁ (by simp) fun h₂ he₂ hs₂=>?_)
 replace hs₂:Heap.SameBut (n+1) h₁ h₂:=hs₂
 replace he₂:IsEn h₂ (n+1) n f0 f1 ((k:Int)+1) old:=he₂
 show wpAny _ _ (setField (.ref (n+1)) 4 .none >>= _) _ _ ⟨h₂,g,d,tk+1,os⟩
 refine wpAny_bind (wpAny_setField_rec he₂ (by simp) fun h₃ he₃ hs₃=>?_)
 replace hs₃:Heap.SameBut (n+1) h₂ h₃:=hs₃
 replace he₃:IsEn h₃ (n+1) n f0 f1 ((k:Int)+1) old:=he₃
 show wpAny _ _ (newTuple [.int k tk,x] >>= _) _ _ ⟨h₃,g,d,tk+1,os⟩
 refine wpAny_bind (wpAny_newTuple ?_)
 have he₄:IsEn (h₃.push { cls:=.type "tuple",data:=.seq #[.int k tk,x] }) (n+1) n f0 f1 ((k:Int)+1) old:=Heap.get?_push_of_some _ he₃
 have hsz:h₃.objs.size=hp.objs.size:=by rw[hs₃.1,hs₂.1,hs₁.1]
 have ht₄:d8 (h₃.push { cls:=.type "tuple",data:=.seq #[.int k tk,x] }) h₃.objs.size #[.int k tk,x]:=Heap.get?_push_size _ rfl
 have k₄:∀ (c:Nat) o,(c < n∨n+1 < c)→hp.get? c=some o→(h₃.push { cls:=.type "tuple",data:=.seq #[.int k tk,x] }).get? c=some o:=fun c o hc e=>
  Heap.get?_push_of_some _ (ex hs₃ (by omega) (ex hs₂ (by omega) (ex hs₁ (by omega) e)))
 have i1₄:dD (h₃.push { cls:=.type "tuple",data:=.seq #[.int k tk,x] }) t n a (k+1):=((i1₁.ext hs₂ (by omega)).ext hs₃ (by omega)).at fun o e=>Heap.get?_push_of_some _ e
 have hlt₃:n+1 < h₃.objs.size:=by rw[hsz];exact helt
 generalize hh₄:h₃.push { cls:=.type "tuple",data:=.seq #[.int k tk,x] }=h₄ at he₄ ht₄ k₄ i1₄
 have hTle:hp.objs.size≤h₃.objs.size:=Nat.le_of_eq hsz.symm
 show wpAny _ _ (Builtin.SmallTypes.ownedTupleIsFree (.ref (n+1)) >>= _) _ _ ⟨h₄,g,d,tk+1,os⟩
 refine wpAny_bind (ownedE_free he₄ hf ?_ ?_)
 ·simp only [if_true]
  refine wpAny_bind (wpAny_rule ?_)
  refine wpAny_bind (wpAny_field he₄ rfl (x:=old) rfl ?_)
  refine wpAny_bind (wpAny_setField_rec he₄ (by simp) fun h₅ he₅ hs₅=>?_)
  replace hs₅:Heap.SameBut (n+1) h₄ h₅:=hs₅
  replace he₅:IsEn h₅ (n+1) n f0 f1 ((k:Int)+1) x:=he₅
  refine wpAny_bind (handOutE (s:=⟨h₅,g,d,tk+1,os⟩) he₅ fun h₆ he₆ hs₆=>?_)
  replace hs₆:Heap.SameBut (n+1) h₅ h₆:=hs₆
  refine wpAny_bind (wpAny_letGo (wpAny_pure ⟨_,rfl,?_⟩))
  exact hQ h₃.objs.size h₆ _ _ _ hTle (.inr ⟨_,rfl⟩) he₆ ((i1₄.ext hs₅ (by omega)).ext hs₆ (by omega)) (ex hs₆ (by omega) (ex hs₅ (by omega) ht₄)) fun c o hc e=>ex hs₆ (by omega) (ex hs₅ (by omega) (k₄ c o hc e))
 ·intro h₅ he₅ hs₅
  replace hs₅:Heap.SameBut (n+1) h₄ h₅:=hs₅
  simp only [Bool.false_eq_true,if_false]
  refine wpAny_pure ⟨_,rfl,?_⟩
  exact hQ h₃.objs.size h₅ _ _ _ hTle hf he₅ (i1₄.ext hs₅ (by omega)) (ex hs₅ (by omega) ht₄) fun c o hc e=>ex hs₅ (by omega) (k₄ c o hc e)
theorem enum_end {n a:Nat}{t:Bool}{k:Nat}{xs:Array Value}{old f0:Value}{f1:Bool}{Q:Fin→Shared→Prop} (hh:A.handled=none)
  (he:IsEn s.heap (n+1) n f0 f1 k old) (i1:dD s.heap t n a k) (s1:cG s.heap t a xs) (hx:xs[k]? = none)
  (hE:∀ h' e,(∀ (c:Nat) o,(c < n∨n+1 < c)→s.heap.get? c=some o→h'.get? c=some o)→(∃ o,h'.get? e=some o∧o.cls=.type "StopIteration")→E (.ref e) { s with heap:=h' }) :
  wpAny (model prog w) A (Builtin.«enumerate.__next__» ⟨[.ref (n+1)],[]⟩) Q E s:=by
 show wpAny _ _ (field (.ref (n+1)) 2 >>= _) _ _ _
 refine wpAny_bind (wpAny_field he rfl (x:=.ref n) rfl ?_)
 refine wpAny_bind (cY hh i1 s1 hx fun h' e hk he'=>hE h' e (fun c o hc q=>hk c o (show @Ne Nat c n by omega) q) he')
theorem pyNext_enum {e it:Addr}{f0:Value}{f1:Bool}{i:Int}{old:Value}{Q:Option Value→Shared→Prop} (he:IsEn s.heap e it f0 f1 i old)
  (h:wpAny (model prog w) A.in1 (Builtin.«enumerate.__next__» ⟨[.ref e],[]⟩) (fun fin s'=>∃ v,fin=.done (.ret v)∧Q (some v) s') (fun e s'=>(∃ a o,e=.ref a∧s'.heap.get? a=some o∧o.cls=.type "StopIteration")∧Q none s') s) :
  wpAny (model prog w) A (pyNext (.ref e)) Q E s:=by
 have hT:s.TypeIs (.ref e) "enumerate" := ⟨_,he,rfl⟩
 unfold pyNext
 refine wpAny_bind (wpAny_attempt (wpAny_callSpecial?_slot (name:=Str.ofString "__next__") hT F.slot_enumerate_next
  (wpAny_call_entry F.slot_enumerate_next hT F.entry_enumerate_next (wpAny_mono h (fun fin s' h'=>?_) fun e s' h'=>?_) (F.args_enumerate_next_1 _))))
 ·obtain⟨v,rfl,q⟩:=h'
  exact⟨v,rfl,wpAny_pure q⟩
 ·obtain⟨⟨a,o,rfl,ho,hc⟩,q⟩:=h'
  exact wpAny_bind (wpAny_isInstance (T := "StopIteration") (b:=true) ⟨o,ho,hc⟩ isSubtype_stop (wpAny_pure q))
theorem letGo_enum {tg:Expr}{e it T:Addr}{f0:Value}{f1:Bool}{i:Int}{old:Value}{Q:Unit→Shared→Prop} (hf:Free0 f0) (hz:IsEn s.heap e it f0 f1 i old)
  (hQ:∀ h' f0',Free0 f0'→IsEn h' e it f0' f1 i old→Heap.SameBut e s.heap h'→Q () { s with heap:=h' }):wpAny (model prog w) A (letOwnedTupleGo tg (.ref e) (.ref T)) Q E s:=by
 have same:Q () s:=hQ s.heap f0 hf hz (Heap.SameBut.refl ..)
 have core:wpAny (model prog w) A (do
   let o ← load e
   match o.cls,o.data with
   | .type n,.fields vs=>
    if ["enumerate","zip","dict_itemiterator","dict_reverseitemiterator","odict_iterator","itertools.zip_longest","itertools.pairwise"].contains n && vs[0]? == some (rawInt T) then
     rule "for.unpacks-the-owned-tuple"
     updateField e 0 .none
   | _,_=>pure ()) Q E s:=by
  refine wpAny_bind (wpAny_load hz ?_)
  show wpAny _ _ (if (["enumerate","zip","dict_itemiterator","dict_reverseitemiterator","odict_iterator","itertools.zip_longest","itertools.pairwise"].contains "enumerate" &&
   (#[f0,.bool f1,.ref it,rawInt i,.none,old]:Array Value)[0]? == some (rawInt T))=true then _ else _) Q E s
  split
  ·refine wpAny_bind (wpAny_rule ?_)
   show wpAny _ _ (setField (.ref e) 0 .none) Q E s
   exact wpAny_setField_rec hz (by simp) fun h' hz' hs'=>hQ h' .none (.inl rfl) hz' hs'
  ·exact wpAny_pure same
 unfold letOwnedTupleGo
 cases tg <;> first
  | exact wpAny_pure same
  | exact core
theorem pyIter_enum {e it:Addr}{f0:Value}{f1:Bool}{i:Int}{old:Value}{Q:Value→Shared→Prop} (he:IsEn s.heap e it f0 f1 i old) (h:Q (.ref e) s):wpAny (model prog w) A (pyIter (.ref e)) Q E s:=by
 have hT:s.TypeIs (.ref e) "enumerate" := ⟨_,he,rfl⟩
 refine wpAny_pyIter_slot hT F.slot_enumerate_iter (wpAny_call_entry F.slot_enumerate_iter hT F.entry_enumerate_iter ?_ (F.args_enumerate_iter_1 _))
 show wpAny _ _ (ret (.ref e)) _ _ s
 exact wpAny_pure ⟨_,rfl,"enumerate",_,hT,F.slot_enumerate_next.lookup,h⟩
theorem meets_enum (t:Bool) (l:Addr) (xs:Array Value) :
  Meets (Builtin.«enumerate.__new__» ⟨[.type "enumerate",.ref l],[]⟩) (fun _ R s=>cG s.heap t l xs∧
   R (.ok (.ret (.ref (zA s.heap t l).objs.size))) { s with heap:=(zA s.heap t l).push { cls:=.type "enumerate",data:=.fields #[.none,.bool false,.ref s.heap.objs.size,rawInt 0,.none,.none] } }):=
 .of_wp fun prog w A R s h=>by
  obtain⟨hp,g,d,tk,os⟩:=s;obtain⟨hl,h⟩:=h
  have hsub:=sub_enumerate
  have hL:cG (Shared.heap ⟨hp,g,d,tk,os⟩) t l xs:=hl
  wp_walk
  refine wpAny_stack_any fun st=>wpAny_pure ?_
  split
  ·rename_i c _ _ _ _ _
   cases (c == Value.type "enumerate")
   ·wp_walk using eC hL
    exact⟨_,rfl,h⟩
   ·wp_walk using eC hL
    exact⟨_,rfl,h⟩
  ·wp_walk using eC hL
   exact⟨_,rfl,h⟩
theorem call_enum {t:Bool}{l:Addr}{xs:Array Value}{Q:Value→Shared→Prop} (hL:cG s.heap t l xs)
  (h:∀ h',IsEn h' (s.heap.objs.size+1) s.heap.objs.size .none false 0 .none→dD h' t s.heap.objs.size l 0→(∀ b o,s.heap.get? b=some o→h'.get? b=some o)→Q (.ref (s.heap.objs.size+1)) { s with heap:=h' }) :
  wpAny (model prog w) A (call (.type "enumerate") [.ref l]) Q E s:=by
 refine callType_new F.called_enumerate (by decide) (F.typeCall_enumerate_1 _) (F.newCall_enumerate_1 _) (fun obj=>F.args_object_init_2 obj _) F.entry_enumerate_new (meets_enum t l xs) ⟨hL,?_⟩
 have hz:(zA s.heap t l).objs.size=s.heap.objs.size+1:=Heap.size_push ..
 show _∧_
 rw[hz]
 have he:IsEn ((zA s.heap t l).push { cls:=.type "enumerate",data:=.fields #[.none,.bool false,.ref s.heap.objs.size,rawInt 0,.none,.none] }) (s.heap.objs.size+1) s.heap.objs.size .none false 0 .none:=by
  have:=Heap.get?_push_size (zA s.heap t l) (o:={ cls:=.type "enumerate",data:=.fields #[.none,.bool false,.ref s.heap.objs.size,rawInt 0,.none,.none] }) rfl
  rw[hz] at this;exact this
 exact⟨⟨_,he,rfl⟩,h _ he (itObj_is (Heap.get?_push_of_some _ (Heap.get?_push_size _ rfl))) fun b o x=>Heap.get?_push_of_some _ (Heap.get?_push_of_some _ x)⟩
end
end TwZ
namespace L2
open PySem PySem.Spec PyProof.Rows TwZ
noncomputable def SqB (K:PySem.W.Frag) (H:Hp) (t:Bool) (a:Addr) (xs:List V):Prop:=if t=true then bR K H a xs else bT K H a xs
section
variable {X:Cx}{pins:List (Addr×Obj)}{σ:St}{H:Hp}{s:Shared}
theorem Inv.src {t:Bool}{a:Addr}{xs:List V} (I:Inv X pins σ H s) (h:SqB X.K H t a xs):∃ its:List Value,bX xs its∧cG s.heap t a its.toArray∧xs.length≤sizeLine:=by
 cases t with
 | true=>
  obtain⟨its,r,p,z⟩:=I.tuple h
  exact⟨its,r,(show s.heap.IsTuple a its.toArray from p),z⟩
 | false=>
  obtain⟨its,r,p,z⟩:=I.list h
  exact⟨its,r,p.isList,z⟩
theorem Inv.src_inj {t:Bool}{a:Addr}{xs ys:List V} (I:Inv X pins σ H s) (h:SqB X.K H t a xs) (h':SqB X.K H t a ys):xs=ys:=by
 cases t with
 | true=>exact I.tuple_inj h h'
 | false=>exact I.list_inj h h'
theorem Inv.turnedT {fp:List Addr}{h':Heap}{t':Nat}{T:Addr}{xs:List V}{its:List Value} (I:Inv X pins σ H s) (hf:∀ b∈fp,FpOk X pins H b) (k:∀ b o,b∉fp→s.heap.get? b=some o→h'.get? b=some o)
  (hT:s.heap.objs.size≤T) (hv:bX xs its) (hz:xs.length≤sizeLine) (ht:IsTup h' T its.toArray):Inv X pins σ (upd H T (.tup xs)) { s with heap:=h',toks:=t' }:=by
 have hn:H T=none:=I.hok.fresh hT
 have nT:∀ b u,H b=some u→b≠T:=fun b u e=>aN e hn
 have nfp:∀ b u,H b=some u→b∉fp:=fun b u e hb=>by rw[(hf b hb).1] at e;cases e
 have nTh:∀ b o,s.heap.get? b=some o→b≠T:=fun b o e z=>by rw[z] at e;exact absurd (Nat.lt_of_lt_of_le (Heap.lt_size e) hT) (Nat.lt_irrefl _)
 refine I.step (g':=s.gens) (d':=s.drawn) (ch:=fp) (fun b hb=>?_) (fun b o _ _ hc e _=>k b o hc e) (fun b o _ _ hc e _=>⟨o.slots,k b o hc e⟩) (fun b o hc e n=>by rw[aQ (nTh b o e)];exact n)
  (fun b o hc e=>⟨o,k b o hc e⟩) (fun b ys e=>by rw[aQ (nT b _ e)];exact e) (fun b o u e=>by rw[aQ (nT b _ e)];exact e) (fun b ps e=>⟨#[],by rw[aQ (nT b _ e),e];simp⟩) (fun m hm=>?_) (fun b u e=>?_) I.bare
 ·obtain⟨_,f1,_,f3,f4,f5⟩:=hf b hb
  exact⟨f3,f1,f4,f5⟩
 ·obtain⟨o,es,ep,ho,r⟩:=hm
  exact⟨o,es,ep,k _ o (fun hb=>(hf _ hb).2.1 rfl) ho,r⟩
 ·by_cases hb:b=T
  ·subst hb
   rw[aC] at e
   cases e
   exact⟨hz,its,hv,ht⟩
  ·rw[aQ hb] at e
   refine (I.hok b u e).stay (fun c v hc q=>k c v ?_ q) (fun c q=>by rw[aQ (nT c _ q)];exact q) fun c ys q=>by rw[aQ (nT c _ q)];exact q
   rcases hc with z | z
   ·rw[z];exact nfp b u e
   ·exact nfp c _ z
theorem Inv.turnedL {fp:List Addr}{h':Heap}{t':Nat} (I:Inv X pins σ H s) (hf:∀ b∈fp,FpOk X pins H b) (k:∀ b o,b∉fp→s.heap.get? b=some o→h'.get? b=some o):Inv X pins σ H { s with heap:=h',toks:=t' }:=by
 have nfp:∀ b u,H b=some u→b∉fp:=fun b u e hb=>by rw[(hf b hb).1] at e;cases e
 refine I.step (g':=s.gens) (d':=s.drawn) (ch:=fp) (fun b hb=>?_) (fun b o _ _ hc e _=>k b o hc e) (fun b o _ _ hc e _=>⟨o.slots,k b o hc e⟩) (fun b o hc e n=>n)
  (fun b o hc e=>⟨o,k b o hc e⟩) (fun b ys e=>e) (fun b o u e=>e) (fun b ps e=>⟨#[],by rw[e];simp⟩) (fun m hm=>?_) (fun b u e=>?_) I.bare
 ·obtain⟨_,f1,_,f3,f4,f5⟩:=hf b hb
  exact⟨f3,f1,f4,f5⟩
 ·obtain⟨o,es,ep,ho,r⟩:=hm
  exact⟨o,es,ep,k _ o (fun hb=>(hf _ hb).2.1 rfl) ho,r⟩
 ·refine (I.hok b u e).stay (fun c v hc q=>k c v ?_ q) (fun c q=>q) fun c ys q=>q
  rcases hc with z | z
  ·rw[z];exact nfp b u e
  ·exact nfp c _ z
end
noncomputable def Itz3 (K:PySem.W.Frag) (t1 t2 t3:Bool) (a1 a2 a3:Addr):It:=
 ⟨fun i H=>∃ xs ys zs x y z,SqB K H t1 a1 xs∧SqB K H t2 a2 ys∧SqB K H t3 a3 zs∧xs[i]? = some x∧ys[i]? = some y∧zs[i]? = some z,
  fun i H v H'=>∃ T x y z,H T=none∧v=.ref T∧(∀ xs,SqB K H t1 a1 xs→xs[i]? = some x)∧(∀ xs,SqB K H t2 a2 xs→xs[i]? = some y)∧(∀ xs,SqB K H t3 a3 xs→xs[i]? = some z)∧H'=upd H T (.tup [x,y,z]),
  fun i H=>∃ xs ys zs,SqB K H t1 a1 xs∧SqB K H t2 a2 ys∧SqB K H t3 a3 zs∧(xs.length≤i∨ys.length≤i∨zs.length≤i)⟩
noncomputable def tnz3 (n a1 a2 a3:Nat) (t1 t2 t3:Bool) (i:Nat) (h:Heap):Prop:=
 ∃ f0 f1 c1 c2 c3,Free0 f0∧IsZ h (n+5) (n+3) (n+4) f0 f1∧d8 h (n+3) #[.ref n,.ref (n+1),.ref (n+2)]∧d8 h (n+4) #[c1,c2,c3]∧
  dD h t1 n a1 i∧dD h t2 (n+1) a2 i∧dD h t3 (n+2) a3 i∧a1 < n∧a2 < n∧a3 < n
noncomputable def fpz (n:Nat) (m:Nat):List Addr:=(List.range m).map fun k=>(n+k:Nat)
theorem dI {n m:Nat}{b:Addr}:b∈fpz n m↔∃ k,k < m∧b=n+k:=by
 unfold fpz
 rw[List.mem_map]
 constructor
 ·rintro⟨k,hk,e⟩;exact⟨k,List.mem_range.mp hk,e.symm⟩
 ·rintro⟨k,hk,e⟩;exact⟨k,List.mem_range.mpr hk,e.symm⟩
theorem not_fpz {n m:Nat}{b:Nat} (h:(b:Addr)∉fpz n m) (hm:0 < m):b < n∨n+(m - 1) < b:=by
 by_cases h1:b < n
 ·exact .inl h1
 ·by_cases h2:n+(m - 1) < b
  ·exact .inr h2
  ·exact absurd (dI.mpr ⟨b - n,by omega,by show (b:Nat)=n+(b - n);omega⟩) h
theorem turn_zip3 {P:Program}{w:World}{K:PySem.W.Frag}{tg:Expr} (n a1 a2 a3:Nat) (t1 t2 t3:Bool):Turn P w K tg (Itz3 K t1 t2 t3 a1 a2 a3) (fpz n 6) (n+5) (tnz3 n a1 a2 a3 t1 t2 t3) where
 mem:=dI.mpr ⟨5,by decide,rfl⟩
 obj:=fun i h st b hb=>by
  obtain⟨f0,f1,c1,c2,c3,hf,hz,hTI,hTO,i1,i2,i3,_⟩:=st
  obtain⟨k,hk,rfl⟩:=dI.mp hb
  have hk':k=0∨k=1∨k=2∨k=3∨k=4∨k=5:=by omega
  rcases hk' with rfl | rfl | rfl | rfl | rfl | rfl
  ·exact i1.obj
  ·exact i2.obj
  ·exact i3.obj
  ·exact⟨_,hTI,fun v z=>by cases z⟩
  ·exact⟨_,hTO,fun v z=>by cases z⟩
  ·exact⟨_,hz,fun v z=>by cases z⟩
 keep:=fun i h h' st k=>by
  obtain⟨f0,f1,c1,c2,c3,hf,hz,hTI,hTO,i1,i2,i3,l⟩:=st
  have m:∀ j,j < 6→((n+j:Nat):Addr)∈fpz n 6:=fun j hj=>dI.mpr ⟨j,hj,rfl⟩
  exact⟨f0,f1,c1,c2,c3,hf,k _ (m 5 (by decide)) _ hz,k _ (m 3 (by decide)) _ hTI,k _ (m 4 (by decide)) _ hTO,i1.at fun o e=>k _ (m 0 (by decide)) _ e,i2.at fun o e=>k _ (m 1 (by decide)) _ e,i3.at fun o e=>k _ (m 2 (by decide)) _ e,l⟩
 item:=by
  intro X hP hw hK hc i pins s σ H E I hf st hg
  subst hP hw hK
  obtain⟨f0,f1,c1,c2,c3,f,hz,hTI,hTO,i1,i2,i3,l1,l2,l3⟩:=st
  obtain⟨xs,ys,zs,x,y,z,q1,q2,q3,hx,hy,hw⟩:=hg
  obtain⟨us,r1,p1,_⟩:=I.src q1
  obtain⟨vs,r2,p2,_⟩:=I.src q2
  obtain⟨ws,r3,p3,_⟩:=I.src q3
  obtain⟨u,hu,ru⟩:=r1.get hx
  obtain⟨v,hv,rv⟩:=r2.get hy
  obtain⟨w',hw',rw'⟩:=r3.get hw
  refine pyNext_zip hz (zip3_next f hz hTI hTO i1 i2 i3 p1 p2 p3 l1 l2 l3 (by simpa using hu) (by simpa using hv) (by simpa using hw') fun T h' f0' f1' d1 d2 d3 hT f' hz' hTI' hTO' i1' i2' i3' hTp hk=>?_)
  refine⟨_,rfl,letGo_zip (s:={ s with heap:=h' }) f' hz' fun h'' f0'' f'' hz'' hs=>?_⟩
  replace hs:Heap.SameBut (n+5) h' h'':=hs
  have hTn:n+5 < T:=Nat.lt_of_lt_of_le (Heap.lt_size hz) hT
  have hTp':d8 h'' T #[u,v,w']:=ex hs (by omega) hTp
  have IT:Inv X pins σ (upd H T (.tup [x,y,z])) { s with heap:=h'',toks:=s.toks }:=I.turnedT (fp:=fpz n 6) hf (fun b o hb e=>ex (c:=b) hs (by have:=not_fpz (b:=b) hb (by decide);have:n+(6 - 1)=n+5:=rfl;omega) (hk b o (not_fpz (b:=b) hb (by decide)) e)) hT (its:=[u,v,w']) (.cons ru (.cons rv (.cons rw' .nil))) (by show 3≤sizeLine;decide) ⟨_,hTp',rfl,_,rfl⟩
  refine⟨.ref T,upd H T (.tup [x,y,z]),IT,rfl,
   ⟨T,x,y,z,I.hok.fresh hT,rfl,fun as q=>by rw[I.src_inj q q1];exact hx,fun as q=>by rw[I.src_inj q q2];exact hy,fun as q=>by rw[I.src_inj q q3];exact hw,rfl⟩,
   ⟨f0'',f1',d1,d2,d3,f'',hz'',ex hs (by omega) hTI',ex hs (by omega) hTO',i1'.ext hs (by omega),i2'.ext hs (by omega),i3'.ext hs (by omega),l1,l2,l3⟩,fun b hb=>?_⟩
  ·obtain⟨j,hj,rfl⟩:=dI.mp hb
   rw[aQ (show ((n+j:Nat):Addr)≠T from (show @Ne Nat (n+j) T by omega))]
   exact (hf _ hb).1
 done:=by
  intro X hP hw hK hc i pins s σ H E I hf st hg
  subst hP hw hK
  obtain⟨f0,f1,c1,c2,c3,f,hz,hTI,hTO,i1,i2,i3,l1,l2,l3⟩:=st
  obtain⟨xs,ys,zs,q1,q2,q3,hend⟩:=hg
  obtain⟨us,r1,p1,_⟩:=I.src q1
  obtain⟨vs,r2,p2,_⟩:=I.src q2
  obtain⟨ws,r3,p3,_⟩:=I.src q3
  have e1:=r1.length
  have e2:=r2.length
  have e3:=r3.length
  refine pyNext_zip hz (zip3_end (I.ok.hd hc) f hz hTI hTO i1 i2 i3 p1 p2 p3 l1 l2 l3 (by
   rcases hend with h | h | h
   ·exact .inl (by simp;omega)
   ·exact .inr (.inl (by simp;omega))
   ·exact .inr (.inr (by simp;omega))) fun h' e hk he=>?_)
  obtain⟨o,ho,hcl⟩:=he
  exact⟨⟨e,o,rfl,ho,hcl⟩,rfl,I.turnedL (t':=s.toks) hf fun b o hb q=>hk b o (not_fpz (b:=b) hb (by decide)) q⟩
 self:=fun _ _ _ _ _ st h=>by
  obtain⟨f0,f1,c1,c2,c3,f,hz,_⟩:=st
  exact pyIter_zip hz h
noncomputable def Itz2 (K:PySem.W.Frag) (t1 t2:Bool) (a1 a2:Addr):It:=
 ⟨fun i H=>∃ xs ys x y,SqB K H t1 a1 xs∧SqB K H t2 a2 ys∧xs[i]? = some x∧ys[i]? = some y,
  fun i H v H'=>∃ T x y,H T=none∧v=.ref T∧(∀ xs,SqB K H t1 a1 xs→xs[i]? = some x)∧(∀ xs,SqB K H t2 a2 xs→xs[i]? = some y)∧H'=upd H T (.tup [x,y]),
  fun i H=>∃ xs ys,SqB K H t1 a1 xs∧SqB K H t2 a2 ys∧(xs.length≤i∨ys.length≤i)⟩
noncomputable def tnz2 (n a1 a2:Nat) (t1 t2:Bool) (i:Nat) (h:Heap):Prop:=
 ∃ f0 f1 c1 c2,Free0 f0∧IsZ h (n+4) (n+2) (n+3) f0 f1∧d8 h (n+2) #[.ref n,.ref (n+1)]∧d8 h (n+3) #[c1,c2]∧dD h t1 n a1 i∧dD h t2 (n+1) a2 i∧a1 < n∧a2 < n
theorem turn_zip2 {P:Program}{w:World}{K:PySem.W.Frag}{tg:Expr} (n a1 a2:Nat) (t1 t2:Bool):Turn P w K tg (Itz2 K t1 t2 a1 a2) (fpz n 5) (n+4) (tnz2 n a1 a2 t1 t2) where
 mem:=dI.mpr ⟨4,by decide,rfl⟩
 obj:=fun i h st b hb=>by
  obtain⟨f0,f1,c1,c2,hf,hz,hTI,hTO,i1,i2,_⟩:=st
  obtain⟨k,hk,rfl⟩:=dI.mp hb
  have hk':k=0∨k=1∨k=2∨k=3∨k=4:=by omega
  rcases hk' with rfl | rfl | rfl | rfl | rfl
  ·exact i1.obj
  ·exact i2.obj
  ·exact⟨_,hTI,fun v z=>by cases z⟩
  ·exact⟨_,hTO,fun v z=>by cases z⟩
  ·exact⟨_,hz,fun v z=>by cases z⟩
 keep:=fun i h h' st k=>by
  obtain⟨f0,f1,c1,c2,hf,hz,hTI,hTO,i1,i2,l⟩:=st
  have m:∀ j,j < 5→((n+j:Nat):Addr)∈fpz n 5:=fun j hj=>dI.mpr ⟨j,hj,rfl⟩
  exact⟨f0,f1,c1,c2,hf,k _ (m 4 (by decide)) _ hz,k _ (m 2 (by decide)) _ hTI,k _ (m 3 (by decide)) _ hTO,i1.at fun o e=>k _ (m 0 (by decide)) _ e,i2.at fun o e=>k _ (m 1 (by decide)) _ e,l⟩
 item:=by
  intro X hP hw hK hc i pins s σ H E I hf st hg
  subst hP hw hK
  obtain⟨f0,f1,c1,c2,f,hz,hTI,hTO,i1,i2,l1,l2⟩:=st
  obtain⟨xs,ys,x,y,q1,q2,hx,hy⟩:=hg
  obtain⟨us,r1,p1,_⟩:=I.src q1
  obtain⟨vs,r2,p2,_⟩:=I.src q2
  obtain⟨u,hu,ru⟩:=r1.get hx
  obtain⟨v,hv,rv⟩:=r2.get hy
  refine pyNext_zip hz (zip2_next f hz hTI hTO i1 i2 p1 p2 l1 l2 (by simpa using hu) (by simpa using hv) fun T h' f0' f1' d1 d2 hT f' hz' hTI' hTO' i1' i2' hTp hk=>?_)
  refine⟨_,rfl,letGo_zip (s:={ s with heap:=h' }) f' hz' fun h'' f0'' f'' hz'' hs=>?_⟩
  replace hs:Heap.SameBut (n+4) h' h'':=hs
  have hTn:n+4 < T:=Nat.lt_of_lt_of_le (Heap.lt_size hz) hT
  have hTp':d8 h'' T #[u,v]:=ex hs (by omega) hTp
  have IT:Inv X pins σ (upd H T (.tup [x,y])) { s with heap:=h'',toks:=s.toks }:=I.turnedT (fp:=fpz n 5) hf (fun b o hb e=>ex (c:=b) hs (by have:=not_fpz (b:=b) hb (by decide);have:n+(5 - 1)=n+4:=rfl;omega) (hk b o (not_fpz (b:=b) hb (by decide)) e)) hT (its:=[u,v]) (.cons ru (.cons rv .nil)) (by show 2≤sizeLine;decide) ⟨_,hTp',rfl,_,rfl⟩
  refine⟨.ref T,upd H T (.tup [x,y]),IT,rfl,
   ⟨T,x,y,I.hok.fresh hT,rfl,fun as q=>by rw[I.src_inj q q1];exact hx,fun as q=>by rw[I.src_inj q q2];exact hy,rfl⟩,
   ⟨f0'',f1',d1,d2,f'',hz'',ex hs (by omega) hTI',ex hs (by omega) hTO',i1'.ext hs (by omega),i2'.ext hs (by omega),l1,l2⟩,fun b hb=>?_⟩
  ·obtain⟨j,hj,rfl⟩:=dI.mp hb
   rw[aQ (show ((n+j:Nat):Addr)≠T from (show @Ne Nat (n+j) T by omega))]
   exact (hf _ hb).1
 done:=by
  intro X hP hw hK hc i pins s σ H E I hf st hg
  subst hP hw hK
  obtain⟨f0,f1,c1,c2,f,hz,hTI,hTO,i1,i2,l1,l2⟩:=st
  obtain⟨xs,ys,q1,q2,hend⟩:=hg
  obtain⟨us,r1,p1,_⟩:=I.src q1
  obtain⟨vs,r2,p2,_⟩:=I.src q2
  have e1:=r1.length
  have e2:=r2.length
  refine pyNext_zip hz (zip2_end (I.ok.hd hc) f hz hTI hTO i1 i2 p1 p2 l1 l2 (by
   rcases hend with h | h
   ·exact .inl (by simp;omega)
   ·exact .inr (by simp;omega)) fun h' e hk he=>?_)
  obtain⟨o,ho,hcl⟩:=he
  exact⟨⟨e,o,rfl,ho,hcl⟩,rfl,I.turnedL (t':=s.toks) hf fun b o hb q=>hk b o (not_fpz (b:=b) hb (by decide)) q⟩
 self:=fun _ _ _ _ _ st h=>by
  obtain⟨f0,f1,c1,c2,f,hz,_⟩:=st
  exact pyIter_zip hz h
noncomputable def Ite (K:PySem.W.Frag) (t:Bool) (a:Addr):It:=
 ⟨fun i H=>∃ xs x,SqB K H t a xs∧xs[i]? = some x,
  fun i H v H'=>∃ T x,H T=none∧v=.ref T∧(∀ xs,SqB K H t a xs→xs[i]? = some x)∧H'=upd H T (.tup [.int i,x]),
  fun i H=>∃ xs,SqB K H t a xs∧xs.length≤i⟩
noncomputable def tne (n a:Nat) (t:Bool) (i:Nat) (h:Heap):Prop:=∃ f0 f1 old,Free0 f0∧IsEn h (n+1) n f0 f1 i old∧dD h t n a i∧a < n
theorem turn_enum {P:Program}{w:World}{K:PySem.W.Frag}{tg:Expr} (n a:Nat) (t:Bool):Turn P w K tg (Ite K t a) (fpz n 2) (n+1) (tne n a t) where
 mem:=dI.mpr ⟨1,by decide,rfl⟩
 obj:=fun i h st b hb=>by
  obtain⟨f0,f1,old,hf,he,i1,_⟩:=st
  obtain⟨k,hk,rfl⟩:=dI.mp hb
  have hk':k=0∨k=1:=by omega
  rcases hk' with rfl | rfl
  ·exact i1.obj
  ·exact⟨_,he,fun v z=>by cases z⟩
 keep:=fun i h h' st k=>by
  obtain⟨f0,f1,old,hf,he,i1,l⟩:=st
  have m:∀ j,j < 2→((n+j:Nat):Addr)∈fpz n 2:=fun j hj=>dI.mpr ⟨j,hj,rfl⟩
  exact⟨f0,f1,old,hf,k _ (m 1 (by decide)) _ he,i1.at fun o e=>k _ (m 0 (by decide)) _ e,l⟩
 item:=by
  intro X hP hw hK hc i pins s σ H E I hf st hg
  subst hP hw hK
  obtain⟨f0,f1,old,f,he,i1,l1⟩:=st
  obtain⟨xs,x,q1,hx⟩:=hg
  obtain⟨us,r1,p1,_⟩:=I.src q1
  obtain⟨u,hu,ru⟩:=r1.get hx
  refine pyNext_enum he (enum_next f he i1 p1 l1 (by simpa using hu) fun T h' f0' f1' old' hT f' he' i1' hTp hk=>?_)
  refine⟨_,rfl,letGo_enum (s:={ s with heap:=h',toks:=s.toks+1 }) f' he' fun h'' f0'' f'' he'' hs=>?_⟩
  replace hs:Heap.SameBut (n+1) h' h'':=hs
  have hTn:n+1 < T:=Nat.lt_of_lt_of_le (Heap.lt_size he) hT
  have hTp':d8 h'' T #[.int i s.toks,u]:=ex hs (by omega) hTp
  have IT:Inv X pins σ (upd H T (.tup [.int i,x])) { s with heap:=h'',toks:=s.toks+1 }:=I.turnedT (fp:=fpz n 2) hf (fun b o hb e=>ex (c:=b) hs (by have:=not_fpz (b:=b) hb (by decide);have:n+(2 - 1)=n+1:=rfl;omega) (hk b o (not_fpz (b:=b) hb (by decide)) e)) hT (its:=[.int i s.toks,u]) (.cons ⟨_,rfl⟩ (.cons ru .nil)) (by show 2≤sizeLine;decide) ⟨_,hTp',rfl,_,rfl⟩
  have he2:IsEn h'' (n+1) n f0'' f1' ((i+1:Nat):Int) old':=by
   have:((i+1:Nat):Int)=(i:Int)+1:=by push_cast;rfl
   rw[this];exact he''
  refine⟨.ref T,upd H T (.tup [.int i,x]),IT,rfl,⟨T,x,I.hok.fresh hT,rfl,fun as q=>by rw[I.src_inj q q1];exact hx,rfl⟩,⟨f0'',f1',old',f'',he2,i1'.ext hs (by omega),l1⟩,fun b hb=>?_⟩
  ·obtain⟨j,hj,rfl⟩:=dI.mp hb
   rw[aQ (show ((n+j:Nat):Addr)≠T from (show @Ne Nat (n+j) T by omega))]
   exact (hf _ hb).1
 done:=by
  intro X hP hw hK hc i pins s σ H E I hf st hg
  subst hP hw hK
  obtain⟨f0,f1,old,f,he,i1,l1⟩:=st
  obtain⟨xs,q1,hend⟩:=hg
  obtain⟨us,r1,p1,_⟩:=I.src q1
  have e1:=r1.length
  refine pyNext_enum he (enum_end (I.ok.hd hc) he i1 p1 (by simp;omega) fun h' e hk he=>?_)
  obtain⟨o,ho,hcl⟩:=he
  exact⟨⟨e,o,rfl,ho,hcl⟩,rfl,I.turnedL (t':=s.toks) hf fun b o hb q=>hk b o (not_fpz (b:=b) hb (by decide)) q⟩
 self:=fun _ _ _ _ _ st h=>by
  obtain⟨f0,f1,old,f,he,_⟩:=st
  exact pyIter_enum he h
section
variable {X:Cx}{tg:Expr}
theorem boot_zip:bootBuiltins "zip" = some (.type "zip"):=by decide +kernel
theorem boot_enum:bootBuiltins "enumerate" = some (.type "enumerate"):=by decide +kernel
noncomputable def iZip2 (K:PySem.W.Frag) (ta:TA):TI:=fun σ H R=>ta σ H fun vs H1=>∃ t1 t2 a1 a2,vs=[.ref a1,.ref a2]∧(∃ xs,SqB K H1 t1 a1 xs)∧(∃ xs,SqB K H1 t2 a2 xs)∧R (Itz2 K t1 t2 a1 a2) H1
noncomputable def iZip3 (K:PySem.W.Frag) (ta:TA):TI:=fun σ H R=>ta σ H fun vs H1=>∃ t1 t2 t3 a1 a2 a3,vs=[.ref a1,.ref a2,.ref a3]∧(∃ xs,SqB K H1 t1 a1 xs)∧(∃ xs,SqB K H1 t2 a2 xs)∧(∃ xs,SqB K H1 t3 a3 xs)∧R (Itz3 K t1 t2 t3 a1 a2 a3) H1
noncomputable def iEnum (K:PySem.W.Frag) (ta:TA):TI:=fun σ H R=>ta σ H fun vs H1=>∃ t a,vs=[.ref a]∧(∃ xs,SqB K H1 t a xs)∧R (Ite K t a) H1
theorem pi_enum {a:Expr}{ta:TA}{p pos:Pos} (hg:Gl X "enumerate") (hm:X.mg "enumerate" = none) (ha:PA X [a] ta) (hs:starEach [a] X.env=[(false,eval a X.env)]:=by rfl):PI X tg (.Call (.Name "enumerate" p) [a] [] pos) (iEnum X.K ta):=by
 intro pins s σ H R I h
 refine Call_ (ld_blt I hg hm boot_enum (PyProof.Rows.callWith_type1 (d0 (ha pos pins s σ H _ I h) fun us s1 ⟨vs,H1,I1,r1,q1⟩=>?_) hs rfl))
 obtain⟨t,a1,e,⟨xs,hq⟩,q⟩:=q1
 subst e
 cases r1 with
 | cons r rr=>
  cases rr
  cases r
  obtain⟨its,rv,p,hz⟩:=I1.src hq
  refine call_enum p fun h' he i1 hk=>?_
  refine pyIter_enum (s:={ s1 with heap:=h' }) he ?_
  refine⟨_,fpz s1.heap.objs.size 2,tne s1.heap.objs.size a1 t,_,H1,rfl,I1.kept (t':=s1.toks) hk,turn_enum _ _ _,⟨.none,false,.none,.inl rfl,he,i1,p.lt⟩,fun b hb=>?_,q⟩
  obtain⟨k,_,rfl⟩:=dI.mp hb
  exact I1.fpOk (Nat.le_add_right _ _) (I1.hok.fresh (Nat.le_add_right _ _))
theorem pi_zip2 {a b:Expr}{ta:TA}{p pos:Pos} (hg:Gl X "zip") (hm:X.mg "zip" = none) (ha:PA X [a,b] ta) (hs:starEach [a,b] X.env=[(false,eval a X.env),(false,eval b X.env)]:=by rfl) (hs2:starEach [b] X.env=[(false,eval b X.env)]:=by rfl) :
  PI X tg (.Call (.Name "zip" p) [a,b] [] pos) (iZip2 X.K ta):=by
 intro pins s σ H R I h
 refine Call_ (ld_blt I hg hm boot_zip (PyProof.Rows.callWith_type1 (d0 (ha pos pins s σ H _ I h) fun us s1 ⟨vs,H1,I1,r1,q1⟩=>?_) (by rw[hs,hs2]) (by rw[hs2];rfl)))
 obtain⟨t1,t2,a1,a2,e,⟨xs,hq1⟩,⟨ys,hq2⟩,q⟩:=q1
 subst e
 cases r1 with
 | cons r rr=>
  cases rr with
  | cons r' rr=>
   cases rr
   cases r
   cases r'
   obtain⟨its,rv,p1,hz⟩:=I1.src hq1
   obtain⟨its2,rv2,p2,hz2⟩:=I1.src hq2
   refine call_zip2 p1 p2 fun h' hz' hTI hTO i1 i2 hk=>?_
   refine pyIter_zip (s:={ s1 with heap:=h' }) hz' ?_
   refine⟨_,fpz s1.heap.objs.size 5,tnz2 s1.heap.objs.size a1 a2 t1 t2,_,H1,rfl,I1.kept (t':=s1.toks) hk,turn_zip2 _ _ _ _ _,⟨.none,false,_,_,.inl rfl,hz',hTI,hTO,i1,i2,p1.lt,p2.lt⟩,fun b hb=>?_,q⟩
   obtain⟨k,_,rfl⟩:=dI.mp hb
   exact I1.fpOk (Nat.le_add_right _ _) (I1.hok.fresh (Nat.le_add_right _ _))
theorem pi_zip3 {a b c:Expr}{ta:TA}{p pos:Pos} (hg:Gl X "zip") (hm:X.mg "zip" = none) (ha:PA X [a,b,c] ta) (hs:starEach [a,b,c] X.env=[(false,eval a X.env),(false,eval b X.env),(false,eval c X.env)]:=by rfl)
  (hs2:starEach [b,c] X.env=[(false,eval b X.env),(false,eval c X.env)]:=by rfl) :
  PI X tg (.Call (.Name "zip" p) [a,b,c] [] pos) (iZip3 X.K ta):=by
 intro pins s σ H R I h
 refine Call_ (ld_blt I hg hm boot_zip (PyProof.Rows.callWith_type1 (d0 (ha pos pins s σ H _ I h) fun us s1 ⟨vs,H1,I1,r1,q1⟩=>?_) (by rw[hs,hs2]) (by rw[hs2];rfl)))
 obtain⟨t1,t2,t3,a1,a2,a3,e,⟨xs,hq1⟩,⟨ys,hq2⟩,⟨zs,hq3⟩,q⟩:=q1
 subst e
 cases r1 with
 | cons r rr=>
  cases rr with
  | cons r' rr=>
   cases rr with
   | cons r'' rr=>
    cases rr
    cases r
    cases r'
    cases r''
    obtain⟨its,rv,p1,hz⟩:=I1.src hq1
    obtain⟨its2,rv2,p2,hz2⟩:=I1.src hq2
    obtain⟨its3,rv3,p3,hz3⟩:=I1.src hq3
    refine call_zip3 p1 p2 p3 fun h' hz' hTI hTO i1 i2 i3 hk=>?_
    refine pyIter_zip (s:={ s1 with heap:=h' }) hz' ?_
    refine⟨_,fpz s1.heap.objs.size 6,tnz3 s1.heap.objs.size a1 a2 a3 t1 t2 t3,_,H1,rfl,I1.kept (t':=s1.toks) hk,turn_zip3 _ _ _ _ _ _ _,⟨.none,false,_,_,_,.inl rfl,hz',hTI,hTO,i1,i2,i3,p1.lt,p2.lt,p3.lt⟩,fun b hb=>?_,q⟩
    obtain⟨k,_,rfl⟩:=dI.mp hb
    exact I1.fpOk (Nat.le_add_right _ _) (I1.hok.fresh (Nat.le_add_right _ _))
end
end L2
namespace L2
open PySem PySem.Spec PyProof.Rows TwZ
section
variable {prog:Program}{w:World}{A:Around}{E:Value→Shared→Prop}{s:Shared}{l:Addr}{xs:Array (Int×Tok)}
theorem sum_intTup {Q:Value→Shared→Prop} (hh:A.handled=none) (hl:s.heap.IsTuple l (intItems xs))
  (h:∀ h' tk t',(∀ b o,s.heap.get? b=some o→h'.get? b=some o)→Q (.int (preSum (numAt xs) xs.size) t') { s with heap:=h',toks:=tk }) :
  wpAny (model prog w) A (call (.builtin "sum") [.ref l]) Q E s:=by
 have hlt:l < s.heap.objs.size:=by obtain⟨_,e,_⟩:=hl;exact Heap.lt_size e
 refine call_sum_walkG (wpAny_pyIter_tuple hl ?_)
 refine⟨_,_,_,_,_,_,numAt xs,rfl,Walks.tuple (A:=A.in1) hh _ l (Nat.ne_of_lt hlt) (intItems xs),⟨⟨_,Heap.get?_push_size _ rfl,rfl,rfl⟩,hl.push _⟩,fun b hb=>?_,(fun _ _=>intItems_at),fun h' tk t' hk=>?_⟩
 ·show b < (s.heap.push _).objs.size
  rw[Heap.size_push]
  rcases List.mem_cons.mp hb with rfl | hb
  ·exact Nat.lt_succ_self _
  ·rcases List.mem_cons.mp hb with rfl | hb
   ·exact Nat.lt_succ_of_lt hlt
   ·cases hb
 ·have:=h h' tk t' (fun b o e=>hk b o (fun hm=>by rw[List.mem_singleton.mp hm] at e;exact Nat.lt_irrefl _ (Heap.lt_size e)) (Heap.get?_push_of_some _ e))
  simpa [intItems] using this
theorem sum_intSrc {t:Bool}{vs:List Value}{ns:List Int}{Q:Value→Shared→Prop} (hh:A.handled=none) (hl:cG s.heap t l vs.toArray) (hi:IntsAre vs ns)
  (h:∀ h' tk t',(∀ b o,s.heap.get? b=some o→h'.get? b=some o)→Q (.int ns.sum t') { s with heap:=h',toks:=tk }) :
  wpAny (model prog w) A (call (.builtin "sum") [.ref l]) Q E s:=by
 obtain⟨xs,hx⟩:=hi.allInts.items
 have hn:numsOf vs.toArray.toList=ns:=by rw[show vs.toArray.toList=vs from rfl,hi.numsOf]
 rw[hx] at hl hn
 rw[nums_intItems] at hn
 have e:preSum (numAt xs) xs.size=ns.sum:=by rw[preSum_eq,List.take_of_length_le (by simp),hn]
 cases t with
 | true=>exact sum_intTup hh hl fun h' tk t' hk=>by rw[e];exact h h' tk t' hk
 | false=>exact sum_intListG hh hl fun h' tk t' hk=>by rw[e];exact h h' tk t' hk
end
section
variable {X:Cx}
noncomputable def rSum (K:PySem.W.Frag):List V→Hp→VK→Prop:=fun xs H Q=>∃ (t:Bool) (p:Addr) (ns:List Int),xs=[.ref p]∧SqB K H t p (ns.map V.int)∧Q (.int ns.sum) H
theorem call_sumB (hc:X.calm=true):eJ X (.builtin "sum") (rSum X.K):=by
 intro pins s σ H xs us Q I r h
 obtain⟨t,p,ns,rfl,hq,q⟩:=h
 obtain⟨u,rfl,ru⟩:=r.one
 cases ru
 obtain⟨its,rv,p1,hz⟩:=I.src hq
 refine sum_intSrc (I.ok.hd hc) p1 (intsAre_of rv) fun h' tk t' hk=>⟨.int ns.sum,H,I.kept hk,⟨t',rfl⟩,q⟩
noncomputable def TyS (K:PySem.W.Frag) (H:Hp) (x:V) (t:Value):Prop:=TyOf K H x t∨∃ a ys,x=.ref a∧bR K H a ys∧t=.type "tuple"
noncomputable def rIsi (K:PySem.W.Frag):List V→Hp→VK→Prop:=fun xs H Q=>∃ x T t b,xs=[x,.ty T]∧TyS K H x t∧PySem.W.kitOne K t (.type T)=some b∧Q (.bl b) H
theorem call_isi:eJ X (.builtin "isinstance") (rIsi X.K):=by
 intro pins s σ H xs us Q I r h
 obtain⟨x,T,t,b,rfl,ty,e,q⟩:=h
 obtain⟨u,v,rfl,ru,rv⟩:=r.two
 cases rv
 rcases ty with ty | ⟨a,ys,rfl,hq,rfl⟩
 ·exact isinst_ok I ru ty e fun tk=>⟨.bl b,H,I.tok tk,rfl,q⟩
 ·cases (show u=Value.ref a from ru)
  obtain⟨its,rv',⟨o,h1,h2,_⟩,_⟩:=I.tuple hq
  exact PySem.W.kia_one PySem.W.kitx_tuple I.kIn ⟨o,h1,h2⟩ e (fun z=>nomatch z) fun tk=>⟨.bl b,H,I.tok tk,rfl,q⟩
end
theorem noFill_tuple_mul:fillsNumberSlot (.type "tuple") "mul" = pure false:=
 PySem.fillsNumberSlot_seq (id := "tuple.__mul__") (r:=some (.builtin "tuple.__rmul__")) F.slot_tuple_mul.lookup (by decide +kernel) F.slot_tuple_rmul.lookup (by decide +kernel)
theorem repeat_tuple:seqRepeat? (.type "tuple")=pure (some (.builtin "tuple.__mul__")):=by
 unfold seqRepeat?
 rw[PySem.seqSlot_of (T := "tuple") (name := "__mul__") (id := "tuple.__mul__") F.slot_tuple_mul.lookup (by decide +kernel),PySem.seqSlot_of (T := "tuple") (name := "__rmul__") (id := "tuple.__rmul__") F.slot_tuple_rmul.lookup (by decide +kernel)]
 rfl
theorem int_rmul_tuple (a:Int) (t:Tok) (l:Addr) (items:Array Value) (n:Nat) (dd:Option Addr) (sl:Array (Option Value)) :
  Meets (Builtin.«int.__rmul__» ⟨[.int a t,.ref l],[]⟩) (fun _ R s=>s.heap.get? l=some { cls:=.type "tuple",dict:=dd,data:=.seq items n,slots:=sl }∧R (.ok (.ret Value.notImplemented)) s):=
 .of_wp fun prog w A R s h=>by obtain⟨hp,g,d,tk,os⟩:=s;obtain⟨hl,h⟩:=h;wp_walk;exact⟨_,rfl,h⟩
theorem tuple_mul_one (l:Addr) (items:Array Value) (n:Nat) (u:Tok) (dd:Option Addr) (sl:Array (Option Value)) :
  Meets (Builtin.«tuple.__mul__» ⟨[.ref l,.int 1 u],[]⟩) (fun _ R s=>s.heap.get? l=some { cls:=.type "tuple",dict:=dd,data:=.seq items n,slots:=sl }∧R (.ok (.ret (.ref l))) s):=
 .of_wp fun prog w A R s h=>by
  obtain⟨hp,g,d,tk,os⟩:=s;obtain⟨hl,h⟩:=h
  have c1:(items.isEmpty || (1:Int) == 1)=true:=by simp
  wp_walk
  exact⟨_,rfl,h⟩
theorem tuple_mul_many (l:Addr) (items:Array Value) (n:Nat) (x:Int) (u:Tok) (dd:Option Addr) (sl:Array (Option Value)) (c0:¬ (decide (x < -(2 ^ 63)) || decide (x ≥ 2 ^ 63))=true) (c1:¬ (items.isEmpty || x == 1)=true)
  (c2:¬ (decide (x≤0) || items.isEmpty)=true) (c3:¬ (items.size:Int) * x > (2 ^ 63 - 1) / 8) (c4:¬ Builtin.Tuple.tupleTooMany ((items.size:Int) * x)=true) (hsz:(List.foldl (fun x1 x2=>x1++x2) #[] (List.replicate x.toNat items)).size≤sizeLine) :
  Meets (Builtin.«tuple.__mul__» ⟨[.ref l,.int x u],[]⟩) (fun _ R s=>s.heap.get? l=some { cls:=.type "tuple",dict:=dd,data:=.seq items n,slots:=sl }∧
   R (.ok (.ret (.ref s.heap.objs.size))) { s with heap:=s.heap.push { cls:=.type "tuple",data:=.seq (List.foldl (fun x1 x2=>x1++x2) #[] (List.replicate x.toNat items)) } }):=
 .of_wp fun prog w A R s h=>by
  obtain⟨hp,g,d,tk,os⟩:=s;obtain⟨hl,h⟩:=h
  wp_walk
  rw[if_neg c0]
  wp_walk
  all_goals (try rw[if_neg c1])
  wp_walk
  all_goals (try rw[if_neg c2])
  wp_walk
  all_goals (try rw[if_neg c3])
  wp_walk
  all_goals (try rw[if_neg c4])
  wp_walk
  exact⟨_,rfl,h⟩
theorem aG.tup {K:PySem.W.Frag}{H H':Hp}{a:Addr}{xs:List V} (e:aG H H') (h:bR K H a xs):bR K H' a xs:=by
 rcases h with (h | ⟨o,h⟩) | h
 ·exact .inl (.inl (e _ _ h))
 ·exact .inl (.inr ⟨o,e _ _ h⟩)
 ·exact .inr h
theorem aG.new {H:Hp}{p:Addr}{o:HO} (h:H p=none):aG H (upd H p o):=fun b u e=>by rw[aQ (aN e h)];exact e
section
variable {X:Cx}
noncomputable def rRepT (K:PySem.W.Frag):R2:=fun x y H Q=>∃ (l:Addr) (k:Int) (xs:List V),x=.ref l∧y=.int k∧bR K H l xs∧1≤k∧k < 1000000∧xs≠[]∧xs.length≤10∧
 ∀ p H',aG H H'→bR K H' p (List.replicate k.toNat xs).flatten→Q (.ref p) H'
theorem op_repT:OpR X (binaryOp .Mult) (rRepT X.K):=by
 intro pins s σ H x y v u Q I rx ry h
 obtain⟨l,k,xs,rfl,rfl,hq,h1,h2,hne,hl10,q⟩:=h
 cases rx
 obtain⟨t,rfl⟩:=ry
 obtain⟨its,r,ht,z⟩:=I.tuple hq
 have hlen:=r.length
 obtain⟨⟨cls,dd,data,sl⟩,e,hc,n,hd⟩:=id ht
 simp only at hc hd
 subst hc hd
 refine wpAny_binaryOp_repeat_ref (T := "tuple") (U := "int") (by decide) ⟨_,e,rfl⟩ (fun s'=>typeIs_int s' k t) noFill_tuple_mul F.fills_int_mul F.slot_int_rmul repeat_tuple F.slot_int_index.lookup
  (call_meets F.slot_int_rmul (typeIs_int s k t) F.entry_int_rmul (F.args_int_rmul_2 _ _) (int_rmul_tuple k t l its.toArray n dd sl) ⟨e,rfl,⟨_,e,rfl⟩,?_⟩)
 by_cases hk:k=1
 ·subst hk
  refine call_meets F.slot_tuple_mul ⟨_,e,rfl⟩ F.entry_tuple_mul (F.args_tuple_mul_2 _ _) (tuple_mul_one l its.toArray n t dd sl) ⟨e,?_⟩
  refine⟨.ref l,H,I,rfl,q l H (aG.refl H) ?_⟩
  have e1:(List.replicate (1:Int).toNat xs).flatten=xs:=by simp
  rw[e1];exact hq
 ·have hne':its≠[]:=fun z=>by rw[z] at hlen;exact hne (List.eq_nil_of_length_eq_zero hlen)
  have f0:List.foldl (fun x1 x2=>x1++x2) #[] (List.replicate k.toNat its.toArray)=(List.replicate k.toNat its).flatten.toArray:=by
   have:=foldl_rep its k.toNat []
   rw[List.nil_append] at this
   exact this
  have hemp:its.toArray.isEmpty=false:=by cases its with
   | nil=>exact absurd rfl hne'
   | cons a r=>rfl
  have hszN:k.toNat * its.length≤sizeLine:=by
   have a1:its.length≤10:=by omega
   have a2:k.toNat≤1000000:=by omega
   have:=Nat.mul_le_mul a2 a1
   rw[sizeLine_eq];omega
  have hprod:((its.toArray.size:Nat):Int) * k≤16777216:=by
   have a1:((its.toArray.size:Nat):Int)≤10:=by rw[List.size_toArray];omega
   have:=Int.mul_le_mul a1 (show k≤1000000 by omega) (by omega) (by omega)
   omega
  refine call_meets F.slot_tuple_mul ⟨_,e,rfl⟩ F.entry_tuple_mul (F.args_tuple_mul_2 _ _) (tuple_mul_many l its.toArray n k t dd sl (by simp;omega) (by rw[hemp];simp;exact hk) (by rw[hemp];simp;omega) (by omega) (by
    unfold Builtin.Tuple.tupleTooMany
    rw[decide_eq_true_iff]
    rw[sizeLine_eq]
    omega) (by rw[f0,List.size_toArray,len_rep];exact hszN)) ⟨e,?_⟩
  have I1:=I.laid (a:=s.heap.objs.size) (o:=.tup (List.replicate k.toNat xs).flatten) (h':=s.heap.push { cls:=.type "tuple",data:=.seq (List.foldl (fun x1 x2=>x1++x2) #[] (List.replicate k.toNat its.toArray)) }) (t':=s.toks)
   (fun _ _ q=>Heap.get?_push_of_some _ q) (Nat.le_refl _) ⟨by rw[len_rep,hlen];exact hszN,(List.replicate k.toNat its).flatten,r.rep k.toNat,⟨_,Heap.get?_push_size _ rfl,rfl,0,by simp only [f0]⟩⟩
  exact⟨.ref _,_,I1,rfl,q _ _ (aG.new I.fresh) (bR.of aC)⟩
end
inductive D where
 | non | bl (b:Bool) | int (i:Int) | str (x:Str) | tup (ds:List D)
mutual
noncomputable def Is (K:PySem.W.Frag) (H:Hp):D→V→Prop
 | .non,v=>v=.non
 | .bl b,v=>v=.bl b
 | .int i,v=>v=.int i
 | .str x,v=>v=.str x
 | .tup ds,v=>∃ a xs,v=.ref a∧bR K H a xs∧IsL K H ds xs
noncomputable def IsL (K:PySem.W.Frag) (H:Hp):List D→List V→Prop
 | [],xs=>xs=[]
 | d::ds,xs=>∃ x r,xs=x::r∧Is K H d x∧IsL K H ds r
end
noncomputable def cA (K:PySem.W.Frag) (H H':Hp):Prop:=∀ a xs,bR K H a xs→bR K H' a xs
theorem cA.refl {K:PySem.W.Frag} (H:Hp):cA K H H:=fun _ _ h=>h
theorem cA.trans {K:PySem.W.Frag}{H H1 H2:Hp} (a:cA K H H1) (b:cA K H1 H2):cA K H H2:=fun c xs h=>b c xs (a c xs h)
theorem aG.ts {K:PySem.W.Frag}{H H':Hp} (e:aG H H'):cA K H H':=fun _ _ h=>e.tup h
mutual
theorem Is.mono {K:PySem.W.Frag}{H H':Hp} (t:cA K H H'):∀ (d:D) (v:V),Is K H d v→Is K H' d v
 | .non,_,h=>h
 | .bl _,_,h=>h
 | .int _,_,h=>h
 | .str _,_,h=>h
 | .tup ds,v,h=>by
  rw[Is] at h ⊢
  obtain⟨a,xs,e,q,l⟩:=h
  exact⟨a,xs,e,t a xs q,IsL.mono t ds xs l⟩
theorem IsL.mono {K:PySem.W.Frag}{H H':Hp} (t:cA K H H'):∀ (ds:List D) (xs:List V),IsL K H ds xs→IsL K H' ds xs
 | [],xs,h=>h
 | d::ds,xs,h=>by
  rw[IsL] at h ⊢
  obtain⟨x,r,e,hx,hr⟩:=h
  exact⟨x,r,e,Is.mono t d x hx,IsL.mono t ds r hr⟩
end
theorem IsL.length {K:PySem.W.Frag}{H:Hp}:∀ {ds:List D}{xs:List V},IsL K H ds xs→xs.length=ds.length
 | [],xs,h=>by rw[IsL] at h;subst h;rfl
 | d::ds,xs,h=>by
  rw[IsL] at h
  obtain⟨x,r,rfl,_,hr⟩:=h
  rw[List.length_cons,List.length_cons,IsL.length hr]
theorem IsL.get {K:PySem.W.Frag}{H:Hp}:∀ {ds:List D}{xs:List V}{i:Nat}{d:D},IsL K H ds xs→ds[i]? = some d→∃ x,xs[i]? = some x∧Is K H d x
 | [],_,_,_,_,e=>by simp at e
 | d::ds,xs,0,d',h,e=>by
  rw[IsL] at h
  obtain⟨x,r,rfl,hx,hr⟩:=h
  simp at e
  subst e
  exact⟨x,rfl,hx⟩
 | d::ds,xs,i+1,d',h,e=>by
  rw[IsL] at h
  obtain⟨x,r,rfl,hx,hr⟩:=h
  obtain⟨y,h1,h2⟩:=IsL.get hr (i:=i) (by simpa using e)
  exact⟨y,by simpa using h1,h2⟩
theorem IsL.get' {K:PySem.W.Frag}{H:Hp}{ds:List D}{xs:List V}{i:Nat}{x:V} (h:IsL K H ds xs) (e:xs[i]? = some x):∃ d,ds[i]? = some d∧Is K H d x:=by
 have hl:=h.length
 have hi:i < ds.length:=by rw[← hl];exact (List.getElem?_eq_some_iff.mp e).1
 obtain⟨y,h1,h2⟩:=h.get (i:=i) (d:=ds[i]) (by simp [hi])
 rw[e] at h1
 cases h1
 exact⟨ds[i],by simp [hi],h2⟩
theorem IsL.snoc {K:PySem.W.Frag}{H:Hp}{d:D}{x:V} (hd:Is K H d x):∀ {ds:List D}{xs:List V},IsL K H ds xs→IsL K H (ds++[d]) (xs++[x])
 | [],xs,h=>by
  rw[IsL] at h
  subst h
  show IsL K H [d] [x]
  rw[IsL]
  exact⟨x,[],rfl,hd,by rw[IsL]⟩
 | d'::ds,xs,h=>by
  rw[IsL] at h
  obtain⟨y,r,rfl,hy,hr⟩:=h
  show IsL K H (d'::(ds++[d])) (y::(r++[x]))
  rw[IsL]
  exact⟨y,r++[x],rfl,hy,IsL.snoc hd hr⟩
theorem IsL.ints {K:PySem.W.Frag}{H:Hp}:∀ {ns:List Int}{xs:List V},IsL K H (ns.map D.int) xs→xs=ns.map V.int
 | [],xs,h=>by rw[List.map_nil,IsL] at h;exact h
 | n::ns,xs,h=>by
  rw[List.map_cons,IsL] at h
  obtain⟨x,r,rfl,hx,hr⟩:=h
  rw[Is] at hx
  rw[hx,IsL.ints hr,List.map_cons]
theorem IsL.of_ints {K:PySem.W.Frag}{H:Hp}:∀ (ns:List Int),IsL K H (ns.map D.int) (ns.map V.int)
 | []=>by rw[List.map_nil,List.map_nil,IsL]
 | n::ns=>by
  rw[List.map_cons,List.map_cons,IsL]
  exact⟨_,_,rfl,by rw[Is],IsL.of_ints ns⟩
theorem IsL.bools {K:PySem.W.Frag}{H:Hp}:∀ {ns:List Bool}{xs:List V},IsL K H (ns.map D.bl) xs→xs=ns.map V.bl
 | [],xs,h=>by rw[List.map_nil,IsL] at h;exact h
 | n::ns,xs,h=>by
  rw[List.map_cons,IsL] at h
  obtain⟨x,r,rfl,hx,hr⟩:=h
  rw[Is] at hx
  rw[hx,IsL.bools hr,List.map_cons]
theorem IsL.of_bools {K:PySem.W.Frag}{H:Hp}:∀ (ns:List Bool),IsL K H (ns.map D.bl) (ns.map V.bl)
 | []=>by rw[List.map_nil,List.map_nil,IsL]
 | n::ns=>by
  rw[List.map_cons,List.map_cons,IsL]
  exact⟨_,_,rfl,by rw[Is],IsL.of_bools ns⟩
mutual
noncomputable def D.depth:D→Nat
 | .tup ds=>eQ ds+1
 | _=>0
noncomputable def eQ:List D→Nat
 | []=>0
 | d::ds=>max d.depth (eQ ds)
end
section
variable {X:Cx}{pins:List (Addr×Obj)}{σ:St}{H:Hp}{s:Shared}
end
section
variable {X:Cx}
noncomputable def rIndex:V→List V→Hp→VK→Prop:=fun x vs H Q=>∃ (l:Addr) (xs:List V) (y:V) (j:Nat),x=.ref l∧vs=[y]∧H l=some (.lst xs)∧flatV y=true∧xs.all flatV=true∧j < xs.length∧(∀ z,xs[j]? = some z→eqV z y=true)∧(∀ i z,i < j→xs[i]? = some z→eqV z y=false)∧Q (.int j) H
theorem mt_index:MtM X "list.index" rIndex:=by
 intro pins s σ H x vs v us Q I rx rv h
 obtain⟨l,xs,y,j,rfl,rfl,hH,fy,fx,hj,h1,h2,q⟩:=h
 cases rx
 obtain⟨u,rfl,ru⟩:=rv.one
 obtain⟨z,its,n,r,hl,e⟩:=I.lstM hH
 have key:∀ i (hi:i < its.length),∃ x,xs[i]? = some x∧bS x its[i]∧flatV x=true:=fun i hi=>by
  have hx:xs[i]? = some xs[i]:=by simp [show i < xs.length by omega]
  obtain⟨w',h1,h2⟩:=r.get hx
  have:its[i]? = some its[i]:=by simp [hi]
  rw[this] at h1
  cases h1
  exact⟨_,hx,h2,(List.all_eq_true.mp fx) _ (List.getElem_mem _)⟩
 refine call_meets F.slot_list_index ⟨_,e,rfl⟩ F.entry_list_index (F.args_list_index_2 _ _)
  (SeqAt.list_indexAt l its.toArray n none #[] u (eqU y) j (by rw[List.size_toArray];omega) (by rw[sizeLine_eq] at z;omega) ?_ ?_) ⟨e,fun w' hw=>?_,⟨.int j,H,I.tok _,⟨_,rfl⟩,q⟩⟩
 ·obtain⟨x,hx,rx,fx'⟩:=key j (by omega)
  have:=eqU_of (x:=y) rx fx'
  show eqU y its[j]=true
  rw[this]
  exact h1 x hx
 ·intro i hi hlt
  have hi':i < its.length:=by simpa using hi
  obtain⟨x,hx,rx,fx'⟩:=key i hi'
  have:=eqU_of (x:=y) rx fx'
  show eqU y its[i]=false
  rw[this]
  exact h2 i x hlt hx
 ·exact mem_eqAt ru fy r fx w' (by simpa using hw)
end
end L2
namespace L2
open PySem PySem.Spec PyProof.Rows TwZ
structure Callee (P:Program) (w:World) (K:PySem.W.Frag) (mg:Str→Option Value) (base:Heap) (x:Str) (ps:List Str) (k:Nat) (sp:Sp) (f:Addr) (fd:FuncData):Prop where
 ok:FnOk P w K mg base CX0 k f fd ps sp
 mg:mg x=some (.ref f)
 kp:PySem.W.keepIn K (.ref f)=true
 bd:Binds K fd ps []
theorem dZ {X:Cx}{x:Str}{ps:List Str}{k n:Nat}{sp:Sp}{f:Addr}{fd:FuncData}{e:Expr}{es:List Expr}{t:TA}{p pos:Pos} (G:Callee X.prog X.w X.K X.mg X.base x ps k sp f fd) (hr:Room n X.A) (ha:PA X (e::es) t) (hg:Gl X x:=by rfl) (hle:k≤n:=by decide)
  (hdb:(x == ("__debug__" : Str))=false:=by decide) (he:starEach (e::es) X.env=(false,eval e X.env)::starEach es X.env:=by rfl) (hpl:(backTo pos (starEach es X.env)).any (·.1)=false:=by rfl) :
  PE X (.Call (.Name x p) (e::es) [] pos) (tCall sp [] E0 t):=eG G.ok (hr.mono hle) hg G.mg G.kp G.bd .nil pass0 ha hdb he hpl
theorem boot_isi:bootBuiltins "isinstance" = some (.builtin "isinstance"):=by decide +kernel
noncomputable def fC (t:Addr) (H H':Hp):Prop:=∀ b o,b≠t→H b=some o→H' b=some o
theorem fC.refl {t:Addr} (H:Hp):fC t H H:=fun _ _ _ h=>h
theorem fC.trans {t:Addr}{H H1 H2:Hp} (a:fC t H H1) (b:fC t H1 H2):fC t H H2:=fun c o hc h=>b c o hc (a c o hc h)
theorem aG.but {t:Addr}{H H':Hp} (a:aG H H'):fC t H H':=fun b o _ h=>a b o h
theorem fC.upd {t:Addr}{H:Hp}{o:HO}:fC t H (upd H t o):=fun b u hb h=>by rw[aQ hb];exact h
theorem fC.ts {K:PySem.W.Frag}{t:Addr}{H H':Hp} (a:fC t H H') (hm:Mut (H t)):cA K H H':=by
 intro b xs h
 have ne:∀ {o:HO},H b=some o→¬ Mut (some o)→b≠t:=fun e n z=>by rw[← z,e] at hm;exact n hm
 rcases h with (h | ⟨o,h⟩) | h
 ·exact .inl (.inl (a _ _ (ne h (fun z=>z)) h))
 ·exact .inl (.inr ⟨o,a _ _ (ne h (fun z=>z)) h⟩)
 ·exact .inr h
theorem fC.free {t l:Addr}{H H':Hp} (a:fC t H H') (hl:l≠t) (h:H' l=none):H l=none:=by
 cases q:H l with
 | none=>rfl
 | some o=>rw[a l o hl q] at h;cases h
noncomputable def rGetL (K:PySem.W.Frag):V→V→Hp→VK→Prop:=fun o i H Q=>∃ (p:Addr) (xs:List V) (k:Int) (v:V),o=.ref p∧i=.int k∧bT K H p xs∧0≤k∧k < 2 ^ 63∧xs[k.toNat]? = some v∧Q v H
theorem get_list {X:Cx}:PGet X (rGetL X.K):=by
 intro pins s σ H o i ov iv Q I ro ri h
 obtain⟨p,xs,k,v,rfl,rfl,hq,h0,h1,hx,q⟩:=h
 cases ro
 obtain⟨t,rfl⟩:=ri
 obtain⟨its,r,pl,hz⟩:=I.list hq
 obtain⟨w',ew,rw'⟩:=r.get hx
 exact wpAny_getItem_list pl.isList h0 h1 (by simpa using ew) ⟨v,H,I,rw',q⟩
theorem ixN_nat {n:Nat}{k:Int} (h0:0≤k) (h1:k < n):ixN n k=some k.toNat:=by
 unfold ixN
 rw[if_pos h0,if_pos h1]
theorem atI_int {α:Type}{xs:List α}{k:Int}{v:α} (h0:0≤k) (h:xs[k.toNat]? = some v):atI xs k=some v:=by
 obtain⟨j,rfl⟩:=Int.eq_ofNat_of_zero_le h0
 exact cT (by simpa using h)
theorem Is.tupOf {K:PySem.W.Frag}{H:Hp}{ds:List D}{a:Addr}{xs:List V} (q:bR K H a xs) (l:IsL K H ds xs):Is K H (.tup ds) (.ref a):=by
 rw[Is];exact⟨a,xs,rfl,q,l⟩
theorem Is.un {K:PySem.W.Frag}{H:Hp}{ds:List D}{v:V} (h:Is K H (.tup ds) v):∃ a xs,v=.ref a∧bR K H a xs∧IsL K H ds xs:=by
 rw[Is] at h;exact h
theorem IsL.un {K:PySem.W.Frag}{H:Hp}{d:D}{ds:List D}{xs:List V} (h:IsL K H (d::ds) xs):∃ x r,xs=x::r∧Is K H d x∧IsL K H ds r:=by
 rw[IsL] at h;exact h
theorem IsL.un0 {K:PySem.W.Frag}{H:Hp}{xs:List V} (h:IsL K H [] xs):xs=[]:=by
 rw[IsL] at h;exact h
theorem IsL.cons {K:PySem.W.Frag}{H:Hp}{d:D}{ds:List D}{x:V}{xs:List V} (hd:Is K H d x) (h:IsL K H ds xs):IsL K H (d::ds) (x::xs):=by
 rw[IsL];exact⟨x,xs,rfl,hd,h⟩
theorem IsL.nil {K:PySem.W.Frag}{H:Hp}:IsL K H [] []:=by rw[IsL]
theorem Is.i {K:PySem.W.Frag}{H:Hp} (i:Int):Is K H (.int i) (.int i):=by rw[Is]
theorem Is.b {K:PySem.W.Frag}{H:Hp} (i:Bool):Is K H (.bl i) (.bl i):=by rw[Is]
theorem Is.s {K:PySem.W.Frag}{H:Hp} (i:Str):Is K H (.str i) (.str i):=by rw[Is]
theorem Is.n {K:PySem.W.Frag}{H:Hp}:Is K H .non .non:=by rw[Is]
theorem Is.ui {K:PySem.W.Frag}{H:Hp}{i:Int}{v:V} (h:Is K H (.int i) v):v=.int i:=by rw[Is] at h;exact h
theorem Is.ub {K:PySem.W.Frag}{H:Hp}{i:Bool}{v:V} (h:Is K H (.bl i) v):v=.bl i:=by rw[Is] at h;exact h
theorem Is.us {K:PySem.W.Frag}{H:Hp}{i:Str}{v:V} (h:Is K H (.str i) v):v=.str i:=by rw[Is] at h;exact h
theorem Is.u0 {K:PySem.W.Frag}{H:Hp}{v:V} (h:Is K H .non v):v=.non:=by rw[Is] at h;exact h
end L2
namespace Tw
open PySem L2
structure Vs where
 size:Int
 brim:Int
 outs:List (Option Int×Int)
 holds:Bool
 spill:Option Int
 acts:List (Str×Int)
noncomputable abbrev Spt:=Int×Int×Bool
structure Net where
 vs:List Vs
 sps:List Spt
noncomputable def tgD:Option Int→D
 | none=>.non
 | some i=>.int i
noncomputable def tgV:Option Int→V
 | none=>.non
 | some i=>.int i
noncomputable def outD (o:Option Int×Int):D:=.tup [tgD o.1,.int o.2]
noncomputable def actD (a:Str×Int):D:=.tup [.str a.1,.int a.2]
noncomputable def vsD (v:Vs):D:=.tup [.int v.size,.int v.brim,.tup (v.outs.map outD),.bl v.holds,tgD v.spill,.tup (v.acts.map actD)]
noncomputable def spD (s:Spt):D:=.tup [.int s.1,.int s.2.1,.bl s.2.2]
noncomputable def netD (n:Net):D:=.tup [.tup (n.vs.map vsD),.tup (n.sps.map spD)]
noncomputable def stD (held coming:List Int) (doors:List Bool):D:=.tup [.tup (held.map D.int),.tup (coming.map D.int),.tup (doors.map D.bl)]
theorem Is.tg {K:PySem.W.Frag}{H:Hp}{t:Option Int}{v:V} (h:Is K H (tgD t) v):v=tgV t:=by
 cases t with
 | none=>exact h.u0
 | some i=>exact h.ui
theorem Is.tgOf {K:PySem.W.Frag}{H:Hp} (t:Option Int):Is K H (tgD t) (tgV t):=by
 cases t with
 | none=>exact Is.n
 | some i=>exact Is.i i
structure OutOk (n:Nat) (o:Option Int×Int):Prop where
 tg:∀ t,o.1=some t→0≤t∧t < n
 lo:1≤o.2
 hi:o.2≤60
structure ActOk (m:Nat) (a:Str×Int):Prop where
 word:a.1 = "open" ∨ a.1 = "shut" ∨ a.1 = "turn"
 lo:0≤a.2
 hi:a.2 < m
structure VOk (n m:Nat) (v:Vs):Prop where
 size:1≤v.size
 ne:v.outs≠[]
 o3:v.outs.length≤3
 outs:∀ o∈v.outs,OutOk n o
 spill:∀ t,v.spill=some t→0≤t∧t < n
 a3:v.acts.length≤3
 acts:∀ a∈v.acts,ActOk m a
structure NetOk (net:Net):Prop where
 lo:1≤net.vs.length
 hi:net.vs.length≤12
 sp:net.sps.length≤12
 vs:∀ v∈net.vs,VOk net.vs.length net.sps.length v
 sps:∀ s∈net.sps,0≤s.1∧s.1 < net.vs.length
noncomputable def whole (outs:List (Option Int×Int)):Int:=(outs.map (·.2)).sum
theorem whole_pos {n:Nat}:∀ {outs:List (Option Int×Int)},outs≠[]→(∀ o∈outs,OutOk n o)→1≤whole outs
 | [],h,_=>absurd rfl h
 | o::r,_,h=>by
  have h1:=(h o List.mem_cons_self).lo
  have h2:0≤whole r:=by
   clear h1
   have:∀ (r:List (Option Int×Int)),(∀ o∈r,OutOk n o)→0≤whole r:=by
    intro r
    induction r with
    | nil=>intro _;exact Int.le_refl _
    | cons o r ih=>
     intro h
     have h1:=(h o List.mem_cons_self).lo
     have h2:=ih fun o ho=>h o (List.mem_cons_of_mem _ ho)
     show 0≤o.2+whole r
     omega
   exact this r fun o ho=>h o (List.mem_cons_of_mem _ ho)
  show 1≤o.2+whole r
  omega
theorem whole_le {n:Nat}:∀ {outs:List (Option Int×Int)},(∀ o∈outs,OutOk n o)→whole outs≤60 * outs.length
 | [],_=>Int.le_refl _
 | o::r,h=>by
  have h1:=(h o List.mem_cons_self).hi
  have h2:=whole_le fun o ho=>h o (List.mem_cons_of_mem _ ho)
  show o.2+whole r≤_
  rw[List.length_cons]
  omega
noncomputable def b0 (k:Option Int):List (Option Int×Int)→Int
 | []=>0
 | g::r=>(if g.1=k then g.2 else 0)+b0 k r
theorem cK (k:Option Int):∀ (a b:List (Option Int×Int)),b0 k (a++b)=b0 k a+b0 k b
 | [],b=>by simp [b0]
 | g::r,b=>by
  show (if g.1=k then g.2 else 0)+b0 k (r++b)=(if g.1=k then g.2 else 0)+b0 k r+b0 k b
  rw[cK k r b];omega
noncomputable def bI (v:Vs) (has:Int):Int:=min has v.brim
noncomputable def dS (v:Vs) (has:Int):Bool:=decide (v.size≤bI v has)
noncomputable def eN (v:Vs) (here:Int):List (Option Int×Int):=v.outs.map fun o=>(o.1,here / whole v.outs * o.2)
noncomputable def cR (v:Vs) (has:Int):List (Option Int×Int):=
 (v.spill,has - bI v has)::(if dS v has=true then eN v (bI v has)++(if v.holds=true then [] else [(none,bI v has % whole v.outs)]) else [])
noncomputable def d9 (v:Vs) (has:Int):Int:=if dS v has=true then (if v.holds=true then bI v has % whole v.outs else 0) else bI v has
theorem vGoes_len {n m:Nat}{v:Vs} (ok:VOk n m v) (has:Int):(cR v has).length≤5:=by
 unfold cR eN
 have:=ok.o3
 split
 ·split <;> simp <;> omega
 ·simp
noncomputable def fill1 (has:List Int) (s:Spt) (d:Bool):List Int:=if d=true then has.set s.1.toNat (has.getD s.1.toNat 0+s.2.1) else has
noncomputable def eZ:List Int→List Spt→List Bool→List Int
 | has,s::ss,d::ds=>eZ (fill1 has s d) ss ds
 | has,_,_=>has
noncomputable def add3:List Int→List Int→List Int→List Int
 | a::as,b::bs,c::cs=>(a+b+c)::add3 as bs cs
 | _,_,_=>[]
noncomputable def aM (net:Net) (held coming poured:List Int) (doors:List Bool):List Int:=eZ (add3 held coming poured) net.sps doors
noncomputable def bN:List Vs→List Int→List (Option Int×Int)
 | v::vs,h::hs=>cR v h++bN vs hs
 | _,_=>[]
noncomputable def cE:List Vs→List Int→List Int
 | v::vs,h::hs=>d9 v h::cE vs hs
 | _,_=>[]
noncomputable def aX:Nat→List Vs→List Int→List Nat
 | i,v::vs,h::hs=>if dS v h=true then i::aX (i+1) vs hs else aX (i+1) vs hs
 | _,_,_=>[]
noncomputable def act1 (doors:List Bool) (a:Str×Int):List Bool:=doors.set a.2.toNat (if a.1 = "open" then true else if a.1 = "turn" then !(doors.getD a.2.toNat false) else false)
noncomputable def d6 (doors:List Bool) (as:List (Str×Int)):List Bool:=as.foldl act1 doors
noncomputable def bO (vs:List Vs) (doors:List Bool) (tip:List Nat):List Bool:=tip.foldl (fun ds i=>match vs[i]? with | some v=>d6 ds v.acts | none=>ds) doors
noncomputable def cN (n:Nat) (goes:List (Option Int×Int)):List Int:=(List.range n).map fun (k:Nat)=>b0 (some (k:Int)) goes
structure Tick where
 held:List Int
 coming:List Int
 doors:List Bool
 tip:List Nat
 ground:Int
noncomputable def cF (net:Net) (held coming poured:List Int) (doors:List Bool):Tick:=
 let hs:=aM net held coming poured doors
 ⟨cE net.vs hs,cN net.vs.length (bN net.vs hs),bO net.vs doors (aX 0 net.vs hs),aX 0 net.vs hs,b0 none (bN net.vs hs)⟩
end Tw
namespace Tw
open PySem L2
noncomputable def bE (i:Nat):Stmt:=PySem.Challenge.pw_tipwell_k08_whole_tips_for_ever.main.body.getD i (.Pass ⟨0,0,0,0⟩)
structure Txt (mg:Str→Option Value):Prop where
 b_len:mg "len" = none
 b_sum:mg "sum" = none
 b_all:mg "all" = none
 b_max:mg "max" = none
 b_min:mg "min" = none
 b_int:mg "int" = none
 b_tuple:mg "tuple" = none
 b_list:mg "list" = none
 b_bool:mg "bool" = none
 b_range:mg "range" = none
 b_zip:mg "zip" = none
 b_enumerate:mg "enumerate" = none
 b_isinstance:mg "isinstance" = none
 b_divmod:mg "divmod" = none
 b_set:mg "set" = none
 b_sorted:mg "sorted" = none
noncomputable def keyO:Option Int→Key
 | none=>.inr none
 | some i=>.inl i
theorem keyO_V (k:Option Int):kV (keyO k)=tgV k:=by cases k <;> rfl
theorem keyO_inj {a b:Option Int} (h:keyO a=keyO b):a=b:=by
 cases a <;> cases b <;> simp_all [keyO]
noncomputable def DictG (H:Hp) (d:Addr) (gs:List (Option Int×Int)):Prop:=
 ∃ kvs:List (Key×V),H d=some (.dK kvs)∧kvs.length≤gs.length∧∀ k:Option Int,(dY kvs (keyO k)).getD (.int 0)=.int (b0 k gs)
theorem DictG.mut {H:Hp}{d:Addr}{gs:List (Option Int×Int)} (h:DictG H d gs):Mut (H d):=by
 obtain⟨kvs,e,_⟩:=h;rw[e];exact trivial
section
variable {P:Program}{w:World}{K:PySem.W.Frag}{mg:Str→Option Value}{base:Heap}
noncomputable def spSend:Sp:=fun vs H Q _=>∃ (d:Addr) (t:Option Int) (a:Int) (gs:List (Option Int×Int)),vs=[.ref d,tgV t,.int a]∧DictG H d gs∧gs.length≤1000∧
 ∀ H',fC d H H'→DictG H' d (gs++[(t,a)])→Q .non H'
theorem sc_send:FnScope ["sent","target","amount"] ["sent","target","amount"] (aJ (bE 14)):=⟨rfl,rfl,rfl,by decide +kernel,rfl,by decide +kernel,by decide +kernel⟩
theorem ok_send {f:Addr}{fd:FuncData} (F:Fun K "send" "send" (bE 14) f fd) (T:Txt mg):FnOk P w K mg base CX0 1 f fd ["sent","target","amount"] spSend:=by
 refine F.ok sc_send (fun vs H Q E h=>?_) (fun cdv A outer s H vs Q E hr h=>?_)
 ·obtain⟨d,t,a,gs,rfl,_⟩:=h;rfl
 ·obtain⟨d,t,a,gs,rfl,⟨kvs,hd,hl,hv⟩,hg,k⟩:=h
  have sc:=sc_send
  have hu:=hu_of hr
  refine⟨_,(aL (ps_dput hu (pv 0) (pv 1) (aO bH (pe_dget2 hu (pv 0) (pv 1) aE ⟨rfl,rfl,rfl,rfl⟩) (pv 2)) rfl)),?_⟩
  have hget:=DGet.k (k:=keyO t) hd
  rw[keyO_V] at hget
  have hput:=DPut.k (k:=keyO t) (v:=V.int (b0 t gs+a)) hd (bC (by omega))
  rw[keyO_V] at hput
  refine⟨_,rfl,d,rfl,.inl ⟨kvs,.inl hd⟩,_,rfl,dY kvs (keyO t),hget,_,rfl,_,_,hv t,rfl,_,rfl,_,rfl,d,_,rfl,hput,?_⟩
  refine k _ fC.upd ⟨_,aC,?_,fun k'=>?_⟩
  ·have:=length_putK kvs (keyO t) (V.int (b0 t gs+a))
   rw[List.length_append];simp;omega
  ·rw[valV_put,cK]
   by_cases e:k'=t
   ·subst e
    rw[if_pos rfl]
    show V.int _=V.int _
    simp [b0]
   ·rw[if_neg (fun z=>e (keyO_inj z)),hv k']
    have:¬ t=k':=fun z=>e z.symm
    simp [b0,this]
end
end Tw
namespace L2
open PySem PySem.Spec PyProof.Rows TwZ
section
variable {K:PySem.W.Frag}{g:TG}{tc:TT}{te:TE}{fr:List (Option Nat)}{σ:St}{H1:Hp}{Q:Addr→Hp→Prop}
theorem lc_tup {a:Addr}{xs:List V} (Pv:Addr→Nat→List V→St→Hp→Prop) (hq:∀ D i ys σ H,Pv D i ys σ H→bR K H a xs)
  (h0:∀ D,H1 D=none→Pv D 0 [] (frσ fr σ) (upd H1 D (.lst []))) (hstop:∀ D ys σ' H',Pv D xs.length ys σ' H'→Q D H')
  (hgo:∀ D i x ys σ' H',xs[i]? = some x→Pv D i ys σ' H'→g x σ' H' fun σ3 H3=>tc σ3 H3 fun b H4=>
    if b=true then te σ3 H4 fun y H5=>H5 D=some (.lst ys)∧ys.length < sizeLine∧Pv D (i+1) (ys++[y]) σ3 (upd H5 D (.lst (ys++[y])))
    else Pv D (i+1) ys σ3 H4):lcRest (Itt K a) g tc te fr σ H1 Q:=by
 refine lc_gen (n:=xs.length) Pv h0 (fun D ys σ' H' p=>⟨⟨xs,hq D _ ys σ' H' p,Nat.le_refl _⟩,hstop D ys σ' H' p⟩) fun D i ys σ' H' hi p=>⟨⟨xs,xs[i],hq D _ ys σ' H' p,by simp [hi]⟩,fun x H2 y=>?_⟩
 obtain⟨e,y⟩:=y
 subst e
 exact hgo D i x ys σ' _ (y xs (hq D _ ys σ' _ p)) p
theorem lc_list {a:Addr}{xs:List V} (Pv:Addr→Nat→List V→St→Hp→Prop) (hq:∀ D i ys σ H,Pv D i ys σ H→bT K H a xs)
  (h0:∀ D,H1 D=none→Pv D 0 [] (frσ fr σ) (upd H1 D (.lst []))) (hstop:∀ D ys σ' H',Pv D xs.length ys σ' H'→Q D H')
  (hgo:∀ D i x ys σ' H',xs[i]? = some x→Pv D i ys σ' H'→g x σ' H' fun σ3 H3=>tc σ3 H3 fun b H4=>
    if b=true then te σ3 H4 fun y H5=>H5 D=some (.lst ys)∧ys.length < sizeLine∧Pv D (i+1) (ys++[y]) σ3 (upd H5 D (.lst (ys++[y])))
    else Pv D (i+1) ys σ3 H4):lcRest (Itl K a) g tc te fr σ H1 Q:=by
 refine lc_gen (n:=xs.length) Pv h0 (fun D ys σ' H' p=>⟨⟨xs,hq D _ ys σ' H' p,Nat.le_refl _⟩,hstop D ys σ' H' p⟩) fun D i ys σ' H' hi p=>⟨⟨xs,xs[i],hq D _ ys σ' H' p,by simp [hi]⟩,fun x H2 y=>?_⟩
 obtain⟨e,y⟩:=y
 subst e
 exact hgo D i x ys σ' _ (y xs (hq D _ ys σ' _ p)) p
theorem lc_range {n:Nat} (Pv:Addr→Nat→List V→St→Hp→Prop)
  (h0:∀ D,H1 D=none→Pv D 0 [] (frσ fr σ) (upd H1 D (.lst []))) (hstop:∀ D ys σ' H',Pv D n ys σ' H'→Q D H')
  (hgo:∀ D i ys σ' H',i < n→Pv D i ys σ' H'→g (.int (i:Int)) σ' H' fun σ3 H3=>tc σ3 H3 fun b H4=>
    if b=true then te σ3 H4 fun y H5=>H5 D=some (.lst ys)∧ys.length < sizeLine∧Pv D (i+1) (ys++[y]) σ3 (upd H5 D (.lst (ys++[y])))
    else Pv D (i+1) ys σ3 H4):lcRest (Itr 0 n) g tc te fr σ H1 Q:=by
 refine lc_gen (n:=n) Pv h0 (fun D ys σ' H' p=>⟨Nat.le_refl _,hstop D ys σ' H' p⟩) fun D i ys σ' H' hi p=>⟨hi,fun x H2 y=>?_⟩
 obtain⟨e,y⟩:=y
 subst e y
 rw[Int.zero_add]
 exact hgo D i ys σ' _ hi p
theorem lc_zip3 {t1 t2 t3:Bool}{a1 a2 a3:Addr}{xs ys zs:List V}{n:Nat} (h1:xs.length=n) (h2:ys.length=n) (h3:zs.length=n) (Pv:Addr→Nat→List V→St→Hp→Prop)
  (hq:∀ D i r σ H,Pv D i r σ H→SqB K H t1 a1 xs∧SqB K H t2 a2 ys∧SqB K H t3 a3 zs)
  (h0:∀ D,H1 D=none→Pv D 0 [] (frσ fr σ) (upd H1 D (.lst []))) (hstop:∀ D r σ' H',Pv D n r σ' H'→Q D H')
  (hgo:∀ D i x y z r σ' H' T,xs[i]? = some x→ys[i]? = some y→zs[i]? = some z→Pv D i r σ' H'→H' T=none→g (.ref T) σ' (upd H' T (.tup [x,y,z])) fun σ3 H3=>tc σ3 H3 fun b H4=>
    if b=true then te σ3 H4 fun y H5=>H5 D=some (.lst r)∧r.length < sizeLine∧Pv D (i+1) (r++[y]) σ3 (upd H5 D (.lst (r++[y])))
    else Pv D (i+1) r σ3 H4):lcRest (Itz3 K t1 t2 t3 a1 a2 a3) g tc te fr σ H1 Q:=by
 refine lc_gen (n:=n) Pv h0 (fun D r σ' H' p=>?_) fun D i r σ' H' hi p=>?_
 ·obtain⟨q1,q2,q3⟩:=hq D _ r σ' H' p
  exact⟨⟨xs,ys,zs,q1,q2,q3,.inl (by omega)⟩,hstop D r σ' H' p⟩
 ·obtain⟨q1,q2,q3⟩:=hq D _ r σ' H' p
  refine⟨⟨xs,ys,zs,xs[i]'(by omega),ys[i]'(by omega),zs[i]'(by omega),q1,q2,q3,by simp,by simp,by simp⟩,?_⟩
  rintro v H2 ⟨T,x,y,z,hT,rfl,e1,e2,e3,rfl⟩
  exact hgo D i x y z r σ' H' T (e1 xs q1) (e2 ys q2) (e3 zs q3) p hT
end
section
variable {K:PySem.W.Frag}{g:TG}{tb:TS}{D:Ends}{σ:St}{H:Hp}
noncomputable abbrev ForRest (J:It) (g:TG) (tb:TS) (D:Ends) (σ:St) (H:Hp):Prop:=
 ∃ W:Nat→Nat→St→Hp→Prop,(∃ m,W 0 m σ H)∧∀ i m σ H,W i m σ H→
   (J.stop i H∧D.nx σ H)∨(J.go i H∧∃ N:St→Hp→Prop,(∀ σ' H',N σ' H'→∃ m',m' < m∧W (i+1) m' σ' H')∧∀ x H',J.yld i H x H'→g x σ H' fun σ2 H2=>tb { D with nx:=N,ct:=N,bk:=D.nx } σ2 H2)
theorem for_zip2 {t1 t2:Bool}{a1 a2:Addr}{xs ys:List V}{n:Nat} (h1:xs.length=n) (h2:ys.length=n) (Pv:Nat→St→Hp→Prop) (hq:∀ i σ H,Pv i σ H→SqB K H t1 a1 xs∧SqB K H t2 a2 ys)
  (h0:Pv 0 σ H) (hstop:∀ σ H,Pv n σ H→D.nx σ H)
  (hgo:∀ i x y σ H T,xs[i]? = some x→ys[i]? = some y→Pv i σ H→H T=none→g (.ref T) σ (upd H T (.tup [x,y])) fun σ2 H2=>tb { D with nx:=Pv (i+1),ct:=Pv (i+1),bk:=D.nx } σ2 H2):ForRest (Itz2 K t1 t2 a1 a2) g tb D σ H:=by
 refine for_gen (n:=n) Pv h0 (fun σ H p=>?_) fun i σ H hi p=>?_
 ·obtain⟨q1,q2⟩:=hq _ σ H p
  exact⟨⟨xs,ys,q1,q2,.inl (by omega)⟩,hstop σ H p⟩
 ·obtain⟨q1,q2⟩:=hq _ σ H p
  refine⟨⟨xs,ys,xs[i]'(by omega),ys[i]'(by omega),q1,q2,by simp,by simp⟩,?_⟩
  rintro v H2 ⟨T,x,y,hT,rfl,e1,e2,rfl⟩
  exact hgo i x y σ H T (e1 xs q1) (e2 ys q2) p hT
theorem for_enum {t:Bool}{a:Addr}{xs:List V} (Pv:Nat→St→Hp→Prop) (hq:∀ i σ H,Pv i σ H→SqB K H t a xs)
  (h0:Pv 0 σ H) (hstop:∀ σ H,Pv xs.length σ H→D.nx σ H)
  (hgo:∀ i x σ H T,xs[i]? = some x→Pv i σ H→H T=none→g (.ref T) σ (upd H T (.tup [.int (i:Int),x])) fun σ2 H2=>tb { D with nx:=Pv (i+1),ct:=Pv (i+1),bk:=D.nx } σ2 H2):ForRest (Ite K t a) g tb D σ H:=by
 refine for_gen (n:=xs.length) Pv h0 (fun σ H p=>?_) fun i σ H hi p=>?_
 ·exact⟨⟨xs,hq _ σ H p,Nat.le_refl _⟩,hstop σ H p⟩
 ·refine⟨⟨xs,xs[i],hq _ σ H p,by simp [hi]⟩,?_⟩
  rintro v H2 ⟨T,x,hT,rfl,e1,rfl⟩
  exact hgo i x σ H T (e1 xs (hq _ σ H p)) p hT
end
theorem yes_of {σ:St}{H:Hp}{A B:Hp→Prop} (h:A H):tYes σ H fun b H4=>if b=true then A H4 else B H4:=by
 show if true=true then A H else B H
 rw[if_pos rfl];exact h
theorem name_yes {i:Nat}{v:V}{σ:St}{H:Hp}{A B:St→Hp→Prop} (h:A (σ.set i (some v)) H):gName i v σ H fun σ3 H3=>tYes σ3 H3 fun b H4=>if b=true then A σ3 H4 else B σ3 H4:=yes_of (σ:=σ.set i (some v)) (A:=A (σ.set i (some v))) (B:=B (σ.set i (some v))) h
theorem aG.put {H H':Hp}{p:Addr}{o:HO} (a:aG H H') (h:H p=none):aG H (upd H' p o):=fun b u e=>by rw[aQ (aN e h)];exact a b u e
theorem cA.put {K:PySem.W.Frag}{H H':Hp}{p:Addr}{o:HO} (a:cA K H H') (h:H' p=none∨Mut (H' p)):cA K H (upd H' p o):=a.trans (by
 rcases h with h | h
 ·exact (aG.new h).ts
 ·exact fC.ts fC.upd h)
noncomputable def CDivB (i j:Int):Prop:=0 < j∧j < 2 ^ 200
theorem op_fdivB {X:Cx}:OpR X (binaryOp .FloorDiv) (rI CDivB fun i j=>.int (i / j)):=opI fun i j _ _ _ _ _ hc q=>by
 have h1:(0:Int) < j:=hc.1
 have h2:j < 2 ^ 200:=hc.2
 refine floordiv_int (by omega) (by rw[Int.fdiv_eq_ediv_of_nonneg i (by omega)];exact q) (.inl (PyProof.noPylong_of_log2 ?_))
 have h0:j.natAbs≠0:=by omega
 have h3:j.natAbs < 2 ^ 200:=by omega
 have:=(Nat.log2_lt h0).mpr h3
 omega
theorem bt_int:bootBuiltins "int" = some (.type "int"):=by decide +kernel
theorem dB:bootBuiltins "tuple" = some (.type "tuple"):=by decide +kernel
theorem bt_list:bootBuiltins "list" = some (.type "list"):=by decide +kernel
theorem bt_bool:bootBuiltins "bool" = some (.type "bool"):=by decide +kernel
section
variable {X:Cx}{K:PySem.W.Frag}{tg:Expr}{pos:Pos}
theorem bP {es:List Expr}{k:Nat}{t:TGs}{n:Nat} (hK:X.K=K) (hc:X.calm=true) (h:PGs X es t)
  (hn:(assignEach es X.env).length=n:=by rfl) (hst:(assignEach es X.env).findIdx? (·.1)=none:=by rfl):PG X (.Tuple es k pos) (gTup K n t):=by
 subst hK;exact pg_tup hc h hn hst
theorem aK (hK:X.K=K):IxR X (rIx K):=by subst hK;exact ix_seq
noncomputable def rLen (K:PySem.W.Frag):List V→Hp→VK→Prop:=fun xs H Q=>∃ p ys,xs=[.ref p]∧(bT K H p ys∨bR K H p ys)∧Q (.int ys.length) H
theorem aY (hK:X.K=K):eJ X (.builtin "len") (rLen K):=by subst hK;exact call_len_seq
theorem cW (hK:X.K=K) (hc:X.calm=true):eJ X (.builtin "sum") (rSum K):=by subst hK;exact call_sumB hc
theorem call_isiK (hK:X.K=K):eJ X (.builtin "isinstance") (rIsi K):=by subst hK;exact call_isi
noncomputable def rTupOf (K:PySem.W.Frag):List V→Hp→VK→Prop:=fun xs H Q=>∃ p ys,xs=[.ref p]∧((bT K H p ys∧∀ l,H l=none→Q (.ref l) (upd H l (.tup ys)))∨(bR K H p ys∧Q (.ref p) H))
theorem cU (hK:X.K=K):eJ X (.type "tuple") (rTupOf K):=by subst hK;exact call_tuple_of
noncomputable def rLstOf (K:PySem.W.Frag):List V→Hp→VK→Prop:=fun xs H Q=>∃ p ys,xs=[.ref p]∧(bT K H p ys∨bR K H p ys)∧∀ l,H l=none→Q (.ref l) (upd H l (.lst ys))
theorem call_lstK (hK:X.K=K):eJ X (.type "list") (rLstOf K):=by subst hK;exact call_list_of
theorem eR {l:Expr}{tl:TE} (hK:X.K=K) (hl:PE X l tl):PI X tg l (iList K tl):=by subst hK;exact pi_list hl
theorem pi_tupK {l:Expr}{tl:TE} (hK:X.K=K) (hl:PE X l tl):PI X tg l (iTup K tl):=by subst hK;exact pi_tup hl
theorem pi_enumK {a:Expr}{ta:TA}{p:Pos} (hK:X.K=K) (hg:Gl X "enumerate") (hm:X.mg "enumerate" = none) (ha:PA X [a] ta) (hs:starEach [a] X.env=[(false,eval a X.env)]:=by rfl):PI X tg (.Call (.Name "enumerate" p) [a] [] pos) (iEnum K ta):=by
 subst hK;exact pi_enum hg hm ha hs
theorem pi_zip2K {a b:Expr}{ta:TA}{p:Pos} (hK:X.K=K) (hg:Gl X "zip") (hm:X.mg "zip" = none) (ha:PA X [a,b] ta) (hs:starEach [a,b] X.env=[(false,eval a X.env),(false,eval b X.env)]:=by rfl) (hs2:starEach [b] X.env=[(false,eval b X.env)]:=by rfl) :
  PI X tg (.Call (.Name "zip" p) [a,b] [] pos) (iZip2 K ta):=by subst hK;exact pi_zip2 hg hm ha hs hs2
theorem pi_zip3K {a b c:Expr}{ta:TA}{p:Pos} (hK:X.K=K) (hg:Gl X "zip") (hm:X.mg "zip" = none) (ha:PA X [a,b,c] ta) (hs:starEach [a,b,c] X.env=[(false,eval a X.env),(false,eval b X.env),(false,eval c X.env)]:=by rfl)
  (hs2:starEach [b,c] X.env=[(false,eval b X.env),(false,eval c X.env)]:=by rfl):PI X tg (.Call (.Name "zip" p) [a,b,c] [] pos) (iZip3 K ta):=by subst hK;exact pi_zip3 hg hm ha hs hs2
theorem op_repTK (hK:X.K=K):OpR X (binaryOp .Mult) (rRepT K):=by subst hK;exact op_repT
theorem get_listK (hK:X.K=K):PGet X (rGetL K):=by subst hK;exact get_list
theorem pe_bmK {o e:Expr}{es:List Expr}{to:TE}{t:TA}{name:Str}{apos cpos:Pos}{T id:String}{r:V→List V→Hp→VK→Prop} (hK:X.K=K)
  (pa:PlainAttrs T) (slot:Slot T name id) (hty:typeOf (.builtin id)=pure (.type "method_descriptor")) (hm:MtR X id r) (ho:PE X o to) (ha:PA X (e::es) t)
  (hbase:attributeBase o name X.env (eval o X.env)=eval o X.env:=by rfl)
  (hfew:((backTo cpos (starEach (e::es) X.env)).all (fun x=>!x.1) && (backToKw cpos (keywordEach [] X.env)).all (fun x=>x.1.isSome)
   && decide ((e::es).length+([]:List Keyword).length+(if ([]:List Keyword).isEmpty then 0 else 1) < 30))=true:=by rfl)
  (hline:(apos.endLine == cpos.line)=true:=by rfl) (hs:starEach (e::es) X.env=(false,eval e X.env)::starEach es X.env:=by rfl) (hplain:(backTo cpos (starEach es X.env)).any (·.1)=false:=by rfl) :
  PE X (.Call (.Attribute o name apos) (e::es) [] cpos) (tBM K T r to t):=by subst hK;exact pe_bm pa slot hty hm ho ha hbase hfew hline hs hplain
end
end L2
namespace Tw
open PySem L2
section
variable {P:Program}{w:World}{K:PySem.W.Frag}{mg:Str→Option Value}{base:Heap}
theorem aZ {α:Type}{xs:List α}{i:Nat}{x:α} (h:xs[i]? = some x):xs.take (i+1)=xs.take i++[x]:=by
 rw[List.take_succ,h];rfl
theorem outs_at {H:Hp}{outs:List (Option Int×Int)}{xs:List V}{i:Nat}{x:V} (l:IsL K H (outs.map outD) xs) (h:xs[i]? = some x) :
  ∃ o,outs[i]? = some o∧∃ a,x=.ref a∧bR K H a [tgV o.1,.int o.2]:=by
 obtain⟨d,hd,hx⟩:=l.get' h
 rw[List.getElem?_map] at hd
 cases e:outs[i]? with
 | none=>rw[e] at hd;cases hd
 | some o=>
  rw[e] at hd
  cases hd
  refine⟨o,rfl,?_⟩
  obtain⟨a,ys,rfl,q,l⟩:=(show Is K H (.tup [tgD o.1,.int o.2]) x from hx).un
  obtain⟨y,r,rfl,hy,l⟩:=l.un
  obtain⟨z,r,rfl,hz,l⟩:=l.un
  have:=l.un0
  subst this
  rw[Is.tg hy,hz.ui] at q
  exact⟨a,rfl,q⟩
noncomputable def spShare (K:PySem.W.Frag):Sp:=fun vs H Q _=>∃ (o d:Addr) (has:Int) (outs gs:List (Option Int×Int)) (n:Nat),vs=[.ref o,.int has,.ref d]∧Is K H (.tup (outs.map outD)) (.ref o)∧DictG H d gs∧gs.length+3≤1000∧
 outs≠[]∧outs.length≤3∧(∀ x∈outs,OutOk n x)∧∀ H',fC d H H'→DictG H' d (gs++outs.map fun x=>(x.1,has / whole outs * x.2))→Q (.int (has % whole outs)) H'
theorem sc_share_out:FnScope ["outs","has","sent","whole","times","target","parts"] ["outs","has","sent"] (aJ (bE 13)):=⟨rfl,rfl,rfl,by decide +kernel,rfl,by decide +kernel,by decide +kernel⟩
theorem ok_share_out {f fS:Addr}{fd fdS:FuncData} (F:Fun K "share_out" "share_out" (bE 13) f fd) (T:Txt mg) (G_send:Callee P w K mg base "send" ["sent","target","amount"] 1 spSend fS fdS):FnOk P w K mg base CX0 2 f fd ["outs","has","sent"] (spShare K):=by
 refine F.ok sc_share_out (fun vs H Q E h=>?_) (fun cdv A outer s H vs Q E hr h=>?_)
 ·obtain⟨o,d,has,outs,gs,n,rfl,_⟩:=h;rfl
 ·obtain⟨o,d,has,outs,gs,n,rfl,ho,hd,hg,hne,h3,hok,k⟩:=h
  have sc:=sc_share_out
  refine⟨_,(aD (aS (i:=3) sc.nd rfl (Or.inl rfl) (aP (cW (K:=K) rfl rfl) rfl T.b_sum PyProof.Rows.boot_sum (aA (pe_lc (fun _ _ h=>h) rfl (LcOk.mk (N':=["target","parts"]) (fr:=[none,none]) rfl trivial rfl rfl rfl rfl rfl trivial) (pi_tupK (K:=K) rfl (pv 0)) (fun _ _ _=>(bP (K:=K) (n:=2) rfl rfl (aI (aH (i:=0) (show (["target","parts"]:List Str).Nodup by decide +kernel) rfl (Or.inl rfl) (Or.inr rfl)) (aI (aH (i:=1) (show (["target","parts"]:List Str).Nodup by decide +kernel) rfl (Or.inl rfl) (Or.inr rfl)) bK)))) (fun _ _ _=>eS) (fun _ _ _=>(pv 1))) aB)))
   (aD (aS (i:=4) sc.nd rfl (Or.inl rfl) (aO fH (pv 1) (aP (call_max2 rfl) rfl T.b_max PyProof.Rows.boot_max (aA aE (aA (pv 3) aB)))))
   (aD (dL PassesOwn.never rfl (pi_tupK (K:=K) rfl (pv 0)) (bP (K:=K) (n:=2) rfl rfl (aI (aH (i:=5) sc.nd rfl (Or.inl rfl)) (aI (aH (i:=6) sc.nd rfl (Or.inl rfl)) bK))) (aL (dA (dZ G_send hr (aA (pv 2) (aA (pv 5) (aA (aO eD (pv 6) (pv 4)) aB)))))))
   (aL (bL (aO d7 (pv 1) (aO eD (pv 3) (pv 4)))))))),?_⟩
  have hw1:=whole_pos hne hok
  have hw2:=whole_le hok
  obtain⟨o',xs,e,hq,hl⟩:=ho.un
  cases e
  have hxl:xs.length=outs.length:=by rw[hl.length,List.length_map]
  refine⟨_,rfl,o,rfl,⟨_,hq⟩,lc_tup (K:=K) (a:=o) (xs:=xs) (fun D i ys σ' H'=>H D=none∧aG H H'∧H' D=some (.lst ys)∧ys=(outs.take i).map (fun x=>V.int x.2)∧∃ x y,σ'=[x,y])
   (fun D i ys σ' H' p=>p.2.1.tup hq) (fun D hD=>⟨hD,aG.new hD,aC,by simp,none,none,rfl⟩) ?_ ?_⟩
  rotate_left
  ·rintro D i x ys σ' H' hx ⟨hD,sm,hDl,rfl,v1,v2,rfl⟩
   obtain⟨ot,hot,a,rfl,qa⟩:=outs_at hl hx
   have hil:=(List.getElem?_eq_some_iff.mp hot).1
   refine⟨a,_,rfl,sm.tup qa,rfl,_,_,rfl,_,_,rfl,rfl,?_⟩
   refine yes_of ⟨_,rfl,hDl,bC (by simp;omega),hD,sm.put hD,aC,?_,_,_,rfl⟩
   rw[aZ hot];simp
  ·rintro D ys σ' H1 ⟨hD,sm,hDl,rfl,_⟩
   rw[hxl,List.take_length] at hDl
   refine⟨false,D,outs.map (·.2),rfl,bT.of (by rw[List.map_map];exact hDl),?_⟩
   refine⟨_,rfl,_,rfl,_,_,rfl,_,_,rfl,rfl,?_,?_⟩
   ·show 0 < (if whole outs > 1 then whole outs else 1)∧(if whole outs > 1 then whole outs else 1) < 1073741824
    split <;> omega
   have hm:(if whole outs > 1 then whole outs else 1)=whole outs:=by split <;> omega
   show tSeq _ _ _ [some (V.ref o),some (V.int has),some (V.ref d),some (V.int (whole outs)),some (V.int (has / (if whole outs > 1 then whole outs else 1))),none,none] _
   rw[hm]
   have hd1:DictG H1 d gs:=by obtain⟨kvs,e,r⟩:=hd;exact⟨kvs,sm _ _ e,r⟩
   have tsH:cA K H H1:=sm.ts
   refine⟨_,rfl,o,rfl,⟨_,sm.tup hq⟩,for_tup (K:=K) (a:=o) (xs:=xs) (fun i σ' H'=>fC d H1 H'∧DictG H' d (gs++(outs.take i).map fun x=>(x.1,has / whole outs * x.2))∧
    ∃ x y,σ'=[some (V.ref o),some (V.int has),some (V.ref d),some (V.int (whole outs)),some (V.int (has / whole outs)),x,y]) ⟨fC.refl _,by simpa using hd1,none,none,rfl⟩
    (fun i σ' H' _ p=>(p.1.ts hd1.mut) _ _ (sm.tup hq)) ?_ ?_⟩
   ·rintro i x σ' H2 hx ⟨bt,dg,v1,v2,rfl⟩
    obtain⟨ot,hot,a,rfl,qa⟩:=outs_at hl hx
    have hil:=(List.getElem?_eq_some_iff.mp hot).1
    have hom:=hok ot (List.mem_of_getElem? hot)
    refine⟨a,_,rfl,(bt.ts hd1.mut) _ _ (sm.tup qa),rfl,_,_,rfl,_,_,rfl,rfl,?_⟩
    refine⟨_,rfl,_,rfl,_,rfl,_,rfl,_,_,rfl,rfl,.inl ⟨by have:=hom.lo;omega,by have:=hom.hi;omega⟩,d,ot.1,ot.2 * (has / whole outs),_,rfl,dg,by simp;omega,fun H' bt' dg'=>?_⟩
    refine⟨bt.trans bt',?_,_,_,rfl⟩
    rw[aZ hot,List.map_append,← List.append_assoc]
    rw[Int.mul_comm] at dg'
    exact dg'
   ·rintro σ' H2 ⟨bt,dg,v1,v2,rfl⟩
    rw[hxl,List.take_length] at dg
    refine⟨_,rfl,_,rfl,_,rfl,_,_,rfl,rfl,.inl ⟨by omega,by omega⟩,_,_,rfl,rfl,?_⟩
    have e:has - whole outs * (has / whole outs)=has % whole outs:=by
     have:=Int.emod_add_mul_ediv has (whole outs);omega
    show Q (V.int (has - whole outs * (has / whole outs))) H2
    rw[e]
    exact k H2 (sm.but.trans bt) dg
theorem vs_un {H:Hp}{v:Vs}{x:V} (h:Is K H (vsD v) x):∃ (a:Addr) (o c:V),x=.ref a∧bR K H a [.int v.size,.int v.brim,o,.bl v.holds,tgV v.spill,c]∧Is K H (.tup (v.outs.map outD)) o∧Is K H (.tup (v.acts.map actD)) c:=by
 obtain⟨a,xs,rfl,q,l⟩:=(show Is K H (.tup [.int v.size,.int v.brim,.tup (v.outs.map outD),.bl v.holds,tgD v.spill,.tup (v.acts.map actD)]) x from h).un
 obtain⟨x1,r,rfl,h1,l⟩:=l.un
 obtain⟨x2,r,rfl,h2,l⟩:=l.un
 obtain⟨x3,r,rfl,h3,l⟩:=l.un
 obtain⟨x4,r,rfl,h4,l⟩:=l.un
 obtain⟨x5,r,rfl,h5,l⟩:=l.un
 obtain⟨x6,r,rfl,h6,l⟩:=l.un
 have:=l.un0
 subst this
 rw[h1.ui,h2.ui,h4.ub,Is.tg h5] at q
 exact⟨a,x3,x6,rfl,q,h3,h6⟩
noncomputable def spSettle (K:PySem.W.Frag):Sp:=fun vs H Q _=>∃ (x:V) (d:Addr) (has:Int) (v:Vs) (gs:List (Option Int×Int)) (n m:Nat),vs=[x,.int has,.ref d]∧Is K H (vsD v) x∧DictG H d gs∧gs.length+5≤1000∧VOk n m v∧
 ∀ p H',fC d H H'→DictG H' d (gs++cR v has)→bR K H' p [.int (d9 v has),.bl (dS v has)]→Q (.ref p) H'
theorem sc_settle:FnScope ["vessel","has","sent","size","brim","outs","holds","spill","acts","over","left"] ["vessel","has","sent"] (aJ (bE 12)):=⟨rfl,rfl,rfl,by decide +kernel,rfl,by decide +kernel,by decide +kernel⟩
theorem ok_settle {f fS fO:Addr}{fd fdS fdO:FuncData} (F:Fun K "settle" "settle" (bE 12) f fd) (T:Txt mg) (G_send:Callee P w K mg base "send" ["sent","target","amount"] 1 spSend fS fdS)
  (G_share_out:Callee P w K mg base "share_out" ["outs","has","sent"] 2 (spShare K) fO fdO):FnOk P w K mg base CX0 3 f fd ["vessel","has","sent"] (spSettle K):=by
 refine F.ok sc_settle (fun vs H Q E h=>?_) (fun cdv A outer s H vs Q E hr h=>?_)
 ·obtain⟨x,d,has,v,gs,n,m,rfl,_⟩:=h;rfl
 ·obtain⟨x,d,has,v,gs,n,m,rfl,hx,hd,hg,ok,k⟩:=h
  have sc:=sc_settle
  refine⟨_,(aD (cX (pv 0) (bP (K:=K) (n:=6) rfl rfl (aI (aH (i:=3) sc.nd rfl (Or.inl rfl)) (aI (aH (i:=4) sc.nd rfl (Or.inl rfl)) (aI (aH (i:=5) sc.nd rfl (Or.inl rfl)) (aI (aH (i:=6) sc.nd rfl (Or.inl rfl)) (aI (aH (i:=7) sc.nd rfl (Or.inl rfl)) (aI (aH (i:=8) sc.nd rfl (Or.inl rfl)) bK))))))))
   (aD (aS (i:=9) sc.nd rfl (Or.inl rfl) (aP (call_max2 rfl) rfl T.b_max PyProof.Rows.boot_max (aA aE (aA (aO d7 (pv 1) (pv 4)) aB))))
   (aD (dA (dZ G_send hr (aA (pv 2) (aA (pv 7) (aA (pv 9) aB)))))
   (aD (ps_aug (i:=1) sc.nd rfl (Or.inl rfl) (pv 9) ip_sub)
   (aD (dG (bJ op_lt (pv 1) (pv 3) (bU _)) (aL (bL (bA (aA (pv 1) (aA fG aB))))) bY)
   (aD (aS (i:=10) sc.nd rfl (Or.inl rfl) (dZ G_share_out hr (aA (pv 5) (aA (pv 1) (aA (pv 2) aB)))))
   (aD (dG (pt_val (pv 6)) (aL (bL (bA (aA (pv 10) (aA fG aB))))) bY)
   (aD (dA (dZ G_send hr (aA (pv 2) (aA dR (aA (pv 10) aB)))))
   (aL (bL (bA (aA aE (aA fG aB))))))))))))),?_⟩
  obtain⟨a,o,c,rfl,q,ho,hc⟩:=vs_un hx
  refine⟨_,rfl,a,_,rfl,q,rfl,_,_,rfl,_,_,rfl,_,_,rfl,_,_,rfl,_,_,rfl,_,_,rfl,rfl,?_⟩
  refine⟨_,rfl,_,rfl,_,_,rfl,rfl,_,_,rfl,?_⟩
  have eo:(if has - v.brim > 0 then has - v.brim else 0)=has - bI v has:=by unfold bI;split <;> omega
  show tSeq _ _ _ [some (V.ref a),some (V.int has),some (V.ref d),some (V.int v.size),some (V.int v.brim),some o,some (V.bl v.holds),some (tgV v.spill),some c,some (V.int (if has - v.brim > 0 then has - v.brim else 0)),none] _
  rw[eo]
  refine⟨_,rfl,_,rfl,_,rfl,d,v.spill,has - bI v has,gs,rfl,hd,by omega,fun H1 b1 d1=>?_⟩
  have ts1:cA K H H1:=b1.ts hd.mut
  refine⟨_,rfl,_,rfl,_,_,rfl,rfl,?_⟩
  have eh:has - (has - bI v has)=bI v has:=by omega
  show tSeq _ _ _ [some (V.ref a),some (V.int (has - (has - bI v has))),some (V.ref d),some (V.int v.size),some (V.int v.brim),some o,some (V.bl v.holds),some (tgV v.spill),some c,some (V.int (has - bI v has)),none] _
  rw[eh]
  refine⟨_,rfl,_,rfl,_,_,rfl,rfl,_,rfl,?_⟩
  refine ite2 (fun hlt=>?_) (fun hge=>?_)
  ·have hlt':bI v has < v.size:=of_decide_eq_true hlt
   have ht:dS v has=false:=decide_eq_false (by omega)
   refine⟨_,rfl,(show 2≤sizeLine by decide),fun p hp=>?_⟩
   refine k p _ (b1.trans (aG.new hp).but) ?_ ?_
   ·have:cR v has=[(v.spill,has - bI v has)]:=by unfold cR;rw[ht];rfl
    rw[this]
    obtain⟨kvs,e,r⟩:=d1
    exact⟨kvs,aG.new hp _ _ e,r⟩
   ·have:d9 v has=bI v has:=by unfold d9;rw[ht];rfl
    rw[this,ht]
    exact bR.of aC
  ·have hge':v.size≤bI v has:=by simpa using hge
   have ht:dS v has=true:=decide_eq_true hge'
   obtain⟨oa,os,rfl,_,_⟩:=ho.un
   refine⟨_,rfl,_,rfl,_,rfl,oa,d,bI v has,v.outs,_,n,rfl,Is.mono ts1 _ _ ho,d1,by simp;omega,ok.ne,ok.o3,ok.outs,fun H2 b2 d2=>?_⟩
   refine⟨_,rfl,_,rfl,?_⟩
   cases hh:v.holds with
   | true=>
    refine iteT ?_
    refine⟨_,rfl,(show 2≤sizeLine by decide),fun p hp=>?_⟩
    refine k p _ (b1.trans (b2.trans (aG.new hp).but)) ?_ ?_
    ·have:gs++cR v has=(gs++[(v.spill,has - bI v has)])++v.outs.map fun x=>(x.1,bI v has / whole v.outs * x.2):=by
      unfold cR eN;rw[ht,hh];simp
     rw[this]
     obtain⟨kvs,e,r⟩:=d2
     exact⟨kvs,aG.new hp _ _ e,r⟩
    ·have:d9 v has=bI v has % whole v.outs:=by unfold d9;rw[ht,hh];rfl
     rw[this,ht]
     exact bR.of aC
   | false=>
    refine iteF ?_
    refine⟨_,rfl,_,rfl,d,none,bI v has % whole v.outs,_,rfl,d2,by simp;have:=ok.o3;omega,fun H3 b3 d3=>?_⟩
    refine⟨(show 2≤sizeLine by decide),fun p hp=>?_⟩
    refine k p _ (b1.trans (b2.trans (b3.trans (aG.new hp).but))) ?_ ?_
    ·have:gs++cR v has=((gs++[(v.spill,has - bI v has)])++v.outs.map fun x=>(x.1,bI v has / whole v.outs * x.2))++[(none,bI v has % whole v.outs)]:=by
      unfold cR eN;rw[ht,hh];simp
     rw[this]
     obtain⟨kvs,e,r⟩:=d3
     exact⟨kvs,aG.new hp _ _ e,r⟩
    ·have:d9 v has=0:=by unfold d9;rw[ht,hh];rfl
     rw[this,ht]
     exact bR.of aC
end
end Tw
namespace Tw
open PySem L2
section
variable {P:Program}{w:World}{K:PySem.W.Frag}{mg:Str→Option Value}{base:Heap}
theorem acts_at {H:Hp}{acts:List (Str×Int)}{xs:List V}{i:Nat}{x:V} (l:IsL K H (acts.map actD) xs) (h:xs[i]? = some x) :
  ∃ o,acts[i]? = some o∧∃ a,x=.ref a∧bR K H a [.str o.1,.int o.2]:=by
 obtain⟨d,hd,hx⟩:=l.get' h
 rw[List.getElem?_map] at hd
 cases e:acts[i]? with
 | none=>rw[e] at hd;cases hd
 | some o=>
  rw[e] at hd
  cases hd
  refine⟨o,rfl,?_⟩
  obtain⟨a,ys,rfl,q,l⟩:=(show Is K H (.tup [.str o.1,.int o.2]) x from hx).un
  obtain⟨y,r,rfl,hy,l⟩:=l.un
  obtain⟨z,r,rfl,hz,l⟩:=l.un
  have:=l.un0
  subst this
  rw[hy.us,hz.ui] at q
  exact⟨a,rfl,q⟩
theorem act1_len (ds:List Bool) (a:Str×Int):(act1 ds a).length=ds.length:=by unfold act1;simp
theorem actsL_len:∀ (as:List (Str×Int)) (ds:List Bool),(d6 ds as).length=ds.length
 | [],ds=>rfl
 | a::as,ds=>by
  show (d6 (act1 ds a) as).length=_
  rw[actsL_len as,act1_len]
theorem doorsL_len (vs:List Vs):∀ (tip:List Nat) (ds:List Bool),(bO vs ds tip).length=ds.length
 | [],ds=>rfl
 | i::r,ds=>by
  show (bO vs (match vs[i]? with | some v=>d6 ds v.acts | none=>ds) r).length=_
  rw[doorsL_len vs r]
  cases vs[i]? with
  | none=>rfl
  | some v=>exact actsL_len _ _
theorem actsL_snoc (ds:List Bool) (as:List (Str×Int)) (a:Str×Int):d6 ds (as++[a])=act1 (d6 ds as) a:=by
 unfold d6;rw[List.foldl_append];rfl
theorem doorsL_snoc (vs:List Vs) (ds:List Bool) (tip:List Nat) (i:Nat) (v:Vs) (h:vs[i]? = some v):bO vs ds (tip++[i])=d6 (bO vs ds tip) v.acts:=by
 unfold bO;rw[List.foldl_append]
 show (match vs[i]? with | some v=>_ | none=>_)=_
 rw[h]
noncomputable def spDoors (K:PySem.W.Frag):Sp:=fun args H Q _=>∃ (x y:V) (t:Addr) (vs:List Vs) (doors:List Bool) (tip:List Nat) (n:Nat),args=[x,y,.ref t]∧Is K H (.tup (vs.map vsD)) x∧Is K H (.tup (doors.map D.bl)) y∧
 bT K H t (tip.map fun (i:Nat)=>V.int (i:Int))∧(∀ i∈tip,i < vs.length)∧(∀ v∈vs,VOk n doors.length v)∧doors.length≤12∧
 ∀ p H',aG H H'→Is K H' (.tup ((bO vs doors tip).map D.bl)) p→Q p H'
theorem sc_doors_behind:FnScope ["vessels","doors","tipped","behind","number","size","brim","outs","holds","spill","acts","word","spout"] ["vessels","doors","tipped"] (aJ (bE 15)):=⟨rfl,rfl,rfl,by decide +kernel,rfl,by decide +kernel,by decide +kernel⟩
theorem ok_doors_behind {f:Addr}{fd:FuncData} (F:Fun K "doors_behind" "doors_behind" (bE 15) f fd) (T:Txt mg):FnOk P w K mg base CX0 1 f fd ["vessels","doors","tipped"] (spDoors K):=by
 refine F.ok sc_doors_behind (fun vs H Q E h=>?_) (fun cdv A outer s H vs Q E hr h=>?_)
 ·obtain⟨x,y,t,vs,doors,tip,n,rfl,_⟩:=h;rfl
 ·obtain⟨x,y,t,vs,doors,tip,n,rfl,hx,hy,ht,htip,hok,hm,k⟩:=h
  have sc:=sc_doors_behind
  refine⟨_,(aD (aS (i:=3) sc.nd rfl (Or.inl rfl) (bD (call_lstK (K:=K) rfl) rfl T.b_list bt_list (aA (pv 1) aB)))
   (aD (dL PassesOwn.never rfl (eR (K:=K) rfl (pv 2)) (aH (i:=4) sc.nd rfl (Or.inl rfl)) (aD (cX (aT (aK (K:=K) rfl) (pv 0) (pv 4) (fun _ _=>rfl)) (bP (K:=K) (n:=6) rfl rfl (aI (aH (i:=5) sc.nd rfl (Or.inl rfl)) (aI (aH (i:=6) sc.nd rfl (Or.inl rfl)) (aI (aH (i:=7) sc.nd rfl (Or.inl rfl)) (aI (aH (i:=8) sc.nd rfl (Or.inl rfl)) (aI (aH (i:=9) sc.nd rfl (Or.inl rfl)) (aI (aH (i:=10) sc.nd rfl (Or.inl rfl)) bK))))))))
   (aL (dL PassesOwn.never rfl (pi_tupK (K:=K) rfl (pv 10)) (bP (K:=K) (n:=2) rfl rfl (aI (aH (i:=11) sc.nd rfl (Or.inl rfl)) (aI (aH (i:=12) sc.nd rfl (Or.inl rfl)) bK))) (aL (cX (pe_or (pe_cmpR op_eq (pv 11) pe_str (bU _)) (pe_one (pe_and (pe_cmpR op_eq (pv 11) pe_str (bU _)) (pe_one (pe_not (aT (aK (K:=K) rfl) (pv 3) (pv 12) (fun _ _=>rfl))))))) (pg_sub (pv 3) (pv 12) set_list)))))))
   (aL (bL (bD (cU (K:=K) rfl) rfl T.b_tuple dB (aA (pv 3) aB)))))),?_⟩
  obtain⟨ax,xs,rfl,qx,lx⟩:=hx.un
  obtain⟨ay,ys,rfl,qy,ly⟩:=hy.un
  have ey:=ly.bools
  subst ey
  have exl:xs.length=vs.length:=by rw[lx.length,List.length_map]
  refine⟨_,rfl,ay,_,rfl,.inr qy,fun b hb=>?_⟩
  have nb:∀ {c:Addr}{o:HO},H c=some o→c≠b:=fun e=>aN e hb
  refine⟨_,rfl,t,rfl,⟨_,(aG.new hb).seq ht⟩,for_list (K:=K) (a:=t) (xs:=tip.map fun (i:Nat)=>V.int (i:Int))
   (fun i σ' H'=>aG H H'∧H' b=some (.lst ((bO vs doors (tip.take i)).map V.bl))∧∃ v4 v5 v6 v7 v8 v9 v10 v11 v12,σ'=[some (.ref ax),some (.ref ay),some (.ref t),some (.ref b),v4,v5,v6,v7,v8,v9,v10,v11,v12])
   ⟨aG.new hb,aC,none,none,none,none,none,none,none,none,none,rfl⟩ (fun i σ' H' _ p=>p.1.seq ht) ?_ ?_⟩
  ·rintro i x σ' H1 hi ⟨sm,hbl,v4,v5,v6,v7,v8,v9,v10,v11,v12,rfl⟩
   rw[List.getElem?_map] at hi
   obtain⟨j,hj,rfl⟩:=Option.map_eq_some_iff.mp hi
   have hjv:=htip j (List.mem_of_getElem? hj)
   have hv:vs[j]? = some vs[j]:=by simp [hjv]
   have hvok:=hok vs[j] (List.getElem_mem hjv)
   obtain⟨xv,hxv,ixv⟩:=lx.get (i:=j) (d:=vsD vs[j]) (by rw[List.getElem?_map,hv];rfl)
   obtain⟨va,o,c,rfl,qv,ho,hc⟩:=vs_un ixv
   refine⟨_,rfl,_,rfl,.inr (.inl ⟨ax,xs,j,_,rfl,rfl,sm.tup qx,cT hxv,va,_,rfl,sm.tup qv,rfl,_,_,rfl,_,_,rfl,_,_,rfl,_,_,rfl,_,_,rfl,_,_,rfl,rfl,?_⟩)⟩
   obtain⟨ca,cs,rfl,qc,lc⟩:=hc.un
   have ecs:cs.length=vs[j].acts.length:=by rw[lc.length,List.length_map]
   refine⟨_,rfl,ca,rfl,⟨_,sm.tup qc⟩,for_tup (K:=K) (a:=ca) (xs:=cs)
    (fun l σ' H'=>aG H H'∧H' b=some (.lst ((d6 (bO vs doors (tip.take i)) (vs[j].acts.take l)).map V.bl))∧
     ∃ u11 u12,σ'=[some (.ref ax),some (.ref ay),some (.ref t),some (.ref b),some (.int (j:Int)),some (.int vs[j].size),some (.int vs[j].brim),some o,some (.bl vs[j].holds),some (tgV vs[j].spill),some (.ref ca),u11,u12])
    ⟨sm,hbl,v11,v12,rfl⟩ (fun l σ' H' _ p=>p.1.tup qc) ?_ ?_⟩
   ·rintro l x σ' H2 hl ⟨sm2,hb2,u11,u12,rfl⟩
    obtain⟨at',hat,aa,rfl,qa⟩:=acts_at lc hl
    have aok:=hvok.acts at' (List.mem_of_getElem? hat)
    refine⟨aa,_,rfl,sm2.tup qa,rfl,_,_,rfl,_,_,rfl,rfl,?_⟩
    have hdl:(d6 (bO vs doors (tip.take i)) (vs[j].acts.take l)).length=doors.length:=by rw[actsL_len,doorsL_len]
    have hsp:at'.2.toNat < (d6 (bO vs doors (tip.take i)) (vs[j].acts.take l)).length:=by rw[hdl];have:=aok.lo;have:=aok.hi;omega
    have fin:∀ c:Bool,c=(if at'.1 = "open" then true else if at'.1 = "turn" then !((d6 (bO vs doors (tip.take i)) (vs[j].acts.take l)).getD at'.2.toNat false) else false)→
      aG H (upd H2 b (.lst (((d6 (bO vs doors (tip.take i)) (vs[j].acts.take l)).map V.bl).set at'.2.toNat (.bl c))))∧
      upd H2 b (.lst (((d6 (bO vs doors (tip.take i)) (vs[j].acts.take l)).map V.bl).set at'.2.toNat (.bl c))) b=some (.lst ((d6 (bO vs doors (tip.take i)) (vs[j].acts.take (l+1))).map V.bl)):=fun c hc=>by
     refine⟨sm2.put hb,?_⟩
     rw[aC,aZ hat,actsL_snoc,act1,← hc,List.map_set]
    have set:∀ c:Bool,c=(if at'.1 = "open" then true else if at'.1 = "turn" then !((d6 (bO vs doors (tip.take i)) (vs[j].acts.take l)).getD at'.2.toNat false) else false)→
      gSub (cS 3) (cS 12) rSetL (.bl c) [some (.ref ax),some (.ref ay),some (.ref t),some (.ref b),some (.int (j:Int)),some (.int vs[j].size),some (.int vs[j].brim),some o,some (.bl vs[j].holds),some (tgV vs[j].spill),some (.ref ca),some (.str at'.1),some (.int at'.2)] H2
       fun σ' H'=>aG H H'∧H' b=some (.lst ((d6 (bO vs doors (tip.take i)) (vs[j].acts.take (l+1))).map V.bl))∧
        ∃ u11 u12,σ'=[some (.ref ax),some (.ref ay),some (.ref t),some (.ref b),some (.int (j:Int)),some (.int vs[j].size),some (.int vs[j].brim),some o,some (.bl vs[j].holds),some (tgV vs[j].spill),some (.ref ca),u11,u12]:=fun c hc=>by
     obtain⟨f1,f2⟩:=fin c hc
     refine⟨_,rfl,_,rfl,b,_,at'.2,at'.2.toNat,rfl,rfl,hb2,ixN_nat aok.lo (by rw[List.length_map];omega),f1,f2,_,_,rfl⟩
    refine⟨_,rfl,rfl,_,rfl,?_⟩
    refine ite2 (fun h1=>?_) (fun h1=>?_)
    ·have e1:at'.1 = "open" := by have:=of_decide_eq_true h1;injection this
     exact set true (by rw[if_pos e1])
    ·have e1:¬ at'.1 = "open" := fun z=>h1 (decide_eq_true (by rw[z]))
     refine⟨_,rfl,rfl,_,rfl,?_⟩
     refine ite2 (fun h2=>?_) (fun h2=>?_)
     ·have e2:at'.1 = "turn" := by have:=of_decide_eq_true h2;injection this
      have hg:((d6 (bO vs doors (tip.take i)) (vs[j].acts.take l)).map V.bl)[at'.2.toNat]? = some (.bl ((d6 (bO vs doors (tip.take i)) (vs[j].acts.take l)).getD at'.2.toNat false)):=by
       rw[List.getElem?_map,List.getD_eq_getElem?_getD];simp [hsp]
      refine⟨_,rfl,_,rfl,.inl ⟨b,_,at'.2,_,rfl,rfl,bT.of hb2,atI_int aok.lo hg,_,rfl,?_⟩⟩
      exact set _ (by rw[if_neg e1,if_pos e2])
     ·have e2:¬ at'.1 = "turn" := fun z=>h2 (decide_eq_true (by rw[z]))
      exact set false (by rw[if_neg e1,if_neg e2])
   ·rintro σ' H2 ⟨sm2,hb2,u11,u12,rfl⟩
    rw[ecs,List.take_length] at hb2
    refine⟨sm2,?_,_,_,_,_,_,_,_,_,_,rfl⟩
    rw[aZ hj,doorsL_snoc vs doors _ j vs[j] hv]
    exact hb2
  ·rintro σ' H1 ⟨sm,hbl,v4,v5,v6,v7,v8,v9,v10,v11,v12,rfl⟩
   rw[List.length_map,List.take_length] at hbl
   refine⟨_,rfl,b,_,rfl,.inl ⟨bT.of hbl,fun l hl=>?_⟩⟩
   exact k _ _ (sm.trans (aG.new hl)) (Is.tupOf (bR.of aC) (IsL.of_bools _))
end
end Tw
namespace Tw
open PySem L2
theorem add3_len:∀ {a b c:List Int}{n:Nat},a.length=n→b.length=n→c.length=n→(add3 a b c).length=n
 | [],b,c,n,h,_,_=>by simp at h;subst h;rfl
 | x::a,[],c,n,h1,h2,_=>by simp at h1 h2;omega
 | x::a,y::b,[],n,h1,_,h3=>by simp at h1 h3;omega
 | x::a,y::b,z::c,n,h1,h2,h3=>by
  simp at h1 h2 h3
  show (add3 a b c).length+1=n
  rw[add3_len (n:=n - 1) (by omega) (by omega) (by omega)];omega
theorem add3_get:∀ {a b c:List Int}{i:Nat}{x y z:Int},a[i]? = some x→b[i]? = some y→c[i]? = some z→(add3 a b c)[i]? = some (x+y+z)
 | [],_,_,i,_,_,_,h,_,_=>by simp at h
 | _::_,[],_,i,_,_,_,_,h,_=>by simp at h
 | _::_,_::_,[],i,_,_,_,_,_,h=>by simp at h
 | a::as,b::bs,c::cs,0,x,y,z,h1,h2,h3=>by simp at h1 h2 h3;subst h1 h2 h3;rfl
 | a::as,b::bs,c::cs,i+1,x,y,z,h1,h2,h3=>by
  show (add3 as bs cs)[i]? = _
  exact add3_get (by simpa using h1) (by simpa using h2) (by simpa using h3)
theorem fill1_len (has:List Int) (s:Spt) (d:Bool):(fill1 has s d).length=has.length:=by unfold fill1;split <;> simp
theorem eY:∀ (ss:List Spt) (ds:List Bool) (has:List Int),(eZ has ss ds).length=has.length
 | [],ds,has=>by cases ds <;> rfl
 | s::ss,[],has=>rfl
 | s::ss,d::ds,has=>by show (eZ (fill1 has s d) ss ds).length=_;rw[eY ss ds,fill1_len]
theorem fillL_snoc:∀ (ss:List Spt) (ds:List Bool) (i:Nat) (has:List Int) (s:Spt) (d:Bool),ss[i]? = some s→ds[i]? = some d→eZ has (ss.take (i+1)) (ds.take (i+1))=fill1 (eZ has (ss.take i) (ds.take i)) s d
 | [],_,i,_,_,_,h,_=>by simp at h
 | _::_,[],i,_,_,_,_,h=>by simp at h
 | a::ss,b::ds,0,has,s,d,h1,h2=>by simp at h1 h2;subst h1 h2;simp [eZ]
 | a::ss,b::ds,i+1,has,s,d,h1,h2=>by
  simp only [List.take_succ_cons,eZ]
  exact fillL_snoc ss ds i _ s d (by simpa using h1) (by simpa using h2)
theorem goesL_snoc:∀ (vs:List Vs) (hs:List Int) (i:Nat) (v:Vs) (h:Int),vs[i]? = some v→hs[i]? = some h→bN (vs.take (i+1)) (hs.take (i+1))=bN (vs.take i) (hs.take i)++cR v h
 | [],_,i,_,_,h,_=>by simp at h
 | _::_,[],i,_,_,_,h=>by simp at h
 | a::vs,b::hs,0,v,h,h1,h2=>by simp at h1 h2;subst h1 h2;simp [bN]
 | a::vs,b::hs,i+1,v,h,h1,h2=>by
  simp only [List.take_succ_cons,bN,List.append_assoc]
  rw[goesL_snoc vs hs i v h (by simpa using h1) (by simpa using h2)]
theorem staysL_snoc:∀ (vs:List Vs) (hs:List Int) (i:Nat) (v:Vs) (h:Int),vs[i]? = some v→hs[i]? = some h→cE (vs.take (i+1)) (hs.take (i+1))=cE (vs.take i) (hs.take i)++[d9 v h]
 | [],_,i,_,_,h,_=>by simp at h
 | _::_,[],i,_,_,_,h=>by simp at h
 | a::vs,b::hs,0,v,h,h1,h2=>by simp at h1 h2;subst h1 h2;simp [cE]
 | a::vs,b::hs,i+1,v,h,h1,h2=>by
  simp only [List.take_succ_cons,cE,List.cons_append]
  rw[staysL_snoc vs hs i v h (by simpa using h1) (by simpa using h2)]
theorem tipsL_snoc:∀ (vs:List Vs) (hs:List Int) (i j:Nat) (v:Vs) (h:Int),vs[i]? = some v→hs[i]? = some h→aX j (vs.take (i+1)) (hs.take (i+1))=aX j (vs.take i) (hs.take i)++(if dS v h=true then [j+i] else [])
 | [],_,i,_,_,_,h,_=>by simp at h
 | _::_,[],i,_,_,_,_,h=>by simp at h
 | a::vs,b::hs,0,j,v,h,h1,h2=>by
  simp at h1 h2;subst h1 h2
  simp only [List.take_succ_cons,List.take_zero,aX,Nat.add_zero,List.nil_append]
 | a::vs,b::hs,i+1,j,v,h,h1,h2=>by
  simp only [List.take_succ_cons,aX]
  rw[tipsL_snoc vs hs i (j+1) v h (by simpa using h1) (by simpa using h2)]
  have e:j+1+i=j+(i+1):=by omega
  rw[e]
  split <;> simp
theorem tipsL_lt:∀ (vs:List Vs) (hs:List Int) (j k:Nat),k∈aX j vs hs→j≤k∧k < j+vs.length
 | [],_,_,k,h=>by simp [aX] at h
 | _::_,[],_,k,h=>by simp [aX] at h
 | a::vs,b::hs,j,k,h=>by
  simp only [aX] at h
  have ih:=tipsL_lt vs hs (j+1) k
  simp only [List.length_cons]
  split at h
  ·rcases List.mem_cons.mp h with rfl | h
   ·omega
   ·have:=ih h;omega
  ·have:=ih h;omega
theorem tipsL_len:∀ (vs:List Vs) (hs:List Int) (j:Nat),(aX j vs hs).length≤vs.length
 | [],_,_=>by simp [aX]
 | _::_,[],_=>by simp [aX]
 | a::vs,b::hs,j=>by
  simp only [aX,List.length_cons]
  have:=tipsL_len vs hs (j+1)
  split
  ·rw[List.length_cons];omega
  ·omega
theorem goesL_len {n m:Nat}:∀ (vs:List Vs) (hs:List Int),(∀ v∈vs,VOk n m v)→(bN vs hs).length≤5 * vs.length
 | [],_,_=>by simp [bN]
 | _::_,[],_=>by simp [bN]
 | a::vs,b::hs,h=>by
  simp only [bN,List.length_append,List.length_cons]
  have h1:=vGoes_len (h a List.mem_cons_self) b
  have h2:=goesL_len vs hs fun v hv=>h v (List.mem_cons_of_mem _ hv)
  omega
section
variable {P:Program}{w:World}{K:PySem.W.Frag}{mg:Str→Option Value}{base:Heap}
theorem sps_at {H:Hp}{sps:List Spt}{xs:List V}{i:Nat}{x:V} (l:IsL K H (sps.map spD) xs) (h:xs[i]? = some x) :
  ∃ s,sps[i]? = some s∧∃ a,x=.ref a∧bR K H a [.int s.1,.int s.2.1,.bl s.2.2]:=by
 obtain⟨d,hd,hx⟩:=l.get' h
 rw[List.getElem?_map] at hd
 cases e:sps[i]? with
 | none=>rw[e] at hd;cases hd
 | some o=>
  rw[e] at hd
  cases hd
  refine⟨o,rfl,?_⟩
  obtain⟨a,ys,rfl,q,l⟩:=(show Is K H (.tup [.int o.1,.int o.2.1,.bl o.2.2]) x from hx).un
  obtain⟨y,r,rfl,hy,l⟩:=l.un
  obtain⟨z,r,rfl,hz,l⟩:=l.un
  obtain⟨z2,r,rfl,hz2,l⟩:=l.un
  have:=l.un0
  subst this
  rw[hy.ui,hz.ui,hz2.ub] at q
  exact⟨a,rfl,q⟩
theorem st_un {H:Hp}{held coming:List Int}{doors:List Bool}{y:V} (h:Is K H (stD held coming doors) y):∃ (a b c d:Addr),y=.ref a∧bR K H a [.ref b,.ref c,.ref d]∧bR K H b (held.map V.int)∧bR K H c (coming.map V.int)∧bR K H d (doors.map V.bl):=by
 obtain⟨a,xs,rfl,q,l⟩:=(show Is K H (.tup [.tup (held.map D.int),.tup (coming.map D.int),.tup (doors.map D.bl)]) y from h).un
 obtain⟨x1,r,rfl,h1,l⟩:=l.un
 obtain⟨x2,r,rfl,h2,l⟩:=l.un
 obtain⟨x3,r,rfl,h3,l⟩:=l.un
 have:=l.un0
 subst this
 obtain⟨b,ys,rfl,q1,l1⟩:=h1.un
 obtain⟨c,zs,rfl,q2,l2⟩:=h2.un
 obtain⟨d,us,rfl,q3,l3⟩:=h3.un
 rw[l1.ints] at q1
 rw[l2.ints] at q2
 rw[l3.bools] at q3
 exact⟨a,b,c,d,rfl,q,q1,q2,q3⟩
theorem st_of {H:Hp}{held coming:List Int}{doors:List Bool}{a b c d:Addr} (q:bR K H a [.ref b,.ref c,.ref d]) (q1:bR K H b (held.map V.int)) (q2:bR K H c (coming.map V.int)) (q3:bR K H d (doors.map V.bl)):Is K H (stD held coming doors) (.ref a):=
 Is.tupOf q (.cons (Is.tupOf q1 (IsL.of_ints _)) (.cons (Is.tupOf q2 (IsL.of_ints _)) (.cons (Is.tupOf q3 (IsL.of_bools _)) .nil)))
noncomputable def spFilled (K:PySem.W.Frag):Sp:=fun args H Q _=>∃ (x y:V) (z:Addr) (sps:List Spt) (held coming poured:List Int) (doors:List Bool) (n:Nat),args=[x,y,.ref z]∧Is K H (.tup (sps.map spD)) x∧Is K H (stD held coming doors) y∧bR K H z (poured.map V.int)∧
 held.length=n∧coming.length=n∧poured.length=n∧doors.length=sps.length∧n≤12∧(∀ s∈sps,0≤s.1∧s.1 < n)∧
 ∀ p H',aG H H'→H p=none→H' p=some (.lst ((eZ (add3 held coming poured) sps doors).map V.int))→Q (.ref p) H'
theorem sc_filled:FnScope ["spouts","state","poured","held","coming","doors","has","target","flow","first_door","door"] ["spouts","state","poured"] (aJ (bE 11)):=⟨rfl,rfl,rfl,by decide +kernel,rfl,by decide +kernel,by decide +kernel⟩
theorem ok_filled {f:Addr}{fd:FuncData} (F:Fun K "filled" "filled" (bE 11) f fd) (T:Txt mg):FnOk P w K mg base CX0 1 f fd ["spouts","state","poured"] (spFilled K):=by
 refine F.ok sc_filled (fun vs H Q E h=>?_) (fun cdv A outer s H vs Q E hr h=>?_)
 ·obtain⟨x,y,z,sps,held,coming,poured,doors,n,rfl,_⟩:=h;rfl
 ·obtain⟨x,y,z,sps,held,coming,poured,doors,n,rfl,hx,hy,qz,l1,l2,l3,l4,hn,hsp,k⟩:=h
  have sc:=sc_filled
  refine⟨_,(aD (cX (pv 1) (bP (K:=K) (n:=3) rfl rfl (aI (aH (i:=3) sc.nd rfl (Or.inl rfl)) (aI (aH (i:=4) sc.nd rfl (Or.inl rfl)) (aI (aH (i:=5) sc.nd rfl (Or.inl rfl)) bK)))))
   (aD (eX (i:=6) sc.nd rfl rfl (fun _ _ h=>h) rfl (LcOk.mk (N':=["amounts"]) (fr:=[none]) rfl trivial rfl rfl rfl rfl rfl trivial) (pi_zip3K (K:=K) rfl rfl T.b_zip (aA (pv 3) (aA (pv 4) (aA (pv 2) aB)))) (fun _ _ _=>(aH (i:=0) (show (["amounts"]:List Str).Nodup by decide +kernel) rfl (Or.inl rfl) (Or.inr rfl))) (fun _ _ _=>eS) (fun _ _ _=>(aP (cW (K:=K) rfl rfl) rfl T.b_sum PyProof.Rows.boot_sum (aA (pv 0) aB))))
   (aD (dL PassesOwn.never rfl (pi_zip2K (K:=K) rfl rfl T.b_zip (aA (pv 0) (aA (pv 5) aB))) (bP (K:=K) (n:=2) rfl rfl (aI (bP (K:=K) (n:=3) rfl rfl (aI (aH (i:=7) sc.nd rfl (Or.inl rfl)) (aI (aH (i:=8) sc.nd rfl (Or.inl rfl)) (aI (aH (i:=9) sc.nd rfl (Or.inl rfl)) bK)))) (aI (aH (i:=10) sc.nd rfl (Or.inl rfl)) bK))) (aL (dG (pt_val (pv 10)) (aL (ps_augS (pv 6) (pv 7) (get_listK (K:=K) rfl) (pv 8) ip_add set_list)) bY)))
   (aL (bL (pv 6)))))),?_⟩
  obtain⟨ax,xs,rfl,qx,lx⟩:=hx.un
  obtain⟨ay,a1,a2,a3,rfl,qy,q1,q2,q3⟩:=st_un hy
  have exl:xs.length=sps.length:=by rw[lx.length,List.length_map]
  refine⟨_,rfl,ay,_,rfl,qy,rfl,_,_,rfl,_,_,rfl,_,_,rfl,rfl,?_⟩
  have la:=add3_len l1 l2 l3
  refine⟨_,rfl,_,rfl,_,rfl,true,true,true,a1,a2,z,rfl,⟨_,q1⟩,⟨_,q2⟩,⟨_,qz⟩,lc_zip3 (K:=K) (xs:=held.map V.int) (ys:=coming.map V.int) (zs:=poured.map V.int) (n:=n) (by simpa using l1) (by simpa using l2) (by simpa using l3)
   (fun D i r σ' H'=>H D=none∧aG H H'∧H' D=some (.lst r)∧r=((add3 held coming poured).take i).map V.int∧∃ v,σ'=[v])
   (fun D i r σ' H' p=>⟨p.2.1.tup q1,p.2.1.tup q2,p.2.1.tup qz⟩) (fun D hD=>⟨hD,aG.new hD,aC,by simp,none,rfl⟩) ?_ ?_⟩
  rotate_left
  ·rintro D i x0 y0 z0 r σ' H' Tt hx0 hy0 hz0 ⟨hD,sm,hDl,rfl,v,rfl⟩ hT
   rw[List.getElem?_map] at hx0 hy0 hz0
   obtain⟨x,hx,rfl⟩:=Option.map_eq_some_iff.mp hx0
   obtain⟨y,hy,rfl⟩:=Option.map_eq_some_iff.mp hy0
   obtain⟨z',hz,rfl⟩:=Option.map_eq_some_iff.mp hz0
   have hi:=add3_get hx hy hz
   have hil:=(List.getElem?_eq_some_iff.mp hi).1
   have nT:D≠Tt:=aN hDl hT
   refine name_yes ?_
   refine⟨_,rfl,true,Tt,[x,y,z'],rfl,bR.of aC,by rw[aQ nT];exact hDl,bC (by simp;omega),hD,?_,aC,?_,_,rfl⟩
   ·intro b o e
    rw[aQ (aN e hD)]
    exact aG.new hT b o (sm b o e)
   ·rw[aZ hi,List.map_append]
    have:[x,y,z'].sum=x+y+z':=by simp;omega
    rw[this];rfl
  ·rintro D r σ' H1 ⟨hD,sm,hDl,rfl,_⟩
   rw[← la,List.take_length] at hDl
   refine⟨_,rfl,_,rfl,true,true,ax,a3,rfl,⟨_,sm.tup qx⟩,⟨_,sm.tup q3⟩,for_zip2 (K:=K) (xs:=xs) (ys:=doors.map V.bl) (n:=sps.length) exl (by rw[List.length_map,l4])
    (fun i σ' H'=>aG H H'∧H' D=some (.lst ((eZ (add3 held coming poured) (sps.take i) (doors.take i)).map V.int))∧
     ∃ v7 v8 v9 v10,σ'=[some (.ref ax),some (.ref ay),some (.ref z),some (.ref a1),some (.ref a2),some (.ref a3),some (.ref D),v7,v8,v9,v10])
    (fun i σ' H' p=>⟨p.1.tup qx,p.1.tup q3⟩) ⟨sm,by cases sps <;> exact hDl,none,none,none,none,rfl⟩ ?_ ?_⟩
   ·rintro σ' H2 ⟨sm2,h2,v7,v8,v9,v10,rfl⟩
    rw[← l4,List.take_length] at h2
    rw[l4,List.take_length] at h2
    refine⟨_,rfl,?_⟩
    exact k D H2 sm2 hD h2
   ·rintro i x y σ' H2 Tt hx hy ⟨sm2,h2,v7,v8,v9,v10,rfl⟩ hT
    obtain⟨sp,hsi,sa,rfl,qs⟩:=sps_at lx hx
    rw[List.getElem?_map] at hy
    obtain⟨dr,hdi,rfl⟩:=Option.map_eq_some_iff.mp hy
    have nT:D≠Tt:=aN h2 hT
    have sm3:aG H (upd H2 Tt (.tup [.ref sa,.bl dr])):=fun b o e=>aG.new hT b o (sm2 b o e)
    have h3:upd H2 Tt (.tup [.ref sa,.bl dr]) D=some (.lst ((eZ (add3 held coming poured) (sps.take i) (doors.take i)).map V.int)):=by rw[aQ nT];exact h2
    refine⟨Tt,_,rfl,bR.of aC,rfl,_,_,rfl,⟨sa,_,rfl,sm3.tup qs,rfl,_,_,rfl,_,_,rfl,_,_,rfl,rfl,_,_,rfl,rfl,?_⟩⟩
    refine⟨_,rfl,_,rfl,?_⟩
    have snoc:=fillL_snoc sps doors i (add3 held coming poured) sp dr hsi hdi
    cases dr with
    | false=>
     refine iteF ?_
     refine⟨sm3,?_,_,_,_,_,rfl⟩
     rw[snoc];exact h3
    | true=>
     refine iteT ?_
     have hs:=hsp sp (List.mem_of_getElem? hsi)
     have hlen:(eZ (add3 held coming poured) (sps.take i) (doors.take i)).length=n:=by rw[eY,la]
     have hlt:sp.1.toNat < (eZ (add3 held coming poured) (sps.take i) (doors.take i)).length:=by rw[hlen];omega
     have hg:((eZ (add3 held coming poured) (sps.take i) (doors.take i)).map V.int)[sp.1.toNat]? = some (.int ((eZ (add3 held coming poured) (sps.take i) (doors.take i)).getD sp.1.toNat 0)):=by
      rw[List.getElem?_map,List.getD_eq_getElem?_getD];simp [hlt]
     refine⟨_,rfl,_,rfl,D,_,sp.1,_,rfl,rfl,bT.of h3,hs.1,by omega,hg,_,rfl,_,_,rfl,rfl,D,_,sp.1,sp.1.toNat,rfl,rfl,h3,ixN_nat hs.1 (by rw[List.length_map,hlen];omega),?_⟩
     refine⟨sm3.put hD,?_,_,_,_,_,rfl⟩
     rw[aC,snoc,fill1,if_pos rfl,List.map_set]
end
end Tw
namespace Tw
open PySem L2
theorem staysL_len:∀ (vs:List Vs) (hs:List Int),vs.length=hs.length→(cE vs hs).length=vs.length
 | [],_,_=>by simp [cE]
 | _::_,[],h=>by simp at h
 | a::vs,b::hs,h=>by simp only [cE,List.length_cons];rw[staysL_len vs hs (by simpa using h)]
section
variable {P:Program}{w:World}{K:PySem.W.Frag}{mg:Str→Option Value}{base:Heap}
theorem net_un {H:Hp}{net:Net}{x:V} (h:Is K H (netD net) x):∃ (a b c:Addr) (xs ys:List V),x=.ref a∧bR K H a [.ref b,.ref c]∧bR K H b xs∧IsL K H (net.vs.map vsD) xs∧bR K H c ys∧IsL K H (net.sps.map spD) ys:=by
 obtain⟨a,zs,rfl,q,l⟩:=(show Is K H (.tup [.tup (net.vs.map vsD),.tup (net.sps.map spD)]) x from h).un
 obtain⟨x1,r,rfl,h1,l⟩:=l.un
 obtain⟨x2,r,rfl,h2,l⟩:=l.un
 have:=l.un0
 subst this
 obtain⟨b,xs,rfl,q1,l1⟩:=h1.un
 obtain⟨c,ys,rfl,q2,l2⟩:=h2.un
 exact⟨a,b,c,xs,ys,rfl,q,q1,l1,q2,l2⟩
structure StOk (net:Net) (held coming:List Int) (doors:List Bool):Prop where
 h:held.length=net.vs.length
 c:coming.length=net.vs.length
 d:doors.length=net.sps.length
theorem sc_tick_behind:FnScope ["net","state","poured","vessels","spouts","held","tipped","sent","number","has","left","tips","coming","doors"] ["net","state","poured"] (aJ (bE 10)):=⟨rfl,rfl,rfl,by decide +kernel,rfl,by decide +kernel,by decide +kernel⟩
end
end Tw
namespace Tw
open PySem L2
section
variable {P:Program}{w:World}{K:PySem.W.Frag}{mg:Str→Option Value}{base:Heap}
noncomputable def eV (H:Hp) (t sl:Addr):Prop:=∃ (ns:List Int) (pos cell:Int),H t=some (.lst [.ref sl,.int pos,.int cell])∧H sl=some (.lst (ns.map V.int))∧ns.length≤1000
theorem eV.mut {H:Hp}{t sl:Addr} (h:eV H t sl):Mut (H t):=by obtain⟨ns,pos,cell,e,_⟩:=h;rw[e];exact trivial
theorem eV.same {H H':Hp}{t sl:Addr} (h:eV H t sl) (s:aG H H'):eV H' t sl:=by
 obtain⟨ns,pos,cell,e,f,g⟩:=h;exact⟨ns,pos,cell,s _ _ e,s _ _ f,g⟩
noncomputable def spDraw:Sp:=fun vs H Q _=>∃ (t sl:Addr) (many:Int),vs=[.ref t,.int many]∧eV H t sl∧0 < many∧many < 1000000∧
 ∀ (r:Int) H',fC t H H'→eV H' t sl→0≤r→r < many→Q (.int r) H'
noncomputable def spDrawB:Sp:=fun vs H Q _=>∃ (t sl:Addr) (many:Int),vs=[.ref t,.int many]∧eV H t sl∧0 < many∧many < 2 ^ 200∧
 ∀ (r:Int) H',fC t H H'→eV H' t sl→0≤r→r < many→Q (.int r) H'
noncomputable abbrev rdTail (K:PySem.W.Frag):TS:=tSeq (tAsg (tOp (rI (fun _ j=>0 < j) fun i j=>.int (i % j)) (tOp (rIx K) (cS 0) (tC (.int 2))) (cS 1)) (gName 4)) (tSeq (tAsg (tOp (rI CDivB fun i j=>.int (i / j)) (tOp (rIx K) (cS 0) (tC (.int 2))) (cS 1)) (gSub (cS 0) (tC (.int 2)) rSetL)) (tRet (cS 4)))
noncomputable abbrev rdMid (K:PySem.W.Frag):TS:=tSeq (tAsg (tOp (rI0 fun i j=>.int (i+j)) (tOp (rIx K) (cS 0) (tC (.int 1))) (tC (.int 1))) (gSub (cS 0) (tC (.int 1)) rSetL)) (tAsg (cS 3) (gSub (cS 0) (tC (.int 2)) rSetL))
noncomputable abbrev rdBody (K:PySem.W.Frag):TS:=tSeq (tAsg (tOp (rI (fun _ j=>0 < j) fun i j=>.int (i % j)) (tOp (rI0 fun i j=>.int (i+j)) (cS 3) (tOp (rI CMul fun i j=>.int (i * j)) (tC (.int 1000003)) (tOp (rIx K) (cS 0) (tC (.int 1))))) (cS 2)) (gName 3)) (tSeq (tAsg (tOp (rI (fun _ j=>0 < j) fun i j=>.int (i % j)) (tOp (rI0 fun i j=>.int (i+j)) (tOp (rI0 fun i j=>.int (i+j)) (tOp (rI CMul fun i j=>.int (i * j)) (cS 3) (cS 3)) (tOp (rI CMul fun i j=>.int (i * j)) (tC (.int 1181783497276652981)) (cS 3))) (tC (.int 2049848353892358983))) (cS 2)) (gName 3)) (tAsg (tOp (rI (fun _ j=>0 < j) fun i j=>.int (i % j)) (tOp (rI0 fun i j=>.int (i+j)) (tOp (rI CMul fun i j=>.int (i * j)) (cS 3) (cS 3)) (tC (.int 1442695040888963407))) (cS 2)) (gName 3)))
noncomputable abbrev rdTest (K:PySem.W.Frag):TT:=tOr (tTest (tOp (rI0 fun i j=>.bl (decide (j≤i))) (tOp (rIx K) (cS 0) (tC (.int 1))) (tCB (rLen K) (dF (tOp (rIx K) (cS 0) (tC (.int 0))) tNil)))) (tTest (tOp (rI0 fun i j=>.bl (decide (i < j))) (cS 3) (tOp (rI CPow fun i j=>.int (i ^ j.toNat)) (tC (.int 10)) (tC (.int 18)))))
noncomputable abbrev dE (Q:VK):Ends:={ nx:=fun _ H'=>Q .non H',rt:=Q }
theorem sc__law_draw:FnScope ["tape","many","prime","cell","found"] ["tape","many"] (aJ (bE 23)):=⟨rfl,rfl,rfl,by decide +kernel,rfl,by decide +kernel,by decide +kernel⟩
theorem ok__law_drawB {f:Addr}{fd:FuncData} (F:Fun K "_law_draw" "_law_draw" (bE 23) f fd) (T:Txt mg):FnOk P w K mg base CX0 1 f fd ["tape","many"] spDrawB:=by
 refine F.ok sc__law_draw (fun vs H Q E h=>?_) (fun cdv A outer s H vs Q E hr h=>?_)
 ·obtain⟨t,sl,many,rfl,_⟩:=h;rfl
 ·obtain⟨t,sl,many,rfl,⟨ns,pos,cell,ht,hsl,hns⟩,hm0,hm1,k⟩:=h
  have sc:=sc__law_draw
  refine⟨_,(aD (aS (i:=2) sc.nd rfl (Or.inl rfl) aE)
   (aD (dG (bJ op_lt (aT (aK (K:=K) rfl) (pv 0) aE (fun _ _=>rfl)) (pv 1) (bU _)) (aD (aS (i:=3) sc.nd rfl (Or.inl rfl) aE)
   (aD (dG (bJ op_gt (aP (aY (K:=K) rfl) rfl T.b_len PySem.boot_len (aA (aT (aK (K:=K) rfl) (pv 0) aE (fun _ _=>rfl)) aB)) aE (bU _)) (aL (aS (i:=3) sc.nd rfl (Or.inl rfl) (aT (aK (K:=K) rfl) (aT (aK (K:=K) rfl) (pv 0) aE (fun _ _=>rfl)) (aO op_mod (aT (aK (K:=K) rfl) (pv 0) aE (fun _ _=>rfl)) (aP (aY (K:=K) rfl) rfl T.b_len PySem.boot_len (aA (aT (aK (K:=K) rfl) (pv 0) aE (fun _ _=>rfl)) aB))) (fun _ _=>rfl)))) bY)
   (aD (dG (PW.pt (pw_or (bJ op_ge (aT (aK (K:=K) rfl) (pv 0) aE (fun _ _=>rfl)) (aP (aY (K:=K) rfl) rfl T.b_len PySem.boot_len (aA (aT (aK (K:=K) rfl) (pv 0) aE (fun _ _=>rfl)) aB)) (bU _)) (pw_or1 (bJ op_lt (pv 3) (aO op_pow aE aE) (bU _))))) (aD (aS (i:=3) sc.nd rfl (Or.inl rfl) (aO op_mod (aO bH (pv 3) (aO eD aE (aT (aK (K:=K) rfl) (pv 0) aE (fun _ _=>rfl)))) (pv 2)))
   (aD (aS (i:=3) sc.nd rfl (Or.inl rfl) (aO op_mod (aO bH (aO bH (aO eD (pv 3) (pv 3)) (aO eD aE (pv 3))) aE) (pv 2)))
   (aL (aS (i:=3) sc.nd rfl (Or.inl rfl) (aO op_mod (aO bH (aO eD (pv 3) (pv 3)) aE) (pv 2)))))) bY)
   (aD (cX (aO bH (aT (aK (K:=K) rfl) (pv 0) aE (fun _ _=>rfl)) aE) (pg_sub (pv 0) aE set_list))
   (aL (cX (pv 3) (pg_sub (pv 0) aE set_list))))))) bY)
   (aD (aS (i:=4) sc.nd rfl (Or.inl rfl) (aO op_mod (aT (aK (K:=K) rfl) (pv 0) aE (fun _ _=>rfl)) (pv 1)))
   (aD (cX (aO op_fdivB (aT (aK (K:=K) rfl) (pv 0) aE (fun _ _=>rfl)) (pv 1)) (pg_sub (pv 0) aE set_list))
   (aL (bL (pv 4))))))),?_⟩
  have nst:sl≠t:=ne_of hsl ht (by intro z;injection z with z;cases ns <;> simp at z)
  have ix:∀ {H1:Hp}{p' c':Int}{Q:VK},H1 t=some (.lst [.ref sl,.int p',.int c'])→Q (.ref sl) H1→rIx K (.ref t) (.int 0) H1 Q:=fun e q=>.inl ⟨t,_,0,_,rfl,rfl,bT.of e,rfl,q⟩
  have ix1:∀ {H1:Hp}{p' c':Int}{Q:VK},H1 t=some (.lst [.ref sl,.int p',.int c'])→Q (.int p') H1→rIx K (.ref t) (.int 1) H1 Q:=fun e q=>.inl ⟨t,_,1,_,rfl,rfl,bT.of e,rfl,q⟩
  have ix2:∀ {H1:Hp}{p' c':Int}{Q:VK},H1 t=some (.lst [.ref sl,.int p',.int c'])→Q (.int c') H1→rIx K (.ref t) (.int 2) H1 Q:=fun e q=>.inl ⟨t,_,2,_,rfl,rfl,bT.of e,rfl,q⟩
  have tail:∀ (v3:Option V) (H1:Hp) (p' c':Int),fC t H H1→H1 t=some (.lst [.ref sl,.int p',.int c'])→rdTail K (dE Q) [some (.ref t),some (.int many),some (.int 2305843009213693951),v3,none] H1:=by
   intro v3 H1 p' c' bt e
   refine⟨_,rfl,ix2 e ⟨_,rfl,_,_,rfl,rfl,hm0,?_⟩⟩
   refine⟨_,rfl,ix2 e ⟨_,rfl,_,_,rfl,rfl,⟨hm0,hm1⟩,_,rfl,t,_,2,2,rfl,rfl,e,rfl,_,rfl,?_⟩⟩
   refine k _ _ (bt.trans fC.upd) ⟨ns,p',c' / many,aC,?_,hns⟩ (Int.emod_nonneg _ (by omega)) (Int.emod_lt_of_pos _ hm0)
   rw[aQ nst];exact bt sl _ nst hsl
  refine⟨_,rfl,ix2 ht ⟨_,rfl,_,_,rfl,rfl,_,rfl,?_⟩⟩
  refine ite2 (fun _=>?_) (fun _=>tail none H pos cell (fC.refl H) ht)
  have mid:∀ (c':Int),rdMid K { nx:=rdTail K (dE Q),rt:=Q } [some (.ref t),some (.int many),some (.int 2305843009213693951),some (.int c'),none] H:=by
   intro c'
   refine⟨_,rfl,ix1 ht ⟨_,_,rfl,rfl,_,rfl,t,_,1,1,rfl,rfl,ht,rfl,?_⟩⟩
   refine⟨_,rfl,_,rfl,t,_,2,2,rfl,rfl,aC,rfl,?_⟩
   exact tail (some (.int c')) _ (pos+1) c' (fC.upd.trans fC.upd) aC
  have big:∀ (c':Int),tSeq (tIfS (rdTest K) (rdBody K) tNext) (rdMid K) { nx:=rdTail K (dE Q),rt:=Q } [some (.ref t),some (.int many),some (.int 2305843009213693951),some (.int c'),none] H:=by
   intro c'
   have body:∀ σ,σ=[some (.ref t),some (.int many),some (.int 2305843009213693951),some (.int c'),none]→rdBody K { nx:=rdMid K { nx:=rdTail K (dE Q),rt:=Q },rt:=Q } σ H:=by
    rintro σ rfl
    have prime:(0:Int) < 2305843009213693951:=by decide
    refine⟨_,rfl,_,rfl,ix1 ht ⟨_,_,rfl,rfl,.inl ⟨by decide,by decide⟩,_,_,rfl,rfl,_,rfl,_,_,rfl,rfl,prime,?_⟩⟩
    have b1:=Int.emod_nonneg (c'+1000003 * pos) (show (2305843009213693951:Int)≠0 by decide)
    have b2:=Int.emod_lt_of_pos (c'+1000003 * pos) prime
    generalize (c'+1000003 * pos) % 2305843009213693951=c1 at b1 b2
    refine⟨_,rfl,_,rfl,_,_,rfl,rfl,.inl ⟨by omega,by omega⟩,_,rfl,_,_,rfl,rfl,.inl ⟨by decide,by decide⟩,_,_,rfl,rfl,_,_,rfl,rfl,_,rfl,_,_,rfl,rfl,prime,?_⟩
    have b3:=Int.emod_nonneg (c1 * c1+1181783497276652981 * c1+2049848353892358983) (show (2305843009213693951:Int)≠0 by decide)
    have b4:=Int.emod_lt_of_pos (c1 * c1+1181783497276652981 * c1+2049848353892358983) prime
    generalize (c1 * c1+1181783497276652981 * c1+2049848353892358983) % 2305843009213693951=c2 at b3 b4
    refine⟨_,rfl,_,rfl,_,_,rfl,rfl,.inl ⟨by omega,by omega⟩,_,_,rfl,rfl,_,rfl,_,_,rfl,rfl,prime,?_⟩
    exact mid _
   refine⟨_,rfl,ix1 ht ⟨_,rfl,ix ht ⟨sl,_,rfl,.inl (bT.of hsl),_,_,rfl,rfl,_,rfl,?_⟩⟩⟩
   refine ite2 (fun _=>?_) (fun _=>?_)
   ·refine iteT ?_
    exact body _ rfl
   ·refine⟨_,rfl,_,_,rfl,rfl,⟨by decide,by decide,by decide⟩,_,_,rfl,rfl,_,rfl,?_⟩
    refine ite2 (fun _=>body _ rfl) (fun _=>mid _)
  refine⟨_,rfl,ix ht ⟨sl,_,rfl,.inl (bT.of hsl),_,_,rfl,rfl,_,rfl,?_⟩⟩
  refine ite2 (fun hlen=>?_) (fun _=>big 0)
  have hpos:0 < ns.length:=by have:=of_decide_eq_true hlen;simpa using this
  refine⟨_,rfl,ix ht ⟨_,rfl,ix1 ht ⟨_,rfl,ix ht ⟨sl,_,rfl,.inl (bT.of hsl),_,_,rfl,rfl,(show (0:Int) < (((ns.map V.int).length:Nat):Int) by rw[List.length_map];omega),?_⟩⟩⟩⟩
  have m1:=Int.emod_nonneg pos (show (((ns.map V.int).length:Nat):Int)≠0 by rw[List.length_map];omega)
  have m2:=Int.emod_lt_of_pos pos (show (0:Int) < (((ns.map V.int).length:Nat):Int) by rw[List.length_map];omega)
  rw[List.length_map] at m1 m2
  have hix:(ns.map V.int)[(pos % ((ns.map V.int).length:Int)).toNat]? = some (.int (ns[(pos % (ns.length:Int)).toNat]'(by omega))):=by
   rw[List.length_map,List.getElem?_map];simp [show (pos % (ns.length:Int)).toNat < ns.length by omega]
  refine .inl ⟨sl,_,_,_,rfl,rfl,bT.of hsl,atI_int (by rw[List.length_map];exact m1) hix,?_⟩
  exact big _
theorem ok__law_draw {f:Addr}{fd:FuncData} (F:Fun K "_law_draw" "_law_draw" (bE 23) f fd) (T:Txt mg):FnOk P w K mg base CX0 1 f fd ["tape","many"] spDraw:=
 (ok__law_drawB F T).imp fun vs H Q E ⟨t,sl,many,e,tp,h0,h1,k⟩=>⟨t,sl,many,e,tp,h0,Int.lt_of_lt_of_le h1 (by decide),k⟩
end
end Tw
namespace Tw
open PySem L2
structure Ext (t sl:Addr) (H H':Hp):Prop where
 bt:fC t H H'
 tp:eV H' t sl
theorem eV.some {H:Hp}{t sl:Addr} (h:eV H t sl):∃ o,H t=some o:=by obtain⟨ns,pos,cell,e,_⟩:=h;exact⟨_,e⟩
theorem eV.put {H:Hp}{t sl p:Addr}{o:HO} (h:eV H t sl) (h1:p≠t) (h2:p≠sl):eV (upd H p o) t sl:=by
 obtain⟨ns,pos,cell,e,f,g⟩:=h
 exact⟨ns,pos,cell,by rw[aQ (Ne.symm h1)];exact e,by rw[aQ (Ne.symm h2)];exact f,g⟩
theorem eV.ne_sl {H:Hp}{t sl p:Addr} (h:eV H t sl) (hp:H p=none):p≠sl:=by
 obtain⟨ns,pos,cell,e,f,g⟩:=h
 exact fun z=>by rw[z,f] at hp;cases hp
theorem Ext.new {t sl p:Addr}{H H':Hp}{o:HO} (e:Ext t sl H H') (hp:H' p=none):Ext t sl H (upd H' p o):=⟨e.bt.trans (aG.new hp).but,e.tp.same (aG.new hp)⟩
theorem Ext.ne {t sl p:Addr}{H H':Hp} (e:Ext t sl H H') (hp:H' p=none):p≠t:=by
 obtain⟨o,h⟩:=e.tp.some
 intro z;rw[z,h] at hp;cases hp
theorem Ext.ts {K:PySem.W.Frag}{t sl:Addr}{H H':Hp} (e:Ext t sl H H') (tp:eV H t sl):cA K H H':=e.bt.ts tp.mut
noncomputable def Gn (t sl:Addr) (σ:St) (H0:Hp) (P:V→Prop) (te:TE):Prop:=∀ H Q,Ext t sl H0 H→(∀ v H',Ext t sl H0 H'→fC t H H'→P v→Q v H')→te σ H Q
section
variable {K:PySem.W.Frag}{t sl:Addr}{σ:St}{H0:Hp}{P:V→Prop}{a b c d:TE}
noncomputable def dC (lo hi:Int):V→Prop:=fun v=>∃ i,v=.int i∧lo≤i∧i < hi
theorem Gn.imp {P':V→Prop} (h:Gn t sl σ H0 P a) (f:∀ v,P v→P' v):Gn t sl σ H0 P' a:=fun H Q e k=>h H Q e fun v H' e' b p=>k v H' e' b (f v p)
theorem gn_c {v:V} (h:P v):Gn t sl σ H0 P (tC v):=fun H Q e k=>k v H e (fC.refl H) h
theorem gn_v {i:Nat}{v:V} (hσ:σ[i]? = some (some v)) (h:P v):Gn t sl σ H0 P (cS i):=fun H Q e k=>⟨v,hσ,k v H e (fC.refl H) h⟩
theorem gn_pick2 (ha:Gn t sl σ H0 P a) (hb:Gn t sl σ H0 P b) (hc:Gn t sl σ H0 (dC 0 2) c):Gn t sl σ H0 P (tOp (rIx K) (tLst (dF a (dF b tNil))) c):=by
 intro H Q e k
 refine ha H _ e fun v1 H1 e1 b1 p1=>hb H1 _ e1 fun v2 H2 e2 b2 p2=>⟨(show 2≤sizeLine by decide),fun p hp=>hc _ _ (e2.new hp) fun v H3 e3 b3 ⟨i,hi,h0,h1⟩=>?_⟩
 subst hi
 have hl:=b3 p _ (e2.ne hp) aC
 have hb:fC t H H3:=b1.trans (b2.trans ((aG.new hp).but.trans b3))
 rcases (show i=0∨i=1 by omega) with rfl | rfl
 ·exact .inl ⟨p,_,0,v1,rfl,rfl,bT.of hl,rfl,k v1 H3 e3 hb p1⟩
 ·exact .inl ⟨p,_,1,v2,rfl,rfl,bT.of hl,rfl,k v2 H3 e3 hb p2⟩
theorem gn_pick3 (ha:Gn t sl σ H0 P a) (hb:Gn t sl σ H0 P b) (hd:Gn t sl σ H0 P d) (hc:Gn t sl σ H0 (dC 0 3) c):Gn t sl σ H0 P (tOp (rIx K) (tLst (dF a (dF b (dF d tNil)))) c):=by
 intro H Q e k
 refine ha H _ e fun v1 H1 e1 b1 p1=>hb H1 _ e1 fun v2 H2 e2 b2 p2=>hd H2 _ e2 fun v4 H4 e4 b4 p4=>⟨(show 3≤sizeLine by decide),fun p hp=>hc _ _ (e4.new hp) fun v H3 e3 b3 ⟨i,hi,h0,h1⟩=>?_⟩
 subst hi
 have hl:=b3 p _ (e4.ne hp) aC
 have hb:fC t H H3:=b1.trans (b2.trans (b4.trans ((aG.new hp).but.trans b3)))
 rcases (show i=0∨i=1∨i=2 by omega) with rfl | rfl | rfl
 ·exact .inl ⟨p,_,0,v1,rfl,rfl,bT.of hl,rfl,k v1 H3 e3 hb p1⟩
 ·exact .inl ⟨p,_,1,v2,rfl,rfl,bT.of hl,rfl,k v2 H3 e3 hb p2⟩
 ·exact .inl ⟨p,_,2,v4,rfl,rfl,bT.of hl,rfl,k v4 H3 e3 hb p4⟩
theorem gn_draw {i:Nat}{lo hi:Int} (hσ:σ[i]? = some (some (.ref t))) (hlo:0 < lo) (hhi:hi≤1000000) (ha:Gn t sl σ H0 (dC lo hi) a):Gn t sl σ H0 (fun v=>∃ r m,v=.int r∧0≤r∧r < m∧lo≤m∧m < hi) (tCall spDraw [] E0 (dF (cS i) (dF a tNil))):=by
 intro H Q e k
 refine⟨_,hσ,ha H _ e fun v H1 e1 b1 ⟨m,hm,h0,h1⟩=>?_⟩
 subst hm
 exact⟨t,sl,m,rfl,e1.tp,by omega,by omega,fun r H2 b2 t2 r0 r1=>k _ H2 ⟨e1.bt.trans b2,t2⟩ (b1.trans b2) ⟨r,m,rfl,r0,r1,h0,h1⟩⟩
theorem cC {i:Nat}{m:Int} (hσ:σ[i]? = some (some (.ref t))) (h0:0 < m) (h1:m < 1000000):Gn t sl σ H0 (dC 0 m) (tCall spDraw [] E0 (dF (cS i) (dF (tC (.int m)) tNil))):=
 (gn_draw (lo:=m) (hi:=m+1) hσ h0 (by omega) (gn_c ⟨m,rfl,by omega,by omega⟩)).imp fun v ⟨r,m',e,a,b,c,d⟩=>⟨r,e,a,by omega⟩
theorem gn_drawv {i j:Nat}{m:Int} (hσ:σ[i]? = some (some (.ref t))) (hj:σ[j]? = some (some (.int m))) (h0:0 < m) (h1:m < 1000000):Gn t sl σ H0 (dC 0 m) (tCall spDraw [] E0 (dF (cS i) (dF (cS j) tNil))):=
 (gn_draw (lo:=m) (hi:=m+1) hσ h0 (by omega) (gn_v hj ⟨m,rfl,by omega,by omega⟩)).imp fun v ⟨r,m',e,a,b,c,d⟩=>⟨r,e,a,by omega⟩
theorem gn_add {x y l h:Int} (ha:Gn t sl σ H0 (dC x y) a) (hb:Gn t sl σ H0 (dC l h) b):Gn t sl σ H0 (dC (x+l) (y+h - 1)) (tOp (rI0 fun i j=>.int (i+j)) a b):=by
 intro H Q e k
 refine ha H _ e fun v1 H1 e1 b1 ⟨i,hi,i0,i1⟩=>hb H1 _ e1 fun v2 H2 e2 b2 ⟨j,hj,j0,j1⟩=>?_
 subst hi hj
 exact⟨i,j,rfl,rfl,k _ H2 e2 (b1.trans b2) ⟨_,rfl,by omega,by omega⟩⟩
theorem gn_div {y m:Int} (hm:0 < m) (hm2:m < 1000000) (ha:Gn t sl σ H0 (dC 0 y) a):Gn t sl σ H0 (fun v=>∃ i,v=.int (i / m)∧0≤i∧i < y) (tOp (rI CDiv fun i j=>.int (i / j)) a (tC (.int m))):=by
 intro H Q e k
 refine ha H _ e fun v1 H1 e1 b1 ⟨i,hi,i0,i1⟩=>?_
 subst hi
 exact⟨i,m,rfl,rfl,⟨hm,by omega⟩,k _ H1 e1 b1 ⟨i,rfl,i0,i1⟩⟩
theorem gn_eq0 {y c0:Int} (ha:Gn t sl σ H0 (dC 0 y) a):Gn t sl σ H0 (fun v=>∃ b:Bool,v=.bl b) (tOp rEq a (tC (.int c0))):=by
 intro H Q e k
 refine ha H _ e fun v1 H1 e1 b1 ⟨i,hi,i0,i1⟩=>?_
 subst hi
 exact⟨rfl,k _ H1 e1 b1 ⟨_,rfl⟩⟩
theorem gn_gt0 {y c0:Int} (ha:Gn t sl σ H0 (dC 0 y) a):Gn t sl σ H0 (fun v=>∃ b:Bool,v=.bl b) (tOp (rI0 fun i j=>.bl (decide (j < i))) a (tC (.int c0))):=by
 intro H Q e k
 refine ha H _ e fun v1 H1 e1 b1 ⟨i,hi,i0,i1⟩=>?_
 subst hi
 exact⟨i,c0,rfl,rfl,k _ H1 e1 b1 ⟨_,rfl⟩⟩
noncomputable abbrev rInt1:List V→Hp→VK→Prop:=fun xs H Q=>(∃ i,xs=[.int i]∧Q (.int i) H)∨∃ k,xs=[.bl k]∧Q (.int (if k then 1 else 0)) H
theorem gn_small {i:Nat}{s:Bool} (hσ:σ[i]? = some (some (.bl s))):Gn t sl σ H0 (dC 0 2) (tCB rInt1 (dF (cS i) tNil)):=by
 intro H Q e k
 refine⟨_,hσ,.inr ⟨s,rfl,k _ H e (fC.refl H) ?_⟩⟩
 cases s
 ·exact⟨0,rfl,by omega,by omega⟩
 ·exact⟨1,rfl,by omega,by omega⟩
theorem gn_menu {i:Nat}{s:Bool}{x y lo hi:Int} (hσ:σ[i]? = some (some (.bl s))) (h1:lo≤x∧x < hi) (h2:lo≤y∧y < hi):Gn t sl σ H0 (dC lo hi) (tOp (rIx K) (tLst (dF (tC (.int x)) (dF (tC (.int y)) tNil))) (tCB rInt1 (dF (cS i) tNil))):=
 gn_pick2 (gn_c ⟨x,rfl,h1.1,h1.2⟩) (gn_c ⟨y,rfl,h2.1,h2.2⟩) (gn_small hσ)
theorem gn_half (ha:Gn t sl σ H0 (dC 0 4) a):Gn t sl σ H0 (dC 0 2) (tOp (rI CDiv fun i j=>.int (i / j)) a (tC (.int 3))):=
 (gn_div (by decide) (by decide) ha).imp fun v ⟨i,e,a,b⟩=>⟨i / 3,e,by omega,by omega⟩
theorem gn_up {lo hi lo' hi':Int} (h:Gn t sl σ H0 (dC lo hi) a) (h1:lo'≤lo) (h2:hi≤hi'):Gn t sl σ H0 (dC lo' hi') a:=h.imp fun v ⟨i,e,a,b⟩=>⟨i,e,by omega,by omega⟩
theorem gn_drawm {i:Nat}{lo hi:Int} (hσ:σ[i]? = some (some (.ref t))) (hlo:0 < lo) (hhi:hi≤1000000) (ha:Gn t sl σ H0 (dC lo hi) a):Gn t sl σ H0 (dC 0 (hi - 1)) (tCall spDraw [] E0 (dF (cS i) (dF a tNil))):=
 (gn_draw hσ hlo hhi ha).imp fun v ⟨r,m,e,a,b,c,d⟩=>⟨r,e,a,by omega⟩
end
section
variable {P:Program}{w:World}{K:PySem.W.Frag}{mg:Str→Option Value}{base:Heap}
noncomputable def spOuts (K:PySem.W.Frag):Sp:=fun args H Q _=>∃ (t sl:Addr) (n:Nat) (small:Bool),args=[.ref t,.int (n:Int),.bl small]∧eV H t sl∧1≤n∧n≤12∧
 ∀ (outs:List (Option Int×Int)) p H',Ext t sl H H'→outs≠[]→outs.length≤3→(∀ o∈outs,OutOk n o)→Is K H' (.tup (outs.map outD)) p→Q p H'
theorem sc__law_outs:FnScope ["tape","many","small","outs","k","target","parts"] ["tape","many","small"] (aJ (bE 24)):=⟨rfl,rfl,rfl,by decide +kernel,rfl,by decide +kernel,by decide +kernel⟩
theorem ok__law_outs {f fD:Addr}{fd fdD:FuncData} (F:Fun K "_law_outs" "_law_outs" (bE 24) f fd) (T:Txt mg) (G__law_draw:Callee P w K mg base "_law_draw" ["tape","many"] 1 spDraw fD fdD):FnOk P w K mg base CX0 2 f fd ["tape","many","small"] (spOuts K):=by
 refine F.ok sc__law_outs (fun vs H Q E h=>?_) (fun cdv A outer s H vs Q E hr h=>?_)
 ·obtain⟨t,sl,n,small,rfl,_⟩:=h;rfl
 ·obtain⟨t,sl,n,small,rfl,tp,n1,n2,k⟩:=h
  have sc:=sc__law_outs
  refine⟨_,(aD (aS (i:=3) sc.nd rfl (Or.inl rfl) (cB aB))
   (aD (dL PassesOwn.never rfl (cP rfl T.b_range (aA (aO bH aE (aT (aK (K:=K) rfl) (cB (aA (dZ G__law_draw hr (aA (pv 0) (aA aE aB))) (aA (dZ G__law_draw hr (aA (pv 0) (aA aE aB))) aB))) (dZ G__law_draw hr (aA (pv 0) (aA aE aB))) (fun _ _=>rfl))) aB)) (aH (i:=4) sc.nd rfl (Or.inl rfl)) (aD (aS (i:=5) sc.nd rfl (Or.inl rfl) (aT (aK (K:=K) rfl) (cB (aA dR (aA (dZ G__law_draw hr (aA (pv 0) (aA (pv 1) aB))) (aA (dZ G__law_draw hr (aA (pv 0) (aA (pv 1) aB))) aB)))) (dZ G__law_draw hr (aA (pv 0) (aA aE aB))) (fun _ _=>rfl)))
   (aD (aS (i:=6) sc.nd rfl (Or.inl rfl) (aT (aK (K:=K) rfl) (cB (aA (dZ G__law_draw hr (aA (pv 0) (aA aE aB))) (aA (dZ G__law_draw hr (aA (pv 0) (aA (aT (aK (K:=K) rfl) (cB (aA aE (aA aE aB))) (bD call_int1 rfl T.b_int bt_int (aA (pv 2) aB)) (fun _ _=>rfl)) aB))) aB))) (aO fH (dZ G__law_draw hr (aA (pv 0) (aA aE aB))) aE) (fun _ _=>rfl)))
   (aL (dA (pe_bmK (K:=K) rfl PySem.F.plainAttrs_list PySem.F.slot_list_append PySem.F.type_list_append cQ (pv 3) (aA (bA (aA (pv 5) (aA (aO bH aE (pv 6)) aB))) aB)))))))
   (aL (bL (bD (cU (K:=K) rfl) rfl T.b_tuple dB (aA (pv 3) aB)))))),?_⟩
  refine⟨Nat.zero_le _,fun ol hol=>?_⟩
  have e0:Ext t sl H (upd H ol (.lst [])):=Ext.new ⟨fC.refl H,tp⟩ hol
  have no:ol≠t:=Ext.ne ⟨fC.refl H,tp⟩ hol
  refine gn_add (x:=1) (y:=2) (l:=0) (h:=3) (H0:=upd H ol (.lst [])) (t:=t) (sl:=sl) (gn_c ⟨1,rfl,by omega,by omega⟩)
   (gn_pick2 (gn_up (cC rfl (by decide) (by decide)) (Int.le_refl _) (by decide)) (cC rfl (by decide) (by decide)) (cC rfl (by decide) (by decide))) _ _ ⟨fC.refl _,e0.tp⟩ ?_
  rintro v H1 e1 _ ⟨m,rfl,m0,m1⟩
  refine⟨m,rfl,by omega,by omega,?_⟩
  refine eI (lo:=0) (n:=m.toNat) (fun i σ' H'=>Ext t sl H H'∧∃ (outs:List (Option Int×Int)) (xs:List V),H' ol=some (.lst xs)∧IsL K H' (outs.map outD) xs∧outs.length=i∧(∀ o∈outs,OutOk n o)∧
   ∃ v4 v5 v6,σ'=[some (.ref t),some (.int (n:Int)),some (.bl small),some (.ref ol),v4,v5,v6]) ?_ ?_ ?_
  ·exact⟨⟨e0.bt.trans e1.bt,e1.tp⟩,[],[],e1.bt ol _ no aC,.nil,rfl,fun o ho=>(nomatch ho),none,none,none,rfl⟩
  ·rintro i σ' H2 hi ⟨e2,outs,xs,ho,hl,hlen,hok,v4,v5,v6,rfl⟩
   refine gn_pick3 (H0:=H2) (t:=t) (sl:=sl) (P:=fun v=>∃ o:Option Int,v=tgV o∧∀ z,o=some z→0≤z∧z < n) (gn_c ⟨none,rfl,fun z h=>nomatch h⟩)
    ((gn_drawv (m:=(n:Int)) rfl rfl (by omega) (by omega)).imp fun v ⟨r,e,a,b⟩=>⟨some r,e,fun z h=>by cases h;exact⟨a,by omega⟩⟩)
    ((gn_drawv (m:=(n:Int)) rfl rfl (by omega) (by omega)).imp fun v ⟨r,e,a,b⟩=>⟨some r,e,fun z h=>by cases h;exact⟨a,by omega⟩⟩) (cC rfl (by decide) (by decide)) _ _ ⟨fC.refl _,e2.tp⟩ ?_
   rintro v H3 e3 _ ⟨tg,rfl,htg⟩
   refine gn_pick2 (H0:=H3) (t:=t) (sl:=sl) (P:=dC 0 60) (gn_up (cC rfl (by decide) (by decide)) (Int.le_refl _) (by decide))
    (gn_up (gn_drawm (lo:=3) (hi:=61) rfl (by decide) (by decide) (gn_menu rfl ⟨by decide,by decide⟩ ⟨by decide,by decide⟩)) (Int.le_refl _) (by decide)) (gn_half (cC rfl (by decide) (by decide))) _ _ ⟨fC.refl _,e3.tp⟩ ?_
   rintro v H4 e4 _ ⟨pt,rfl,p0,p1⟩
   have ho4:H4 ol=some (.lst xs):=e4.bt ol _ no (e3.bt ol _ no ho)
   refine⟨_,rfl,.inl ⟨rfl,_,bT.of ho4⟩,_,rfl,_,rfl,_,_,rfl,rfl,(show 2≤sizeLine by decide),fun q hq=>?_⟩
   have nq:ol≠q:=aN ho4 hq
   have hxl:xs.length=outs.length:=by rw[hl.length,List.length_map]
   have hm3:m.toNat≤3:=by omega
   refine⟨ol,xs,_,rfl,rfl,by rw[aQ nq];exact ho4,bC (by omega),?_⟩
   have e5:Ext t sl H2 (upd H4 q (.tup [tgV tg,.int (1+pt)])):=Ext.new ⟨e3.bt.trans e4.bt,e4.tp⟩ hq
   have ts:cA K H2 (upd (upd H4 q (.tup [tgV tg,.int (1+pt)])) ol (.lst (xs++[.ref q]))):=cA.put (e5.ts e2.tp) (.inr (by rw[aQ nq,ho4];exact trivial))
   refine⟨⟨fun b o hb e=>?_,?_⟩,outs++[(tg,1+pt)],xs++[.ref q],aC,?_,by simp [hlen],?_,_,_,_,rfl⟩
   ·rw[aQ (aN e hol)];exact e5.bt b o hb (e2.bt b o hb e)
   ·exact e5.tp.put no (eV.ne_sl tp hol)
   ·rw[List.map_append]
    exact IsL.snoc (Is.tupOf (ds:=[tgD tg,.int (1+pt)]) (cA.put (cA.refl _) (.inr (by rw[aQ nq,ho4];exact trivial)) _ _ (bR.of aC)) (.cons (Is.tgOf tg) (.cons (Is.i _) .nil))) (IsL.mono ts _ _ hl)
   ·intro o ho
    rcases List.mem_append.mp ho with ho | ho
    ·exact hok o ho
    ·rw[List.mem_singleton.mp ho]
     exact⟨fun z hz=>htg z hz,by show 1≤1+pt;omega,by show 1+pt≤60;omega⟩
  ·rintro σ' H2 ⟨e2,outs,xs,ho,hl,hlen,hok,v4,v5,v6,rfl⟩
   refine⟨_,rfl,ol,_,rfl,.inl ⟨bT.of ho,fun l hlf=>?_⟩⟩
   refine k outs _ _ (e2.new hlf) (fun z=>by rw[z] at hlen;simp at hlen;omega) (by omega) hok (Is.tupOf (bR.of aC) (IsL.mono (aG.new hlf).ts _ _ hl))
end
end Tw
namespace L2
theorem if_by {c:TT}{a b:TS}{D:Ends}{σ:St}{H:Hp} (I:St→Hp→Prop) (h1:∀ D':Ends,(∀ σ' H',I σ' H'→D'.nx σ' H')→tIfS c a b D' σ H) (h2:∀ σ' H',I σ' H'→D.nx σ' H'):tIfS c a b D σ H:=h1 D h2
theorem for_by {i:TI}{g:TG}{b:TS}{D:Ends}{σ:St}{H:Hp} (I:St→Hp→Prop) (h1:∀ D':Ends,(∀ σ' H',I σ' H'→D'.nx σ' H')→tFor i g b D' σ H) (h2:∀ σ' H',I σ' H'→D.nx σ' H'):tFor i g b D σ H:=h1 D h2
end L2
namespace Tw
open PySem L2
section
variable {K:PySem.W.Frag}{t sl:Addr}{σ:St}{H0:Hp}{P:V→Prop}{a b c d:TE}
theorem if_draw0 {y c0:Int}{t' u':TS}{D':Ends}{H:Hp} (ha:Gn t sl σ H0 (dC 0 y) a) (e:Ext t sl H0 H) (k:∀ (b:Bool) H',Ext t sl H0 H'→fC t H H'→if b=true then t' D' σ H' else u' D' σ H'):tIfS (tTest (tOp rEq a (tC (.int c0)))) t' u' D' σ H:=
 gn_eq0 ha H _ e fun v H' e' b ⟨c,hc⟩=>⟨c,hc,k c H' e' b⟩
theorem gn_mulnot {i:Nat}{s:Bool} (hσ:σ[i]? = some (some (.bl s))) (ha:Gn t sl σ H0 (dC 0 2) a):Gn t sl σ H0 (dC 0 2) (tOp (rI CMul fun i j=>.int (i * j)) a (tCB rInt1 (dF (tNotV (cS i)) tNil))):=by
 intro H Q e k
 refine ha H _ e fun v1 H1 e1 b1 ⟨j,hj,j0,j1⟩=>⟨_,hσ,s,rfl,.inr ⟨!s,rfl,?_⟩⟩
 subst hj
 refine⟨j,_,rfl,rfl,.inl ⟨by omega,by omega⟩,k _ H1 e1 b1 ?_⟩
 cases s
 ·exact⟨j,by simp,j0,j1⟩
 ·exact⟨0,by simp,by omega,by omega⟩
theorem gn_subcv {j:Nat}{x y:Int} (hj:σ[j]? = some (some (.int y))):Gn t sl σ H0 (dC (x - y) (x - y+1)) (tOp (rI0 fun i j=>.int (i - j)) (tC (.int x)) (cS j)):=fun H Q e k=>
 ⟨_,hj,x,y,rfl,rfl,k _ H e (fC.refl H) ⟨_,rfl,by omega,by omega⟩⟩
theorem gn_addv {j:Nat}{y l h:Int} (hj:σ[j]? = some (some (.int y))) (hb:Gn t sl σ H0 (dC l h) b):Gn t sl σ H0 (dC (y+l) (y+h)) (tOp (rI0 fun i j=>.int (i+j)) (cS j) b):=
 gn_up (gn_add (x:=y) (y:=y+1) (gn_v hj ⟨y,rfl,by omega,by omega⟩) hb) (by omega) (by omega)
end
section
variable {P:Program}{w:World}{K:PySem.W.Frag}{mg:Str→Option Value}{base:Heap}
structure VFull (i:Nat) (v:Vs):Prop where
 sz:v.size≤60
 br:v.size≤v.brim
 bh:v.brim≤200
 sp:∀ t,v.spill=some t→(i:Int) < t
structure NetFull (net:Net):Prop where
 vs:∀ i v,net.vs[i]? = some v→VFull i v
 sps:∀ s∈net.sps,0≤s.2.1∧s.2.1≤60
noncomputable def spVessel (K:PySem.W.Frag):Sp:=fun args H Q _=>∃ (t sl:Addr) (i n m:Nat) (small:Bool),args=[.ref t,.int (i:Int),.int (n:Int),.int (m:Int),.bl small]∧eV H t sl∧i < n∧n≤12∧m≤12∧
 ∀ (v:Vs) p H',Ext t sl H H'→VOk n m v→VFull i v→Is K H' (vsD v) p→Q p H'
theorem sc__law_vessel:FnScope ["tape","number","many","spouts","small","size","brim","spill","acts","k"] ["tape","number","many","spouts","small"] (aJ (bE 25)):=⟨rfl,rfl,rfl,by decide +kernel,rfl,by decide +kernel,by decide +kernel⟩
theorem ok__law_vessel {f fD fO:Addr}{fd fdD fdO:FuncData} (F:Fun K "_law_vessel" "_law_vessel" (bE 25) f fd) (T:Txt mg) (G__law_draw:Callee P w K mg base "_law_draw" ["tape","many"] 1 spDraw fD fdD)
  (G__law_outs:Callee P w K mg base "_law_outs" ["tape","many","small"] 2 (spOuts K) fO fdO):FnOk P w K mg base CX0 3 f fd ["tape","number","many","spouts","small"] (spVessel K):=by
 refine F.ok sc__law_vessel (fun vs H Q E h=>?_) (fun cdv A outer s H vs Q E hr h=>?_)
 ·obtain⟨t,sl,i,n,m,small,rfl,_⟩:=h;rfl
 ·obtain⟨t,sl,i,n,m,small,rfl,tp,hi,hn,hm,k⟩:=h
  have sc:=sc__law_vessel
  refine⟨_,(aD (aS (i:=5) sc.nd rfl (Or.inl rfl) (aO bH aE (aT (aK (K:=K) rfl) (cB (aA (dZ G__law_draw hr (aA (pv 0) (aA (aT (aK (K:=K) rfl) (cB (aA aE (aA aE aB))) (bD call_int1 rfl T.b_int bt_int (aA (pv 4) aB)) (fun _ _=>rfl)) aB))) (aA (dZ G__law_draw hr (aA (pv 0) (aA (aT (aK (K:=K) rfl) (cB (aA aE (aA aE aB))) (bD call_int1 rfl T.b_int bt_int (aA (pv 4) aB)) (fun _ _=>rfl)) aB))) aB))) (aO fH (dZ G__law_draw hr (aA (pv 0) (aA aE aB))) aE) (fun _ _=>rfl))))
   (aD (aS (i:=6) sc.nd rfl (Or.inl rfl) (aO bH (pv 5) (aT (aK (K:=K) rfl) (cB (aA aE (aA (dZ G__law_draw hr (aA (pv 0) (aA (aO d7 aE (pv 5)) aB))) aB))) (aO eD (dZ G__law_draw hr (aA (pv 0) (aA aE aB))) (bD call_int1 rfl T.b_int bt_int (aA (pe_not (pv 4)) aB))) (fun _ _=>rfl))))
   (aD (dG (bJ op_eq (dZ G__law_draw hr (aA (pv 0) (aA aE aB))) aE (bU _)) (aL (aS (i:=6) sc.nd rfl (Or.inl rfl) (aO bH (pv 5) (dZ G__law_draw hr (aA (pv 0) (aA aE aB)))))) bY)
   (aD (aS (i:=7) sc.nd rfl (Or.inl rfl) dR)
   (aD (dG (PW.pt (pw_and (bJ op_lt (aO bH (pv 1) aE) (pv 2) (bU _)) (pw_and1 (bJ op_eq (dZ G__law_draw hr (aA (pv 0) (aA aE aB))) aE (bU _))))) (aL (aS (i:=7) sc.nd rfl (Or.inl rfl) (aO bH (aO bH (pv 1) aE) (dZ G__law_draw hr (aA (pv 0) (aA (aO d7 (aO d7 (pv 2) (pv 1)) aE) aB)))))) bY)
   (aD (aS (i:=8) sc.nd rfl (Or.inl rfl) (cB aB))
   (aD (dG (bJ op_gt (pv 3) aE (bU _)) (aL (dL PassesOwn.never rfl (cP rfl T.b_range (aA (aO fH (dZ G__law_draw hr (aA (pv 0) (aA aE aB))) aE) aB)) (aH (i:=9) sc.nd rfl (Or.inl rfl)) (aL (dA (pe_bmK (K:=K) rfl PySem.F.plainAttrs_list PySem.F.slot_list_append PySem.F.type_list_append cQ (pv 8) (aA (bA (aA (aT (aK (K:=K) rfl) (cB (aA pe_str (aA pe_str (aA pe_str aB)))) (dZ G__law_draw hr (aA (pv 0) (aA aE aB))) (fun _ _=>rfl)) (aA (dZ G__law_draw hr (aA (pv 0) (aA (pv 3) aB))) aB))) aB)))))) bY)
   (aL (bL (bA (aA (pv 5) (aA (pv 6) (aA (dZ G__law_outs hr (aA (pv 0) (aA (pv 2) (aA (pv 4) aB)))) (aA (pe_cmpR op_eq (dZ G__law_draw hr (aA (pv 0) (aA aE aB))) aE (bU _)) (aA (pv 7) (aA (bD (cU (K:=K) rfl) rfl T.b_tuple dB (aA (pv 8) aB)) aB)))))))))))))))),?_⟩
  refine gn_add (t:=t) (sl:=sl) (H0:=H) (x:=1) (y:=2) (l:=0) (h:=60) (gn_c ⟨1,rfl,by omega,by omega⟩)
   (gn_pick2 (gn_up (gn_drawm (lo:=4) (hi:=10) rfl (by decide) (by decide) (gn_menu rfl ⟨by decide,by decide⟩ ⟨by decide,by decide⟩)) (Int.le_refl _) (by decide))
    (gn_up (gn_drawm (lo:=4) (hi:=61) rfl (by decide) (by decide) (gn_menu rfl ⟨by decide,by decide⟩ ⟨by decide,by decide⟩)) (Int.le_refl _) (by decide)) (gn_half (cC rfl (by decide) (by decide)))) _ _ ⟨fC.refl _,tp⟩ ?_
  rintro v H1 e1 _ ⟨size,rfl,s0,s1⟩
  refine gn_addv (t:=t) (sl:=sl) (H0:=H) (y:=size) (l:=0) (h:=201 - size) rfl (gn_pick2 (gn_c ⟨0,rfl,by omega,by omega⟩)
   (gn_up (gn_drawm (lo:=201 - size) (hi:=201 - size+1) rfl (by omega) (by omega) (gn_subcv rfl)) (Int.le_refl _) (by omega)) (gn_mulnot rfl (cC rfl (by decide) (by decide)))) _ _ e1 ?_
  rintro v H2 e2 _ ⟨brim,rfl,br0,br1⟩
  dsimp only [tSeq,tAsg,tC,gName]
  refine if_by (fun σ' H'=>Ext t sl H H'∧∃ brim,size≤brim∧brim≤200∧σ'=[some (.ref t),some (.int (i:Int)),some (.int (n:Int)),some (.int (m:Int)),some (.bl small),some (.int size),some (.int brim),none,none,none]) (fun D' hD=>?_) ?_
  ·refine if_draw0 (t:=t) (sl:=sl) (H0:=H) (cC rfl (by decide) (by decide)) e2 fun b H3 e3 _=>?_
   cases b with
   | false=>exact iteF (hD _ _ ⟨e3,brim,by omega,by omega,rfl⟩)
   | true=>
    refine iteT ?_
    refine gn_addv (t:=t) (sl:=sl) (H0:=H) (y:=size) (l:=0) (h:=3) rfl (cC rfl (by decide) (by decide)) _ _ e3 ?_
    rintro v H4 e4 _ ⟨b2,rfl,c0,c1⟩
    exact hD _ _ ⟨e4,b2,by omega,by omega,rfl⟩
  rintro σ3 H3 ⟨e3,brim,hb1,hb2,rfl⟩
  dsimp only [tSeq,tAsg,tC,gName]
  refine if_by (fun σ' H'=>Ext t sl H H'∧∃ sp:Option Int,(∀ z,sp=some z→(0≤z∧z < n)∧(i:Int) < z)∧σ'=[some (.ref t),some (.int (i:Int)),some (.int (n:Int)),some (.int (m:Int)),some (.bl small),some (.int size),some (.int brim),some (tgV sp),none,none]) (fun D' hD=>?_) ?_
  ·refine⟨_,rfl,_,_,rfl,rfl,_,rfl,_,_,rfl,rfl,_,rfl,?_⟩
   refine ite2 (fun hlt=>?_) (fun _=>iteF (hD _ _ ⟨e3,none,(fun z h=>nomatch h),rfl⟩))
   have hlt':(i:Int)+1 < n:=of_decide_eq_true hlt
   refine gn_eq0 (t:=t) (sl:=sl) (H0:=H) (cC rfl (by decide) (by decide)) _ _ e3 ?_
   rintro v H4 e4 _ ⟨b,rfl⟩
   refine⟨b,rfl,?_⟩
   cases b with
   | false=>exact iteF (hD _ _ ⟨e4,none,(fun z h=>nomatch h),rfl⟩)
   | true=>
    refine iteT ?_
    refine⟨_,rfl,_,_,rfl,rfl,_,rfl,_,rfl,_,rfl,_,_,rfl,rfl,_,_,rfl,rfl,t,sl,(n:Int) - i - 1,rfl,e4.tp,by omega,by omega,fun r H5 b5 t5 r0 r1=>⟨_,_,rfl,rfl,?_⟩⟩
    exact hD _ _ ⟨⟨e4.bt.trans b5,t5⟩,some ((i:Int)+1+r),fun z h=>by cases h;omega,rfl⟩
  rintro σ4 H4 ⟨e4,sp,hsp,rfl⟩
  refine⟨Nat.zero_le _,fun al hal=>?_⟩
  dsimp only [tSeq,tAsg,tC,gName]
  have fal:H al=none:=e4.bt.free (e4.ne hal) hal
  have nal:al≠t:=e4.ne hal
  refine if_by (fun σ' H'=>Ext t sl H H'∧∃ (acts:List (Str×Int)) (xs:List V),H' al=some (.lst xs)∧L2.IsL K H' (acts.map actD) xs∧acts.length≤3∧(∀ a∈acts,ActOk m a)∧
   ∃ v9,σ'=[some (.ref t),some (.int (i:Int)),some (.int (n:Int)),some (.int (m:Int)),some (.bl small),some (.int size),some (.int brim),some (tgV sp),some (.ref al),v9]) (fun D' hD=>?_) ?_
  ·refine⟨_,rfl,_,_,rfl,rfl,_,rfl,?_⟩
   refine ite2 (fun hlt=>?_) (fun _=>hD _ _ ⟨e4.new hal,[],[],aC,.nil,by simp,fun a ha=>(nomatch ha),none,rfl⟩)
   have hm0:(0:Int) < m:=of_decide_eq_true hlt
   refine gn_div (t:=t) (sl:=sl) (H0:=H) (by decide) (by decide) (cC (m:=11) rfl (by decide) (by decide)) _ _ (e4.new hal) ?_
   rintro v H5 e5 b5 ⟨c,rfl,c0,c1⟩
   refine⟨_,rfl,by omega,by omega,?_⟩
   refine eI (lo:=0) (n:=(c / 3).toNat) (fun j σ' H'=>Ext t sl H H'∧∃ (acts:List (Str×Int)) (xs:List V),H' al=some (.lst xs)∧L2.IsL K H' (acts.map actD) xs∧acts.length=j∧(∀ a∈acts,ActOk m a)∧
    ∃ v9,σ'=[some (.ref t),some (.int (i:Int)),some (.int (n:Int)),some (.int (m:Int)),some (.bl small),some (.int size),some (.int brim),some (tgV sp),some (.ref al),v9]) ?_ ?_ ?_
   ·exact⟨e5,[],[],b5 al _ nal aC,.nil,rfl,fun a ha=>(nomatch ha),none,rfl⟩
   ·rintro j σ' H6 hj ⟨e6,acts,xs,ha,hl,hlen,hok,v9,rfl⟩
    refine⟨_,rfl,.inl ⟨rfl,_,bT.of ha⟩,?_⟩
    refine gn_pick3 (t:=t) (sl:=sl) (H0:=H) (P:=fun v=>∃ wd:Str,v=.str wd∧(wd = "open" ∨ wd = "shut" ∨ wd = "turn")) (gn_c ⟨_,rfl,.inl rfl⟩) (gn_c ⟨_,rfl,.inr (.inl rfl)⟩) (gn_c ⟨_,rfl,.inr (.inr rfl)⟩) (cC rfl (by decide) (by decide)) _ _ e6 ?_
    rintro v H7 e7 b7 ⟨wd,rfl,hwd⟩
    refine gn_drawv (t:=t) (sl:=sl) (H0:=H) (m:=(m:Int)) rfl rfl hm0 (by omega) _ _ e7 ?_
    rintro v H8 e8 b8 ⟨r,rfl,r0,r1⟩
    refine⟨(show 2≤sizeLine by decide),fun q hq=>?_⟩
    have ha8:H8 al=some (.lst xs):=b8 al _ nal (b7 al _ nal ha)
    have nq:al≠q:=aN ha8 hq
    have hxl:xs.length=acts.length:=by rw[hl.length,List.length_map]
    refine⟨al,xs,_,rfl,rfl,by rw[aQ nq];exact ha8,bC (by omega),?_⟩
    have e9:Ext t sl H (upd H8 q (.tup [.str wd,.int r])):=e8.new hq
    have mt:Mut (upd H8 q (.tup [.str wd,.int r]) al):=by rw[aQ nq,ha8];exact trivial
    have ts:cA K H6 (upd (upd H8 q (.tup [.str wd,.int r])) al (.lst (xs++[.ref q]))):=cA.put (((b7.trans b8).trans (aG.new hq).but).ts e6.tp.mut) (.inr mt)
    refine⟨⟨fun b o hb e=>?_,e9.tp.put nal (eV.ne_sl tp fal)⟩,acts++[(wd,r)],xs++[.ref q],aC,?_,by simp [hlen],?_,_,rfl⟩
    ·rw[aQ (aN e fal)];exact e9.bt b o hb e
    ·rw[List.map_append]
     exact L2.IsL.snoc (Is.tupOf (ds:=[.str wd,.int r]) (cA.put (cA.refl _) (.inr mt) _ _ (bR.of aC)) (.cons (Is.s _) (.cons (Is.i _) .nil))) (L2.IsL.mono ts _ _ hl)
    ·intro a ha'
     rcases List.mem_append.mp ha' with ha' | ha'
     ·exact hok a ha'
     ·rw[List.mem_singleton.mp ha']
      exact⟨hwd,r0,r1⟩
   ·rintro σ' H6 ⟨e6,acts,xs,ha,hl,hlen,hok,v9,rfl⟩
    exact hD _ _ ⟨e6,acts,xs,ha,hl,by omega,hok,v9,rfl⟩
  rintro σ5 H5 ⟨e5,acts,xs,ha,hl,hlen,hok,v9,rfl⟩
  refine⟨_,rfl,_,rfl,_,rfl,_,rfl,_,rfl,t,sl,n,small,rfl,e5.tp,by omega,hn,fun outs p H6 e6 o1 o2 o3 hp=>?_⟩
  refine gn_eq0 (t:=t) (sl:=sl) (H0:=H) (cC rfl (by decide) (by decide)) _ _ ⟨e5.bt.trans e6.bt,e6.tp⟩ ?_
  rintro v H7 e7 b7 ⟨b,rfl⟩
  have ha7:H7 al=some (.lst xs):=b7 al _ nal (e6.bt al _ nal ha)
  have b57:fC t H5 H7:=e6.bt.trans b7
  refine⟨_,rfl,_,rfl,al,_,rfl,.inl ⟨bT.of ha7,fun q hq=>⟨(show 6≤sizeLine by decide),fun r hr'=>?_⟩⟩⟩
  have m1:=aG.new (o:=HO.tup xs) hq
  have m2:aG (upd H7 q (.tup xs)) (upd (upd H7 q (.tup xs)) r (.tup [.int size,.int brim,p,.bl b,tgV sp,.ref q])):=aG.new hr'
  refine k ⟨size,brim,outs,b,sp,acts⟩ _ _ ((e7.new hq).new hr') ⟨s0,o1,o2,o3,fun z h=>(hsp z h).1,hlen,hok⟩ ⟨by show size≤60;omega,hb1,hb2,fun z h=>(hsp z h).2⟩ ?_
  refine Is.tupOf (bR.of aC) (.cons (Is.i _) (.cons (Is.i _) (.cons ?_ (.cons (Is.b _) (.cons (Is.tgOf _) (.cons ?_ .nil))))))
  ·exact Is.mono m2.ts _ _ (Is.mono m1.ts _ _ (Is.mono (b7.ts e6.tp.mut) _ _ hp))
  ·exact Is.mono m2.ts _ _ (Is.tupOf (bR.of aC) (L2.IsL.mono m1.ts _ _ (L2.IsL.mono (b57.ts e5.tp.mut) _ _ hl)))
end
end Tw
namespace Tw
open PySem L2
section
variable {P:Program}{w:World}{K:PySem.W.Frag}{mg:Str→Option Value}{base:Heap}
theorem Ext.put {t sl p:Addr}{H H':Hp}{o:HO} (e:Ext t sl H H') (tp:eV H t sl) (hp:H p=none):Ext t sl H (upd H' p o):=
 ⟨fun b u hb e1=>by rw[aQ (aN e1 hp)];exact e.bt b u hb e1,e.tp.put (fun z=>by obtain⟨o,h⟩:=tp.some;rw[z,h] at hp;cases hp) (eV.ne_sl tp hp)⟩
theorem Ext.trans {t sl:Addr}{H H1 H2:Hp} (a:Ext t sl H H1) (b:Ext t sl H1 H2):Ext t sl H H2:=⟨a.bt.trans b.bt,b.tp⟩
noncomputable def spNetM (K:PySem.W.Frag):Sp:=fun args H Q _=>∃ (t sl:Addr) (most:Int) (small:Bool),args=[.ref t,.int most,.bl small]∧1≤most∧most≤12∧eV H t sl∧
 ∀ (net:Net) p H',Ext t sl H H'→NetOk net→NetFull net→(net.vs.length:Int)≤most→Is K H' (netD net) p→Q p H'
theorem sc__law_net:FnScope ["tape","most","small","many","spouts","vessels","found","k","flow"] ["tape","most","small"] (aJ (bE 26)):=⟨rfl,rfl,rfl,by decide +kernel,rfl,by decide +kernel,by decide +kernel⟩
theorem ok__law_netM {f fD fV:Addr}{fd fdD fdV:FuncData} (F:Fun K "_law_net" "_law_net" (bE 26) f fd) (T:Txt mg) (G__law_draw:Callee P w K mg base "_law_draw" ["tape","many"] 1 spDraw fD fdD)
  (G__law_vessel:Callee P w K mg base "_law_vessel" ["tape","number","many","spouts","small"] 3 (spVessel K) fV fdV):FnOk P w K mg base CX0 4 f fd ["tape","most","small"] (spNetM K):=by
 refine F.ok sc__law_net (fun vs H Q E h=>?_) (fun cdv A outer s H vs Q E hr h=>?_)
 ·obtain⟨t,sl,most,small,rfl,_⟩:=h;rfl
 ·obtain⟨t,sl,most,small,rfl,mo1,mo2,tp,k⟩:=h
  have sc:=sc__law_net
  refine⟨_,(aD (aS (i:=3) sc.nd rfl (Or.inr rfl) (aO bH aE (dZ G__law_draw hr (aA (pv 0) (aA (pv 1) aB)))))
   (aD (aS (i:=4) sc.nd rfl (Or.inr rfl) (aT (aK (K:=K) rfl) (cB (aA (dZ G__law_draw hr (aA (pv 0) (aA aE aB))) (aA (dZ G__law_draw hr (aA (pv 0) (aA aE aB))) aB))) (aO fH (dZ G__law_draw hr (aA (pv 0) (aA aE aB))) aE) (fun _ _=>rfl)))
   (aD (eX (i:=5) sc.nd rfl rfl (fun _ _ h=>h) rfl (LcOk.mk (N':=["k","tape","many","spouts","small"]) (fr:=[none,some 0,some 3,some 4,some 2]) rfl ⟨rfl,rfl,rfl,rfl,trivial⟩ rfl rfl rfl rfl rfl ⟨⟨_,rfl,rfl,rfl,rfl⟩,⟨_,rfl,rfl,rfl,rfl⟩,⟨_,rfl,rfl,rfl,rfl⟩,⟨_,rfl,rfl,rfl,rfl⟩,trivial⟩) (cP rfl T.b_range (aA (pv 3) aB)) (fun _ _ _=>(aH (i:=0) (show (["k","tape","many","spouts","small"]:List Str).Nodup by decide +kernel) rfl (Or.inl rfl) (Or.inr rfl))) (fun _ _ _=>eS) (fun _ _ _=>(dZ G__law_vessel hr (aA (pv 1) (aA (pv 0) (aA (pv 2) (aA (pv 3) (aA (pv 4) aB))))))))
   (aD (aS (i:=6) sc.nd rfl (Or.inl rfl) (cB aB))
   (aD (dL PassesOwn.never rfl (cP rfl T.b_range (aA (pv 4) aB)) (aH (i:=7) sc.nd rfl (Or.inl rfl)) (aD (aS (i:=8) sc.nd rfl (Or.inl rfl) (aT (aK (K:=K) rfl) (cB (aA (dZ G__law_draw hr (aA (pv 0) (aA aE aB))) (aA (dZ G__law_draw hr (aA (pv 0) (aA (aT (aK (K:=K) rfl) (cB (aA aE (aA aE aB))) (bD call_int1 rfl T.b_int bt_int (aA (pv 2) aB)) (fun _ _=>rfl)) aB))) aB))) (aO fH (dZ G__law_draw hr (aA (pv 0) (aA aE aB))) aE) (fun _ _=>rfl)))
   (aL (dA (pe_bmK (K:=K) rfl PySem.F.plainAttrs_list PySem.F.slot_list_append PySem.F.type_list_append cQ (pv 6) (aA (bA (aA (dZ G__law_draw hr (aA (pv 0) (aA (pv 3) aB))) (aA (pv 8) (aA (pe_cmpR op_gt (dZ G__law_draw hr (aA (pv 0) (aA aE aB))) aE (bU _)) aB)))) aB))))))
   (aL (bL (bA (aA (bD (cU (K:=K) rfl) rfl T.b_tuple dB (aA (pv 5) aB)) (aA (bD (cU (K:=K) rfl) rfl T.b_tuple dB (aA (pv 6) aB)) aB)))))))))),?_⟩
  refine gn_add (t:=t) (sl:=sl) (H0:=H) (x:=1) (y:=2) (l:=0) (h:=most) (gn_c ⟨1,rfl,by omega,by omega⟩) (gn_drawv (m:=most) rfl rfl (by omega) (by omega)) _ _ ⟨fC.refl _,tp⟩ ?_
  rintro v H1 e1 _ ⟨n',rfl,n0,n1⟩
  obtain⟨n,rfl⟩:=Int.eq_ofNat_of_zero_le (show 0≤n' by omega)
  refine gn_pick2 (t:=t) (sl:=sl) (H0:=H) (P:=dC 0 13) (gn_up (cC rfl (by decide) (by decide)) (Int.le_refl _) (by decide)) (cC rfl (by decide) (by decide)) (gn_half (cC rfl (by decide) (by decide))) _ _ e1 ?_
  rintro v H2 e2 _ ⟨m',rfl,m0,m1⟩
  obtain⟨m,rfl⟩:=Int.eq_ofNat_of_zero_le m0
  refine⟨_,rfl,_,rfl,by omega,by omega,?_⟩
  refine lc_range (n:=n) (fun D i r σ' H'=>H2 D=none∧Ext t sl H H'∧H' D=some (.lst r)∧∃ vs:List Vs,vs.length=i∧L2.IsL K H' (vs.map vsD) r∧(∀ v∈vs,VOk n m v)∧(∀ i v,vs[i]? = some v→VFull i v)∧∃ v0,σ'=[v0,some (.ref t),some (.int (n:Int)),some (.int (m:Int)),some (.bl small)])
   (fun D hD=>⟨hD,e2.new hD,aC,[],rfl,.nil,(fun v hv=>nomatch hv),(fun i v hv=>by simp at hv),none,rfl⟩) ?_ ?_
  rotate_left
  ·rintro D i r σ' H3 hi ⟨hD,e3,hl,vs,hlen,hvl,hok,hfu,v0,rfl⟩
   refine name_yes ?_
   refine⟨_,rfl,_,rfl,_,rfl,_,rfl,_,rfl,t,sl,i,n,m,small,rfl,e3.tp,hi,by omega,by omega,fun v p H4 e4 vok vfu hp=>?_⟩
   have nD:D≠t:=e2.ne hD
   have fD:H D=none:=e2.bt.free nD hD
   have hl4:H4 D=some (.lst r):=e4.bt D _ nD hl
   have hrl:r.length=vs.length:=by rw[hvl.length,List.length_map]
   have mt:Mut (H4 D):=by rw[hl4];exact trivial
   refine⟨hl4,bC (by omega),hD,(e3.trans e4).put tp fD,aC,vs++[v],by simp [hlen],?_,?_,?_,_,rfl⟩
   ·rw[List.map_append]
    exact L2.IsL.snoc (Is.mono (cA.put (cA.refl _) (.inr mt)) _ _ hp) (L2.IsL.mono (cA.put (e4.bt.ts e3.tp.mut) (.inr mt)) _ _ hvl)
   ·intro u hu
    rcases List.mem_append.mp hu with hu | hu
    ·exact hok u hu
    ·rw[List.mem_singleton.mp hu];exact vok
   ·intro j u hu
    rcases Nat.lt_or_ge j vs.length with hj | hj
    ·rw[List.getElem?_append_left hj] at hu;exact hfu j u hu
    ·rw[List.getElem?_append_right hj] at hu
     have e0:j - vs.length=0:=by
      rcases Nat.eq_zero_or_pos (j - vs.length) with h | h
      ·exact h
      ·rw[List.getElem?_eq_none (show [v].length≤j - vs.length from h)] at hu;cases hu
     rw[e0] at hu
     have e1:j=i:=by omega
     cases hu
     rw[e1];exact vfu
  rintro D r σ' H3 ⟨hD,e3,hl,vs,hlen,hvl,hok,hfu,_⟩
  have nD:D≠t:=e2.ne hD
  have fD:H D=none:=e2.bt.free nD hD
  refine⟨Nat.zero_le _,fun fl hfl=>?_⟩
  have nf:fl≠t:=e3.ne hfl
  have ff:H fl=none:=e3.bt.free nf hfl
  have nDf:D≠fl:=aN hl hfl
  refine⟨_,rfl,_,rfl,by omega,by omega,?_⟩
  refine eI (lo:=0) (n:=m) (fun j σ' H'=>Ext t sl H H'∧H' D=some (.lst r)∧L2.IsL K H' (vs.map vsD) r∧∃ (sps:List Spt) (xs:List V),H' fl=some (.lst xs)∧L2.IsL K H' (sps.map spD) xs∧sps.length=j∧(∀ s∈sps,(0≤s.1∧s.1 < n)∧0≤s.2.1∧s.2.1≤60)∧
   ∃ v7 v8,σ'=[some (.ref t),some (.int most),some (.bl small),some (.int (n:Int)),some (.int (m:Int)),some (.ref D),some (.ref fl),v7,v8]) ?_ ?_ ?_
  ·exact⟨e3.new hfl,by rw[aQ nDf];exact hl,L2.IsL.mono (aG.new hfl).ts _ _ hvl,[],[],aC,.nil,rfl,(fun s hs=>nomatch hs),none,none,rfl⟩
  ·rintro j σ' H4 hj ⟨e4,hl4,hv4,sps,xs,hf4,hs4,hslen,hsok,v7,v8,rfl⟩
   refine gn_pick2 (t:=t) (sl:=sl) (H0:=H) (P:=dC 0 61) (gn_up (cC rfl (by decide) (by decide)) (Int.le_refl _) (by decide))
    (gn_up (gn_drawm (lo:=4) (hi:=62) rfl (by decide) (by decide) (gn_menu rfl ⟨by decide,by decide⟩ ⟨by decide,by decide⟩)) (Int.le_refl _) (by decide)) (gn_half (cC rfl (by decide) (by decide))) _ _ e4 ?_
   rintro v H5 e5 b5 ⟨flow,rfl,fl0,fl1⟩
   have hf5:H5 fl=some (.lst xs):=b5 fl _ nf hf4
   refine⟨_,rfl,.inl ⟨rfl,_,bT.of hf5⟩,?_⟩
   refine gn_drawv (t:=t) (sl:=sl) (H0:=H) (m:=(n:Int)) rfl rfl (by omega) (by omega) _ _ e5 ?_
   rintro v H6 e6 b6 ⟨tg,rfl,tg0,tg1⟩
   refine⟨_,rfl,?_⟩
   refine gn_gt0 (t:=t) (sl:=sl) (H0:=H) (cC rfl (by decide) (by decide)) _ _ e6 ?_
   rintro v H7 e7 b7 ⟨dr,rfl⟩
   refine⟨(show 3≤sizeLine by decide),fun q hq=>?_⟩
   have b47:fC t H4 H7:=b5.trans (b6.trans b7)
   have hf7:H7 fl=some (.lst xs):=b47 fl _ nf hf4
   have hl7:H7 D=some (.lst r):=b47 D _ nD hl4
   have nq:fl≠q:=aN hf7 hq
   have nDq:D≠q:=aN hl7 hq
   have hxl:xs.length=sps.length:=by rw[hs4.length,List.length_map]
   refine⟨fl,xs,_,rfl,rfl,by rw[aQ nq];exact hf7,bC (by omega),?_⟩
   have mt:Mut (upd H7 q (.tup [.int tg,.int flow,.bl dr]) fl):=by rw[aQ nq,hf7];exact trivial
   have ts:cA K H4 (upd (upd H7 q (.tup [.int tg,.int flow,.bl dr])) fl (.lst (xs++[.ref q]))):=cA.put ((b47.trans (aG.new hq).but).ts e4.tp.mut) (.inr mt)
   refine⟨(e7.new hq).put tp ff,by rw[aQ nDf,aQ nDq];exact hl7,L2.IsL.mono ts _ _ hv4,sps++[(tg,flow,dr)],xs++[.ref q],aC,?_,by simp [hslen],?_,_,_,rfl⟩
   ·rw[List.map_append]
    exact L2.IsL.snoc (Is.tupOf (ds:=[.int tg,.int flow,.bl dr]) (cA.put (cA.refl _) (.inr mt) _ _ (bR.of aC)) (.cons (Is.i _) (.cons (Is.i _) (.cons (Is.b _) .nil)))) (L2.IsL.mono ts _ _ hs4)
   ·intro s hs
    rcases List.mem_append.mp hs with hs | hs
    ·exact hsok s hs
    ·rw[List.mem_singleton.mp hs];exact⟨⟨tg0,tg1⟩,fl0,show flow≤60 by omega⟩
  ·rintro σ' H4 ⟨e4,hl4,hv4,sps,xs,hf4,hs4,hslen,hsok,v7,v8,rfl⟩
   refine⟨_,rfl,D,_,rfl,.inl ⟨bT.of hl4,fun q1 hq1=>⟨_,rfl,fl,_,rfl,.inl ⟨bT.of (aG.new hq1 _ _ hf4),fun q2 hq2=>⟨(show 2≤sizeLine by decide),fun q3 hq3=>?_⟩⟩⟩⟩⟩
   have m1:aG H4 (upd H4 q1 (.tup r)):=aG.new hq1
   have m2:aG (upd H4 q1 (.tup r)) (upd (upd H4 q1 (.tup r)) q2 (.tup xs)):=aG.new hq2
   have m3:aG (upd (upd H4 q1 (.tup r)) q2 (.tup xs)) (upd (upd (upd H4 q1 (.tup r)) q2 (.tup xs)) q3 (.tup [.ref q1,.ref q2])):=aG.new hq3
   refine k ⟨vs,sps⟩ _ _ (((e4.new hq1).new hq2).new hq3) ⟨by show 1≤vs.length;omega,by show vs.length≤12;omega,by show sps.length≤12;omega,fun v hv=>by rw[hlen,hslen];exact hok v hv,fun s hs=>by rw[hlen];exact (hsok s hs).1⟩ ⟨hfu,fun s hs=>(hsok s hs).2⟩ (by show (vs.length:Int)≤most;omega) ?_
   refine Is.tupOf (bR.of aC) (.cons (Is.tupOf (m3.tup (m2.tup (bR.of aC))) ?_) (.cons (Is.tupOf (m3.tup (bR.of aC)) ?_) .nil))
   ·exact L2.IsL.mono m3.ts _ _ (L2.IsL.mono m2.ts _ _ (L2.IsL.mono m1.ts _ _ hv4))
   ·exact L2.IsL.mono m3.ts _ _ (L2.IsL.mono m2.ts _ _ (L2.IsL.mono m1.ts _ _ hs4))
end
end Tw
namespace Tw
open PySem L2
section
variable {P:Program}{w:World}{K:PySem.W.Frag}{mg:Str→Option Value}{base:Heap}
theorem rep0:∀ n:Nat,(List.replicate n [V.int 0]).flatten=(List.replicate n (0:Int)).map V.int
 | 0=>rfl
 | n+1=>by rw[List.replicate_succ,List.replicate_succ,List.flatten_cons,rep0 n,List.map_cons];rfl
noncomputable def bV (n:Nat):List Int:=List.replicate n 0
noncomputable def spFirst (K:PySem.W.Frag):Sp:=fun args H Q _=>∃ (x:V) (net:Net),args=[x]∧Is K H (netD net) x∧NetOk net∧
 ∀ p H',aG H H'→Is K H' (stD (bV net.vs.length) (bV net.vs.length) (net.sps.map (·.2.2))) p→Q p H'
theorem sc_first_state:FnScope ["net","vessels","spouts","empty"] ["net"] (aJ (bE 8)):=⟨rfl,rfl,rfl,by decide +kernel,rfl,by decide +kernel,by decide +kernel⟩
theorem ok_first_state {f:Addr}{fd:FuncData} (F:Fun K "first_state" "first_state" (bE 8) f fd) (T:Txt mg):FnOk P w K mg base CX0 1 f fd ["net"] (spFirst K):=by
 refine F.ok sc_first_state (fun vs H Q E h=>?_) (fun cdv A outer s H vs Q E hr h=>?_)
 ·obtain⟨x,net,rfl,_⟩:=h;rfl
 ·obtain⟨x,net,rfl,hx,nok,k⟩:=h
  have sc:=sc_first_state
  refine⟨_,(aD (cX (pv 0) (bP (K:=K) (n:=2) rfl rfl (aI (aH (i:=1) sc.nd rfl (Or.inl rfl)) (aI (aH (i:=2) sc.nd rfl (Or.inl rfl)) bK))))
   (aD (aS (i:=3) sc.nd rfl (Or.inl rfl) (aO (op_repTK (K:=K) rfl) (bA (aA aE aB)) (aP (aY (K:=K) rfl) rfl T.b_len PySem.boot_len (aA (pv 1) aB))))
   (aL (bL (bA (aA (pv 3) (aA (pv 3) (aA (bD (cU (K:=K) rfl) rfl T.b_tuple dB (aA (pe_lc (fun _ _ h=>h) rfl (LcOk.mk (N':=["target","flow","door"]) (fr:=[none,none,none]) rfl trivial rfl rfl rfl rfl rfl trivial) (pi_tupK (K:=K) rfl (pv 2)) (fun _ _ _=>(bP (K:=K) (n:=3) rfl rfl (aI (aH (i:=0) (show (["target","flow","door"]:List Str).Nodup by decide +kernel) rfl (Or.inl rfl) (Or.inr rfl)) (aI (aH (i:=1) (show (["target","flow","door"]:List Str).Nodup by decide +kernel) rfl (Or.inl rfl) (Or.inr rfl)) (aI (aH (i:=2) (show (["target","flow","door"]:List Str).Nodup by decide +kernel) rfl (Or.inl rfl) (Or.inr rfl)) bK))))) (fun _ _ _=>eS) (fun _ _ _=>(pv 2))) aB)) aB)))))))),?_⟩
  obtain⟨a,b,c,xs,ys,rfl,q,q1,l1,q2,l2⟩:=net_un hx
  have exl:xs.length=net.vs.length:=by rw[l1.length,List.length_map]
  have eyl:ys.length=net.sps.length:=by rw[l2.length,List.length_map]
  have n1:=nok.lo
  have n2:=nok.hi
  have n3:=nok.sp
  refine⟨_,rfl,a,_,rfl,q,rfl,_,_,rfl,_,_,rfl,rfl,?_⟩
  refine⟨(show 1≤sizeLine by decide),fun z hz=>⟨_,rfl,b,xs,rfl,.inr ((aG.new hz).tup q1),z,_,[.int 0],rfl,rfl,bR.of aC,by omega,by omega,by simp,by simp,fun e H1 sm1 qe=>?_⟩⟩
  have s1:aG H H1:=(aG.new hz).trans sm1
  have en:((xs.length:Nat):Int).toNat=net.vs.length:=by rw[exl];simp
  rw[en,rep0] at qe
  refine⟨_,rfl,_,rfl,_,rfl,c,rfl,⟨_,s1.tup q2⟩,lc_tup (K:=K) (a:=c) (xs:=ys) (fun D i r σ' H'=>H1 D=none∧aG H1 H'∧H' D=some (.lst r)∧r=((net.sps.take i).map (·.2.2)).map V.bl∧∃ u v w,σ'=[u,v,w])
   (fun D i r σ' H' p=>p.2.1.tup (s1.tup q2)) (fun D hD=>⟨hD,aG.new hD,aC,by simp,none,none,none,rfl⟩) ?_ ?_⟩
  rotate_left
  ·rintro D i x r σ' H2 hx ⟨hD,sm,hDl,rfl,u,v,w',rfl⟩
   obtain⟨sp,hsi,sa,rfl,qs⟩:=sps_at l2 hx
   have hil:=(List.getElem?_eq_some_iff.mp hsi).1
   refine⟨sa,_,rfl,sm.tup (s1.tup qs),rfl,_,_,rfl,_,_,rfl,_,_,rfl,rfl,?_⟩
   refine yes_of ⟨_,rfl,hDl,bC (by simp;omega),hD,sm.put hD,aC,?_,_,_,_,rfl⟩
   rw[aZ hsi];simp
  ·rintro D r σ' H2 ⟨hD,sm,hDl,rfl,_⟩
   rw[eyl,List.take_length] at hDl
   refine⟨D,_,rfl,.inl ⟨bT.of hDl,fun d hd=>⟨(show 3≤sizeLine by decide),fun r hr'=>?_⟩⟩⟩
   have m1:aG H2 (upd H2 d (.tup ((net.sps.map (·.2.2)).map V.bl))):=aG.new hd
   have m2:aG (upd H2 d (.tup ((net.sps.map (·.2.2)).map V.bl))) (upd (upd H2 d (.tup ((net.sps.map (·.2.2)).map V.bl))) r (.tup [.ref e,.ref e,.ref d])):=aG.new hr'
   refine k _ _ (((s1.trans sm).trans m1).trans m2) (st_of (bR.of aC) ?_ ?_ (m2.tup (bR.of aC)))
   ·exact m2.tup (m1.tup (sm.tup qe))
   ·exact m2.tup (m1.tup (sm.tup qe))
theorem sc__law_first:FnScope ["net","none"] ["net"] (aJ (bE 27)):=⟨rfl,rfl,rfl,by decide +kernel,rfl,by decide +kernel,by decide +kernel⟩
theorem ok__law_first {f:Addr}{fd:FuncData} (F:Fun K "_law_first" "_law_first" (bE 27) f fd) (T:Txt mg):FnOk P w K mg base CX0 1 f fd ["net"] (spFirst K):=by
 refine F.ok sc__law_first (fun vs H Q E h=>?_) (fun cdv A outer s H vs Q E hr h=>?_)
 ·obtain⟨x,net,rfl,_⟩:=h;rfl
 ·obtain⟨x,net,rfl,hx,nok,k⟩:=h
  have sc:=sc__law_first
  refine⟨_,(aD (aS (i:=1) sc.nd rfl (Or.inl rfl) (aO (op_repTK (K:=K) rfl) (bA (aA aE aB)) (aP (aY (K:=K) rfl) rfl T.b_len PySem.boot_len (aA (aT (aK (K:=K) rfl) (pv 0) aE (fun _ _=>rfl)) aB))))
   (aL (bL (bA (aA (pv 1) (aA (pv 1) (aA (bD (cU (K:=K) rfl) rfl T.b_tuple dB (aA (pe_lc (fun _ _ h=>h) rfl (LcOk.mk (N':=["spout"]) (fr:=[none]) rfl trivial rfl rfl rfl rfl rfl trivial) (pi_tupK (K:=K) rfl (aT (aK (K:=K) rfl) (pv 0) aE (fun _ _=>rfl))) (fun _ _ _=>(aH (i:=0) (show (["spout"]:List Str).Nodup by decide +kernel) rfl (Or.inl rfl) (Or.inr rfl))) (fun _ _ _=>eS) (fun _ _ _=>(aT (aK (K:=K) rfl) (pv 0) aE (fun _ _=>rfl)))) aB)) aB))))))),?_⟩
  obtain⟨a,b,c,xs,ys,rfl,q,q1,l1,q2,l2⟩:=net_un hx
  have exl:xs.length=net.vs.length:=by rw[l1.length,List.length_map]
  have eyl:ys.length=net.sps.length:=by rw[l2.length,List.length_map]
  have n1:=nok.lo
  have n2:=nok.hi
  have n3:=nok.sp
  refine⟨(show 1≤sizeLine by decide),fun z hz=>⟨_,rfl,.inr (.inl ⟨a,_,0,_,rfl,rfl,(aG.new hz).tup q,rfl,b,xs,rfl,.inr ((aG.new hz).tup q1),z,_,[.int 0],rfl,rfl,bR.of aC,by omega,by omega,by simp,by simp,fun e H1 sm1 qe=>?_⟩)⟩⟩
  have s1:aG H H1:=(aG.new hz).trans sm1
  have en:((xs.length:Nat):Int).toNat=net.vs.length:=by rw[exl];simp
  rw[en,rep0] at qe
  refine⟨_,rfl,_,rfl,_,rfl,.inr (.inl ⟨a,_,1,_,rfl,rfl,s1.tup q,rfl,c,rfl,⟨_,s1.tup q2⟩,lc_tup (K:=K) (a:=c) (xs:=ys) (fun D i r σ' H'=>H1 D=none∧aG H1 H'∧H' D=some (.lst r)∧r=((net.sps.take i).map (·.2.2)).map V.bl∧∃ u,σ'=[u])
   (fun D i r σ' H' p=>p.2.1.tup (s1.tup q2)) (fun D hD=>⟨hD,aG.new hD,aC,by simp,none,rfl⟩) ?_ ?_⟩)⟩
  rotate_left
  ·rintro D i x r σ' H2 hx ⟨hD,sm,hDl,rfl,u,rfl⟩
   obtain⟨sp,hsi,sa,rfl,qs⟩:=sps_at l2 hx
   have hil:=(List.getElem?_eq_some_iff.mp hsi).1
   refine name_yes ?_
   refine⟨_,rfl,.inr (.inl ⟨sa,_,2,_,rfl,rfl,sm.tup (s1.tup qs),rfl,hDl,bC (by simp;omega),hD,sm.put hD,aC,?_,_,rfl⟩)⟩
   rw[aZ hsi];simp
  ·rintro D r σ' H2 ⟨hD,sm,hDl,rfl,_⟩
   rw[eyl,List.take_length] at hDl
   refine⟨D,_,rfl,.inl ⟨bT.of hDl,fun d hd=>⟨(show 3≤sizeLine by decide),fun r hr'=>?_⟩⟩⟩
   have m1:aG H2 (upd H2 d (.tup ((net.sps.map (·.2.2)).map V.bl))):=aG.new hd
   have m2:aG (upd H2 d (.tup ((net.sps.map (·.2.2)).map V.bl))) (upd (upd H2 d (.tup ((net.sps.map (·.2.2)).map V.bl))) r (.tup [.ref e,.ref e,.ref d])):=aG.new hr'
   refine k _ _ (((s1.trans sm).trans m1).trans m2) (st_of (bR.of aC) ?_ ?_ (m2.tup (bR.of aC)))
   ·exact m2.tup (m1.tup (sm.tup qe))
   ·exact m2.tup (m1.tup (sm.tup qe))
end
end Tw
namespace Tw
end Tw
namespace Tw
open PySem L2
theorem depth_map {α:Type} (f:α→L2.D) (hf:∀ a,(f a).depth=0):∀ l:List α,eQ (l.map f)=0
 | []=>by rw[List.map_nil,eQ]
 | a::r=>by rw[List.map_cons,eQ,hf,depth_map f hf r];rfl
theorem depth_int (i:Int):(L2.D.int i).depth=0:=by rw[L2.D.depth] <;> intros <;> (first | rfl | (intro z;cases z) | (rename_i z;cases z))
theorem depth_bl (i:Bool):(L2.D.bl i).depth=0:=by rw[L2.D.depth] <;> intros <;> (first | rfl | (intro z;cases z) | (rename_i z;cases z))
theorem depth_st (held coming:List Int) (doors:List Bool):eQ [.tup (held.map L2.D.int),.tup (coming.map L2.D.int),.tup (doors.map L2.D.bl)]=1:=by
 simp only [eQ,L2.D.depth,depth_map _ depth_int,depth_map _ depth_bl];rfl
theorem kit_ib (K:PySem.W.Frag):PySem.W.kitOne K (.type "int") (.type "bool")=some false:=by
 unfold PySem.W.kitOne
 rw[if_neg (by decide +kernel)]
 show (if PySem.W.kitMeta "bool" = true then PySem.W.subIn K (.type "int") (.type "bool") else none)=some false
 rw[if_pos (by decide +kernel)]
 show (PySem.fastBuiltinMro "int").map (·.contains (.type "bool"))=some false
 decide +kernel
section
variable {P:Program}{w:World}{K:PySem.W.Frag}{mg:Str→Option Value}{base:Heap}
noncomputable def spLaw (K:PySem.W.Frag):Sp:=fun vs H Q _=>∃ (a:Addr) (ns:List Int),vs=[.ref a]∧bT K H a (ns.map V.int)∧ns.length≤63∧∀ H',Q (.bl true) H'
end
end Tw
namespace L2
open PySem PySem.Spec PyProof.Rows TwZ
section
variable {X:Cx}{K:PySem.W.Frag}
theorem pe_globE {x:Str}{v:V}{pos:Pos} (hg:Gl X x) (h:∃ u,X.mg x=some u∧bS v u) (hd:(x == ("__debug__" : Str))=false:=by decide):PE X (.Name x pos) (tC v):=by
 obtain⟨u,e,r⟩:=h
 exact pe_glob hg e r hd
theorem op_inK (hK:X.K=K):OpR X (compareOp .In) (rIn K false):=by subst hK;exact op_in_seq
end
end L2
namespace Tw
open PySem L2
theorem kit_ii (K:PySem.W.Frag):PySem.W.kitOne K (.type "int") (.type "int")=some true:=by
 unfold PySem.W.kitOne;rw[if_pos (by decide +kernel)]
section
variable {P:Program}{w:World}{K:PySem.W.Frag}{mg:Str→Option Value}{base:Heap}{aw:Addr}
theorem sc_is_whole:FnScope ["thing","least","most"] ["thing","least","most"] (aJ (bE 6)):=⟨rfl,rfl,rfl,by decide +kernel,rfl,by decide +kernel,by decide +kernel⟩
end
end Tw
namespace L2
open PySem PySem.Spec PyProof.Rows
noncomputable def gLst (K:PySem.W.Frag) (n:Nat) (t:TGs):TG:=fun v σ H Q=>∃ a xs,v=.ref a∧bT K H a xs∧xs.length=n∧t xs σ H Q
theorem pg_lst {X:Cx}{pos:Pos}{es:List Expr}{k:Nat}{t:TGs}{n:Nat} (hc:X.calm=true) (h:PGs X es t)
  (hn:(assignEach es X.env).length=n:=by rfl) (hst:(assignEach es X.env).findIdx? (·.1)=none:=by rfl):PG X (.Tuple es k pos) (gLst X.K n t):=by
 intro pins s σ H v u Q I r hw
 obtain⟨a,xs,e1,hq,hl,hw⟩:=hw
 subst e1
 cases r
 obtain⟨its,rv,ht,hz⟩:=I.list hq
 rw[assign_Tuple]
 refine wpAny_bind (wpAny_standAt ?_)
 unfold unpack
 have e:(assignEach es X.env).length=its.toArray.size:=by simp [hn,← hl,rv.length]
 rw[e,hst]
 refine wpAny_bind (wpAny_holding (PySem.W.kun_itemsOf (I.ok.hd hc) ht.isList fun h' hx=>?_))
 have I1:Inv X pins σ H { s with heap:=h' }:=I.kept (t':=s.toks) fun b o e=>hx b o (Nat.ne_of_lt (Heap.lt_size e)) e
 exact h pins _ σ H xs _ Q I1 (by simpa using rv) hw
theorem pg_lstK {X:Cx}{K:PySem.W.Frag}{pos:Pos}{es:List Expr}{k:Nat}{t:TGs}{n:Nat} (hK:X.K=K) (hc:X.calm=true) (h:PGs X es t)
  (hn:(assignEach es X.env).length=n:=by rfl) (hst:(assignEach es X.env).findIdx? (·.1)=none:=by rfl):PG X (.Tuple es k pos) (gLst K n t):=by
 subst hK;exact pg_lst hc h hn hst
end L2
namespace L2
open PySem PySem.Spec PyProof.Rows TwZ
section
variable {X:Cx}{K:PySem.W.Frag}
theorem op_catTK (hK:X.K=K):OpR X (binaryOp .Add) (rCatT K):=by subst hK;exact op_catT
theorem tuple_mul_none (l:Addr) (items:Array Value) (n:Nat) (x:Int) (u:Tok) (dd:Option Addr) (sl:Array (Option Value)) (c0:¬ (decide (x < -(2 ^ 63)) || decide (x ≥ 2 ^ 63))=true) (c1:¬ (items.isEmpty || x == 1)=true)
  (c2:(decide (x≤0) || items.isEmpty)=true) :
  Meets (Builtin.«tuple.__mul__» ⟨[.ref l,.int x u],[]⟩) (fun _ R s=>s.heap.get? l=some { cls:=.type "tuple",dict:=dd,data:=.seq items n,slots:=sl }∧
   R (.ok (.ret (.ref s.heap.objs.size))) { s with heap:=s.heap.push { cls:=.type "tuple",data:=.seq #[] } }):=
 .of_wp fun prog w A R s h=>by
  obtain⟨hp,g,d,tk,os⟩:=s;obtain⟨hl,h⟩:=h
  wp_walk
  rw[if_neg c0]
  wp_walk
  all_goals (try rw[if_neg c1])
  wp_walk
  all_goals (try rw[if_pos c2])
  wp_walk
  exact⟨_,rfl,h⟩
noncomputable def rRepZ (K:PySem.W.Frag):R2:=fun x y H Q=>∃ (l:Addr) (k:Int) (xs:List V),x=.ref l∧y=.int k∧bR K H l xs∧0≤k∧k < 1000000∧xs≠[]∧xs.length≤10∧
 ∀ p H',aG H H'→bR K H' p (List.replicate k.toNat xs).flatten→Q (.ref p) H'
theorem op_repZ:OpR X (binaryOp .Mult) (rRepZ X.K):=by
 intro pins s σ H x y v u Q I rx ry h
 obtain⟨l,k,xs,rfl,rfl,hq,h1,h2,hne,hl10,q⟩:=h
 by_cases hk:1≤k
 ·exact op_repT pins s σ H _ _ v u Q I rx ry ⟨l,k,xs,rfl,rfl,hq,hk,h2,hne,hl10,q⟩
 ·have hk0:k=0:=by omega
  subst hk0
  cases rx
  obtain⟨t,rfl⟩:=ry
  obtain⟨its,r,ht,z⟩:=I.tuple hq
  have hlen:=r.length
  obtain⟨⟨cls,dd,data,sl⟩,e,hc,n,hd⟩:=id ht
  simp only at hc hd
  subst hc hd
  refine wpAny_binaryOp_repeat_ref (T := "tuple") (U := "int") (by decide) ⟨_,e,rfl⟩ (fun s'=>typeIs_int s' 0 t) noFill_tuple_mul F.fills_int_mul F.slot_int_rmul repeat_tuple F.slot_int_index.lookup
   (call_meets F.slot_int_rmul (typeIs_int s 0 t) F.entry_int_rmul (F.args_int_rmul_2 _ _) (int_rmul_tuple 0 t l its.toArray n dd sl) ⟨e,rfl,⟨_,e,rfl⟩,?_⟩)
  have hne':its≠[]:=fun z=>by rw[z] at hlen;exact hne (List.eq_nil_of_length_eq_zero hlen)
  have hemp:its.toArray.isEmpty=false:=by cases its with
   | nil=>exact absurd rfl hne'
   | cons a r=>rfl
  refine call_meets F.slot_tuple_mul ⟨_,e,rfl⟩ F.entry_tuple_mul (F.args_tuple_mul_2 _ _) (tuple_mul_none l its.toArray n 0 t dd sl (by decide) (by rw[hemp];decide) (by simp)) ⟨e,?_⟩
  have I1:=I.laid (a:=s.heap.objs.size) (o:=.tup []) (h':=s.heap.push { cls:=.type "tuple",data:=.seq #[] }) (t':=s.toks)
   (fun _ _ q=>Heap.get?_push_of_some _ q) (Nat.le_refl _) ⟨Nat.zero_le _,[],.nil,⟨_,Heap.get?_push_size _ rfl,rfl,0,rfl⟩⟩
  exact⟨.ref _,_,I1,rfl,q _ _ (aG.new I.fresh) (bR.of aC)⟩
theorem op_repZK (hK:X.K=K):OpR X (binaryOp .Mult) (rRepZ K):=by subst hK;exact op_repZ
end
end L2
namespace L2
open PySem PySem.Spec PyProof.Rows TwZ
section
variable {K:PySem.W.Frag}{g:TG}{tc:TT}{te:TE}{fr:List (Option Nat)}{σ:St}{H1:Hp}{Q:Addr→Hp→Prop}
end
end L2
namespace Tw
open PySem L2
theorem zeros_len (n:Nat):(bV n).length=n:=by simp [bV]
theorem zeros_cons {n:Nat} (h:1≤n):(0:Int)::bV (n - 1)=bV n:=by
 obtain⟨k,rfl⟩:∃ k,n=k+1:=⟨n - 1,by omega⟩
 simp [bV,List.replicate_succ]
section
variable {K:PySem.W.Frag}{C r dx R M T:Addr}{H H':Hp}{S:RunS}{fp:List Addr}{np mv:V}{ts:List Addr}{rs ms:List V}
end
section
variable {P:Program}{w:World}{K:PySem.W.Frag}{mg:Str→Option Value}{base:Heap}{C:Addr}
theorem sc_need_vessel:FnScope ["net","number","vessels","spouts"] ["net","number"] (aJ (bE 5)):=⟨rfl,rfl,rfl,by decide +kernel,rfl,by decide +kernel,by decide +kernel⟩
noncomputable def spPouring (K:PySem.W.Frag):Sp:=fun vs H Q _=>∃ (x:V) (net:Net) (v:Int),vs=[x,.int v]∧Is K H (netD net) x∧NetOk net∧∀ p H',aG H H'→bR K H' p ((v::bV (net.vs.length - 1)).map V.int)→Q (.ref p) H'
theorem sc_pouring:FnScope ["net","amount","vessels","spouts"] ["net","amount"] (aJ (bE 9)):=⟨rfl,rfl,rfl,by decide +kernel,rfl,by decide +kernel,by decide +kernel⟩
theorem ok_pouring {f:Addr}{fd:FuncData} (F:Fun K "pouring" "pouring" (bE 9) f fd) (T:Txt mg):FnOk P w K mg base CX0 1 f fd ["net","amount"] (spPouring K):=by
 refine F.ok sc_pouring (fun vs H Q E h=>?_) (fun cdv A outer s H vs Q E hr h=>?_)
 ·obtain⟨x,net,v,rfl,_⟩:=h;rfl
 ·obtain⟨x,net,v,rfl,hx,nok,k⟩:=h
  have sc:=sc_pouring
  refine⟨_,(aD (cX (pv 0) (bP (K:=K) (n:=2) rfl rfl (aI (aH (i:=2) sc.nd rfl (Or.inl rfl)) (aI (aH (i:=3) sc.nd rfl (Or.inl rfl)) bK))))
   (aL (bL (aO (op_catTK (K:=K) rfl) (bA (aA (pv 1) aB)) (aO (op_repZK (K:=K) rfl) (bA (aA aE aB)) (aO d7 (aP (aY (K:=K) rfl) rfl T.b_len PySem.boot_len (aA (pv 2) aB)) aE)))))),?_⟩
  obtain⟨a,b,c,xs,ys,rfl,q,q1,l1,q2,l2⟩:=net_un hx
  have exl:xs.length=net.vs.length:=by rw[l1.length,List.length_map]
  have n1:=nok.lo
  have n2:=nok.hi
  refine⟨_,rfl,a,_,rfl,q,rfl,_,_,rfl,_,_,rfl,rfl,?_⟩
  refine⟨_,rfl,(show 1≤sizeLine by decide),fun y hy=>⟨(show 1≤sizeLine by decide),fun z hz=>?_⟩⟩
  have m1:=aG.new (o:=HO.tup [.int v]) hy
  have m2:=aG.new (o:=HO.tup [.int 0]) hz
  refine⟨_,rfl,b,xs,rfl,.inr (m2.tup (m1.tup q1)),_,_,rfl,rfl,z,_,[.int 0],rfl,rfl,bR.of aC,by omega,by omega,by simp,by simp,fun e H1 sm1 qe=>?_⟩
  have en:(((xs.length:Nat):Int) - 1).toNat=net.vs.length - 1:=by rw[exl];omega
  rw[en,rep0] at qe
  refine⟨y,e,[.int v],_,rfl,rfl,sm1.tup (m2.tup (bR.of aC)),qe,by simp,bC (by simp;omega) |> Nat.le_of_lt,fun he=>?_,fun _ p hp=>?_⟩
  ·refine k _ _ ((m1.trans m2).trans sm1) ?_
   have e0:bV (net.vs.length - 1)=[]:=List.map_eq_nil_iff.mp he
   rw[e0]
   exact sm1.tup (m2.tup (bR.of aC))
  ·exact k _ _ (((m1.trans m2).trans sm1).trans (aG.new hp)) (bR.of aC)
end
end Tw
namespace L2
open PySem PySem.Spec PyProof.Rows TwZ
section
variable {X:Cx}{pins:List (Addr×Obj)}{σ:St}{H:Hp}{s:Shared}
end
section
variable {K:PySem.W.Frag}{H:Hp}
end
end L2
namespace L2
open PySem PySem.Spec PyProof.Rows TwZ
structure Fly (P:Program) (w:World) (stack:List Env) (H:Hp) (h:Heap) (ea:Addr) (cls a0:Value) (H':Hp) (h' B:Heap):Prop where
 fl:Heap.FlyingW B stack ea cls a0 h'
 keep:∀ b o,h.get? b=some o→H b=none→b∉frs stack→B.get? b=some o
 slot:∀ b o,h.get? b=some o→H b=none→b∈frs stack→∃ sl,h'.get? b=some { o with slots:=sl }
 free:∀ b o,h.get? b=some o→H b=none→H' b=none
 there:∀ b o,h.get? b=some o→b∉frs stack→∃ o',B.get? b=some o'
 tups:∀ b xs,H b=some (.tup xs)→H' b=some (.tup xs)
 frzs:∀ b o u,H b=some (.frz o u)→H' b=some (.frz o u)
 tbls:∀ b ps,H b=some (.tbl ps)→∃ more,H' b=some (.tbl (ps++more))
 hok:HOk P w H' B
noncomputable def CXR (P:Program) (w:World):CXT:=fun outer H s E e s'=>∃ (ea:Addr) (cls a0:Value) (H':Hp) (B:Heap),e=.ref ea∧s'.os=s.os∧AllBare s'.gens∧Fly P w outer H s.heap ea cls a0 H' s'.heap B∧E cls none H'
structure Leaves (X:Cx) (E:XK):Prop where
 stk:X.stack=X.env::X.outer
 fr:X.env.frame=some X.env.locals
 ex:X.ex=[]
 xe:∀ e s',wpAny (model X.prog X.w) X.A (leaving X.env e) (fun _ s''=>CXR X.prog X.w X.outer X.H₀ X.s₀ E e s'') (fun e' s''=>CXR X.prog X.w X.outer X.H₀ X.s₀ E e' s'') s'→X.xe e s'
section
variable {X:Cx}{pins:List (Addr×Obj)}{σ:St}{H H':Hp}{s s':Shared}{E:XK}
theorem mem_frs {l:List Env}{b:Addr}{env:Env} (he:env∈l) (hf:env.frame=some b):b∈frs l:=List.mem_filterMap.mpr ⟨env,he,hf⟩
theorem mem_frs_cons {l:List Env}{b L:Addr}{env:Env} (hf:env.frame=some L) (h:b∈frs (env::l)):b=L∨b∈frs l:=by
 unfold frs at h ⊢
 rw[List.filterMap_cons,hf] at h
 exact List.mem_cons.1 h
theorem raise_xe {h':Heap}{ea:Addr}{cls:Value}{vs:List Value} (L:Leaves X E) (I:Inv X pins σ H s) (hx:Heap.MadeExcOf s.heap h' ea cls vs) (hE:E cls none H):X.xe (.ref ea) { s with heap:=h' }:=by
 refine L.xe _ _ ?_
 have fr:X.A.frames=some (X.env::X.outer):=by rw[← L.stk];exact I.ok.frames
 have hs:s.heap.FunFrames X.base (X.env::X.outer):=by rw[← L.stk];exact I.stack
 have hfree:∀ b∈frs (X.env::X.outer),H b=none:=by rw[← L.stk];exact I.stkFree
 have nex:∀ b:Addr,b∉X.ex:=fun b z=>by rw[L.ex] at z;cases z
 have out:∀ b o,X.s₀.heap.get? b=some o→b∉frs X.outer→b∉frs (X.env::X.outer):=fun b o e hb z=>by
  rcases mem_frs_cons L.fr z with z | z
  ·exact absurd (Nat.lt_of_lt_of_le (Heap.lt_size e) I.ok.above) (by rw[z];exact Nat.lt_irrefl _)
  ·exact hb z
 refine wpAny_leaves_madeW (base:=PySem.W.hideAll s.heap (frs (X.env::X.outer))) fr L.fr (fun b o q=>PySem.W.of_hideAll _ q) (PySem.W.funFrames_hide hs fun env he a hf=>mem_frs he hf) hx fun h2 t x1 x2 x3 x4=>?_
 refine⟨ea,cls,.ref t,H,_,rfl,I.os,I.bare,⟨x1,fun b o e n hb=>?_,fun b o e n hb=>?_,fun b o e n=>I.base.free b o e n (nex b),fun b o e hb=>?_,I.base.tups,I.base.frzs,I.base.tbls,fun a o e=>?_⟩,hE⟩
 ·exact PySem.W.hideAll_get _ (I.base.keep b o e n hb (nex b)) (out b o e hb)
 ·obtain⟨sl,e1⟩:=I.base.slot b o e n hb (nex b)
  obtain⟨_,o',ho',hd⟩:=I.ok.funs.mem hb
  rw[e] at ho'
  cases ho'
  obtain⟨sl',e2⟩:=x4 b _ (hx.keeps _ _ e1) hd
  exact⟨sl',e2⟩
 ·obtain⟨o',e1⟩:=I.base.there b o e (nex b)
  exact⟨o',PySem.W.hideAll_get _ e1 (out b o e hb)⟩
 ·refine (I.hok a o e).stay (fun b u hb q=>PySem.W.hideAll_get _ q fun z=>?_) (fun _ q=>q) fun _ _ q=>q
  have:=hfree b z
  rcases hb with rfl | hb
  ·rw[e] at this;cases this
  ·rw[hb] at this;cases this
theorem pass_xe (L:Leaves X E):Passes (CXR X.prog X.w) X E:=by
 intro pins σ H s e s' I h
 obtain⟨ea,cls,a0,H',B,rfl,os,bare,F,hE⟩:=h
 refine L.xe _ _ ?_
 have fr:X.A.frames=some (X.env::X.outer):=by rw[← L.stk];exact I.ok.frames
 have nex:∀ b:Addr,b∉X.ex:=fun b z=>by rw[L.ex] at z;cases z
 have out:∀ b o,X.s₀.heap.get? b=some o→b∉frs X.outer→b∉frs X.stack:=fun b o e hb z=>by
  rw[L.stk] at z
  rcases mem_frs_cons L.fr z with z | z
  ·exact absurd (Nat.lt_of_lt_of_le (Heap.lt_size e) I.ok.above) (by rw[z];exact Nat.lt_irrefl _)
  ·exact hb z
 have inn:∀ b,b∈frs X.outer→b∈frs X.stack:=fun b hb=>by
  rw[L.stk];unfold frs at hb ⊢;rw[List.filterMap_cons,L.fr];exact List.mem_cons_of_mem _ hb
 refine wpAny_leaves_onW fr L.fr (by rw[← L.stk];exact F.fl) fun h2 x1 x2=>?_
 refine⟨ea,cls,a0,H',B,rfl,os.trans I.os,bare,⟨x1,fun b o e n hb=>?_,fun b o e n hb=>?_,fun b o e n=>?_,fun b o e hb=>?_,fun b xs e=>F.tups b xs (I.base.tups b xs e),fun b o u e=>F.frzs b o u (I.base.frzs b o u e),fun b ps e=>?_,F.hok⟩,hE⟩
 ·exact F.keep b o (I.base.keep b o e n hb (nex b)) (I.base.free b o e n (nex b)) (out b o e hb)
 ·obtain⟨sl,e1⟩:=I.base.slot b o e n hb (nex b)
  obtain⟨sl',e2⟩:=F.slot b _ e1 (I.base.free b o e n (nex b)) (inn b hb)
  obtain⟨_,o',ho',hd⟩:=I.ok.funs.mem hb
  rw[e] at ho'
  cases ho'
  obtain⟨sl'',e3⟩:=x2 b _ e2 hd
  exact⟨sl'',e3⟩
 ·obtain⟨o',e1⟩:=I.base.there b o e (nex b)
  exact F.free b o' e1 (I.base.free b o e n (nex b))
 ·obtain⟨o',e1⟩:=I.base.there b o e (nex b)
  exact F.there b o' e1 (out b o e hb)
 ·obtain⟨m1,e1⟩:=I.base.tbls b ps e
  obtain⟨m2,e2⟩:=F.tbls b _ e1
  exact⟨m1++m2,by rw[e2,Array.append_assoc]⟩
theorem passR0 {P:Program}{w:World}:Passes (CXR P w) X E0:=fun _ _ _ _ _ _ _ h=>by
 obtain⟨_,_,_,_,_,_,_,_,_,h⟩:=h
 exact h.elim
noncomputable def tRaise (E:XK) (C:Addr) (t:TA):TS:=fun _ σ H=>t σ H fun vs H1=>vs.length≤100∧E (.ref C) none H1
theorem ps_raise {x:Str}{C:Addr}{bm:List Value}{newId initId B:String}{np cpos pos:Pos}{e₀:Expr}{rest:List Expr}{t:TA} (L:Leaves X E) (hc:X.calm=true) (hg:Gl X x) (O:PySem.W.excIn X.K C bm newId=true) (hm:PySem.W.nsIn X.K mainGlobals x=some (some (.ref C))) (FB:ExcBaseFacts B newId initId bm) (ha:PA X (e₀::rest) t)
  (he:starEach (e₀::rest) X.env=(false,eval e₀ X.env)::starEach rest X.env:=by rfl) (hplain:(backTo cpos (starEach rest X.env)).any (·.1)=false:=by rfl) (hd:(x == ("__debug__" : Str))=false:=by decide) :
  PS X (.Raise (some (.Call (.Name x np) (e₀::rest) [] cpos)) none pos) (tRaise E C t):=by
 intro pins s σ H D I h
 have G:X.mg x=some (.ref C):=PySem.W.mg_of I.ok.mod.kin I.ok.mod.glob hm
 have ocl:OwnCls x C bm newId X.mg X.base:=by
  refine⟨G,?_⟩
  have q:=O
  unfold PySem.W.excIn at q
  split at q
  ·rename_i dd cd sl ho
   split at q
   ·rename_i C' bm' k0 k1 k2 k3 n k5 hm' hs
    simp only [Bool.and_eq_true,Bool.not_eq_true',beq_iff_eq] at q;obtain⟨⟨⟨⟨⟨rfl,rfl⟩,hdel⟩,ht⟩,hok⟩,hni⟩:=q
    obtain⟨nm,bs,mro,ns,qn,hd',sn,sub,ab,col,del⟩:=cd
    dsimp only at hm' hdel hok hni
    subst hm' hdel
    have hsl:sl = #[k0,k1,k2,k3,some (.builtin n),k5]:=by obtain⟨l⟩:=sl;simp only at hs;rw[hs]
    subst hsl
    exact⟨bm',ns,nm,qn,bs,hd',sn,sub,ab,col,dd,k0,k1,k2,k3,k5,_,I.ok.mod.kin _ _ ho,.of_isNs (PySem.W.isNs_of_in I.ok.mod.kin hok),PySem.W.nsMap_none_of_in I.ok.mod.kin hok hni,PySem.W.tail_of_in I.ok.mod.kin ht⟩
   ·cases q
  ·cases q
 obtain⟨tl,N,nm,q,bs,hdct,sn,sub,ab,col,dd,k0,k1,k2,k3,k5,mN,hC,hN,hni,T⟩:=ocl.obj
 refine wpAny_Raise_call_subT (C:=C) (nm:=nm) (q:=q) (N:=N) (bs:=bs) (bm:=tl) (hdct:=hdct) (sn:=sn) (sub:=sub) (ab:=ab) (col:=col) (dd:=dd) (k0:=k0) (k1:=k1) (k2:=k2) (k3:=k3) (k5:=k5) FB (mN:=mN) (T.hasType FB.hasBase) (I.ok.hd hc) (by rw[he];show (false || (backTo cpos (starEach rest X.env)).any (·.1))=false;rw[hplain];rfl) hni (ld_glob I hg G ⟨rfl,?_⟩ hd)
 have ha':=ha cpos pins s σ H _ I h
 rw[he] at ha' ⊢
 refine Calls.evalArgs_plain (wpAny_mono ha' (fun us s₂ ⟨vs,H1,I1,r1,hlen,hE⟩=>⟨rfl,?_,I1.bk _ _ hC,hN.keeps I1.bk,T.keeps I1.bk,fun h' e hme=>raise_xe L I1 hme hE⟩) fun _ _ y=>y)
 have:=r1.length
 show us.length≤sizeLine
 rw[sizeLine_eq];omega
end
end L2
namespace L2
open PySem PySem.Spec PyProof.Rows TwZ
noncomputable abbrev Cx.within (X:Cx) (pn:List (Addr×Obj)) (E:Value→Shared→Prop):Cx:={ X with pn:=pn,xe:=E }
section
variable {X:Cx}{pins:List (Addr×Obj)}{σ:St}{H:Hp}{s:Shared}{pn:List (Addr×Obj)}{E:Value→Shared→Prop}{ea:Addr}
theorem Cx.Ok.within (ok:X.Ok):(X.within pn E).Ok:=
 ⟨ok.mod,ok.kind,ok.glob,ok.blt,ok.above,ok.inj,ok.has,ok.cab,ok.hd,ok.frames,ok.stk,ok.exf,ok.bs,ok.bsz,ok.noex,ok.exfs,ok.funs,ok.frf⟩
theorem Cx.Ok.unwithin (ok:(X.within pn E).Ok):X.Ok:=
 ⟨ok.mod,ok.kind,ok.glob,ok.blt,ok.above,ok.inj,ok.has,ok.cab,ok.hd,ok.frames,ok.stk,ok.exf,ok.bs,ok.bsz,ok.noex,ok.exfs,ok.funs,ok.frf⟩
theorem Inv.within (I:Inv X pins σ H s):Inv (X.within (X.pn++pins) E) [] σ H s:=
 ⟨I.ok.within,I.os,I.bare,I.base,I.loc,I.cell,I.free,I.freeC,fun p hp=>I.pin p (by simpa using hp),I.hok,I.len⟩
theorem Inv.unwithin {p2:List (Addr×Obj)} (I:Inv (X.within (X.pn++pins) E) p2 σ H s):Inv X pins σ H s:=
 ⟨I.ok.unwithin,I.os,I.bare,I.base,I.loc,I.cell,I.free,I.freeC,fun p hp=>I.pin p (List.mem_append_left _ hp),I.hok,I.len⟩
end
end L2
namespace L2
open PySem PySem.Spec PyProof.Rows TwZ PySem.Builtin PySem.Builtin.ObjectAttr PySem.Builtin.Getset_descriptor
section
variable {prog:Program}{w:World}{K:PySem.W.Frag}{x D:Addr}
end
section
variable {X:Cx}
end
end L2
namespace L2
open PySem PySem.Spec PyProof.Rows TwZ
section
variable {X:Cx}{K:PySem.W.Frag}
theorem sl_listK (hK:X.K=K):SlR X (rSlL K):=by subst hK;exact sl_list
end
end L2
namespace L2
open PySem PySem.Spec PyProof.Rows TwZ
section
variable {P:Program}{w:World}{K:PySem.W.Frag}{mg:Str→Option Value}{base:Heap}
theorem Fun.okR {x qual:Str}{st:Stmt}{f:Addr}{fd:FuncData}{N ps:List Str}{k:Nat}{sp:Sp} (F:Fun K x qual st f fd) (S:FnScope N ps (aJ st)) (len:∀ vs H Q E,sp vs H Q E→vs.length=ps.length)
  (hbody:∀ (cdv:Value) (A:Around) (outer:List Env) (s:Shared) (H:Hp) (vs:List V) (Q:VK) (E:XK),Room k (A.deeper (envOfC qual (aJ st) s.heap.objs.size f cdv))→sp vs H Q E→
   Leaves (cxOf (CXR P w) P w K mg base N qual (aJ st) f cdv A outer s H E) E→
   ∃ t,PSs (cxOf (CXR P w) P w K mg base N qual (aJ st) f cdv A outer s H E) (bB st) t∧t { nx:=fun _ H'=>Q .non H',rt:=Q } (start N vs) H):FnOk P w K mg base (CXR P w) (k+1) f fd ps sp:=by
 obtain⟨oc,od,kV,doc,pm,an,cdv,ct,osl,rfl,lk,hcd⟩:=F.ex
 exact fn_of lk hcd S len fun A outer s H vs Q E hr hsp=>hbody cdv A outer s H vs Q E hr hsp ⟨rfl,rfl,rfl,fun _ _ h=>h⟩
end
structure CalleeR (P:Program) (w:World) (K:PySem.W.Frag) (mg:Str→Option Value) (base:Heap) (x:Str) (ps:List Str) (k:Nat) (sp:Sp) (f:Addr) (fd:FuncData):Prop where
 ok:FnOk P w K mg base (CXR P w) k f fd ps sp
 mg:mg x=some (.ref f)
 kp:PySem.W.keepIn K (.ref f)=true
 bd:Binds K fd ps []
structure ExC (K:PySem.W.Frag) (x:Str) (C:Addr):Prop where
 ns:PySem.W.nsIn K mainGlobals x=some (some (.ref C))
 exc:PySem.W.excIn K C [.type "ValueError",.type "Exception",.type "BaseException",.type "object"] "ValueError.__new__" = true
end L2
namespace Tw
open PySem L2
section
variable {P:Program}{w:World}{K:PySem.W.Frag}{mg:Str→Option Value}{base:Heap}{C c_TipError c_NoNet c_NoVessel c_TooLong c_TooMany c_TooMuch c_Nothing c_NoText c_NoRow:Addr}
noncomputable def spWholeI:Sp:=fun vs H Q _=>∃ (n lo hi:Int),vs=[.int n,.int lo,.int hi]∧Q (.bl (decide (lo≤n) && decide (n≤hi))) H
theorem ok_is_wholeI {f:Addr}{fd:FuncData} (F:Fun K "is_whole" "is_whole" (bE 6) f fd) (T:Txt mg):FnOk P w K mg base CX0 1 f fd ["thing","least","most"] spWholeI:=by
 refine F.ok sc_is_whole (fun vs H Q E h=>?_) (fun cdv A outer s H vs Q E hr h=>?_)
 ·obtain⟨n,lo,hi,rfl,_⟩:=h;rfl
 ·obtain⟨n,lo,hi,rfl,k⟩:=h
  have sc:=sc_is_whole
  refine⟨_,(aL (bL (pe_and (aP (call_isiK (K:=K) rfl) rfl T.b_isinstance boot_isi (aA (pv 0) (aA (pe_bltn (v:=.ty "int") rfl T.b_int bt_int rfl) aB))) (pe_and (pe_not (aP (call_isiK (K:=K) rfl) rfl T.b_isinstance boot_isi (aA (pv 0) (aA (pe_bltn (v:=.ty "bool") rfl T.b_bool bt_bool rfl) aB)))) (pe_one (pe_chain op_le op_le (pv 1) (pv 0) (pv 2))))))),?_⟩
  refine⟨_,rfl,_,"int",_,true,rfl,.inl (.int _),kit_ii K,_,rfl,iteT ?_⟩
  refine⟨_,rfl,_,"bool",_,false,rfl,.inl (.int _),kit_ib K,_,rfl,_,rfl,iteT ?_⟩
  refine⟨_,rfl,_,rfl,_,_,rfl,rfl,_,rfl,ite2 (fun h1=>?_) fun h1=>?_⟩
  ·rw[h1,Bool.true_and] at k
   exact⟨_,rfl,_,_,rfl,rfl,k⟩
  ·rw[Bool.not_eq_true] at h1
   rw[h1,Bool.false_and] at k
   exact k
noncomputable def spNeedR (K:PySem.W.Frag) (cV:Addr):Sp:=fun vs H Q E=>∃ (x:V) (net:Net) (v:Int),vs=[x,.int v]∧Is K H (netD net) x∧((0≤v∧v < net.vs.length∧Q .non H)∨(¬ (0≤v∧v < net.vs.length)∧E (.ref cV) none H))
theorem ok_need_vesselR {f f1:Addr}{fd fd1:FuncData} (F:Fun K "need_vessel" "need_vessel" (bE 5) f fd) (T:Txt mg) (XC_NoVessel:ExC K "NoVessel" c_NoVessel) (G_is_whole:Callee P w K mg base "is_whole" ["thing","least","most"] 1 spWholeI f1 fd1) :
  FnOk P w K mg base (CXR P w) 2 f fd ["net","number"] (spNeedR K c_NoVessel):=by
 refine F.okR sc_need_vessel (fun vs H Q E h=>?_) (fun cdv A outer s H vs Q E hr h L=>?_)
 ·obtain⟨x,net,v,rfl,_⟩:=h;rfl
 ·obtain⟨x,net,v,rfl,hx,k⟩:=h
  have sc:=sc_need_vessel
  refine⟨_,(aD (cX (pv 0) (bP (K:=K) (n:=2) rfl rfl (aI (aH (i:=2) sc.nd rfl (Or.inl rfl)) (aI (aH (i:=3) sc.nd rfl (Or.inl rfl)) bK))))
   (aL (dG (pt_not (pt_val (dZ G_is_whole hr (aA (pv 1) (aA aE (aA (aO d7 (aP (aY (K:=K) rfl) rfl T.b_len PySem.boot_len (aA (pv 2) aB)) aE) aB)))))) (aL (ps_raise L rfl rfl XC_NoVessel.exc XC_NoVessel.ns PySem.F.excBase_ValueError (aA pe_str aB))) bY))),?_⟩
  obtain⟨a,b,c,xs,ys,rfl,q,q1,l1,q2,l2⟩:=net_un hx
  have exl:xs.length=net.vs.length:=by rw[l1.length,List.length_map]
  refine⟨_,rfl,a,_,rfl,q,rfl,_,_,rfl,_,_,rfl,rfl,?_⟩
  refine⟨_,rfl,_,rfl,b,xs,rfl,.inr q1,_,_,rfl,rfl,v,0,_,rfl,_,rfl,?_⟩
  rcases k with ⟨h0,h1,k⟩ | ⟨hn,k⟩
  ·rw[decide_eq_true h0,decide_eq_true (show v≤((xs.length:Nat):Int) - 1 by omega)]
   exact iteF k
  ·have:(decide (0≤v) && decide (v≤((xs.length:Nat):Int) - 1))=false:=by
    rw[Bool.eq_false_iff]
    intro z
    rw[Bool.and_eq_true,decide_eq_true_eq,decide_eq_true_eq] at z
    exact hn ⟨z.1,by omega⟩
   rw[this]
   exact iteT ⟨by show 1≤100;decide,k⟩
end
end Tw
namespace L2
open PySem PySem.Spec PyProof.Rows TwZ
mutual
noncomputable def fB (h:Heap):D→Value→Prop
 | .int i,v=>∃ t,v=.int i t
 | .bl b,v=>v=.bool b
 | .tup ds,v=>∃ a o items n,v=.ref a∧h.get? a=some o∧o.cls=.type "tuple" ∧ o.data=.seq items n∧dP h ds items.toList
 | .non,_=>False
 | .str _,_=>False
noncomputable def dP (h:Heap):List D→List Value→Prop
 | [],vs=>vs=[]
 | d::ds,vs=>∃ v r,vs=v::r∧fB h d v∧dP h ds r
end
mutual
noncomputable def sh:D→D
 | .int _=>.int 0
 | .bl _=>.bl false
 | .tup ds=>.tup (shL ds)
 | d=>d
noncomputable def shL:List D→List D
 | []=>[]
 | d::ds=>sh d::shL ds
end
mutual
noncomputable def hashD:D→Int
 | .int i=>hashInt i
 | .bl b=>hashInt (if b=true then 1 else 0)
 | .tup ds=>reduceHash (Builtin.Tuple.tupleHashOf (eE ds))
 | _=>0
noncomputable def eE:List D→List Int
 | []=>[]
 | d::ds=>hashD d::eE ds
end
mutual
noncomputable def drawsD:D→Nat
 | .tup ds=>dU ds+1
 | _=>1
noncomputable def dU:List D→Nat
 | []=>0
 | d::ds=>drawsD d+dU ds
end
mutual
theorem fB.inj {h:Heap}:∀ {x y:D}{v:Value},sh x=sh y→fB h x v→fB h y v→x=y
 | .int i,.int j,v,_,hx,hy=>by
  rw[fB] at hx hy
  obtain⟨t,rfl⟩:=hx
  obtain⟨t',e⟩:=hy
  injection e with e _
  rw[e]
 | .bl i,.bl j,v,_,hx,hy=>by
  rw[fB] at hx hy
  subst hx
  injection hy with e
  rw[e]
 | .tup ds,.tup es,v,hs,hx,hy=>by
  rw[fB] at hx hy
  obtain⟨a,o,items,n,rfl,h1,h2,h3,l1⟩:=hx
  obtain⟨a',o',items',n',e,h1',h2',h3',l2⟩:=hy
  cases e
  rw[h1] at h1'
  cases h1'
  rw[h3] at h3'
  cases h3'
  rw[sh,sh] at hs
  injection hs with hs
  rw[dP.inj hs l1 l2]
 | .non,_,_,_,hx,_=>by rw[fB] at hx;exact hx.elim
 | .str _,_,_,_,hx,_=>by rw[fB] at hx;exact hx.elim
 | .int _,.bl _,_,hs,_,_=>by rw[sh,sh] at hs;cases hs
 | .int _,.tup _,_,hs,_,_=>by rw[sh,sh] at hs;cases hs
 | .int _,.non,_,_,_,hy=>by rw[fB] at hy;exact hy.elim
 | .int _,.str _,_,_,_,hy=>by rw[fB] at hy;exact hy.elim
 | .bl _,.int _,_,hs,_,_=>by rw[sh,sh] at hs;cases hs
 | .bl _,.tup _,_,hs,_,_=>by rw[sh,sh] at hs;cases hs
 | .bl _,.non,_,_,_,hy=>by rw[fB] at hy;exact hy.elim
 | .bl _,.str _,_,_,_,hy=>by rw[fB] at hy;exact hy.elim
 | .tup _,.int _,_,hs,_,_=>by rw[sh,sh] at hs;cases hs
 | .tup _,.bl _,_,hs,_,_=>by rw[sh,sh] at hs;cases hs
 | .tup _,.non,_,_,_,hy=>by rw[fB] at hy;exact hy.elim
 | .tup _,.str _,_,_,_,hy=>by rw[fB] at hy;exact hy.elim
theorem dP.inj {h:Heap}:∀ {x y:List D}{vs:List Value},shL x=shL y→dP h x vs→dP h y vs→x=y
 | [],[],_,_,_,_=>rfl
 | [],_::_,_,hs,_,_=>by rw[shL,shL] at hs;cases hs
 | _::_,[],_,hs,_,_=>by rw[shL,shL] at hs;cases hs
 | x::xs,y::ys,vs,hs,hx,hy=>by
  rw[dP] at hx hy
  obtain⟨v,r,rfl,h1,l1⟩:=hx
  obtain⟨v',r',e,h2,l2⟩:=hy
  cases e
  rw[shL,shL] at hs
  injection hs with e1 e2
  rw[fB.inj e1 h1 h2,dP.inj e2 l1 l2]
end
mutual
theorem fB.keeps {h h':Heap} (k:∀ a o items n,h.get? a=some o→o.data=.seq items n→h'.get? a=some o):∀ {x:D}{v:Value},fB h x v→fB h' x v
 | .int i,v,hx=>by rw[fB] at hx ⊢;exact hx
 | .bl i,v,hx=>by rw[fB] at hx ⊢;exact hx
 | .tup ds,v,hx=>by
  rw[fB] at hx ⊢
  obtain⟨a,o,items,n,e,h1,h2,h3,l1⟩:=hx
  exact⟨a,o,items,n,e,k a o items n h1 h3,h2,h3,dP.keeps k l1⟩
 | .non,_,hx=>by rw[fB] at hx;exact hx.elim
 | .str _,_,hx=>by rw[fB] at hx;exact hx.elim
theorem dP.keeps {h h':Heap} (k:∀ a o items n,h.get? a=some o→o.data=.seq items n→h'.get? a=some o):∀ {x:List D}{vs:List Value},dP h x vs→dP h' x vs
 | [],_,hx=>by rw[dP] at hx ⊢;exact hx
 | x::xs,vs,hx=>by
  rw[dP] at hx ⊢
  obtain⟨v,r,e,h1,l1⟩:=hx
  exact⟨v,r,e,fB.keeps k h1,dP.keeps k l1⟩
end
theorem dP.length {h:Heap}:∀ {x:List D}{vs:List Value},dP h x vs→vs.length=x.length
 | [],_,hx=>by rw[dP] at hx;subst hx;rfl
 | x::xs,vs,hx=>by
  rw[dP] at hx
  obtain⟨v,r,rfl,_,l⟩:=hx
  rw[List.length_cons,List.length_cons,dP.length l]
theorem dP.get {h:Heap}:∀ {x:List D}{vs:List Value}{j:Nat}{d:D}{v:Value},dP h x vs→x[j]? = some d→vs[j]? = some v→fB h d v
 | [],_,_,_,_,_,e,_=>by simp at e
 | d::ds,vs,0,d',v,hx,e1,e2=>by
  rw[dP] at hx
  obtain⟨v',r,rfl,h1,_⟩:=hx
  simp at e1 e2
  subst e1 e2
  exact h1
 | d::ds,vs,j+1,d',v,hx,e1,e2=>by
  rw[dP] at hx
  obtain⟨v',r,rfl,_,l⟩:=hx
  exact dP.get l (by simpa using e1) (by simpa using e2)
section
variable {prog:Program}{w:World}
theorem wpAny_pyHash_bool {A:Around}{E:Value→Shared→Prop}{s:Shared}{b:Bool}{Q:Int→Shared→Prop} (h:Q (hashInt (if b=true then 1 else 0)) { s with toks:=s.toks+1 }):wpAny (model prog w) A (pyHash (.bool b)) Q E s:=by
 have hT:s.TypeIs (.bool b) "bool" := rfl
 have hr:=rawHash_range (if b=true then 1 else 0)
 unfold pyHash;have hv:[Value.bool b].any Value.onHeap=false:=rfl
 refine wpAny_bind ?_;rw[cRoomFor,if_neg (by rw[hv];exact Bool.false_ne_true)];refine wpAny_pure (wpAny_bind (wpAny_specialOf hT F.slot_bool_hash.lookup ?_))
 show wpAny _ _ (if (some (Value.builtin "int.__hash__") == some Value.none)=true then _ else _) Q E s;rw[if_neg (by rw[beq_builtin_none];exact Bool.false_ne_true)]
 refine wpAny_bind (wpAny_specialOf hT F.slot_bool_hash.lookup ?_);show wpAny _ _ (callSpecialIfBoundUnlessNone? (.bool b) "__hash__" _ >>= _) Q E s
 refine wpAny_bind (wpAny_callSpecialIfBoundUnlessNone?_slot hT F.slot_bool_hash (wpAny_call_entry F.slot_bool_hash hT F.entry_int_hash (show wpAny _ _ (do ret (← mkInt (rawHash (if b=true then 1 else 0)))) _ _ s from wpAny_ret_mkInt ?_) (F.args_int_hash_1 _)))
 show wpAny _ _ (if (decide (-(2:Int) ^ 63≤rawHash (if b=true then 1 else 0)) && decide (rawHash (if b=true then 1 else 0) < 2 ^ 63))=true then _ else _) Q E _;rw[if_pos (by rw[decide_eq_true hr.1,decide_eq_true hr.2];rfl)]
 exact wpAny_pure h
theorem hashDL_append:∀ (a b:List D),eE (a++b)=eE a++eE b
 | [],b=>by rw[eE];rfl
 | d::a,b=>by rw[List.cons_append,eE,eE,hashDL_append a b];rfl
theorem drawsDL_append:∀ (a b:List D),dU (a++b)=dU a+dU b
 | [],b=>by rw[dU,List.nil_append,Nat.zero_add]
 | d::a,b=>by rw[List.cons_append,dU,dU,drawsDL_append a b,Nat.add_assoc]
theorem depth_mem:∀ (ds:List D) (d:D),d∈ds→d.depth≤eQ ds:=by
 intro ds
 induction ds with
 | nil=>intro d h;cases h
 | cons e r ih=>
  intro d h
  rw[eQ]
  rcases List.mem_cons.1 h with rfl | h
  ·omega
  ·have:=ih d h;omega
noncomputable def HashOk (prog:Program) (w:World) (d:D):Prop:=∀ (A:Around) (E:Value→Shared→Prop) (s:Shared) (v:Value) (Q:Int→Shared→Prop),A.units+d.depth < cLine→fB s.heap d v→Q (hashD d) { s with toks:=s.toks+drawsD d }→wpAny (model prog w) A (pyHash v) Q E s
mutual
theorem hash_D:∀ (d:D),HashOk prog w d
 | .int i=>fun A E s v Q _ hx h=>by
  rw[fB] at hx
  obtain⟨t,rfl⟩:=hx
  rw[hashD,drawsD] at h
  ·exact wpAny_pyHash_int h
  ·intros;contradiction
 | .bl b=>fun A E s v Q _ hx h=>by
  rw[fB] at hx
  subst hx
  rw[hashD,drawsD] at h
  ·exact wpAny_pyHash_bool h
  ·intros;contradiction
 | .tup ds=>fun A E s v Q hu hx h=>by
  have all:=hash_DL ds
  rw[fB] at hx
  obtain⟨a,o,items,n,rfl,ho,hc,hd,hi⟩:=hx
  have hT:s.TypeIs (.ref a) "tuple" := ⟨o,ho,hc⟩
  have hdep:D.depth (.tup ds)=eQ ds+1:=by rw[D.depth]
  rw[hdep] at hu
  rw[hashD,drawsD] at h
  unfold pyHash
  first | unfold pyHashByItsType | skip
  first | refine wpAny_bind (wpAny_cRoomFor_or (.inr (by omega)) ?_) | skip
  refine wpAny_bind (wpAny_specialOf hT F.slot_tuple_hash.lookup ?_);show wpAny _ _ (if (some (Value.builtin "tuple.__hash__") == some Value.none)=true then _ else _) Q E s
  rw[if_neg (by rw[beq_builtin_none];exact Bool.false_ne_true)];refine wpAny_bind (wpAny_specialOf hT F.slot_tuple_hash.lookup ?_)
  show wpAny _ _ (callSpecialIfBoundUnlessNone? (.ref a) "__hash__" _ >>= _) Q E s;refine wpAny_bind (wpAny_callSpecialIfBoundUnlessNone?_slot hT F.slot_tuple_hash (wpAny_call_entry F.slot_tuple_hash hT F.entry_tuple_hash ?_ (F.args_tuple_hash_1 _)))
  show wpAny _ _ (Builtin.Tuple.tupleItemsOf (.ref a) >>= _) _ _ s;refine wpAny_bind (wpAny_tupleItemsOf ho hd (wpAny_bind ?_))
  rw[← Array.forIn_toList]
  refine wpAny_forIn_list _ (fun rest (b:Array Int) s'=>∃ done left,ds=done++left∧dP s.heap left rest∧b.toList=eE done∧s'={ s with toks:=s.toks+dU done }) _ ?_ ?_ _ _ ⟨[],ds,rfl,hi,by rw[eE],by rw[dU];rfl⟩
  ·rintro x rest b s' ⟨done,left,rfl,hl,hb,rfl⟩
   cases left with
   | nil=>rw[dP] at hl;cases hl
   | cons k ks'=>
    rw[dP] at hl
    obtain⟨v',r',e,h1,l1⟩:=hl
    cases e
    have hk:=all k (by simp)
    have hdk:=depth_mem (done++k::ks') k (by simp)
    have fin:∃ done' left',done++k::ks'=done'++left'∧dP s.heap left' rest∧(b.push (hashD k)).toList=eE done'∧({ s with toks:=s.toks+dU done+drawsD k }:Shared)={ s with toks:=s.toks+dU done' }:=
     ⟨done++[k],ks',by simp,l1,by rw[Array.toList_push,hb,hashDL_append,eE,eE],by rw[drawsDL_append,dU,dU,Nat.add_zero,Nat.add_assoc]⟩
    refine wpAny_bind (hk _ _ _ _ _ ?_ h1 ?_)
    ·have hin:A.in1.units=A.units+1:=rfl
     omega
    ·first
      | exact wpAny_pure fin
      | exact wpAny_bind (wpAny_pure (wpAny_pure fin))
  ·rintro b s' ⟨done,left,rfl,hl,hb,rfl⟩
   cases left with
   | cons k ks'=>rw[dP] at hl;obtain⟨_,_,e,_⟩:=hl;cases e
   | nil=>
    rw[List.append_nil] at h
    show wpAny _ _ (retInt (Builtin.Tuple.tupleHashOf b.toList)) _ _ _;rw[hb];refine wpAny_ret_mkInt ?_
    show wpAny _ _ (if (decide (-(2:Int) ^ 63≤Builtin.Tuple.tupleHashOf (eE done)) && decide (Builtin.Tuple.tupleHashOf (eE done) < 2 ^ 63))=true then _ else _) Q E _
    unfold reduceHash at h
    by_cases hr:(decide (-(2:Int) ^ 63≤Builtin.Tuple.tupleHashOf (eE done)) && decide (Builtin.Tuple.tupleHashOf (eE done) < 2 ^ 63))=true
    ·rw[if_pos hr] at h ⊢;exact wpAny_pure (by simpa [Nat.add_assoc] using h)
    ·rw[if_neg hr] at h ⊢;exact wpAny_bind (wpAny_rule (wpAny_pure (by simpa [Nat.add_assoc] using h)))
 | .non=>fun _ _ _ _ _ _ hx _=>by rw[fB] at hx;exact hx.elim
 | .str _=>fun _ _ _ _ _ _ hx _=>by rw[fB] at hx;exact hx.elim
theorem hash_DL:∀ (ds:List D),∀ d∈ds,HashOk prog w d
 | [],_,h=>(nomatch h)
 | e::es,d,h=>by
  have h0:=hash_D e
  have h1:=hash_DL es
  rcases List.mem_cons.1 h with z | z
  ·rw[z];exact h0
  ·exact h1 d z
end
end
noncomputable instance decD:DecidableEq D:=fun a b=>Classical.propDecidable (a=b)
mutual
theorem depth_sh:∀ (d:D),(sh d).depth=d.depth
 | .int _=>by rw[sh,D.depth,D.depth] <;> (intros;contradiction)
 | .bl _=>by rw[sh,D.depth,D.depth] <;> (intros;contradiction)
 | .tup ds=>by rw[sh,D.depth,D.depth,depth_shL ds]
 | .non=>by rw[sh] <;> (intros;contradiction)
 | .str _=>by rw[sh] <;> (intros;contradiction)
theorem depth_shL:∀ (ds:List D),eQ (shL ds)=eQ ds
 | []=>by rw[shL]
 | d::ds=>by rw[shL,eQ,eQ,depth_sh d,depth_shL ds]
end
theorem shL_len:∀ (ds:List D),(shL ds).length=ds.length
 | []=>by rw[shL]
 | d::ds=>by rw[shL,List.length_cons,List.length_cons,shL_len ds]
noncomputable def EqOk (x y:D):Prop:=∀ (A:Around) (s:Shared) (u v:Value),A.units+x.depth < cLine→fB s.heap x u→fB s.heap y v→SeqAt.EqAt A s u v (decide (x=y))
mutual
theorem eq_D:∀ (x y:D),sh x=sh y→EqOk x y
 | .int i,.int j,_=>fun A s u v _ hx hy=>by
  rw[fB] at hx hy
  obtain⟨t,rfl⟩:=hx
  obtain⟨t',rfl⟩:=hy
  have:=SeqAt.EqAt.int_int (A:=A) (s:=s) i t j t'
  have e:decide (D.int i=D.int j)=(i == j):=by
   rw[Bool.eq_iff_iff,decide_eq_true_eq,beq_iff_eq,D.int.injEq]
  rw[e];exact this
 | .bl i,.bl j,_=>fun A s u v _ hx hy=>by
  rw[fB] at hx hy
  subst hx hy
  have:=SeqAt.EqAt.bool_bool (A:=A) (s:=s) i j
  have e:decide (D.bl i=D.bl j)=(i == j):=by
   rw[Bool.eq_iff_iff,decide_eq_true_eq,beq_iff_eq,D.bl.injEq]
  rw[e];exact this
 | .tup ds,.tup es,hs=>fun A s u v hu hx hy=>by
  rw[sh,sh] at hs
  injection hs with hs
  have all:=eq_DL ds es hs
  have hl:ds.length=es.length:=by rw[← shL_len ds,hs,shL_len]
  have hinj:=fun (a:Value) (h1:fB s.heap (.tup ds) a) (h2:fB s.heap (.tup es) a)=>fB.inj (by rw[sh,sh,hs]) h1 h2
  have hx0:=hx
  have hy0:=hy
  rw[fB] at hx hy
  obtain⟨a,o,items,n,rfl,h1,h2,h3,l1⟩:=hx
  obtain⟨b,o',items',n',rfl,h1',h2',h3',l2⟩:=hy
  by_cases hab:a=b
  ·subst hab
   rw[decide_eq_true (hinj _ hx0 hy0)]
   exact SeqAt.EqAt.same _
  ·have hdep:D.depth (.tup ds)=eQ ds+1:=by rw[D.depth]
   rw[hdep] at hu
   have hin:A.in1.units=A.units+1:=rfl
   have k1:=l1.length
   have k2:=l2.length
   have z1:items.size=ds.length:=by rw[← k1];simp
   have z2:items'.size=es.length:=by rw[← k2];simp
   have:=SeqAt.RcAt.tuples (A:=A) (s:=s) (e:=fun j=>match ds[j]?,es[j]? with | some x,some y=>decide (x=y) | _,_=>true) (show s.heap.IsTuple a items from ⟨o,h1,h2,n,h3⟩) (show s.heap.IsTuple b items' from ⟨o',h1',h2',n',h3'⟩) (by omega) fun j j1 j2=>by
    have i1:j < ds.length:=by omega
    have i2:j < es.length:=by omega
    rw[List.getElem?_eq_getElem i1,List.getElem?_eq_getElem i2]
    have hd:=depth_mem ds ds[j] (List.getElem_mem i1)
    exact all j ds[j] es[j] (by simp) (by simp) A.in1 s items[j] items'[j] (by omega) (dP.get (j:=j) l1 (by simp) (by simp)) (dP.get (j:=j) l2 (by simp) (by simp))
   have e5:((List.range (min items.size items'.size)).all (fun j=>match ds[j]?,es[j]? with | some x,some y=>decide (x=y) | _,_=>true) && items.size == items'.size)=decide (D.tup ds=D.tup es):=by
    have e0:(items.size == items'.size)=true:=by rw[beq_iff_eq];omega
    rw[e0,Bool.and_true,Bool.eq_iff_iff,decide_eq_true_eq,List.all_eq_true,D.tup.injEq]
    constructor
    ·intro h
     apply List.ext_getElem hl
     intro j j1 j2
     have:=h j (List.mem_range.mpr (by omega))
     rw[List.getElem?_eq_getElem j1,List.getElem?_eq_getElem j2] at this
     exact of_decide_eq_true this
    ·rintro rfl j hj
     cases ds[j]? with
     | none=>rfl
     | some x=>exact decide_eq_true rfl
   rw[e5] at this
   exact SeqAt.EqAt.of_refs hab this
 | .non,_,_=>fun _ _ _ _ _ hx _=>by rw[fB] at hx;exact hx.elim
 | .str _,_,_=>fun _ _ _ _ _ hx _=>by rw[fB] at hx;exact hx.elim
 | .int _,.bl _,hs=>by rw[sh,sh] at hs;cases hs
 | .int _,.tup _,hs=>by rw[sh,sh] at hs;cases hs
 | .int _,.non,_=>fun _ _ _ _ _ _ hy=>by rw[fB] at hy;exact hy.elim
 | .int _,.str _,_=>fun _ _ _ _ _ _ hy=>by rw[fB] at hy;exact hy.elim
 | .bl _,.int _,hs=>by rw[sh,sh] at hs;cases hs
 | .bl _,.tup _,hs=>by rw[sh,sh] at hs;cases hs
 | .bl _,.non,_=>fun _ _ _ _ _ _ hy=>by rw[fB] at hy;exact hy.elim
 | .bl _,.str _,_=>fun _ _ _ _ _ _ hy=>by rw[fB] at hy;exact hy.elim
 | .tup _,.int _,hs=>by rw[sh,sh] at hs;cases hs
 | .tup _,.bl _,hs=>by rw[sh,sh] at hs;cases hs
 | .tup _,.non,_=>fun _ _ _ _ _ _ hy=>by rw[fB] at hy;exact hy.elim
 | .tup _,.str _,_=>fun _ _ _ _ _ _ hy=>by rw[fB] at hy;exact hy.elim
theorem eq_DL:∀ (ds es:List D),shL ds=shL es→∀ (j:Nat) (x y:D),ds[j]? = some x→es[j]? = some y→EqOk x y
 | [],_,_,j,x,y,h,_=>by simp at h
 | _::_,[],_,j,x,y,_,h=>by simp at h
 | d::ds,e::es,hs,j,x,y,h1,h2=>by
  rw[shL,shL] at hs
  injection hs with s1 s2
  have k0:=eq_D d e s1
  have k1:=eq_DL ds es s2
  cases j with
  | zero=>simp at h1 h2;rw[← h1,← h2];exact k0
  | succ j=>exact k1 j x y (by simpa using h1) (by simpa using h2)
end
noncomputable def QuietOk (prog:Program) (w:World) (d:D):Prop:=∀ (n:Nat) (A:Around) (E:Value→Shared→Prop) (s:Shared) (v:Value) (Q:Bool→Shared→Prop),d.depth≤n→fB s.heap d v→Q true s→wpAny (model prog w) A (eqIsQuiet n v) Q E s
section
variable {prog:Program}{w:World}
mutual
theorem quiet_D:∀ (d:D),QuietOk prog w d
 | .int i=>fun n A E s v Q _ hx h=>by
  rw[fB] at hx
  obtain⟨t,rfl⟩:=hx
  rw[eqIsQuiet_byValue n (v:=.int i t) rfl]
  exact wpAny_pure h
 | .bl b=>fun n A E s v Q _ hx h=>by
  rw[fB] at hx
  subst hx
  rw[eqIsQuiet_byValue n (v:=.bool b) rfl]
  exact wpAny_pure h
 | .tup ds=>fun n A E s v Q hn hx h=>by
  have all:=quiet_DL ds
  have hdep:D.depth (.tup ds)=eQ ds+1:=by rw[D.depth]
  rw[hdep] at hn
  rw[fB] at hx
  obtain⟨a,o,items,m,rfl,ho,hc,hd,hi⟩:=hx
  have hT:s.TypeIs (.ref a) "tuple" := ⟨o,ho,hc⟩
  obtain⟨n',rfl⟩:∃ n',n=n'+1:=⟨n - 1,by omega⟩
  unfold eqIsQuiet
  refine wpAny_bind (wpAny_specialOf hT F.slot_tuple_eq.lookup ?_);show wpAny _ _ (isInstance (.ref a) (.type "tuple") >>= _) _ _ s
  refine wpAny_bind (wpAny_isInstance hT isSubtype_tuple_tuple ?_);simp only [Bool.not_true,Bool.false_eq_true,if_false]
  refine wpAny_bind (wpAny_seqItems ho hd (wpAny_bind ?_));show wpAny _ _ (forIn items _ _) _ _ s
  rw[← Array.forIn_toList]
  refine wpAny_forIn_list _ (fun rest r s'=>r.1=none∧s'=s∧∃ left,dP s.heap left rest∧∀ d∈left,d∈ds) _ ?_ ?_ _ _ ⟨rfl,rfl,ds,hi,fun _ z=>z⟩
  ·rintro v rest r s' ⟨hr,rfl,left,hl,hsub⟩
   cases left with
   | nil=>rw[dP] at hl;cases hl
   | cons k ks=>
    rw[dP] at hl
    obtain⟨v',r',e,h1,l1⟩:=hl
    cases e
    have hk:=hsub k (by simp)
    refine wpAny_bind (all k hk n' _ _ _ _ _ (by have:=depth_mem ds k hk;omega) h1 ?_)
    simp only [Bool.not_true,Bool.false_eq_true,if_false]
    exact wpAny_pure ⟨rfl,rfl,ks,l1,fun d hd=>hsub d (List.mem_cons_of_mem _ hd)⟩
  ·rintro⟨r1,r2⟩ s' ⟨hr,rfl,_⟩
   simp only at hr
   subst hr
   exact wpAny_pure h
 | .non=>fun _ _ _ _ _ _ _ hx _=>by rw[fB] at hx;exact hx.elim
 | .str _=>fun _ _ _ _ _ _ _ hx _=>by rw[fB] at hx;exact hx.elim
theorem quiet_DL:∀ (ds:List D),∀ d∈ds,QuietOk prog w d
 | [],_,h=>(nomatch h)
 | e::es,d,h=>by
  have h0:=quiet_D e
  have h1:=quiet_DL es
  rcases List.mem_cons.1 h with z | z
  ·rw[z];exact h0
  ·exact h1 d z
end
noncomputable def shapeKind (prog:Program) (w:World) (S:D):HeapKind prog w D where
 is:=fun h d a=>sh d=S∧d.depth≤7∧fB h d (.ref a)
 hash:=hashD
 draws:=drawsD
 room:=fun A=>A.units+8 < cLine
 inj:=fun hx hy=>fB.inj (hx.1.trans hy.1.symm) hx.2.2 hy.2.2
 keeps:=fun {h h' k a d o es ep} x ho hd hs=>⟨x.1,x.2.1,fB.keeps (fun a' o' items n h1 h3=>by
  by_cases e:a'=d
  ·subst e
   rw[ho] at h1
   cases h1
   rw[hd] at h3
   cases h3
  ·exact (hs.2 a' e).trans h1) x.2.2⟩
 pyHash:=fun {A E s k a Q} hu hk h=>hash_D k A E s _ Q (by have:=hk.2.1;omega) hk.2.2 h
 eqBool:=fun {A E s x y a b Q} hu hx hy h=>eq_D x y (hx.1.trans hy.1.symm) A s _ _ (by have:=hx.2.1;omega) hx.2.2 hy.2.2 prog w E Q h
 quiet:=fun {A E s k a Q} hk h=>quiet_D k 8 A E s _ Q (by have:=hk.2.1;omega) hk.2.2 h
end
end L2
namespace L2
open PySem PySem.Spec PyProof.Rows TwZ
mutual
noncomputable def fJ:D→Prop
 | .int _=>True
 | .bl _=>True
 | .tup ds=>dX ds
 | .non=>False
 | .str _=>False
noncomputable def dX:List D→Prop
 | []=>True
 | d::ds=>fJ d∧dX ds
end
section
variable {X:Cx}{pins:List (Addr×Obj)}{σ:St}{H:Hp}{s:Shared}
mutual
theorem Is.toU (I:Inv X pins σ H s):∀ (d:D) (v:V) (u:Value),fJ d→Is X.K H d v→bS v u→fB s.heap d u
 | .int i,v,u,_,h,r=>by rw[Is] at h;subst h;rw[fB];exact r
 | .bl b,v,u,_,h,r=>by rw[Is] at h;subst h;rw[fB];exact r
 | .tup ds,v,u,p,h,r=>by
  rw[Is] at h
  obtain⟨a,xs,rfl,q,l⟩:=h
  cases r
  obtain⟨its,rv,⟨o,e,c,n,d⟩,_⟩:=I.tuple q
  rw[fB]
  exact⟨a,o,its.toArray,n,rfl,e,c,d,by simpa using IsL.toU I ds xs its (by rw[fJ] at p;exact p) l rv⟩
 | .non,_,_,p,_,_=>by rw[fJ] at p;exact p.elim
 | .str _,_,_,p,_,_=>by rw[fJ] at p;exact p.elim
theorem IsL.toU (I:Inv X pins σ H s):∀ (ds:List D) (vs:List V) (us:List Value),dX ds→IsL X.K H ds vs→bX vs us→dP s.heap ds us
 | [],vs,us,_,h,r=>by rw[IsL] at h;subst h;cases r;rw[dP]
 | d::ds,vs,us,p,h,r=>by
  rw[IsL] at h
  obtain⟨x,xs,rfl,h1,h2⟩:=h
  rw[dX] at p
  cases r with
  | cons r1 r2=>
   rw[dP]
   exact⟨_,_,rfl,Is.toU I d x _ p.1 h1 r1,IsL.toU I ds xs _ p.2 h2 r2⟩
end
end
structure KeyD (K:PySem.W.Frag) (H:Hp) (S:D) (k:D) (v:V):Prop where
 sh:sh k=S
 dp:k.depth≤7
 pl:fJ k
 is:Is K H k v
 tup:∃ b,v=.ref b
theorem KeyD.mono {K:PySem.W.Frag}{H H':Hp}{S k:D}{v:V} (h:KeyD K H S k v) (t:cA K H H'):KeyD K H' S k v:=⟨h.sh,h.dp,h.pl,Is.mono t _ _ h.is,h.tup⟩
noncomputable def dictF (P:Program) (w:World) (S:D) (a:Addr) (xs:List (D×Addr×Value)) (h:Heap):Prop:=
 ∃ o es ep,h.get? a=some o∧o.ExactDict∧o.data=.dict es ep∧es.toList=xs.map (entryOfKey (shapeKind P w S))∧(xs.map (·.1)).Nodup
noncomputable abbrev KD (K:PySem.W.Frag) (H:Hp) (S:D):List (D×V)→List (D×Addr×Value)→Prop:=Paired fun p q=>p.1=q.1∧KeyD K H S p.1 (.ref q.2.1)∧bS p.2 q.2.2
noncomputable def fA (P:Program) (w:World) (K:PySem.W.Frag) (H:Hp) (a:Addr) (S:D) (kvs:List (D×V)):Prop:=
 (H a=some (.dK [])∧kvs=[])∨∃ xs,H a=some (.ext (dictF P w S a xs))∧(a == sysModules)=false∧kvs.length≤sizeLine∧KD K H S kvs xs
section
variable {P:Program}{w:World}{K:PySem.W.Frag}{H H':Hp}{a:Addr}{S:D}{kvs:List (D×V)}
theorem KD.mono {xs:List (D×Addr×Value)} (h:KD K H S kvs xs) (t:cA K H H'):KD K H' S kvs xs:=Paired.mapP h fun p q z=>⟨z.1,z.2.1.mono t,z.2.2⟩
theorem fA.mono (h:fA P w K H a S kvs) (t:cA K H H') (e:∀ o,H a=some o→H' a=some o):fA P w K H' a S kvs:=by
 rcases h with ⟨h,z⟩ | ⟨xs,h,y,z,p⟩
 ·exact .inl ⟨e _ h,z⟩
 ·exact .inr ⟨xs,e _ h,y,z,KD.mono p t⟩
theorem fA.same (h:fA P w K H a S kvs) (m:aG H H'):fA P w K H' a S kvs:=h.mono m.ts fun o e=>m _ _ e
theorem fA.mut (h:fA P w K H a S kvs):Mut (H a):=by
 rcases h with ⟨h,_⟩ | ⟨_,h,_⟩ <;> (rw[h];exact trivial)
theorem fA.new (h:H a=Option.some (.dK [])):fA P w K H a S []:=.inl ⟨h,rfl⟩
theorem KD.val {xs:List (D×Addr×Value)} (k:D):∀ {kvs:List (D×V)},KD K H S kvs xs→RelO (dY kvs k) ((atKey xs k).map (·.2))
 | [],h=>by cases h;exact trivial
 | p::r,h=>by
  cases h with
  | cons h1 h2=>
   rename_i q m
   by_cases e:p.1=k
   ·rw[dM e]
    have:atKey (q::m) k=Option.some q.2:=by unfold atKey;rw[List.find?_cons_of_pos (by rw[← h1.1];exact decide_eq_true e)];rfl
    rw[this];exact h1.2.2
   ·rw[dN e]
    have:atKey (q::m) k=atKey m k:=by unfold atKey;rw[List.find?_cons_of_neg (by rw[← h1.1];simpa using e)]
    rw[this];exact KD.val k h2
theorem KD.put {xs:List (D×Addr×Value)}{k:D}{v:V}{b:Addr}{u:Value} (h:KD K H S kvs xs) (hk:KeyD K H S k (.ref b)) (r:bS v u):KD K H S (putK kvs k v) (storedH xs k b u):=by
 unfold putK storedH
 have e:(kvs.any fun kv=>decide (kv.1=k))=(atKey xs k).isSome:=by
  rw[valV_any,(KD.val k h).isSome_eq,Option.isSome_map]
 rw[e]
 by_cases c:(atKey xs k).isSome=true
 ·rw[if_pos c,if_pos c]
  clear e c
  induction h with
  | nil=>exact .nil
  | cons h1 h2 ih=>
   rename_i p q l m
   refine .cons ?_ ih
   unfold putAt
   dsimp only
   by_cases z:p.1=k
   ·rw[if_pos z,if_pos (by rw[← h1.1];exact z)];exact⟨h1.1,h1.2.1,r⟩
   ·rw[if_neg z,if_neg (by rw[← h1.1];exact z)];exact h1
 ·rw[if_neg c,if_neg c]
  clear e c
  induction h with
  | nil=>exact .cons ⟨rfl,hk,r⟩ .nil
  | cons h1 h2 ih=>exact .cons h1 ih
end
section
variable {X:Cx}{pins:List (Addr×Obj)}{σ:St}{H:Hp}{s:Shared}{a:Addr}{S:D}{kvs:List (D×V)}
theorem KD.keys (I:Inv X pins σ H s):∀ {kvs:List (D×V)}{xs:List (D×Addr×Value)},KD X.K H S kvs xs→∀ x∈xs,(shapeKind X.prog X.w S).is s.heap x.1 x.2.1
 | _,_,.nil,x,hx=>by simp at hx
 | _,_,.cons h1 h2,x,hx=>by
  rcases List.mem_cons.mp hx with e | hx
  ·subst e
   have k:=h1.2.1
   rw[h1.1] at k
   exact⟨k.sh,k.dp,Is.toU I _ _ _ k.pl k.is rfl⟩
  ·exact KD.keys I h2 x hx
theorem fA.at (I:Inv X pins σ H s) (g:fA X.prog X.w X.K H a S kvs):(a == sysModules)=false∧kvs.length≤sizeLine∧∃ xs,KD X.K H S kvs xs∧s.heap.DictOfH (shapeKind X.prog X.w S) a xs:=by
 rcases g with ⟨e,rfl⟩ | ⟨xs,e,y,z,p⟩
 ·obtain⟨z,hd,vs,rel,o,es,ep,h1,h2,h3,_,h4,_⟩:=dk_of I.hok e
  cases rel
  have e0:es.toList=[]:=by
   revert h4
   generalize es.toList=l
   intro h4
   cases h4
   rfl
  exact⟨hd,Nat.zero_le _,[],.nil,o,es,ep,h1,h2,h3,by rw[e0];rfl,fun x hx=>(nomatch hx),List.nodup_nil⟩
 ·obtain⟨⟨o,es,ep,h1,h2,h3,h4,h5⟩,_⟩:=(show cZ X.prog X.w H s.heap a (.ext (dictF X.prog X.w S a xs)) from I.hok a _ e)
  exact⟨y,z,xs,p,o,es,ep,h1,h2,h3,h4,KD.keys I p,h5⟩
theorem KeyD.at (I:Inv X pins σ H s) {k:D}{b:Addr} (h:KeyD X.K H S k (.ref b)):(shapeKind X.prog X.w S).is s.heap k b:=⟨h.sh,h.dp,Is.toU I _ _ _ h.pl h.is rfl⟩
noncomputable def rInD (P:Program) (w:World) (K:PySem.W.Frag):R2:=fun x y H Q=>∃ a S kvs k,y=.ref a∧fA P w K H a S kvs∧KeyD K H S k x∧Q (.bl (dY kvs k).isSome) H
theorem op_inD (hu:X.A.units+64 < cLine):OpR X (compareOp .In) (rInD X.prog X.w X.K):=by
 intro pins s σ H x y v u Q I rx ry h
 obtain⟨a,S,kvs,k,rfl,g,hk,q⟩:=h
 obtain⟨b,rfl⟩:=hk.tup
 cases rx
 cases ry
 obtain⟨hd,hz,xs,p,dd⟩:=g.at I
 refine wpAny_in_heap (knd:=shapeKind X.prog X.w S) (show X.A.in1.units+8 < cLine by show X.A.units+1+8 < cLine;omega) (hk.at I) hd dd ?_
 have e:=(KD.val k p).isSome_eq
 rw[Option.isSome_map] at e
 rw[← e]
 exact⟨.bl _,H,I.tok _,rfl,q⟩
noncomputable def rIxD (P:Program) (w:World) (K:PySem.W.Frag):R2:=fun x y H Q=>∃ a S kvs k v,x=.ref a∧fA P w K H a S kvs∧KeyD K H S k y∧dY kvs k=some v∧Q v H
theorem ix_D (hu:X.A.units+64 < cLine):IxR X (rIxD X.prog X.w X.K):=by
 intro value slice pins s σ H x y v u Q I rx ry h hs
 obtain⟨a,S,kvs,k,z,rfl,g,hk,hv,q⟩:=h
 obtain⟨b,rfl⟩:=hk.tup
 cases rx
 cases ry
 obtain⟨hd,hz,xs,p,dd⟩:=g.at I
 obtain⟨w',hw,rw'⟩:=RelO.some_of (v:=z) (o:=(atKey xs k).map (·.2)) (by rw[← hv];exact KD.val k p)
 obtain⟨pp,hp,hp2⟩:=Option.map_eq_some_iff.mp hw
 refine subscriptTail_builtinR (x:=w') dd.typeIs PySem.F.slot_dict_getitem.lookup
  (wpAny_getItem_heap (knd:=shapeKind X.prog X.w S) (Q:=fun r s'=>r=w'∧EP X pins σ Q r s') (show X.A.in1.units+8 < cLine by show X.A.units+1+8 < cLine;omega) (hk.at I) dd hp ⟨hp2,?_⟩) hs
 rw[hp2]
 exact⟨z,H,I.tok _,rw',q⟩
noncomputable def sDPutD (P:Program) (w:World) (K:PySem.W.Frag) (td ty tv:TE):TS:=fun D σ H=>tv σ H fun v H1=>td σ H1 fun x H2=>ty σ H2 fun y H3=>∃ a S kvs k,x=.ref a∧fA P w K H3 a S kvs∧KeyD K H3 S k y∧kvs.length < sizeLine∧
 ∀ H4,fC a H3 H4→fA P w K H4 a S (putK kvs k v)→D.nx σ H4
theorem ps_dputD {o i value:Expr}{pos pos':Pos}{td ty tv:TE} (hu:X.A.units+64 < cLine) (ho:PE X o td) (hi:PE X i ty) (hv:PE X value tv) (hs:swapsWith value (some (.Subscript o i pos')) pos.line X.env=pure false) :
  PS X (.Assign [.Subscript o i pos'] value pos) (sDPutD X.prog X.w X.K td ty tv):=by
 intro pins s σ H D I h
 refine wpAny_Assign_Subscript (d0 (hv pins s σ H _ I h) fun r s1 ⟨v,H1,I1,rv,q1⟩=>d0 (ho pins s1 σ H1 _ I1 q1) fun u s2 ⟨x,H2,I2,rx,q2⟩=>d0 (hi pins s2 σ H2 _ I2 q2) fun iv s3 ⟨y,H3,I3,ry,a,S,kvs,k,ex,g,hk,hl,q3⟩=>?_) hs
 subst ex
 obtain rfl:u=Value.ref a:=rx
 obtain⟨b,rfl⟩:=hk.tup
 cases ry
 obtain⟨hd,hz,xs,p,dd⟩:=g.at I3
 have hz':xs.length≤sizeLine:=by rw[← Paired.length p];exact hz
 have hlp:(putK kvs k v).length≤sizeLine:=by have:=length_putK kvs k v;omega
 refine wpAny_setItem_heap (knd:=shapeKind X.prog X.w S) (hsz:=hz') (show X.A.in1.units+8 < cLine by show X.A.units+1+8 < cLine;omega) (hk.at I3) dd fun h' dd' hsb=>?_
 obtain⟨qo,es,ep,hq,h2,h3,h4,_,h5⟩:=dd'
 have mu:=g.mut
 have bt:fC a H3 (upd H3 a (.ext (dictF X.prog X.w S a (storedH xs k b r)))):=fC.upd
 have ts:=bt.ts (K:=X.K) mu
 refine⟨σ,_,d_write I3 mu hsb ⟨qo,hq⟩ (ob:=.ext (dictF X.prog X.w S a (storedH xs k b r))) ⟨⟨qo,es,ep,hq,h2,h3,h4,h5⟩,⟨qo,hq⟩,fun h1 h2' ⟨o',es',ep',z1,z⟩ kk=>⟨o',es',ep',kk _ z1,z⟩⟩,q3 _ bt (.inr ⟨_,aC,hd,hlp,KD.mono (KD.put p hk rv) ts⟩)⟩
theorem op_inDK {P:Program}{w:World}{K:PySem.W.Frag} (hP:X.prog=P) (hw:X.w=w) (hK:X.K=K) (hu:X.A.units+64 < cLine):OpR X (compareOp .In) (rInD P w K):=by subst hP hw hK;exact op_inD hu
theorem ix_DK {P:Program}{w:World}{K:PySem.W.Frag} (hP:X.prog=P) (hw:X.w=w) (hK:X.K=K) (hu:X.A.units+64 < cLine):IxR X (rIxD P w K):=by subst hP hw hK;exact ix_D hu
theorem ps_dputDK {P:Program}{w:World}{K:PySem.W.Frag}{o i value:Expr}{pos pos':Pos}{td ty tv:TE} (hP:X.prog=P) (hw:X.w=w) (hK:X.K=K) (hu:X.A.units+64 < cLine) (ho:PE X o td) (hi:PE X i ty) (hv:PE X value tv)
  (hs:swapsWith value (some (.Subscript o i pos')) pos.line X.env=pure false):PS X (.Assign [.Subscript o i pos'] value pos) (sDPutD P w K td ty tv):=by subst hP hw hK;exact ps_dputD hu ho hi hv hs
end
end L2
namespace Tw
open PySem L2
structure Sta where
 held:List Int
 coming:List Int
 doors:List Bool
noncomputable def sta0 (net:Net):Sta:=⟨bV net.vs.length,bV net.vs.length,net.sps.map (·.2.2)⟩
noncomputable def Sta.tk (net:Net) (s:Sta):Tick:=cF net s.held s.coming (bV net.vs.length) s.doors
noncomputable def Sta.next (net:Net) (s:Sta):Sta:=⟨(s.tk net).held,(s.tk net).coming,(s.tk net).doors⟩
noncomputable def bZ (net:Net):Nat→Sta
 | 0=>sta0 net
 | t+1=>(bZ net t).next net
noncomputable def eA (s:Sta):L2.D:=stD s.held s.coming s.doors
noncomputable def dJ (net:Net):Nat→List (L2.D×V)
 | 0=>[]
 | t+1=>putK (dJ net t) (eA (bZ net t)) (.int (t:Int))
noncomputable def repAt (net:Net) (t:Nat):Option V:=dY (dJ net t) (eA (bZ net t))
noncomputable def Rep (net:Net) (t:Nat) (j:Int):Prop:=t≤2000∧repAt net t=some (.int j)∧∀ i,i < t→repAt net i=none
noncomputable def Long (net:Net):Prop:=∀ i,i≤2000→repAt net i=none
theorem seen_len (net:Net):∀ t,(dJ net t).length≤t
 | 0=>Nat.le_refl _
 | t+1=>by
  have h1:=length_putK (dJ net t) (eA (bZ net t)) (.int (t:Int))
  have h2:=seen_len net t
  show (putK _ _ _).length≤_
  omega
theorem seen_int (net:Net) (k:L2.D) (v:V):∀ t,dY (dJ net t) k=some v→∃ j,v=.int j
 | 0,h=>by cases h
 | t+1,h=>by
  rw[show dJ net (t+1)=putK (dJ net t) (eA (bZ net t)) (.int (t:Int)) from rfl,valV_put] at h
  by_cases e:k=eA (bZ net t)
  ·rw[if_pos e] at h;cases h;exact⟨_,rfl⟩
  ·rw[if_neg e] at h;exact seen_int net k v t h
theorem zeros_l (n:Nat):(bV n).length=n:=by simp [bV]
theorem sta_ok {net:Net} (nok:NetOk net):∀ t,StOk net (bZ net t).held (bZ net t).coming (bZ net t).doors
 | 0=>⟨zeros_l _,zeros_l _,by show (net.sps.map _).length=_;rw[List.length_map]⟩
 | t+1=>by
  have ih:=sta_ok nok t
  have hs:(aM net (bZ net t).held (bZ net t).coming (bV net.vs.length) (bZ net t).doors).length=net.vs.length:=by
   unfold aM;rw[eY,add3_len ih.h ih.c (zeros_l _)]
  exact⟨staysL_len _ _ hs.symm,by show (cN _ _).length=_;unfold cN;simp,by show (bO _ _ _).length=_;rw[doorsL_len];exact ih.d⟩
noncomputable def shN (net:Net):L2.D:=.tup [.tup (List.replicate net.vs.length (.int 0)),.tup (List.replicate net.vs.length (.int 0)),.tup (List.replicate net.sps.length (.bl false))]
theorem shL_ints:∀ xs:List Int,shL (xs.map L2.D.int)=List.replicate xs.length (.int 0)
 | []=>by rw[List.map_nil,shL];rfl
 | x::xs=>by rw[List.map_cons,shL,sh,shL_ints xs];rfl
theorem shL_bls:∀ xs:List Bool,shL (xs.map L2.D.bl)=List.replicate xs.length (.bl false)
 | []=>by rw[List.map_nil,shL];rfl
 | x::xs=>by rw[List.map_cons,shL,sh,shL_bls xs];rfl
theorem plainL_ints:∀ xs:List Int,dX (xs.map L2.D.int)
 | []=>by rw[List.map_nil,dX];trivial
 | x::xs=>by rw[List.map_cons,dX,fJ];exact⟨trivial,plainL_ints xs⟩
theorem plainL_bls:∀ xs:List Bool,dX (xs.map L2.D.bl)
 | []=>by rw[List.map_nil,dX];trivial
 | x::xs=>by rw[List.map_cons,dX,fJ];exact⟨trivial,plainL_bls xs⟩
theorem sh_sta {net:Net}{s:Sta} (ok:StOk net s.held s.coming s.doors):sh (eA s)=shN net:=by
 show sh (.tup [.tup (s.held.map L2.D.int),.tup (s.coming.map L2.D.int),.tup (s.doors.map L2.D.bl)])=_
 rw[sh,shL,shL,shL,shL,sh,sh,sh,shL_ints,shL_ints,shL_bls,ok.h,ok.c,ok.d];rfl
theorem plain_sta (s:Sta):fJ (eA s):=by
 show fJ (.tup [.tup (s.held.map L2.D.int),.tup (s.coming.map L2.D.int),.tup (s.doors.map L2.D.bl)])
 rw[fJ,dX,dX,dX,dX,fJ,fJ,fJ]
 exact⟨plainL_ints _,plainL_ints _,plainL_bls _,trivial⟩
theorem depth_sta (s:Sta):(eA s).depth≤7:=by
 show (L2.D.tup [.tup (s.held.map L2.D.int),.tup (s.coming.map L2.D.int),.tup (s.doors.map L2.D.bl)]).depth≤7
 rw[L2.D.depth,depth_st];decide
theorem key_sta {K:PySem.W.Frag}{H:Hp}{net:Net}{s:Sta}{v:V} (ok:StOk net s.held s.coming s.doors) (h:Is K H (eA s) v):KeyD K H (shN net) (eA s) v:=by
 refine⟨sh_sta ok,depth_sta s,plain_sta s,h,?_⟩
 obtain⟨a,xs,rfl,_⟩:=(show Is K H (.tup [.tup (s.held.map L2.D.int),.tup (s.coming.map L2.D.int),.tup (s.doors.map L2.D.bl)]) v from h).un
 exact⟨a,rfl⟩
end Tw
namespace Tw
open PySem L2
structure TxtT (mg:Str→Option Value):Prop where
 g_LAST_TICK:∃ u,mg "LAST_TICK" = some u∧bS (.int 2000) u
theorem small1M' {n:Nat} (h:n≤10000000):n < sizeLine:=by rw[sizeLine_eq];omega
end Tw
namespace Tw
open PySem L2
section
variable {P:Program}{w:World}{K:PySem.W.Frag}{mg:Str→Option Value}{base:Heap}
noncomputable def Sq2 (K:PySem.W.Frag) (H:Hp) (a:Addr) (xs:List V):Prop:=bR K H a xs∨bT K H a xs
theorem Sq2.same {H H':Hp}{a:Addr}{xs:List V} (h:Sq2 K H a xs) (s:aG H H'):Sq2 K H' a xs:=h.elim (fun h=>.inl (s.tup h)) fun h=>.inr (s.seq h)
theorem ix2 {H:Hp}{z:Addr}{xs:List V}{i:Int}{v:V}{Q:VK} (h:Sq2 K H z xs) (e:atI xs i=some v) (k:Q v H):rIx K (.ref z) (.int i) H Q:=h.elim (fun h=>.inr (.inl ⟨z,xs,i,v,rfl,rfl,h,e,k⟩)) fun h=>.inl ⟨z,xs,i,v,rfl,rfl,h,e,k⟩
noncomputable def spFilledL (K:PySem.W.Frag):Sp:=fun args H Q _=>∃ (x y:V) (z:Addr) (net:Net) (held coming poured:List Int) (doors:List Bool),args=[x,y,.ref z]∧Is K H (netD net) x∧Is K H (stD held coming doors) y∧Sq2 K H z (poured.map V.int)∧
 NetOk net∧StOk net held coming doors∧poured.length=net.vs.length∧∀ p H',aG H H'→H p=none→H' p=some (.lst ((aM net held coming poured doors).map V.int))→Q (.ref p) H'
theorem sc__law_filled:FnScope ["net","state","poured","has","k"] ["net","state","poured"] (aJ (bE 28)):=⟨rfl,rfl,rfl,by decide +kernel,rfl,by decide +kernel,by decide +kernel⟩
theorem ok__law_filled {f:Addr}{fd:FuncData} (F:Fun K "_law_filled" "_law_filled" (bE 28) f fd) (T:Txt mg):FnOk P w K mg base CX0 1 f fd ["net","state","poured"] (spFilledL K):=by
 refine F.ok sc__law_filled (fun vs H Q E h=>?_) (fun cdv A outer s H vs Q E hr h=>?_)
 ·obtain⟨x,y,z,net,held,coming,poured,doors,rfl,_⟩:=h;rfl
 ·obtain⟨x,y,z,net,held,coming,poured,doors,rfl,hx,hy,qz,nok,sok,hpl,k⟩:=h
  have sc:=sc__law_filled
  refine⟨_,(aD (eX (i:=3) sc.nd rfl rfl (fun _ _ h=>h) rfl (LcOk.mk (N':=["k","poured","state"]) (fr:=[none,some 2,some 1]) rfl ⟨rfl,rfl,trivial⟩ rfl rfl rfl rfl rfl ⟨⟨_,rfl,rfl,rfl,rfl⟩,⟨_,rfl,rfl,rfl,rfl⟩,trivial⟩) (cP rfl T.b_range (aA (aP (aY (K:=K) rfl) rfl T.b_len PySem.boot_len (aA (aT (aK (K:=K) rfl) (pv 0) aE (fun _ _=>rfl)) aB)) aB)) (fun _ _ _=>(aH (i:=0) (show (["k","poured","state"]:List Str).Nodup by decide +kernel) rfl (Or.inl rfl) (Or.inr rfl))) (fun _ _ _=>eS) (fun _ _ _=>(aO bH (aO bH (aT (aK (K:=K) rfl) (aT (aK (K:=K) rfl) (pv 2) aE (fun _ _=>rfl)) (pv 0) (fun _ _=>rfl)) (aT (aK (K:=K) rfl) (aT (aK (K:=K) rfl) (pv 2) aE (fun _ _=>rfl)) (pv 0) (fun _ _=>rfl))) (aT (aK (K:=K) rfl) (pv 1) (pv 0) (fun _ _=>rfl)))))
   (aD (dL PassesOwn.never rfl (cP rfl T.b_range (aA (aP (aY (K:=K) rfl) rfl T.b_len PySem.boot_len (aA (aT (aK (K:=K) rfl) (pv 0) aE (fun _ _=>rfl)) aB)) aB)) (aH (i:=4) sc.nd rfl (Or.inl rfl)) (aL (dG (pt_val (aT (aK (K:=K) rfl) (aT (aK (K:=K) rfl) (pv 1) aE (fun _ _=>rfl)) (pv 4) (fun _ _=>rfl))) (aL (cX (aO bH (aT (aK (K:=K) rfl) (pv 3) (aT (aK (K:=K) rfl) (aT (aK (K:=K) rfl) (aT (aK (K:=K) rfl) (pv 0) aE (fun _ _=>rfl)) (pv 4) (fun _ _=>rfl)) aE (fun _ _=>rfl)) (fun _ _=>rfl)) (aT (aK (K:=K) rfl) (aT (aK (K:=K) rfl) (aT (aK (K:=K) rfl) (pv 0) aE (fun _ _=>rfl)) (pv 4) (fun _ _=>rfl)) aE (fun _ _=>rfl))) (pg_sub (pv 3) (aT (aK (K:=K) rfl) (aT (aK (K:=K) rfl) (aT (aK (K:=K) rfl) (pv 0) aE (fun _ _=>rfl)) (pv 4) (fun _ _=>rfl)) aE (fun _ _=>rfl)) set_list))) bY)))
   (aL (bL (pv 3))))),?_⟩
  obtain⟨a,b,c,xs,ys,rfl,q,q1,l1,q2,l2⟩:=net_un hx
  obtain⟨ay,a1,a2,a3,rfl,qy,p1,p2,p3⟩:=st_un hy
  have exl:xs.length=net.vs.length:=by rw[l1.length,List.length_map]
  have eyl:ys.length=net.sps.length:=by rw[l2.length,List.length_map]
  have n1:=nok.lo
  have n2:=nok.hi
  have n3:=nok.sp
  have la:=add3_len sok.h sok.c hpl
  refine⟨_,rfl,.inr (.inl ⟨a,_,0,_,rfl,rfl,q,rfl,b,xs,rfl,.inr q1,_,rfl,by omega,by omega,?_⟩)⟩
  have hn:((xs.length:Nat):Int).toNat=net.vs.length:=by rw[exl];simp
  rw[hn]
  refine lc_range (n:=net.vs.length) (fun D i r σ' H'=>H D=none∧aG H H'∧H' D=some (.lst r)∧r=((add3 held coming poured).take i).map V.int∧∃ v,σ'=[v,some (.ref z),some (.ref ay)])
   (fun D hD=>⟨hD,aG.new hD,aC,by simp,none,rfl⟩) ?_ ?_
  rotate_left
  ·rintro D i r σ' H' hi ⟨hD,sm,hDl,rfl,v,rfl⟩
   refine name_yes ?_
   have g1:held[i]? = some (held[i]'(by rw[sok.h];exact hi)):=by simp
   have g2:coming[i]? = some (coming[i]'(by rw[sok.c];exact hi)):=by simp
   have g3:poured[i]? = some (poured[i]'(by rw[hpl];exact hi)):=by simp
   have g4:=add3_get g1 g2 g3
   have m1:∀ {l:List Int}{u:Int},l[i]? = some u→(l.map V.int)[i]? = some (.int u):=fun e=>by rw[List.getElem?_map,e];rfl
   refine⟨_,rfl,.inr (.inl ⟨ay,_,0,_,rfl,rfl,sm.tup qy,rfl,_,rfl,.inr (.inl ⟨a1,_,(i:Int),_,rfl,rfl,sm.tup p1,cT (m1 g1),?_⟩)⟩)⟩
   refine⟨_,rfl,.inr (.inl ⟨ay,_,1,_,rfl,rfl,sm.tup qy,rfl,_,rfl,.inr (.inl ⟨a2,_,(i:Int),_,rfl,rfl,sm.tup p2,cT (m1 g2),?_⟩)⟩)⟩
   refine⟨_,_,rfl,rfl,_,rfl,_,rfl,ix2 (qz.same sm) (cT (m1 g3)) ⟨_,_,rfl,rfl,hDl,bC (by simp;omega),hD,sm.put hD,aC,?_,_,rfl⟩⟩
   rw[aZ g4,List.map_append];rfl
  rintro D r σ' H1 ⟨hD,sm,hDl,rfl,_⟩
  rw[← la,List.take_length] at hDl
  refine⟨_,rfl,.inr (.inl ⟨a,_,1,_,rfl,rfl,sm.tup q,rfl,c,ys,rfl,.inr (sm.tup q2),_,rfl,by omega,by omega,?_⟩)⟩
  have hm:((ys.length:Nat):Int).toNat=net.sps.length:=by rw[eyl];simp
  rw[hm]
  refine eI (lo:=0) (n:=net.sps.length) (fun i σ' H'=>aG H H'∧H' D=some (.lst ((eZ (add3 held coming poured) (net.sps.take i) (doors.take i)).map V.int))∧
   ∃ v4,σ'=[some (.ref a),some (.ref ay),some (.ref z),some (.ref D),v4]) ⟨sm,by cases net.sps <;> exact hDl,none,rfl⟩ ?_ ?_
  ·rintro i σ' H2 hi ⟨sm2,h2,v4,rfl⟩
   rw[Int.zero_add]
   have hsi:net.sps[i]? = some net.sps[i]:=by simp [hi]
   have hdi:doors[i]? = some (doors[i]'(by rw[sok.d];exact hi)):=by simp
   obtain⟨xv,hxv,ixv⟩:=l2.get (i:=i) (d:=spD net.sps[i]) (by rw[List.getElem?_map,hsi];rfl)
   obtain⟨sp,hsi',sa,rfl,qs⟩:=sps_at l2 hxv
   rw[hsi] at hsi'
   cases hsi'
   have snoc:=fillL_snoc net.sps doors i (add3 held coming poured) _ _ hsi hdi
   have hs:=nok.sps net.sps[i] (List.getElem_mem hi)
   have hdm:(doors.map V.bl)[i]? = some (.bl (doors[i]'(by rw[sok.d];exact hi))):=by rw[List.getElem?_map,hdi];rfl
   refine⟨_,rfl,.inr (.inl ⟨ay,_,2,_,rfl,rfl,sm2.tup qy,rfl,_,rfl,.inr (.inl ⟨a3,_,(i:Int),_,rfl,rfl,sm2.tup p3,cT hdm,_,rfl,?_⟩)⟩)⟩
   cases hdr:(doors[i]'(by rw[sok.d];exact hi)) with
   | false=>
    rw[hdr] at snoc
    refine iteF ?_
    exact⟨sm2,by rw[snoc];exact h2,_,rfl⟩
   | true=>
    rw[hdr] at snoc
    refine iteT ?_
    have hlen:(eZ (add3 held coming poured) (net.sps.take i) (doors.take i)).length=net.vs.length:=by rw[eY,la]
    have hlt:net.sps[i].1.toNat < (eZ (add3 held coming poured) (net.sps.take i) (doors.take i)).length:=by rw[hlen];omega
    have hg:((eZ (add3 held coming poured) (net.sps.take i) (doors.take i)).map V.int)[net.sps[i].1.toNat]? = some (.int ((eZ (add3 held coming poured) (net.sps.take i) (doors.take i)).getD net.sps[i].1.toNat 0)):=by
     rw[List.getElem?_map,List.getD_eq_getElem?_getD];simp [hlt]
    refine⟨_,rfl,_,rfl,.inr (.inl ⟨a,_,1,_,rfl,rfl,sm2.tup q,rfl,_,rfl,.inr (.inl ⟨c,ys,(i:Int),_,rfl,rfl,sm2.tup q2,cT hxv,.inr (.inl ⟨sa,_,0,_,rfl,rfl,sm2.tup qs,rfl,.inl ⟨D,_,_,_,rfl,rfl,bT.of h2,atI_int hs.1 hg,?_⟩⟩)⟩)⟩)⟩
    refine⟨_,rfl,.inr (.inl ⟨a,_,1,_,rfl,rfl,sm2.tup q,rfl,_,rfl,.inr (.inl ⟨c,ys,(i:Int),_,rfl,rfl,sm2.tup q2,cT hxv,.inr (.inl ⟨sa,_,1,_,rfl,rfl,sm2.tup qs,rfl,_,_,rfl,rfl,?_⟩)⟩)⟩)⟩
    refine⟨_,rfl,_,rfl,.inr (.inl ⟨a,_,1,_,rfl,rfl,sm2.tup q,rfl,_,rfl,.inr (.inl ⟨c,ys,(i:Int),_,rfl,rfl,sm2.tup q2,cT hxv,.inr (.inl ⟨sa,_,0,_,rfl,rfl,sm2.tup qs,rfl,D,_,_,net.sps[i].1.toNat,rfl,rfl,h2,ixN_nat hs.1 (by rw[List.length_map,hlen];omega),?_⟩)⟩)⟩)⟩
    refine⟨sm2.put hD,?_,_,rfl⟩
    rw[aC,snoc,fill1,if_pos rfl,List.map_set]
  ·rintro σ' H2 ⟨sm2,h2,v4,rfl⟩
   rw[← sok.d,List.take_length,sok.d,List.take_length] at h2
   exact⟨_,rfl,k D H2 sm2 hD h2⟩
end
end Tw
namespace L2
open PySem PySem.Spec PyProof.Rows
theorem cf_at:∀ (names:List (Str×NameKind)) (h:Heap) (acc:List (Str×Addr)) (x:Str) (c:Addr),(cellsFrom h.objs.size names acc).lookup x=some c→
  (h.objs.size≤c∧(x,NameKind.cell)∈names∧(pushCells h names).IsCell c none)∨acc.lookup x=some c
 | [],h,acc,x,c,e=>.inr e
 | (name,kind)::r,h,acc,x,c,e=>by
  unfold cellsFrom at e
  unfold pushCells
  cases hk:kind == NameKind.cell with
  | true=>
   rw[hk,if_pos rfl] at e
   rw[if_pos rfl]
   have hk':kind=.cell:=by simpa using hk
   have ih:=cf_at r (h.push { cls:=.type "cell",data:=.cell none }) ((name,h.objs.size)::acc) x c (by rw[Heap.size_push];exact e)
   rw[Heap.size_push] at ih
   rcases ih with ⟨a,b,d⟩ | ih
   ·exact .inl ⟨Nat.le_of_succ_le a,List.mem_cons_of_mem _ b,d⟩
   ·cases hx:x == name with
    | true=>
     simp only [List.lookup_cons,hx] at ih
     cases ih
     have e':x=name:=by simpa using hx
     subst e' hk'
     exact .inl ⟨Nat.le_refl _,List.mem_cons_self,_,pushCells_keeps _ _ _ _ (Heap.get?_push_size _ rfl),rfl⟩
    | false=>
     simp only [List.lookup_cons,hx] at ih
     exact .inr ih
  | false=>
   rw[hk,if_neg Bool.false_ne_true] at e
   rw[if_neg Bool.false_ne_true]
   rcases cf_at r h acc x c e with ⟨a,b,d⟩ | ih
   ·exact .inl ⟨a,List.mem_cons_of_mem _ b,d⟩
   ·exact .inr ih
theorem cf_own:∀ (names:List (Str×NameKind)) (n m:Nat) (acc:List (Str×Addr)) (x:Str),m≤n→((x,NameKind.cell)∈names∨∃ c,m≤c∧acc.lookup x=some c)→∃ c,m≤c∧(cellsFrom n names acc).lookup x=some c
 | [],n,m,acc,x,_,h=>by
  rcases h with h | h
  ·simp at h
  ·exact h
 | (name,kind)::r,n,m,acc,x,hm,h=>by
  unfold cellsFrom
  cases hk:kind == NameKind.cell with
  | true=>
   rw[if_pos rfl]
   have hk':kind=.cell:=by simpa using hk
   refine cf_own r (n+1) m _ x (by omega) ?_
   cases hx:x == name with
   | true=>exact .inr ⟨n,hm,by simp only [List.lookup_cons,hx]⟩
   | false=>
    have ne:x≠name:=fun z=>by rw[z] at hx;simp at hx
    rcases h with h | ⟨c,h1,h2⟩
    ·rcases List.mem_cons.mp h with h | h
     ·exact absurd (by injection h) ne
     ·exact .inl h
    ·exact .inr ⟨c,h1,by simp only [List.lookup_cons,hx];exact h2⟩
  | false=>
   rw[if_neg Bool.false_ne_true]
   refine cf_own r n m _ x hm ?_
   rcases h with h | h
   ·rcases List.mem_cons.mp h with h | h
    ·injection h with h1 h2
     rw[← h2] at hk;simp at hk
    ·exact .inl h
   ·exact .inr h
theorem cf_acc:∀ (names:List (Str×NameKind)) (n:Nat) (acc:List (Str×Addr)) (x:Str),(x,NameKind.cell)∉names→(cellsFrom n names acc).lookup x=acc.lookup x
 | [],_,_,_,_=>rfl
 | (name,kind)::r,n,acc,x,h=>by
  unfold cellsFrom
  have hr:(x,NameKind.cell)∉r:=fun z=>h (List.mem_cons_of_mem _ z)
  cases hk:kind == NameKind.cell with
  | true=>
   rw[if_pos rfl,cf_acc r (n+1) _ x hr]
   have hk':kind=.cell:=by simpa using hk
   have hx:(x == name)=false:=by
    cases hx:x == name with
    | false=>rfl
    | true=>
     have e':x=name:=by simpa using hx
     subst e' hk'
     exact absurd List.mem_cons_self h
   simp only [List.lookup_cons,hx]
  | false=>rw[if_neg Bool.false_ne_true,cf_acc r n _ x hr]
theorem cf_inj:∀ (names:List (Str×NameKind)) (n:Nat) (acc:List (Str×Addr)),(∀ x y c,acc.lookup x=some c→acc.lookup y=some c→x=y)→(∀ x c,acc.lookup x=some c→c < n)→
  ∀ x y c,(cellsFrom n names acc).lookup x=some c→(cellsFrom n names acc).lookup y=some c→x=y
 | [],_,_,h,_=>h
 | (name,kind)::r,n,acc,h,hb=>by
  unfold cellsFrom
  split
  ·refine cf_inj r (n+1) _ (fun x y c e1 e2=>?_) fun x c e=>?_
   ·cases hx:x == name <;> cases hy:y == name <;> simp only [List.lookup_cons,hx,hy] at e1 e2
    ·exact h x y c e1 e2
    ·cases e2;exact absurd (hb x _ e1) (Nat.lt_irrefl _)
    ·cases e1;exact absurd (hb y _ e2) (Nat.lt_irrefl _)
    ·have a:x=name:=by simpa using hx
     have b:y=name:=by simpa using hy
     rw[a,b]
   ·cases hx:x == name <;> simp only [List.lookup_cons,hx] at e
    ·exact Nat.lt_succ_of_lt (hb x c e)
    ·cases e;exact Nat.lt_succ_self _
  ·exact cf_inj r n acc h hb
section
variable {M:Model}{A:Around}{E:Value→Shared→Prop}{s:Shared}
theorem wpAny_newEnvC {scope:Scope}{globals:Addr}{cl:List (Str×Addr)}{qual:Str}{func:Option Addr}{code:Value}{env:Env}{builtins:Addr}{Q:Env→Shared→Prop}
  (h:Q { scope,locals:=s.heap.objs.size,globals,cells:=cellsFrom (s.heap.objs.size+1) scope.names cl,qual,func,code:=env.code,frame:=env.frame,builtins:=env.builtins }
   { s with heap:=pushCells (s.heap.push { cls:=.type "dict",data:=.dict #[] }) scope.names }):wpAny M A (newFunctionEnv scope globals cl [] qual func code (some env) builtins) Q E s:=by
 simp only [newFunctionEnv,Option.isSome_some,if_true]
 refine wpAny_bind (wpAny_alloc ?_)
 refine wpAny_bind (wpAny_layCells _ (fun name kind cells=>by cases hkc:kind == NameKind.cell <;> simp [hkc]) _ _ _ _ ?_)
 rw[show ({ s with heap:=s.heap.push { cls:=.type "dict",data:=.dict #[] } }:Shared).heap.objs.size=s.heap.objs.size+1 from Heap.size_push ..]
 rw[List.forIn_nil]
 exact wpAny_bind (wpAny_pure (wpAny_pure h))
end
structure LcOk2 (X:Cx) (scope:Scope) (cl:List (Str×Addr)) (N':List Str) (fr:List (Option Nat)):Prop where
 clos:closureFor scope X.env=pure cl
 cls:ClOk X.env cl
 kind:scope.kind=.function
 owns:(scope.names.all fun p=>p.2 != NameKind.cell || scope.names.lookup p.1 == some NameKind.cell)=true
 locs:(scope.names.all fun p=>p.2 != NameKind.local || scope.names.lookup p.1 == some NameKind.local)=true
 frees:(scope.names.all fun p=>p.2 != NameKind.free || (cl.lookup p.1).isSome)=true
 len:fr.length=N'.length
 fr:FrOk X scope N' fr 0
noncomputable def cxD (X:Cx) (N':List Str) (scope:Scope) (cl:List (Str×Addr)) (fp:List Addr) (s:Shared) (H:Hp):Cx:=
 { X with N:=N',s₀:=s,H₀:=H,env:=compEnvC scope (cellsFrom (s.heap.objs.size+1) scope.names cl) s.heap.objs.size X.env,outer:=X.stack,ex:=fp,fn:=fun x=>scope.names.lookup x == some .cell,pn:=[] }
section
variable {X:Cx}
theorem LcOk2.cells {scope:Scope}{cl:List (Str×Addr)}{N':List Str}{fr:List (Option Nat)} (S:LcOk2 X scope cl N' fr) {s:Shared}{o:Obj}{x:Str}{c:Addr} (e:(cellsFrom (s.heap.objs.size+1) scope.names cl).lookup x=some c) :
  (s.heap.objs.size < c∧(x,NameKind.cell)∈scope.names∧(pushCells (s.heap.push o) scope.names).IsCell c none)∨X.env.cells.lookup x=some c:=by
 have:=cf_at scope.names (s.heap.push o) cl x c (by rw[Heap.size_push];exact e)
 rw[Heap.size_push] at this
 rcases this with ⟨a,b,d⟩ | h
 ·exact .inl ⟨a,b,d⟩
 ·exact .inr (S.cls.get x c h)
theorem LcOk2.invC {scope:Scope}{cl:List (Str×Addr)}{N':List Str}{fr:List (Option Nat)}{pins:List (Addr×Obj)}{σ:St}{H:Hp}{s:Shared}{o:Obj}{fp:List Addr}{m1:Str→Option Value}{tk:Nat}
  (S:LcOk2 X scope cl N' fr) (I:Inv X pins σ H s) (hf:∀ b∈fp,FpOk X pins H b) (hfo:∀ b∈fp,b < s.heap.objs.size)
  (hn:(pushCells (s.heap.push o) scope.names).Ns s.heap.objs.size m1):Inv (cxD X N' scope cl fp s H) [] (frσ fr σ) H { s with heap:=pushCells (s.heap.push o) scope.names,toks:=tk }:=by
 have hfree:=S.frees
 have hown:=S.owns
 rw[List.all_eq_true] at hfree hown
 have k:∀ b o',s.heap.get? b=some o'→(pushCells (s.heap.push o) scope.names).get? b=some o':=fun b o' e=>pushCells_keeps _ _ b o' (Heap.get?_push_of_some _ e)
 have fresh:H s.heap.objs.size=none:=I.hok.fresh (Nat.le_refl _)
 have clg:=S.cls.get
 have cg:=fun x c e=>S.cells (s:=s) (o:=o) (x:=x) (c:=c) e
 have clt:∀ x c,cl.lookup x=some c→c < s.heap.objs.size:=fun x c e=>by
  obtain⟨v,oc,hoc,hd⟩:=I.cell x c (clg x c e)
  exact Heap.lt_size hoc
 have notown:∀ x,scope.names.lookup x=some .free→(x,NameKind.cell)∉scope.names:=fun x e hm=>by
  have:=hown _ hm
  simp only [bne_self_eq_false,Bool.false_or,beq_iff_eq] at this
  rw[e] at this;cases this
 refine⟨⟨I.ok.mod,S.kind,I.ok.glob,I.ok.blt,Nat.le_refl _,cf_inj scope.names _ cl (fun x y c e1 e2=>I.ok.inj x y c (clg x c e1) (clg y c e2)) (fun x c e=>Nat.lt_succ_of_lt (clt x c e)),fun x hx=>?_,fun x c e1 e2=>?_,I.ok.hd,I.ok.frames,.inl rfl,fun b hb=>⟨Nat.ne_of_lt (hfo b hb),fun x c e=>?_⟩,
  I.bs,Nat.le_trans I.ok.bsz I.sz,fun b o e hb=>?_,fun b hb hz=>?_,I.stack,I.stkFree⟩,rfl,I.bare,Un.kept k,⟨m1,hn,fun i x v e1 e2 e3=>?_⟩,fun x c e=>?_,fresh,fun x c e=>?_,fun p hp=>absurd (show p∈([]:List (Addr×Obj)) from hp) (by simp),I.hok.kept k,?_⟩
 ·
  have hm:∃ k',(x,k')∈scope.names∧(k'=NameKind.free∨k'=NameKind.cell):=by
   have hx':(relabel scope X.env).names.lookup x=some .cell∨(relabel scope X.env).names.lookup x=some .free:=hx
   obtain⟨k',e,hk'⟩:∃ k',(relabel scope X.env).names.lookup x=some k'∧(k'=.cell∨k'=.free):=by
    rcases hx' with e | e
    ·exact⟨_,e,.inl rfl⟩
    ·exact⟨_,e,.inr rfl⟩
   have hmem:=PySem.mem_of_lookup e
   obtain⟨⟨n,kn⟩,hp,he⟩:=List.mem_map.mp hmem
   dsimp only at he
   split at he
   ·rename_i hc
    cases he
    have:kn=.free:=by
     simp only [Bool.and_eq_true,beq_iff_eq] at hc
     exact hc.1.1
    exact⟨kn,hp,.inl this⟩
   ·cases he
    rcases hk' with e' | e'
    ·exact⟨_,hp,.inr e'⟩
    ·exact⟨_,hp,.inl e'⟩
  obtain⟨k',hp,hk'⟩:=hm
  by_cases hc:(x,NameKind.cell)∈scope.names
  ·obtain⟨c,_,e⟩:=cf_own scope.names (s.heap.objs.size+1) 0 cl x (Nat.zero_le _) (.inl hc)
   exact⟨c,e⟩
  ·rcases hk' with rfl | rfl
   ·have:=hfree _ hp
    simp only [bne_self_eq_false,Bool.false_or] at this
    obtain⟨c,e⟩:=Option.isSome_iff_exists.mp this
    exact⟨c,by show (cellsFrom _ _ _).lookup x=_;rw[cf_acc _ _ _ _ hc];exact e⟩
   ·exact absurd hp hc
 ·have e1':scope.names.lookup x=some .cell:=by simpa using (show (scope.names.lookup x == some NameKind.cell)=true from e1)
  obtain⟨c',hc',e'⟩:=cf_own scope.names (s.heap.objs.size+1) (s.heap.objs.size+1) cl x (Nat.le_refl _) (.inl (PySem.mem_of_lookup e1'))
  have e2':(cellsFrom (s.heap.objs.size+1) scope.names cl).lookup x=some c:=e2
  rw[e'] at e2'
  cases e2'
  exact Nat.le_of_succ_le hc'
 ·rcases cg x c e with ⟨a,_⟩ | e'
  ·exact Ne.symm (Nat.ne_of_lt (Nat.lt_trans (hfo b hb) a))
  ·exact (hf b hb).2.2.2.2.1 x c e'
 ·rcases (hf b hb).2.2.2.1 with z | z
  ·exact I.ok.noex b o e z
  ·have:=Heap.lt_size e
   exact absurd (Nat.lt_of_lt_of_le this (Nat.le_trans I.ok.bsz z)) (Nat.lt_irrefl _)
 ·obtain⟨_,f1,f2,_⟩:=hf b hb
  rcases List.mem_cons.mp (I.stkSub b hz) with e | e
  ·exact f1 e
  ·exact f2 e
 ·
  unfold frσ at e2
  rw[List.getElem?_map] at e2
  cases ef:fr[i]? with
  | none=>rw[ef] at e2;cases e2
  | some o=>
   rw[ef] at e2
   cases o with
   | none=>simp at e2
   | some j=>
    have e2':(σ[j]?).join=some v:=by simpa using e2
    obtain⟨x',h1',h2',h3',h4'⟩:=S.fr.get i j ef
    rw[Nat.zero_add] at h1'
    have ex:x'=x:=by
     have:N'[i]? = some x:=e1
     rw[h1'] at this
     exact Option.some.inj this
    subst ex
    have e2'':σ[j]? = some (some v):=by
     cases q:σ[j]? with
     | none=>rw[q] at e2';cases e2'
     | some z=>rw[q] at e2';simp at e2';rw[e2']
    obtain⟨m,hm,hl⟩:=I.loc
    obtain⟨u,r,lk⟩:=hl j x' v h2' e2'' (.inr (.inl h4'))
    refine⟨u,r,?_⟩
    rcases lk with ⟨q,_⟩ | ⟨_,c,hc,z⟩
    ·rw[h4'] at q;cases q
    ·have hcl:∃ c',cl.lookup x'=some c':=by
      have:=hfree _ (PySem.mem_of_lookup h3')
      simp only [bne_self_eq_false,Bool.false_or] at this
      exact Option.isSome_iff_exists.mp this
     obtain⟨c',hc'⟩:=hcl
     have e':=clg x' c' hc'
     rw[hc] at e'
     cases e'
     obtain⟨oc,hoc,hd⟩:=z
     refine .inr ⟨.inl ?_,c,?_,oc,k c oc hoc,hd⟩
     ·exact eP I.ok.kind h3' h4'
     ·show (cellsFrom _ _ _).lookup x'=_
      rw[cf_acc _ _ _ _ (notown x' h3')];exact hc'
 ·rcases cg x c e with ⟨_,_,z⟩ | e'
  ·exact⟨_,z⟩
  ·obtain⟨v,oc,hoc,hd⟩:=I.cell x c e'
   exact⟨v,oc,k c oc hoc,hd⟩
 ·rcases cg x c e with ⟨a,_⟩ | e'
  ·exact I.hok.fresh (Nat.le_of_lt a)
  ·exact I.freeC x c e'
 ·show (frσ fr σ).length=N'.length
  unfold frσ
  rw[List.length_map,S.len]
theorem Inv.outD {scope:Scope}{cl:List (Str×Addr)}{N':List Str}{pins pins':List (Addr×Obj)}{σ σ':St}{H H':Hp}{s s':Shared}{fp:List Addr} (I:Inv X pins σ H s) (J:Inv (cxD X N' scope cl fp s H) pins' σ' H' s')
  (hf:∀ b∈fp,FpOk X pins H b):Inv X pins σ H' s':=
 I.call' (ch:=fp) J.os J.base J.hok J.bare fun b hb=>by
  obtain⟨_,f1,_,f3,f4,f5⟩:=hf b hb
  exact⟨f3,f1,f4,f5⟩
theorem lc_blockD {elt tg iter:Expr}{ifs:List Expr}{scope:Scope}{pos:Pos}{N':List Str}{fr:List (Option Nat)}{cl:List (Str×Addr)}{g:TG}{tc:TT}{te:TE}
  {pins:List (Addr×Obj)}{σ:St}{H:Hp}{s:Shared}{J:It}{fp:List Addr}{it:Addr}{tn:Nat→Heap→Prop}{Q:Addr→Hp→Prop}{RR:Value→Addr→Result→Shared→Prop}{E:Value→Shared→Prop}
  (hx:∀ e s,¬ X.xe e s) (hc:X.calm=true) (S:LcOk2 X scope cl N' fr)
  (hg:∀ fp s H,PG (cxD X N' scope cl fp s H) tg g) (ht:∀ fp s H,PIf (cxD X N' scope cl fp s H) ifs tc) (he:∀ fp s H,PE (cxD X N' scope cl fp s H) elt te)
  (I:Inv X pins σ H s) (T:Turn X.prog X.w X.K tg J fp it tn) (st:tn 0 s.heap) (hf:∀ b∈fp,FpOk X pins H b) (h:lcRest J g tc te fr σ H Q)
  (hRR:∀ D C H' s' m',Inv X pins σ H' s'→Q D H'→s'.heap.Ns C m'→FpOk X pins H' C→RR (.ref D) C (.ok .next) s') :
  wpAny (model X.prog X.w) X.A (newList []) (fun acc s₃=>wpAny (model X.prog X.w) X.A (newFunctionEnv scope X.env.globals cl [] X.env.qual none .none (some X.env)) (fun cenv s₄=>
   codeAny (model X.prog X.w) X.A (.compStart (.ListComp elt [⟨tg,iter,ifs,0⟩] scope pos) 0 (.ref it) acc { cenv with scope:=relabel scope X.env }) (RR acc cenv.locals) s₄) E s₃) E s:=by
 refine wpAny_newObj_type (wpAny_newEnvC ?_)
 dsimp only
 have fresh:H s.heap.objs.size=none:=I.hok.fresh (Nat.le_refl _)
 have I3:Inv X pins σ (upd H s.heap.objs.size (.lst [])) { s with heap:=s.heap.push { cls:=.type "list",data:=.seq ([]:List Value).toArray },toks:=s.toks }:=I.lnew (ys:=[]) (its:=[]) .nil (Nat.zero_le _)
 have hf3:∀ b∈fp,FpOk X pins (upd H s.heap.objs.size (.lst [])) b:=fun b hb=>by
  obtain⟨o,ho,_⟩:=T.obj _ _ st b hb
  exact⟨by rw[aQ (Nat.ne_of_lt (Heap.lt_size ho))];exact (hf b hb).1,(hf b hb).2⟩
 generalize hs3:({ s with heap:=s.heap.push { cls:=.type "list",data:=.seq ([]:List Value).toArray },toks:=s.toks }:Shared)=s3 at I3
 have e3:s3.heap=s.heap.push { cls:=.type "list",dict:=none,data:=.seq ([]:List Value).toArray }:=by rw[← hs3]
 have e3s:({ s with heap:=s.heap.push { cls:=.type "list",dict:=none,data:=.seq ([]:List Value).toArray } }:Shared)=s3:=hs3
 have hsz3:s3.heap.objs.size=s.heap.objs.size+1:=by rw[e3,Heap.size_push]
 have hfo:∀ b∈fp,b < s3.heap.objs.size:=fun b hb=>by
  obtain⟨o,ho,_⟩:=T.obj _ _ st b hb
  rw[hsz3]
  exact Nat.lt_succ_of_lt (Heap.lt_size ho)
 rw[← e3]
 generalize hh1:pushCells (s3.heap.push { cls:=.type "dict",data:=.dict #[] }) scope.names=h₁
 have hns₁:(pushCells (s3.heap.push { cls:=.type "dict",data:=.dict #[] }) scope.names).Ns s3.heap.objs.size (fun _=>none):=(Heap.Ns.new s3.heap (.type "dict")).keeps (pushCells_keeps _ _)
 have old3:∀ b o,s3.heap.get? b=some o→h₁.get? b=some o:=fun b o e=>by rw[← hh1];exact pushCells_keeps _ _ b o (Heap.get?_push_of_some _ e)
 have old:∀ b o,s.heap.get? b=some o→s3.heap.get? b=some o:=fun b o e=>by rw[e3];exact Heap.get?_push_of_some _ e
 have I4:=S.invC (tk:=s3.toks) I3 hf3 hfo hns₁
 rw[hh1] at I4
 obtain⟨W,⟨m0,w0⟩,turn⟩:=h s.heap.objs.size fresh
 have stat:∀ {H':Hp},(∀ b∈fp,H' b=none)→∀ b∈fp,FpOk (cxD X N' scope cl fp s3 (upd H s.heap.objs.size (.lst []))) [] H' b:=fun hn b hb=>by
  refine⟨hn b hb,Nat.ne_of_lt (hfo b hb),?_,.inl hb,fun x c e=>?_,fun p hp=>absurd (show p∈([]:List (Addr×Obj)) from hp) (by simp)⟩
  ·intro hz
   obtain⟨_,f1,f2,_⟩:=hf b hb
   rcases List.mem_cons.mp (I.stkSub b hz) with e | e
   ·exact f1 e
   ·exact f2 e
  ·rcases S.cells (s:=s3) (o:={ cls:=.type "dict",data:=.dict #[] }) e with ⟨a,_⟩ | e'
   ·exact Ne.symm (Nat.ne_of_lt (Nat.lt_trans (hfo b hb) a))
   ·exact (hf b hb).2.2.2.2.1 x c e'
 have loop:∀ s4:Shared,s4={ s3 with heap:=h₁,toks:=s3.toks }→
   codeAny (model X.prog X.w) X.A (.compLoop (.ListComp elt [⟨tg,iter,ifs,0⟩] scope pos) 0 (.ref it) (.ref s.heap.objs.size) (compEnvC scope (cellsFrom (s3.heap.objs.size+1) scope.names cl) s3.heap.objs.size X.env)) (RR (.ref s.heap.objs.size) s3.heap.objs.size) s4:=by
  intro s4 hs4
  refine compLoop_any (fun n s'=>∃ i ys σ' H',Inv (cxD X N' scope cl fp s3 (upd H s.heap.objs.size (.lst []))) [] σ' H' s'∧tn i s'.heap∧(∀ b∈fp,H' b=none)∧W i n ys σ' H') ?_ m0
   ⟨0,[],frσ fr σ,_,by rw[hs4];exact I4,by rw[hs4];exact T.keep _ _ _ st fun b _ o e=>old3 b o (old b o e),fun b hb=>(hf3 b hb).1,w0⟩
  rintro n s5 ⟨i,ys,σ5,H5,I5,st5,fr5,w5⟩
  rcases turn i n ys σ5 H5 w5 with ⟨stop,qn⟩ | ⟨go,N,hN,step⟩
  ·refine d0 (T.done (cxD X N' scope cl fp s3 (upd H s.heap.objs.size (.lst []))) rfl rfl rfl hc i [] s5 σ5 H5 _ I5 (stat fr5) st5 stop) fun r s6 ⟨hr,I6⟩=>?_
   subst hr
   obtain⟨m',hm',_⟩:=I6.loc
   exact hRR _ _ H5 s6 m' (I3.outD I6 hf3) qn hm' (I3.fpOk (Nat.le_refl _) I6.free)
  ·refine d0 (T.item (cxD X N' scope cl fp s3 (upd H s.heap.objs.size (.lst []))) rfl rfl rfl hc i [] s5 σ5 H5 _ I5 (stat fr5) st5 go) fun r s6 ⟨u,hr,h6⟩=>?_
   subst hr
   refine d0 h6 fun _ s7 ⟨x,H7,I7,r7,y7,st7,fr7⟩=>?_
   have I7':=I7.pinned (stat fr7) (T.obj _ _ st7)
   refine wpAny_mono (hg fp s3 _ _ s7 σ5 H7 x u _ I7' r7 (step x H7 y7)) (fun _ s8 ⟨σ8,H8,I8,q8⟩=>?_) fun e s' z=>(hx e s' z).elim
   refine wpAny_mono (ht fp s3 _ _ s8 σ8 H8 _ I8 q8) (fun ok s9 ⟨H9,I9,q9⟩=>?_) fun e s' z=>(hx e s' z).elim
   have again:∀ {s10:Shared}{H10:Hp}{ys':List V},Inv (cxD X N' scope cl fp s3 (upd H s.heap.objs.size (.lst []))) ([]++pinsAt fp s7.heap) σ8 H10 s10→N ys' σ8 H10→
     ∃ m,m < n∧∃ i ys σ' H',Inv (cxD X N' scope cl fp s3 (upd H s.heap.objs.size (.lst []))) [] σ' H' s10∧tn i s10.heap∧(∀ b∈fp,H' b=none)∧W i m ys σ' H':=fun {s10 H10 ys'} I10 n10=>by
    obtain⟨m',hm,w10⟩:=hN ys' σ8 H10 n10
    refine⟨m',hm,i+1,ys',σ8,H10,I10.unpinned,T.keep _ _ _ st7 fun b hb o e=>(I10.pin (b,o) (List.mem_append_right _ (List.mem_append_right _ (mem_pinsAt hb e)))).1,fun b hb=>?_,w10⟩
    obtain⟨o,e,d⟩:=T.obj _ _ st7 b hb
    exact (I10.pin (b,o) (List.mem_append_right _ (List.mem_append_right _ (mem_pinsAt hb e)))).2.1
   cases ok with
   | false=>
    rw[if_neg Bool.false_ne_true] at q9 ⊢
    exact again I9 q9
   | true=>
    rw[if_pos rfl] at q9 ⊢
    refine wpAny_mono (he fp s3 _ _ s9 σ8 H9 _ I9 q9) (fun y s10 ⟨yv,H10,I10,r10,hD,hlen,q10⟩=>?_) fun e s' z=>(hx e s' z).elim
    refine wpAny_mono (cQ (X:=cxD X N' scope cl fp s3 (upd H s.heap.objs.size (.lst []))) _ s10 σ8 H10 (.ref s.heap.objs.size) [yv] (.ref s.heap.objs.size) [y] (fun _ H11=>H11=upd H10 s.heap.objs.size (.lst (ys++[yv]))) I10 rfl (.cons r10 .nil)
     ⟨_,ys,yv,rfl,rfl,hD,hlen,rfl⟩) (fun _ s11 ⟨_,H11,I11,_,e11⟩=>?_) fun e s' z=>(hx e s' z).elim
    subst e11
    exact again I11 q10
 exact codeAny_compStart_list (loop _ (by rw[← e3s])) (T.self X.A 0 _ _ _ (T.keep _ _ _ st fun b _ o e=>old3 b o (old b o e)) (loop _ (by rw[← e3s])))
theorem ps_set_lcD {i:Nat}{y:Str}{py:Pos}{spos:Pos}{elt tg iter:Expr}{ifs:List Expr}{scope:Scope}{pos:Pos}{N':List Str}{fr:List (Option Nat)}{cl:List (Str×Addr)}{wi:TI}{g:TG}{tc:TT}{te:TE}
  (hN:X.N.Nodup) (hy:X.N[i]? = some y) (hk:X.env.scope.names.lookup y=some .local)
  (hx:∀ e s,¬ X.xe e s) (hc:X.calm=true) (S:LcOk2 X scope cl N' fr) (hi:PI X tg iter wi)
  (hg:∀ fp s H,PG (cxD X N' scope cl fp s H) tg g) (ht:∀ fp s H,PIf (cxD X N' scope cl fp s H) ifs tc) (he:∀ fp s H,PE (cxD X N' scope cl fp s H) elt te)
  (hsw:swapsWith (.ListComp elt [⟨tg,iter,ifs,0⟩] scope pos) (some (.Name y py)) spos.line X.env=pure true:=by rfl)
  (hs:∀ x,foldedSetIterable iter X.env x=pure x:=by intro _;rfl):PS X (.Assign [.Name y py] (.ListComp elt [⟨tg,iter,ifs,0⟩] scope pos) spos) (tAsg (tLC wi fr g tc te) (gName i)):=by
 intro pins s σ H D I h
 have hloc:=S.locs
 rw[List.all_eq_true] at hloc
 rw[exec_Assign_Name_used _ _ _ _ hsw]
 refine wpAny_bind (wpAny_standAt (wpAny_bind ?_))
 show wpAny _ X.A (do let _ ← comprehension (.ListComp elt [⟨tg,iter,ifs,0⟩] scope pos) scope X.env _ (newList []) false (eval iter X.env) (some (assign (.Name y py) X.env))) _ _ s
 refine wpAny_bind (wpAny_mono (wpAny_comprehension_free (use:=some (assign (.Name y py) X.env)) (Q:=fun _ s'=>SP X pins D .next s') rfl hs S.clos S.kind (fun x hx' hl=>by have:=hloc x hx';rw[hl] at this;simpa using this)
  (d0 (hi pins s σ H _ I h) fun v s1 h1=>d0 h1 fun itv s2 h2=>?_)) (fun _ s' hq=>wpAny_pure (wpAny_pure hq)) fun _ _ e=>e)
 obtain⟨it,fp,tn,J,H2,e,I2,T,st2,f2,rest⟩:=h2
 subst e
 refine lc_blockD (RR:=fun acc C=>compPost (model X.prog X.w) X.A X.xe (some (assign (.Name y py) X.env)) (fun _ s'=>SP X pins D .next s') acc C) hx hc S hg ht he I2 T st2 f2 rest ?_
 intro Da C H' s' m' I' q hn f
 show wpAny _ X.A (assign (.Name y py) X.env (.ref Da)) _ _ _
 refine wpAny_assign_Name (store_ok2 I' hN hy (.inl hk) (v:=.ref Da) rfl (fun s'' I'' hch=>?_) (.inr hk))
 obtain⟨a,hsb,ha⟩:=hch
 have haC:a≠C:=by
  rcases ha with e | e
  ·rw[e];exact Ne.symm f.2.1
  ·exact f.2.2.2.2.1 _ _ e
 exact⟨m',hn.sameBut hsb (Ne.symm haC),fun h' hs'=>⟨_,H',I''.letgo f hs',q⟩⟩
end
end L2
namespace Tw
open PySem L2
noncomputable def amts (k:Option Int) (gs:List (Option Int×Int)):List Int:=(gs.filter fun g=>decide (g.1=k)).map (·.2)
theorem amts_sum (k:Option Int):∀ gs:List (Option Int×Int),(amts k gs).sum=b0 k gs
 | []=>rfl
 | g::r=>by
  have ih:=amts_sum k r
  unfold amts at ih ⊢
  unfold b0
  by_cases h:g.1=k
  ·simp [h,← ih]
  ·simp [h,← ih]
theorem amts_snoc (k:Option Int) (gs:List (Option Int×Int)) (g:Option Int×Int):amts k (gs++[g])=amts k gs++(if g.1=k then [g.2] else []):=by
 unfold amts
 rw[List.filter_append,List.map_append]
 by_cases h:g.1=k <;> simp [h]
theorem amts_len (k:Option Int) (gs:List (Option Int×Int)):(amts k gs).length≤gs.length:=by
 unfold amts;rw[List.length_map];exact List.length_filter_le _ _
section
variable {P:Program}{w:World}{K:PySem.W.Frag}{mg:Str→Option Value}{base:Heap}
theorem word_ix {wd:Str} (h:wd = "open" ∨ wd = "shut" ∨ wd = "turn"):∃ j:Nat,j < 3∧(∀ z,[V.str "turn",V.str "open",V.str "shut"][j]? = some z→eqV z (.str wd)=true)∧(∀ i z,i < j→[V.str "turn",V.str "open",V.str "shut"][i]? = some z→eqV z (.str wd)=false)∧
  ∀ old:Bool,[V.bl (!old),V.bl true,V.bl false][j]? = some (.bl (if wd = "open" then true else if wd = "turn" then !old else false)):=by
 rcases h with rfl | rfl | rfl
 ·refine⟨1,by decide,fun z hz=>by cases hz;rfl,fun i z hi hz=>?_,fun old=>rfl⟩
  have:i=0:=by omega
  subst this;cases hz;rfl
 ·refine⟨2,by decide,fun z hz=>by cases hz;rfl,fun i z hi hz=>?_,fun old=>rfl⟩
  rcases (show i=0∨i=1 by omega) with rfl | rfl <;> cases hz <;> rfl
 ·exact⟨0,by decide,fun z hz=>by cases hz;rfl,fun i z hi hz=>absurd hi (Nat.not_lt_zero _),fun old=>rfl⟩
theorem IsL.append {H:Hp}:∀ {ds es:List L2.D}{xs ys:List V},L2.IsL K H ds xs→L2.IsL K H es ys→L2.IsL K H (ds++es) (xs++ys)
 | [],es,xs,ys,h1,h2=>by rw[h1.un0];exact h2
 | d::ds,es,xs,ys,h1,h2=>by
  obtain⟨x,r,rfl,hx,hr⟩:=h1.un
  exact .cons hx (IsL.append hr h2)
theorem goes_put {H1 H2:Hp}{gl gq:Addr}{gs:List (Option Int×Int)}{gxs:List V} (sm:aG H1 H2) (fg:H1 gl=none) (hg:H2 gl=some (.lst gxs)) (ig:L2.IsL K H2 (gs.map outD) gxs) (hq:H2 gq=none) (t:Option Int) (n:Int) :
  aG H1 (upd (upd H2 gq (.tup [tgV t,.int n])) gl (.lst (gxs++[.ref gq])))∧upd (upd H2 gq (.tup [tgV t,.int n])) gl (.lst (gxs++[.ref gq])) gl=some (.lst (gxs++[.ref gq]))∧
  L2.IsL K (upd (upd H2 gq (.tup [tgV t,.int n])) gl (.lst (gxs++[.ref gq]))) ((gs++[(t,n)]).map outD) (gxs++[.ref gq])∧∀ p o,p≠gl→H2 p=some o→upd (upd H2 gq (.tup [tgV t,.int n])) gl (.lst (gxs++[.ref gq])) p=some o:=by
 have nq:gl≠gq:=aN hg hq
 have mt:Mut (upd H2 gq (.tup [tgV t,.int n]) gl):=by rw[aQ nq,hg];exact trivial
 refine⟨fun b o e=>by rw[aQ (aN e fg)];exact aG.new hq b o (sm b o e),aC,?_,fun p o hp e=>by rw[aQ hp];exact aG.new hq p o e⟩
 rw[List.map_append]
 exact L2.IsL.snoc (Is.tupOf (ds:=[tgD t,.int n]) (cA.put (cA.refl _) (.inr mt) _ _ (bR.of aC)) (.cons (Is.tgOf _) (.cons (Is.i _) .nil))) (L2.IsL.mono (cA.put (aG.new hq).ts (.inr mt)) _ _ ig)
noncomputable def spTickL (K:PySem.W.Frag):Sp:=fun args H Q _=>∃ (x y:V) (z:Addr) (net:Net) (held coming poured:List Int) (doors:List Bool),args=[x,y,.ref z,.non]∧Is K H (netD net) x∧Is K H (stD held coming doors) y∧Sq2 K H z (poured.map V.int)∧
 NetOk net∧StOk net held coming doors∧poured.length=net.vs.length∧∀ (l:Addr) (p1 p2:V) H',aG H H'→H' l=some (.lst [p1,p2,.int (cF net held coming poured doors).ground])→
  Is K H' (stD (cF net held coming poured doors).held (cF net held coming poured doors).coming (cF net held coming poured doors).doors) p1→
  Is K H' (.tup ((cF net held coming poured doors).tip.map fun (i:Nat)=>D.int (i:Int))) p2→Q (.ref l) H'
theorem sc__law_tick:FnScope ["net","state","poured","fast","has","goes","tipped","stays","number","size","brim","outs","holds","spill","acts","here","whole","doors","word","spout","later","ground"] ["net","state","poured","fast"] (aJ (bE 29)):=⟨rfl,rfl,rfl,by decide +kernel,rfl,by decide +kernel,by decide +kernel⟩
end
end Tw
namespace L2
open PySem PySem.Spec PyProof.Rows TwZ
section
variable {X:Cx}
theorem ps_calm {st:Stmt}{t:TS} (h:∀ pn:List (Addr×Obj),PS (X.within pn fun _ _=>False) st t):PS X st t:=by
 intro pins s σ H D I h1
 refine wpAny_mono (h (X.pn++pins) [] s σ H D I.within h1) (fun f s₁ hf=>?_) fun _ _ z=>z.elim
 cases f with
 | next=>obtain⟨σ',H',J,q⟩:=hf;exact⟨σ',H',J.unwithin,q⟩
 | brk=>obtain⟨σ',H',J,q⟩:=hf;exact⟨σ',H',J.unwithin,q⟩
 | cont=>obtain⟨σ',H',J,q⟩:=hf;exact⟨σ',H',J.unwithin,q⟩
 | ret u=>obtain⟨v,σ',H',J,r,q⟩:=hf;exact⟨v,σ',H',J.unwithin,r,q⟩
end
end L2
namespace Tw
open PySem L2
section
variable {P:Program}{w:World}{K:PySem.W.Frag}{mg:Str→Option Value}{base:Heap}{C c_TipError c_NoNet c_NoVessel c_TooLong c_TooMany c_TooMuch c_Nothing c_NoText c_NoRow:Addr}
theorem sc_go_round:FnScope ["net","state","nothing","seen","told","tick"] ["net"] (aJ (bE 20)):=⟨rfl,rfl,rfl,by decide +kernel,rfl,by decide +kernel,by decide +kernel⟩
noncomputable def spRoundL (K:PySem.W.Frag):Sp:=fun vs H Q _=>∃ (x:V) (net:Net),vs=[x]∧Is K H (netD net) x∧NetOk net∧
 (∀ t j p H',Rep net t j→aG H H'→bR K H' p [.int j,.int ((t:Int) - j)]→Q (.ref p) H')∧(Long net→∀ H',aG H H'→Q .non H')
theorem sc__law_round:FnScope ["net","seen","state","tick"] ["net"] (aJ (bE 31)):=⟨rfl,rfl,rfl,by decide +kernel,rfl,by decide +kernel,by decide +kernel⟩
theorem ok__law_round {f f1 f2:Addr}{fd fd1 fd2:FuncData} (F:Fun K "_law_round" "_law_round" (bE 31) f fd) (T:Txt mg)
  (G__law_first:Callee P w K mg base "_law_first" ["net"] 1 (spFirst K) f1 fd1) (G__law_tick:Callee P w K mg base "_law_tick" ["net","state","poured","fast"] 2 (spTickL K) f2 fd2) :
  FnOk P w K mg base CX0 3 f fd ["net"] (spRoundL K):=by
 refine F.ok sc__law_round (fun vs H Q E h=>?_) (fun cdv A outer s H vs Q E hr h=>?_)
 ·obtain⟨x,net,rfl,_⟩:=h;rfl
 ·obtain⟨x,net,rfl,hx,nok,kR,kL⟩:=h
  have sc:=sc__law_round
  refine⟨_,(aD (aS (i:=1) sc.nd rfl (Or.inl rfl) pe_dnewK)
   (aD (aS (i:=2) sc.nd rfl (Or.inl rfl) (dZ G__law_first hr (aA (pv 0) aB)))
   (aD (dL PassesOwn.never rfl (cP rfl T.b_range (aA aE aB)) (aH (i:=3) sc.nd rfl (Or.inl rfl)) (aD (dG (bJ (op_inDK (P:=P) (w:=w) (K:=K) rfl rfl rfl hr.units) (pv 2) (pv 1) (by rfl)) (aL (bL (bA (aA (aT (ix_DK (P:=P) (w:=w) (K:=K) rfl rfl rfl hr.units) (pv 1) (pv 2) (fun _ _=>rfl)) (aA (aO d7 (pv 3) (aT (ix_DK (P:=P) (w:=w) (K:=K) rfl rfl rfl hr.units) (pv 1) (pv 2) (fun _ _=>rfl))) aB))))) bY)
   (aD (ps_dputDK (P:=P) (w:=w) (K:=K) rfl rfl rfl hr.units (pv 1) (pv 2) (pv 3) rfl)
   (aL (aS (i:=2) sc.nd rfl (Or.inl rfl) (aT (aK (K:=K) rfl) (dZ G__law_tick hr (aA (pv 0) (aA (pv 2) (aA (aO (op_repTK (K:=K) rfl) (bA (aA aE aB)) (aP (aY (K:=K) rfl) rfl T.b_len PySem.boot_len (aA (aT (aK (K:=K) rfl) (pv 0) aE (fun _ _=>rfl)) aB))) (aA dR aB))))) aE (fun _ _=>rfl)))))))
   (aL (bL dR))))),?_⟩
  refine fun sd hsd=>?_
  have s0:=aG.new (o:=HO.dK []) hsd
  refine⟨_,rfl,x,net,rfl,Is.mono s0.ts _ _ hx,nok,fun st H1 sm1 hst=>?_⟩
  have g1:=sm1 _ _ (show upd H sd (.dK []) sd=some (.dK []) from aC)
  have s1:=s0.trans sm1
  refine⟨_,rfl,by decide,by decide,?_⟩
  refine eI (lo:=0) (n:=2001) (fun i σ' H'=>aG H H'∧(∀ m,m < i→repAt net m=none)∧fA P w K H' sd (shN net) (dJ net i)∧
   ∃ st v3,Is K H' (eA (bZ net i)) st∧σ'=[some x,some (.ref sd),some st,v3]) ?_ ?_ ?_
  ·exact⟨s1,fun m hm=>absurd hm (Nat.not_lt_zero _),fA.new g1,st,_,hst,rfl⟩
  ·rintro i σ' H4 hi ⟨s4,hno,dd,st,v3,hst4,rfl⟩
   rw[Int.zero_add]
   have sok:=sta_ok nok i
   have key:=key_sta sok hst4
   have hsl:=seen_len net i
   dsimp only [tSeq]
   refine⟨_,rfl,_,rfl,sd,shN net,dJ net i,eA (bZ net i),rfl,dd,key,_,rfl,?_⟩
   cases hr:repAt net i with
   | some v=>
    have hr':dY (dJ net i) (eA (bZ net i))=some v:=hr
    rw[hr']
    refine iteT ?_
    obtain⟨j,rfl⟩:=seen_int net _ v i hr'
    refine⟨_,rfl,_,rfl,sd,shN net,dJ net i,eA (bZ net i),.int j,rfl,dd,key,hr',_,rfl,_,rfl,_,rfl,sd,shN net,dJ net i,eA (bZ net i),.int j,rfl,dd,key,hr',_,_,rfl,rfl,(show 2≤sizeLine by decide),fun p hp=>?_⟩
    exact kR i j p _ ⟨by omega,hr,hno⟩ (s4.trans (aG.new hp)) (bR.of aC)
   | none=>
    have hr':dY (dJ net i) (eA (bZ net i))=none:=hr
    rw[hr']
    refine iteF ?_
    refine⟨_,rfl,_,rfl,_,rfl,sd,shN net,dJ net i,eA (bZ net i),rfl,dd,key,small1M' (by omega),fun H5 b5 dd5=>?_⟩
    have ts5:=b5.ts (K:=K) dd.mut
    have s5:aG H H5:=fun b o e=>b5 b o (aN e hsd) (s4 b o e)
    have hx5:=Is.mono s5.ts _ _ hx
    have hst5:=Is.mono ts5 _ _ hst4
    obtain⟨a,b,c,xs,ys,rfl,q,q1,l1,q2,l2⟩:=net_un hx5
    have exl:xs.length=net.vs.length:=by rw[l1.length,List.length_map]
    have n1:=nok.lo
    have n2:=nok.hi
    refine⟨_,rfl,_,rfl,(show 1≤sizeLine by decide),fun o ho=>?_⟩
    have so:=aG.new (o:=HO.tup [.int 0]) ho
    refine⟨_,rfl,.inr (.inl ⟨a,_,0,_,rfl,rfl,so.tup q,rfl,b,xs,rfl,.inr (so.tup q1),o,_,[.int 0],rfl,rfl,bR.of aC,by omega,by omega,by simp,by decide,fun z H6 sm6 qz=>?_⟩)⟩
    have s56:=so.trans sm6
    have en:((xs.length:Nat):Int).toNat=net.vs.length:=by rw[exl];simp
    rw[en,rep0] at qz
    refine⟨.ref a,st,z,net,_,_,bV net.vs.length,_,rfl,Is.mono s56.ts _ _ hx5,Is.mono s56.ts _ _ hst5,.inl qz,nok,sok,zeros_l _,fun l p1 p2 H7 sm7 hl7 i1 i2=>?_⟩
    refine .inl ⟨l,_,0,_,rfl,rfl,bT.of hl7,rfl,?_⟩
    have s57:=s56.trans sm7
    refine⟨s5.trans s57,fun m hm=>?_,dd5.same s57,p1,_,i1,rfl⟩
    rcases (show m < i∨m=i by omega) with h | rfl
    ·exact hno m h
    ·exact hr
  ·rintro σ' H4 ⟨s4,hno,_⟩
   exact kL (fun i hi=>hno i (by omega)) _ s4
end
end Tw
namespace L2
open PySem PySem.Spec PyProof.Rows TwZ
section
variable {X:Cx}{pins:List (Addr×Obj)}{σ:St}{H:Hp}{s:Shared}
end
section
variable {X:Cx}{pins:List (Addr×Obj)}{σ:St}{H:Hp}{s:Shared}
end
section
variable {K:PySem.W.Frag}{H:Hp}
end
end L2
namespace L2
open PySem PySem.Spec PyProof.Rows TwZ
section
variable {X:Cx}
end
end L2
namespace L2
open PySem PySem.Spec PyProof.Rows TwZ
section
variable {X:Cx}{K:PySem.W.Frag}
noncomputable def Pl (H:Hp) (a:Addr) (xs:List V):Prop:=∃ o:Obj,H a=some (.frz o (.tup xs))∧o.dict=none
theorem Pl.sq {H:Hp}{a:Addr}{xs:List V} (h:Pl H a xs):bR K H a xs:=by obtain⟨o,h,_⟩:=h;exact .inl (.inr ⟨o,h⟩)
theorem Pl.same {H H':Hp}{a:Addr}{xs:List V} (h:Pl H a xs) (s:aG H H'):Pl H' a xs:=by obtain⟨o,h,d⟩:=h;exact⟨o,s _ _ h,d⟩
theorem Pl.but {H H':Hp}{a t:Addr}{xs:List V} (h:Pl H a xs) (s:fC t H H') (hm:Mut (H t)):Pl H' a xs:=by
 obtain⟨o,h,d⟩:=h
 refine⟨o,s _ _ (fun z=>?_) h,d⟩
 rw[← z,h] at hm;exact hm
noncomputable def rTupF (K:PySem.W.Frag):List V→Hp→VK→Prop:=fun xs H Q=>∃ p ys,xs=[.ref p]∧bT K H p ys∧∀ (l:Addr) (o:Obj),H l=none→o.dict=none→Q (.ref l) (upd H l (.frz o (.tup ys)))
theorem call_tupF:eJ X (.type "tuple") (rTupF X.K):=by
 intro pins s σ H xs us Q I r h
 obtain⟨p,ys,rfl,hq,q⟩:=h
 obtain⟨u,rfl,rx⟩:=vals1 r
 cases rx
 obtain⟨its,r',pl,hz⟩:=I.list hq
 have hlen:=r'.length
 refine call_tuple_list pl.isList (fun h' kp=>?_) (by simp only [List.size_toArray] <;> omega)
 have I1:Inv X pins σ H { s with heap:=h' }:=I.kept (t':=s.toks) kp
 have I2:Inv X pins σ (upd H h'.objs.size (.frz { cls:=.type "tuple",data:=.seq its.toArray } (.tup ys))) { s with heap:=h'.push { cls:=.type "tuple",data:=.seq its.toArray } }:=
  I1.laid (t':=s.toks) (fun b o e=>Heap.get?_push_of_some _ e) (Nat.le_refl _) (show cZ X.prog X.w _ _ _ (.frz _ (.tup ys)) from ⟨Heap.get?_push_size _ rfl,hz,its,r',IsTup.new _ _⟩)
 exact⟨.ref h'.objs.size,_,I2,rfl,q _ _ (I1.hok.fresh (Nat.le_refl _)) rfl⟩
theorem call_tupFK (hK:X.K=K):eJ X (.type "tuple") (rTupF K):=by subst hK;exact call_tupF
end
end L2
namespace Tw
open PySem L2
section
variable {P:Program}{w:World}{K:PySem.W.Frag}{mg:Str→Option Value}{base:Heap}
noncomputable def TickP (K:PySem.W.Frag) (H:Hp) (t:Tick) (v:V):Prop:=∃ (f:Addr) (st:V) (tp:Addr),v=.ref f∧bR K H f [st,.ref tp,.int t.ground]∧Is K H (stD t.held t.coming t.doors) st∧Pl H tp (t.tip.map fun (j:Nat)=>V.int (j:Int))
theorem TickP.same {H H':Hp}{t:Tick}{v:V} (h:TickP K H t v) (s:aG H H'):TickP K H' t v:=by
 obtain⟨f,st,tp,e,q,i,p⟩:=h
 exact⟨f,st,tp,e,s.tup q,Is.mono s.ts _ _ i,p.same s⟩
theorem TickP.but {H H':Hp}{t:Tick}{v:V}{a:Addr} (h:TickP K H t v) (s:fC a H H') (hm:Mut (H a)):TickP K H' t v:=by
 obtain⟨f,st,tp,e,q,i,p⟩:=h
 exact⟨f,st,tp,e,s.ts hm _ _ q,Is.mono (s.ts hm) _ _ i,p.but s hm⟩
noncomputable def spTickP (K:PySem.W.Frag):Sp:=fun args H Q _=>∃ (x y:V) (z:Addr) (net:Net) (held coming poured:List Int) (doors:List Bool),args=[x,y,.ref z]∧Is K H (netD net) x∧Is K H (stD held coming doors) y∧bR K H z (poured.map V.int)∧
 NetOk net∧StOk net held coming doors∧poured.length=net.vs.length∧∀ (v:V) H',aG H H'→TickP K H' (cF net held coming poured doors) v→Q v H'
theorem ok_tick_behindP {f fF fS fD:Addr}{fd fdF fdS fdD:FuncData} (F:Fun K "tick_behind" "tick_behind" (bE 10) f fd) (T:Txt mg) (G_filled:Callee P w K mg base "filled" ["spouts","state","poured"] 1 (spFilled K) fF fdF)
  (G_settle:Callee P w K mg base "settle" ["vessel","has","sent"] 3 (spSettle K) fS fdS) (G_doors_behind:Callee P w K mg base "doors_behind" ["vessels","doors","tipped"] 1 (spDoors K) fD fdD):FnOk P w K mg base CX0 4 f fd ["net","state","poured"] (spTickP K):=by
 refine F.ok sc_tick_behind (fun vs H Q E h=>?_) (fun cdv A outer s H vs Q E hr h=>?_)
 ·obtain⟨x,y,z,net,held,coming,poured,doors,rfl,_⟩:=h;rfl
 ·obtain⟨x,y,z,net,held,coming,poured,doors,rfl,hx,hy,qz,nok,sok,lp,k⟩:=h
  have sc:=sc_tick_behind
  have hu:=hu_of hr
  refine⟨_,(aD (cX (pv 0) (bP (K:=K) (n:=2) rfl rfl (aI (aH (i:=3) sc.nd rfl (Or.inl rfl)) (aI (aH (i:=4) sc.nd rfl (Or.inl rfl)) bK))))
   (aD (cX (bA (aA (cB aB) (aA (cB aB) (aA pe_dnewK aB)))) (bP (K:=K) (n:=3) rfl rfl (aI (aH (i:=5) sc.nd rfl (Or.inl rfl)) (aI (aH (i:=6) sc.nd rfl (Or.inl rfl)) (aI (aH (i:=7) sc.nd rfl (Or.inr rfl)) bK)))))
   (aD (dL PassesOwn.never rfl (pi_enumK (K:=K) rfl rfl T.b_enumerate (aA (dZ G_filled hr (aA (pv 4) (aA (pv 1) (aA (pv 2) aB)))) aB)) (bP (K:=K) (n:=2) rfl rfl (aI (aH (i:=8) sc.nd rfl (Or.inl rfl)) (aI (aH (i:=9) sc.nd rfl (Or.inl rfl)) bK))) (aD (cX (dZ G_settle hr (aA (aT (aK (K:=K) rfl) (pv 3) (pv 8) (fun _ _=>rfl)) (aA (pv 9) (aA (pv 7) aB)))) (bP (K:=K) (n:=2) rfl rfl (aI (aH (i:=10) sc.nd rfl (Or.inl rfl)) (aI (aH (i:=11) sc.nd rfl (Or.inl rfl)) bK))))
   (aD (dA (pe_bmK (K:=K) rfl PySem.F.plainAttrs_list PySem.F.slot_list_append PySem.F.type_list_append cQ (pv 5) (aA (pv 10) aB)))
   (aL (dG (pt_val (pv 11)) (aL (dA (pe_bmK (K:=K) rfl PySem.F.plainAttrs_list PySem.F.slot_list_append PySem.F.type_list_append cQ (pv 6) (aA (pv 8) aB)))) bY)))))
   (aD (eX (i:=12) sc.nd rfl rfl (fun _ _ h=>h) rfl (LcOk.mk (N':=["number","sent"]) (fr:=[none,some 7]) rfl ⟨rfl,trivial⟩ rfl rfl rfl rfl rfl ⟨⟨_,rfl,rfl,rfl,rfl⟩,trivial⟩) (cP rfl T.b_range (aA (aP (aY (K:=K) rfl) rfl T.b_len PySem.boot_len (aA (pv 3) aB)) aB)) (fun _ _ _=>(aH (i:=0) (show (["number","sent"]:List Str).Nodup by decide +kernel) rfl (Or.inl rfl) (Or.inr rfl))) (fun _ _ _=>eS) (fun _ _ _=>(pe_dget2 hu (pv 1) (pv 0) aE ⟨rfl,rfl,rfl,rfl⟩)))
   (aD (aS (i:=13) sc.nd rfl (Or.inl rfl) (dZ G_doors_behind hr (aA (pv 3) (aA (aT (aK (K:=K) rfl) (pv 1) aE (fun _ _=>rfl)) (aA (pv 6) aB)))))
   (aL (bL (bA (aA (bA (aA (bD (cU (K:=K) rfl) rfl T.b_tuple dB (aA (pv 5) aB)) (aA (bD (cU (K:=K) rfl) rfl T.b_tuple dB (aA (pv 12) aB)) (aA (pv 13) aB)))) (aA (bD (call_tupFK (K:=K) rfl) rfl T.b_tuple dB (aA (pv 6) aB)) (aA (pe_dget2 hu (pv 7) dR aE ⟨rfl,rfl,rfl,rfl⟩) aB))))))))))),?_⟩
  obtain⟨ax,av,as,xs,ys,rfl,qx,qv,lv,qs,ls⟩:=net_un hx
  obtain⟨ay,b1,b2,b3,rfl,qy,q1,q2,q3⟩:=st_un hy
  have exl:xs.length=net.vs.length:=by rw[lv.length,List.length_map]
  refine⟨_,rfl,ax,_,rfl,qx,rfl,_,_,rfl,_,_,rfl,rfl,?_⟩
  refine⟨Nat.zero_le _,fun hl hhl=>⟨Nat.zero_le _,fun tl htl=>fun sd hsd=>⟨(show 3≤sizeLine by decide),fun tp htp=>⟨tp,_,rfl,bR.of aC,rfl,_,_,rfl,_,_,rfl,_,_,rfl,rfl,?_⟩⟩⟩⟩
  have n1:hl≠tl:=aN (show upd H hl (.lst []) hl=_ from aC) htl
  have fh:H hl=none:=hhl
  have ft:H tl=none:=aG.free (aG.new hhl) htl
  have fs:H sd=none:=aG.free ((aG.new hhl).trans (aG.new htl)) hsd
  have n2:hl≠sd:=aN (by rw[aQ n1];exact aC) hsd
  have n3:tl≠sd:=aN (show upd (upd H hl (.lst [])) tl (.lst []) tl=_ from aC) hsd
  have sm0:aG H (upd (upd (upd (upd H hl (.lst [])) tl (.lst [])) sd (.dK [])) tp (.tup [.ref hl,.ref tl,.ref sd])):=(((aG.new hhl).trans (aG.new htl)).trans (aG.new hsd)).trans (aG.new htp)
  have g1:upd (upd (upd (upd H hl (.lst [])) tl (.lst [])) sd (.dK [])) tp (.tup [.ref hl,.ref tl,.ref sd]) hl=some (.lst []):=aG.new htp _ _ (by rw[aQ n2,aQ n1];exact aC)
  have g2:upd (upd (upd (upd H hl (.lst [])) tl (.lst [])) sd (.dK [])) tp (.tup [.ref hl,.ref tl,.ref sd]) tl=some (.lst []):=aG.new htp _ _ (by rw[aQ n3];exact aC)
  have g3:upd (upd (upd (upd H hl (.lst [])) tl (.lst [])) sd (.dK [])) tp (.tup [.ref hl,.ref tl,.ref sd]) sd=some (.dK []):=aG.new htp _ _ aC
  generalize upd (upd (upd (upd H hl (.lst [])) tl (.lst [])) sd (.dK [])) tp (.tup [.ref hl,.ref tl,.ref sd])=H0 at sm0 g1 g2 g3 ⊢
  refine⟨_,rfl,_,rfl,_,rfl,.ref as,.ref ay,z,net.sps,held,coming,poured,doors,net.vs.length,rfl,Is.tupOf (sm0.tup qs) (IsL.mono sm0.ts _ _ ls),Is.mono sm0.ts _ _ hy,sm0.tup qz,sok.h,sok.c,lp,sok.d,nok.hi,nok.sps,fun ha H1 sm1 fha hha=>?_⟩
  have hsl:(aM net held coming poured doors).length=net.vs.length:=by
   unfold aM;rw[eY,add3_len sok.h sok.c lp]
  have g1':=sm1 _ _ g1
  have g2':=sm1 _ _ g2
  have g3':=sm1 _ _ g3
  have na1:hl≠ha:=aN g1 fha
  have na2:tl≠ha:=aN g2 fha
  have na3:sd≠ha:=aN g3 fha
  have fa:H ha=none:=sm0.free fha
  refine⟨false,ha,rfl,⟨_,bT.of hha⟩,for_enum (K:=K) (t:=false) (a:=ha) (xs:=(aM net held coming poured doors).map V.int)
   (fun i σ' H'=>aG H H'∧H' ha=some (.lst ((aM net held coming poured doors).map V.int))∧H' hl=some (.lst ((cE (net.vs.take i) ((aM net held coming poured doors).take i)).map V.int))∧
    H' tl=some (.lst ((aX 0 (net.vs.take i) ((aM net held coming poured doors).take i)).map fun (j:Nat)=>V.int (j:Int)))∧DictG H' sd (bN (net.vs.take i) ((aM net held coming poured doors).take i))∧
    ∃ v8 v9 v10 v11,σ'=[some (.ref ax),some (.ref ay),some (.ref z),some (.ref av),some (.ref as),some (.ref hl),some (.ref tl),some (.ref sd),v8,v9,v10,v11,none,none])
   (fun i σ' H' p=>bT.of p.2.1) ⟨sm0.trans sm1,hha,by simpa [cE] using g1',by simpa [aX] using g2',⟨[],g3',by simp,fun k=>rfl⟩,none,none,none,none,rfl⟩ ?_ ?_⟩
  rotate_left
  ·rintro i x0 σ' H2 Tt hx0 ⟨sm2,p1,p2,p3,p4,v8,v9,v10,v11,rfl⟩ hT
   rw[List.getElem?_map] at hx0
   obtain⟨hi,hhi,rfl⟩:=Option.map_eq_some_iff.mp hx0
   have hil:i < net.vs.length:=by rw[← hsl];exact (List.getElem?_eq_some_iff.mp hhi).1
   have hv:net.vs[i]? = some net.vs[i]:=by simp [hil]
   have vok:=nok.vs _ (List.getElem_mem hil)
   obtain⟨xv,hxv,ixv⟩:=lv.get (i:=i) (d:=vsD net.vs[i]) (by rw[List.getElem?_map,hv];rfl)
   have smT:=aG.new (o:=HO.tup [.int (i:Int),.int hi]) hT
   refine⟨Tt,_,rfl,bR.of aC,rfl,_,_,rfl,_,_,rfl,rfl,?_⟩
   have sm3:aG H (upd H2 Tt (.tup [.int (i:Int),.int hi])):=sm2.trans smT
   obtain⟨kvs,d1,d2,d3⟩:=p4
   have hgl:=goesL_len (net.vs.take i) ((aM net held coming poured doors).take i) fun v hv'=>nok.vs v (List.mem_of_mem_take hv')
   have htk:(net.vs.take i).length≤12:=by rw[List.length_take];have:=nok.hi;omega
   refine⟨_,rfl,_,rfl,.inr (.inl ⟨av,xs,i,_,rfl,rfl,sm3.tup qv,cT hxv,_,rfl,_,rfl,xv,sd,hi,net.vs[i],_,_,_,rfl,Is.mono sm3.ts _ _ ixv,⟨kvs,smT _ _ d1,d2,d3⟩,by omega,vok,fun p H3 bt dg qp=>?_⟩)⟩
   refine⟨p,_,rfl,qp,rfl,_,_,rfl,_,_,rfl,rfl,?_⟩
   have e1:=bt hl _ n2 (smT _ _ p2)
   have e2:=bt tl _ n3 (smT _ _ p3)
   have e3:=bt ha _ (Ne.symm na3) (smT _ _ p1)
   have sm4:aG H H3:=fun b o e=>bt b o (aN e fs) (sm3 b o e)
   have stl:(cE (net.vs.take i) ((aM net held coming poured doors).take i)).length≤12:=by
    rw[staysL_len _ _ (by rw[List.length_take,List.length_take,hsl])];exact htk
   have tpl:=tipsL_len (net.vs.take i) ((aM net held coming poured doors).take i) 0
   refine⟨_,rfl,.inl ⟨rfl,_,bT.of e1⟩,_,rfl,hl,_,_,rfl,rfl,e1,bC (by simp;omega),?_⟩
   have f1:upd H3 hl (.lst ((cE (net.vs.take i) ((aM net held coming poured doors).take i)).map V.int++[.int (d9 net.vs[i] hi)])) tl=some (.lst ((aX 0 (net.vs.take i) ((aM net held coming poured doors).take i)).map fun (j:Nat)=>V.int (j:Int))):=by rw[aQ (Ne.symm n1)];exact e2
   have s1:=staysL_snoc net.vs (aM net held coming poured doors) i _ _ hv hhi
   have s2:=tipsL_snoc net.vs (aM net held coming poured doors) i 0 _ _ hv hhi
   have s3:=goesL_snoc net.vs (aM net held coming poured doors) i _ _ hv hhi
   have dgo:∀ {Hx:Hp},Hx sd=H3 sd→DictG Hx sd (bN (net.vs.take (i+1)) ((aM net held coming poured doors).take (i+1))):=fun {Hx} e=>by
    obtain⟨kv,a1,a2,a3⟩:=dg
    rw[s3]
    exact⟨kv,e.trans a1,a2,a3⟩
   refine⟨_,rfl,_,rfl,?_⟩
   cases ht:dS net.vs[i] hi with
   | false=>
    refine iteF ?_
    rw[ht] at s2
    refine⟨sm4.put fh,by rw[aQ (Ne.symm na1)];exact e3,by rw[aC,s1,List.map_append];rfl,by rw[s2];simpa using f1,dgo (by rw[aQ (Ne.symm n2)]),_,_,_,_,rfl⟩
   | true=>
    refine iteT ?_
    rw[ht] at s2
    refine⟨_,rfl,.inl ⟨rfl,_,bT.of f1⟩,_,rfl,tl,_,_,rfl,rfl,f1,bC (by simp;omega),?_⟩
    refine⟨(sm4.put fh).put ft,by rw[aQ (Ne.symm na2),aQ (Ne.symm na1)];exact e3,by rw[aQ n1,aC,s1,List.map_append];rfl,?_,dgo (by rw[aQ (Ne.symm n3),aQ (Ne.symm n2)]),_,_,_,_,rfl⟩
    rw[aC,s2]
    simp
  ·rintro σ' H2 ⟨sm2,p1,p2,p3,p4,v8,v9,v10,v11,rfl⟩
   rw[List.length_map,hsl] at p2 p3 p4
   have ek:net.vs.take net.vs.length=net.vs:=List.take_length
   have ek2:(aM net held coming poured doors).take net.vs.length=aM net held coming poured doors:=by rw[← hsl,List.take_length]
   rw[ek,ek2] at p2 p3 p4
   obtain⟨kvs,d1,d2,d3⟩:=p4
   refine⟨_,rfl,av,xs,rfl,.inr (sm2.tup qv),_,rfl,by omega,by have:=nok.hi;omega,?_⟩
   have hn:((xs.length:Nat):Int).toNat=net.vs.length:=by rw[exl];simp
   rw[hn]
   refine lc_range (n:=net.vs.length) (fun D i r σ' H'=>H2 D=none∧aG H2 H'∧H' D=some (.lst r)∧r=((cN net.vs.length (bN net.vs (aM net held coming poured doors))).take i).map V.int∧∃ v,σ'=[v,some (.ref sd)])
    (fun D hD=>⟨hD,aG.new hD,aC,by simp,none,rfl⟩) ?_ ?_
   rotate_left
   ·rintro D i r σ' H' hi ⟨hD,sm,hDl,rfl,v,rfl⟩
    refine name_yes ?_
    have hg:=DGet.k (k:=keyO (some (i:Int))) (sm _ _ d1)
    refine⟨_,rfl,sd,rfl,.inl ⟨kvs,.inl (sm _ _ d1)⟩,_,rfl,_,hg,hDl,bC (by simp [cN];have:=nok.hi;omega),hD,sm.put hD,aC,?_,_,rfl⟩
    have e:(cN net.vs.length (bN net.vs (aM net held coming poured doors)))[i]? = some (b0 (some (i:Int)) (bN net.vs (aM net held coming poured doors))):=by
     unfold cN;simp [hi]
    rw[aZ e,List.map_append]
    show _++[(dY kvs (keyO (some (i:Int)))).getD (.int 0)]=_
    rw[d3];rfl
   ·rintro D r σ' H3 ⟨hD,sm,hDl,rfl,_⟩
    have ll:(cN net.vs.length (bN net.vs (aM net held coming poured doors))).length=net.vs.length:=by unfold cN;simp
    rw[List.take_of_length_le (Nat.le_of_eq ll)] at hDl
    have sm3:aG H H3:=sm2.trans sm
    refine⟨_,rfl,_,rfl,.inr (.inl ⟨ay,_,2,_,rfl,rfl,sm3.tup qy,rfl,_,rfl,.ref av,.ref b3,tl,net.vs,doors,aX 0 net.vs (aM net held coming poured doors),net.vs.length,rfl,Is.tupOf (sm3.tup qv) (IsL.mono sm3.ts _ _ lv),Is.tupOf (sm3.tup q3) (IsL.of_bools _),bT.of (sm _ _ p3),fun j hj=>by have:=tipsL_lt _ _ _ _ hj;omega,fun v hv=>by rw[sok.d];exact nok.vs v hv,by rw[sok.d];exact nok.sp,fun dp H4 sm4 hdp=>?_⟩)⟩
    obtain⟨da,dxs,rfl,qd,ld⟩:=hdp.un
    have c1:=sm4 _ _ (sm _ _ p2)
    have c2:=sm4 _ _ hDl
    have c3:=sm4 _ _ (sm _ _ p3)
    have c4:=sm4 _ _ (sm _ _ d1)
    refine⟨_,rfl,hl,_,rfl,.inl ⟨bT.of c1,fun t1 ht1=>?_⟩⟩
    have m1:=aG.new (o:=HO.tup ((cE net.vs (aM net held coming poured doors)).map V.int)) ht1
    refine⟨_,rfl,D,_,rfl,.inl ⟨bT.of (m1 _ _ c2),fun t2 ht2=>?_⟩⟩
    have m2:=aG.new (o:=HO.tup ((cN net.vs.length (bN net.vs (aM net held coming poured doors))).map V.int)) ht2
    refine⟨_,rfl,(show 3≤sizeLine by decide),fun t3 ht3=>?_⟩
    have m3:=aG.new (o:=HO.tup [.ref t1,.ref t2,.ref da]) ht3
    refine⟨_,rfl,tl,_,rfl,bT.of (m3 _ _ (m2 _ _ (m1 _ _ c3))),fun t4 ob ht4 hob=>?_⟩
    have m4:=aG.new (o:=HO.frz ob (.tup ((aX 0 net.vs (aM net held coming poured doors)).map fun (j:Nat)=>V.int (j:Int)))) ht4
    have c4':=m4 _ _ (m3 _ _ (m2 _ _ (m1 _ _ c4)))
    have hg:=DGet.k (k:=keyO none) c4'
    refine⟨_,rfl,sd,rfl,.inl ⟨kvs,.inl c4'⟩,_,hg,(show 3≤sizeLine by decide),fun t5 ht5=>?_⟩
    have m5:aG _ _:=aG.new (o:=HO.tup [.ref t3,.ref t4,(dY kvs (keyO none)).getD (.int 0)]) ht5
    have eg:(dY kvs (keyO none)).getD (.int 0)=.int (b0 none (bN net.vs (aM net held coming poured doors))):=d3 none
    rw[eg] at m5 ⊢
    have e1:((aX 0 net.vs (aM net held coming poured doors)).map fun (i:Nat)=>L2.D.int (i:Int))=((aX 0 net.vs (aM net held coming poured doors)).map fun (i:Nat)=>(i:Int)).map L2.D.int:=by rw[List.map_map];rfl
    refine k _ _ ((((((sm3.trans sm4).trans m1).trans m2).trans m3).trans m4).trans m5) ⟨t5,.ref t3,t4,rfl,bR.of aC,?_,ob,m5 _ _ aC,hob⟩
    exact Is.mono m5.ts _ _ (Is.mono m4.ts _ _ (st_of (bR.of aC) (m3.tup (m2.tup (bR.of aC))) (m3.tup (bR.of aC)) (by
      have:=ld.bools;rw[this] at qd;exact m3.tup (m2.tup (m1.tup qd)))))
end
end Tw
namespace Tw
open PySem L2
section
variable {P:Program}{w:World}{K:PySem.W.Frag}{mg:Str→Option Value}{base:Heap}{C c_TipError c_NoNet c_NoVessel c_TooLong c_TooMany c_TooMuch c_Nothing c_NoText c_NoRow:Addr}
noncomputable def spGoP (K:PySem.W.Frag) (cL:Addr):Sp:=fun vs H Q E=>∃ (x:V) (net:Net),vs=[x]∧Is K H (netD net) x∧NetOk net∧
 (∀ t j p tl us H',Rep net t j→aG H H'→bR K H' p [.int j,.ref tl]→H' tl=some (.lst us)→us.length=t→(∀ (i:Nat) v,us[i]? = some v→TickP K H' ((bZ net i).tk net) v)→H tl=none→Q (.ref p) H')∧(Long net→∀ H',aG H H'→E (.ref cL) none H')
theorem ok_go_roundP {f f1 f2 f3:Addr}{fd fd1 fd2 fd3:FuncData} (F:Fun K "go_round" "go_round" (bE 20) f fd) (T:Txt mg) (U:TxtT mg) (XC_TooLong:ExC K "TooLong" c_TooLong)
  (G_first_state:Callee P w K mg base "first_state" ["net"] 1 (spFirst K) f1 fd1) (G_pouring:Callee P w K mg base "pouring" ["net","amount"] 1 (spPouring K) f2 fd2) (G_tick_behind:Callee P w K mg base "tick_behind" ["net","state","poured"] 4 (spTickP K) f3 fd3) :
  FnOk P w K mg base (CXR P w) 5 f fd ["net"] (spGoP K c_TooLong):=by
 refine F.okR sc_go_round (fun vs H Q E h=>?_) (fun cdv A outer s H vs Q E hr h L=>?_)
 ·obtain⟨x,net,rfl,_⟩:=h;rfl
 ·obtain⟨x,net,rfl,hx,nok,kR,kL⟩:=h
  have sc:=sc_go_round
  refine⟨_,(aD (ps_par (i:=1) (j:=2) rfl sc.nd rfl rfl (by decide) rfl rfl (aA (dZ G_first_state hr (aA (pv 0) aB)) (aA (dZ G_pouring hr (aA (pv 0) (aA aE aB))) aB)) rfl)
   (aD (ps_par (i:=3) (j:=4) rfl sc.nd rfl rfl (by decide) rfl rfl (aA pe_dnewK (aA (cB aB) aB)) rfl)
   (aD (ps_calm fun pn=>(dL PassesOwn.never rfl (cP rfl T.b_range (aA (aO bH (pe_globE rfl U.g_LAST_TICK) aE) aB)) (aH (i:=5) sc.nd rfl (Or.inl rfl)) (aD (dG (bJ (op_inDK (P:=P) (w:=w) (K:=K) rfl rfl rfl hr.units) (pv 1) (pv 3) (by rfl)) (aL (bL (bA (aA (aT (ix_DK (P:=P) (w:=w) (K:=K) rfl rfl rfl hr.units) (pv 3) (pv 1) (fun _ _=>rfl)) (aA (pv 4) aB))))) bY)
   (aD (ps_dputDK (P:=P) (w:=w) (K:=K) rfl rfl rfl hr.units (pv 3) (pv 1) (pv 5) rfl)
   (aD (dA (pe_bmK (K:=K) rfl PySem.F.plainAttrs_list PySem.F.slot_list_append PySem.F.type_list_append cQ (pv 4) (aA (dZ G_tick_behind hr (aA (pv 0) (aA (pv 1) (aA (pv 2) aB)))) aB)))
   (aL (aS (i:=1) sc.nd rfl (Or.inl rfl) (aT (aK (K:=K) rfl) (aT (aK (K:=K) rfl) (pv 4) (pe_un un_neg aE) (fun _ _=>rfl)) aE (fun _ _=>rfl)))))))))
   (aL (ps_raise L rfl rfl XC_TooLong.exc XC_TooLong.ns PySem.F.excBase_ValueError (aA pe_str aB)))))),?_⟩
  refine⟨_,rfl,x,net,rfl,hx,nok,fun st H1 sm1 hst=>⟨_,rfl,x,net,0,rfl,Is.mono sm1.ts _ _ hx,nok,fun z H2 sm2 qz=>⟨_,_,rfl,?_⟩⟩⟩
  have s2:=sm1.trans sm2
  have hst2:=Is.mono sm2.ts _ _ hst
  rw[zeros_cons nok.lo] at qz
  refine fun sd hsd=>⟨Nat.zero_le _,fun tl htl=>⟨_,_,rfl,?_⟩⟩
  have nst:sd≠tl:=aN (show upd H2 sd (.dK []) sd=_ from aC) htl
  have fs:H sd=none:=s2.free hsd
  have ft:H tl=none:=(s2.trans (aG.new hsd)).free htl
  have s3:aG H2 (upd (upd H2 sd (.dK [])) tl (.lst [])):=(aG.new hsd).trans (aG.new htl)
  have g1:upd (upd H2 sd (.dK [])) tl (.lst []) sd=some (.dK []):=by rw[aQ nst];exact aC
  have g2:upd (upd H2 sd (.dK [])) tl (.lst []) tl=some (.lst []):=aC
  generalize upd (upd H2 sd (.dK [])) tl (.lst [])=H3 at s3 g1 g2
  refine⟨_,_,rfl,rfl,_,rfl,by decide,by decide,?_⟩
  refine eI (lo:=0) (n:=2001) (fun i σ' H'=>aG H H'∧(∀ m,m < i→repAt net m=none)∧fA P w K H' sd (shN net) (dJ net i)∧(∃ us,H' tl=some (.lst us)∧us.length=i∧∀ (m:Nat) v,us[m]? = some v→TickP K H' ((bZ net m).tk net) v)∧bR K H' z ((bV net.vs.length).map V.int)∧
   ∃ st v5,Is K H' (eA (bZ net i)) st∧σ'=[some x,some st,some (.ref z),some (.ref sd),some (.ref tl),v5]) ?_ ?_ ?_
  ·exact⟨s2.trans s3,fun m hm=>absurd hm (Nat.not_lt_zero _),fA.new g1,⟨[],g2,rfl,fun m v h=>by simp at h⟩,s3.tup qz,st,_,Is.mono s3.ts _ _ hst2,rfl⟩
  ·rintro i σ' H4 hi ⟨s4,hno,dd,⟨us,htl4,hul,lus⟩,qz4,st,v5,hst4,rfl⟩
   rw[Int.zero_add]
   have sok:=sta_ok nok i
   have key:=key_sta sok hst4
   have hsl:=seen_len net i
   dsimp only [tSeq]
   refine⟨_,rfl,_,rfl,sd,shN net,dJ net i,eA (bZ net i),rfl,dd,key,_,rfl,?_⟩
   cases hr:repAt net i with
   | some v=>
    have hr':dY (dJ net i) (eA (bZ net i))=some v:=hr
    rw[hr']
    refine iteT ?_
    obtain⟨j,rfl⟩:=seen_int net _ v i hr'
    refine⟨_,rfl,_,rfl,sd,shN net,dJ net i,eA (bZ net i),.int j,rfl,dd,key,hr',_,rfl,(show 2≤sizeLine by decide),fun p hp=>?_⟩
    have s5:=aG.new (o:=HO.tup [.int j,.ref tl]) hp
    exact kR i j p tl us _ ⟨by omega,hr,hno⟩ (s4.trans s5) (bR.of aC) (s5 _ _ htl4) hul (fun m v h=>(lus m v h).same s5) ft
   | none=>
    have hr':dY (dJ net i) (eA (bZ net i))=none:=hr
    rw[hr']
    refine iteF ?_
    refine⟨_,rfl,_,rfl,_,rfl,sd,shN net,dJ net i,eA (bZ net i),rfl,dd,key,small1M' (by omega),fun H5 b5 dd5=>?_⟩
    have ts5:=b5.ts (K:=K) dd.mut
    have s5:aG H H5:=fun b o e=>b5 b o (aN e fs) (s4 b o e)
    have ntl:tl≠sd:=Ne.symm nst
    have htl5:=b5 _ _ ntl htl4
    have hx5:=Is.mono s5.ts _ _ hx
    have hst5:=Is.mono ts5 _ _ hst4
    refine⟨_,rfl,.inl ⟨rfl,_,bT.of htl5⟩,_,rfl,_,rfl,_,rfl,x,st,z,net,_,_,bV net.vs.length,_,rfl,hx5,hst5,ts5 _ _ qz4,nok,sok,zeros_l _,fun v6 H6 sm6 tp6=>?_⟩
    have htl6:=sm6 _ _ htl5
    refine⟨tl,us,_,rfl,rfl,htl6,small1M' (by omega),?_⟩
    have mu6:Mut (H6 tl):=by rw[htl6];exact trivial
    have b7:fC tl H6 (upd H6 tl (.lst (us++[v6]))):=fC.upd
    have ts7:=b7.ts (K:=K) mu6
    obtain⟨f,y1,tpa,rfl,qf,j1,pla⟩:=id tp6
    refine⟨_,rfl,1,rfl,.inl ⟨tl,_,-1,_,rfl,rfl,bT.of aC,atI_last _ _,.inr (.inl ⟨f,_,0,_,rfl,rfl,ts7 _ _ qf,rfl,?_⟩)⟩⟩
    refine⟨(s5.trans sm6).put ft,fun m hm=>?_,(dd5.same sm6).mono ts7 fun o e=>b7 _ _ nst e,⟨_,aC,by rw[List.length_append,List.length_singleton];omega,fun m v hv=>?_⟩,ts7 _ _ (sm6.tup (ts5 _ _ qz4)),y1,_,Is.mono ts7 _ _ j1,rfl⟩
    ·rcases (show m < i∨m=i by omega) with h | rfl
     ·exact hno m h
     ·exact hr
    ·rcases Nat.lt_or_ge m us.length with hlt | hge
     ·rw[List.getElem?_append_left hlt] at hv
      exact (((lus m v hv).but b5 dd.mut).same sm6).but b7 mu6
     ·have hml:=(List.getElem?_eq_some_iff.mp hv).1
      rw[List.length_append,List.length_singleton] at hml
      have:m=i:=by omega
      subst this
      rw[List.getElem?_append_right hge,hul,Nat.sub_self] at hv
      cases hv
      exact tp6.but b7 mu6
  ·rintro σ' H4 ⟨s4,hno,_⟩
   exact⟨by show 1≤100;decide,kL (fun i hi=>hno i (by omega)) _ s4⟩
end
end Tw
namespace Tw
open PySem L2
end Tw
namespace Tw
open PySem L2
noncomputable def dQ (fo:Option Nat) (i:Nat) (v:Vs):Vs:=if fo=some i then { v with size:=v.brim+1 } else v
noncomputable def eK (vs:List Vs) (fo:Option Nat):List Vs:=vs.mapIdx fun i v=>dQ fo i v
noncomputable def cD (net:Net) (fo:Option Nat):Net:=⟨eK net.vs fo,net.sps⟩
noncomputable def fastV:Option Nat→V
 | none=>.non
 | some j=>.int (j:Int)
theorem stickL_len (vs:List Vs) (fo:Option Nat):(eK vs fo).length=vs.length:=by unfold eK;rw[List.length_mapIdx]
theorem stick_at {vs:List Vs} (fo:Option Nat) {i:Nat}{v:Vs} (h:vs[i]? = some v):(eK vs fo)[i]? = some (dQ fo i v):=by unfold eK;rw[List.getElem?_mapIdx,h];rfl
theorem stickV_acts (fo:Option Nat) (i:Nat) (v:Vs):(dQ fo i v).acts=v.acts:=by unfold dQ;split <;> rfl
theorem stickV_spill (fo:Option Nat) (i:Nat) (v:Vs):(dQ fo i v).spill=v.spill:=by unfold dQ;split <;> rfl
theorem stickV_here (fo:Option Nat) (i:Nat) (v:Vs) (h:Int):bI (dQ fo i v) h=bI v h:=by unfold dQ;split <;> rfl
theorem stick_yes {fo:Option Nat}{i:Nat}{v:Vs}{h:Int} (z:fo=some i):dS (dQ fo i v) h=false:=by
 have:dS { v with size:=v.brim+1 } h=false:=by
  unfold dS bI
  rw[decide_eq_false]
  show ¬ v.brim+1≤min h v.brim
  omega
 unfold dQ
 rw[if_pos z];exact this
theorem stick_not {fo:Option Nat}{i:Nat}{v:Vs}{h:Int} (z:¬ fo≠some i):dS (dQ fo i v) h=false:=stick_yes (Classical.not_not.1 z)
theorem fast_ne {fo:Option Nat}{i:Nat} (z:fo≠some i):(!decide (V.int (i:Int)=fastV fo))=true:=by
 cases fo with
 | none=>rfl
 | some j=>
  rw[Bool.not_eq_true',decide_eq_false]
  intro e
  injection e with e
  exact z (by congr 1;omega)
theorem scal_fast (fo:Option Nat) (i:Nat):scal (.int (i:Int)) (fastV fo)=true:=by cases fo <;> rfl
theorem stickN_none (net:Net):cD net none=net:=by
 have:eK net.vs none=net.vs:=by
  apply List.ext_getElem?
  intro i
  unfold eK
  rw[List.getElem?_mapIdx]
  cases net.vs[i]? <;> rfl
 unfold cD
 rw[this]
section
variable {P:Program}{w:World}{K:PySem.W.Frag}{mg:Str→Option Value}{base:Heap}
noncomputable def spTickF (K:PySem.W.Frag):Sp:=fun args H Q _=>∃ (x y:V) (z:Addr) (net:Net) (held coming poured:List Int) (doors:List Bool) (fo:Option Nat),args=[x,y,.ref z,fastV fo]∧Is K H (netD net) x∧Is K H (stD held coming doors) y∧Sq2 K H z (poured.map V.int)∧
 NetOk net∧NetOk (cD net fo)∧StOk net held coming doors∧poured.length=net.vs.length∧∀ (l:Addr) (p1 p2:V) H',aG H H'→H' l=some (.lst [p1,p2,.int (cF (cD net fo) held coming poured doors).ground])→
  Is K H' (stD (cF (cD net fo) held coming poured doors).held (cF (cD net fo) held coming poured doors).coming (cF (cD net fo) held coming poured doors).doors) p1→
  Is K H' (.tup ((cF (cD net fo) held coming poured doors).tip.map fun (i:Nat)=>D.int (i:Int))) p2→Q (.ref l) H'
theorem ok__law_tickF {f fF:Addr}{fd fdF:FuncData} (F:Fun K "_law_tick" "_law_tick" (bE 29) f fd) (T:Txt mg) (G__law_filled:Callee P w K mg base "_law_filled" ["net","state","poured"] 1 (spFilledL K) fF fdF):FnOk P w K mg base CX0 2 f fd ["net","state","poured","fast"] (spTickF K):=by
 refine F.ok sc__law_tick (fun vs H Q E h=>?_) (fun cdv A outer s H vs Q E hr h=>?_)
 ·obtain⟨x,y,z,net,held,coming,poured,doors,fo,rfl,_⟩:=h;rfl
 ·obtain⟨x,y,z,net,held,coming,poured,doors,fo,rfl,hx,hy,qz,nok,nokw,sok,hpl,k⟩:=h
  have wl:(eK net.vs fo).length=net.vs.length:=stickL_len _ _
  have wat:∀ {i:Nat}{v:Vs},net.vs[i]? = some v→(eK net.vs fo)[i]? = some (dQ fo i v):=fun h=>stick_at fo h
  have wok:∀ v∈eK net.vs fo,VOk net.vs.length net.sps.length v:=fun v hv=>by have:=nokw.vs v hv;rw[show (cD net fo).vs.length=net.vs.length from wl] at this;exact this
  generalize hws:eK net.vs fo=ws at wl wat wok
  have sc:=sc__law_tick
  refine⟨_,(aD (aS (i:=4) sc.nd rfl (Or.inl rfl) (dZ G__law_filled hr (aA (pv 0) (aA (pv 1) (aA (pv 2) aB)))))
   (aD (aS (i:=5) sc.nd rfl (Or.inr rfl) (cB aB))
   (aD (aS (i:=6) sc.nd rfl (Or.inl rfl) (cB aB))
   (aD (aS (i:=7) sc.nd rfl (Or.inl rfl) (cB aB))
   (aD (dL PassesOwn.never rfl (cP rfl T.b_range (aA (aP (aY (K:=K) rfl) rfl T.b_len PySem.boot_len (aA (aT (aK (K:=K) rfl) (pv 0) aE (fun _ _=>rfl)) aB)) aB)) (aH (i:=8) sc.nd rfl (Or.inl rfl)) (aD (cX (aT (aK (K:=K) rfl) (aT (aK (K:=K) rfl) (pv 0) aE (fun _ _=>rfl)) (pv 8) (fun _ _=>rfl)) (bP (K:=K) (n:=6) rfl rfl (aI (aH (i:=9) sc.nd rfl (Or.inl rfl)) (aI (aH (i:=10) sc.nd rfl (Or.inl rfl)) (aI (aH (i:=11) sc.nd rfl (Or.inl rfl)) (aI (aH (i:=12) sc.nd rfl (Or.inl rfl)) (aI (aH (i:=13) sc.nd rfl (Or.inl rfl)) (aI (aH (i:=14) sc.nd rfl (Or.inl rfl)) bK))))))))
   (aD (aS (i:=15) sc.nd rfl (Or.inr rfl) (aP (call_min2 rfl) rfl T.b_min PyProof.Rows.boot_min (aA (aT (aK (K:=K) rfl) (pv 4) (pv 8) (fun _ _=>rfl)) (aA (pv 10) aB))))
   (aD (dA (pe_bmK (K:=K) rfl PySem.F.plainAttrs_list PySem.F.slot_list_append PySem.F.type_list_append cQ (pv 5) (aA (bA (aA (pv 13) (aA (aO d7 (aT (aK (K:=K) rfl) (pv 4) (pv 8) (fun _ _=>rfl)) (pv 15)) aB))) aB)))
   (aD (dG (PW.pt (pw_and (bJ op_ge (pv 15) (pv 9) (bU _)) (pw_and1 (bJ op_ne (pv 8) (pv 3) (bU _))))) (aD (aS (i:=16) sc.nd rfl (Or.inr rfl) (aP (cW (K:=K) rfl rfl) rfl T.b_sum PyProof.Rows.boot_sum (aA (pe_lc (fun _ _ h=>h) rfl (LcOk.mk (N':=["target","parts"]) (fr:=[none,none]) rfl trivial rfl rfl rfl rfl rfl trivial) (pi_tupK (K:=K) rfl (pv 11)) (fun _ _ _=>(bP (K:=K) (n:=2) rfl rfl (aI (aH (i:=0) (show (["target","parts"]:List Str).Nodup by decide +kernel) rfl (Or.inl rfl) (Or.inr rfl)) (aI (aH (i:=1) (show (["target","parts"]:List Str).Nodup by decide +kernel) rfl (Or.inl rfl) (Or.inr rfl)) bK)))) (fun _ _ _=>eS) (fun _ _ _=>(pv 1))) aB)))
   (aD (aS (i:=5) sc.nd rfl (Or.inr rfl) (aO op_cat (pv 5) (pe_lc (fun _ _ h=>h) rfl (LcOk.mk (N':=["target","parts","here","whole"]) (fr:=[none,none,some 15,some 16]) rfl ⟨rfl,rfl,trivial⟩ rfl rfl rfl rfl rfl ⟨⟨_,rfl,rfl,rfl,rfl⟩,⟨_,rfl,rfl,rfl,rfl⟩,trivial⟩) (pi_tupK (K:=K) rfl (pv 11)) (fun _ _ _=>(bP (K:=K) (n:=2) rfl rfl (aI (aH (i:=0) (show (["target","parts","here","whole"]:List Str).Nodup by decide +kernel) rfl (Or.inl rfl) (Or.inr rfl)) (aI (aH (i:=1) (show (["target","parts","here","whole"]:List Str).Nodup by decide +kernel) rfl (Or.inl rfl) (Or.inr rfl)) bK)))) (fun _ _ _=>eS) (fun _ _ _=>(bA (aA (pv 0) (aA (aO eD (aO fH (pv 2) (pv 3)) (pv 1)) aB)))))))
   (aD (aS (i:=15) sc.nd rfl (Or.inr rfl) (aO op_mod (pv 15) (pv 16)))
   (aD (dA (pe_bmK (K:=K) rfl PySem.F.plainAttrs_list PySem.F.slot_list_append PySem.F.type_list_append cQ (pv 6) (aA (pv 8) aB)))
   (aL (dG (pt_not (pt_val (pv 12))) (aD (dA (pe_bmK (K:=K) rfl PySem.F.plainAttrs_list PySem.F.slot_list_append PySem.F.type_list_append cQ (pv 5) (aA (bA (aA dR (aA (pv 15) aB))) aB)))
   (aL (aS (i:=15) sc.nd rfl (Or.inr rfl) aE))) bY)))))) bY)
   (aL (dA (pe_bmK (K:=K) rfl PySem.F.plainAttrs_list PySem.F.slot_list_append PySem.F.type_list_append cQ (pv 7) (aA (pv 15) aB)))))))))
   (aD (aS (i:=17) sc.nd rfl (Or.inl rfl) (bD (call_lstK (K:=K) rfl) rfl T.b_list bt_list (aA (aT (aK (K:=K) rfl) (pv 1) aE (fun _ _=>rfl)) aB)))
   (aD (dL PassesOwn.never rfl (eR (K:=K) rfl (pv 6)) (aH (i:=8) sc.nd rfl (Or.inl rfl)) (aL (dL PassesOwn.never rfl (pi_tupK (K:=K) rfl (aT (aK (K:=K) rfl) (aT (aK (K:=K) rfl) (aT (aK (K:=K) rfl) (pv 0) aE (fun _ _=>rfl)) (pv 8) (fun _ _=>rfl)) aE (fun _ _=>rfl))) (bP (K:=K) (n:=2) rfl rfl (aI (aH (i:=18) sc.nd rfl (Or.inl rfl)) (aI (aH (i:=19) sc.nd rfl (Or.inl rfl)) bK))) (aL (cX (aT (aK (K:=K) rfl) (cB (aA (pe_not (aT (aK (K:=K) rfl) (pv 17) (pv 19) (fun _ _=>rfl))) (aA fG (aA fG aB)))) (pe_bmK (K:=K) rfl PySem.F.plainAttrs_list PySem.F.slot_list_index PySem.F.type_list_index mt_index (cB (aA pe_str (aA pe_str (aA pe_str aB)))) (aA (pv 18) aB)) (fun _ _=>rfl)) (pg_sub (pv 17) (pv 19) set_list))))))
   (aD (ps_set_lcD (i:=20) sc.nd rfl rfl (fun _ _ h=>h) rfl (LcOk2.mk (N':=["k","goes"]) (fr:=[none,some 5]) rfl ⟨rfl,trivial⟩ rfl rfl rfl rfl rfl ⟨⟨_,rfl,rfl,rfl,rfl⟩,trivial⟩) (cP rfl T.b_range (aA (aP (aY (K:=K) rfl) rfl T.b_len PySem.boot_len (aA (aT (aK (K:=K) rfl) (pv 0) aE (fun _ _=>rfl)) aB)) aB)) (fun _ _ _=>(aH (i:=0) (show (["k","goes"]:List Str).Nodup by decide +kernel) rfl (Or.inr rfl) (Or.inl rfl))) (fun _ _ _=>eS) (fun _ _ _=>(aP (cW (K:=K) rfl rfl) rfl T.b_sum PyProof.Rows.boot_sum (aA (pe_lc (fun _ _ h=>h) rfl (LcOk.mk (N':=["target","amount","k"]) (fr:=[none,none,some 0]) rfl ⟨rfl,trivial⟩ rfl rfl rfl rfl rfl ⟨⟨_,rfl,rfl,rfl,rfl⟩,trivial⟩) (eR (K:=K) rfl (pv 1)) (fun _ _ _=>(bP (K:=K) (n:=2) rfl rfl (aI (aH (i:=0) (show (["target","amount","k"]:List Str).Nodup by decide +kernel) rfl (Or.inl rfl) (Or.inr rfl)) (aI (aH (i:=1) (show (["target","amount","k"]:List Str).Nodup by decide +kernel) rfl (Or.inl rfl) (Or.inr rfl)) bK)))) (fun _ _ _=>pif_one (bJ op_eq (pv 0) (pv 2) (bU _))) (fun _ _ _=>(pv 1))) aB))))
   (aD (aS (i:=21) sc.nd rfl (Or.inl rfl) (aP (cW (K:=K) rfl rfl) rfl T.b_sum PyProof.Rows.boot_sum (aA (pe_lc (fun _ _ h=>h) rfl (LcOk.mk (N':=["target","amount"]) (fr:=[none,none]) rfl trivial rfl rfl rfl rfl rfl trivial) (eR (K:=K) rfl (pv 5)) (fun _ _ _=>(bP (K:=K) (n:=2) rfl rfl (aI (aH (i:=0) (show (["target","amount"]:List Str).Nodup by decide +kernel) rfl (Or.inl rfl) (Or.inr rfl)) (aI (aH (i:=1) (show (["target","amount"]:List Str).Nodup by decide +kernel) rfl (Or.inl rfl) (Or.inr rfl)) bK)))) (fun _ _ _=>pif_one (bJ op_isN (pv 0) dR (bU _))) (fun _ _ _=>(pv 1))) aB)))
   (aL (bL (cB (aA (bA (aA (bD (cU (K:=K) rfl) rfl T.b_tuple dB (aA (pv 7) aB)) (aA (bD (cU (K:=K) rfl) rfl T.b_tuple dB (aA (pv 20) aB)) (aA (bD (cU (K:=K) rfl) rfl T.b_tuple dB (aA (pv 17) aB)) aB)))) (aA (bD (cU (K:=K) rfl) rfl T.b_tuple dB (aA (pv 6) aB)) (aA (pv 21) aB))))))))))))))),?_⟩
  obtain⟨a,b,c,xs,ys,rfl,q,q1,l1,q2,l2⟩:=net_un hx
  obtain⟨ay,a1,a2,a3,rfl,qy,p1,p2,p3⟩:=st_un hy
  have exl:xs.length=net.vs.length:=by rw[l1.length,List.length_map]
  have n1:=nok.lo
  have n2:=nok.hi
  have n3:=nok.sp
  have hn:((xs.length:Nat):Int).toNat=net.vs.length:=by rw[exl];simp
  have hsl:(aM net held coming poured doors).length=net.vs.length:=by
   unfold aM;rw[eY,add3_len sok.h sok.c hpl]
  have hgl60:(bN ws (aM net held coming poured doors)).length≤60:=by
   have:=goesL_len ws (aM net held coming poured doors) wok;omega
  have hgt:∀ i,(bN (ws.take i) ((aM net held coming poured doors).take i)).length≤60:=fun i=>by
   have h1:=goesL_len (ws.take i) ((aM net held coming poured doors).take i) fun v hv=>wok v (List.mem_of_mem_take hv)
   have h2:(ws.take i).length≤12:=by rw[List.length_take];omega
   omega
  have htt:∀ i,(aX 0 (ws.take i) ((aM net held coming poured doors).take i)).length≤12:=fun i=>by
   have h1:=tipsL_len (ws.take i) ((aM net held coming poured doors).take i) 0
   have h2:(ws.take i).length≤12:=by rw[List.length_take];omega
   omega
  have hst:∀ i,(cE (ws.take i) ((aM net held coming poured doors).take i)).length≤12:=fun i=>by
   rw[staysL_len _ _ (by rw[List.length_take,List.length_take,hsl,wl]),List.length_take];omega
  refine⟨_,rfl,_,rfl,_,rfl,.ref a,.ref ay,z,net,held,coming,poured,doors,rfl,hx,hy,qz,nok,sok,hpl,fun hl H1 sm1 fr1 hH1=>?_⟩
  refine⟨Nat.zero_le _,fun gl hgl=>⟨Nat.zero_le _,fun tl htl=>⟨Nat.zero_le _,fun sl hsl'=>?_⟩⟩⟩
  have ft:H1 tl=none:=aG.free (aG.new hgl) htl
  have fs:H1 sl=none:=aG.free (aG.new hgl) (aG.free (aG.new htl) hsl')
  have nts:tl≠sl:=aN (show upd _ tl (.lst []) tl=_ from aC) hsl'
  have ngt:gl≠tl:=aN (show upd H1 gl (.lst []) gl=_ from aC) htl
  have ngs:gl≠sl:=aN (show upd (upd H1 gl (.lst [])) tl (.lst []) gl=some (.lst []) by rw[aQ ngt];exact aC) hsl'
  refine⟨_,rfl,.inr (.inl ⟨a,_,0,_,rfl,rfl,((((sm1.trans (aG.new hgl)).trans (aG.new htl)).trans (aG.new hsl')).tup q),rfl,b,xs,rfl,.inr ((((sm1.trans (aG.new hgl)).trans (aG.new htl)).trans (aG.new hsl')).tup q1),_,rfl,by omega,by omega,?_⟩)⟩
  rw[hn]
  refine eI (lo:=0) (n:=net.vs.length) (fun i σ' H'=>aG H1 H'∧H' tl=some (.lst ((aX 0 (ws.take i) ((aM net held coming poured doors).take i)).map fun (j:Nat)=>V.int (j:Int)))∧
   H' sl=some (.lst ((cE (ws.take i) ((aM net held coming poured doors).take i)).map V.int))∧∃ (gl:Addr) (gxs:List V),H1 gl=none∧gl≠tl∧gl≠sl∧H' gl=some (.lst gxs)∧L2.IsL K H' ((bN (ws.take i) ((aM net held coming poured doors).take i)).map outD) gxs∧
   ∃ v8 v9 v10 v11 v12 v13 v14 v15 v16,σ'=[some (.ref a),some (.ref ay),some (.ref z),some (fastV fo),some (.ref hl),some (.ref gl),some (.ref tl),some (.ref sl),v8,v9,v10,v11,v12,v13,v14,v15,v16,none,none,none,none,none]) ?_ ?_ ?_
  ·refine⟨((aG.new hgl).trans (aG.new htl)).trans (aG.new hsl'),by rw[aQ nts,aC];simp [aX],by rw[aC];simp [cE],gl,[],hgl,ngt,ngs,by rw[aQ ngs,aQ ngt,aC],?_,none,none,none,none,none,none,none,none,none,rfl⟩
   simp only [List.take_zero,bN,List.map_nil];exact .nil
  ·rintro i σ' H2 hi ⟨sm,ht2,hs2,gl,gxs,fg,ngt,ngs,hg2,ig2,v8,v9,v10,v11,v12,v13,v14,v15,v16,rfl⟩
   rw[Int.zero_add]
   have hv:net.vs[i]? = some net.vs[i]:=by simp [hi]
   have vok:=nok.vs net.vs[i] (List.getElem_mem hi)
   have hil:i < (aM net held coming poured doors).length:=by rw[hsl];exact hi
   have hhi:(aM net held coming poured doors)[i]? = some ((aM net held coming poured doors)[i]'hil):=by simp
   generalize hh:(aM net held coming poured doors)[i]'hil=h at hhi
   have hhm:((aM net held coming poured doors).map V.int)[i]? = some (.int h):=by rw[List.getElem?_map,hhi];rfl
   have sA:aG H H2:=sm1.trans sm
   have s1:=staysL_snoc ws (aM net held coming poured doors) i _ _ (wat hv) hhi
   have s2:=tipsL_snoc ws (aM net held coming poured doors) i 0 _ _ (wat hv) hhi
   have s3:=goesL_snoc ws (aM net held coming poured doors) i _ _ (wat hv) hhi
   generalize hvv:net.vs[i]=v at hv vok s1 s2 s3
   obtain⟨xv,hxv,ixv⟩:=l1.get (i:=i) (d:=vsD v) (by rw[List.getElem?_map,hv];rfl)
   obtain⟨va,o,cc,rfl,qv,ho,hc⟩:=vs_un ixv
   obtain⟨oa,os,rfl,qo,lo⟩:=ho.un
   have eol:os.length=v.outs.length:=by rw[lo.length,List.length_map]
   have hw1:=whole_pos vok.ne vok.outs
   have hw2:=whole_le vok.outs
   have ho3:=vok.o3
   refine⟨_,rfl,.inr (.inl ⟨a,_,0,_,rfl,rfl,sA.tup q,rfl,_,rfl,.inr (.inl ⟨b,xs,(i:Int),_,rfl,rfl,sA.tup q1,cT hxv,va,_,rfl,sA.tup qv,rfl,_,_,rfl,_,_,rfl,_,_,rfl,_,_,rfl,_,_,rfl,_,_,rfl,rfl,?_⟩)⟩)⟩
   refine⟨_,rfl,_,rfl,.inl ⟨hl,_,(i:Int),_,rfl,rfl,bT.of (sm _ _ hH1),cT hhm,_,rfl,_,_,rfl,?_⟩⟩
   have eh:(if v.brim < h then v.brim else h)=bI v h:=by unfold bI;split <;> omega
   rw[eh]
   refine⟨_,rfl,.inl ⟨rfl,_,bT.of hg2⟩,_,rfl,_,rfl,_,rfl,.inl ⟨hl,_,(i:Int),_,rfl,rfl,bT.of (sm _ _ hH1),cT hhm,_,rfl,_,_,rfl,rfl,(show 2≤sizeLine by decide),fun gq hgq=>?_⟩⟩
   have ngq:gl≠gq:=aN hg2 hgq
   have hgxl:gxs.length=(bN (ws.take i) ((aM net held coming poured doors).take i)).length:=by rw[ig2.length,List.length_map]
   have hg60:=hgt i
   refine⟨gl,gxs,_,rfl,rfl,by rw[aQ ngq];exact hg2,bC (by omega),?_⟩
   obtain⟨sm3,hg3,ig3,kp3⟩:=goes_put sm fg hg2 ig2 hgq v.spill (h - bI v h)
   have ht3:=kp3 tl _ (Ne.symm ngt) ht2
   have hs3:=kp3 sl _ (Ne.symm ngs) hs2
   generalize upd (upd H2 gq (.tup [tgV v.spill,.int (h - bI v h)])) gl (.lst (gxs++[.ref gq]))=H3 at sm3 hg3 ig3 kp3 ht3 hs3 ⊢
   have sA3:aG H H3:=sm1.trans sm3
   dsimp only [tSeq,tAsg,tC,gName]
   refine if_by (fun σ' H'=>aG H1 H'∧H' tl=some (.lst ((aX 0 (ws.take (i+1)) ((aM net held coming poured doors).take (i+1))).map fun (j:Nat)=>V.int (j:Int)))∧
    H' sl=some (.lst ((cE (ws.take i) ((aM net held coming poured doors).take i)).map V.int))∧∃ (gl:Addr) (gxs:List V),H1 gl=none∧gl≠tl∧gl≠sl∧H' gl=some (.lst gxs)∧L2.IsL K H' ((bN (ws.take (i+1)) ((aM net held coming poured doors).take (i+1))).map outD) gxs∧
    ∃ v8 v9 v10 v11 v12 v13 v14 v16,σ'=[some (.ref a),some (.ref ay),some (.ref z),some (fastV fo),some (.ref hl),some (.ref gl),some (.ref tl),some (.ref sl),v8,v9,v10,v11,v12,v13,v14,some (.int (d9 (dQ fo i v) h)),v16,none,none,none,none,none]) (fun D' hD=>?_) ?_
   ·refine⟨_,rfl,_,rfl,_,_,rfl,rfl,_,rfl,?_⟩
    have other:∀ σ'',(∃ v8 v9 v10 v11 v12 v13 v14 v16,σ''=[some (.ref a),some (.ref ay),some (.ref z),some (fastV fo),some (.ref hl),some (.ref gl),some (.ref tl),some (.ref sl),v8,v9,v10,v11,v12,v13,v14,some (.int (bI v h)),v16,none,none,none,none,none])→dS (dQ fo i v) h=false→D'.nx σ'' H3:=by
     rintro σ'' ⟨v8,v9,v10,v11,v12,v13,v14,v16,rfl⟩ tips
     have es:bI v h=d9 (dQ fo i v) h:=by unfold d9;rw[tips,stickV_here];rfl
     have eg:cR (dQ fo i v) h=[(v.spill,h - bI v h)]:=by unfold cR;rw[tips,stickV_here,stickV_spill];rfl
     rw[tips,if_neg Bool.false_ne_true,List.append_nil] at s2
     exact hD _ _ ⟨sm3,by rw[s2];exact ht3,hs3,gl,_,fg,ngt,ngs,hg3,by rw[s3,eg];exact ig3,_,_,_,_,_,_,_,_,by rw[← es]⟩
    refine ite2 (fun hge=>?_) (fun hlt=>iteF ?_)
    ·refine⟨_,rfl,_,rfl,scal_fast fo i,_,rfl,?_⟩
     refine ite2 (fun hnf=>?_) (fun hst=>other _ ⟨_,_,_,_,_,_,_,_,rfl⟩ (stick_not fun z=>hst (fast_ne z)))
     have ev:dQ fo i v=v:=if_neg fun z=>by rw[z] at hnf;simp [fastV] at hnf
     rw[ev] at s1 s2 s3 hD
     have tips:dS v h=true:=hge
     refine⟨_,rfl,oa,rfl,⟨_,sA3.tup qo⟩,lc_tup (K:=K) (a:=oa) (xs:=os) (fun D j ys σ' H'=>H3 D=none∧aG H3 H'∧H' D=some (.lst ys)∧ys=(v.outs.take j).map (fun x=>V.int x.2)∧∃ x y,σ'=[x,y])
      (fun D j ys σ' H' p=>p.2.1.tup (sA3.tup qo)) (fun D hD=>⟨hD,aG.new hD,aC,by simp,none,none,rfl⟩) ?_ ?_⟩
     rotate_left
     ·rintro D j x ys σ' H' hx ⟨hD,smx,hDl,rfl,v1,v2,rfl⟩
      obtain⟨ot,hot,oq,rfl,qa⟩:=outs_at lo hx
      have hjl:=(List.getElem?_eq_some_iff.mp hot).1
      refine⟨oq,_,rfl,smx.tup (sA3.tup qa),rfl,_,_,rfl,_,_,rfl,rfl,?_⟩
      refine yes_of ⟨_,rfl,hDl,bC (by simp;omega),hD,smx.put hD,aC,?_,_,_,rfl⟩
      rw[aZ hot];simp
     rintro D ys σ' H4 ⟨hD4,sm4,hDl,rfl,_⟩
     rw[eol,List.take_length] at hDl
     refine⟨false,D,v.outs.map (·.2),rfl,bT.of (by rw[List.map_map];exact hDl),?_⟩
     have ew:(v.outs.map (·.2)).sum=whole v.outs:=rfl
     rw[ew]
     have sA4:aG H H4:=sA3.trans sm4
     refine⟨_,rfl,_,rfl,oa,rfl,⟨_,sA4.tup qo⟩,lc_tup (K:=K) (a:=oa) (xs:=os) (fun D j ys σ' H'=>H4 D=none∧aG H4 H'∧H' D=some (.lst ys)∧L2.IsL K H' (((eN v (bI v h)).take j).map outD) ys∧∃ x y,σ'=[x,y,some (.int (bI v h)),some (.int (whole v.outs))])
      (fun D j ys σ' H' p=>p.2.1.tup (sA4.tup qo)) (fun D hD=>⟨hD,aG.new hD,aC,by simp only [List.take_zero,List.map_nil];exact .nil,none,none,rfl⟩) ?_ ?_⟩
     rotate_left
     ·rintro D j x ys σ' H' hx ⟨hD,smx,hDl,hys,v1,v2,rfl⟩
      obtain⟨ot,hot,oq,rfl,qa⟩:=outs_at lo hx
      have hjl:=(List.getElem?_eq_some_iff.mp hot).1
      have hom:=vok.outs ot (List.mem_of_getElem? hot)
      refine⟨oq,_,rfl,smx.tup (sA4.tup qa),rfl,_,_,rfl,_,_,rfl,rfl,?_⟩
      refine yes_of ⟨_,rfl,_,rfl,_,rfl,_,_,rfl,rfl,⟨by omega,by omega⟩,_,rfl,_,_,rfl,rfl,.inr ⟨by have:=hom.lo;omega,by have:=hom.hi;omega⟩,(show 2≤sizeLine by decide),fun tq htq=>?_⟩
      have nD:D≠tq:=aN hDl htq
      have hysl:ys.length≤3:=by rw[hys.length,List.length_map,List.length_take];unfold eN;rw[List.length_map];omega
      have mt:Mut (upd H' tq (.tup [tgV ot.1,.int (bI v h / whole v.outs * ot.2)]) D):=by rw[aQ nD,hDl];exact trivial
      have hsh:(eN v (bI v h))[j]? = some (ot.1,bI v h / whole v.outs * ot.2):=by unfold eN;rw[List.getElem?_map,hot];rfl
      refine⟨by rw[aQ nD];exact hDl,bC (by omega),hD,fun b o e=>by rw[aQ (aN e hD)];exact aG.new htq b o (smx b o e),aC,?_,_,_,rfl⟩
      rw[aZ hsh,List.map_append]
      exact L2.IsL.snoc (Is.tupOf (ds:=[tgD ot.1,.int (bI v h / whole v.outs * ot.2)]) (cA.put (cA.refl _) (.inr mt) _ _ (bR.of aC)) (.cons (Is.tgOf _) (.cons (Is.i _) .nil))) (L2.IsL.mono (cA.put (aG.new htq).ts (.inr mt)) _ _ hys)
     rintro D2 ys σ' H5 ⟨hD5,sm5,hD5l,hys,_⟩
     have esh:(eN v (bI v h)).length=os.length:=by unfold eN;rw[List.length_map,eol]
     rw[List.take_of_length_le (Nat.le_of_eq esh)] at hys
     have hysl:ys.length≤3:=by rw[hys.length,List.length_map,esh,eol];exact ho3
     have hg5:=sm5 _ _ (sm4 _ _ hg3)
     refine⟨gl,D2,gxs++[.ref gq],ys,rfl,rfl,hg5,hD5l,Nat.le_of_lt (bC (by simp;omega)),fun gl2 hgl2=>?_⟩
     have fg2:H1 gl2=none:=aG.free (sm3.trans (sm4.trans sm5)) hgl2
     have ht5:=sm5 _ _ (sm4 _ _ ht3)
     have hs5:=sm5 _ _ (sm4 _ _ hs3)
     have ngt2:gl2≠tl:=Ne.symm (aN ht5 hgl2)
     have ngs2:gl2≠sl:=Ne.symm (aN hs5 hgl2)
     have m6:aG H5 (upd H5 gl2 (.lst (gxs++[.ref gq]++ys))):=aG.new hgl2
     have ig6:L2.IsL K (upd H5 gl2 (.lst (gxs++[.ref gq]++ys))) ((bN (ws.take i) ((aM net held coming poured doors).take i)++[(v.spill,h - bI v h)]++eN v (bI v h)).map outD) (gxs++[.ref gq]++ys):=by
      rw[List.map_append]
      exact IsL.append (L2.IsL.mono m6.ts _ _ (L2.IsL.mono sm5.ts _ _ (L2.IsL.mono sm4.ts _ _ ig3))) (L2.IsL.mono m6.ts _ _ hys)
     have hg6:upd H5 gl2 (.lst (gxs++[.ref gq]++ys)) gl2=some (.lst (gxs++[.ref gq]++ys)):=aC
     have sm6:aG H1 (upd H5 gl2 (.lst (gxs++[.ref gq]++ys))):=(sm3.trans (sm4.trans sm5)).trans m6
     have ht6:=m6 _ _ ht5
     have hs6:=m6 _ _ hs5
     generalize upd H5 gl2 (.lst (gxs++[.ref gq]++ys))=H6 at sm6 hg6 ig6 ht6 hs6 ⊢
     refine⟨_,rfl,_,rfl,_,_,rfl,rfl,(show 0 < whole v.outs by omega),?_⟩
     have htl:=htt i
     refine⟨_,rfl,.inl ⟨rfl,_,bT.of ht6⟩,_,rfl,tl,_,_,rfl,rfl,ht6,bC (by rw[List.length_map];omega),?_⟩
     have mtt:Mut (H6 tl):=by rw[ht6];exact trivial
     rw[tips,if_pos rfl,Nat.zero_add] at s2
     have hg7:upd H6 tl (.lst (((aX 0 (ws.take i) ((aM net held coming poured doors).take i)).map fun (j:Nat)=>V.int (j:Int))++[.int (i:Int)])) gl2=some (.lst (gxs++[.ref gq]++ys)):=by rw[aQ ngt2];exact hg6
     have ig7:=L2.IsL.mono (cA.put (o:=HO.lst (((aX 0 (ws.take i) ((aM net held coming poured doors).take i)).map fun (j:Nat)=>V.int (j:Int))++[.int (i:Int)])) (cA.refl H6) (.inr mtt)) _ _ ig6
     have sm7:aG H1 (upd H6 tl (.lst (((aX 0 (ws.take i) ((aM net held coming poured doors).take i)).map fun (j:Nat)=>V.int (j:Int))++[.int (i:Int)]))):=sm6.put ft
     have ht7:upd H6 tl (.lst (((aX 0 (ws.take i) ((aM net held coming poured doors).take i)).map fun (j:Nat)=>V.int (j:Int))++[.int (i:Int)])) tl=some (.lst ((aX 0 (ws.take (i+1)) ((aM net held coming poured doors).take (i+1))).map fun (j:Nat)=>V.int (j:Int))):=by
      rw[aC,s2,List.map_append];rfl
     have hs7:upd H6 tl (.lst (((aX 0 (ws.take i) ((aM net held coming poured doors).take i)).map fun (j:Nat)=>V.int (j:Int))++[.int (i:Int)])) sl=_:=(aQ (Ne.symm nts)).trans hs6
     generalize upd H6 tl (.lst (((aX 0 (ws.take i) ((aM net held coming poured doors).take i)).map fun (j:Nat)=>V.int (j:Int))++[.int (i:Int)]))=H7 at hg7 ig7 sm7 ht7 hs7 ⊢
     refine⟨_,rfl,_,rfl,?_⟩
     cases hhd:v.holds with
     | true=>
      refine iteF ?_
      have es:bI v h % whole v.outs=d9 v h:=by unfold d9;rw[tips,hhd];rfl
      refine hD _ _ ⟨sm7,ht7,hs7,gl2,_,fg2,ngt2,ngs2,hg7,?_,_,_,_,_,_,_,_,_,by rw[← es];rfl⟩
      have eg:cR v h=[(v.spill,h - bI v h)]++eN v (bI v h):=by unfold cR;rw[tips,hhd];simp
      rw[s3,eg,← List.append_assoc]
      exact ig7
     | false=>
      refine iteT ?_
      refine⟨_,rfl,.inl ⟨rfl,_,bT.of hg7⟩,_,rfl,(show 2≤sizeLine by decide),fun gq2 hgq2=>?_⟩
      have ngq2:gl2≠gq2:=aN hg7 hgq2
      refine⟨gl2,_,_,rfl,rfl,by rw[aQ ngq2];exact hg7,bC (by simp;omega),?_⟩
      obtain⟨sm8,hg8,ig8,kp8⟩:=goes_put sm7 fg2 hg7 ig7 hgq2 none (bI v h % whole v.outs)
      have es:d9 v h=0:=by unfold d9;rw[tips,hhd];rfl
      refine hD _ _ ⟨sm8,kp8 tl _ (Ne.symm ngt2) ht7,kp8 sl _ (Ne.symm ngs2) hs7,gl2,_,fg2,ngt2,ngs2,hg8,?_,_,_,_,_,_,_,_,_,by rw[es];rfl⟩
      have eg:cR v h=[(v.spill,h - bI v h)]++eN v (bI v h)++[(none,bI v h % whole v.outs)]:=by unfold cR;rw[tips,hhd];simp
      rw[s3,eg,← List.append_assoc,← List.append_assoc]
      exact ig8
    ·refine other _ ⟨_,_,_,_,_,_,_,_,rfl⟩ ?_
     by_cases z:fo=some i
     ·exact stick_yes z
     ·rw[show dQ fo i v=v from if_neg z]
      cases e:dS v h with
      | false=>rfl
      | true=>exact absurd e hlt
   rintro σ3 H4 ⟨sm4,ht4,hs4,gl,gxs,fg,ngt,ngs,hg4,ig4,v8,v9,v10,v11,v12,v13,v14,v16,rfl⟩
   have hsl2:=hst i
   refine⟨_,rfl,.inl ⟨rfl,_,bT.of hs4⟩,_,rfl,sl,_,_,rfl,rfl,hs4,bC (by rw[List.length_map];omega),?_⟩
   refine⟨sm4.put fs,by rw[aQ nts];exact ht4,by rw[aC,s1,List.map_append];rfl,gl,gxs,fg,ngt,ngs,by rw[aQ ngs];exact hg4,L2.IsL.mono (cA.put (cA.refl _) (.inr (by rw[hs4];exact trivial))) _ _ ig4,_,_,_,_,_,_,_,_,_,rfl⟩
  ·rintro σ' H2 ⟨sm,ht2,hs2,gl,gxs,fg,ngt,ngs,hg2,ig2,v8,v9,v10,v11,v12,v13,v14,v15,v16,rfl⟩
   have ek:ws.take net.vs.length=ws:=by rw[← wl,List.take_length]
   have ek2:(aM net held coming poured doors).take net.vs.length=aM net held coming poured doors:=by rw[← hsl,List.take_length]
   rw[ek,ek2] at ht2 hs2 ig2
   have sA:aG H H2:=sm1.trans sm
   have etl:(aX 0 ws (aM net held coming poured doors)).length≤12:=by have:=tipsL_len ws (aM net held coming poured doors) 0;omega
   refine⟨_,rfl,.inr (.inl ⟨ay,_,2,_,rfl,rfl,sA.tup qy,rfl,a3,_,rfl,.inr (sA.tup p3),fun dl hdl=>?_⟩)⟩
   have m3:aG H2 (upd H2 dl (.lst (doors.map V.bl))):=aG.new hdl
   refine⟨_,rfl,tl,rfl,⟨_,bT.of (m3 _ _ ht2)⟩,for_list (K:=K) (a:=tl) (xs:=(aX 0 ws (aM net held coming poured doors)).map fun (j:Nat)=>V.int (j:Int))
    (fun i σ' H'=>aG H2 H'∧H' dl=some (.lst ((bO ws doors ((aX 0 ws (aM net held coming poured doors)).take i)).map V.bl))∧
     ∃ v8 v9 v10 v11 v12 v13 v14 v15 v16 v18 v19,σ'=[some (.ref a),some (.ref ay),some (.ref z),some (fastV fo),some (.ref hl),some (.ref gl),some (.ref tl),some (.ref sl),v8,v9,v10,v11,v12,v13,v14,v15,v16,some (.ref dl),v18,v19,none,none])
    ⟨m3,aC,_,_,_,_,_,_,_,_,_,_,_,rfl⟩ (fun i σ' H' _ p=>bT.of (p.1 _ _ ht2)) ?_ ?_⟩
   ·rintro i x σ' H3 hx' ⟨sm3,hd3,v8,v9,v10,v11,v12,v13,v14,v15,v16,v18,v19,rfl⟩
    rw[List.getElem?_map] at hx'
    obtain⟨j,hj,rfl⟩:=Option.map_eq_some_iff.mp hx'
    have hjv:j < net.vs.length:=by have:=tipsL_lt _ _ _ _ (List.mem_of_getElem? hj);omega
    have hv:net.vs[j]? = some net.vs[j]:=by simp [hjv]
    have vok:=nok.vs net.vs[j] (List.getElem_mem hjv)
    have dsn:=doorsL_snoc ws doors ((aX 0 ws (aM net held coming poured doors)).take i) j _ (wat hv)
    rw[stickV_acts] at dsn
    generalize hvv:net.vs[j]=v at hv vok dsn
    obtain⟨xv,hxv,ixv⟩:=l1.get (i:=j) (d:=vsD v) (by rw[List.getElem?_map,hv];rfl)
    obtain⟨va,o,cc,rfl,qv,ho,hc⟩:=vs_un ixv
    obtain⟨ca,cs,rfl,qc,lc⟩:=hc.un
    have ecs:cs.length=v.acts.length:=by rw[lc.length,List.length_map]
    have sA3:aG H H3:=sA.trans sm3
    refine⟨_,rfl,.inr (.inl ⟨a,_,0,_,rfl,rfl,sA3.tup q,rfl,_,rfl,.inr (.inl ⟨b,xs,(j:Int),_,rfl,rfl,sA3.tup q1,cT hxv,.inr (.inl ⟨va,_,5,_,rfl,rfl,sA3.tup qv,rfl,ca,rfl,⟨_,sA3.tup qc⟩,for_tup (K:=K) (a:=ca) (xs:=cs)
     (fun l σ' H'=>aG H2 H'∧H' dl=some (.lst ((d6 (bO ws doors ((aX 0 ws (aM net held coming poured doors)).take i)) (v.acts.take l)).map V.bl))∧
      ∃ v8 v9 v10 v11 v12 v13 v14 v15 v16 v18 v19,σ'=[some (.ref a),some (.ref ay),some (.ref z),some (fastV fo),some (.ref hl),some (.ref gl),some (.ref tl),some (.ref sl),v8,v9,v10,v11,v12,v13,v14,v15,v16,some (.ref dl),v18,v19,none,none])
     ⟨sm3,hd3,_,_,_,_,_,_,_,_,_,_,_,rfl⟩ (fun l σ' H' _ p=>(sA.trans p.1).tup qc) ?_ ?_⟩)⟩)⟩)⟩
    ·rintro l x σ' H4 hl' ⟨sm4,hd4,v8,v9,v10,v11,v12,v13,v14,v15,v16,v18,v19,rfl⟩
     obtain⟨at',hat,aa,rfl,qa⟩:=acts_at lc hl'
     have aok:=vok.acts at' (List.mem_of_getElem? hat)
     refine⟨aa,_,rfl,(sA.trans sm4).tup qa,rfl,_,_,rfl,_,_,rfl,rfl,?_⟩
     have asn:=actsL_snoc (bO ws doors ((aX 0 ws (aM net held coming poured doors)).take i)) (v.acts.take l) at'
     have hdl':(d6 (bO ws doors ((aX 0 ws (aM net held coming poured doors)).take i)) (v.acts.take l)).length=doors.length:=by rw[actsL_len,doorsL_len]
     generalize d6 (bO ws doors ((aX 0 ws (aM net held coming poured doors)).take i)) (v.acts.take l)=DS at hd4 asn hdl'
     have hsp:at'.2.toNat < DS.length:=by rw[hdl',sok.d];have:=aok.lo;have:=aok.hi;omega
     have hg:(DS.map V.bl)[at'.2.toNat]? = some (.bl (DS.getD at'.2.toNat false)):=by
      rw[List.getElem?_map,List.getD_eq_getElem?_getD];simp [hsp]
     obtain⟨jj,hj3,w1,w2,w3⟩:=word_ix aok.word
     refine⟨_,rfl,_,rfl,.inl ⟨dl,_,at'.2,_,rfl,rfl,bT.of hd4,atI_int aok.lo hg,_,rfl,(show 3≤sizeLine by decide),fun b1 hb1=>⟨(show 3≤sizeLine by decide),fun b2 hb2=>⟨.inl ⟨rfl,_,bT.of aC⟩,_,rfl,?_⟩⟩⟩⟩
     have m5:aG H4 (upd H4 b1 (.lst [.bl (!DS.getD at'.2.toNat false),.bl true,.bl false])):=aG.new hb1
     have m6:aG (upd H4 b1 (.lst [.bl (!DS.getD at'.2.toNat false),.bl true,.bl false])) (upd (upd H4 b1 (.lst [.bl (!DS.getD at'.2.toNat false),.bl true,.bl false])) b2 (.lst [.str "turn",.str "open",.str "shut"])):=aG.new hb2
     refine⟨b2,_,_,jj,rfl,rfl,aC,rfl,rfl,hj3,w1,w2,.inl ⟨b1,_,(jj:Int),_,rfl,rfl,bT.of (m6 _ _ aC),cT (w3 _),?_⟩⟩
     refine⟨_,rfl,_,rfl,dl,_,at'.2,at'.2.toNat,rfl,rfl,m6 _ _ (m5 _ _ hd4),ixN_nat aok.lo (by rw[List.length_map];have:=aok.lo;omega),?_⟩
     refine⟨((sm4.trans m5).trans m6).put hdl,?_,_,_,_,_,_,_,_,_,_,_,_,rfl⟩
     rw[aC,aZ hat,asn,act1,List.map_set]
    ·rintro σ' H4 ⟨sm4,hd4,v8,v9,v10,v11,v12,v13,v14,v15,v16,v18,v19,rfl⟩
     rw[ecs,List.take_length] at hd4
     refine⟨sm4,?_,_,_,_,_,_,_,_,_,_,_,_,rfl⟩
     rw[aZ hj,dsn]
     exact hd4
   ·rintro σ' H3 ⟨sm3,hd3,v8,v9,v10,v11,v12,v13,v14,v15,v16,v18,v19,rfl⟩
    rw[List.length_map,List.take_length] at hd3
    have sA3:aG H H3:=sA.trans sm3
    have hg3:=sm3 _ _ hg2
    have ig3:=L2.IsL.mono sm3.ts _ _ ig2
    have hgxl:gxs.length=(bN ws (aM net held coming poured doors)).length:=by rw[ig2.length,List.length_map]
    refine⟨_,rfl,.inr (.inl ⟨a,_,0,_,rfl,rfl,sA3.tup q,rfl,b,xs,rfl,.inr (sA3.tup q1),_,rfl,by omega,by omega,?_⟩)⟩
    rw[hn]
    refine lc_range (n:=net.vs.length) (fun D i r σ' H'=>H3 D=none∧aG H3 H'∧H' D=some (.lst r)∧r=((cN net.vs.length (bN ws (aM net held coming poured doors))).take i).map V.int∧∃ v,σ'=[v,some (.ref gl)])
     (fun D hD=>⟨hD,aG.new hD,aC,by simp,none,rfl⟩) ?_ ?_
    rotate_left
    ·rintro D i r σ' H4 hi ⟨hD,sm4,hDl,rfl,v,rfl⟩
     refine name_yes ?_
     refine⟨_,rfl,gl,rfl,⟨_,bT.of (sm4 _ _ hg3)⟩,lc_list (K:=K) (a:=gl) (xs:=gxs) (fun D' j r' σ' H'=>H4 D'=none∧aG H4 H'∧H' D'=some (.lst r')∧r'=(amts (some (i:Int)) ((bN ws (aM net held coming poured doors)).take j)).map V.int∧∃ u1 u2,σ'=[u1,u2,some (.int (i:Int))])
      (fun D' j r' σ' H' p=>bT.of (p.2.1 _ _ (sm4 _ _ hg3))) (fun D' hD'=>⟨hD',aG.new hD',aC,by simp [amts],none,none,rfl⟩) ?_ ?_⟩
     rotate_left
     ·rintro D' j x r' σ' H5 hx' ⟨hD',sm5,hD'l,rfl,u1,u2,rfl⟩
      obtain⟨g,hg,ga,rfl,qg⟩:=outs_at (L2.IsL.mono sm4.ts _ _ ig3) hx'
      refine⟨ga,_,rfl,sm5.tup qg,rfl,_,_,rfl,_,_,rfl,rfl,?_⟩
      have hsc:scal (tgV g.1) (.int (i:Int))=true:=by cases g.1 <;> rfl
      have hiff:tgV g.1=.int (i:Int)↔g.1=some (i:Int):=by cases g.1 <;> simp [tgV]
      have hal:=amts_len (some (i:Int)) ((bN ws (aM net held coming poured doors)).take j)
      rw[List.length_take] at hal
      refine⟨_,rfl,_,rfl,hsc,_,rfl,?_⟩
      refine ite2 (fun ht=>?_) (fun hf=>?_)
      ·refine⟨_,rfl,hD'l,bC (by rw[List.length_map];omega),hD',sm5.put hD',aC,?_,_,_,rfl⟩
       rw[aZ hg,amts_snoc,if_pos (hiff.mp (of_decide_eq_true ht)),List.map_append];rfl
      ·refine⟨hD',sm5,hD'l,?_,_,_,rfl⟩
       rw[aZ hg,amts_snoc,if_neg (fun e=>hf (decide_eq_true (hiff.mpr e))),List.append_nil]
     rintro D' r' σ' H5 ⟨hD',sm5,hD'l,rfl,_⟩
     rw[hgxl,List.take_length] at hD'l
     refine⟨false,D',_,rfl,bT.of hD'l,sm5 _ _ hDl,bC (by simp [cN];omega),hD,(sm4.trans sm5).put hD,aC,?_,_,rfl⟩
     have e:(cN net.vs.length (bN ws (aM net held coming poured doors)))[i]? = some (b0 (some (i:Int)) (bN ws (aM net held coming poured doors))):=by
      unfold cN;simp [hi]
     rw[aZ e,List.map_append,amts_sum];rfl
    rintro D r σ' H4 ⟨hD,sm4,hDl,rfl,_⟩
    have ll:(cN net.vs.length (bN ws (aM net held coming poured doors))).length=net.vs.length:=by unfold cN;simp
    rw[List.take_of_length_le (Nat.le_of_eq ll)] at hDl
    refine⟨_,rfl,gl,rfl,⟨_,bT.of (sm4 _ _ hg3)⟩,lc_list (K:=K) (a:=gl) (xs:=gxs) (fun D' j r' σ' H'=>H4 D'=none∧aG H4 H'∧H' D'=some (.lst r')∧r'=(amts none ((bN ws (aM net held coming poured doors)).take j)).map V.int∧∃ u1 u2,σ'=[u1,u2])
     (fun D' j r' σ' H' p=>bT.of (p.2.1 _ _ (sm4 _ _ hg3))) (fun D' hD'=>⟨hD',aG.new hD',aC,by simp [amts],none,none,rfl⟩) ?_ ?_⟩
    rotate_left
    ·rintro D' j x r' σ' H5 hx' ⟨hD',sm5,hD'l,rfl,u1,u2,rfl⟩
     obtain⟨g,hg,ga,rfl,qg⟩:=outs_at (L2.IsL.mono sm4.ts _ _ ig3) hx'
     refine⟨ga,_,rfl,sm5.tup qg,rfl,_,_,rfl,_,_,rfl,rfl,?_⟩
     have hiff:tgV g.1=.non↔g.1=none:=by cases g.1 <;> simp [tgV]
     have hal:=amts_len none ((bN ws (aM net held coming poured doors)).take j)
     rw[List.length_take] at hal
     refine⟨_,rfl,rfl,_,rfl,?_⟩
     refine ite2 (fun ht=>?_) (fun hf=>?_)
     ·refine⟨_,rfl,hD'l,bC (by rw[List.length_map];omega),hD',sm5.put hD',aC,?_,_,_,rfl⟩
      rw[aZ hg,amts_snoc,if_pos (hiff.mp (of_decide_eq_true ht)),List.map_append];rfl
     ·refine⟨hD',sm5,hD'l,?_,_,_,rfl⟩
      rw[aZ hg,amts_snoc,if_neg (fun e=>hf (decide_eq_true (hiff.mpr e))),List.append_nil]
    rintro D' r' σ' H5 ⟨hD',sm5,hD'l,rfl,_⟩
    rw[hgxl,List.take_length] at hD'l
    refine⟨false,D',_,rfl,bT.of hD'l,?_⟩
    rw[amts_sum]
    have c1:=sm5 _ _ (sm4 _ _ (sm3 _ _ hs2))
    have c2:=sm5 _ _ hDl
    have c3:=sm5 _ _ (sm4 _ _ hd3)
    have c4:=sm5 _ _ (sm4 _ _ (sm3 _ _ ht2))
    refine⟨_,rfl,sl,_,rfl,.inl ⟨bT.of c1,fun t1 ht1=>?_⟩⟩
    have m1:=aG.new (o:=HO.tup ((cE ws (aM net held coming poured doors)).map V.int)) ht1
    refine⟨_,rfl,D,_,rfl,.inl ⟨bT.of (m1 _ _ c2),fun t2 ht2=>?_⟩⟩
    have m2:=aG.new (o:=HO.tup ((cN net.vs.length (bN ws (aM net held coming poured doors))).map V.int)) ht2
    refine⟨_,rfl,dl,_,rfl,.inl ⟨bT.of (m2 _ _ (m1 _ _ c3)),fun t3 ht3=>?_⟩⟩
    have m3:=aG.new (o:=HO.tup ((bO ws doors (aX 0 ws (aM net held coming poured doors))).map V.bl)) ht3
    refine⟨(show 3≤sizeLine by decide),fun t4 ht4=>?_⟩
    have m4:=aG.new (o:=HO.tup [.ref t1,.ref t2,.ref t3]) ht4
    refine⟨_,rfl,tl,_,rfl,.inl ⟨bT.of (m4 _ _ (m3 _ _ (m2 _ _ (m1 _ _ c4)))),fun t5 ht5=>?_⟩⟩
    have m5:=aG.new (o:=HO.tup ((aX 0 ws (aM net held coming poured doors)).map fun (j:Nat)=>V.int (j:Int))) ht5
    refine⟨_,rfl,(show 3≤sizeLine by decide),fun t6 ht6=>?_⟩
    have m6:aG _ _:=aG.new (o:=HO.lst [.ref t4,.ref t5,.int (b0 none (bN ws (aM net held coming poured doors)))]) ht6
    refine k t6 (.ref t4) (.ref t5) _ (((((((((sA3.trans sm4).trans sm5).trans m1).trans m2).trans m3).trans m4).trans m5)).trans m6) (by rw[show (cF (cD net fo) held coming poured doors).ground=b0 none (bN ws (aM net held coming poured doors)) by rw[← hws];rfl];exact aC) ?_ ?_
    ·have ecm:(cF (cD net fo) held coming poured doors).coming=cN net.vs.length (bN ws (aM net held coming poured doors)):=by
      show cN (eK net.vs fo).length (bN (eK net.vs fo) _)=_
      rw[hws,wl];rfl
     have ehd:(cF (cD net fo) held coming poured doors).held=cE ws (aM net held coming poured doors):=by rw[← hws];rfl
     have edr:(cF (cD net fo) held coming poured doors).doors=bO ws doors (aX 0 ws (aM net held coming poured doors)):=by rw[← hws];rfl
     rw[ecm,ehd,edr]
     exact Is.mono m6.ts _ _ (Is.mono m5.ts _ _ (st_of (bR.of aC) (m4.tup (m3.tup (m2.tup (bR.of aC)))) (m4.tup (m3.tup (bR.of aC))) (m4.tup (bR.of aC))))
    ·refine Is.mono m6.ts _ _ (Is.tupOf (bR.of aC) ?_)
     rw[show (cF (cD net fo) held coming poured doors).tip=aX 0 ws (aM net held coming poured doors) by rw[← hws];rfl]
     have e1:((aX 0 ws (aM net held coming poured doors)).map fun (i:Nat)=>L2.D.int (i:Int))=((aX 0 ws (aM net held coming poured doors)).map fun (i:Nat)=>(i:Int)).map L2.D.int:=by rw[List.map_map];rfl
     have e2:((aX 0 ws (aM net held coming poured doors)).map fun (i:Nat)=>V.int (i:Int))=((aX 0 ws (aM net held coming poured doors)).map fun (i:Nat)=>(i:Int)).map V.int:=by rw[List.map_map];rfl
     rw[e1,e2]
     exact L2.IsL.of_ints _
end
end Tw
namespace L2
open PySem PySem.Spec PyProof.Rows TwZ
section
variable {X:Cx}{K:PySem.W.Frag}
noncomputable def tTru (K:PySem.W.Frag) (ta:TE):TT:=fun σ H Q=>ta σ H fun x H'=>∃ k,TruV K x H' k∧Q k H'
theorem pt_truthK {a:Expr}{ta:TE} (hK:X.K=K) (ha:PE X a ta) (he:∀ whole,isTrue a X.env whole=(do let v ← whole;standAt a.pos;holding [v] (truthy v))):PT X a (tTru K ta):=by subst hK;exact pt_truth ha he
end
end L2
namespace Tw
open PySem L2
theorem sta0_stick (net:Net) (fo:Option Nat):sta0 (cD net fo)=sta0 net:=by
 unfold sta0
 show (⟨bV (eK net.vs fo).length,bV (eK net.vs fo).length,_⟩:Sta)=_
 rw[stickL_len];rfl
theorem zeros_stick (net:Net) (fo:Option Nat):bV (cD net fo).vs.length=bV net.vs.length:=by
 show bV (eK net.vs fo).length=_
 rw[stickL_len]
theorem stok_stick {net:Net}{fo:Option Nat}{h c:List Int}{d:List Bool} (s:StOk (cD net fo) h c d):StOk net h c d:=
 ⟨by have:=s.h;rw[show (cD net fo).vs.length=net.vs.length from stickL_len _ _] at this;exact this,by have:=s.c;rw[show (cD net fo).vs.length=net.vs.length from stickL_len _ _] at this;exact this,s.d⟩
theorem inV_tip (k:Nat):∀ l:List Nat,inV (.int (k:Int)) (l.map fun (i:Nat)=>V.int (i:Int))=decide (k∈l)
 | []=>rfl
 | x::l=>by
  show (eqV (.int (x:Int)) (.int (k:Int)) || inV (.int (k:Int)) (l.map fun (i:Nat)=>V.int (i:Int)))=_
  rw[inV_tip k l]
  show (((x:Int) == (k:Int)) || decide (k∈l))=decide (k∈x::l)
  by_cases h:k=x
  ·subst h;simp
  ·have h1:((x:Int) == (k:Int))=false:=by simp;omega
   have h2:decide (k∈x::l)=decide (k∈l):=by simp [h]
   rw[h1,h2,Bool.false_or]
theorem flat_tip (l:List Nat):(l.map fun (i:Nat)=>V.int (i:Int)).all flatV=true:=by
 rw[List.all_eq_true]
 intro z hz
 obtain⟨i,_,rfl⟩:=List.mem_map.1 hz
 rfl
theorem tip_un {K:PySem.W.Frag}{H:Hp}{l:List Nat}{v:V} (h:Is K H (.tup (l.map fun (i:Nat)=>L2.D.int (i:Int))) v):∃ a,v=.ref a∧bR K H a (l.map fun (i:Nat)=>V.int (i:Int)):=by
 obtain⟨a,xs,rfl,q,l'⟩:=h.un
 have e1:(l.map fun (i:Nat)=>L2.D.int (i:Int))=(l.map fun (i:Nat)=>(i:Int)).map L2.D.int:=by rw[List.map_map];rfl
 rw[e1] at l'
 have:=l'.ints
 subst this
 rw[List.map_map] at q
 exact⟨a,rfl,q⟩
end Tw
namespace Tw
open PySem L2
noncomputable def cI (net:Net) (t:Nat):List Nat:=((bZ net t).tk net).tip
noncomputable def tipLD (l:List Nat):L2.D:=.tup (l.map fun (i:Nat)=>L2.D.int (i:Int))
noncomputable def aR (net:Net) (n k:Nat):List Nat:=(List.range n).filter fun t=>decide (k∈cI net t)
theorem tipsOf_succ (net:Net) (n k:Nat):aR net (n+1) k=aR net n k++(if k∈cI net n then [n] else []):=by
 unfold aR
 rw[List.range_succ,List.filter_append]
 by_cases h:k∈cI net n
 ·simp [h]
 ·simp [h]
theorem tipsOf_len (net:Net) (n k:Nat):(aR net n k).length≤n:=by
 unfold aR
 exact Nat.le_trans (List.length_filter_le _ _) (by simp)
theorem range_map_succ {α:Type} (f:Nat→α) (n:Nat):(List.range (n+1)).map f=(List.range n).map f++[f n]:=by rw[List.range_succ,List.map_append];rfl
noncomputable def eU (l:List Nat):List V:=l.map fun (i:Nat)=>V.int (i:Int)
theorem small1W {n:Nat} (h:n≤10000000):n < sizeLine:=by rw[sizeLine_eq];omega
section
variable {P:Program}{w:World}{K:PySem.W.Frag}{mg:Str→Option Value}{base:Heap}
theorem tickL_of_F {f:Addr}{fd:FuncData}{ps:List Str} (F:FnOk P w K mg base CX0 2 f fd ps (spTickF K)):FnOk P w K mg base CX0 2 f fd ps (spTickL K):=by
 refine F.imp fun vs H Q E h=>?_
 obtain⟨x,y,z,net,held,coming,poured,doors,rfl,h1,h2,h3,h4,h5,h6,k⟩:=h
 refine⟨x,y,z,net,held,coming,poured,doors,none,rfl,h1,h2,h3,h4,by rw[stickN_none];exact h4,h5,h6,fun l p1 p2 H' s e i1 i2=>?_⟩
 rw[stickN_none] at e i1 i2
 exact k l p1 p2 H' s e i1 i2
theorem ok__law_tickLF {f fF:Addr}{fd fdF:FuncData} (F:Fun K "_law_tick" "_law_tick" (bE 29) f fd) (T:Txt mg) (G__law_filled:Callee P w K mg base "_law_filled" ["net","state","poured"] 1 (spFilledL K) fF fdF):FnOk P w K mg base CX0 2 f fd ["net","state","poured","fast"] (spTickL K):=
 tickL_of_F (ok__law_tickF F T G__law_filled)
noncomputable def spWalk (K:PySem.W.Frag):Sp:=fun vs H Q _=>∃ (x:V) (net:Net) (fo:Option Nat) (n:Nat),vs=[x,.int (n:Int),fastV fo]∧Is K H (netD net) x∧NetOk net∧NetOk (cD net fo)∧n≤100000∧
 ∀ l p1 p2 sts tvs H',aG H H'→H' l=some (.lst [.ref p1,.ref p2])→H' p1=some (.lst sts)→IsL K H' ((List.range (n+1)).map fun t=>eA (bZ (cD net fo) t)) sts→H' p2=some (.lst tvs)→
  IsL K H' ((List.range n).map fun t=>tipLD (cI (cD net fo) t)) tvs→H l=none→H p1=none→H p2=none→Q (.ref l) H'
theorem sc__law_walk:FnScope ["net","ticks","fast","states","tips","k","state","tipped","ground"] ["net","ticks","fast"] (aJ (bE 30)):=⟨rfl,rfl,rfl,by decide +kernel,rfl,by decide +kernel,by decide +kernel⟩
theorem ok__law_walk {f f1 f2:Addr}{fd fd1 fd2:FuncData} (F:Fun K "_law_walk" "_law_walk" (bE 30) f fd) (T:Txt mg) (G__law_first:Callee P w K mg base "_law_first" ["net"] 1 (spFirst K) f1 fd1)
  (G__law_tick:Callee P w K mg base "_law_tick" ["net","state","poured","fast"] 2 (spTickF K) f2 fd2):FnOk P w K mg base CX0 3 f fd ["net","ticks","fast"] (spWalk K):=by
 refine F.ok sc__law_walk (fun vs H Q E h=>?_) (fun cdv A outer s H vs Q E hr h=>?_)
 ·obtain⟨x,net,fo,n,rfl,_⟩:=h;rfl
 ·obtain⟨x,net,fo,n,rfl,hx,nok,nok',hn,k⟩:=h
  have sc:=sc__law_walk
  refine⟨_,(aD (aS (i:=3) sc.nd rfl (Or.inl rfl) (cB (aA (dZ G__law_first hr (aA (pv 0) aB)) aB)))
   (aD (aS (i:=4) sc.nd rfl (Or.inl rfl) (cB aB))
   (aD (dL PassesOwn.never rfl (cP rfl T.b_range (aA (pv 1) aB)) (aH (i:=5) sc.nd rfl (Or.inl rfl)) (aD (cX (dZ G__law_tick hr (aA (pv 0) (aA (aT (aK (K:=K) rfl) (pv 3) (pe_un un_neg aE) (fun _ _=>rfl)) (aA (aO (op_repTK (K:=K) rfl) (bA (aA aE aB)) (aP (aY (K:=K) rfl) rfl T.b_len PySem.boot_len (aA (aT (aK (K:=K) rfl) (pv 0) aE (fun _ _=>rfl)) aB))) (aA (pv 2) aB))))) (pg_lstK (K:=K) (n:=3) rfl rfl (aI (aH (i:=6) sc.nd rfl (Or.inl rfl)) (aI (aH (i:=7) sc.nd rfl (Or.inl rfl)) (aI (aH (i:=8) sc.nd rfl (Or.inl rfl)) bK)))))
   (aD (dA (pe_bmK (K:=K) rfl PySem.F.plainAttrs_list PySem.F.slot_list_append PySem.F.type_list_append cQ (pv 3) (aA (pv 6) aB)))
   (aL (dA (pe_bmK (K:=K) rfl PySem.F.plainAttrs_list PySem.F.slot_list_append PySem.F.type_list_append cQ (pv 4) (aA (pv 7) aB)))))))
   (aL (bL (cB (aA (pv 3) (aA (pv 4) aB)))))))),?_⟩
  have n1:=nok.lo
  have n2:=nok.hi
  refine⟨_,rfl,x,net,rfl,hx,nok,fun st H1 s1 hst=>⟨(show 1≤sizeLine by decide),fun sl hsl=>?_⟩⟩
  have s2:=aG.new (o:=HO.lst [st]) hsl
  have e2:upd H1 sl (.lst [st]) sl=some (.lst [st]):=aC
  generalize upd H1 sl (.lst [st])=H2 at s2 e2
  refine⟨Nat.zero_le _,fun tl htl=>?_⟩
  have s3:=aG.new (o:=HO.lst []) htl
  have e3:upd H2 tl (.lst []) tl=some (.lst []):=aC
  have nst:sl≠tl:=aN e2 htl
  have e3s:=s3 _ _ e2
  have s13:aG H1 _:=s2.trans s3
  generalize upd H2 tl (.lst [])=H3 at s3 e3 e3s s13
  have fs:H sl=none:=s1.free hsl
  have ft:H tl=none:=(s1.trans s2).free htl
  refine⟨_,rfl,_,rfl,by omega,by omega,?_⟩
  refine eI (lo:=0) (n:=n) (fun i σ' H'=>aG H H'∧(∃ sts mv,H' sl=some (.lst (sts++[mv]))∧IsL K H' ((List.range i).map fun t=>eA (bZ (cD net fo) t)) sts∧Is K H' (eA (bZ (cD net fo) i)) mv)∧
   (∃ tvs,H' tl=some (.lst tvs)∧IsL K H' ((List.range i).map fun t=>tipLD (cI (cD net fo) t)) tvs)∧
   ∃ v5 v6 v7 v8,σ'=[some x,some (.int (n:Int)),some (fastV fo),some (.ref sl),some (.ref tl),v5,v6,v7,v8]) ?_ ?_ ?_
  ·refine⟨s1.trans s13,⟨[],st,e3s,.nil,?_⟩,⟨[],e3,.nil⟩,_,_,_,_,rfl⟩
   rw[show bZ (cD net fo) 0=sta0 (cD net fo) from rfl,sta0_stick]
   exact Is.mono s13.ts _ _ hst
  ·rintro i σ' H4 hi ⟨s4,⟨sts,mv,hsl4,ls,im⟩,⟨tvs,htl4,lt⟩,v5,v6,v7,v8,rfl⟩
   have lsl:sts.length=i:=by rw[ls.length];simp
   have ltl:tvs.length=i:=by rw[lt.length];simp
   obtain⟨a,b,c,xs,ys,ex,q,q1,l1,q2,l2⟩:=net_un (Is.mono s4.ts _ _ hx)
   have exl:xs.length=net.vs.length:=by rw[l1.length,List.length_map]
   have sok:=stok_stick (sta_ok nok' i)
   refine⟨_,rfl,_,rfl,1,rfl,.inl ⟨sl,_,-1,_,rfl,rfl,bT.of hsl4,atI_last _ _,(show 1≤sizeLine by decide),fun o ho=>?_⟩⟩
   have so:=aG.new (o:=HO.tup [.int 0]) ho
   refine⟨_,rfl,.inr (.inl ⟨a,_,0,_,ex,rfl,so.tup q,rfl,b,xs,rfl,.inr (so.tup q1),o,_,[.int 0],rfl,rfl,bR.of aC,by omega,by omega,by simp,by decide,fun z H6 sm6 qz=>?_⟩)⟩
   have s56:=so.trans sm6
   have en:((xs.length:Nat):Int).toNat=net.vs.length:=by rw[exl];simp
   rw[en,rep0] at qz
   refine⟨_,rfl,x,mv,z,net,_,_,bV net.vs.length,_,fo,rfl,Is.mono (s4.trans s56).ts _ _ hx,Is.mono s56.ts _ _ im,.inl qz,nok,nok',sok,zeros_l _,fun l p1 p2 H7 sm7 hl7 i1 i2=>?_⟩
   refine⟨l,_,rfl,bT.of hl7,rfl,_,_,rfl,_,_,rfl,_,_,rfl,rfl,?_⟩
   have s47:aG H4 H7:=s56.trans sm7
   have hsl7:=s47 _ _ hsl4
   have htl7:=s47 _ _ htl4
   have ls7:=L2.IsL.mono s47.ts _ _ ls
   have im7:=Is.mono s47.ts _ _ im
   have lt7:=L2.IsL.mono s47.ts _ _ lt
   have s07:aG H H7:=s4.trans s47
   rw[show cF (cD net fo) (bZ (cD net fo) i).held (bZ (cD net fo) i).coming (bV net.vs.length) (bZ (cD net fo) i).doors=(bZ (cD net fo) i).tk (cD net fo) from by unfold Sta.tk;rw[zeros_stick]] at i1 i2
   refine⟨_,rfl,.inl ⟨rfl,_,bT.of hsl7⟩,_,rfl,sl,_,_,rfl,rfl,hsl7,small1W (by simp;omega),?_⟩
   have mu7:Mut (H7 sl):=by rw[hsl7];exact trivial
   have ts8:cA K H7 (upd H7 sl (.lst (sts++[mv]++[p1]))):=fC.ts fC.upd mu7
   have htl8:upd H7 sl (.lst (sts++[mv]++[p1])) tl=some (.lst tvs):=by rw[aQ (Ne.symm nst)];exact htl7
   have hsl8:upd H7 sl (.lst (sts++[mv]++[p1])) sl=some (.lst (sts++[mv]++[p1])):=aC
   have s08:aG H (upd H7 sl (.lst (sts++[mv]++[p1]))):=s07.put fs
   generalize upd H7 sl (.lst (sts++[mv]++[p1]))=H8 at ts8 htl8 hsl8 s08
   refine⟨_,rfl,.inl ⟨rfl,_,bT.of htl8⟩,_,rfl,tl,_,_,rfl,rfl,htl8,small1W (by omega),?_⟩
   have mu8:Mut (H8 tl):=by rw[htl8];exact trivial
   have ts9:cA K H8 (upd H8 tl (.lst (tvs++[p2]))):=fC.ts fC.upd mu8
   have ts79:=ts8.trans ts9
   refine⟨s08.put ft,⟨sts++[mv],p1,by rw[aQ nst];exact hsl8,?_,Is.mono ts79 _ _ i1⟩,⟨tvs++[p2],aC,?_⟩,_,_,_,_,rfl⟩
   ·rw[range_map_succ]
    exact L2.IsL.snoc (Is.mono ts79 _ _ im7) (L2.IsL.mono ts79 _ _ ls7)
   ·rw[range_map_succ]
    exact L2.IsL.snoc (Is.mono ts79 _ _ i2) (L2.IsL.mono ts79 _ _ lt7)
  ·rintro σ' H4 ⟨s4,⟨sts,mv,hsl4,ls,im⟩,⟨tvs,htl4,lt⟩,v5,v6,v7,v8,rfl⟩
   refine⟨_,rfl,_,rfl,(show 2≤sizeLine by decide),fun l hl=>?_⟩
   have s5:=aG.new (o:=HO.lst [.ref sl,.ref tl]) hl
   refine k l sl tl (sts++[mv]) tvs _ (s4.trans s5) aC (s5 _ _ hsl4) ?_ (s5 _ _ htl4) (L2.IsL.mono s5.ts _ _ lt) (s4.free hl) fs ft
   rw[range_map_succ]
   exact L2.IsL.snoc (Is.mono s5.ts _ _ im) (L2.IsL.mono s5.ts _ _ ls)
theorem tipLD_at {H:Hp}{net:Net}{n t:Nat}{tvs:List V} (lt:IsL K H ((List.range n).map fun t=>tipLD (cI net t)) tvs) (ht:t < n):∃ a,tvs[t]? = some (.ref a)∧bR K H a (eU (cI net t)):=by
 obtain⟨v,hv,iv⟩:=lt.get (i:=t) (d:=tipLD (cI net t)) (by rw[List.getElem?_map,List.getElem?_range ht];rfl)
 obtain⟨a,rfl,q⟩:=tip_un iv
 exact⟨a,hv,q⟩
end
end Tw
namespace Tw
open PySem L2
noncomputable def eO (f:Nat→Int) (t:Nat):List Int:=(List.range t).map f
theorem eB (f:Nat→Int) (t:Nat):(eO f t).length=t:=by unfold eO;simp
theorem seqI_succ (f:Nat→Int) (t:Nat):eO f (t+1)=eO f t++[f t]:=by unfold eO;rw[List.range_succ,List.map_append];rfl
noncomputable def bW (f:Nat→Int) (a:Nat):Nat→Int
 | 0=>0
 | d+1=>bW f a d+f (a+d)
theorem sum_seqI (f:Nat→Int):∀ t,(eO f t).sum=bW f 0 t
 | 0=>rfl
 | t+1=>by rw[seqI_succ,List.sum_append,sum_seqI f t];simp [bW]
theorem take_seqI (f:Nat→Int) (t n:Nat):(eO f t).take n=eO f (min n t):=by
 unfold eO;rw[← List.map_take,List.take_range]
theorem cM (f:Nat→Int) (a d:Nat):∀ e,bW f a (d+e)=bW f a d+bW f (a+d) e
 | 0=>by simp [bW]
 | e+1=>by
  show bW f a (d+e)+f (a+(d+e))=bW f a d+(bW f (a+d) e+f (a+d+e))
  rw[cM f a d e,show a+(d+e)=a+d+e by omega];omega
theorem fI (f:Nat→Int) {t a r:Nat} (h:a+r≤t):(((eO f t).drop a).take r).sum=bW f a r:=by
 have h1:(((eO f t).take (a+r))).sum=((eO f t).take a).sum+(((eO f t).drop a).take r).sum:=by
  rw[List.take_add,List.sum_append]
 rw[take_seqI,take_seqI,sum_seqI,sum_seqI,Nat.min_eq_left h,Nat.min_eq_left (by omega),cM] at h1
 simp only [Nat.zero_add] at h1
 omega
theorem drop_seqI (f:Nat→Int) {t a:Nat} (h:a≤t):((eO f t).drop a).sum=bW f a (t - a):=by
 rw[← fI f (t:=t) (a:=a) (r:=t - a) (by omega),List.take_of_length_le]
 rw[List.length_drop,eB];exact Nat.le_refl _
noncomputable def sumTo (ns:List Int) (a n:Nat):Int:=((ns.take a).take n).sum+(((n - a) / (ns.length - a):Nat):Int) * (ns.drop a).sum+((ns.drop a).take ((n - a) % (ns.length - a))).sum
noncomputable def by_ (f:Nat→Int) (a l n:Nat):Int:=if n≤a then bW f 0 n else bW f 0 (a+(n - a) % l)+(((n - a) / l:Nat):Int) * bW f a l
theorem sumTo_by (f:Nat→Int) {a t:Nat} (h:a < t) (n:Nat):sumTo (eO f t) a n=by_ f a (t - a) n:=by
 unfold sumTo by_
 rw[eB,drop_seqI f (by omega)]
 have hl:0 < t - a:=by omega
 have hm:=Nat.mod_lt (n - a) hl
 rw[fI f (by omega),take_seqI,take_seqI,sum_seqI]
 by_cases hn:n≤a
 ·rw[if_pos hn,show n - a=0 by omega,Nat.zero_div,Nat.zero_mod,Nat.min_eq_left (by omega:a≤t),Nat.min_eq_left hn]
  simp [bW]
 ·rw[if_neg hn,Nat.min_eq_left (by omega:a≤t),Nat.min_eq_right (by omega:a≤n),cM]
  simp only [Nat.zero_add]
  omega
theorem seen_nat {net:Net}{d:L2.D}{v:V}:∀ t,dY (dJ net t) d=some v→∃ a:Nat,a < t∧v=.int (a:Int)∧eA (bZ net a)=d
 | 0,h=>by cases h
 | t+1,h=>by
  rw[show dJ net (t+1)=putK (dJ net t) (eA (bZ net t)) (.int (t:Int)) from rfl,valV_put] at h
  by_cases e:d=eA (bZ net t)
  ·rw[if_pos e] at h;cases h;exact⟨t,by omega,rfl,e.symm⟩
  ·rw[if_neg e] at h
   obtain⟨a,h1,h2,h3⟩:=seen_nat t h
   exact⟨a,by omega,h2,h3⟩
theorem mapD_inj' {α:Type}{f:α→L2.D} (hf:∀ a b,f a=f b→a=b):∀ {xs ys:List α},xs.map f=ys.map f→xs=ys
 | [],[],_=>rfl
 | [],_::_,h=>by cases h
 | _::_,[],h=>by cases h
 | x::xs,y::ys,h=>by
  rw[List.map_cons,List.map_cons] at h
  injection h with h1 h2
  rw[hf _ _ h1,mapD_inj' hf h2]
theorem staD_inj' {s s':Sta} (h:eA s=eA s'):s=s':=by
 have h':L2.D.tup [.tup (s.held.map L2.D.int),.tup (s.coming.map L2.D.int),.tup (s.doors.map L2.D.bl)]=.tup [.tup (s'.held.map L2.D.int),.tup (s'.coming.map L2.D.int),.tup (s'.doors.map L2.D.bl)]:=h
 injection h' with h'
 injection h' with h1 h'
 injection h' with h2 h'
 injection h' with h3 _
 injection h1 with h1
 injection h2 with h2
 injection h3 with h3
 obtain⟨a,b,c⟩:=s
 obtain⟨a',b',c'⟩:=s'
 have e1:a=a':=mapD_inj' (fun x y e=>by injection e) h1
 have e2:b=b':=mapD_inj' (fun x y e=>by injection e) h2
 have e3:c=c':=mapD_inj' (fun x y e=>by injection e) h3
 rw[e1,e2,e3]
structure Rnd (net:Net) (a t:Nat):Prop where
 lt:a < t
 le:t≤2000
 eq:bZ net a=bZ net t
theorem Rep.rnd {net:Net}{t:Nat}{j:Int} (h:Rep net t j):∃ a:Nat,j=(a:Int)∧Rnd net a t:=by
 obtain⟨h1,h2,_⟩:=h
 obtain⟨a,h3,h4,h5⟩:=seen_nat t h2
 injection h4 with h4
 exact⟨a,h4,h3,h1,staD_inj' h5⟩
theorem Rep.uniq {net:Net}{t t':Nat}{j j':Int} (h:Rep net t j) (h':Rep net t' j'):t=t'∧j=j':=by
 have e:t=t':=by
  rcases Nat.lt_trichotomy t t' with hlt | e | hlt
  ·have:=h'.2.2 t hlt;rw[h.2.1] at this;cases this
  ·exact e
  ·have:=h.2.2 t' hlt;rw[h'.2.1] at this;cases this
 subst e
 have:=h.2.1.symm.trans h'.2.1
 injection this with this
 injection this with this
 exact⟨rfl,this⟩
end Tw
namespace Tw
open PySem L2
theorem cut_lo {α:Type} (f:α→V) (l:List α) (n:Nat):cutV (l.map f) none (some (n:Int))=(l.take n).map f:=by
 unfold cutV
 rw[HT.sIx_none,HT.sIx_nat,List.drop_zero,Nat.sub_zero,List.length_map,← List.map_take]
 congr 1
 rcases Nat.le_total n l.length with h | h
 ·rw[Nat.min_eq_left h]
 ·rw[Nat.min_eq_right h,List.take_of_length_le (Nat.le_refl _),List.take_of_length_le h]
theorem cut_hi {α:Type} (f:α→V) (l:List α) (n:Nat):cutV (l.map f) (some (n:Int)) none=(l.drop n).map f:=by
 unfold cutV
 rw[HT.sIx_none,HT.sIx_nat,List.length_map,← List.map_drop]
 rcases Nat.le_total n l.length with h | h
 ·rw[Nat.min_eq_left h]
  exact List.take_of_length_le (by rw[List.length_map,List.length_drop];exact Nat.le_refl _)
 ·rw[Nat.min_eq_right h,List.drop_of_length_le (Nat.le_refl _),List.drop_of_length_le h];simp
section
variable {P:Program}{w:World}{K:PySem.W.Frag}{mg:Str→Option Value}{base:Heap}{C c_TipError c_NoNet c_NoVessel c_TooLong c_TooMany c_TooMuch c_Nothing c_NoText c_NoRow:Addr}
noncomputable def spSumBy (K:PySem.W.Frag):Sp:=fun vs H Q _=>∃ (l:Addr) (ns:List Int) (a n:Nat),vs=[.ref l,.int (a:Int),.int (n:Int)]∧H l=some (.lst (ns.map V.int))∧a < ns.length∧ns.length≤100000∧-(2 ^ 60)≤(ns.drop a).sum∧(ns.drop a).sum≤2 ^ 60∧
 ∀ H',aG H H'→Q (.int (sumTo ns a n)) H'
theorem sc_sum_by:FnScope ["amounts","ahead","ticks","early","later","rounds","rest"] ["amounts","ahead","ticks"] (aJ (bE 21)):=⟨rfl,rfl,rfl,by decide +kernel,rfl,by decide +kernel,by decide +kernel⟩
theorem ok_sum_by {f:Addr}{fd:FuncData} (F:Fun K "sum_by" "sum_by" (bE 21) f fd) (T:Txt mg):FnOk P w K mg base CX0 1 f fd ["amounts","ahead","ticks"] (spSumBy K):=by
 refine F.ok sc_sum_by (fun vs H Q E h=>?_) (fun cdv A outer s H vs Q E hr h=>?_)
 ·obtain⟨l,ns,a,n,rfl,_⟩:=h;rfl
 ·obtain⟨l,ns,a,n,rfl,hl,ha,hn,b1,b2,k⟩:=h
  have sc:=sc_sum_by
  refine⟨_,(aD (ps_par (i:=3) (j:=4) rfl sc.nd rfl rfl (by decide) rfl rfl (aA (pe_slice (sl_listK (K:=K) rfl) (pv 0) po_none (po_some (pv 1))) (aA (pe_slice (sl_listK (K:=K) rfl) (pv 0) (po_some (pv 1)) po_none) aB)) rfl)
   (aD (cX (aP call_divmod rfl T.b_divmod PyProof.Rows.boot_divmod (aA (aP (call_max2 rfl) rfl T.b_max PyProof.Rows.boot_max (aA aE (aA (aO d7 (pv 2) (pv 1)) aB))) (aA (aP (aY (K:=K) rfl) rfl T.b_len PySem.boot_len (aA (pv 4) aB)) aB))) (bP (K:=K) (n:=2) rfl rfl (aI (aH (i:=5) sc.nd rfl (Or.inl rfl)) (aI (aH (i:=6) sc.nd rfl (Or.inl rfl)) bK))))
   (aL (bL (aO bH (aO bH (aP (cW (K:=K) rfl rfl) rfl T.b_sum PyProof.Rows.boot_sum (aA (pe_slice (sl_listK (K:=K) rfl) (pv 3) po_none (po_some (aP (call_max2 rfl) rfl T.b_max PyProof.Rows.boot_max (aA aE (aA (pv 2) aB))))) aB)) (aO eD (pv 5) (aP (cW (K:=K) rfl rfl) rfl T.b_sum PyProof.Rows.boot_sum (aA (pv 4) aB)))) (aP (cW (K:=K) rfl rfl) rfl T.b_sum PyProof.Rows.boot_sum (aA (pe_slice (sl_listK (K:=K) rfl) (pv 4) po_none (po_some (pv 6))) aB))))))),?_⟩
  refine⟨_,rfl,_,rfl,_,rfl,l,_,rfl,bT.of hl,fun p1 hp1=>?_⟩
  rw[cut_lo]
  have s1:=aG.new (o:=HO.lst ((ns.take a).map V.int)) hp1
  have g1:upd H p1 (.lst ((ns.take a).map V.int)) p1=some (.lst ((ns.take a).map V.int)):=aC
  generalize upd H p1 (.lst ((ns.take a).map V.int))=H1 at s1 g1
  refine⟨_,rfl,_,rfl,_,rfl,l,_,rfl,bT.of (s1 _ _ hl),fun p2 hp2=>⟨_,_,rfl,?_⟩⟩
  rw[cut_hi]
  have s2:=aG.new (o:=HO.lst ((ns.drop a).map V.int)) hp2
  have g2:upd H1 p2 (.lst ((ns.drop a).map V.int)) p2=some (.lst ((ns.drop a).map V.int)):=aC
  have g12:=s2 _ _ g1
  generalize upd H1 p2 (.lst ((ns.drop a).map V.int))=H2 at s2 g2 g12
  have hlen:((ns.drop a).map V.int).length=ns.length - a:=by rw[List.length_map,List.length_drop]
  have hmx:(if ((n:Int) - (a:Int)) > 0 then (n:Int) - (a:Int) else 0)=((n - a:Nat):Int):=by split <;> omega
  refine⟨_,rfl,_,rfl,_,_,rfl,rfl,0,_,rfl,?_⟩
  refine⟨_,rfl,p2,_,rfl,.inl (bT.of g2),_,_,rfl,⟨by rw[hlen];omega,by rw[hlen];omega⟩,fun p3 hp3=>?_⟩
  rw[hmx,hlen]
  have s3:=aG.new (o:=HO.tup [.int (((n - a:Nat):Int) / ((ns.length - a:Nat):Int)),.int (((n - a:Nat):Int) % ((ns.length - a:Nat):Int))]) hp3
  refine⟨p3,_,rfl,bR.of aC,rfl,_,_,rfl,_,_,rfl,rfl,?_⟩
  have g13:=s3 _ _ g12
  have g23:=s3 _ _ g2
  have s03:=(s1.trans s2).trans s3
  generalize upd H2 p3 (.tup [.int (((n - a:Nat):Int) / ((ns.length - a:Nat):Int)),.int (((n - a:Nat):Int) % ((ns.length - a:Nat):Int))])=H3 at s3 g13 g23 s03
  have hmy:(if ((n:Int)) > 0 then (n:Int) else 0)=(n:Int):=by split <;> omega
  refine⟨_,rfl,_,rfl,0,_,rfl,_,rfl,p1,_,rfl,bT.of g13,fun p4 hp4=>?_⟩
  rw[hmy,cut_lo]
  have s4:=aG.new (o:=HO.lst (((ns.take a).take n).map V.int)) hp4
  have g24:=s4 _ _ g23
  refine⟨false,p4,_,rfl,bT.of aC,?_⟩
  have s04:=s03.trans s4
  generalize upd H3 p4 (.lst (((ns.take a).take n).map V.int))=H4 at s4 g24 s04
  refine⟨_,rfl,_,rfl,false,p2,_,rfl,bT.of g24,_,_,rfl,rfl,.inr ⟨by omega,by omega⟩,_,_,rfl,rfl,?_⟩
  have hr2:(((n - a:Nat):Int) % ((ns.length - a:Nat):Int))=(((n - a) % (ns.length - a):Nat):Int):=by omega
  have hr1:(((n - a:Nat):Int) / ((ns.length - a:Nat):Int))=(((n - a) / (ns.length - a):Nat):Int):=by omega
  refine⟨_,rfl,_,rfl,_,rfl,p2,_,rfl,bT.of g24,fun p5 hp5=>?_⟩
  rw[hr2,cut_lo]
  refine⟨false,p5,_,rfl,bT.of aC,_,_,rfl,rfl,?_⟩
  rw[hr1]
  exact k _ (s04.trans (aG.new hp5))
structure Told2 (K:PySem.W.Frag) (H:Hp) (net:Net) (t:Nat) (tl:Addr) (us:List V):Prop where
 hl:H tl=some (.lst us)
 len:us.length=t
 tk:∀ (i:Nat) v,us[i]? = some v→TickP K H ((bZ net i).tk net) v
theorem Told2.same {H H':Hp}{net:Net}{t:Nat}{tl:Addr}{us:List V} (h:Told2 K H net t tl us) (s:aG H H'):Told2 K H' net t tl us:=⟨s _ _ h.hl,h.len,fun i v e=>(h.tk i v e).same s⟩
end
end Tw
namespace Tw
open PySem L2
noncomputable def bF (net:Net) (v i:Nat):Int:=if v∈cI net i then 1 else 0
theorem tipI_01 (net:Net) (v i:Nat):0≤bF net v i∧bF net v i≤1:=by unfold bF;split <;> omega
theorem sumR_tipI (net:Net) (v a:Nat):∀ d:Nat,0≤bW (bF net v) a d∧bW (bF net v) a d≤(d:Int)
 | 0=>by simp [bW]
 | d+1=>by
  have h1:=sumR_tipI net v a d
  have h2:=tipI_01 net v (a+d)
  show 0≤bW (bF net v) a d+bF net v (a+d)∧bW (bF net v) a d+bF net v (a+d)≤((d+1:Nat):Int)
  omega
noncomputable def Per (f:Nat→Int) (a l:Nat):Prop:=∀ i,a≤i→f (i+l)=f i
theorem staN_add' {net:Net}{a b:Nat} (h:bZ net a=bZ net b):∀ d,bZ net (a+d)=bZ net (b+d)
 | 0=>h
 | d+1=>by show (bZ net (a+d)).next net=(bZ net (b+d)).next net;rw[staN_add' h d]
theorem Rnd.sta {net:Net}{a t:Nat} (r:Rnd net a t) {i:Nat} (h:a≤i):bZ net (i+(t - a))=bZ net i:=by
 have:=staN_add' r.eq (i - a)
 have:=r.lt
 rw[show i+(t - a)=t+(i - a) by omega]
 rw[← staN_add' r.eq (i - a),show a+(i - a)=i by omega]
theorem Rnd.tip {net:Net}{a t:Nat} (r:Rnd net a t) (v:Nat):Per (bF net v) a (t - a):=fun i h=>by
 unfold bF cI;rw[r.sta h]
theorem per_mul {f:Nat→Int}{a l:Nat} (p:Per f a l):∀ q i,a≤i→f (i+q * l)=f i
 | 0,i,_=>by rw[Nat.zero_mul,Nat.add_zero]
 | q+1,i,h=>by rw[Nat.succ_mul,← Nat.add_assoc,p _ (by omega),per_mul p q i h]
theorem per_shift {f:Nat→Int}{a l:Nat} (p:Per f a l) (q:Nat) {b:Nat} (hb:a≤b):∀ d,bW f (b+q * l) d=bW f b d
 | 0=>rfl
 | d+1=>by
  show bW f (b+q * l) d+f (b+q * l+d)=bW f b d+f (b+d)
  rw[per_shift p q hb d,show b+q * l+d=b+d+q * l by omega,per_mul p q _ (by omega)]
theorem per_win {f:Nat→Int}{a l:Nat} (p:Per f a l):∀ e,bW f (a+e) l=bW f a l
 | 0=>rfl
 | e+1=>by
  have h1:bW f (a+e) (l+1)=bW f (a+e) l+f (a+e+l):=rfl
  have h2:bW f (a+e) (1+l)=bW f (a+e) 1+bW f (a+e+1) l:=cM f (a+e) 1 l
  have h3:bW f (a+e) 1=f (a+e):=by show 0+f (a+e+0)=_;simp
  rw[Nat.add_comm 1 l,h1,h3,p _ (by omega)] at h2
  rw[← per_win p e,show a+(e+1)=a+e+1 by omega]
  omega
theorem per_rounds {f:Nat→Int}{a l:Nat} (p:Per f a l) {b:Nat} (hb:a≤b):∀ q:Nat,bW f b (q * l)=(q:Int) * bW f a l
 | 0=>by simp [bW]
 | q+1=>by
  rw[Nat.succ_mul,cM,per_rounds p hb q,show b+q * l=a+(b - a+q * l) by omega,per_win p,Int.natCast_add,Int.add_mul]
  simp
theorem by_all {f:Nat→Int}{a l:Nat} (hl:1≤l) (p:Per f a l) (n:Nat):by_ f a l n=bW f 0 n:=by
 unfold by_
 split
 ·rfl
 ·rename_i h
  have e:n=a+((n - a) / l * l+(n - a) % l):=by
   have:=Nat.div_add_mod' (n - a) l
   omega
  have h1:bW f 0 n=bW f 0 a+bW f a ((n - a) / l * l+(n - a) % l):=by
   conv=>lhs;rw[e]
   rw[cM,Nat.zero_add]
  rw[h1,cM f a,per_rounds p (Nat.le_refl _),per_shift p _ (Nat.le_refl _),cM,Nat.zero_add]
  omega
theorem eF (net:Net) (v:Nat):∀ n,bW (bF net v) 0 n=((aR net n v).length:Int)
 | 0=>rfl
 | n+1=>by
  show bW (bF net v) 0 n+bF net v (0+n)=_
  rw[eF net v n,tipsOf_succ,List.length_append,Nat.zero_add]
  unfold bF
  split <;> simp
theorem tips_at {net:Net}{v:Nat}:∀ (n j T:Nat),(aR net n v)[j]? = some T→T < n∧v∈cI net T∧bW (bF net v) 0 T=(j:Int)
 | 0,j,T,h=>by simp [aR] at h
 | n+1,j,T,h=>by
  rw[tipsOf_succ] at h
  rcases Nat.lt_or_ge j (aR net n v).length with hlt | hge
  ·rw[List.getElem?_append_left hlt] at h
   obtain⟨h1,h2,h3⟩:=tips_at n j T h
   exact⟨by omega,h2,h3⟩
  ·rw[List.getElem?_append_right hge] at h
   split at h
   ·rename_i hm
    have hj:=(List.getElem?_eq_some_iff.mp h).1
    simp at hj
    have e:j - (aR net n v).length=0:=by omega
    rw[e] at h
    cases h
    refine⟨by omega,hm,?_⟩
    rw[eF];omega
   ·simp at h
theorem tips_split (net:Net) (v a:Nat):∀ d,aR net (a+d) v=aR net a v++(aR net (a+d) v).filter fun T=>decide (a≤T)
 | 0=>by
  rw[Nat.add_zero]
  have:(aR net a v).filter (fun T=>decide (a≤T))=[]:=by
   rw[List.filter_eq_nil_iff]
   intro T hT
   unfold aR at hT
   have:=(List.mem_filter.1 hT).1
   have:=List.mem_range.1 this
   simp;omega
  rw[this,List.append_nil]
 | d+1=>by
  have ih:=tips_split net v a d
  rw[show a+(d+1)=(a+d)+1 by omega,tipsOf_succ,List.filter_append,← List.append_assoc]
  have:(if v∈cI net (a+d) then [a+d] else []).filter (fun T=>decide (a≤T))=(if v∈cI net (a+d) then [a+d] else []):=by
   split
   ·simp
   ·rfl
  rw[this,← ih]
noncomputable def aW (net:Net) (v a t:Nat):List Nat:=(aR net t v).filter fun T=>decide (a≤T)
noncomputable def eW (net:Net) (v a t num:Nat):Option Nat:=
 if 1≤num∧num≤(aR net t v).length then (aR net t v)[num - 1]?
 else if num < 1∨aW net v a t=[] then none
 else ((aW net v a t)[(num - (aR net t v).length - 1) % (aW net v a t).length]?).map fun T=>T+((num - (aR net t v).length - 1) / (aW net v a t).length+1) * (t - a)
theorem tickN_right {net:Net}{v a t num T:Nat} (r:Rnd net a t) (h:eW net v a t num=some T):1≤num∧v∈cI net T∧bW (bF net v) 0 T=((num - 1:Nat):Int):=by
 have hlt:=r.lt
 unfold eW at h
 split at h
 ·rename_i h1
  obtain⟨_,h3,h4⟩:=tips_at _ _ _ h
  exact⟨h1.1,h3,h4⟩
 ·split at h
  ·cases h
  ·rename_i h1 h2
   have hn:1≤num:=by
    rcases Nat.lt_or_ge num 1 with z | z
    ·exact absurd (Or.inl z) h2
    ·exact z
   have hne:aW net v a t≠[]:=fun z=>h2 (Or.inr z)
   have hL:0 < (aW net v a t).length:=List.length_pos_iff.2 hne
   obtain⟨T0,hT0,rfl⟩:=Option.map_eq_some_iff.mp h
   generalize hm:num - (aR net t v).length - 1=m at *
   have hsp:=tips_split net v a (t - a)
   rw[show a+(t - a)=t by omega] at hsp
   have hsp':aR net t v=aR net a v++aW net v a t:=hsp
   have hmod:=Nat.mod_lt m hL
   have h5:(aR net t v)[(aR net a v).length+m % (aW net v a t).length]? = some T0:=by
    rw[hsp',List.getElem?_append_right (by omega)]
    rw[show (aR net a v).length+m % (aW net v a t).length - (aR net a v).length=m % (aW net v a t).length by omega]
    exact hT0
   obtain⟨h6,h7,h8⟩:=tips_at _ _ _ h5
   have hT0a:a≤T0:=by
    have:=List.mem_of_getElem? hT0
    unfold aW at this
    simpa using (List.mem_filter.1 this).2
   have p:=r.tip v
   have hlen:(aR net t v).length=(aR net a v).length+(aW net v a t).length:=by rw[hsp',List.length_append]
   have hround:bW (bF net v) a (t - a)=((aW net v a t).length:Int):=by
    have e1:=cM (bF net v) 0 a (t - a)
    rw[show a+(t - a)=t by omega,Nat.zero_add,eF,eF,hlen] at e1
    omega
   refine⟨hn,?_,?_⟩
   ·have:=per_mul p (m / (aW net v a t).length+1) T0 hT0a
    unfold bF at this
    rw[if_pos h7] at this
    split at this
    ·assumption
    ·simp at this
   ·rw[cM,Nat.zero_add,h8,per_rounds p hT0a,hround]
    have e:=Nat.div_add_mod' m (aW net v a t).length
    have e2:(((m / (aW net v a t).length+1:Nat):Int) * ((aW net v a t).length:Int))=((m / (aW net v a t).length * (aW net v a t).length+(aW net v a t).length:Nat):Int):=by
     rw[← Int.natCast_mul,Nat.succ_mul]
    rw[e2]
    have:¬ (1≤num∧num≤(aR net t v).length):=h1
    omega
theorem tick_uniq {net:Net}{v T T':Nat} (h:v∈cI net T) (h':v∈cI net T') (e:bW (bF net v) 0 T=bW (bF net v) 0 T'):T=T':=by
 have key:∀ {A B:Nat},A < B→v∈cI net A→bW (bF net v) 0 A < bW (bF net v) 0 B:=by
  intro A B hAB hA
  have e1:=cM (bF net v) 0 A (B - A)
  rw[show A+(B - A)=B by omega,Nat.zero_add] at e1
  have e2:=cM (bF net v) A 1 (B - A - 1)
  rw[show 1+(B - A - 1)=B - A by omega] at e2
  have e3:bW (bF net v) A 1=1:=by show 0+bF net v (A+0)=1;unfold bF;rw[Nat.add_zero,if_pos hA];rfl
  have e4:=sumR_tipI net v (A+1) (B - A - 1)
  omega
 rcases Nat.lt_trichotomy T T' with h1 | h1 | h1
 ·have:=key h1 h;omega
 ·exact h1
 ·have:=key h1 h';omega
end Tw
namespace L2
open PySem PySem.Spec PyProof.Rows TwZ
theorem lc_enum {K:PySem.W.Frag}{g:TG}{tc:TT}{te:TE}{fr:List (Option Nat)}{σ:St}{H1:Hp}{Q:Addr→Hp→Prop}{t:Bool}{a:Addr}{xs:List V} (Pv:Addr→Nat→List V→St→Hp→Prop)
  (hq:∀ D i r σ H,Pv D i r σ H→SqB K H t a xs)
  (h0:∀ D,H1 D=none→Pv D 0 [] (frσ fr σ) (upd H1 D (.lst []))) (hstop:∀ D r σ' H',Pv D xs.length r σ' H'→Q D H')
  (hgo:∀ D i x r σ' H' T,xs[i]? = some x→Pv D i r σ' H'→H' T=none→g (.ref T) σ' (upd H' T (.tup [.int (i:Int),x])) fun σ3 H3=>tc σ3 H3 fun b H4=>
    if b=true then te σ3 H4 fun y H5=>H5 D=some (.lst r)∧r.length < PySem.sizeLine∧Pv D (i+1) (r++[y]) σ3 (upd H5 D (.lst (r++[y])))
    else Pv D (i+1) r σ3 H4):lcRest (Ite K t a) g tc te fr σ H1 Q:=by
 refine lc_gen (n:=xs.length) Pv h0 (fun D r σ' H' p=>⟨⟨xs,hq D _ r σ' H' p,Nat.le_refl _⟩,hstop D r σ' H' p⟩) fun D i r σ' H' hi p=>⟨⟨xs,xs[i],hq D _ r σ' H' p,by simp [hi]⟩,?_⟩
 rintro v H2 ⟨T,x,hT,rfl,e1,rfl⟩
 exact hgo D i x r σ' H' T (e1 xs (hq D _ r σ' H' p)) p hT
end L2
namespace Tw
open PySem L2
noncomputable def optV:Option Nat→V
 | none=>.non
 | some T=>.int (T:Int)
section
variable {P:Program}{w:World}{K:PySem.W.Frag}{mg:Str→Option Value}{base:Heap}{C c_TipError c_NoNet c_NoVessel c_TooLong c_TooMany c_TooMuch c_Nothing c_NoText c_NoRow:Addr}
noncomputable def spTipsByR (K:PySem.W.Frag) (cV cL:Addr):Sp:=fun vs H Q E=>∃ (x:V) (net:Net) (v:Int) (n:Nat),vs=[x,.int v,.int (n:Int)]∧Is K H (netD net) x∧NetOk net∧
 ((¬ (0≤v∧v < net.vs.length)∧E (.ref cV) none H)∨∃ j:Nat,v=(j:Int)∧j < net.vs.length∧
  (∀ (t a:Nat) H',Rep net t (a:Int)→Rnd net a t→aG H H'→Q (.int (by_ (bF net j) a (t - a) n)) H')∧(Long net→∀ H',aG H H'→E (.ref cL) none H'))
theorem sc_tips_by:FnScope ["net","vessel","ticks","ahead","told"] ["net","vessel","ticks"] (aJ (bE 18)):=⟨rfl,rfl,rfl,by decide +kernel,rfl,by decide +kernel,by decide +kernel⟩
theorem ok_tips_byS {f f1 f2 f3:Addr}{fd fd1 fd2 fd3:FuncData} (F:Fun K "tips_by" "tips_by" (bE 18) f fd) (T:Txt mg) (G_need_vessel:CalleeR P w K mg base "need_vessel" ["net","number"] 2 (spNeedR K c_NoVessel) f1 fd1)
  (G_go_round:CalleeR P w K mg base "go_round" ["net"] 5 (spGoP K c_TooLong) f2 fd2) (G_sum_by:Callee P w K mg base "sum_by" ["amounts","ahead","ticks"] 1 (spSumBy K) f3 fd3) :
  FnOk P w K mg base (CXR P w) 6 f fd ["net","vessel","ticks"] (spTipsByR K c_NoVessel c_TooLong):=by
 refine F.okR sc_tips_by (fun vs H Q E h=>?_) (fun cdv A outer s H vs Q E hr h L=>?_)
 ·obtain⟨x,net,v,n,rfl,_⟩:=h;rfl
 ·obtain⟨x,net,v,n,rfl,hx,nok,k⟩:=h
  have sc:=sc_tips_by
  refine⟨_,(aD (dA (eG G_need_vessel.ok (hr.mono (by decide)) rfl G_need_vessel.mg G_need_vessel.kp G_need_vessel.bd .nil (pass_xe L) (aA (pv 0) (aA (pv 1) aB))))
   (aD (cX (eG G_go_round.ok (hr.mono (by decide)) rfl G_go_round.mg G_go_round.kp G_go_round.bd .nil (pass_xe L) (aA (pv 0) aB)) (bP (K:=K) (n:=2) rfl rfl (aI (aH (i:=3) sc.nd rfl (Or.inl rfl)) (aI (aH (i:=4) sc.nd rfl (Or.inl rfl)) bK))))
   (aL (ps_calm fun pn=>(bL (dZ G_sum_by hr (aA (pe_lc (fun _ _ h=>h) rfl (LcOk.mk (N':=["state","tipped","grounded","vessel"]) (fr:=[none,none,none,some 1]) rfl ⟨rfl,trivial⟩ rfl rfl rfl rfl rfl ⟨⟨_,rfl,rfl,rfl,rfl⟩,trivial⟩) (eR (K:=K) rfl (pv 4)) (fun _ _ _=>(bP (K:=K) (n:=3) rfl rfl (aI (aH (i:=0) (show (["state","tipped","grounded","vessel"]:List Str).Nodup by decide +kernel) rfl (Or.inl rfl) (Or.inr rfl)) (aI (aH (i:=1) (show (["state","tipped","grounded","vessel"]:List Str).Nodup by decide +kernel) rfl (Or.inl rfl) (Or.inr rfl)) (aI (aH (i:=2) (show (["state","tipped","grounded","vessel"]:List Str).Nodup by decide +kernel) rfl (Or.inl rfl) (Or.inr rfl)) bK))))) (fun _ _ _=>eS) (fun _ _ _=>(pe_ifExp (bJ (op_inK (K:=K) rfl) (pv 3) (pv 1) (by rfl)) aE aE))) (aA (pv 3) (aA (pv 2) aB))))))))),?_⟩
  refine⟨_,rfl,_,rfl,x,net,v,rfl,hx,?_⟩
  rcases k with ⟨hn,k⟩ | ⟨j,rfl,hj,kR,kL⟩
  ·exact .inr ⟨hn,k⟩
  refine .inl ⟨by omega,by omega,?_⟩
  refine⟨_,rfl,x,net,rfl,hx,nok,fun t ja p tl us H1 hrep s1 qp htl hul tks ftl=>?_,kL⟩
  obtain⟨a,rfl,rnd⟩:=hrep.rnd
  have r1:=rnd.lt
  have r2:=rnd.le
  have hb:=sumR_tipI net j a (t - a)
  have to:Told2 K H1 net t tl us:=⟨htl,hul,tks⟩
  refine⟨p,_,rfl,qp,rfl,_,_,rfl,_,_,rfl,rfl,?_⟩
  refine⟨_,rfl,tl,rfl,⟨_,bT.of htl⟩,lc_list (K:=K) (a:=tl) (xs:=us) (fun D i r σ' H'=>H1 D=none∧aG H1 H'∧H' D=some (.lst r)∧r=(eO (bF net j) i).map V.int∧∃ u1 u2 u3,σ'=[u1,u2,u3,some (.int (j:Int))])
   (fun D i r σ' H' p=>bT.of (p.2.1 _ _ htl)) (fun D hD=>⟨hD,aG.new hD,aC,rfl,none,none,none,rfl⟩) ?_ ?_⟩
  rotate_left
  ·rintro D i y r σ' H4 hy ⟨hD,sm,hDl,rfl,u1,u2,u3,rfl⟩
   have hil:=(List.getElem?_eq_some_iff.mp hy).1
   obtain⟨f0,st0,tp,rfl,qf,is,pl⟩:=(to.same sm).tk i y hy
   refine⟨f0,_,rfl,qf,rfl,_,_,rfl,_,_,rfl,_,_,rfl,rfl,?_⟩
   refine yes_of ?_
   refine⟨_,rfl,_,rfl,tp,_,rfl,.inr pl.sq,rfl,flat_tip _,_,rfl,?_⟩
   rw[if_neg Bool.false_ne_true,inV_tip]
   have hs:(eO (bF net j) (i+1)).map V.int=(eO (bF net j) i).map V.int++[.int (bF net j i)]:=by rw[seqI_succ,List.map_append];rfl
   have hm:∀ b:Bool,b=decide (j∈cI net i)→bF net j i=if b=true then 1 else 0:=fun b hb=>by
    subst hb;unfold bF
    by_cases e:j∈cI net i
    ·rw[if_pos e,if_pos (decide_eq_true e)]
    ·rw[if_neg e,if_neg (by rw[decide_eq_false e];exact Bool.false_ne_true)]
   refine ite2 (fun hT=>?_) (fun hF=>?_)
   ·refine⟨hDl,small1W (by rw[List.length_map,eB];omega),hD,sm.put hD,aC,?_,_,_,_,rfl⟩
    rw[hs,hm true hT.symm];rfl
   ·refine⟨hDl,small1W (by rw[List.length_map,eB];omega),hD,sm.put hD,aC,?_,_,_,_,rfl⟩
    rw[hs,hm false (by have:¬ decide (j∈cI net i)=true:=hF;cases h:decide (j∈cI net i) with | true=>exact absurd h this | false=>rfl)];rfl
  ·rintro D r σ' H4 ⟨hD,sm,hDl,rfl,_⟩
   rw[hul] at hDl
   refine⟨_,rfl,_,rfl,D,_,a,n,rfl,hDl,by rw[eB];exact r1,by rw[eB];omega,by rw[drop_seqI _ (by omega)];omega,by rw[drop_seqI _ (by omega)];omega,fun H7 s7=>?_⟩
   rw[sumTo_by _ r1]
   exact kR t a _ hrep rnd ((s1.trans sm).trans s7)
noncomputable def spTickOfR (K:PySem.W.Frag) (cV cL:Addr):Sp:=fun vs H Q E=>∃ (x:V) (net:Net) (v:Int) (n:Nat),vs=[x,.int v,.int (n:Int)]∧Is K H (netD net) x∧NetOk net∧
 ((¬ (0≤v∧v < net.vs.length)∧E (.ref cV) none H)∨∃ j:Nat,v=(j:Int)∧j < net.vs.length∧
  (∀ (t a:Nat) H',Rep net t (a:Int)→Rnd net a t→aG H H'→Q (optV (eW net j a t n)) H')∧(Long net→∀ H',aG H H'→E (.ref cL) none H'))
theorem sc_tick_of:FnScope ["net","vessel","number","ahead","told","tips","later","rounds","place"] ["net","vessel","number"] (aJ (bE 19)):=⟨rfl,rfl,rfl,by decide +kernel,rfl,by decide +kernel,by decide +kernel⟩
theorem ok_tick_ofS {f f1 f2:Addr}{fd fd1 fd2:FuncData} (F:Fun K "tick_of" "tick_of" (bE 19) f fd) (T:Txt mg) (G_need_vessel:CalleeR P w K mg base "need_vessel" ["net","number"] 2 (spNeedR K c_NoVessel) f1 fd1)
  (G_go_round:CalleeR P w K mg base "go_round" ["net"] 5 (spGoP K c_TooLong) f2 fd2):FnOk P w K mg base (CXR P w) 6 f fd ["net","vessel","number"] (spTickOfR K c_NoVessel c_TooLong):=by
 refine F.okR sc_tick_of (fun vs H Q E h=>?_) (fun cdv A outer s H vs Q E hr h L=>?_)
 ·obtain⟨x,net,v,n,rfl,_⟩:=h;rfl
 ·obtain⟨x,net,v,n,rfl,hx,nok,k⟩:=h
  have sc:=sc_tick_of
  refine⟨_,(aD (dA (eG G_need_vessel.ok (hr.mono (by decide)) rfl G_need_vessel.mg G_need_vessel.kp G_need_vessel.bd .nil (pass_xe L) (aA (pv 0) (aA (pv 1) aB))))
   (aD (cX (eG G_go_round.ok (hr.mono (by decide)) rfl G_go_round.mg G_go_round.kp G_go_round.bd .nil (pass_xe L) (aA (pv 0) aB)) (bP (K:=K) (n:=2) rfl rfl (aI (aH (i:=3) sc.nd rfl (Or.inr rfl)) (aI (aH (i:=4) sc.nd rfl (Or.inl rfl)) bK))))
   (aD (ps_calm fun pn=>(eX (i:=5) sc.nd rfl rfl (fun _ _ h=>h) rfl (LcOk.mk (N':=["tick","state","tipped","grounded","vessel"]) (fr:=[none,none,none,none,some 1]) rfl ⟨rfl,trivial⟩ rfl rfl rfl rfl rfl ⟨⟨_,rfl,rfl,rfl,rfl⟩,trivial⟩) (pi_enumK (K:=K) rfl rfl T.b_enumerate (aA (pv 4) aB)) (fun _ _ _=>(bP (K:=K) (n:=2) rfl rfl (aI (aH (i:=0) (show (["tick","state","tipped","grounded","vessel"]:List Str).Nodup by decide +kernel) rfl (Or.inl rfl) (Or.inr rfl)) (aI (bP (K:=K) (n:=3) rfl rfl (aI (aH (i:=1) (show (["tick","state","tipped","grounded","vessel"]:List Str).Nodup by decide +kernel) rfl (Or.inl rfl) (Or.inr rfl)) (aI (aH (i:=2) (show (["tick","state","tipped","grounded","vessel"]:List Str).Nodup by decide +kernel) rfl (Or.inl rfl) (Or.inr rfl)) (aI (aH (i:=3) (show (["tick","state","tipped","grounded","vessel"]:List Str).Nodup by decide +kernel) rfl (Or.inl rfl) (Or.inr rfl)) bK)))) bK)))) (fun _ _ _=>pif_one (bJ (op_inK (K:=K) rfl) (pv 4) (pv 2) (by rfl))) (fun _ _ _=>(pv 0))))
   (aD (ps_calm fun pn=>(eX (i:=6) sc.nd rfl rfl (fun _ _ h=>h) rfl (LcOk.mk (N':=["tick","ahead"]) (fr:=[none,some 3]) rfl ⟨rfl,trivial⟩ rfl rfl rfl rfl rfl ⟨⟨_,rfl,rfl,rfl,rfl⟩,trivial⟩) (eR (K:=K) rfl (pv 5)) (fun _ _ _=>(aH (i:=0) (show (["tick","ahead"]:List Str).Nodup by decide +kernel) rfl (Or.inl rfl) (Or.inr rfl))) (fun _ _ _=>pif_one (bJ op_ge (pv 0) (pv 1) (bU _))) (fun _ _ _=>(pv 0))))
   (aD (dG (pt_chain op_le op_le aE (pv 2) (aP (aY (K:=K) rfl) rfl T.b_len PySem.boot_len (aA (pv 5) aB))) (aL (bL (aT (aK (K:=K) rfl) (pv 5) (aO d7 (pv 2) aE) (fun _ _=>rfl)))) bY)
   (aD (dG (PW.pt (pw_or (bJ op_lt (pv 2) aE (bU _)) (pw_or1 (pt_not (pt_truthK (K:=K) rfl (pv 6) (fun _=>rfl)))))) (aL (bL dR)) bY)
   (aD (cX (aP call_divmod rfl T.b_divmod PyProof.Rows.boot_divmod (aA (aO d7 (aO d7 (pv 2) (aP (aY (K:=K) rfl) rfl T.b_len PySem.boot_len (aA (pv 5) aB))) aE) (aA (aP (aY (K:=K) rfl) rfl T.b_len PySem.boot_len (aA (pv 6) aB)) aB))) (bP (K:=K) (n:=2) rfl rfl (aI (aH (i:=7) sc.nd rfl (Or.inl rfl)) (aI (aH (i:=8) sc.nd rfl (Or.inl rfl)) bK))))
   (aL (bL (aO bH (aT (aK (K:=K) rfl) (pv 6) (pv 8) (fun _ _=>rfl)) (aO eD (aO bH (pv 7) aE) (aO d7 (aP (aY (K:=K) rfl) rfl T.b_len PySem.boot_len (aA (pv 4) aB)) (pv 3))))))))))))),?_⟩
  refine⟨_,rfl,_,rfl,x,net,v,rfl,hx,?_⟩
  rcases k with ⟨hn,k⟩ | ⟨j,rfl,hj,kR,kL⟩
  ·exact .inr ⟨hn,k⟩
  refine .inl ⟨by omega,by omega,?_⟩
  refine⟨_,rfl,x,net,rfl,hx,nok,fun t ja p tl us H1 hrep s1 qp htl hul tks ftl=>?_,kL⟩
  obtain⟨a,rfl,rnd⟩:=hrep.rnd
  have r1:=rnd.lt
  have r2:=rnd.le
  have to:Told2 K H1 net t tl us:=⟨htl,hul,tks⟩
  refine⟨p,_,rfl,qp,rfl,_,_,rfl,_,_,rfl,rfl,?_⟩
  refine⟨_,rfl,false,tl,rfl,⟨_,bT.of htl⟩,lc_enum (K:=K) (t:=false) (a:=tl) (xs:=us) (fun D i r σ' H'=>H1 D=none∧aG H1 H'∧H' D=some (.lst r)∧r=eU (aR net i j)∧∃ u1 u2 u3 u4,σ'=[u1,u2,u3,u4,some (.int (j:Int))])
   (fun D i r σ' H' p=>bT.of (p.2.1 _ _ htl)) (fun D hD=>⟨hD,aG.new hD,aC,rfl,none,none,none,none,rfl⟩) ?_ ?_⟩
  rotate_left
  ·rintro D i y r σ' H4 Tt hy ⟨hD,sm,hDl,rfl,u1,u2,u3,u4,rfl⟩ hT
   have mT:=aG.new (o:=HO.tup [.int (i:Int),y]) hT
   have smT:=sm.trans mT
   have hil:=(List.getElem?_eq_some_iff.mp hy).1
   obtain⟨f0,st0,tp,rfl,qf,is,pl⟩:=(to.same smT).tk i y hy
   refine⟨Tt,_,rfl,bR.of aC,rfl,_,_,rfl,_,_,rfl,f0,_,rfl,qf,rfl,_,_,rfl,_,_,rfl,_,_,rfl,rfl,rfl,?_⟩
   refine⟨_,rfl,_,rfl,tp,_,rfl,.inr pl.sq,rfl,flat_tip _,_,rfl,?_⟩
   rw[if_neg Bool.false_ne_true,inV_tip]
   have hs:=tipsOf_succ net i j
   have hlen:=tipsOf_len net i j
   refine ite2 (fun hT=>?_) (fun hF=>?_)
   ·rw[if_pos (show j∈cI net i from of_decide_eq_true hT)] at hs
    refine⟨_,rfl,mT _ _ hDl,small1W (by unfold eU;rw[List.length_map];omega),hD,smT.put hD,aC,?_,_,_,_,_,rfl⟩
    rw[hs];unfold eU;rw[List.map_append];rfl
   ·rw[if_neg (show ¬ j∈cI net i from fun e=>hF (decide_eq_true e)),List.append_nil] at hs
    exact⟨hD,smT,mT _ _ hDl,by rw[hs],_,_,_,_,rfl⟩
  rintro D r σ' H4 ⟨hD,s4,hDl,rfl,_⟩
  rw[hul] at hDl
  have tlen:=tipsOf_len net t j
  have natl:∀ l:List Nat,(eU l).length=l.length:=fun l=>by unfold eU;rw[List.length_map]
  have natAt:∀ {l:List Nat}{i:Nat}{x:V},(eU l)[i]? = some x→∃ k:Nat,l[i]? = some k∧x=.int (k:Int):=fun {l i x} h=>by
   unfold eU at h
   rw[List.getElem?_map] at h
   obtain⟨k,hk,rfl⟩:=Option.map_eq_some_iff.mp h
   exact⟨k,hk,rfl⟩
  refine⟨_,rfl,D,rfl,⟨_,bT.of hDl⟩,lc_list (K:=K) (a:=D) (xs:=eU (aR net t j)) (fun D2 i r σ' H'=>H4 D2=none∧aG H4 H'∧H' D2=some (.lst r)∧r=eU (((aR net t j).take i).filter fun T=>decide (a≤T))∧∃ u,σ'=[u,some (.int (a:Int))])
   (fun D2 i r σ' H' p=>bT.of (p.2.1 _ _ hDl)) (fun D2 hD2=>⟨hD2,aG.new hD2,aC,rfl,none,rfl⟩) ?_ ?_⟩
  rotate_left
  ·rintro D2 i y r σ' H5 hy ⟨hD2,sm,hD2l,rfl,u,rfl⟩
   obtain⟨T0,hT0,rfl⟩:=natAt hy
   have hs:((aR net t j).take (i+1)).filter (fun T=>decide (a≤T))=((aR net t j).take i).filter (fun T=>decide (a≤T))++(if a≤T0 then [T0] else []):=by
    rw[aZ hT0,List.filter_append]
    by_cases e:a≤T0
    ·simp [e]
    ·simp [e]
   have hfl:(((aR net t j).take i).filter fun T=>decide (a≤T)).length≤t:=Nat.le_trans (List.length_filter_le _ _) (by rw[List.length_take];omega)
   refine⟨_,rfl,_,rfl,_,_,rfl,rfl,_,rfl,?_⟩
   refine ite2 (fun hT=>?_) (fun hF=>?_)
   ·have e:a≤T0:=by have:=of_decide_eq_true hT;omega
    rw[if_pos e] at hs
    refine⟨_,rfl,hD2l,small1W (by rw[natl];omega),hD2,sm.put hD2,aC,?_,_,rfl⟩
    rw[hs];unfold eU;rw[List.map_append];rfl
   ·have e:¬ a≤T0:=fun e=>hF (decide_eq_true (by omega))
    rw[if_neg e,List.append_nil] at hs
    exact⟨hD2,sm,hD2l,by rw[hs],_,rfl⟩
  rintro D2 r σ' H5 ⟨hD2,s5,hD2l,rfl,_⟩
  rw[natl,List.take_length] at hD2l
  have hD2l':H5 D2=some (.lst (eU (aW net j a t))):=hD2l
  have hDl5:=s5 _ _ hDl
  have s15:=(s1.trans s4).trans s5
  have htl5:=(s4.trans s5) _ _ htl
  have hfin:=fun H' s=>kR t a H' hrep rnd s
  refine⟨_,rfl,_,_,rfl,rfl,_,rfl,?_⟩
  have nx:¬ (1≤n∧n≤(aR net t j).length)→tSeq (tIfS (tOr (tTest (tOp (rI0 fun i j=>V.bl (decide (i < j))) (cS 2) (tC (V.int 1)))) (tNot (tTru K (cS 6)))) (tRet (tC V.non)) tNext)
    (tSeq (tAsg (tCB (fun xs H Q=>∃ i j,xs=[.int i,.int j]∧CDiv i j∧∀ p,H p=none→Q (.ref p) (upd H p (.tup [.int (i / j),.int (i % j)]))) (dF (tOp (rI0 fun i j=>V.int (i - j)) (tOp (rI0 fun i j=>V.int (i - j)) (cS 2) (tCB (rLen K) (dF (cS 5) tNil))) (tC (V.int 1))) (dF (tCB (rLen K) (dF (cS 6) tNil)) tNil))) (gTup K 2 (gCons (gName 7) (gCons (gName 8) gNil))))
     (tRet (tOp (rI0 fun i j=>V.int (i+j)) (tOp (rIx K) (cS 6) (cS 8)) (tOp (rI CMul fun i j=>V.int (i * j)) (tOp (rI0 fun i j=>V.int (i+j)) (cS 7) (tC (V.int 1))) (tOp (rI0 fun i j=>V.int (i - j)) (tCB (rLen K) (dF (cS 4) tNil)) (cS 3)))))) { nx:=fun _ H'=>Q .non H',rt:=Q } [some x,some (.int (j:Int)),some (.int (n:Int)),some (.int (a:Int)),some (.ref tl),some (.ref D),some (.ref D2),none,none] H5:=by
   intro hno
   have hval:eW net j a t n=if n < 1∨aW net j a t=[] then none else ((aW net j a t)[(n - (aR net t j).length - 1) % (aW net j a t).length]?).map fun T=>T+((n - (aR net t j).length - 1) / (aW net j a t).length+1) * (t - a):=by
    unfold eW;rw[if_neg hno]
   refine⟨_,rfl,_,_,rfl,rfl,_,rfl,?_⟩
   refine ite2 (fun hlt=>iteT ?_) (fun hge=>?_)
   ·have:n < 1:=by have:=of_decide_eq_true hlt;omega
    have h:=hfin H5 s15
    rw[hval,if_pos (.inl this)] at h
    exact h
   have hn1:1≤n:=by
    rcases Nat.lt_or_ge n 1 with z | z
    ·exact absurd (decide_eq_true (show (n:Int) < 1 by omega)) hge
    ·exact z
   refine⟨_,rfl,_,.inl ⟨_,bT.of hD2l',rfl⟩,?_⟩
   have hem:(eU (aW net j a t)).isEmpty=(aW net j a t).isEmpty:=by unfold eU;cases aW net j a t <;> rfl
   rw[hem]
   cases hl:aW net j a t with
   | nil=>
    refine (show (if (!(!true))=true then _ else _) from ?_)
    rw[if_pos (show (!(!true))=true from rfl)]
    have h:=hfin H5 s15
    rw[hval,if_pos (.inr hl)] at h
    exact h
   | cons z zs=>
    refine (show (if (!(!false))=true then _ else _) from ?_)
    rw[if_neg (show ¬ (!(!false))=true by decide)]
    have hL:0 < (aW net j a t).length:=by rw[hl];simp
    have hLt:(aW net j a t).length≤t:=Nat.le_trans (List.length_filter_le _ _) tlen
    have hgt:(aR net t j).length < n:=by
     rcases Nat.lt_or_ge (aR net t j).length n with h | h
     ·exact h
     ·exact absurd ⟨hn1,h⟩ hno
    refine⟨_,rfl,_,rfl,D,_,rfl,.inl (bT.of hDl5),_,_,rfl,rfl,_,_,rfl,rfl,_,rfl,D2,_,rfl,.inl (bT.of hD2l'),_,_,rfl,⟨by rw[natl];omega,by rw[natl];omega⟩,fun p3 hp3=>?_⟩
    rw[natl,natl]
    have eM:((n:Int) - ((aR net t j).length:Int) - 1)=((n - (aR net t j).length - 1:Nat):Int):=by omega
    dsimp only
    rw[eM]
    generalize hm:n - (aR net t j).length - 1=m at *
    have e1:(m:Int) / ((aW net j a t).length:Int)=((m / (aW net j a t).length:Nat):Int):=by omega
    have e2:(m:Int) % ((aW net j a t).length:Int)=((m % (aW net j a t).length:Nat):Int):=by omega
    rw[e1,e2]
    have s6:=aG.new (o:=HO.tup [.int ((m / (aW net j a t).length:Nat):Int),.int ((m % (aW net j a t).length:Nat):Int)]) hp3
    refine⟨p3,_,rfl,bR.of aC,rfl,_,_,rfl,_,_,rfl,rfl,?_⟩
    have hD2l6:=s6 _ _ hD2l'
    have htl6:=s6 _ _ htl5
    have s16:=s15.trans s6
    generalize upd H5 p3 (.tup [.int ((m / (aW net j a t).length:Nat):Int),.int ((m % (aW net j a t).length:Nat):Int)])=H6 at s6 hD2l6 htl6 s16
    have hmod:=Nat.mod_lt m hL
    have hT0:(aW net j a t)[m % (aW net j a t).length]? = some (aW net j a t)[m % (aW net j a t).length]:=by simp [hmod]
    generalize (aW net j a t)[m % (aW net j a t).length]=T0 at hT0
    refine⟨_,rfl,_,rfl,.inl ⟨D2,_,_,.int (T0:Int),rfl,rfl,bT.of hD2l6,cT (by unfold eU;rw[List.getElem?_map,hT0];rfl),?_⟩⟩
    refine⟨_,rfl,_,_,rfl,rfl,_,rfl,tl,_,rfl,.inl (bT.of htl6),_,rfl,_,_,rfl,rfl,_,_,rfl,rfl,.inr ⟨by show _≤((us.length:Nat):Int) - (a:Int);rw[hul];omega,by show ((us.length:Nat):Int) - (a:Int) < _;rw[hul];omega⟩,_,_,rfl,rfl,?_⟩
    have h:=hfin H6 s16
    rw[hval,if_neg (by rintro (z | z);omega;exact absurd z (by rw[hl];simp)),hT0] at h
    have ev:(T0:Int)+(((m / (aW net j a t).length:Nat):Int)+1) * (((us.length:Nat):Int) - (a:Int))=((T0+(m / (aW net j a t).length+1) * (t - a):Nat):Int):=by
     rw[hul,show ((t:Int) - (a:Int))=((t - a:Nat):Int) by omega,Int.natCast_add,Int.natCast_mul,Int.natCast_add];rfl
    dsimp only
    rw[ev]
    exact h
  refine ite2 (fun h1=>?_) (fun h1=>?_)
  ·have hn1:1≤n:=by have:=of_decide_eq_true h1;omega
   refine⟨_,rfl,D,_,rfl,.inl (bT.of hDl5),_,_,rfl,rfl,_,rfl,?_⟩
   rw[natl]
   refine ite2 (fun h2=>?_) (fun h2=>?_)
   ·have hn2:n≤(aR net t j).length:=by have:=of_decide_eq_true h2;omega
    have hT:(aR net t j)[n - 1]? = some (aR net t j)[n - 1]:=by simp [show n - 1 < (aR net t j).length by omega]
    refine⟨_,rfl,_,rfl,_,_,rfl,rfl,.inl ⟨D,_,_,.int ((aR net t j)[n - 1]:Int),rfl,rfl,bT.of hDl5,?_,?_⟩⟩
    ·rw[show ((n:Int) - 1)=((n - 1:Nat):Int) by omega]
     exact cT (by unfold eU;rw[List.getElem?_map,hT];rfl)
    ·have h:=hfin H5 s15
     unfold eW at h
     rw[if_pos ⟨hn1,hn2⟩,hT] at h
     exact h
   ·exact nx fun z=>h2 (decide_eq_true (by omega))
  ·refine⟨_,rfl,iteF ?_⟩
   exact nx fun z=>h1 (decide_eq_true (by omega))
end
end Tw
namespace Tw
open PySem L2
theorem div_up {p:Nat} (hp:1≤p) (m:Nat):(m+1) / p=m / p+(if p ∣ m+1 then 1 else 0):=by
 have e:=Nat.div_add_mod m p
 have l:=Nat.mod_lt m hp
 generalize m / p=q at *
 generalize m % p=r at *
 subst e
 by_cases h:r+1=p
 ·have e2:p * q+r+1=p * (q+1):=by rw[Nat.mul_succ];omega
  rw[e2,Nat.mul_div_cancel_left _ hp,if_pos (Nat.dvd_mul_right _ _)]
 ·have e2:(p * q+r+1) / p=q:=by
   rw[Nat.add_assoc,Nat.mul_add_div hp,Nat.div_eq_of_lt (by omega)];rfl
  have e3:¬ p ∣ p * q+r+1:=fun d=>by
   have h1:=(Nat.dvd_add_right (Nat.dvd_mul_right p q)).1 (by rw[← Nat.add_assoc];exact d)
   have:=Nat.le_of_dvd (by omega) h1
   omega
  rw[e2,if_neg e3,Nat.add_zero]
theorem mod_up {s:Nat} (hs:1≤s) (q:Nat):(q+1) % s=if q % s+1=s then 0 else q % s+1:=by
 have e:=Nat.div_add_mod q s
 have l:=Nat.mod_lt q hs
 generalize q / s=a at *
 generalize q % s=b at *
 subst e
 by_cases h:b+1=s
 ·rw[if_pos h,show s * a+b+1=s * (a+1) by rw[Nat.mul_succ];omega,Nat.mul_mod_right]
 ·rw[if_neg h,Nat.add_assoc,Nat.mul_add_mod,Nat.mod_eq_of_lt (by omega)]
noncomputable def hasC (i k p s:Nat):Nat:=if i+1 - k=0 then 0 else ((i - k) / p) % s+(if p ∣ i+1 - k then 1 else 0)
noncomputable def tipK9 (i k p s:Nat):Prop:=0 < i+1 - k∧p * s ∣ i+1 - k
theorem hasC_le {i k p s:Nat} (hs:1≤s):hasC i k p s≤s:=by
 have:=Nat.mod_lt ((i - k) / p) hs
 unfold hasC
 split
 ·omega
 ·split <;> omega
theorem hasC_all {i k p s:Nat} (hp:1≤p) (hs:1≤s):(hasC i k p s=s↔tipK9 i k p s)∧(if hasC i k p s=s then 0 else hasC i k p s)=((i+1 - k) / p) % s:=by
 unfold hasC tipK9
 rcases Nat.eq_zero_or_pos (i+1 - k) with e | e
 ·rw[if_pos e,e,if_neg (by omega),Nat.zero_div,Nat.zero_mod]
  exact⟨⟨fun z=>by omega,fun z=>by omega⟩,rfl⟩
 ·obtain⟨m,hm⟩:∃ m,i+1 - k=m+1:=⟨i+1 - k - 1,by omega⟩
  rw[if_neg (by omega),hm,show i - k=m by omega,div_up hp m]
  have hlt:=Nat.mod_lt (m / p) hs
  by_cases d:p ∣ m+1
  ·rw[if_pos d]
   have hu:=mod_up hs (m / p)
   have key:(m / p % s+1=s↔0 < m+1∧p * s ∣ m+1):=by
    obtain⟨c,hc⟩:=d
    have ec:(m+1) / p=c:=by rw[hc,Nat.mul_div_cancel_left _ hp]
    have h2:=div_up hp m
    rw[if_pos ⟨c,hc⟩,ec] at h2
    rw[← h2] at hu
    constructor
    ·intro z
     rw[if_pos z] at hu
     refine⟨Nat.succ_pos _,?_⟩
     rw[hc]
     exact Nat.mul_dvd_mul_left p (Nat.dvd_of_mod_eq_zero hu)
    ·rintro⟨_,z⟩
     rw[hc] at z
     have z2:s ∣ c:=Nat.dvd_of_mul_dvd_mul_left hp z
     have z3:=Nat.mod_eq_zero_of_dvd z2
     rw[z3] at hu
     by_cases h5:m / p % s+1=s
     ·exact h5
     ·rw[if_neg h5] at hu;omega
   refine⟨key,?_⟩
   rw[hu]
  ·rw[if_neg d,Nat.add_zero,Nat.add_zero]
   refine⟨⟨fun z=>by omega,fun z=>absurd (Nat.dvd_trans (Nat.dvd_mul_right p s) z.2) d⟩,?_⟩
   rw[if_neg (by omega),Nat.add_zero]
noncomputable def oneOn (t:Option Int) (s:Nat):List (Option Int×Int):=if 1 < s then [(t,1),(none,(s:Int) - 1)] else [(t,1)]
noncomputable def tgtC (n k:Nat):Option Int:=if k+1 < n then some ((k+1:Nat):Int) else none
noncomputable def ctrV (n k s:Nat):Vs:=⟨(s:Int),(s:Int),oneOn (tgtC n k) s,false,none,[]⟩
noncomputable def ctrL (n:Nat):Nat→List Nat→List Vs
 | _,[]=>[]
 | k,s::r=>ctrV n k s::ctrL n (k+1) r
noncomputable def bQ (S:List Nat):Net:=⟨ctrL S.length 0 S,[(0,1,true)]⟩
noncomputable def pAt (p:Nat):List Nat→Nat→Nat
 | _,0=>p
 | [],_+1=>p
 | s::r,j+1=>pAt (p * s) r j
theorem pAt_0 (p:Nat) (r:List Nat):pAt p r 0=p:=by cases r <;> rfl
theorem pAt_pos:∀ (r:List Nat) (p j:Nat),1≤p→(∀ s∈r,1≤s)→1≤pAt p r j
 | r,p,0,hp,_=>by rw[pAt_0];exact hp
 | [],p,j+1,hp,_=>hp
 | x::r,p,j+1,hp,h=>by
  show 1≤pAt (p * x) r j
  exact pAt_pos r _ j (Nat.mul_pos hp (h x List.mem_cons_self)) fun s hs=>h s (List.mem_cons_of_mem _ hs)
theorem ctrL_len (n:Nat):∀ (r:List Nat) (k:Nat),(ctrL n k r).length=r.length
 | [],_=>rfl
 | s::r,k=>by show (ctrL n (k+1) r).length+1=r.length+1;rw[ctrL_len n r]
theorem ctrL_get (n:Nat):∀ (r:List Nat) (k j:Nat) (v:Vs),(ctrL n k r)[j]? = some v→∃ s,r[j]? = some s∧v=ctrV n (k+j) s
 | [],_,_,_,h=>by cases h
 | s::r,k,0,v,h=>by cases h;exact⟨s,rfl,rfl⟩
 | s::r,k,j+1,v,h=>by
  obtain⟨s',h1,h2⟩:=ctrL_get n r (k+1) j v h
  exact⟨s',h1,by rw[h2,show k+1+j=k+(j+1) by omega]⟩
theorem whole_one (t:Option Int) {s:Nat} (hs:1≤s):whole (oneOn t s)=(s:Int):=by
 unfold oneOn whole
 split
 ·simp;omega
 ·simp;omega
theorem v_here {n k s h:Nat} (hh:h≤s):bI (ctrV n k s) (h:Int)=(h:Int):=by
 show min (h:Int) (s:Int)=_
 omega
theorem v_tips {n k s h:Nat} (hh:h≤s):dS (ctrV n k s) (h:Int)=decide (h=s):=by
 unfold dS
 rw[v_here hh]
 show decide ((s:Int)≤(h:Int))=_
 by_cases e:h=s
 ·rw[decide_eq_true e,decide_eq_true (by omega)]
 ·rw[decide_eq_false e,decide_eq_false (by omega)]
theorem v_stay {n k s h:Nat} (hh:h≤s):d9 (ctrV n k s) (h:Int)=((if h=s then 0 else h:Nat):Int):=by
 unfold d9
 rw[v_tips hh,v_here hh]
 by_cases e:h=s
 ·rw[decide_eq_true e,if_pos rfl,if_pos e];rfl
 ·rw[decide_eq_false e,if_neg (by simp),if_neg e]
theorem v_goes {n k s h:Nat} (hs:1≤s) (hh:h≤s) (t:Int):b0 (some t) (cR (ctrV n k s) (h:Int))=if h=s∧tgtC n k=some t then 1 else 0:=by
 unfold cR
 rw[v_tips hh,v_here hh]
 by_cases e:h=s
 ·subst e
  rw[decide_eq_true rfl,if_pos rfl]
  have e1:(h:Int) / whole (oneOn (tgtC n k) h)=1:=by rw[whole_one _ hs];exact Int.ediv_self (by omega)
  have e3:eN (ctrV n k h) (h:Int)=(oneOn (tgtC n k) h).map fun o=>(o.1,o.2):=by
   show (oneOn (tgtC n k) h).map (fun o=>(o.1,(h:Int) / whole (oneOn (tgtC n k) h) * o.2))=_
   rw[e1]
   simp
  rw[e3]
  show (if (none:Option Int)=some t then _ else (0:Int))+b0 (some t) (_++(if false=true then [] else [(none,_)]))=_
  rw[if_neg (by simp),if_neg (by simp),cK]
  unfold oneOn
  split
  ·by_cases g:tgtC n k=some t <;> simp [b0,g]
  ·by_cases g:tgtC n k=some t <;> simp [b0,g]
 ·rw[decide_eq_false e,if_neg (by simp),if_neg (fun z=>e z.1)]
  show (if (none:Option Int)=some t then _ else (0:Int))+0=0
  rw[if_neg (by simp)];rfl
noncomputable def mkC (f:Nat→Nat→Nat→Nat):Nat→Nat→List Nat→List Int
 | _,_,[]=>[]
 | k,p,s::r=>(f k p s:Int)::mkC f (k+1) (p * s) r
noncomputable def dO (i k p s:Nat):Nat:=((i - k) / p) % s
noncomputable def comC (i k p s:Nat):Nat:=if 1≤k∧0 < i+1 - k∧p ∣ i+1 - k then 1 else 0
theorem mkC_stays (n i:Nat):∀ (r:List Nat) (k p:Nat),1≤p→(∀ s∈r,1≤s)→cE (ctrL n k r) (mkC (hasC i) k p r)=mkC (dO (i+1)) k p r
 | [],_,_,_,_=>rfl
 | s::r,k,p,hp,h=>by
  have hs:=h s List.mem_cons_self
  show d9 (ctrV n k s) (hasC i k p s:Int)::cE _ _=_::_
  rw[v_stay (hasC_le hs),(hasC_all hp hs).2,mkC_stays n i r (k+1) (p * s) (Nat.mul_pos hp hs) fun s hs=>h s (List.mem_cons_of_mem _ hs)]
  rfl
theorem mkC_tips (n i:Nat):∀ (r:List Nat) (k p:Nat),1≤p→(∀ s∈r,1≤s)→∀ m,m∈aX k (ctrL n k r) (mkC (hasC i) k p r)↔∃ j,j < r.length∧m=k+j∧0 < i+1 - m∧pAt p r (j+1) ∣ i+1 - m
 | [],_,_,_,_,m=>by
  constructor
  ·intro z;exact absurd z (by show ¬ m∈([]:List Nat);simp)
  ·rintro⟨j,hj,_⟩;exact absurd hj (Nat.not_lt_zero _)
 | s::r,k,p,hp,h,m=>by
  have hs:=h s List.mem_cons_self
  have ih:=mkC_tips n i r (k+1) (p * s) (Nat.mul_pos hp hs) (fun s hs=>h s (List.mem_cons_of_mem _ hs)) m
  have hd:=(hasC_all (i:=i) (k:=k) hp hs).1
  show m∈(if dS (ctrV n k s) (hasC i k p s:Int)=true then k::aX (k+1) (ctrL n (k+1) r) (mkC (hasC i) (k+1) (p * s) r) else aX (k+1) (ctrL n (k+1) r) (mkC (hasC i) (k+1) (p * s) r))↔_
  rw[v_tips (hasC_le hs)]
  have tail:(∃ j,j < r.length∧m=k+1+j∧0 < i+1 - m∧pAt (p * s) r (j+1) ∣ i+1 - m)↔∃ j,0 < j∧j < (s::r).length∧m=k+j∧0 < i+1 - m∧pAt p (s::r) (j+1) ∣ i+1 - m:=by
   constructor
   ·rintro⟨j,h1,h2,h3,h4⟩
    exact⟨j+1,Nat.succ_pos _,by rw[List.length_cons];omega,by omega,h3,h4⟩
   ·rintro⟨j,h0,h1,h2,h3,h4⟩
    obtain⟨j,rfl⟩:∃ j',j=j'+1:=⟨j - 1,by omega⟩
    rw[List.length_cons] at h1
    exact⟨j,by omega,by omega,h3,h4⟩
  have p1:pAt p (s::r) 1=p * s:=by show pAt (p * s) r 0=_;rw[pAt_0]
  by_cases e:hasC i k p s=s
  ·rw[decide_eq_true e,if_pos rfl,List.mem_cons,ih,tail]
   have td:=hd.1 e
   constructor
   ·rintro (z | ⟨j,_,z⟩)
    ·subst z
     exact⟨0,by rw[List.length_cons];omega,rfl,td.1,by rw[p1];exact td.2⟩
    ·exact⟨j,z⟩
   ·rintro⟨j,z⟩
    rcases Nat.eq_zero_or_pos j with e0 | e0
    ·subst e0;exact .inl z.2.1
    ·exact .inr ⟨j,e0,z⟩
  ·rw[decide_eq_false e,if_neg (by simp),ih,tail]
   constructor
   ·rintro⟨j,_,z⟩;exact⟨j,z⟩
   ·rintro⟨j,z⟩
    rcases Nat.eq_zero_or_pos j with e0 | e0
    ·subst e0
     obtain⟨_,z2,z3,z4⟩:=z
     rw[Nat.add_zero] at z2
     subst z2
     rw[p1] at z4
     exact absurd (hd.2 ⟨z3,z4⟩) e
    ·exact⟨j,e0,z⟩
theorem mkC_goes (n i:Nat):∀ (r:List Nat) (k p:Nat),1≤p→(∀ s∈r,1≤s)→n=k+r.length→∀ t:Nat,t < n→b0 (some (t:Int)) (bN (ctrL n k r) (mkC (hasC i) k p r))=if k < t∧0 < i+2 - t∧pAt p r (t - k) ∣ i+2 - t then 1 else 0
 | [],k,p,_,_,hn,t,ht=>by
  rw[if_neg (fun z=>by have:=z.1;rw[hn,List.length_nil] at ht;omega)]
  rfl
 | s::r,k,p,hp,h,hn,t,ht=>by
  have hs:=h s List.mem_cons_self
  rw[List.length_cons] at hn
  have ih:=mkC_goes n i r (k+1) (p * s) (Nat.mul_pos hp hs) (fun s hs=>h s (List.mem_cons_of_mem _ hs)) (by omega) t ht
  have hd:=(hasC_all (i:=i) (k:=k) hp hs).1
  show b0 (some (t:Int)) (cR (ctrV n k s) (hasC i k p s:Int)++bN (ctrL n (k+1) r) (mkC (hasC i) (k+1) (p * s) r))=_
  rw[cK,v_goes hs (hasC_le hs),ih]
  by_cases e:t=k+1
  ·subst e
   rw[if_neg (c:=k+1 < k+1∧_) (fun z=>by omega),Int.add_zero]
   have e1:tgtC n k=some ((k+1:Nat):Int):=by unfold tgtC;rw[if_pos ht]
   have e2:pAt p (s::r) (k+1 - k)=p * s:=by rw[show k+1 - k=0+1 by omega];show pAt (p * s) r 0=_;rw[pAt_0]
   rw[e2,show i+2 - (k+1)=i+1 - k by omega]
   by_cases c:hasC i k p s=s
   ·rw[if_pos ⟨c,e1⟩,if_pos ⟨by omega,(hd.1 c).1,(hd.1 c).2⟩]
   ·rw[if_neg (fun z=>c z.1),if_neg (fun z=>c (hd.2 z.2))]
  ·have e1:tgtC n k≠some (t:Int):=by
    unfold tgtC
    split
    ·intro z;injection z with z;omega
    ·intro z;cases z
   rw[if_neg (fun z=>e1 z.2),Int.zero_add]
   by_cases c:k < t
   ·rw[show t - k=(t - (k+1))+1 by omega]
    show (if k+1 < t∧0 < i+2 - t∧pAt (p * s) r (t - (k+1)) ∣ i+2 - t then (1:Int) else 0)=if k < t∧0 < i+2 - t∧pAt (p * s) r (t - (k+1)) ∣ i+2 - t then 1 else 0
    by_cases b:0 < i+2 - t∧pAt (p * s) r (t - (k+1)) ∣ i+2 - t
    ·rw[if_pos ⟨by omega,b⟩,if_pos ⟨c,b⟩]
    ·rw[if_neg (fun z=>b z.2),if_neg (fun z=>b z.2)]
   ·rw[if_neg (fun z=>by omega),if_neg (fun z=>by omega)]
theorem mkC_range (f:Nat→Nat→Nat→Nat) (g:Nat→Nat→Nat) (hf:∀ k p s,f k p s=g k p):∀ (r:List Nat) (k p:Nat),mkC f k p r=(List.range r.length).map fun j=>((g (k+j) (pAt p r j):Nat):Int)
 | [],_,_=>rfl
 | s::r,k,p=>by
  show (f k p s:Int)::mkC f (k+1) (p * s) r=_
  rw[mkC_range f g hf r,List.length_cons,List.range_succ_eq_map,List.map_cons,List.map_map,hf]
  congr 1
  apply List.map_congr_left
  intro j _
  show ((g (k+1+j) (pAt (p * s) r j):Nat):Int)=((g (k+(j+1)) (pAt (p * s) r j):Nat):Int)
  rw[show k+1+j=k+(j+1) by omega]
theorem mkC_add (i:Nat):∀ (r:List Nat) (k p:Nat),1≤k→add3 (mkC (dO i) k p r) (mkC (comC i) k p r) (bV r.length)=mkC (hasC i) k p r
 | [],_,_,_=>rfl
 | s::r,k,p,hk=>by
  show ((dO i k p s:Int)+(comC i k p s:Int)+0)::add3 (mkC (dO i) (k+1) (p * s) r) (mkC (comC i) (k+1) (p * s) r) (bV r.length)=(hasC i k p s:Int)::mkC (hasC i) (k+1) (p * s) r
  rw[mkC_add i r (k+1) (p * s) (by omega)]
  congr 1
  unfold dO comC hasC
  by_cases e:i+1 - k=0
  ·rw[if_pos e,if_neg (fun z=>by omega),show i - k=0 by omega,Nat.zero_div,Nat.zero_mod];rfl
  ·rw[if_neg e]
   by_cases d:p ∣ i+1 - k
   ·rw[if_pos ⟨hk,by omega,d⟩,if_pos d];omega
   ·rw[if_neg (fun z=>d z.2.2),if_neg d];omega
theorem mkC_zero (f:Nat→Nat→Nat→Nat) (hf:∀ k p s,f k p s=0):∀ (r:List Nat) (k p:Nat),mkC f k p r=bV r.length
 | [],_,_=>rfl
 | s::r,k,p=>by
  show (f k p s:Int)::mkC f (k+1) (p * s) r=bV (r.length+1)
  rw[mkC_zero f hf r,hf];rfl
theorem doorsL_none {vs:List Vs} (h:∀ v∈vs,v.acts=[]) (ds:List Bool):∀ tip:List Nat,bO vs ds tip=ds
 | []=>rfl
 | i::tip=>by
  have ih:=doorsL_none h ds tip
  show bO vs (match vs[i]? with | some v=>d6 ds v.acts | none=>ds) tip=ds
  cases e:vs[i]? with
  | none=>exact ih
  | some v=>
   show bO vs (d6 ds v.acts) tip=ds
   rw[h v (List.mem_of_getElem? e)]
   exact ih
noncomputable def ctrS (S:List Nat) (i:Nat):Sta:=⟨mkC (dO i) 0 1 S,mkC (comC i) 0 1 S,[true]⟩
theorem ctr_has (S:List Nat) (hne:S≠[]) (i:Nat):aM (bQ S) (mkC (dO i) 0 1 S) (mkC (comC i) 0 1 S) (bV (bQ S).vs.length) [true]=mkC (hasC i) 0 1 S:=by
 cases S with
 | nil=>exact absurd rfl hne
 | cons s r=>
  rw[show (bQ (s::r)).vs.length=r.length+1 from ctrL_len _ _ _]
  show (((dO i 0 1 s:Int)+(comC i 0 1 s:Int)+0)+1)::add3 (mkC (dO i) 1 (1 * s) r) (mkC (comC i) 1 (1 * s) r) (bV r.length)=(hasC i 0 1 s:Int)::mkC (hasC i) 1 (1 * s) r
  rw[mkC_add i r 1 _ (Nat.le_refl _)]
  congr 1
  unfold dO comC hasC
  rw[if_neg (fun z=>by omega),if_neg (by omega),if_pos (Nat.one_dvd _)]
  omega
theorem ctr_acts (S:List Nat):∀ v∈(bQ S).vs,v.acts=[]:=fun v hv=>by
 obtain⟨j,hj⟩:=List.mem_iff_getElem?.1 hv
 obtain⟨s,_,rfl⟩:=ctrL_get _ _ _ _ _ hj
 rfl
theorem ctr_tk {S:List Nat} (hne:S≠[]) (h:∀ s∈S,1≤s) (i:Nat):(ctrS S i).next (bQ S)=ctrS S (i+1):=by
 have e:=ctr_has S hne i
 show Sta.mk (cE (bQ S).vs (aM (bQ S) _ _ _ _)) (cN (bQ S).vs.length (bN (bQ S).vs (aM (bQ S) _ _ _ _))) (bO (bQ S).vs [true] _)=_
 rw[doorsL_none (ctr_acts S)]
 show Sta.mk (cE (bQ S).vs (aM (bQ S) (mkC (dO i) 0 1 S) (mkC (comC i) 0 1 S) (bV (bQ S).vs.length) [true])) (cN (bQ S).vs.length (bN (bQ S).vs (aM (bQ S) (mkC (dO i) 0 1 S) (mkC (comC i) 0 1 S) (bV (bQ S).vs.length) [true]))) [true]=_
 rw[e]
 unfold ctrS
 congr 1
 ·exact mkC_stays _ i S 0 1 (Nat.le_refl _) h
 ·rw[show (bQ S).vs.length=S.length from ctrL_len _ _ _]
  rw[mkC_range (comC (i+1)) (fun k p=>if 1≤k∧0 < i+1+1 - k∧p ∣ i+1+1 - k then 1 else 0) (fun _ _ _=>rfl)]
  unfold cN
  apply List.map_congr_left
  intro t ht
  have ht:=List.mem_range.1 ht
  refine (mkC_goes S.length i S 0 1 (Nat.le_refl _) h (by omega) t ht).trans ?_
  rw[Nat.zero_add,Nat.sub_zero]
  by_cases b:0 < t∧0 < i+2 - t∧pAt 1 S t ∣ i+2 - t
  ·rw[if_pos b,if_pos ⟨by omega,b.2⟩];rfl
  ·rw[if_neg b,if_neg (fun z=>b ⟨by omega,z.2⟩)];rfl
theorem ctr_sta {S:List Nat} (hne:S≠[]) (h:∀ s∈S,1≤s):∀ i,bZ (bQ S) i=ctrS S i
 | 0=>by
  show Sta.mk (bV (bQ S).vs.length) (bV (bQ S).vs.length) [true]=Sta.mk _ _ [true]
  rw[show (bQ S).vs.length=S.length from ctrL_len _ _ _,mkC_zero (dO 0) (fun k p s=>by unfold dO;rw[Nat.zero_sub,Nat.zero_div,Nat.zero_mod]),mkC_zero (comC 0) (fun k p s=>by unfold comC;rw[if_neg (fun z=>by omega)])]
 | i+1=>by
  show (bZ (bQ S) i).next (bQ S)=_
  rw[ctr_sta hne h i,ctr_tk hne h i]
theorem ctr_tip {S:List Nat} (hne:S≠[]) (h:∀ s∈S,1≤s) (i v:Nat):v∈cI (bQ S) i↔v < S.length∧0 < i+1 - v∧pAt 1 S (v+1) ∣ i+1 - v:=by
 unfold cI Sta.tk
 rw[ctr_sta hne h i]
 show v∈aX 0 (ctrL S.length 0 S) (aM (bQ S) (mkC (dO i) 0 1 S) (mkC (comC i) 0 1 S) (bV (bQ S).vs.length) [true])↔_
 rw[ctr_has S hne i,mkC_tips S.length i S 0 1 (Nat.le_refl _) h v]
 constructor
 ·rintro⟨j,h1,h2,h3,h4⟩
  rw[Nat.zero_add] at h2
  subst h2
  exact⟨h1,h3,h4⟩
 ·rintro⟨h1,h3,h4⟩
  exact⟨v,h1,by omega,h3,h4⟩
theorem ctr_sum {S:List Nat} (hne:S≠[]) (h:∀ s∈S,1≤s) {v:Nat} (hv:v < S.length):∀ T,bW (bF (bQ S) v) 0 T=(((T - v) / pAt 1 S (v+1):Nat):Int)
 | 0=>by rw[Nat.zero_sub,Nat.zero_div];rfl
 | T+1=>by
  show bW _ 0 T+bF (bQ S) v (0+T)=_
  rw[ctr_sum hne h hv T,Nat.zero_add]
  unfold bF
  have ht:=ctr_tip hne h T v
  have hp:=pAt_pos S 1 (v+1) (Nat.le_refl _) h
  rcases Nat.lt_or_ge T v with z | z
  ·rw[if_neg (fun y=>by have:=(ht.1 y).2.1;omega),show T+1 - v=0 by omega,show T - v=0 by omega];simp
  ·rw[show T+1 - v=(T - v)+1 by omega,div_up hp]
   by_cases d:pAt 1 S (v+1) ∣ T - v+1
   ·rw[if_pos d,if_pos (ht.2 ⟨hv,by omega,by rw[show T+1 - v=(T - v)+1 by omega];exact d⟩)];simp
   ·rw[if_neg d,if_neg (fun y=>d (by have:=(ht.1 y).2.2;rw[show T+1 - v=(T - v)+1 by omega] at this;exact this))];simp
theorem tickN_some {net:Net}{v a t num:Nat} (r:Rnd net a t) (h1:1≤num) (hi:∃ T,a≤T∧v∈cI net T):∃ T,eW net v a t num=some T:=by
 unfold eW
 by_cases c:1≤num∧num≤(aR net t v).length
 ·rw[if_pos c]
  exact⟨_,List.getElem?_eq_getElem (by omega)⟩
 ·rw[if_neg c]
  have hne:aW net v a t≠[]:=fun z=>by
   obtain⟨T,hT,hm⟩:=hi
   have hlt:=r.lt
   have p:=r.tip v
   have e1:=per_mul p ((T - a) / (t - a)) (a+(T - a) % (t - a)) (by omega)
   have e2:=Nat.div_add_mod' (T - a) (t - a)
   have l:=Nat.mod_lt (T - a) (show 0 < t - a by omega)
   rw[show a+(T - a) % (t - a)+(T - a) / (t - a) * (t - a)=T by omega] at e1
   unfold bF at e1
   rw[if_pos hm] at e1
   have hm2:v∈cI net (a+(T - a) % (t - a)):=by
    by_cases y:v∈cI net (a+(T - a) % (t - a))
    ·exact y
    ·rw[if_neg y] at e1;simp at e1
   have:a+(T - a) % (t - a)∈aW net v a t:=by
    unfold aW aR
    exact List.mem_filter.2 ⟨List.mem_filter.2 ⟨List.mem_range.2 (by omega),decide_eq_true hm2⟩,decide_eq_true (by omega)⟩
   rw[z] at this
   cases this
  rw[if_neg (fun z=>z.elim (fun y=>by omega) hne)]
  have hL:0 < (aW net v a t).length:=List.length_pos_iff.2 hne
  rw[List.getElem?_eq_getElem (Nat.mod_lt _ hL)]
  exact⟨_,rfl⟩
theorem ctr_tick {S:List Nat} (hne:S≠[]) (h:∀ s∈S,1≤s) {v a t num:Nat} (hv:v < S.length) (r:Rnd (bQ S) a t) (h1:1≤num):eW (bQ S) v a t num=some (num * pAt 1 S (v+1) - 1+v):=by
 have hp:=pAt_pos S 1 (v+1) (Nat.le_refl _) h
 have tp:∀ m,1≤m→v∈cI (bQ S) (m * pAt 1 S (v+1) - 1+v):=fun m hm=>by
  have:1≤m * pAt 1 S (v+1):=Nat.mul_pos hm hp
  refine (ctr_tip hne h _ v).2 ⟨hv,by omega,?_⟩
  rw[show m * pAt 1 S (v+1) - 1+v+1 - v=m * pAt 1 S (v+1) by omega]
  exact Nat.dvd_mul_left _ _
 obtain⟨T,hT⟩:=tickN_some (v:=v) r h1 ⟨(a+1) * pAt 1 S (v+1) - 1+v,by
  have:(a+1) * 1≤(a+1) * pAt 1 S (v+1):=Nat.mul_le_mul_left _ hp
  omega,tp _ (by omega)⟩
 rw[hT]
 obtain⟨_,h2,h3⟩:=tickN_right r hT
 congr 1
 refine tick_uniq h2 (tp num h1) ?_
 rw[h3,ctr_sum hne h hv]
 have e1:num * pAt 1 S (v+1) - 1+v - v=num * pAt 1 S (v+1) - 1:=by omega
 rw[e1]
 have e2:(num * pAt 1 S (v+1) - 1) / pAt 1 S (v+1)=num - 1:=by
  have hm:1≤num * pAt 1 S (v+1):=Nat.mul_pos h1 hp
  have:=div_up hp (num * pAt 1 S (v+1) - 1)
  rw[show num * pAt 1 S (v+1) - 1+1=num * pAt 1 S (v+1) by omega,Nat.mul_div_cancel _ hp,if_pos (Nat.dvd_mul_left _ _)] at this
  omega
 rw[e2]
theorem ctr_ok {S:List Nat} (hne:S≠[]) (h8:S.length≤12) (h:∀ s∈S,1≤s∧s≤60):NetOk (bQ S) where
 lo:=by show 1≤(ctrL _ _ _).length;rw[ctrL_len];exact List.length_pos_iff.2 hne
 hi:=by show (ctrL _ _ _).length≤12;rw[ctrL_len];exact h8
 sp:=by show 1≤12;decide
 vs:=fun v hv=>by
  obtain⟨j,hj⟩:=List.mem_iff_getElem?.1 hv
  obtain⟨s,hs,rfl⟩:=ctrL_get _ _ _ _ _ hj
  have hjl:=(List.getElem?_eq_some_iff.mp hs).1
  have h1:=h s (List.mem_of_getElem? hs)
  have en:(bQ S).vs.length=S.length:=ctrL_len _ _ _
  have ot:OutOk (bQ S).vs.length (tgtC S.length (0+j),1):=by
   refine⟨fun t ht=>?_,(by show (1:Int)≤1;decide),(by show (1:Int)≤60;decide)⟩
   have ht:tgtC S.length (0+j)=some t:=ht
   unfold tgtC at ht
   split at ht
   ·injection ht with ht;rw[en];omega
   ·cases ht
  refine { size:=by show (1:Int)≤(s:Int);omega,ne:=?_,o3:=?_,outs:=?_,spill:=fun t ht=>(by cases ht),a3:=(show 0≤3 by decide),acts:=fun a haa=>(by cases haa) }
  ·show oneOn _ _≠[]
   unfold oneOn;split <;> simp
  ·show (oneOn _ _).length≤3
   unfold oneOn;split <;> simp
  ·show ∀ o∈oneOn _ _,_
   unfold oneOn
   split
   ·intro o ho
    rcases List.mem_cons.1 ho with z | z
    ·subst z;exact ot
    ·have:=List.mem_singleton.1 z
     subst this
     exact⟨fun t ht=>(by cases ht),by show (1:Int)≤(s:Int) - 1;omega,by show (s:Int) - 1≤60;omega⟩
   ·intro o ho
    have:=List.mem_singleton.1 ho
    subst this
    exact ot
 sps:=fun s hs=>by
  have:=List.mem_singleton.1 (show s∈[((0:Int),(1:Int),true)] from hs)
  subst this
  refine⟨by decide,?_⟩
  have:0 < (bQ S).vs.length:=by rw[show (bQ S).vs.length=S.length from ctrL_len _ _ _];exact List.length_pos_iff.2 hne
  show (0:Int) < _
  omega
end Tw
namespace Tw
open PySem L2
section
variable {P:Program}{w:World}{K:PySem.W.Frag}{mg:Str→Option Value}{base:Heap}{C c_TipError c_NoNet c_NoVessel c_TooLong c_TooMany c_TooMuch c_Nothing c_NoText c_NoRow:Addr}
end
end Tw
namespace L2
open PySem PySem.Spec PyProof.Rows TwZ
end L2
namespace Tw
open PySem L2
theorem cut_mid {α:Type} (f:α→V) (l:List α) {a b:Nat} (h1:a≤b) (h2:b≤l.length):cutV (l.map f) (some (a:Int)) (some (b:Int))=((l.drop a).take (b - a)).map f:=by
 unfold cutV
 rw[HT.sIx_nat,HT.sIx_nat,List.length_map,Nat.min_eq_left h2,Nat.min_eq_left (by omega),← List.map_drop,← List.map_take]
section
variable {P:Program}{w:World}{K:PySem.W.Frag}{mg:Str→Option Value}{base:Heap}{C c_TipError c_NoNet c_NoVessel c_TooLong c_TooMany c_TooMuch c_Nothing c_NoText c_NoRow:Addr}
end
end Tw
namespace Tw
open PySem L2
theorem seen_has {net:Net}{i:Nat}:∀ t,i < t→(dY (dJ net t) (eA (bZ net i))).isSome=true
 | 0,h=>by omega
 | t+1,h=>by
  rw[show dJ net (t+1)=putK (dJ net t) (eA (bZ net t)) (.int (t:Int)) from rfl,valV_put]
  by_cases e:eA (bZ net i)=eA (bZ net t)
  ·rw[if_pos e];rfl
  ·rw[if_neg e]
   exact seen_has t (by
    rcases Nat.lt_or_ge i t with h' | h'
    ·exact h'
    ·have:i=t:=by omega
     subst this;exact absurd rfl e)
end Tw
namespace L2
open PySem PySem.Spec PyProof.Rows TwZ
section
variable {X:Cx}{tg:Expr}
end
section
variable {prog:Program}{w:World}{A:Around}{R:Result→Shared→Prop}{s:Shared}
end
section
variable {X:Cx}{pins:List (Addr×Obj)}{σ:St}{H:Hp}{s:Shared}{a:Addr}{v:V}{u r:Value}{A:Around}{E:Value→Shared→Prop}{kvs:List (Key×V)}{k:Key}
end
section
variable {X:Cx}
end
end L2
namespace Tw
open PySem L2
end Tw
namespace Tw
open PySem L2
section
variable {K:PySem.W.Frag}
end
section
variable {P:Program}{w:World}{K:PySem.W.Frag}{mg:Str→Option Value}{base:Heap}{C:Addr}
end
end Tw
namespace Tw
open PySem L2
section
variable {K:PySem.W.Frag}
end
section
variable {P:Program}{w:World}{K:PySem.W.Frag}{mg:Str→Option Value}{base:Heap}{C:Addr}
end
end Tw
namespace Tw
open PySem L2
section
variable {K:PySem.W.Frag}{C r dx R M T:Addr}{H H':Hp}{S:RunS}{fp:List Addr}{np mv:V}{ts:List Addr}{rs ms:List V}
end
section
variable {P:Program}{w:World}{K:PySem.W.Frag}{mg:Str→Option Value}{base:Heap}{C:Addr}
end
end Tw
namespace Tw
open PySem L2
section
variable {K:PySem.W.Frag}{t sl:Addr}{σ:St}{H0:Hp}
end
section
variable {K:PySem.W.Frag}{C:Addr}{H:Hp}{r:Addr}{S:RunS}{fp:List Addr}
end
end Tw
namespace Tw
open PySem L2
end Tw
namespace Tw
open PySem L2
section
variable {P:Program}{w:World}{K:PySem.W.Frag}{mg:Str→Option Value}{base:Heap}
end
end Tw
namespace Tw
open PySem L2
section
variable {P:Program}{w:World}{K:PySem.W.Frag}{mg:Str→Option Value}{base:Heap}{C c_TipError c_NoNet c_NoVessel c_TooLong c_TooMany c_TooMuch c_Nothing c_NoText c_NoRow aw:Addr}
end
end Tw
namespace Tw
open PySem L2
section
variable {P:Program}{w:World}{K:PySem.W.Frag}{mg:Str→Option Value}{base:Heap}{C c_TipError c_NoNet c_NoVessel c_TooLong c_TooMany c_TooMuch c_Nothing c_NoText c_NoRow aw:Addr}
end
end Tw
namespace Tw
open PySem L2
section
variable {P:Program}{w:World}{K:PySem.W.Frag}{mg:Str→Option Value}{base:Heap}{C c_TipError c_NoNet c_NoVessel c_TooLong c_TooMany c_TooMuch c_Nothing c_NoText c_NoRow aw:Addr}
end
end Tw
namespace HT
open PySem PySem.Spec PyProof.Rows L2
section
variable {prog:Program}{w:World}{A:Around}{E:Value→Shared→Prop}{s:Shared}
end
end HT
namespace L2
open PySem
section
variable {X:Cx}{K:PySem.W.Frag}
end
end L2
namespace Tw
open PySem L2
section
variable {P:Program}{w:World}{K:PySem.W.Frag}{mg:Str→Option Value}{base:Heap}{C:Addr}
end
end Tw
namespace Tw
open PySem L2
theorem goes_set (t:Option Int) (v v':Vs) (h:Int):∀ (vs:List Vs) (hs:List Int) (j:Nat),vs[j]? = some v→hs[j]? = some h→b0 t (bN (vs.set j v') hs)+b0 t (cR v h)=b0 t (bN vs hs)+b0 t (cR v' h)
 | [],_,j,e,_=>by simp at e
 | _::_,[],j,_,e=>by simp at e
 | a::vs,b::hs,0,e1,e2=>by
  have e1:a=v:=by simpa using e1
  have e2:b=h:=by simpa using e2
  subst e1 e2
  show b0 t (cR v' b++bN vs hs)+_=b0 t (cR a b++bN vs hs)+_
  rw[cK,cK];omega
 | a::vs,b::hs,j+1,e1,e2=>by
  have ih:=goes_set t v v' h vs hs j (by simpa using e1) (by simpa using e2)
  show b0 t (cR a b++bN (vs.set j v') hs)+_=b0 t (cR a b++bN vs hs)+_
  rw[cK,cK];omega
theorem stays_set (v v':Vs) (hv:∀ h,d9 v' h=d9 v h):∀ (vs:List Vs) (hs:List Int) (j:Nat),vs[j]? = some v→cE (vs.set j v') hs=cE vs hs
 | [],_,j,e=>by simp at e
 | _::_,[],0,_=>rfl
 | _::_,[],_+1,_=>rfl
 | a::vs,b::hs,0,e1=>by
  have e1:a=v:=by simpa using e1
  subst e1
  show d9 v' b::cE vs hs=d9 a b::cE vs hs
  rw[hv]
 | a::vs,b::hs,j+1,e1=>by
  show d9 a b::cE (vs.set j v') hs=d9 a b::cE vs hs
  rw[stays_set v v' hv vs hs j (by simpa using e1)]
theorem tips_set (v v':Vs) (hv:∀ h,dS v' h=dS v h):∀ (i:Nat) (vs:List Vs) (hs:List Int) (j:Nat),vs[j]? = some v→aX i (vs.set j v') hs=aX i vs hs
 | _,[],_,j,e=>by simp at e
 | _,_::_,[],0,_=>rfl
 | _,_::_,[],_+1,_=>rfl
 | i,a::vs,b::hs,0,e1=>by
  have e1:a=v:=by simpa using e1
  subst e1
  show (if dS v' b=true then i::aX (i+1) vs hs else aX (i+1) vs hs)=(if dS a b=true then i::aX (i+1) vs hs else aX (i+1) vs hs)
  rw[hv]
 | i,a::vs,b::hs,j+1,e1=>by
  show (if dS a b=true then i::aX (i+1) (vs.set j v') hs else aX (i+1) (vs.set j v') hs)=(if dS a b=true then i::aX (i+1) vs hs else aX (i+1) vs hs)
  rw[tips_set v v' hv (i+1) vs hs j (by simpa using e1)]
theorem doors_set (v v':Vs) (vs:List Vs) (j:Nat) (e:vs[j]? = some v) (ha:v'.acts=v.acts):∀ (tip:List Nat) (ds:List Bool),bO (vs.set j v') ds tip=bO vs ds tip
 | [],_=>rfl
 | i::tip,ds=>by
  have ih:=doors_set v v' vs j e ha tip
  have ee:(match (vs.set j v')[i]? with | some v=>d6 ds v.acts | none=>ds)=(match vs[i]? with | some v=>d6 ds v.acts | none=>ds):=by
   by_cases h:j=i
   ·subst h
    rw[List.getElem?_set_self (List.getElem?_eq_some_iff.mp e).1,e]
    show d6 ds v'.acts=d6 ds v.acts
    rw[ha]
   ·rw[List.getElem?_set_ne h]
  show bO (vs.set j v') (match (vs.set j v')[i]? with | some v=>d6 ds v.acts | none=>ds) tip=bO vs (match vs[i]? with | some v=>d6 ds v.acts | none=>ds) tip
  rw[ee];exact ih _
variable {A B:Net}{j:Nat}{led:Bool}{S0 S1 S2:RunS}{more:Int}
end Tw
namespace Tw
open PySem L2
end Tw
namespace Tw
open PySem L2
end Tw
namespace TwS
open PySem
noncomputable def Up (xs:Array Nat):Prop:=∀ i j a b:Nat,i < j→xs[i]? = some a→xs[j]? = some b→a < b
theorem below_go (xs:Array Nat) (h:Up xs) (j:Nat):∀ (fuel lo hi:Nat),hi≤xs.size→lo≤hi→hi - lo≤fuel→(∀ i a,i < lo→xs[i]? = some a→a < j)→(∀ i a,hi≤i→xs[i]? = some a→j≤a)→
  (∀ i a,i < SetTable.below.go xs j fuel lo hi→xs[i]? = some a→a < j)∧(∀ i a,SetTable.below.go xs j fuel lo hi≤i→xs[i]? = some a→j≤a)∧SetTable.below.go xs j fuel lo hi≤xs.size
 | 0,lo,hi,h1,h2,h3,l,r=>by
  have:lo=hi:=by omega
  subst this
  show (∀ i a,i < lo→_)∧(∀ i a,lo≤i→_)∧lo≤_
  exact⟨l,r,h1⟩
 | fuel+1,lo,hi,h1,h2,h3,l,r=>by
  have e0:SetTable.below.go xs j (fuel+1) lo hi=if lo < hi then (if xs.getD ((lo+hi) / 2) j < j then SetTable.below.go xs j fuel ((lo+hi) / 2+1) hi else SetTable.below.go xs j fuel lo ((lo+hi) / 2)) else lo:=rfl
  rw[e0]
  by_cases hlt:lo < hi
  ·rw[if_pos hlt]
   have hm:(lo+hi) / 2 < xs.size:=by omega
   have hg:xs[(lo+hi) / 2]? = some (xs.getD ((lo+hi) / 2) j):=by
    rw[Array.getElem?_eq_getElem hm,Array.getD_eq_getD_getElem?,Array.getElem?_eq_getElem hm];rfl
   by_cases hc:xs.getD ((lo+hi) / 2) j < j
   ·rw[if_pos hc]
    refine below_go xs h j fuel ((lo+hi) / 2+1) hi h1 (by omega) (by omega) (fun i a hi' e=>?_) r
    rcases Nat.lt_or_ge i ((lo+hi) / 2) with z | z
    ·exact Nat.lt_trans (h _ _ _ _ z e hg) hc
    ·have:i=(lo+hi) / 2:=by omega
     subst this
     rw[hg] at e;cases e;exact hc
   ·rw[if_neg hc]
    refine below_go xs h j fuel lo ((lo+hi) / 2) (by omega) (by omega) (by omega) l (fun i a hi' e=>?_)
    rcases Nat.lt_or_ge ((lo+hi) / 2) i with z | z
    ·exact Nat.le_trans (Nat.le_of_not_lt hc) (Nat.le_of_lt (h _ _ _ _ z hg e))
    ·have:i=(lo+hi) / 2:=by omega
     subst this
     rw[hg] at e;cases e;exact Nat.le_of_not_lt hc
  ·rw[if_neg hlt]
   have:lo=hi:=by omega
   subst this
   exact⟨l,r,h1⟩
theorem below_at {xs:Array Nat} (h:Up xs) (j:Nat):(∀ i a,i < SetTable.below xs j→xs[i]? = some a→a < j)∧(∀ i a,SetTable.below xs j≤i→xs[i]? = some a→j≤a)∧SetTable.below xs j≤xs.size:=
 below_go xs h j xs.size 0 xs.size (Nat.le_refl _) (Nat.zero_le _) (by omega) (fun i a hi _=>absurd hi (Nat.not_lt_zero _)) (fun i a hi e=>by
  have:=(Array.getElem?_eq_some_iff.mp e).1
  omega)
theorem below_next {xs:Array Nat} (h:Up xs) {i a:Nat} (e:xs[i]? = some a):SetTable.below xs (a+1)=i+1:=by
 obtain⟨h1,h2,h3⟩:=below_at h (a+1)
 have hi:=(Array.getElem?_eq_some_iff.mp e).1
 rcases Nat.lt_trichotomy (SetTable.below xs (a+1)) (i+1) with z | z | z
 ·have:=h2 i a (by omega) e;omega
 ·exact z
 ·have hlt:i+1 < xs.size:=by omega
  have e2:xs[i+1]? = some xs[i+1]:=Array.getElem?_eq_getElem hlt
  have l1:=h1 (i+1) _ z e2
  have l2:=h i (i+1) _ _ (Nat.lt_succ_self _) e e2
  omega
theorem below_0 {xs:Array Nat} (h:Up xs):SetTable.below xs 0=0:=by
 obtain⟨h1,_,h3⟩:=below_at h 0
 rcases Nat.eq_zero_or_pos (SetTable.below xs 0) with z | z
 ·exact z
 ·have e2:xs[0]? = some xs[0]:=Array.getElem?_eq_getElem (by omega)
  have:=h1 0 _ z e2
  omega
theorem up_nil:Up #[]:=fun i j a b _ e _=>by simp at e
theorem up_list {xs:Array Nat}:Up xs↔xs.toList.Pairwise (· < ·):=by
 rw[List.pairwise_iff_getElem]
 constructor
 ·intro h i j hi hj hij
  exact h i j _ _ hij (by rw[← Array.getElem?_toList];exact List.getElem?_eq_getElem hi) (by rw[← Array.getElem?_toList];exact List.getElem?_eq_getElem hj)
 ·intro h i j a b hij e1 e2
  rw[← Array.getElem?_toList] at e1 e2
  obtain⟨p1,rfl⟩:=List.getElem?_eq_some_iff.mp e1
  obtain⟨p2,rfl⟩:=List.getElem?_eq_some_iff.mp e2
  exact h i j p1 p2 hij
theorem up_put {xs:Array Nat} (h:Up xs) {j:Nat} (hn:xs[SetTable.below xs j]?≠some j):Up (SetTable.insertAt xs (SetTable.below xs j) j):=by
 obtain⟨h1,h2,h3⟩:=below_at h j
 rw[up_list,SetTable.toList_insertAt,List.pairwise_append,List.pairwise_cons]
 have hl:=up_list.1 h
 refine⟨hl.take,⟨fun a ha=>?_,hl.drop⟩,fun a ha b hb=>?_⟩
 ·obtain⟨i,hi⟩:=List.mem_iff_getElem?.1 ha
  rw[List.getElem?_drop,Array.getElem?_toList] at hi
  have le:=h2 _ _ (Nat.le_add_right _ _) hi
  rcases Nat.lt_or_ge j a with z | z
  ·exact z
  ·have ej:j=a:=by omega
   subst ej
   rcases Nat.eq_zero_or_pos i with e0 | e0
   ·subst e0;exact absurd hi hn
   ·have hlt:SetTable.below xs j < xs.size:=by
     have:=(Array.getElem?_eq_some_iff.mp hi).1;omega
    have e2:xs[SetTable.below xs j]? = some xs[SetTable.below xs j]:=Array.getElem?_eq_getElem hlt
    have l2:=h2 _ _ (Nat.le_refl _) e2
    have l3:=h _ _ _ _ (show SetTable.below xs j < SetTable.below xs j+i by omega) e2 hi
    omega
 ·obtain⟨i,hi⟩:=List.mem_iff_getElem?.1 ha
  rw[List.getElem?_take] at hi
  split at hi
  ·rename_i hlt
   rw[Array.getElem?_toList] at hi
   have l1:=h1 _ _ hlt hi
   rcases List.mem_cons.1 hb with z | z
   ·subst z;exact l1
   ·obtain⟨i2,hi2⟩:=List.mem_iff_getElem?.1 z
    rw[List.getElem?_drop,Array.getElem?_toList] at hi2
    have:=h2 _ _ (Nat.le_add_right _ _) hi2
    omega
  ·cases hi
theorem up_range (n:Nat):Up (Array.range n):=by
 rw[up_list,Array.toList_range]
 exact List.pairwise_lt_range
structure Tidy (b:Bool) (t:SetTable):Prop where
 led:t.led=b
 up:Up t.place
 dm:t.dummies = #[]
theorem tidy_fresh (b:Bool):Tidy b (.fresh 0 0 b):=⟨rfl,up_nil,rfl⟩
theorem tidy_stand {b:Bool}{t:SetTable} (h:Tidy b t) (n:Nat):Tidy b (t.standIn n):=⟨h.led,up_range n,rfl⟩
theorem tidy_or {b:Bool}{t:SetTable} (h:Tidy b t) (n:Nat):Tidy b (t.orStandIn n):=by
 unfold SetTable.orStandIn
 split
 ·exact h
 ·exact tidy_stand h n
theorem has_none (j:Nat):SetTable.has #[] j=false:=by
 unfold SetTable.has;simp
theorem slot_free {b:Bool}{t:SetTable} (h:Tidy b t) (j:Nat):t.slot j≠.dummy:=by
 unfold SetTable.slot
 rw[h.dm,has_none]
 dsimp only
 by_cases c:(t.place[SetTable.below t.place j]? == some j)=true
 ·rw[if_pos c];intro z;cases z
 ·rw[if_neg c,if_neg (by decide)];intro z;cases z
theorem probe_free {b:Bool}{t:SetTable} (h:Tidy b t) (hash:Int):∀ (fuel:Nat) (p:SetTable.Probe) (m:SetTable.Met),p.dummy=none→SetTable.probe.go t (fun _=>hash+1) hash fuel p=some m→
  ∃ j,m=.empty j none∧t.place[SetTable.below t.place j]?≠some j
 | 0,p,m,_,e=>by cases e
 | fuel+1,p,m,hd,e=>by
  unfold SetTable.probe.go at e
  have adv:(t.advance p).dummy=none:=by
   unfold SetTable.advance
   split <;> exact hd
  split at e
  ·rename_i hs
   cases e
   refine⟨p.j,by rw[hd],fun z=>?_⟩
   unfold SetTable.slot at hs
   simp [z] at hs
  ·rename_i hs
   exact absurd hs (slot_free h _)
  ·rename_i i hs
   split at e
   ·rename_i hh
    simp at hh
    omega
   ·exact probe_free h hash fuel _ m adv e
theorem tidy_new {b:Bool}{t:SetTable} (h:Tidy b t) (es:Array (Int×Value)) (hash:Int) (x:Value):Tidy b (layNew t es hash x).2.1:=by
 unfold layNew
 split
 ·rename_i slot wasDummy hf
  unfold SetTable.freeSlot at hf
  split at hf
  ·rename_i j dummy hp
   obtain⟨j',e,hn⟩:=probe_free h hash _ (t.probeStart hash) _ rfl hp
   cases e
   cases hf
   refine tidy_or (t:=(t.put _).1) ⟨h.led,up_put h.up hn,?_⟩ _
   show (if SetTable.has t.dummies _ then _ else t.dummies) = #[]
   rw[h.dm,has_none]
   rfl
  ·cases hf
 ·exact tidy_stand h _
theorem tidy_relay {b:Bool}{t:SetTable} (h:Tidy b t) (es:Array (Int×Value)) (n:Nat):Tidy b (relayAll t es n).2.1:=by
 unfold relayAll
 split
 ·rename_i t' order hr
  dsimp only
  split
  ·show Tidy b t'
   unfold SetTable.relaid SetTable.laid at hr
   obtain⟨owner,ho,e⟩:=Option.bind_eq_some_iff.mp hr
   cases e
   refine⟨h.led,?_,rfl⟩
   rw[up_list]
   dsimp only
   rw[List.pairwise_map,List.pairwise_filterMap]
   refine List.pairwise_lt_range.imp fun {a c} hac x hx y hy=>?_
   obtain⟨x',_,rfl⟩:=Option.map_eq_some_iff.mp hx
   obtain⟨y',_,rfl⟩:=Option.map_eq_some_iff.mp hy
   exact hac
  ·exact tidy_stand h _
 ·exact tidy_stand h _
end TwS
namespace TwS
open PySem PyProof.Rows
noncomputable def intOf:Value→Int
 | .int i _=>i
 | _=>0
structure Cnt (prog:Program) (w:World) (b:Bool) (L:List Int) (es:Array (Int×Value)) (t:SetTable):Prop where
 el:ElemsOf (intKind prog w) es.toList
 pm:(es.toList.map fun e=>intOf e.2).Perm L
 bd:es.size < scanBound
 ft:t.fits es.size=true
 td:Tidy b t
noncomputable def SetI (prog:Program) (w:World) (b:Bool) (h:Heap) (a:Addr) (L:List Int):Prop:=
 ∃ o es ep t,h.get? a=some o∧o.ExactSet∧o.data=.set es ep t∧Cnt prog w b L es t
section
variable {prog:Program}{w:World}{b:Bool}{A:Around}{E:Value→Shared→Prop}{s:Shared}{a:Addr}{L:List Int}
theorem el_int {es:List (Int×Value)} (h:ElemsOf (intKind prog w) es) {e:Int×Value} (he:e∈es):∃ i t,e.2=.int i t:=by
 obtain⟨⟨k,hk,_⟩,_⟩:=h e he
 obtain⟨t,z⟩:=Value.isInt_shape hk
 exact⟨k,t,z⟩
theorem is_int {es:List (Int×Value)} (h:ElemsOf (intKind prog w) es) {e:Int×Value} (he:e∈es) (k:Int):(intKind prog w).is k e.2=decide (intOf e.2=k):=by
 obtain⟨i,t,z⟩:=el_int h he
 rw[z]
 show (i == k)=decide (i=k)
 rfl
theorem mem_cnt {es:Array (Int×Value)}{t:SetTable} (c:Cnt prog w b L es t) (k:Int):k∈L↔∃ e∈es.toList,(intKind prog w).is k e.2=true:=by
 rw[← c.pm.mem_iff,List.mem_map]
 constructor
 ·rintro⟨e,he,z⟩
  exact⟨e,he,by rw[is_int c.el he];exact decide_eq_true z⟩
 ·rintro⟨e,he,z⟩
  rw[is_int c.el he] at z
  exact⟨e,he,of_decide_eq_true z⟩
theorem len_cnt {es:Array (Int×Value)}{t:SetTable} (c:Cnt prog w b L es t):es.size=L.length:=by
 rw[← c.pm.length_eq,List.length_map,Array.length_toList]
theorem cnt_store {o:Obj}{es es':Array (Int×Value)}{ep:Nat}{t t':SetTable}{h:Heap}{L':List Int} (g:h.get? a=some o) (x:o.ExactSet) (d:o.data=.set es ep t) (c:Cnt prog w b L' es' t') :
  (h.update a (Obj.putSet es' t')).get? a=some { o with data:=.set es' (ep+1) t' }∧SetI prog w b (h.update a (Obj.putSet es' t')) a L':=by
 have u:(h.update a (Obj.putSet es' t')).get? a=some { o with data:=.set es' (ep+1) t' }:=by
  have:=Heap.get?_update_self (Obj.putSet es' t') g (by rw[putSet_of es' t' d];rfl)
  rw[putSet_of es' t' d] at this
  exact this
 exact⟨u,_,_,_,_,u,x,rfl,c⟩
theorem gave_pass (q:Bool) {s1:Shared}{R:Unit→Shared→Prop} (h:R () s1):wpAny (model prog w) A (match q with | true=>rule "set.scan.the-table-gave-way" | false=>pure ()) R E s1:=by
 cases q
 ·exact wpAny_pure h
 ·exact wpAny_rule h
theorem addS_int {k:Int}{tk:Tok}{R:Bool→Shared→Prop} (hS:SetI prog w b s.heap a L) (room:L.length+1 < scanBound)
  (hR:∀ h',Heap.SameBut a s.heap h'→SetI prog w b h' a (if k∈L then L else L++[k])→R (!decide (k∈L)) { s with heap:=h' }) :
  wpAny (model prog w) A (setAddHashed a (.int k tk) ((intKind prog w).hash k)) R E s:=by
 obtain⟨o,es,ep,t,g,x,d,c⟩:=hS
 have ln:=len_cnt c
 have isk:(intKind prog w).is k (.int k tk)=true:=intKind_is _ _ _ _
 have sc:(Value.int k tk).scannable=true:=rfl
 unfold setAddHashed setAddHashedIn
 refine wpAny_holding (wpAny_bind (wpAny_setState_of (prog:=prog) g d c.ft ?_))
 dsimp only
 rw[byScan_of sc c.bd c.el,if_pos rfl]
 unfold setAddByScan
 refine wpAny_bind (wpAny_bind (wpAny_rule (wpAny_bind (wpAny_setScan_of isk g d c.ft c.el ?_))))
 by_cases m:k∈L
 ·obtain⟨e,he,z⟩:=(mem_cnt c k).1 m
  cases q:es.toList.findIdx? (fun e=>(intKind prog w).is k e.2) with
  | none=>have:=List.findIdx?_eq_none_iff.mp q e he;rw[z] at this;cases this
  | some j=>
   have r:=hR s.heap (Heap.SameBut.refl a s.heap)
   rw[if_pos m,decide_eq_true m] at r
   exact wpAny_pure (wpAny_pure (r ⟨o,es,ep,t,g,x,d,c⟩))
 ·cases q:es.toList.findIdx? (fun e=>(intKind prog w).is k e.2) with
  | some j=>
   obtain⟨hj,z,_⟩:=List.findIdx?_eq_some_iff_getElem.mp q
   exact absurd ((mem_cnt c k).2 ⟨_,List.getElem_mem hj,z⟩) m
  | none=>
   dsimp only
   rw[if_neg m,decide_eq_false m] at hR
   have p1:=layNew_perm t es ((intKind prog w).hash k) (.int k tk)
   have f1:=layNew_fits t es ((intKind prog w).hash k) (.int k tk)
   have t1:=tidy_new c.td es ((intKind prog w).hash k) (.int k tk)
   generalize layNew t es ((intKind prog w).hash k) (.int k tk)=Y at p1 f1 t1 ⊢
   obtain⟨es1,tb1,wd,gv⟩:=Y
   dsimp only at p1 f1 t1 ⊢
   rw[Array.toList_push] at p1
   have c1:Cnt prog w b (L++[k]) es1 tb1:=by
    refine⟨(c.el.push isk sc).perm p1,?_,?_,f1,t1⟩
    ·refine (p1.map _).trans ?_
     rw[List.map_append]
     exact c.pm.append_right _
    ·rw[← Array.length_toList,p1.length_eq,List.length_append,Array.length_toList,ln]
     exact room
   have fin:∀ (tb2:SetTable),Cnt prog w b (L++[k]) es1 tb2→wpAny (model prog w) A (do
     storeSet a es1 tb2
     if (!wd && tb2.tooFull)=true then do
       (match (relayAll tb2 es1 (SetTable.grown es1.size)).2.2 with | true=>rule "set.scan.the-table-gave-way" | false=>pure ())
       storeSet a (relayAll tb2 es1 (SetTable.grown es1.size)).1 (relayAll tb2 es1 (SetTable.grown es1.size)).2.1
       pure (some true)
      else pure (some true)) (fun r s'=>wpAny (model prog w) A (match r with | some added=>pure added | none=>setAddHashedIn a (.int k tk) ((intKind prog w).hash k) 99999) R E s') E s:=by
    intro tb2 c2
    refine wpAny_bind (wpAny_storeSet_of g d ?_ (fits_of_scanBound c2.bd))
    obtain⟨g1,S1⟩:=cnt_store g x d c2
    have sb:=Heap.SameBut.update s.heap a (Obj.putSet es1 tb2)
    split
    ·have p3:=relayAll_perm tb2 es1 (SetTable.grown es1.size)
     have f3:=relayAll_fits tb2 es1 (SetTable.grown es1.size)
     have t3:=tidy_relay c2.td es1 (SetTable.grown es1.size)
     generalize relayAll tb2 es1 (SetTable.grown es1.size)=Y at p3 f3 t3 ⊢
     obtain⟨es3,tb3,gv3⟩:=Y
     dsimp only at p3 f3 t3 ⊢
     have c3:Cnt prog w b (L++[k]) es3 tb3:=⟨c2.el.perm p3,(p3.map _).trans c2.pm,by rw[← Array.length_toList,p3.length_eq,Array.length_toList];exact c2.bd,f3,t3⟩
     refine wpAny_bind (gave_pass gv3 (wpAny_bind (wpAny_storeSet_of g1 rfl ?_ (fits_of_scanBound c3.bd))))
     exact wpAny_pure (wpAny_pure (hR _ (sb.trans (Heap.SameBut.update _ a _)) (cnt_store g1 x rfl c3).2))
    ·exact wpAny_pure (wpAny_pure (hR _ sb S1))
   refine wpAny_bind (gave_pass gv ?_)
   split
   ·refine wpAny_bind ?_
    rw[hashByValue_scannable 8 sc]
    refine wpAny_pure ?_
    exact fin _ c1
   ·refine wpAny_bind (wpAny_pure ?_)
    exact fin _ c1
end
end TwS
namespace TwS
open PySem PySem.Spec PyProof.Rows
noncomputable def dd (val:Nat→Int):Nat→List Int
 | 0=>[]
 | i+1=>if val i∈dd val i then dd val i else dd val i++[val i]
theorem dd_succ (val:Nat→Int) (i:Nat):dd val (i+1)=if val i∈dd val i then dd val i else dd val i++[val i]:=rfl
theorem dd_len (val:Nat→Int):∀ i,(dd val i).length≤i
 | 0=>Nat.le_refl _
 | i+1=>by
  have ih:=dd_len val i
  rw[dd_succ]
  split
  ·omega
  ·rw[List.length_append,List.length_singleton];omega
theorem dd_mem (val:Nat→Int) (k:Int):∀ n,k∈dd val n↔∃ i,i < n∧val i=k
 | 0=>⟨fun z=>(by cases z),fun z=>(by obtain⟨i,hi,_⟩:=z;exact absurd hi (Nat.not_lt_zero _))⟩
 | n+1=>by
  have ih:=dd_mem val k n
  have key:k∈dd val (n+1)↔k∈dd val n∨val n=k:=by
   rw[dd_succ]
   split
   ·rename_i z
    exact⟨.inl,fun y=>y.elim id fun e=>e ▸ z⟩
   ·rw[List.mem_append,List.mem_singleton]
    exact⟨fun y=>y.imp id Eq.symm,fun y=>y.imp id Eq.symm⟩
  rw[key,ih]
  constructor
  ·rintro (⟨i,hi,e⟩ | e)
   ·exact⟨i,by omega,e⟩
   ·exact⟨n,by omega,e⟩
  ·rintro⟨i,hi,e⟩
   rcases Nat.lt_or_ge i n with z | z
   ·exact .inl ⟨i,z,e⟩
   ·have:i=n:=by omega
    subst this
    exact .inr e
theorem dd_nodup (val:Nat→Int):∀ n,(dd val n).Nodup
 | 0=>List.nodup_nil
 | n+1=>by
  have ih:=dd_nodup val n
  rw[dd_succ]
  split
  ·exact ih
  ·rename_i z
   rw[List.nodup_append]
   refine⟨ih,by simp,fun x hx y hy=>?_⟩
   rw[List.mem_singleton] at hy
   subst hy
   exact fun e=>z (e ▸ hx)
section
variable {prog:Program}{w:World}{b:Bool}{A:Around}{R:Result→Shared→Prop}{I:Addr}{fp wr:List Addr}{G:Array GenState→Array GenState→Prop}{n:Nat}{P:Nat→Value→Prop}{St:Nat→Shared→Prop}
theorem SetI.at {h h':Heap}{a:Addr}{L:List Int} (x:SetI prog w b h a L) (e:∀ o,h.get? a=some o→h'.get? a=some o):SetI prog w b h' a L:=by
 obtain⟨o,es,ep,t,g,r⟩:=x
 exact⟨o,es,ep,t,e o g,r⟩
theorem set_loop (Wk:WalksS prog w A.in1 I fp wr G n P St) (S:Addr) (off:S∉fp) (val:Nat→Int) (vals:∀ i v,P i v→∃ t,v=.int (val i) t) (small:n+1 < scanBound) :
  ∀ (m i:Nat) (s:Shared),n - i=m→i≤n→St i s→SetI prog w b s.heap S (dd val i)→(∀ s',Moved (S::wr) G s s'→SetI prog w b s'.heap S (dd val n)→R (.ok (.ret .none)) s')→
   codeAny (model prog w) A (.builtin "set.update.loop" ⟨[.ref S,.ref I],[]⟩) R s:=by
 have offw:S∉wr:=fun z=>off (Wk.sub _ z)
 have more:∀ c∈wr,c∈S::wr:=fun c hc=>List.mem_cons_of_mem _ hc
 intro m
 induction m with
 | zero=>
  intro i s hm hi st hS k
  obtain rfl:i=n:=by omega
  refine codeAny_builtin F.entry_set_update_loop ?_
  rw[Around.under_plainId F.plain_set_update_loop _]
  show wpAny _ A.in1 (pyNext (.ref I) >>= _) _ _ s
  refine wpAny_bind (Wk.done s _ _ st fun s1 mv=>?_)
  exact wpAny_pure (k s1 (mv.mono more) (hS.at fun o e=>mv.heap S o offw e))
 | succ m ih=>
  intro i s hm hi st hS k
  have lt:i < n:=by omega
  refine codeAny_builtin F.entry_set_update_loop ?_
  rw[Around.under_plainId F.plain_set_update_loop _]
  show wpAny _ A.in1 (pyNext (.ref I) >>= _) _ _ s
  refine wpAny_bind (Wk.item i s _ _ lt st fun v s1 hv st1 mv=>?_)
  obtain⟨t,rfl⟩:=vals i v hv
  have hS1:SetI prog w b s1.heap S (dd val i):=hS.at fun o e=>mv.heap S o offw e
  show wpAny _ A.in1 (holding [Value.int (val i) t] (setAdd S (.int (val i) t)) >>= _) _ _ s1
  refine wpAny_bind (wpAny_holding ?_)
  unfold setAdd
  refine wpAny_holding (wpAny_bind ((intKind prog w).pyHash (k:=val i) (intKind_is _ _ _ _) ?_))
  have rm:(dd val i).length+1 < scanBound:=by have:=dd_len val i;omega
  refine addS_int (s:={ s1 with toks:=s1.toks+1 }) hS1 rm fun h2 sb hS2=>?_
  refine wpAny_pure ⟨plainId_quiet F.plain_set_update_loop _,ih (i+1) _ (by omega) lt (Wk.frame _ s1 _ _ st1 (Nat.le_succ _) fun c hc o e=>?_) hS2 fun s3 mv3 hS3=>?_⟩
  ·rw[sb.2 c fun z:c=S=>off (z ▸ hc)];exact e
  ·refine k s3 (Moved.trans Wk.gtrans ((mv.mono more).then_heap (Nat.le_succ _) fun c o hc e=>?_) mv3) hS3
   rw[sb.2 c fun z:c=S=>hc (by rw[z];exact List.mem_cons_self)];exact e
end
section
variable {prog:Program}{w:World}{A:Around}{E:Value→Shared→Prop}{s:Shared}
noncomputable abbrev freshS (w:World):Obj:={ cls:=.type "set",dict:=none,data:=.set #[] 0 (.fresh 0 0 (!w.params.followText "set-order")) }
theorem new_set (v:Value) {Q:Value→Shared→Prop} (k:Q (.ref s.heap.objs.size) { s with heap:=s.heap.push (freshS w) }) :
  codeAny (model prog w) A (.call (.builtin "set.__new__") ⟨[.type "set",v],[]⟩) (wants Q E) s:=by
 refine codeAny_of_tree ?_
 show wpAny _ A.in1 (checkBuiltinCall "set.__new__" ⟨[.type "set",v],[]⟩ >>= fun _=>again (.builtin "set.__new__" ⟨[.type "set",v],[]⟩)) _ _ s
 refine wpAny_bind (wpAny_of_eq (F.newCall_set_1 v) (wpAny_pure ⟨plainId_quiet F.plain_set_new _,codeAny_builtin F.entry_set_new ?_⟩))
 rw[Around.under_plainId F.plain_set_new _]
 unfold Builtin.«set.__new__» Builtin.Frozenset.newClass
 have su:=sub_set_self
 obtain⟨hp,g,d,tk,os⟩:=s
 dsimp only
 wp_walk
 refine wpAny_askSetting (wpAny_pure ?_)
 dsimp only
 simp only [newObj]
 exact wpAny_bind (wpAny_alloc (wpAny_pure (wpAny_pure k)))
theorem fresh_cnt:Cnt prog w (!w.params.followText "set-order") [] #[] (.fresh 0 0 (!w.params.followText "set-order")):=
 ⟨fun e he=>by simp at he,by simp,by unfold scanBound;decide,by rfl,tidy_fresh _⟩
theorem call_set {l:Addr}{items:Array Value}{ns:List Int}{Q:Value→Shared→Prop} (hh:A.handled=none) (hl:s.heap.IsList l items) (hi:IntsAre items.toList ns) (small:items.size+1 < scanBound)
  (k:∀ (h':Heap) (tk:Nat),SetI prog w (!w.params.followText "set-order") h' s.heap.objs.size (dd (fun i=>ns.getD i 0) items.size)→(∀ c o,c < s.heap.objs.size→s.heap.get? c=some o→h'.get? c=some o)→
   Q (.ref s.heap.objs.size) { s with heap:=h',toks:=tk }) :
  wpAny (model prog w) A (call (.type "set") [.ref l]) Q E s:=by
 obtain⟨c0,tl0,mro0⟩:=F.called_set.mro
 have made0:=F.called_set.made
 have sub0:=F.called_set.sub
 refine wpAny_call (codeAny_of_tree ?_)
 show wpAny _ _ (callAny (.type "set") _) _ _ _
 refine wpAny_pure ⟨Code.quiet_builtin _ (by decide +kernel),codeAny_builtin F.entry_type_call ?_⟩
 rw[Around.under_plain (weight_type_call_type "set" [.ref l] []) rfl]
 have nt:=F.called_set.notType
 have cc:=F.called_set.canCreate
 have tc:=F.typeCall_set_1 (.ref l)
 repeat (any_goals (first | assumption | wp_step))
 refine codeAny_mono (new_set (.ref l) (E:=E) (Q:=fun v s1=>v=.ref s.heap.objs.size∧s1={ s with heap:=s.heap.push (freshS w) }) ⟨rfl,rfl⟩) fun r s1 hr=>?_
 cases r with
 | error e=>exact hr
 | ok fl=>
  cases fl with
  | ret obj=>
   obtain⟨rfl,rfl⟩:=hr
   have gS:(s.heap.push (freshS w)).get? s.heap.objs.size=some (freshS w):=Heap.get?_push_size _ rfl
   have ty:Shared.TypeIs { s with heap:=s.heap.push (freshS w) } (.ref s.heap.objs.size) "set" := ⟨_,gS,rfl⟩
   have il:=F.called_set.init.lookup
   have ib:=F.called_set.init.bind (.ref s.heap.objs.size)
   repeat (any_goals (first | assumption | wp_step))
   refine codeAny_mono (codeAny_call_builtin (R:=wants (fun r s2=>r=.none∧∃ h' tk,s2={ s with heap:=h',toks:=tk }∧SetI prog w (!w.params.followText "set-order") h' s.heap.objs.size (dd (fun i=>ns.getD i 0) items.size)∧
     (∀ c o,c < s.heap.objs.size→s.heap.get? c=some o→h'.get? c=some o)) E) F.called_set.init.plain F.entry_set_init (check_set_init_1 ty ?_)) fun r2 s2 hr2=>?_
   ·obtain⟨ol,hol,cl,nl,dl⟩:=hl
    obtain⟨ocls,odict,odata,oslots⟩:=ol
    simp only at cl dl
    subst cl dl
    have hol1:(s.heap.push (freshS w)).get? l=some { cls:=.type "list",dict:=odict,data:=.seq items nl,slots:=oslots }:=Heap.get?_push_of_some _ hol
    have s1:=F.sub_list_set
    have s2:=F.sub_list_frozenset
    have ne:(Value.type "list" == Value.type "dict")=false:=by decide
    have hl1:(s.heap.push (freshS w)).IsList l items:=⟨_,hol1,rfl,nl,rfl⟩
    unfold Builtin.«set.__init__» noKeywords Builtin.Frozenset.updateFrom
    generalize hPI:pyIter=PI
    wp_walk
    subst hPI
    refine wpAny_pyIter_list hl1 (wpAny_bind (wpAny_runValue ?_))
    have ll:l < s.heap.objs.size:=Heap.lt_size hol
    have h3:A.in1.in1.in1.handled=none:=by simp [hh]
    have zz:(s.heap.push (freshS w)).objs.size=s.heap.objs.size+1:=Heap.size_push _ _
    have neI:l≠(s.heap.push (freshS w)).objs.size:=by rw[zz];exact Nat.ne_of_lt (Nat.lt_succ_of_lt ll)
    have offS:s.heap.objs.size∉[(s.heap.push (freshS w)).objs.size,l]:=by
     rw[zz];simp only [List.mem_cons,List.mem_singleton,List.not_mem_nil,or_false,not_or]
     exact⟨Nat.ne_of_lt (Nat.lt_succ_self _),Nat.ne_of_gt ll⟩
    refine set_loop ((Walks.list h3 _ l neI items).toS) s.heap.objs.size offS (fun i=>ns.getD i 0) (fun i v hv=>IntsAre.int_at hi i v (by rw[Array.getElem?_toList];exact hv)) small (items.size - 0) 0 _ (by omega) (Nat.zero_le _)
     ⟨⟨_,Heap.get?_push_size _ rfl,rfl,rfl⟩,hl1.push _⟩ ⟨_,#[],0,_,Heap.get?_push_of_some _ gS,⟨rfl,rfl,rfl⟩,rfl,fresh_cnt⟩ ?_
    intro s4 mv hS4
    obtain⟨h4,g4,d4,tk4,os4⟩:=s4
    obtain rfl:g4=s.gens:=mv.gens
    obtain rfl:d4=s.drawn:=mv.drawn
    obtain rfl:os4=s.os:=mv.os
    show wpAny _ _ _ _ _ _
    refine wpAny_pure ?_
    show wpAny _ _ (ret Value.none) _ _ _
    refine wpAny_pure ⟨rfl,h4,tk4,rfl,hS4,fun c o hc e=>?_⟩
    exact mv.heap c o (by
     simp only [List.mem_cons,List.mem_singleton,List.not_mem_nil,or_false,not_or]
     exact⟨Nat.ne_of_lt hc,by rw[zz];exact Nat.ne_of_lt (Nat.lt_succ_of_lt hc)⟩) (Heap.get?_push_of_some _ (Heap.get?_push_of_some _ e))
   ·cases r2 with
    | error e=>exact hr2
    | ok fl2=>
     cases fl2 with
     | ret r=>
      obtain⟨rfl,h',tk,rfl,hS2,hk2⟩:=hr2
      repeat (any_goals (first | assumption | wp_step))
      exact k _ _ hS2 hk2
     | _=>exact hr2.elim
  | _=>exact hr.elim
end
end TwS
namespace TwS
open PySem PySem.Spec PyProof.Rows
theorem fE:Slot "set_iterator" "__next__" "set_iterator.__next__" :=
 .of (owner := "set_iterator") (n := "__next__") (by rw[typeLookup_type,builtinLookup_eq_fast];kernel_rfl) (by decide +kernel) (by decide +kernel) (by decide +kernel)
  (by first | exact .inl (by decide +kernel) | exact .inr (by decide +kernel)) (by rw[isSubtype_type];kernel_rfl)
theorem entry_si_next:entryFor table "set_iterator.__next__" = some Builtin.«set_iterator.__next__»:=entryFor_of_fast (by kernel_rfl)
theorem args_si_next (a:Value):argsOk "set_iterator.__next__" ⟨[a],[]⟩:=by unfold argsOk;kernel_rfl
theorem slot_set_iter:Slot "set" "__iter__" "set.__iter__" :=
 .of (owner := "set") (n := "__iter__") (by rw[typeLookup_type,builtinLookup_eq_fast];kernel_rfl) (by decide +kernel) (by decide +kernel) (by decide +kernel)
  (by first | exact .inl (by decide +kernel) | exact .inr (by decide +kernel)) (by rw[isSubtype_type];kernel_rfl)
theorem entry_set_iter:entryFor table "set.__iter__" = some Builtin.«frozenset.__iter__»:=entryFor_alias (id' := "frozenset.__iter__") (by kernel_rfl) rfl (by decide +kernel) (by kernel_rfl)
theorem slot_si_iter:Slot "set_iterator" "__iter__" "set_iterator.__iter__" :=
 .of (owner := "set_iterator") (n := "__iter__") (by rw[typeLookup_type,builtinLookup_eq_fast];kernel_rfl) (by decide +kernel) (by decide +kernel) (by decide +kernel)
  (by first | exact .inl (by decide +kernel) | exact .inr (by decide +kernel)) (by rw[isSubtype_type];kernel_rfl)
theorem entry_si_iter:entryFor table "set_iterator.__iter__" = some Builtin.«dict_keyiterator.__iter__»:=entryFor_alias (id' := "dict_keyiterator.__iter__") (by kernel_rfl) rfl (by decide +kernel) (by kernel_rfl)
theorem args_si_iter (a:Value):argsOk "set_iterator.__iter__" ⟨[a],[]⟩:=by unfold argsOk;kernel_rfl
theorem args_set_iter (a:Value):argsOk "set.__iter__" ⟨[a],[]⟩:=by unfold argsOk;kernel_rfl
noncomputable abbrev itO (f:Value) (i:Nat) (S:Addr) (n ep:Nat):Obj:={ cls:=.type "set_iterator",data:=.fields #[f,rawInt (i:Int),.ref S,rawInt (n:Int),rawInt (ep:Int)] }
section
variable {prog:Program}{w:World}{A:Around}{E:Value→Shared→Prop}{s:Shared}{I S:Addr}{o:Obj}{es:Array (Int×Value)}{ep i:Nat}{t:SetTable}
theorem stop_now {Q:Fin→Shared→Prop} (hh:A.handled=none) (hE:∀ h' e,(∀ c q,s.heap.get? c=some q→h'.get? c=some q)→(∃ q,h'.get? e=some q∧q.cls=.type "StopIteration")→E (.ref e) { s with heap:=h' }) :
  wpAny (model prog w) A (newExc (.type "StopIteration") [] >>= fun x=>raiseNew x) Q E s:=by
 refine wpAny_bind ?_
 simp only [newExc,newTuple]
 refine wpAny_bind (wpAny_newObj_type ?_ (by size_fits))
 refine wpAny_bind (m:=firstArgMember _ _) (wpAny_of_eq (a:=Value.none) (by first | rfl | (simp only [firstArgMember];rfl)) (wpAny_newObj_type ?_ (by size_fits)))
 simp only [raiseNew]
 refine wpAny_bind (wpAny_handled ?_)
 rw[hh]
 exact wpAny_bind (wpAny_pure (wpAny_throw (hE _ _ (fun c q e=>Heap.get?_push_of_some _ (Heap.get?_push_of_some _ e)) ⟨_,Heap.get?_push_size _ rfl,rfl⟩)))
theorem pyNext_si {f:Value}{n:Nat}{Q:Option Value→Shared→Prop} (hI:s.heap.get? I=some (itO f i S n ep))
  (h:wpAny (model prog w) A.in1 (Builtin.«set_iterator.__next__» ⟨[.ref I],[]⟩) (fun fin s'=>∃ v,fin=.done (.ret v)∧Q (some v) s') (fun e s'=>(∃ a q,e=.ref a∧s'.heap.get? a=some q∧q.cls=.type "StopIteration")∧Q none s') s) :
  wpAny (model prog w) A (pyNext (.ref I)) Q E s:=by
 have ty:s.TypeIs (.ref I) "set_iterator" := ⟨_,hI,rfl⟩
 unfold pyNext
 refine wpAny_bind (wpAny_attempt (wpAny_callSpecial?_slot (name:=Str.ofString "__next__") ty fE
  (wpAny_call_entry fE ty entry_si_next (wpAny_mono h (fun fin s' z=>?_) fun e s' z=>?_) (args_si_next _))))
 ·obtain⟨v,rfl,q⟩:=z
  exact⟨v,rfl,wpAny_pure q⟩
 ·obtain⟨⟨a,q,rfl,ho,hc⟩,z⟩:=z
  exact wpAny_bind (wpAny_isInstance (T := "StopIteration") (b:=true) ⟨q,ho,hc⟩ isSubtype_stop (wpAny_pure z))
theorem pyIter_si {f:Value}{n:Nat}{Q:Value→Shared→Prop} (hI:s.heap.get? I=some (itO f i S n ep)) (k:Q (.ref I) s):wpAny (model prog w) A (pyIter (.ref I)) Q E s:=by
 have ty:s.TypeIs (.ref I) "set_iterator" := ⟨_,hI,rfl⟩
 refine wpAny_pyIter_slot ty slot_si_iter (wpAny_call_entry slot_si_iter ty entry_si_iter ?_ (args_si_iter _))
 show wpAny _ _ (ret (.ref I)) _ _ s
 exact wpAny_pure ⟨_,rfl,"set_iterator",_,ty,fE.lookup,k⟩
theorem next_num {slot nx:Nat}{x:Value}{Q:Fin→Shared→Prop} (hI:s.heap.get? I=some (itO (rawInt (slot:Int)) i S es.size ep)) (g:s.heap.get? S=some o) (d:o.data=.set es ep t) (ft:t.fits es.size=true)
  (hn:∀ (R:Option (Value×Nat)→Shared→Prop),R (some (x,nx)) s→wpAny (model prog w) A (setNext S slot i ep) R E s)
  (k:∀ h',h'.get? I=some (itO (rawInt (nx:Int)) (i+1) S es.size ep)→Heap.SameBut I s.heap h'→Q (.done (.ret x)) { s with heap:=h' }) :
  wpAny (model prog w) A (Builtin.«set_iterator.__next__» ⟨[.ref I],[]⟩) Q E s:=by
 show wpAny _ _ (fieldsOf (.ref I) >>= _) _ _ s
 refine wpAny_bind (wpAny_fieldsOf hI rfl ?_)
 show wpAny _ _ (setEntries S >>= _) _ _ s
 unfold setEntries
 refine wpAny_bind (wpAny_bind (wpAny_setState_of g d ft (wpAny_pure ?_)))
 dsimp only
 rw[if_neg (by simp)]
 show wpAny _ _ (setNext S (slot:Int).toNat (i:Int).toNat (ep:Int).toNat >>= _) _ _ s
 rw[Int.toNat_natCast,Int.toNat_natCast,Int.toNat_natCast]
 refine wpAny_bind (hn _ ?_)
 refine wpAny_bind (wpAny_setField_rec hI (by simp) fun h1 g1 b1=>?_)
 refine wpAny_bind (wpAny_setField_rec (s:={ s with heap:=h1 }) g1 (by simp) fun h2 g2 b2=>?_)
 exact wpAny_pure (k h2 (by simp at g2;exact g2) (b1.trans b2))
theorem end_num {slot:Nat}{Q:Fin→Shared→Prop} (hh:A.handled=none) (hI:s.heap.get? I=some (itO (rawInt (slot:Int)) i S es.size ep)) (g:s.heap.get? S=some o) (d:o.data=.set es ep t) (ft:t.fits es.size=true)
  (hn:∀ (R:Option (Value×Nat)→Shared→Prop),R none s→wpAny (model prog w) A (setNext S slot i ep) R E s)
  (hE:∀ h' e,(∀ c q,c≠I→s.heap.get? c=some q→h'.get? c=some q)→(∃ q,h'.get? e=some q∧q.cls=.type "StopIteration")→E (.ref e) { s with heap:=h' }) :
  wpAny (model prog w) A (Builtin.«set_iterator.__next__» ⟨[.ref I],[]⟩) Q E s:=by
 show wpAny _ _ (fieldsOf (.ref I) >>= _) _ _ s
 refine wpAny_bind (wpAny_fieldsOf hI rfl ?_)
 show wpAny _ _ (setEntries S >>= _) _ _ s
 unfold setEntries
 refine wpAny_bind (wpAny_bind (wpAny_setState_of g d ft (wpAny_pure ?_)))
 dsimp only
 rw[if_neg (by simp)]
 show wpAny _ _ (setNext S (slot:Int).toNat (i:Int).toNat (ep:Int).toNat >>= _) _ _ s
 rw[Int.toNat_natCast,Int.toNat_natCast,Int.toNat_natCast]
 refine wpAny_bind (hn _ ?_)
 refine wpAny_bind (wpAny_setField_rec hI (by simp) fun h1 g1 b1=>?_)
 exact stop_now (s:={ s with heap:=h1 }) hh fun h' e kp st=>hE h' e (fun c q hc z=>kp c q (by rw[b1.2 c hc];exact z)) st
theorem next_drawn {T:Addr}{ps:Array Value}{m p:Nat}{tk:Tok}{hx:Int}{x:Value}{Q:Fin→Shared→Prop} (hI:s.heap.get? I=some (itO (.ref T) i S es.size ep)) (g:s.heap.get? S=some o) (d:o.data=.set es ep t) (ft:t.fits es.size=true)
  (hT:s.heap.get? T=some { cls:=.type "tuple",data:=.seq ps m }) (hp:ps[i]? = some (.int (p:Int) tk)) (hx:es[p]? = some (hx,x))
  (k:∀ h',h'.get? I=some (itO (.ref T) (i+1) S es.size ep)→Heap.SameBut I s.heap h'→Q (.done (.ret x)) { s with heap:=h' }) :
  wpAny (model prog w) A (Builtin.«set_iterator.__next__» ⟨[.ref I],[]⟩) Q E s:=by
 show wpAny _ _ (fieldsOf (.ref I) >>= _) _ _ s
 refine wpAny_bind (wpAny_fieldsOf hI rfl ?_)
 show wpAny _ _ (setEntries S >>= _) _ _ s
 unfold setEntries
 refine wpAny_bind (wpAny_bind (wpAny_setState_of g d ft (wpAny_pure ?_)))
 dsimp only
 rw[if_neg (by simp)]
 show wpAny _ _ (seqItems? (.ref T) >>= _) _ _ s
 refine wpAny_bind (wpAny_seqItems hT rfl ?_)
 dsimp only
 rw[Int.toNat_natCast,hp]
 dsimp only
 unfold setNextDrawn
 refine wpAny_bind (wpAny_bind (wpAny_setState_of g d ft ?_))
 dsimp only
 rw[Int.toNat_natCast,Int.toNat_natCast,if_neg (by simp),hx]
 refine wpAny_pure (wpAny_bind (wpAny_setField_rec hI (by simp) fun h1 g1 b1=>?_))
 exact wpAny_pure (k h1 (by simp at g1;exact g1) b1)
theorem end_drawn {T:Addr}{ps:Array Value}{m:Nat}{Q:Fin→Shared→Prop} (hh:A.handled=none) (hI:s.heap.get? I=some (itO (.ref T) i S es.size ep)) (g:s.heap.get? S=some o) (d:o.data=.set es ep t) (ft:t.fits es.size=true)
  (hT:s.heap.get? T=some { cls:=.type "tuple",data:=.seq ps m }) (hp:ps[i]? = none)
  (hE:∀ h' e,(∀ c q,c≠I→s.heap.get? c=some q→h'.get? c=some q)→(∃ q,h'.get? e=some q∧q.cls=.type "StopIteration")→E (.ref e) { s with heap:=h' }) :
  wpAny (model prog w) A (Builtin.«set_iterator.__next__» ⟨[.ref I],[]⟩) Q E s:=by
 show wpAny _ _ (fieldsOf (.ref I) >>= _) _ _ s
 refine wpAny_bind (wpAny_fieldsOf hI rfl ?_)
 show wpAny _ _ (setEntries S >>= _) _ _ s
 unfold setEntries
 refine wpAny_bind (wpAny_bind (wpAny_setState_of g d ft (wpAny_pure ?_)))
 dsimp only
 rw[if_neg (by simp)]
 show wpAny _ _ (seqItems? (.ref T) >>= _) _ _ s
 refine wpAny_bind (wpAny_seqItems hT rfl ?_)
 dsimp only
 rw[Int.toNat_natCast,hp]
 dsimp only
 refine wpAny_bind (wpAny_setField_rec hI (by simp) fun h1 g1 b1=>?_)
 refine wpAny_bind (wpAny_setField_rec (s:={ s with heap:=h1 }) g1 (by simp) fun h2 g2 b2=>?_)
 exact stop_now (s:={ s with heap:=h2 }) hh fun h' e kp st=>hE h' e (fun c q hc z=>kp c q (by rw[b2.2 c hc,b1.2 c hc];exact z)) st
theorem setNext_text {slot:Nat}{R:Option (Value×Nat)→Shared→Prop} (tx:w.params.followText "set-order" = true) (g:s.heap.get? S=some o) (d:o.data=.set es ep t) (ft:t.fits es.size=true)
  (k:R (((pickOrder (w.params.setOrder S ep) es)[i]?).map fun e=>(e.2,slot)) s):wpAny (model prog w) A (setNext S slot i ep) R E s:=by
 unfold setNext
 refine wpAny_bind (wpAny_setState_of g d ft ?_)
 dsimp only
 refine wpAny_bind (wpAny_bind (wpAny_askSetting (wpAny_pure ?_)))
 rw[show (Setting.mk (model prog w).prog (model prog w).w.params).params.followText "set-order" = true from tx,if_pos rfl,if_neg (by simp)]
 unfold setWalk
 refine wpAny_bind (wpAny_bind (wpAny_setState_of g d ft ?_))
 dsimp only
 refine wpAny_bind (wpAny_bind (wpAny_askSetting (wpAny_pure ?_)))
 rw[show (Setting.mk (model prog w).prog (model prog w).w.params).params.followText "set-order" = true from tx,if_pos rfl]
 exact wpAny_bind (wpAny_askSetting (wpAny_pure (wpAny_pure k)))
theorem setNext_place {slot:Nat}{R:Option (Value×Nat)→Shared→Prop} (tx:w.params.followText "set-order" = false) (g:s.heap.get? S=some o) (d:o.data=.set es ep t) (ft:t.fits es.size=true) (pl:t.plain=true∨es.size≤1) (ld:t.led=true)
  (k:R (match es[SetTable.below t.place slot]?,t.place[SetTable.below t.place slot]? with | some (_,x),some j=>some (x,j+1) | _,_=>none) s):wpAny (model prog w) A (setNext S slot i ep) R E s:=by
 unfold setNext
 refine wpAny_bind (wpAny_setState_of g d ft ?_)
 dsimp only
 refine wpAny_bind (wpAny_bind (wpAny_askSetting (wpAny_pure ?_)))
 rw[show (Setting.mk (model prog w).prog (model prog w).w.params).params.followText "set-order" = false from tx,if_neg (by simp)]
 have nd:¬ ((!t.plain && decide (es.size > 1))=true):=by
  rcases pl with z | z
  ·rw[z];simp
  ·rw[decide_eq_false (by omega)];simp
 show wpAny _ _ (if (!t.plain && decide (es.size > 1))=true then _ else _) _ _ s
 rw[if_neg nd]
 refine wpAny_bind ?_
 show wpAny _ _ (if (!t.led && !es.isEmpty)=true then _ else _) _ _ s
 rw[ld,if_neg (by simp)]
 exact wpAny_pure (wpAny_pure k)
end
end TwS
namespace TwS
open PySem PySem.Spec PyProof.Rows
theorem erase_perm {α:Type}:∀ {l:List α}{i:Nat}{x:α},l[i]? = some x→(x::l.eraseIdx i).Perm l
 | [],_,_,h=>by cases h
 | y::l,0,x,h=>by cases h;exact List.Perm.refl _
 | y::l,i+1,x,h=>by
  have ih:=erase_perm (l:=l) (i:=i) (x:=x) h
  exact (List.Perm.swap y x _).trans (ih.cons y)
theorem pick_go {α:Type} (next:Nat→Nat):∀ (fuel k:Nat) (left:List α) (out:Array α),left.length=fuel→(pickOrder.go next fuel k left out).toList.Perm (out.toList++left)
 | 0,k,left,out,h=>by
  have:left=[]:=List.eq_nil_of_length_eq_zero h
  subst this
  show out.toList.Perm _
  rw[List.append_nil]
 | fuel+1,k,left,out,h=>by
  have hm:next k % left.length < left.length:=Nat.mod_lt _ (by omega)
  have e:left[next k % left.length]? = some left[next k % left.length]:=List.getElem?_eq_getElem hm
  show (match left[next k % left.length]? with | some x=>pickOrder.go next fuel (k+1) (left.eraseIdx (next k % left.length)) (out.push x) | none=>out).toList.Perm _
  rw[e]
  refine (pick_go next fuel (k+1) _ _ (by rw[List.length_eraseIdx,if_pos hm];omega)).trans ?_
  rw[Array.toList_push,List.append_assoc]
  exact (erase_perm e).append_left _
theorem pick_perm {α:Type} (next:Nat→Nat) (xs:Array α):(pickOrder next xs).toList.Perm xs.toList:=by
 have:=pick_go next xs.size 0 xs.toList #[] (Array.length_toList)
 simpa [pickOrder] using this
section
variable {prog:Program}{w:World}{A:Around}{E:Value→Shared→Prop}
theorem choose_any {src:Source}{n:Nat}{s:Shared}{R:Nat→Shared→Prop} (hn:n≠0) (k:∀ i d,i < n→R i { s with drawn:=d }):wpAny (model prog w) A (choose src n) R E s:=fun Γ p _=>by
 unfold choose
 rw[Sem.wp_choose]
 refine⟨hn,?_⟩
 rw[Sem.wp_pure]
 exact k _ _ (Nat.mod_lt _ (Nat.pos_of_ne_zero hn))
theorem draw_any {α:Type}:∀ (n:Nat) (xs:List α) (s:Shared) (R:List α→Shared→Prop),xs.length=n→(∀ ys d,ys.Perm xs→R ys { s with drawn:=d })→wpAny (model prog w) A (drawOrder n xs) R E s
 | 0,xs,s,R,h,k=>by
  have:xs=[]:=List.eq_nil_of_length_eq_zero h
  subst this
  exact wpAny_pure (k [] s.drawn (List.Perm.refl _))
 | n+1,[],s,R,h,k=>by cases h
 | n+1,x::xs,s,R,h,k=>by
  unfold drawOrder
  refine wpAny_bind (choose_any (by simp) fun i d hi=>?_)
  have e:(x::xs)[i]? = some (x::xs)[i]:=List.getElem?_eq_getElem hi
  rw[e]
  refine wpAny_bind (draw_any n _ _ _ (by rw[List.length_eraseIdx,if_pos hi];omega) fun ys d2 p=>?_)
  exact wpAny_pure (k _ _ ((p.cons _).trans (erase_perm e)))
end
theorem ints_of:∀ (vs:List Value),(∀ v∈vs,∃ i t,v=.int i t)→IntsAre vs (vs.map intOf)
 | [],_=>.nil
 | v::vs,h=>by
  obtain⟨i,t,rfl⟩:=h v List.mem_cons_self
  exact .cons i t (ints_of vs fun v hv=>h v (List.mem_cons_of_mem _ hv))
theorem items_are {P:Nat→Value→Prop}{acc:Array Value}{vs:List Value} (h:ItemsOf P acc vs.length) (hP:∀ j v,P j v→vs[j]? = some v):acc.toList=vs:=by
 apply List.ext_getElem?
 intro j
 rcases Nat.lt_or_ge j acc.size with hj | hj
 ·have e:acc[j]? = some acc[j]:=Array.getElem?_eq_getElem hj
  rw[Array.getElem?_toList,e,hP j _ (h.2 j _ e)]
 ·rw[List.getElem?_eq_none (by rw[Array.length_toList];exact hj),List.getElem?_eq_none (by rw[← h.1];exact hj)]
section
variable {prog:Program}{w:World}{S I T:Addr}{o:Obj}{es:Array (Int×Value)}{ep:Nat}{t:SetTable}{L:List Int}
theorem yields {b:Bool}{vs:List Value}{es':List (Int×Value)} (c:Cnt prog w b L es t) (hp:es'.Perm es.toList) (e:vs=es'.map (·.2)):IntsAre vs (vs.map intOf)∧(vs.map intOf).Perm L:=by
 subst e
 refine⟨ints_of _ fun v hv=>?_,?_⟩
 ·obtain⟨x,hx,rfl⟩:=List.mem_map.1 hv
  exact el_int c.el (hp.mem_iff.1 hx)
 ·rw[List.map_map]
  exact (hp.map _).trans c.pm
noncomputable def slotAt (pl:Array Nat):Nat→Nat
 | 0=>0
 | i+1=>pl.getD i 0+1
theorem slot_below {pl:Array Nat} (h:Up pl):∀ i,i≤pl.size→SetTable.below pl (slotAt pl i)=i
 | 0,_=>below_0 h
 | i+1,hi=>by
  have e:pl[i]? = some (pl.getD i 0):=by rw[Array.getD_eq_getD_getElem?,Array.getElem?_eq_getElem (by omega)];rfl
  exact below_next h e
theorem walk_text {A:Around} (hh:A.handled=none) (tx:w.params.followText "set-order" = true) (d:o.data=.set es ep t) (ft:t.fits es.size=true) (ne:S≠I) :
  Walks prog w A I [I,S] [I] es.size (fun i v=>((pickOrder (w.params.setOrder S ep) es).toList.map (·.2))[i]? = some v) (fun i h=>h.get? I=some (itO (rawInt ((0:Nat):Int)) i S es.size ep)∧h.get? S=some o) where
 sub:=fun c hc=>by simp at hc;simp [hc]
 frame:=fun _ _ _ st k=>⟨k I (by simp) _ st.1,k S (by simp) _ st.2⟩
 item:=fun i s Q E hi st k=>by
  have ln:(pickOrder (w.params.setOrder S ep) es).size=es.size:=by rw[← Array.length_toList,(pick_perm _ es).length_eq,Array.length_toList]
  have e:(pickOrder (w.params.setOrder S ep) es)[i]? = some ((pickOrder (w.params.setOrder S ep) es)[i]'(by omega)):=Array.getElem?_eq_getElem _
  refine pyNext_si st.1 (next_num (x:=((pickOrder (w.params.setOrder S ep) es)[i]'(by omega)).2) (nx:=0) st.1 st.2 d ft (fun R r=>setNext_text tx st.2 d ft (by rw[e];exact r)) fun h' g b=>⟨_,rfl,?_⟩)
  refine k _ h' s.toks ?_ ⟨g,by rw[b.2 S ne];exact st.2⟩ fun c q hc z=>by rw[b.2 c (fun y=>hc (by simp [y]))];exact z
  rw[List.getElem?_map,Array.getElem?_toList,e];rfl
 done:=fun s Q E st k=>by
  have ln:(pickOrder (w.params.setOrder S ep) es).size=es.size:=by rw[← Array.length_toList,(pick_perm _ es).length_eq,Array.length_toList]
  have e:(pickOrder (w.params.setOrder S ep) es)[es.size]? = none:=Array.getElem?_eq_none (by omega)
  refine pyNext_si st.1 (end_num hh st.1 st.2 d ft (fun R r=>setNext_text tx st.2 d ft (by rw[e];exact r)) fun h' x kp sp=>⟨?_,k h' s.toks fun c q hc z=>kp c q (fun y=>hc (by simp [y])) z⟩)
  obtain⟨q,e1,e2⟩:=sp
  exact⟨_,q,rfl,e1,e2⟩
 self:=fun i s Q E st k=>pyIter_si st.1 k
theorem walk_place {A:Around} (hh:A.handled=none) (tx:w.params.followText "set-order" = false) (d:o.data=.set es ep t) (ft:t.fits es.size=true) (pl:t.plain=true∨es.size≤1) (td:Tidy true t) (ne:S≠I) :
  Walks prog w A I [I,S] [I] es.size (fun i v=>(es.toList.map (·.2))[i]? = some v) (fun i h=>h.get? I=some (itO (rawInt ((slotAt t.place i:Nat):Int)) i S es.size ep)∧h.get? S=some o) where
 sub:=fun c hc=>by simp at hc;simp [hc]
 frame:=fun _ _ _ st k=>⟨k I (by simp) _ st.1,k S (by simp) _ st.2⟩
 item:=fun i s Q E hi st k=>by
  have psz:t.place.size=es.size:=by
   simp only [SetTable.fits,Bool.and_eq_true,beq_iff_eq] at ft
   exact ft.1
  have e1:es[i]? = some es[i]:=Array.getElem?_eq_getElem hi
  have e2:t.place[i]? = some (t.place.getD i 0):=by rw[Array.getD_eq_getD_getElem?,Array.getElem?_eq_getElem (by omega)];rfl
  have sb:=slot_below td.up i (by omega)
  refine pyNext_si st.1 (next_num (x:=es[i].2) (nx:=slotAt t.place (i+1)) st.1 st.2 d ft (fun R r=>setNext_place tx st.2 d ft pl td.led (by rw[sb,e1,e2];exact r)) fun h' g b=>⟨_,rfl,?_⟩)
  refine k _ h' s.toks ?_ ⟨g,by rw[b.2 S ne];exact st.2⟩ fun c q hc z=>by rw[b.2 c (fun y=>hc (by simp [y]))];exact z
  rw[List.getElem?_map,Array.getElem?_toList,e1];rfl
 done:=fun s Q E st k=>by
  have psz:t.place.size=es.size:=by
   simp only [SetTable.fits,Bool.and_eq_true,beq_iff_eq] at ft
   exact ft.1
  have e1:es[es.size]? = none:=Array.getElem?_eq_none (Nat.le_refl _)
  have sb:=slot_below td.up es.size (by omega)
  refine pyNext_si st.1 (end_num hh st.1 st.2 d ft (fun R r=>setNext_place tx st.2 d ft pl td.led (by rw[sb,e1];exact r)) fun h' x kp sp=>⟨?_,k h' s.toks fun c q hc z=>kp c q (fun y=>hc (by simp [y])) z⟩)
  obtain⟨q,e1,e2⟩:=sp
  exact⟨_,q,rfl,e1,e2⟩
 self:=fun i s Q E st k=>pyIter_si st.1 k
theorem fm_get {α β:Type}{f:α→Option β}:∀ (l:List α) (j:Nat),(∀ p∈l,∃ y,f p=some y)→(l.filterMap f)[j]? = l[j]?.bind f
 | [],j,_=>by simp
 | p::l,j,h=>by
  obtain⟨y,hy⟩:=h p List.mem_cons_self
  rw[List.filterMap_cons_some hy]
  cases j with
  | zero=>simp [hy]
  | succ j=>simpa using fm_get l j fun q hq=>h q (List.mem_cons_of_mem _ hq)
theorem walk_drawn {A:Around} (hh:A.handled=none) (d:o.data=.set es ep t) (ft:t.fits es.size=true) {ord:List Nat}{m:Nat} (hord:ord.Perm (List.range es.size)) (ne:S≠I) (neT:T≠I) :
  Walks prog w A I [I,S,T] [I] es.size (fun i v=>((ord.filterMap fun p=>es[p]?).map (·.2))[i]? = some v)
   (fun i h=>h.get? I=some (itO (.ref T) i S es.size ep)∧h.get? S=some o∧h.get? T=some { cls:=.type "tuple",data:=.seq (ord.map fun (i:Nat)=>rawInt (i:Int)).toArray m }) where
 sub:=fun c hc=>by simp at hc;simp [hc]
 frame:=fun _ _ _ st k=>⟨k I (by simp) _ st.1,k S (by simp) _ st.2.1,k T (by simp) _ st.2.2⟩
 item:=fun i s Q E hi st k=>by
  have ln:ord.length=es.size:=by rw[hord.length_eq,List.length_range]
  have all:∀ p∈ord,∃ y,es[p]? = some y:=fun p hp=>⟨_,Array.getElem?_eq_getElem (List.mem_range.1 (hord.mem_iff.1 hp))⟩
  have e0:ord[i]? = some (ord[i]'(by omega)):=List.getElem?_eq_getElem _
  obtain⟨y,hy⟩:=all _ (List.mem_of_getElem? e0)
  have e1:(ord.map fun (i:Nat)=>rawInt (i:Int)).toArray[i]? = some (.int (((ord[i]'(by omega)):Nat):Int) 0):=by
   rw[List.getElem?_toArray,List.getElem?_map,e0];rfl
  refine pyNext_si st.1 (next_drawn (x:=y.2) st.1 st.2.1 d ft st.2.2 e1 (show es[ord[i]'(by omega)]? = some (y.1,y.2) from hy) fun h' g b=>⟨_,rfl,?_⟩)
  refine k _ h' s.toks ?_ ⟨g,by rw[b.2 S ne];exact st.2.1,by rw[b.2 T neT];exact st.2.2⟩ fun c q hc z=>by rw[b.2 c (fun y=>hc (by simp [y]))];exact z
  rw[List.getElem?_map,fm_get _ _ all,e0]
  show Option.map _ (es[ord[i]'(by omega)]?)=_
  rw[hy];rfl
 done:=fun s Q E st k=>by
  have ln:ord.length=es.size:=by rw[hord.length_eq,List.length_range]
  have e1:(ord.map fun (i:Nat)=>rawInt (i:Int)).toArray[es.size]? = none:=by
   rw[List.getElem?_toArray,List.getElem?_map,List.getElem?_eq_none (by omega)];rfl
  refine pyNext_si st.1 (end_drawn hh st.1 st.2.1 d ft st.2.2 e1 fun h' x kp sp=>⟨?_,k h' s.toks fun c q hc z=>kp c q (fun y=>hc (by simp [y])) z⟩)
  obtain⟨q,e1,e2⟩:=sp
  exact⟨_,q,rfl,e1,e2⟩
 self:=fun i s Q E st k=>pyIter_si st.1 k
theorem set_iter {A:Around}{E:Value→Shared→Prop}{s:Shared}{Q:Value→Shared→Prop} (hS:SetI prog w (!w.params.followText "set-order") s.heap S L)
  (k:∀ (I:Addr) (h':Heap) (d':Drawn) (fp:List Addr) (P:Nat→Value→Prop) (St:Nat→Heap→Prop),(∀ A':Around,A'.handled=none→Walks prog w A' I fp [I] L.length P St)→St 0 h'→I∈fp→(∀ c∈fp,c=S∨s.heap.objs.size≤c)→
   s.heap.objs.size≤I→(∀ c q,s.heap.get? c=some q→h'.get? c=some q)→(∀ acc:Array Value,ItemsOf P acc L.length→∃ ms,IntsAre acc.toList ms∧ms.Perm L)→Q (.ref I) { s with heap:=h',drawn:=d' }) :
  wpAny (model prog w) A (pyIter (.ref S)) Q E s:=by
 obtain⟨o,es,ep,t,g,x,d,c⟩:=hS
 have ln:=len_cnt c
 rw[← ln] at k
 have ty:s.TypeIs (.ref S) "set" := ⟨o,g,x.1⟩
 have sz:S < s.heap.objs.size:=Heap.lt_size g
 refine wpAny_pyIter_slot ty slot_set_iter (wpAny_call_entry slot_set_iter ty entry_set_iter ?_ (args_set_iter _))
 show wpAny _ _ (Builtin.Frozenset.sizeOf S >>= _) _ _ s
 unfold Builtin.Frozenset.sizeOf setEntries
 refine wpAny_bind (wpAny_bind (wpAny_bind (wpAny_setState_of g d c.ft (wpAny_pure (wpAny_pure ?_)))))
 dsimp only
 unfold setDrawn
 refine wpAny_bind (wpAny_bind (wpAny_setState_of g d c.ft ?_))
 dsimp only
 refine wpAny_bind (wpAny_bind (wpAny_askSetting (wpAny_pure (wpAny_pure ?_))))
 show wpAny _ _ (if (!w.params.followText "set-order" && (!t.plain && decide (es.size > 1)))=true then _ else _) _ _ s
 by_cases cd:(!w.params.followText "set-order" && (!t.plain && decide (es.size > 1)))=true
 ·rw[if_pos cd]
  refine wpAny_bind (draw_any es.size _ _ _ (by rw[List.length_range]) fun ord d' hord=>?_)
  refine wpAny_bind (wpAny_newTuple ?_ (by rw[List.length_map,hord.length_eq,List.length_range];exact fits_of_scanBound c.bd))
  unfold setEpoch
  refine wpAny_bind (wpAny_bind (wpAny_setState_of (Heap.get?_push_of_some _ g) d c.ft (wpAny_pure ?_)))
  refine wpAny_bind (wpAny_newObj_type (wpAny_pure ⟨_,rfl,"set_iterator",_,⟨_,Heap.get?_push_size _ rfl,rfl⟩,fE.lookup,?_⟩))
  have z1:(s.heap.push { cls:=.type "tuple",data:=.seq (ord.map fun (i:Nat)=>rawInt (i:Int)).toArray }).objs.size=s.heap.objs.size+1:=Heap.size_push _ _
  refine k _ _ d' _ _ _ (fun A' hh=>walk_drawn hh d c.ft hord (T:=s.heap.objs.size) (Nat.ne_of_lt (by rw[z1];exact Nat.lt_succ_of_lt sz)) (Nat.ne_of_lt (by rw[z1];exact Nat.lt_succ_self _)))
   ⟨Heap.get?_push_size _ rfl,Heap.get?_push_of_some _ (Heap.get?_push_of_some _ g),Heap.get?_push_of_some _ (Heap.get?_push_size _ rfl)⟩ (by simp) (fun b hb=>?_) (by rw[z1];exact Nat.le_succ _) (fun b q e=>Heap.get?_push_of_some _ (Heap.get?_push_of_some _ e)) fun acc ha=>?_
  ·simp only [List.mem_cons,List.mem_singleton,List.not_mem_nil,or_false] at hb
   rcases hb with rfl | rfl | rfl
   ·right;rw[z1];exact Nat.le_succ _
   ·exact .inl rfl
   ·exact .inr (Nat.le_refl _)
  ·have pm:(ord.filterMap fun p=>es[p]?).Perm es.toList:=(hord.filterMap _).trans (by rw[filterMap_getElem?_range])
   have hv:=yields c pm rfl
   rw[show es.size=((ord.filterMap fun p=>es[p]?).map (·.2)).length by rw[List.length_map,pm.length_eq,Array.length_toList]] at ha
   rw[items_are ha fun j v h=>h]
   exact⟨_,hv⟩
 ·rw[if_neg cd]
  refine wpAny_bind (wpAny_pure ?_)
  unfold setEpoch
  refine wpAny_bind (wpAny_bind (wpAny_setState_of g d c.ft (wpAny_pure ?_)))
  refine wpAny_bind (wpAny_newObj_type (wpAny_pure ⟨_,rfl,"set_iterator",_,⟨_,Heap.get?_push_size _ rfl,rfl⟩,fE.lookup,?_⟩))
  have fr:∀ b∈[s.heap.objs.size,S],b=S∨s.heap.objs.size≤b:=fun b hb=>by
   simp only [List.mem_cons,List.mem_singleton,List.not_mem_nil,or_false] at hb
   rcases hb with rfl | rfl
   ·exact .inr (Nat.le_refl _)
   ·exact .inl rfl
  cases tx:w.params.followText "set-order" with
  | true=>
   refine k s.heap.objs.size _ s.drawn _ _ _ (fun A' hh=>walk_text hh tx d c.ft (Nat.ne_of_lt sz)) ⟨Heap.get?_push_size _ rfl,Heap.get?_push_of_some _ g⟩ (by simp) fr (Nat.le_refl _) (fun b q e=>Heap.get?_push_of_some _ e) fun acc ha=>?_
   have pm:=pick_perm (w.params.setOrder S ep) es
   have hv:=yields c pm rfl
   rw[show es.size=((pickOrder (w.params.setOrder S ep) es).toList.map (·.2)).length by rw[List.length_map,pm.length_eq,Array.length_toList]] at ha
   rw[items_are ha fun j v h=>h]
   exact⟨_,hv⟩
  | false=>
   rw[tx] at cd c
   have pl:t.plain=true∨es.size≤1:=by
    cases hp:t.plain with
    | true=>exact .inl rfl
    | false=>
     rw[hp] at cd
     refine .inr (Nat.le_of_not_lt fun z=>cd ?_)
     simp [z]
   refine k s.heap.objs.size _ s.drawn _ _ _ (fun A' hh=>walk_place hh tx d c.ft pl c.td (Nat.ne_of_lt sz)) ⟨Heap.get?_push_size _ rfl,Heap.get?_push_of_some _ g⟩ (by simp) fr (Nat.le_refl _) (fun b q e=>Heap.get?_push_of_some _ e) fun acc ha=>?_
   have hv:=yields c (List.Perm.refl _) rfl
   rw[show es.size=(es.toList.map (·.2)).length by rw[List.length_map,Array.length_toList]] at ha
   rw[items_are ha fun j v h=>h]
   exact⟨_,hv⟩
end
end TwS
namespace TwS
open PySem PySem.Spec PyProof.Rows
theorem len_look:typeLookup (.type "set") "__len__" = pure (some (.builtin "set.__len__")):=by rw[typeLookup_type,builtinLookup_eq_fast];kernel_rfl
theorem set_self:isSubtype (.type "set") (.type "set")=pure true:=by rw[isSubtype_type];kernel_rfl
section
variable {prog:Program}{w:World}{A:Around}{E:Value→Shared→Prop}{s:Shared}{S:Addr}{L:List Int}
theorem ite_of {α:Type}{M:Model}{c:Prop} [Decidable c] {x y:Sem α}{Q:α→Shared→Prop} (hc:c) (h:wpAny M A x Q E s):wpAny M A (if c then x else y) Q E s:=by rw[if_pos hc];exact h
theorem hint_set {Q:Bool→Shared→Prop} (ty:s.TypeIs (.ref S) "set") (k:Q false s):wpAny (model prog w) A (Builtin.List.listLengthHint (.ref S)) Q E s:=by
 unfold Builtin.List.listLengthHint
 refine wpAny_bind (wpAny_specialOf ty len_look ?_)
 show wpAny _ _ (isInstance (.ref S) (.type "set") >>= _) _ _ s
 refine wpAny_bind (wpAny_isInstance ty set_self ?_)
 rw[if_neg (by simp)]
 refine ite_of (by decide +kernel) ?_
 exact wpAny_bind (wpAny_typeOf ty (wpAny_pure k))
theorem collect_set {Q:List Value→Shared→Prop} (hh:A.handled=none) (hS:SetI prog w (!w.params.followText "set-order") s.heap S L) (hL:L.length≤sizeLine)
  (k:∀ (h':Heap) (d':Drawn) (tk:Nat) (vs:List Value) (ms:List Int),IntsAre vs ms→ms.Perm L→(∀ c q,s.heap.get? c=some q→h'.get? c=some q)→s.heap.objs.size≤h'.objs.size→Q vs { s with heap:=h',drawn:=d',toks:=tk }) :
  wpAny (model prog w) A (collect (.ref S)) Q E s:=by
 obtain⟨o,_,_,_,g,x,_⟩:=id hS
 have sz:S < s.heap.objs.size:=Heap.lt_size g
 unfold collect
 refine wpAny_bind (wpAny_runValue (codeAny_builtin F.entry_proto_collect ?_))
 rw[Around.under_plainId F.plain_proto_collect _]
 show wpAny _ A.in1 (newList [] >>= fun l=>again (.builtin "list.__iadd__" ⟨[l,.ref S],[]⟩)) _ _ s
 refine wpAny_bind (wpAny_newObj_type (wpAny_pure ⟨plainId_quiet F.plain_list_iadd _,codeAny_builtin F.entry_list_iadd ?_⟩))
 rw[Around.under_plainId F.plain_list_iadd _]
 show wpAny _ A.in1 (Builtin.List.listExtendWith (.ref s.heap.objs.size) (.ref S) (.ref s.heap.objs.size)) _ _ { s with heap:=s.heap.push { cls:=.type "list",data:=.seq ([]:List Value).toArray } }
 have hl1:(s.heap.push { cls:=.type "list",data:=.seq ([]:List Value).toArray }).get? s.heap.objs.size=some { cls:=.type "list",data:=.seq ([]:List Value).toArray }:=Heap.get?_push_size _ rfl
 have kp1:∀ c q,s.heap.get? c=some q→(s.heap.push { cls:=.type "list",data:=.seq ([]:List Value).toArray }).get? c=some q:=fun c q e=>Heap.get?_push_of_some _ e
 have zz:(s.heap.push { cls:=.type "list",data:=.seq ([]:List Value).toArray }).objs.size=s.heap.objs.size+1:=Heap.size_push _ _
 generalize s.heap.push { cls:=.type "list",data:=.seq ([]:List Value).toArray }=h1 at hl1 kp1 zz ⊢
 have hS1:SetI prog w (!w.params.followText "set-order") h1 S L:=hS.at fun q e=>kp1 S q e
 unfold Builtin.List.listExtendWith
 refine wpAny_bind (wpAny_typeOf (T := "set") ⟨o,kp1 S o g,x.1⟩ ?_)
 have e1:Builtin.List.listSameRef (.ref s.heap.objs.size) (.ref S)=false:=by
  have:s.heap.objs.size≠S:=Nat.ne_of_gt sz
  simp [Builtin.List.listSameRef,this]
 have e2:(Value.type "set" == Value.type "list")=false:=by decide
 have e3:(Value.type "set" == Value.type "tuple")=false:=by decide
 simp only [e1,e2,e3,Bool.or_false,Bool.false_eq_true,if_false]
 refine wpAny_bind (set_iter (s:={ s with heap:=h1 }) hS1 fun I h2 d2 fp P St Wk st0 hI hfp hIge kp2 yl=>?_)
 refine wpAny_bind (wpAny_holding (hint_set ⟨o,kp2 S o (kp1 S o g),x.1⟩ ?_))
 refine ite_of (by decide +kernel) ?_
 refine wpAny_bind (wpAny_rule (wpAny_bind ?_))
 show wpAny _ A.in1 (updateSeq s.heap.objs.size (·.push .none) >>= fun _=>updateSeq s.heap.objs.size (·.pop)) _ _ _
 have hl2:=kp2 _ _ hl1
 refine wpAny_bind (wpAny_updateSeq hl2 rfl ?_)
 have hl3:=Heap.get?_update_self (Obj.mapSeq (·.push Value.none)) hl2 rfl
 refine wpAny_updateSeq hl3 rfl ?_
 have hl4:=Heap.get?_update_self (Obj.mapSeq (·.pop)) hl3 rfl
 have kp4:∀ c q,c≠s.heap.objs.size→h2.get? c=some q→((h2.update s.heap.objs.size (Obj.mapSeq (·.push Value.none))).update s.heap.objs.size (Obj.mapSeq (·.pop))).get? c=some q:=
  fun c q hc e=>(Heap.get?_update_other _ _ (Ne.symm hc)).trans ((Heap.get?_update_other _ _ (Ne.symm hc)).trans e)
 have off:s.heap.objs.size∉fp:=fun z=>by
  rcases hfp _ z with e | e
  ·exact absurd e (Nat.ne_of_gt sz)
  ·rw[zz] at e;exact absurd e (Nat.not_succ_le_self _)
 have neI:∀ c,c < s.heap.objs.size→c≠I:=fun c hc e=>by
  rw[zz] at hIge
  exact absurd (Nat.lt_of_lt_of_le (Nat.lt_succ_of_lt hc) hIge) (by rw[e];exact Nat.lt_irrefl _)
 refine wpAny_pure ⟨plainId_quiet F.plain_extend_loop _,codeAny_extend_loopS ((Wk A.in1 hh).toS) hL _ off _ L.length 0 _ _ _ rfl (Nat.zero_le _)
  ((Wk A.in1 hh).frame 0 h2 _ st0 fun c hc q e=>kp4 c q (fun z=>off (z ▸ hc)) e) hl4 (ItemsOf.nil P) fun s5 acc n5 mv hl5 ha=>?_⟩
 obtain⟨h5,g5,d5,tk5,os5⟩:=s5
 obtain rfl:g5=s.gens:=mv.gens
 obtain rfl:d5=d2:=mv.drawn
 obtain rfl:os5=s.os:=mv.os
 show wpAny _ A (load s.heap.objs.size >>= _) _ _ _
 refine wpAny_bind (wpAny_load hl5 (wpAny_pure ?_))
 obtain⟨ms,i1,i2⟩:=yl acc ha
 have keep:∀ c q,s.heap.get? c=some q→h5.get? c=some q:=fun c q e=>by
  have hc:=Heap.lt_size e
  refine mv.heap c q ?_ (kp4 c q (Nat.ne_of_lt hc) (kp2 c q (kp1 c q e)))
  simp only [List.mem_cons,List.mem_singleton,List.not_mem_nil,or_false,not_or]
  exact⟨Nat.ne_of_lt hc,neI c hc⟩
 refine k h5 _ tk5 _ ms i1 i2 keep ?_
 exact Nat.le_of_lt (Heap.lt_size hl5)
theorem sorted_set {Q:Value→Shared→Prop} (hh:A.handled=none) (hS:SetI prog w (!w.params.followText "set-order") s.heap S L) (h64:L.length < 64)
  (k:∀ (l:Addr) (h':Heap) (d':Drawn) (tk:Nat) (out:Array Value) (ms:List Int) (e:Nat),IntsAre out.toList ms→ms.Perm L→ms.Pairwise (·≤·)→s.heap.objs.size≤l→h'.get? l=some (seqObj "list" out e)→
   (∀ c q,s.heap.get? c=some q→h'.get? c=some q)→Q (.ref l) { s with heap:=h',drawn:=d',toks:=tk }) :
  wpAny (model prog w) A (call (.builtin "sorted") [.ref S]) Q E s:=by
 refine Calls.call_function_entry kind_sorted plain_sorted entry_sorted (args_sorted1 _) ?_
 unfold Builtin.«sorted»
 refine wpAny_bind (m:=checkCount "sorted" 1 1 _) (wpAny_pure ?_)
 refine wpAny_bind (collect_set hh hS (by rw[sizeLine_eq];omega) fun h1 d1 tk1 vs ns i1 i2 keep le=>?_)
 have hv:vs.length < 64:=by rw[IntsAre.length i1,i2.length_eq];exact h64
 refine wpAny_bind (wpAny_newList ?_)
 have hoL:(h1.push (seqObj "list" vs.toArray 0)).get? h1.objs.size=some (seqObj "list" vs.toArray 0):=Heap.get?_push_size _ rfl
 refine wpAny_bind (wpAny_holding (wpAny_call_entry slot_list_sort ⟨_,hoL,rfl⟩ entry_list_sort (list_sort_tree hoL i1 hv fun out ms a1 a2 a3=>⟨_,rfl,?_⟩) (args_list_sort _)))
 obtain⟨e,he⟩:=sortedHeap_at (vs:=vs) (out:=out) hoL
 refine wpAny_pure ⟨_,rfl,k h1.objs.size _ _ _ out ms e a1 (a2.trans i2) a3 le he fun c q hc=>?_⟩
 have hlt:=Heap.lt_size (keep c q hc)
 rw[sortedHeap_old (Nat.ne_of_lt hlt) (by rw[size_push'];exact Nat.lt_succ_of_lt hlt)]
 exact Heap.get?_push_of_some _ (keep c q hc)
end
end TwS
namespace L2
open PySem PySem.Spec PyProof.Rows TwZ TwS
noncomputable def setO (P:Program) (w:World) (a:Addr) (L:List Int):HO:=.ext fun h=>SetI P w (!w.params.followText "set-order") h a L
noncomputable def ddL (ns:List Int):List Int:=dd (fun i=>ns.getD i 0) ns.length
theorem ddL_mem {ns:List Int}{k:Int}:k∈ddL ns↔k∈ns:=by
 unfold ddL
 rw[dd_mem]
 constructor
 ·rintro⟨i,hi,e⟩
  rw[List.getD_eq_getElem?_getD,List.getElem?_eq_getElem hi] at e
  rw[← e]
  exact List.getElem_mem hi
 ·intro h
  obtain⟨i,hi,e⟩:=List.mem_iff_getElem.1 h
  exact⟨i,hi,by rw[List.getD_eq_getElem?_getD,List.getElem?_eq_getElem hi,e];rfl⟩
theorem ddL_nodup (ns:List Int):(ddL ns).Nodup:=dd_nodup _ _
theorem ddL_len (ns:List Int):(ddL ns).length≤ns.length:=dd_len _ _
section
variable {X:Cx}{pins:List (Addr×Obj)}{σ:St}{H:Hp}{s:Shared}
theorem Inv.drew {d:Drawn} (I:Inv X pins σ H s):Inv X pins σ H { s with drawn:=d }:=⟨I.ok,I.os,I.bare,I.base,I.loc,I.cell,I.free,I.freeC,I.pin,I.hok,I.len⟩
noncomputable def rSet (P:Program) (w:World) (K:PySem.W.Frag):List V→Hp→VK→Prop:=fun xs H Q=>∃ (p:Addr) (ns:List Int),xs=[.ref p]∧bT K H p (ns.map V.int)∧ns.length≤1000∧∀ a,H a=none→Q (.ref a) (upd H a (setO P w a (ddL ns)))
theorem call_setB (hc:X.calm=true):eJ X (.type "set") (rSet X.prog X.w X.K):=by
 intro pins s σ H xs us Q I r h
 obtain⟨p,ns,rfl,hq,hn,q⟩:=h
 obtain⟨u,rfl,ru⟩:=r.one
 cases ru
 obtain⟨its,rv,p1,hz⟩:=I.list hq
 have ia:=intsAre_of rv
 have il:its.length=ns.length:=IntsAre.length ia
 refine call_set (I.ok.hd hc) p1.isList (by simpa using ia) (by rw[List.size_toArray,il];unfold scanBound;omega) fun h' tk hS hk=>?_
 rw[show its.toArray.size=ns.length by rw[List.size_toArray,il]] at hS
 obtain⟨o,es,ep,t,g,r⟩:=id hS
 exact⟨.ref s.heap.objs.size,_,I.laid (fun b u e=>hk b u (Heap.lt_size e) e) (Nat.le_refl _) (show cZ X.prog X.w _ h' _ (setO X.prog X.w s.heap.objs.size (ddL ns)) from ⟨hS,⟨o,g⟩,fun h1 h2 x e=>x.at e⟩),rfl,q _ I.fresh⟩
noncomputable def rSrt (P:Program) (w:World):List V→Hp→VK→Prop:=fun xs H Q=>∃ (a:Addr) (L:List Int),xs=[.ref a]∧H a=some (setO P w a L)∧L.length < 64∧∀ (l:Addr) (ms:List Int),H l=none→ms.Perm L→ms.Pairwise (·≤·)→Q (.ref l) (upd H l (.lst (ms.map V.int)))
theorem vals_intsS:∀ {vs:List Value}{ns:List Int},IntsAre vs ns→bX (ns.map V.int) vs
 | _,_,.nil=>.nil
 | _,_,.cons n t h=>.cons ⟨t,rfl⟩ (vals_intsS h)
theorem call_srtB (hc:X.calm=true):eJ X (.builtin "sorted") (rSrt X.prog X.w):=by
 intro pins s σ H xs us Q I r h
 obtain⟨a,L,rfl,hq,hn,q⟩:=h
 obtain⟨u,rfl,ru⟩:=r.one
 cases ru
 obtain⟨hS,_,_⟩:SetI X.prog X.w (!X.w.params.followText "set-order") s.heap a L∧_:=I.hok a _ hq
 refine sorted_set (I.ok.hd hc) hS hn fun l h' d' tk out ms e i1 i2 i3 le hl keep=>?_
 refine⟨.ref l,upd H l (.lst (ms.map V.int)),(I.drew (d:=d')).laid keep le (show cZ X.prog X.w _ h' _ (.lst (ms.map V.int)) from ⟨?_,out.toList,e,vals_intsS i1,by rw[Array.toArray_toList];exact hl⟩),rfl,q l ms (I.hok.fresh le) i2 i3⟩
 rw[List.length_map,i2.length_eq,sizeLine_eq]
 omega
theorem call_setK {P:Program}{w:World}{K:PySem.W.Frag} (hP:X.prog=P) (hw:X.w=w) (hK:X.K=K) (hc:X.calm=true):eJ X (.type "set") (rSet P w K):=by
 subst hP hw hK
 exact call_setB hc
theorem call_srtK {P:Program}{w:World} (hP:X.prog=P) (hw:X.w=w) (hc:X.calm=true):eJ X (.builtin "sorted") (rSrt P w):=by
 subst hP hw
 exact call_srtB hc
theorem boot_setT:bootBuiltins "set" = some (.type "set"):=by decide +kernel
end
structure Rises (ns ms:List Int):Prop where
 up:ms.Pairwise (· < ·)
 mem:∀ k,k∈ms↔k∈ns
theorem rises_of {ns ms:List Int} (p:ms.Perm (ddL ns)) (h:ms.Pairwise (·≤·)):Rises ns ms where
 up:=by
  have nd:ms.Nodup:=p.nodup_iff.2 (ddL_nodup ns)
  exact (h.and nd).imp fun {a b} z=>by have:=z.1;have:=z.2;omega
 mem:=fun k=>by rw[p.mem_iff,ddL_mem]
end L2
namespace Tw
open PySem L2
section
variable {P:Program}{w:World}{K:PySem.W.Frag}{mg:Str→Option Value}{base:Heap}{C c_TipError c_NoNet c_NoVessel c_TooLong c_TooMany c_TooMuch c_Nothing c_NoText c_NoRow:Addr}
end
end Tw
namespace Tw
open PySem L2
section
variable {P:Program}{w:World}{K:PySem.W.Frag}{mg:Str→Option Value}{base:Heap}{C c_TipError c_NoNet c_NoVessel c_TooLong c_TooMany c_TooMuch c_Nothing c_NoText c_NoRow:Addr}
end
end Tw
namespace Tw
open PySem L2
section
variable {P:Program}{w:World}{K:PySem.W.Frag}{mg:Str→Option Value}{base:Heap}{C c_TipError c_NoNet c_NoVessel c_TooLong c_TooMany c_TooMuch c_Nothing c_NoText c_NoRow:Addr}
end
end Tw
namespace L2
open PySem PySem.Spec PyProof.Rows
end L2
namespace Tw
open PySem L2
section
variable {P:Program}{w:World}{K:PySem.W.Frag}{mg:Str→Option Value}{base:Heap}{C c_TipError c_NoNet c_NoVessel c_TooLong c_TooMany c_TooMuch c_Nothing c_NoText c_NoRow:Addr}
end
end Tw
namespace Tw
open PySem L2
section
variable {P:Program}{w:World}{K:PySem.W.Frag}{mg:Str→Option Value}{base:Heap}{C c_TipError c_NoNet c_NoVessel c_TooLong c_TooMany c_TooMuch c_Nothing c_NoText c_NoRow:Addr}
end
end Tw
namespace Tw
open PySem L2
section
variable {P:Program}{w:World}{K:PySem.W.Frag}{mg:Str→Option Value}{base:Heap}{C c_TipError c_NoNet c_NoVessel c_TooLong c_TooMany c_TooMuch c_Nothing c_NoText c_NoRow:Addr}
end
end Tw
namespace Tw
open PySem L2
end Tw
namespace Tw
open PySem L2
section
variable {net:Net}{w:Nat}{S:List Nat}
theorem goes_zero {v:Vs}{t:Option Int} (h1:t∉v.outs.map (·.1)) (h2:t≠v.spill) (h3:t≠none) (a:Int):b0 t (cR v a)=0:=by
 have z:∀ (q:Int) (l:List (Option Int×Int)),t∉l.map (·.1)→b0 t (l.map fun o=>(o.1,q * o.2))=0:=by
  intro q l
  induction l with
  | nil=>intro _;rfl
  | cons o l ih=>
   intro h
   rw[List.map_cons,List.mem_cons] at h
   show (if o.1=t then q * o.2 else 0)+b0 t (l.map fun o=>(o.1,q * o.2))=0
   rw[if_neg fun e=>h (.inl e.symm),ih fun e=>h (.inr e)];rfl
 unfold cR
 show (if v.spill=t then a - bI v a else 0)+b0 t _=0
 rw[if_neg (Ne.symm h2)]
 split
 ·rw[cK]
  unfold eN
  rw[z _ _ h1]
  split
  ·rfl
  ·show 0+(0+((if none=t then _ else 0)+0))=(0:Int)
   rw[if_neg (Ne.symm h3)];rfl
 ·rfl
end
end Tw
namespace Tw
open PySem L2
theorem counted_lo (f:Nat→Int) {t n:Nat} (h:n≤t):((eO f t).take n).sum=bW f 0 n:=by rw[take_seqI,sum_seqI,Nat.min_eq_left h]
theorem counted_hi {f:Nat→Int}{a l n:Nat} (hl:1≤l) (p:Per f a l) (h:a < n):bW f 0 (a+(n - a) % l)+(((n - a) / l:Nat):Int) * bW f a l=bW f 0 n:=by
 have:=by_all hl p n
 unfold by_ at this
 rw[if_neg (by omega)] at this
 exact this
theorem not_long_at {net:Net}{i j:Nat} (hij:i < j) (hj:j≤2000) (e:bZ net i=bZ net j):¬ Long net:=fun hL=>by
 have h1:=seen_has (net:=net) j hij
 have h3:=hL j hj
 unfold repAt at h3
 rw[e,h3] at h1
 cases h1
theorem sum_tip_lt {net:Net}{v A B:Nat} (hAB:A < B) (hA:v∈cI net A):bW (bF net v) 0 A < bW (bF net v) 0 B:=by
 have e1:=cM (bF net v) 0 A (B - A)
 rw[show A+(B - A)=B by omega,Nat.zero_add] at e1
 have e2:=cM (bF net v) A 1 (B - A - 1)
 rw[show 1+(B - A - 1)=B - A by omega] at e2
 have e3:bW (bF net v) A 1=1:=by show 0+bF net v (A+0)=1;unfold bF;rw[Nat.add_zero,if_pos hA];rfl
 have e4:=sumR_tipI net v (A+1) (B - A - 1)
 omega
theorem tickN_at {net:Net}{v a t n k T:Nat} (r:Rnd net a t) (h:(aR net n v)[k]? = some T):eW net v a t (k+1)=some T:=by
 obtain⟨_,h1,h2⟩:=tips_at _ _ _ h
 have hs:∃ T',eW net v a t (k+1)=some T':=by
  by_cases c:k+1≤(aR net t v).length
  ·unfold eW
   rw[if_pos ⟨by omega,c⟩]
   exact⟨_,List.getElem?_eq_getElem (by omega)⟩
  ·refine tickN_some r (by omega) ⟨T,?_,h1⟩
   rcases Nat.lt_or_ge T t with z | z
   ·have:=sum_tip_lt z h1
    rw[eF net v t,h2] at this
    omega
   ·have:=r.lt;omega
 obtain⟨T',e⟩:=hs
 obtain⟨_,h3,h4⟩:=tickN_right r e
 have:T=T':=tick_uniq h1 h3 (by rw[h2,h4];simp)
 rw[e,this]
theorem later_len8 {net:Net}{v a t:Nat} (h:a < t):bW (bF net v) a (t - a)=((aW net v a t).length:Int)∧(aR net t v).length=(aR net a v).length+(aW net v a t).length:=by
 have hsp:=tips_split net v a (t - a)
 rw[show a+(t - a)=t by omega] at hsp
 have hsp':aR net t v=aR net a v++aW net v a t:=hsp
 have hlen:(aR net t v).length=(aR net a v).length+(aW net v a t).length:=by rw[hsp',List.length_append]
 refine⟨?_,hlen⟩
 have e1:=cM (bF net v) 0 a (t - a)
 rw[show a+(t - a)=t by omega,Nat.zero_add,eF,eF,hlen] at e1
 omega
theorem tickN_none {net:Net}{v a t:Nat} (r:Rnd net a t) (h0:bW (bF net v) a (t - a)=0):eW net v a t ((aR net (a+3 * (t - a)) v).length+1)=none:=by
 have hl:=r.lt
 obtain⟨h1,h2⟩:=later_len8 (net:=net) (v:=v) hl
 have hL:aW net v a t=[]:=List.eq_nil_of_length_eq_zero (by omega)
 have e:((aR net (a+3 * (t - a)) v).length:Int)=((aR net t v).length:Int):=by
  rw[← eF,← eF]
  have p:=r.tip v
  have e1:=cM (bF net v) 0 a (3 * (t - a))
  have e2:=cM (bF net v) 0 a (t - a)
  rw[show a+(t - a)=t by omega] at e2
  rw[Nat.zero_add] at e1 e2
  rw[per_rounds p (Nat.le_refl _) 3,h0] at e1
  rw[h0] at e2
  omega
 unfold eW
 rw[if_neg (by omega),if_pos (.inr hL)]
theorem tickN_far {net:Net}{v a t num:Nat} (r:Rnd net a t) (h0:bW (bF net v) a (t - a)≠0) (h1:1≤num):∃ T,eW net v a t num=some T∧bW (bF net v) 0 T=(num:Int) - 1∧bW (bF net v) 0 (T+1)=(num:Int):=by
 have hi:∃ T,a≤T∧v∈cI net T:=by
  by_cases c:∃ T,a≤T∧v∈cI net T
  ·exact c
  ·exfalso
   apply h0
   have:∀ d,bW (bF net v) a d=0:=by
    intro d
    induction d with
    | zero=>rfl
    | succ d ih=>
     show bW (bF net v) a d+bF net v (a+d)=0
     rw[ih]
     unfold bF
     rw[if_neg fun z=>c ⟨a+d,by omega,z⟩];rfl
   exact this _
 obtain⟨T,e⟩:=tickN_some r h1 hi
 obtain⟨_,h3,h4⟩:=tickN_right r e
 refine⟨T,e,by rw[h4];omega,?_⟩
 show bW (bF net v) 0 T+bF net v (0+T)=_
 rw[h4,Nat.zero_add]
 unfold bF
 rw[if_pos h3];omega
noncomputable def n2V (b:Nat):Vs:=⟨(b:Int),(b:Int),[(none,1)],false,none,[]⟩
noncomputable def n2 (a b:Nat):Net:=⟨[⟨(a:Int),(a:Int),[(some 1,1),(none,(a:Int) - 1)],false,none,[]⟩,n2V b],[(0,1,true)]⟩
theorem n2_vs {a b:Nat} (h:2≤a):(n2 a b).vs=(bQ [a,b]).vs.set 1 (n2V b):=by
 show [_,n2V b]=[ctrV 2 0 a,ctrV 2 1 b].set 1 (n2V b)
 show [_,n2V b]=[ctrV 2 0 a,n2V b]
 unfold ctrV oneOn tgtC
 rw[if_pos (by omega),if_pos (by omega)];rfl
theorem n2_goes {a b:Nat} (h:Int) (k:Int):b0 (some k) (cR (n2V b) h)=b0 (some k) (cR (ctrV 2 1 b) h):=by
 rw[goes_zero (v:=n2V b) (by simp [n2V]) (by simp [n2V]) (by simp),goes_zero (v:=ctrV 2 1 b) ?_ (by simp [ctrV]) (by simp)]
 have e:tgtC 2 1=none:=by unfold tgtC;rw[if_neg (by decide)]
 unfold ctrV oneOn
 rw[e]
 split <;> simp
theorem n2_tick {a b:Nat} (h2:2≤a) {h c p:List Int}{d:List Bool} (lh:(aM (bQ [a,b]) h c p d).length=2) :
  (cF (n2 a b) h c p d).held=(cF (bQ [a,b]) h c p d).held∧(cF (n2 a b) h c p d).coming=(cF (bQ [a,b]) h c p d).coming∧(cF (n2 a b) h c p d).doors=(cF (bQ [a,b]) h c p d).doors∧(cF (n2 a b) h c p d).tip=(cF (bQ [a,b]) h c p d).tip:=by
 have eh:aM (n2 a b) h c p d=aM (bQ [a,b]) h c p d:=rfl
 have ev:=n2_vs (b:=b) h2
 have hat:(bQ [a,b]).vs[1]? = some (ctrV 2 1 b):=rfl
 obtain⟨x,hx⟩:∃ x,(aM (bQ [a,b]) h c p d)[1]? = some x:=⟨_,List.getElem?_eq_getElem (by omega)⟩
 have et:aX 0 (n2 a b).vs (aM (n2 a b) h c p d)=aX 0 (bQ [a,b]).vs (aM (bQ [a,b]) h c p d):=by
  rw[eh,ev];exact tips_set (ctrV 2 1 b) (n2V b) (fun h=>rfl) _ _ _ _ hat
 refine⟨?_,?_,?_,et⟩
 ·show cE (n2 a b).vs _=cE (bQ [a,b]).vs _
  rw[eh,ev]
  exact stays_set (ctrV 2 1 b) (n2V b) (fun h=>rfl) _ _ _ hat
 ·show cN (n2 a b).vs.length (bN (n2 a b).vs _)=cN (bQ [a,b]).vs.length (bN (bQ [a,b]).vs _)
  rw[eh,show (n2 a b).vs.length=(bQ [a,b]).vs.length from rfl,ev]
  unfold cN
  refine List.map_congr_left fun k _=>?_
  have:=goes_set (some (k:Int)) _ (n2V b) _ (bQ [a,b]).vs _ 1 hat hx
  rw[n2_goes (a:=a)] at this
  omega
 ·show bO (n2 a b).vs _ (aX 0 (n2 a b).vs _)=bO (bQ [a,b]).vs _ (aX 0 (bQ [a,b]).vs _)
  rw[et,ev]
  exact doors_set (ctrV 2 1 b) (n2V b) _ _ hat rfl _ _
section
variable {a b:Nat}
theorem c2_ok (ha:2≤a) (hb:1≤b) (ha':a≤60) (hb':b≤60):NetOk (bQ [a,b]):=ctr_ok (by simp) (show 2≤12 by decide) fun s hs=>by
 simp at hs;omega
theorem n2_sta (ha:2≤a) (hb:1≤b) (ha':a≤60) (hb':b≤60):∀ i,bZ (n2 a b) i=bZ (bQ [a,b]) i
 | 0=>rfl
 | i+1=>by
  have ok:=c2_ok ha hb ha' hb'
  have st:=sta_ok ok i
  have lh:(aM (bQ [a,b]) (bZ (bQ [a,b]) i).held (bZ (bQ [a,b]) i).coming (bV 2) (bZ (bQ [a,b]) i).doors).length=2:=by
   unfold aM;rw[eY,add3_len st.h st.c (zeros_len 2)];rfl
  obtain⟨k1,k2,k3,_⟩:=n2_tick ha lh
  show (bZ (n2 a b) i).next (n2 a b)=(bZ (bQ [a,b]) i).next (bQ [a,b])
  rw[n2_sta ha hb ha' hb' i]
  unfold Sta.next Sta.tk
  show Sta.mk (cF (n2 a b) _ _ (bV 2) _).held (cF (n2 a b) _ _ (bV 2) _).coming (cF (n2 a b) _ _ (bV 2) _).doors=Sta.mk (cF (bQ [a,b]) _ _ (bV 2) _).held (cF (bQ [a,b]) _ _ (bV 2) _).coming (cF (bQ [a,b]) _ _ (bV 2) _).doors
  rw[k1,k2,k3]
theorem n2_tip (ha:2≤a) (hb:1≤b) (ha':a≤60) (hb':b≤60):cI (n2 a b)=cI (bQ [a,b]):=by
 funext i
 have ok:=c2_ok ha hb ha' hb'
 have st:=sta_ok ok i
 have lh:(aM (bQ [a,b]) (bZ (bQ [a,b]) i).held (bZ (bQ [a,b]) i).coming (bV 2) (bZ (bQ [a,b]) i).doors).length=2:=by
  unfold aM;rw[eY,add3_len st.h st.c (zeros_len 2)];rfl
 obtain⟨_,_,_,k4⟩:=n2_tick ha lh
 unfold cI Sta.tk
 rw[n2_sta ha hb ha' hb' i]
 exact k4
theorem n2_rnd (ha:2≤a) (hb:1≤b) (ha':a≤60) (hb':b≤60) {x t:Nat} (r:Rnd (n2 a b) x t):Rnd (bQ [a,b]) x t:=
 { r with eq:=by rw[← n2_sta ha hb ha' hb',← n2_sta ha hb ha' hb'];exact r.eq }
theorem n2_tickN (ha:2≤a) (hb:1≤b) (ha':a≤60) (hb':b≤60) {x t num:Nat} (r:Rnd (n2 a b) x t) (h:1≤num):eW (n2 a b) 0 x t num=some (num * a - 1)∧eW (n2 a b) 1 x t num=some (num * (a * b)):=by
 have e:∀ v,eW (n2 a b) v x t num=eW (bQ [a,b]) v x t num:=fun v=>by
  unfold eW aW aR
  rw[n2_tip ha hb ha' hb']
 have h1:∀ s∈[a,b],1≤s:=fun s hs=>by simp at hs;omega
 have r':=n2_rnd ha hb ha' hb' r
 have p1:pAt 1 [a,b] (0+1)=a:=by show 1 * a=a;omega
 have p2:pAt 1 [a,b] (1+1)=a * b:=by show 1 * a * b=a * b;rw[Nat.one_mul]
 have k0:=ctr_tick (S:=[a,b]) (by simp) h1 (v:=0) (show 0 < 2 by decide) r' h
 have k1:=ctr_tick (S:=[a,b]) (by simp) h1 (v:=1) (show 1 < 2 by decide) r' h
 rw[p1] at k0
 rw[p2] at k1
 refine⟨by rw[e,k0];rfl,?_⟩
 rw[e,k1]
 have:1≤num * (a * b):=Nat.mul_pos h (Nat.mul_pos (by omega) (by omega))
 congr 1;omega
theorem n2_by (ha:2≤a) (hb:1≤b) (ha':a≤60) (hb':b≤60) {x t:Nat} (r:Rnd (n2 a b) x t) (n:Nat):by_ (bF (n2 a b) 0) x (t - x) n=((n / a:Nat):Int)∧by_ (bF (n2 a b) 1) x (t - x) n=(((n - 1) / (a * b):Nat):Int):=by
 have hl:=r.lt
 have h1:∀ s∈[a,b],1≤s:=fun s hs=>by simp at hs;omega
 have e:∀ v,bF (n2 a b) v=bF (bQ [a,b]) v:=fun v=>by
  funext i
  unfold bF
  rw[n2_tip ha hb ha' hb']
 have p1:pAt 1 [a,b] (0+1)=a:=by show 1 * a=a;omega
 have p2:pAt 1 [a,b] (1+1)=a * b:=by show 1 * a * b=a * b;rw[Nat.one_mul]
 have k0:=ctr_sum (S:=[a,b]) (by simp) h1 (v:=0) (show 0 < 2 by decide) n
 have k1:=ctr_sum (S:=[a,b]) (by simp) h1 (v:=1) (show 1 < 2 by decide) n
 rw[p1] at k0
 rw[p2] at k1
 exact⟨by rw[by_all (by omega) (r.tip 0),e,k0];rfl,by rw[by_all (by omega) (r.tip 1),e,k1]⟩
theorem n2_round (ha:2≤a) (hb:1≤b) (ha':a≤60) (hb':b≤60) (h:a * b≤1999):¬ Long (n2 a b):=by
 have h1:∀ s∈[a,b],1≤s:=fun s hs=>by simp at hs;omega
 have hm:1≤a * b:=Nat.mul_pos (by omega) (by omega)
 refine not_long_at (i:=1) (j:=a * b+1) (by omega) (by omega) ?_
 rw[n2_sta ha hb ha' hb',n2_sta ha hb ha' hb',ctr_sta (by simp) h1,ctr_sta (by simp) h1]
 have e1:(a * b+1) % a=1 % a:=by rw[Nat.add_comm,Nat.add_mul_mod_self_left]
 have e2:(a * b) / a % b=0:=by rw[Nat.mul_div_cancel_left b (by omega),Nat.mod_self]
 have e3:a ∣ a * b+1↔a ∣ 1:=by
  rw[Nat.dvd_add_right (Nat.dvd_mul_right a b)]
 show Sta.mk [((dO 1 0 1 a:Nat):Int),((dO 1 1 (1 * a) b:Nat):Int)] [((comC 1 0 1 a:Nat):Int),((comC 1 1 (1 * a) b:Nat):Int)] [true]=Sta.mk [((dO (a * b+1) 0 1 a:Nat):Int),((dO (a * b+1) 1 (1 * a) b:Nat):Int)] [((comC (a * b+1) 0 1 a:Nat):Int),((comC (a * b+1) 1 (1 * a) b:Nat):Int)] [true]
 have q1:dO 1 0 1 a=dO (a * b+1) 0 1 a:=by unfold dO;rw[Nat.sub_zero,Nat.sub_zero,Nat.div_one,Nat.div_one,e1]
 have q2:dO 1 1 (1 * a) b=dO (a * b+1) 1 (1 * a) b:=by
  unfold dO
  rw[Nat.one_mul,Nat.sub_self,Nat.zero_div,Nat.zero_mod,show a * b+1 - 1=a * b by omega,e2]
 have q3:comC 1 0 1 a=comC (a * b+1) 0 1 a:=by unfold comC;rw[if_neg (by omega),if_neg (by omega)]
 have q4:comC 1 1 (1 * a) b=comC (a * b+1) 1 (1 * a) b:=by
  unfold comC
  rw[Nat.one_mul,show 1+1 - 1=1 from rfl,show a * b+1+1 - 1=a * b+1 by omega]
  by_cases c:a ∣ 1
  ·rw[if_pos ⟨by omega,by omega,c⟩,if_pos ⟨by omega,by omega,e3.2 c⟩]
  ·rw[if_neg (fun z=>c z.2.2),if_neg (fun z=>c (e3.1 z.2.2))]
 rw[q1,q2,q3,q4]
theorem n2_ok (ha:2≤a) (hb:1≤b) (ha':a≤60) (hb':b≤60):NetOk (n2 a b) where
 lo:=by show 1≤2;decide
 hi:=by show 2≤12;decide
 sp:=by show 1≤12;decide
 vs:=fun v hv=>by
  have hv:v∈[(⟨(a:Int),(a:Int),[(some 1,1),(none,(a:Int) - 1)],false,none,[]⟩:Vs),n2V b]:=hv
  rcases List.mem_cons.1 hv with rfl | hv
  ·refine⟨by show (1:Int)≤(a:Int);omega,by simp,(show 2≤3 by decide),fun o ho=>?_,fun t h=>(nomatch h),(show 0≤3 by decide),fun a ha=>(nomatch ha)⟩
   have ho:o∈[((some 1,1):Option Int×Int),(none,(a:Int) - 1)]:=ho
   rcases List.mem_cons.1 ho with rfl | ho
   ·exact⟨fun t h=>(by cases h;exact⟨by decide,by show (1:Int) < ((2:Nat):Int);decide⟩),by decide,by decide⟩
   ·have:=List.mem_singleton.1 ho
    subst this
    exact⟨fun t h=>(by cases h),by show (1:Int)≤(a:Int) - 1;omega,by show (a:Int) - 1≤60;omega⟩
  ·have:=List.mem_singleton.1 hv
   subst this
   refine⟨by show (1:Int)≤(b:Int);omega,by simp [n2V],(show 1≤3 by decide),fun o ho=>?_,fun t h=>(nomatch h),(show 0≤3 by decide),fun a ha=>(nomatch ha)⟩
   have ho:o∈[((none,1):Option Int×Int)]:=ho
   have:=List.mem_singleton.1 ho
   subst this
   exact⟨fun t h=>(by cases h),by decide,by decide⟩
 sps:=fun s hs=>by
  have hs:s∈[((0,1,true):Spt)]:=hs
  have:=List.mem_singleton.1 hs
  subst this
  exact⟨by decide,by show (0:Int) < ((2:Nat):Int);decide⟩
end
noncomputable def holdN (s f:Nat):Net:=⟨[⟨(s:Int),(s:Int),[(some 0,1),(none,(s:Int))],true,none,[]⟩],[(0,(f:Int),true)]⟩
theorem hold_ok {s f:Nat} (h1:1≤s) (h2:s≤60):NetOk (holdN s f) where
 lo:=by show 1≤1;decide
 hi:=by show 1≤12;decide
 sp:=by show 1≤12;decide
 vs:=fun v hv=>by
  have hv:v∈[(⟨(s:Int),(s:Int),[(some 0,1),(none,(s:Int))],true,none,[]⟩:Vs)]:=hv
  have:=List.mem_singleton.1 hv
  subst this
  refine⟨by show (1:Int)≤(s:Int);omega,by simp,(show 2≤3 by decide),fun o ho=>?_,fun t h=>(nomatch h),(show 0≤3 by decide),fun a ha=>(nomatch ha)⟩
  have ho:o∈[((some 0,1):Option Int×Int),(none,(s:Int))]:=ho
  rcases List.mem_cons.1 ho with rfl | ho
  ·exact⟨fun t h=>(by cases h;exact⟨by decide,by show (0:Int) < ((1:Nat):Int);decide⟩),by decide,by decide⟩
  ·have:=List.mem_singleton.1 ho
   subst this
   exact⟨fun t h=>(by cases h),by show (1:Int)≤(s:Int);omega,by show (s:Int)≤60;omega⟩
 sps:=fun q hs=>by
  have hs:q∈[((0,(f:Int),true):Spt)]:=hs
  have:=List.mem_singleton.1 hs
  subst this
  exact⟨by show (0:Int)≤0;decide,by show (0:Int) < ((1:Nat):Int);decide⟩
theorem hold_sta {s f:Nat} (h1:1≤s):∀ i,bZ (holdN s f) i=⟨[((min (i * f) s:Nat):Int)],[0],[true]⟩
 | 0=>by
  show (⟨[0],[0],[true]⟩:Sta)=_
  rw[Nat.zero_mul,Nat.zero_min];rfl
 | i+1=>by
  show (bZ (holdN s f) i).next (holdN s f)=_
  rw[hold_sta h1 i]
  generalize hx:min (i * f) s=x
  have hxs:x≤s:=by omega
  have ehas:aM (holdN s f) [(x:Int)] [0] (bV 1) [true]=[((x+f:Nat):Int)]:=by
   show [((x:Int)+0+0)+(f:Int)]=_
   rw[show ((x:Int)+0+0)+(f:Int)=((x+f:Nat):Int) by omega]
  have ehere:bI ⟨(s:Int),(s:Int),[(some 0,1),(none,(s:Int))],true,none,[]⟩ ((x+f:Nat):Int)=((min (x+f) s:Nat):Int):=by
   show min ((x+f:Nat):Int) (s:Int)=_;omega
  have ew:whole [((some 0,1):Option Int×Int),(none,(s:Int))]=(s:Int)+1:=by show (1:Int)+((s:Int)+0)=_;omega
  have e0:((min (x+f) s:Nat):Int) / ((s:Int)+1)=0:=Int.ediv_eq_zero_of_lt (by omega) (by omega)
  have e1:((min (x+f) s:Nat):Int) % ((s:Int)+1)=((min (x+f) s:Nat):Int):=Int.emod_eq_of_lt (by omega) (by omega)
  have estay:d9 ⟨(s:Int),(s:Int),[(some 0,1),(none,(s:Int))],true,none,[]⟩ ((x+f:Nat):Int)=((min (x+f) s:Nat):Int):=by
   unfold d9
   rw[ehere]
   show (if _=true then (if true=true then ((min (x+f) s:Nat):Int) % whole [((some 0,1):Option Int×Int),(none,(s:Int))] else 0) else ((min (x+f) s:Nat):Int))=_
   rw[if_pos (rfl:true=true),ew,e1]
   split <;> rfl
  have ego:b0 (some 0) (cR ⟨(s:Int),(s:Int),[(some 0,1),(none,(s:Int))],true,none,[]⟩ ((x+f:Nat):Int))=0:=by
   unfold cR eN
   rw[ehere]
   have es:∀ l:List (Option Int×Int),b0 (some 0) (((none:Option Int),((x+f:Nat):Int) - ((min (x+f) s:Nat):Int))::l)=b0 (some 0) l:=fun l=>by
    show (if (none:Option Int)=some 0 then _ else (0:Int))+b0 (some 0) l=_
    rw[if_neg (by simp),Int.zero_add]
   show b0 (some 0) (((none:Option Int),((x+f:Nat):Int) - ((min (x+f) s:Nat):Int))::(if _=true then ([((some 0:Option Int),((min (x+f) s:Nat):Int) / whole [((some 0,1):Option Int×Int),(none,(s:Int))] * 1),((none:Option Int),((min (x+f) s:Nat):Int) / whole [((some 0,1):Option Int×Int),(none,(s:Int))] * (s:Int))]++(if true=true then [] else _)) else []))=0
   rw[es,ew,e0,if_pos (rfl:true=true)]
   split
   ·simp [b0]
   ·rfl
  show Sta.mk (cE _ (aM (holdN s f) [(x:Int)] [0] (bV 1) [true])) (cN 1 (bN _ (aM (holdN s f) [(x:Int)] [0] (bV 1) [true]))) (bO (holdN s f).vs [true] (aX 0 _ (aM (holdN s f) [(x:Int)] [0] (bV 1) [true])))=_
  rw[ehas]
  have ed:bO (holdN s f).vs [true] (aX 0 (holdN s f).vs [((x+f:Nat):Int)])=[true]:=doorsL_none (fun v hv=>by
   have hv:v∈[(⟨(s:Int),(s:Int),[(some 0,1),(none,(s:Int))],true,none,[]⟩:Vs)]:=hv
   have:=List.mem_singleton.1 hv
   subst this;rfl) _ _
  rw[ed]
  show Sta.mk [d9 ⟨(s:Int),(s:Int),[(some 0,1),(none,(s:Int))],true,none,[]⟩ ((x+f:Nat):Int)] [b0 (some ((0:Nat):Int)) (cR ⟨(s:Int),(s:Int),[(some 0,1),(none,(s:Int))],true,none,[]⟩ ((x+f:Nat):Int)++[])] [true]=_
  rw[List.append_nil,estay,show (some ((0:Nat):Int))=some 0 from rfl,ego]
  have:min (x+f) s=min ((i+1) * f) s:=by rw[Nat.succ_mul];omega
  rw[this]
theorem hold_round {s f:Nat} (h1:1≤s) (h2:s≤60) (hf:1≤f):¬ Long (holdN s f):=by
 refine not_long_at (i:=s) (j:=s+1) (by omega) (by omega) ?_
 rw[hold_sta h1,hold_sta h1]
 have e1:s≤s * f:=Nat.le_mul_of_pos_right s hf
 have e2:s≤(s+1) * f:=Nat.le_trans e1 (Nat.mul_le_mul_right f (by omega))
 rw[Nat.min_eq_right e1,Nat.min_eq_right e2]
end Tw
namespace Tw
open PySem L2
section
variable {P:Program}{w:World}{K:PySem.W.Frag}{mg:Str→Option Value}{base:Heap}{C c_TipError c_NoNet c_NoVessel c_TooLong c_TooMany c_TooMuch c_Nothing c_NoText c_NoRow:Addr}
noncomputable def spCnt8 (K:PySem.W.Frag):Sp:=fun vs H Q _=>∃ (l:Addr) (f:Nat→Int) (a L n:Nat),vs=[.ref l,.int (a:Int),.int (L:Int),.int (n:Int)]∧H l=some (.lst ((eO f (a+3 * L)).map V.int))∧Per f a L∧1≤L∧a+3 * L≤100000∧
 -(2 ^ 60)≤bW f a L∧bW f a L≤2 ^ 60∧∀ H',aG H H'→Q (.int (bW f 0 n)) H'
theorem sc__law_counted:FnScope ["own","ahead","length","ticks","rounds","rest"] ["own","ahead","length","ticks"] (aJ (bE 32)):=⟨rfl,rfl,rfl,by decide +kernel,rfl,by decide +kernel,by decide +kernel⟩
theorem ok__law_counted {f:Addr}{fd:FuncData} (F:Fun K "_law_counted" "_law_counted" (bE 32) f fd) (T:Txt mg):FnOk P w K mg base CX0 1 f fd ["own","ahead","length","ticks"] (spCnt8 K):=by
 refine F.ok sc__law_counted (fun vs H Q E h=>?_) (fun cdv A outer s H vs Q E hr h=>?_)
 ·obtain⟨l,f,a,L,n,rfl,_⟩:=h;rfl
 ·obtain⟨D,f,a,L,n,rfl,hDl,per,h1,h2,b1,b2,k⟩:=h
  have sc:=sc__law_counted
  refine⟨_,(aD (dG (bJ op_le (pv 3) (aP (aY (K:=K) rfl) rfl T.b_len PySem.boot_len (aA (pv 0) aB)) (bU _)) (aL (bL (aP (cW (K:=K) rfl rfl) rfl T.b_sum PyProof.Rows.boot_sum (aA (pe_slice (sl_listK (K:=K) rfl) (pv 0) po_none (po_some (pv 3))) aB)))) bY)
   (aD (aS (i:=4) sc.nd rfl (Or.inl rfl) (aO fH (aO d7 (pv 3) (pv 1)) (pv 2)))
   (aD (aS (i:=5) sc.nd rfl (Or.inl rfl) (aO op_mod (aO d7 (pv 3) (pv 1)) (pv 2)))
   (aL (bL (aO bH (aP (cW (K:=K) rfl rfl) rfl T.b_sum PyProof.Rows.boot_sum (aA (pe_slice (sl_listK (K:=K) rfl) (pv 0) po_none (po_some (aO bH (pv 1) (pv 5)))) aB)) (aO eD (pv 4) (aP (cW (K:=K) rfl rfl) rfl T.b_sum PyProof.Rows.boot_sum (aA (pe_slice (sl_listK (K:=K) rfl) (pv 0) (po_some (pv 1)) (po_some (aO bH (pv 1) (pv 2)))) aB))))))))),?_⟩
  have hlen:((eO f (a+3 * L)).map V.int).length=a+3 * L:=by rw[List.length_map,eB]
  refine⟨_,rfl,_,rfl,D,_,rfl,.inl (bT.of hDl),_,_,rfl,rfl,_,rfl,?_⟩
  rw[hlen]
  refine ite2 (fun hle=>?_) (fun hgt=>?_)
  ·have hle':n≤a+3 * L:=by have:=of_decide_eq_true hle;omega
   refine⟨_,rfl,_,rfl,_,rfl,D,_,rfl,bT.of hDl,fun p hp=>?_⟩
   rw[cut_lo]
   refine⟨false,p,_,rfl,bT.of aC,?_⟩
   rw[counted_lo f hle']
   exact k _ (aG.new hp)
  ·have hgt':¬ n≤a+3 * L:=fun z=>hgt (decide_eq_true (by omega))
   have e1:((n:Int) - (a:Int)) / (L:Int)=(((n - a) / L:Nat):Int):=by
    rw[show (n:Int) - (a:Int)=((n - a:Nat):Int) by omega];omega
   have e2:((n:Int) - (a:Int)) % (L:Int)=(((n - a) % L:Nat):Int):=by
    rw[show (n:Int) - (a:Int)=((n - a:Nat):Int) by omega];omega
   have hm:=Nat.mod_lt (n - a) (show 0 < L by omega)
   refine⟨_,rfl,_,rfl,_,_,rfl,rfl,_,rfl,_,_,rfl,rfl,⟨by omega,by omega⟩,?_⟩
   refine⟨_,rfl,_,rfl,_,_,rfl,rfl,_,rfl,_,_,rfl,rfl,(by show (0:Int) < _;omega),?_⟩
   dsimp only
   rw[e1,e2]
   refine⟨_,rfl,_,rfl,_,rfl,_,_,rfl,rfl,_,rfl,D,_,rfl,bT.of hDl,fun p hp=>?_⟩
   rw[show ((a:Int)+(((n - a) % L:Nat):Int))=((a+(n - a) % L:Nat):Int) by omega,cut_lo]
   have s2:=aG.new (o:=HO.lst (((eO f (a+3 * L)).take (a+(n - a) % L)).map V.int)) hp
   refine⟨false,p,_,rfl,bT.of aC,?_⟩
   have hDl2:=s2 _ _ hDl
   rw[counted_lo f (show a+(n - a) % L≤a+3 * L by omega)]
   generalize upd H p (.lst (((eO f (a+3 * L)).take (a+(n - a) % L)).map V.int))=H2 at s2 hDl2
   refine⟨_,rfl,_,rfl,_,rfl,_,rfl,_,rfl,_,rfl,_,_,rfl,rfl,_,rfl,D,_,rfl,bT.of hDl2,fun p3 hp3=>?_⟩
   rw[show ((a:Int)+(L:Int))=((a+L:Nat):Int) by omega,cut_mid _ _ (by omega) (by rw[eB];omega)]
   refine⟨false,p3,_,rfl,bT.of aC,?_⟩
   rw[show a+L - a=L by omega,fI _ (by omega)]
   refine⟨_,_,rfl,rfl,.inr ⟨by omega,by omega⟩,_,_,rfl,rfl,?_⟩
   have:=k _ (s2.trans (aG.new (o:=HO.lst ((((eO f (a+3 * L)).drop a).take L).map V.int)) hp3))
   rw[← counted_hi h1 per (show a < n by omega)] at this
   exact this
noncomputable def spIs8:Sp:=fun vs H Q _=>∃ (i:Int),vs=[.int i,.int i]∧Q (.bl true) H
theorem sc__law_is:FnScope ["found","due"] ["found","due"] (aJ (bE 33)):=⟨rfl,rfl,rfl,by decide +kernel,rfl,by decide +kernel,by decide +kernel⟩
theorem ok__law_is {f:Addr}{fd:FuncData} (F:Fun K "_law_is" "_law_is" (bE 33) f fd) (T:Txt mg):FnOk P w K mg base CX0 1 f fd ["found","due"] spIs8:=by
 refine F.ok sc__law_is (fun vs H Q E h=>?_) (fun cdv A outer s H vs Q E hr h=>?_)
 ·obtain⟨i,rfl,_⟩:=h;rfl
 ·obtain⟨i,rfl,k⟩:=h
  have sc:=sc__law_is
  refine⟨_,(aL (bL (pe_and (pe_not (aP (call_isiK (K:=K) rfl) rfl T.b_isinstance boot_isi (aA (pv 0) (aA (pe_bltn (v:=.ty "bool") rfl T.b_bool bt_bool rfl) aB)))) (pe_one (pe_cmpR op_eq (pv 0) (pv 1) (bU _)))))),?_⟩
  refine⟨_,rfl,_,"bool",_,false,rfl,.inl (.int _),kit_ib K,?_⟩
  refine⟨_,rfl,_,rfl,?_⟩
  refine iteT ?_
  refine⟨_,rfl,_,rfl,rfl,?_⟩
  show Q (.bl (decide (V.int i=V.int i))) H
  rw[decide_eq_true rfl]
  exact k
noncomputable def spVR8 (K:PySem.W.Frag):Sp:=fun vs H Q _=>∃ (t sl ol:Addr) (x:V) (net:Net) (j a tt:Nat),vs=[.ref t,x,.int (j:Int),.ref ol,.int (a:Int),.int ((tt - a:Nat):Int)]∧eV H t sl∧Is K H (netD net) x∧NetOk net∧j < net.vs.length∧Rep net tt (a:Int)∧Rnd net a tt∧
 H ol=some (.lst ((eO (bF net j) (a+3 * (tt - a))).map V.int))∧ol≠t∧∀ H',Ext t sl H H'→Q (.bl true) H'
theorem natV_len8 (S:List Nat):(eU S).length=S.length:=by unfold eU;rw[List.length_map]
theorem natV_get8 {S:List Nat}{i x:Nat} (h:S[i]? = some x):(eU S)[i]? = some (.int (x:Int)):=by
 unfold eU;rw[List.getElem?_map,h];rfl
theorem Ext.sameE {t sl:Addr}{H H1 H2:Hp} (e:Ext t sl H H1) (s:aG H1 H2):Ext t sl H H2:=⟨e.bt.trans s.but,e.tp.same s⟩
theorem sc__law_vessel_right:FnScope ["tape","net","number","own","ahead","length","ticks","found","k","far","tick"] ["tape","net","number","own","ahead","length"] (aJ (bE 34)):=⟨rfl,rfl,rfl,by decide +kernel,rfl,by decide +kernel,by decide +kernel⟩
theorem ok__law_vessel_right {f f1 f2 f3 f4 f5:Addr}{fd fd1 fd2 fd3 fd4 fd5:FuncData} (F:Fun K "_law_vessel_right" "_law_vessel_right" (bE 34) f fd) (T:Txt mg)
  (G__law_draw:Callee P w K mg base "_law_draw" ["tape","many"] 1 spDraw f1 fd1) (GB__law_draw:Callee P w K mg base "_law_draw" ["tape","many"] 1 spDrawB f1 fd1)
  (G__law_counted:Callee P w K mg base "_law_counted" ["own","ahead","length","ticks"] 1 (spCnt8 K) f2 fd2) (G__law_is:Callee P w K mg base "_law_is" ["found","due"] 1 spIs8 f3 fd3)
  (G_tips_by:CalleeR P w K mg base "tips_by" ["net","vessel","ticks"] 6 (spTipsByR K c_NoVessel c_TooLong) f4 fd4)
  (G_tick_of:CalleeR P w K mg base "tick_of" ["net","vessel","number"] 6 (spTickOfR K c_NoVessel c_TooLong) f5 fd5):FnOk P w K mg base CX0 7 f fd ["tape","net","number","own","ahead","length"] (spVR8 K):=by
 refine F.ok sc__law_vessel_right (fun vs H Q E h=>?_) (fun cdv A outer s H vs Q E hr h=>?_)
 ·obtain⟨t,sl,ol,x,net,j,a,tt,rfl,_⟩:=h;rfl
 ·obtain⟨t,sl,ol,x,net,j,a,tt,rfl,tp,hx,nok,hj,hrep,rnd,hol,nlt,k⟩:=h
  have sc:=sc__law_vessel_right
  refine⟨_,(aD (dL PassesOwn.never rfl (eR (K:=K) rfl (cB (aA aE (aA aE (aA (pv 4) (aA (aO bH (pv 4) (pv 5)) (aA (aO bH (aO bH (pv 4) (aO eD aE (pv 5))) aE) (aA (dZ GB__law_draw hr (aA (pv 0) (aA (aO op_pow aE aE) aB))) aB)))))))) (aH (i:=6) sc.nd rfl (Or.inl rfl)) (aD (aS (i:=7) sc.nd rfl (Or.inl rfl) (eG G_tips_by.ok (hr.mono (by decide)) rfl G_tips_by.mg G_tips_by.kp G_tips_by.bd .nil passR0 (aA (pv 1) (aA (pv 2) (aA (pv 6) aB)))))
   (aL (dG (PW.pt (pw_or (pt_val (aP (call_isiK (K:=K) rfl) rfl T.b_isinstance boot_isi (aA (pv 7) (aA (pe_bltn (v:=.ty "bool") rfl T.b_bool bt_bool rfl) aB)))) (pw_or1 (bJ op_ne (pv 7) (dZ G__law_counted hr (aA (pv 3) (aA (pv 4) (aA (pv 5) (aA (pv 6) aB))))) (bU _))))) (aL (bL fG)) bY))))
   (aD (eX (i:=7) sc.nd rfl rfl (fun _ _ h=>h) rfl (LcOk.mk (N':=["k","own"]) (fr:=[none,some 3]) rfl ⟨rfl,trivial⟩ rfl rfl rfl rfl rfl ⟨⟨_,rfl,rfl,rfl,rfl⟩,trivial⟩) (cP rfl T.b_range (aA (aP (aY (K:=K) rfl) rfl T.b_len PySem.boot_len (aA (pv 3) aB)) aB)) (fun _ _ _=>(aH (i:=0) (show (["k","own"]:List Str).Nodup by decide +kernel) rfl (Or.inl rfl) (Or.inr rfl))) (fun _ _ _=>pif_one (bJ op_eq (aT (aK (K:=K) rfl) (pv 1) (pv 0) (fun _ _=>rfl)) aE (bU _))) (fun _ _ _=>(pv 0)))
   (aD (dL PassesOwn.never rfl (eR (K:=K) rfl (cB (aA aE (aA (aO d7 (aP (aY (K:=K) rfl) rfl T.b_len PySem.boot_len (aA (pv 7) aB)) aE) (aA (dZ G__law_draw hr (aA (pv 0) (aA (aO bH (aP (aY (K:=K) rfl) rfl T.b_len PySem.boot_len (aA (pv 7) aB)) aE) aB))) aB))))) (aH (i:=8) sc.nd rfl (Or.inl rfl)) (aL (dG (PW.pt (pw_and (bJ op_le aE (pv 8) (bU _)) (pw_and (bJ op_lt (pv 8) (aP (aY (K:=K) rfl) rfl T.b_len PySem.boot_len (aA (pv 7) aB)) (bU _)) (pw_and1 (pt_not (pt_val (dZ G__law_is hr (aA (eG G_tick_of.ok (hr.mono (by decide)) rfl G_tick_of.mg G_tick_of.kp G_tick_of.bd .nil passR0 (aA (pv 1) (aA (pv 2) (aA (aO bH (pv 8) aE) aB)))) (aA (aT (aK (K:=K) rfl) (pv 7) (pv 8) (fun _ _=>rfl)) aB))))))))) (aL (bL fG)) bY)))
   (aD (dG (bJ op_eq (aP (cW (K:=K) rfl rfl) rfl T.b_sum PyProof.Rows.boot_sum (aA (pe_slice (sl_listK (K:=K) rfl) (pv 3) (po_some (pv 4)) (po_some (aO bH (pv 4) (pv 5)))) aB)) aE (bU _)) (aL (bL (pe_cmpR op_isN (eG G_tick_of.ok (hr.mono (by decide)) rfl G_tick_of.mg G_tick_of.kp G_tick_of.bd .nil passR0 (aA (pv 1) (aA (pv 2) (aA (aO bH (aP (aY (K:=K) rfl) rfl T.b_len PySem.boot_len (aA (pv 7) aB)) aE) aB)))) dR (bU _)))) bY)
   (aD (aS (i:=9) sc.nd rfl (Or.inl rfl) (aO bH aE (dZ GB__law_draw hr (aA (pv 0) (aA (aO op_pow aE aE) aB)))))
   (aD (aS (i:=10) sc.nd rfl (Or.inl rfl) (eG G_tick_of.ok (hr.mono (by decide)) rfl G_tick_of.mg G_tick_of.kp G_tick_of.bd .nil passR0 (aA (pv 1) (aA (pv 2) (aA (pv 9) aB)))))
   (aD (dG (PW.pt (pw_or (pt_val (aP (call_isiK (K:=K) rfl) rfl T.b_isinstance boot_isi (aA (pv 10) (aA (pe_bltn (v:=.ty "bool") rfl T.b_bool bt_bool rfl) aB)))) (pw_or1 (bJ op_ne (dZ G__law_counted hr (aA (pv 3) (aA (pv 4) (aA (pv 5) (aA (pv 10) aB))))) (aO d7 (pv 9) aE) (bU _))))) (aL (bL fG)) bY)
   (aL (bL (pe_cmpR op_eq (dZ G__law_counted hr (aA (pv 3) (aA (pv 4) (aA (pv 5) (aA (aO bH (pv 10) aE) aB))))) (pv 9) (bU _))))))))))),?_⟩
  have r1:=rnd.lt
  have r2:=rnd.le
  have per:=rnd.tip j
  have noL:¬ Long net:=fun hL=>by have:=hL tt hrep.1;rw[hrep.2.1] at this;cases this
  have hb:=sumR_tipI net j a (tt - a)
  have olen:((eO (bF net j) (a+3 * (tt - a))).map V.int).length=a+3 * (tt - a):=by rw[List.length_map,eB]
  obtain⟨L,hL⟩:∃ L,L=tt - a:=⟨_,rfl⟩
  rw[← hL] at hol per hb olen ⊢
  have L1:1≤L:=by omega
  have keep:∀ {H':Hp},Ext t sl H H'→Is K H' (netD net) x∧H' ol=some (.lst ((eO (bF net j) (a+3 * L)).map V.int)):=fun e=>⟨Is.mono (e.ts tp) _ _ hx,e.bt _ _ nlt hol⟩
  dsimp only [tSeq,gName,tAsg]
  refine for_by (fun σ' H'=>Ext t sl H H'∧∃ v6 v7,σ'=[some (.ref t),some x,some (.int (j:Int)),some (.ref ol),some (.int (a:Int)),some (.int (L:Int)),v6,v7,none,none,none]) (fun D' hD=>?_) ?_
  ·refine⟨_,rfl,_,rfl,_,rfl,_,_,rfl,rfl,_,rfl,_,rfl,_,_,rfl,rfl,.inl ⟨by decide,by decide⟩,_,_,rfl,rfl,_,_,rfl,rfl,?_⟩
   refine⟨_,rfl,_,_,rfl,rfl,⟨by decide,by decide,by decide⟩,t,sl,_,rfl,tp,by decide,by decide,fun r H1 b1 tp1 r0 r1'=>⟨(show 6≤sizeLine by decide),fun ll hll=>?_⟩⟩
   obtain⟨rn,rfl⟩:∃ rn:Nat,r=(rn:Int):=⟨r.toNat,by omega⟩
   have e1:Ext t sl H H1:=⟨b1,tp1⟩
   have hlt:ll≠t:=e1.ne hll
   have e2:=e1.new (o:=HO.lst [.int 0,.int 1,.int (a:Int),.int ((a:Int)+(L:Int)),.int ((a:Int)+2 * (L:Int)+1),.int (rn:Int)]) hll
   have l2:upd H1 ll (.lst [.int 0,.int 1,.int (a:Int),.int ((a:Int)+(L:Int)),.int ((a:Int)+2 * (L:Int)+1),.int (rn:Int)]) ll=some (.lst [.int 0,.int 1,.int (a:Int),.int ((a:Int)+(L:Int)),.int ((a:Int)+2 * (L:Int)+1),.int (rn:Int)]):=aC
   generalize upd H1 ll (.lst [.int 0,.int 1,.int (a:Int),.int ((a:Int)+(L:Int)),.int ((a:Int)+2 * (L:Int)+1),.int (rn:Int)])=H2 at e2 l2
   refine⟨ll,rfl,⟨_,bT.of l2⟩,for_list (K:=K) (a:=ll) (xs:=[.int 0,.int 1,.int (a:Int),.int ((a:Int)+(L:Int)),.int ((a:Int)+2 * (L:Int)+1),.int (rn:Int)]) (fun m σ' H'=>aG H2 H'∧∃ v6 v7,σ'=[some (.ref t),some x,some (.int (j:Int)),some (.ref ol),some (.int (a:Int)),some (.int (L:Int)),v6,v7,none,none,none])
    ⟨aG.refl _,_,_,rfl⟩ (fun m σ' H' _ p=>bT.of (p.1 _ _ l2)) ?_ ?_⟩
   ·rintro m u σ' H3 hu ⟨s3,v6,v7,rfl⟩
    obtain⟨n,rfl⟩:∃ n:Nat,u=.int (n:Int):=by
     rcases m with _ | _ | _ | _ | _ | _ | m
     ·cases hu;exact⟨0,rfl⟩
     ·cases hu;exact⟨1,rfl⟩
     ·cases hu;exact⟨a,rfl⟩
     ·cases hu;exact⟨a+L,by congr 1⟩
     ·cases hu;exact⟨a+2 * L+1,by congr 1⟩
     ·cases hu;exact⟨rn,rfl⟩
     ·cases hu
    obtain⟨hx3,hol3⟩:=keep (e2.sameE s3)
    refine⟨_,rfl,_,rfl,_,rfl,x,net,(j:Int),n,rfl,hx3,nok,.inr ⟨j,rfl,hj,fun t' a' H4 hrep' rnd' s4=>?_,fun hL=>absurd hL noL⟩⟩
    obtain⟨rfl,ea⟩:=hrep.uniq hrep'
    obtain rfl:a=a':=by omega
    rw[← hL,by_all L1 per]
    refine⟨_,rfl,_,"bool",_,false,rfl,.inl (.int _),kit_ib K,_,rfl,iteF ?_⟩
    refine⟨_,rfl,_,rfl,_,rfl,_,rfl,_,rfl,ol,bF net j,a,L,n,rfl,s4 _ _ hol3,per,L1,by omega,by omega,by omega,fun H5 s5=>⟨rfl,_,rfl,iteNS rfl ?_⟩⟩
    exact⟨(s3.trans s4).trans s5,_,_,rfl⟩
   ·rintro σ' H3 ⟨s3,v6,v7,rfl⟩
    exact hD _ _ ⟨e2.sameE s3,_,_,rfl⟩
  rintro σ' H1 ⟨e1,v6,v7,rfl⟩
  obtain⟨hx1,hol1⟩:=keep e1
  refine⟨_,rfl,ol,_,rfl,.inl (bT.of hol1),_,rfl,by omega,by omega,?_⟩
  rw[Int.toNat_natCast,olen]
  refine lc_range (n:=a+3 * L) (fun D i r σ' H'=>H1 D=none∧aG H1 H'∧H' D=some (.lst r)∧r=eU (aR net i j)∧∃ u,σ'=[u,some (.ref ol)])
   (fun D hD=>⟨hD,aG.new hD,aC,rfl,none,rfl⟩) ?_ ?_
  rotate_left
  ·rintro D i r σ' H3 hil ⟨hD,sm,hDl,rfl,u,rfl⟩
   have hs:=tipsOf_succ net i j
   have hln:(aR net i j).length≤i:=by unfold aR;exact Nat.le_trans (List.length_filter_le _ _) (by simp)
   have hat:((eO (bF net j) (a+3 * L)).map V.int)[i]? = some (.int (bF net j i)):=by
    unfold eO
    rw[List.getElem?_map,List.getElem?_map,List.getElem?_range hil];rfl
   refine⟨_,rfl,_,rfl,.inl ⟨ol,_,(i:Int),_,rfl,rfl,bT.of (sm _ _ hol1),cT hat,rfl,_,rfl,?_⟩⟩
   by_cases c:j∈cI net i
   ·have ht:bF net j i=1:=by unfold bF;rw[if_pos c]
    rw[if_pos c] at hs
    rw[ht]
    refine iteT ⟨_,rfl,hDl,small1W (by rw[natV_len8];omega),hD,sm.put hD,aC,?_,_,rfl⟩
    rw[hs];unfold eU;rw[List.map_append];rfl
   ·have ht:bF net j i=0:=by unfold bF;rw[if_neg c]
    rw[if_neg c,List.append_nil] at hs
    rw[ht]
    exact iteF ⟨hD,sm,hDl,by rw[hs],_,rfl⟩
  rintro fl r σ' H2 ⟨hfl,s2,hfl2,rfl,_⟩
  have e2:=e1.sameE s2
  have nft:fl≠t:=e1.ne hfl
  have fll:(aR net (a+3 * L) j).length≤a+3 * L:=by unfold aR;exact Nat.le_trans (List.length_filter_le _ _) (by simp)
  dsimp only [tSeq,gName,tAsg]
  refine for_by (fun σ' H'=>Ext t sl H H'∧H' fl=some (.lst (eU (aR net (a+3 * L) j)))∧∃ v6 v8,σ'=[some (.ref t),some x,some (.int (j:Int)),some (.ref ol),some (.int (a:Int)),some (.int (L:Int)),v6,some (.ref fl),v8,none,none]) (fun D' hD=>?_) ?_
  ·refine⟨_,rfl,fl,_,rfl,.inl (bT.of hfl2),_,_,rfl,rfl,_,rfl,_,rfl,fl,_,rfl,.inl (bT.of hfl2),_,_,rfl,rfl,t,sl,_,rfl,e2.tp,by rw[natV_len8];omega,by rw[natV_len8];omega,fun r H3 b3 tp3 r0 r1'=>⟨(show 3≤sizeLine by decide),fun ll hll=>?_⟩⟩
   have e3:Ext t sl H H3:=⟨e2.bt.trans b3,tp3⟩
   have f3:=b3 _ _ nft hfl2
   have s4:=aG.new (o:=HO.lst [.int 0,.int (((eU (aR net (a+3 * L) j)).length:Int) - 1),.int r]) hll
   have e4:=e3.new (o:=HO.lst [.int 0,.int (((eU (aR net (a+3 * L) j)).length:Int) - 1),.int r]) hll
   have l4:upd H3 ll (.lst [.int 0,.int (((eU (aR net (a+3 * L) j)).length:Int) - 1),.int r]) ll=some (.lst [.int 0,.int (((eU (aR net (a+3 * L) j)).length:Int) - 1),.int r]):=aC
   have f4:=s4 _ _ f3
   generalize upd H3 ll (.lst [.int 0,.int (((eU (aR net (a+3 * L) j)).length:Int) - 1),.int r])=H4 at e4 l4 f4
   refine⟨ll,rfl,⟨_,bT.of l4⟩,for_list (K:=K) (a:=ll) (xs:=[.int 0,.int (((eU (aR net (a+3 * L) j)).length:Int) - 1),.int r]) (fun m σ' H'=>aG H4 H'∧∃ v6 v8,σ'=[some (.ref t),some x,some (.int (j:Int)),some (.ref ol),some (.int (a:Int)),some (.int (L:Int)),v6,some (.ref fl),v8,none,none])
    ⟨aG.refl _,_,_,rfl⟩ (fun m σ' H' _ p=>bT.of (p.1 _ _ l4)) ?_ ?_⟩
   ·rintro m u σ' H5 hu ⟨s5,v6',v8,rfl⟩
    obtain⟨i,rfl⟩:∃ i:Int,u=.int i:=by
     rcases m with _ | _ | _ | m
     ·cases hu;exact⟨_,rfl⟩
     ·cases hu;exact⟨_,rfl⟩
     ·cases hu;exact⟨_,rfl⟩
     ·cases hu
    have f5:=s5 _ _ f4
    refine⟨_,rfl,_,_,rfl,rfl,_,rfl,?_⟩
    refine ite2 (fun h1=>?_) fun _=>iteF ⟨s5,_,_,rfl⟩
    refine⟨_,rfl,_,rfl,fl,_,rfl,.inl (bT.of f5),_,_,rfl,rfl,_,rfl,?_⟩
    refine ite2 (fun h2=>?_) fun _=>iteF ⟨s5,_,_,rfl⟩
    have h1:0≤i:=of_decide_eq_true h1
    have h2:i < ((eU (aR net (a+3 * L) j)).length:Int):=of_decide_eq_true h2
    rw[natV_len8] at h2
    obtain⟨n,rfl⟩:∃ n:Nat,i=(n:Int):=⟨i.toNat,by omega⟩
    obtain⟨T',hT'⟩:∃ T',(aR net (a+3 * L) j)[n]? = some T':=⟨_,List.getElem?_eq_getElem (by omega)⟩
    obtain⟨hx5,_⟩:=keep (e4.sameE s5)
    refine⟨_,rfl,_,rfl,_,rfl,_,_,rfl,rfl,x,net,(j:Int),n+1,rfl,hx5,nok,.inr ⟨j,rfl,hj,fun t' a' H6 hrep' rnd' s6=>?_,fun hL=>absurd hL noL⟩⟩
    obtain⟨rfl,ea⟩:=hrep.uniq hrep'
    obtain rfl:a=a':=by omega
    rw[tickN_at rnd hT']
    refine⟨_,rfl,_,rfl,.inl ⟨fl,_,(n:Int),_,rfl,rfl,bT.of (s6 _ _ f5),cT (natV_get8 hT'),(T':Int),rfl,_,rfl,iteF ?_⟩⟩
    exact⟨s5.trans s6,_,_,rfl⟩
   ·rintro σ' H5 ⟨s5,v6',v8,rfl⟩
    exact hD _ _ ⟨e4.sameE s5,s5 _ _ f4,_,_,rfl⟩
  clear e2 hfl2
  rintro σ' H3 ⟨e3,f3,v6',v8,rfl⟩
  obtain⟨hx3,hol3⟩:=keep e3
  refine⟨_,rfl,_,rfl,_,rfl,_,rfl,_,rfl,_,_,rfl,rfl,_,rfl,ol,_,rfl,bT.of hol3,fun p3 hp3=>?_⟩
  rw[show ((a:Int)+(L:Int))=((a+L:Nat):Int) by omega,cut_mid _ _ (by omega) (by rw[eB];omega)]
  refine⟨false,p3,_,rfl,bT.of aC,?_⟩
  rw[show a+L - a=L by omega,fI _ (by omega)]
  have s4:=aG.new (o:=HO.lst ((((eO (bF net j) (a+3 * L)).drop a).take L).map V.int)) hp3
  have e4:=e3.new (o:=HO.lst ((((eO (bF net j) (a+3 * L)).drop a).take L).map V.int)) hp3
  have f4:=s4 _ _ f3
  generalize upd H3 p3 (.lst ((((eO (bF net j) (a+3 * L)).drop a).take L).map V.int))=H4 at e4 f4
  obtain⟨hx4,hol4⟩:=keep e4
  refine⟨rfl,_,rfl,?_⟩
  refine ite2 (fun h0=>?_) fun h0=>?_
  ·have h0:bW (bF net j) a L=0:=by have:=of_decide_eq_true h0;injection this
   rw[hL] at h0
   have hn:=tickN_none rnd h0
   rw[← hL] at hn
   refine⟨_,rfl,_,rfl,_,rfl,fl,_,rfl,.inl (bT.of f4),_,_,rfl,rfl,x,net,(j:Int),(aR net (a+3 * L) j).length+1,by rw[natV_len8];rfl,hx4,nok,.inr ⟨j,rfl,hj,fun t' a' H6 hrep' rnd' s6=>?_,fun hL=>absurd hL noL⟩⟩
   obtain⟨rfl,ea⟩:=hrep.uniq hrep'
   obtain rfl:a=a':=by omega
   rw[hn]
   refine⟨rfl,?_⟩
   exact k _ (e4.sameE s6)
  ·have h0:bW (bF net j) a L≠0:=fun z=>h0 (by rw[z];rfl)
   rw[hL] at h0
   refine⟨_,rfl,_,_,rfl,rfl,⟨by decide,by decide,by decide⟩,t,sl,_,rfl,e4.tp,by decide,by decide,fun r H5 b5 tp5 r0 r1'=>⟨_,_,rfl,rfl,?_⟩⟩
   obtain⟨num,hnum⟩:∃ num:Nat,(1:Int)+r=(num:Int):=⟨(1+r).toNat,by omega⟩
   dsimp only
   rw[hnum]
   have e5:Ext t sl H H5:=⟨e4.bt.trans b5,tp5⟩
   obtain⟨hx5,hol5⟩:=keep e5
   obtain⟨T',hT',hs1,hs2⟩:=tickN_far rnd h0 (show 1≤num by omega)
   refine⟨_,rfl,_,rfl,_,rfl,x,net,(j:Int),num,rfl,hx5,nok,.inr ⟨j,rfl,hj,fun t' a' H6 hrep' rnd' s6=>?_,fun hL=>absurd hL noL⟩⟩
   obtain⟨rfl,ea⟩:=hrep.uniq hrep'
   obtain rfl:a=a':=by omega
   rw[hT']
   have hol6:=s6 _ _ hol5
   refine⟨_,rfl,_,"bool",_,false,rfl,.inl (.int _),kit_ib K,_,rfl,iteF ?_⟩
   refine⟨_,rfl,_,rfl,_,rfl,_,rfl,ol,bF net j,a,L,T',rfl,hol6,per,L1,by omega,by omega,by omega,fun H7 s7=>⟨_,rfl,_,_,rfl,rfl,rfl,_,rfl,?_⟩⟩
   rw[hs1]
   refine iteNS rfl ?_
   refine⟨_,rfl,_,rfl,_,rfl,_,rfl,_,_,rfl,rfl,ol,bF net j,a,L,T'+1,rfl,s7 _ _ hol6,per,L1,by omega,by omega,by omega,fun H8 s8=>⟨_,rfl,rfl,?_⟩⟩
   rw[hs2,decide_eq_true rfl]
   exact k _ ((e5.sameE s6).sameE (s7.trans s8))
end
end Tw
namespace Tw
open PySem L2
section
variable {K:PySem.W.Frag}{C:Addr}{σ:St}{H:Hp}{Q:VK}{t sl r rl na nb:Addr}{S:RunS}{fp:List Addr}{i j l:Nat}{n m v x:Int}{xs ys:List V}{u:V}
theorem x_drawL (h:σ[i]? = some (some (.ref t))) (hj:σ[j]? = some (some (.ref na))) (q:bR K H na xs) (e:atI xs m=some (.ref nb)) (q1:bR K H nb ys) (tp:eV H t sl) (h1:0 < ys.length) (h2:ys.length < 1000000)
  (k:∀ (r:Int) H',fC t H H'→eV H' t sl→0≤r→r < ys.length→Q (.int r) H'):tCall spDraw [] E0 (dF (cS i) (dF (tCB (rLen K) (dF (tOp (rIx K) (cS j) (tC (.int m))) tNil)) tNil)) σ H Q:=
 ⟨_,h,_,hj,.inr (.inl ⟨na,xs,m,_,rfl,rfl,q,e,nb,ys,rfl,.inr q1,t,sl,_,rfl,tp,by omega,by omega,k⟩)⟩
end
end Tw
namespace Tw
open PySem L2
theorem seq2b8 {s1 s2 R:TS}{D:Ends}{σ:St}{H:Hp} (I:St→Hp→Prop) (h1:∀ R':TS,(∀ σ' H',I σ' H'→R' D σ' H')→tSeq s1 (tSeq s2 R') D σ H) (h2:∀ σ' H',I σ' H'→R D σ' H'):tSeq s1 (tSeq s2 R) D σ H:=h1 R h2
section
variable {P:Program}{w:World}{K:PySem.W.Frag}{mg:Str→Option Value}{base:Heap}{C c_TipError c_NoNet c_NoVessel c_TooLong c_TooMany c_TooMuch c_Nothing c_NoText c_NoRow:Addr}
noncomputable def spCR8 (K:PySem.W.Frag):Sp:=fun vs H Q _=>∃ (t sl:Addr),vs=[.ref t]∧eV H t sl∧∀ H',Ext t sl H H'→Q (.bl true) H'
theorem sc__law_count_right:FnScope ["tape","one","two","first","net","k","number","ticks"] ["tape"] (aJ (bE 35)):=⟨rfl,rfl,rfl,by decide +kernel,rfl,by decide +kernel,by decide +kernel⟩
theorem ok__law_count_right {f f1 f4 f5:Addr}{fd fd1 fd4 fd5:FuncData} (F:Fun K "_law_count_right" "_law_count_right" (bE 35) f fd) (T:Txt mg)
  (G__law_draw:Callee P w K mg base "_law_draw" ["tape","many"] 1 spDraw f1 fd1) (GB__law_draw:Callee P w K mg base "_law_draw" ["tape","many"] 1 spDrawB f1 fd1)
  (G_tips_by:CalleeR P w K mg base "tips_by" ["net","vessel","ticks"] 6 (spTipsByR K c_NoVessel c_TooLong) f4 fd4)
  (G_tick_of:CalleeR P w K mg base "tick_of" ["net","vessel","number"] 6 (spTickOfR K c_NoVessel c_TooLong) f5 fd5):FnOk P w K mg base CX0 7 f fd ["tape"] (spCR8 K):=by
 refine F.ok sc__law_count_right (fun vs H Q E h=>?_) (fun cdv A outer s H vs Q E hr h=>?_)
 ·obtain⟨t,sl,rfl,_⟩:=h;rfl
 ·obtain⟨t,sl,rfl,tp,k⟩:=h
  have sc:=sc__law_count_right
  refine⟨_,(aD (aS (i:=1) sc.nd rfl (Or.inl rfl) (aO bH aE (dZ G__law_draw hr (aA (pv 0) (aA aE aB)))))
   (aD (aS (i:=2) sc.nd rfl (Or.inl rfl) (aO bH aE (dZ G__law_draw hr (aA (pv 0) (aA (aP (call_min2 rfl) rfl T.b_min PyProof.Rows.boot_min (aA aE (aA (aO fH aE (pv 1)) aB))) aB)))))
   (aD (aS (i:=3) sc.nd rfl (Or.inl rfl) (bA (aA (pv 1) (aA (pv 1) (aA (bA (aA (bA (aA aE (aA aE aB))) (aA (bA (aA dR (aA (aO d7 (pv 1) aE) aB))) aB))) (aA fG (aA dR (aA (bA aB) aB))))))))
   (aD (aS (i:=4) sc.nd rfl (Or.inl rfl) (bA (aA (bA (aA (pv 3) (aA (bA (aA (pv 2) (aA (pv 2) (aA (bA (aA (bA (aA dR (aA aE aB))) aB)) (aA fG (aA dR (aA (bA aB) aB))))))) aB))) (aA (bA (aA (bA (aA aE (aA aE (aA fG aB)))) aB)) aB))))
   (aD (dL PassesOwn.never rfl (cP rfl T.b_range (aA aE aB)) (aH (i:=5) sc.nd rfl (Or.inl rfl)) (aD (aS (i:=6) sc.nd rfl (Or.inl rfl) (aO bH aE (dZ GB__law_draw hr (aA (pv 0) (aA (aT (aK (K:=K) rfl) (cB (aA (aO op_pow aE aE) (aA (aO op_pow aE aE) aB))) (aO op_mod (pv 5) aE) (fun _ _=>rfl)) aB)))))
   (aD (dG (PW.pt (pw_or (bJ op_ne (eG G_tick_of.ok (hr.mono (by decide)) rfl G_tick_of.mg G_tick_of.kp G_tick_of.bd .nil passR0 (aA (pv 4) (aA aE (aA (pv 6) aB)))) (aO d7 (aO eD (pv 6) (pv 1)) aE) (bU _)) (pw_or1 (bJ op_ne (eG G_tick_of.ok (hr.mono (by decide)) rfl G_tick_of.mg G_tick_of.kp G_tick_of.bd .nil passR0 (aA (pv 4) (aA aE (aA (pv 6) aB)))) (aO eD (aO eD (pv 6) (pv 1)) (pv 2)) (bU _))))) (aL (bL fG)) bY)
   (aD (aS (i:=7) sc.nd rfl (Or.inl rfl) (dZ GB__law_draw hr (aA (pv 0) (aA (aT (aK (K:=K) rfl) (cB (aA (aO op_pow aE aE) (aA (aO op_pow aE aE) aB))) (aO op_mod (pv 5) aE) (fun _ _=>rfl)) aB))))
   (aL (dG (PW.pt (pw_or (bJ op_ne (eG G_tips_by.ok (hr.mono (by decide)) rfl G_tips_by.mg G_tips_by.kp G_tips_by.bd .nil passR0 (aA (pv 4) (aA aE (aA (pv 7) aB)))) (aO fH (pv 7) (pv 1)) (bU _)) (pw_or1 (bJ op_ne (eG G_tips_by.ok (hr.mono (by decide)) rfl G_tips_by.mg G_tips_by.kp G_tips_by.bd .nil passR0 (aA (pv 4) (aA aE (aA (pv 7) aB)))) (aO fH (aP (call_max2 rfl) rfl T.b_max PyProof.Rows.boot_max (aA aE (aA (aO d7 (pv 7) aE) aB))) (aO eD (pv 1) (pv 2))) (bU _))))) (aL (bL fG)) bY))))))
   (aL (bL fG))))))),?_⟩
  refine⟨_,rfl,t,sl,_,rfl,tp,by decide,by decide,fun rs H1 b1 tp1 r0 r1=>⟨_,_,rfl,rfl,?_⟩⟩
  obtain⟨z,hz,z1,z2⟩:∃ z:Nat,2+rs=(z:Int)∧2≤z∧z≤41:=⟨(2+rs).toNat,by omega,by omega,by omega⟩
  dsimp only
  rw[hz]
  refine⟨_,rfl,_,rfl,_,_,rfl,rfl,⟨by omega,by omega⟩,_,_,rfl,?_⟩
  have hm:(if (1900:Int) / (z:Int) < 58 then (1900:Int) / (z:Int) else 58)=((min 58 (1900 / z):Nat):Int):=by
   have e:(1900:Int) / (z:Int)=((1900 / z:Nat):Int):=(Int.natCast_ediv 1900 z).symm
   rw[e]
   split <;> omega
  have hq:1≤1900 / z:=Nat.div_pos (by omega) (by omega)
  have hqz:1900 / z * z≤1900:=Nat.div_mul_le_self _ _
  dsimp only
  rw[hm]
  refine⟨t,sl,_,rfl,tp1,by omega,by omega,fun ru H2 b2 tp2 u0 u1=>⟨_,_,rfl,rfl,?_⟩⟩
  obtain⟨y,hy,y1,y2,y3⟩:∃ y:Nat,2+ru=(y:Int)∧2≤y∧y≤59∧y≤1900 / z+1:=⟨(2+ru).toNat,by omega,by omega,by omega,by omega⟩
  dsimp only
  rw[hy]
  have hzy:z * y≤1999:=by
   have:z * y≤z * (1900 / z+1):=Nat.mul_le_mul_left z y3
   rw[Nat.mul_add,Nat.mul_comm z (1900 / z)] at this
   omega
  have e2:Ext t sl H H2:=⟨b1.trans b2,tp2⟩
  clear tp1 b1 b2 tp2
  refine⟨_,rfl,_,rfl,(show 2≤sizeLine by decide),fun q1 hq1=>⟨_,rfl,_,_,rfl,rfl,(show 2≤sizeLine by decide),fun q2 hq2=>⟨(show 2≤sizeLine by decide),fun q3 hq3=>⟨Nat.zero_le _,fun q4 hq4=>⟨(show 6≤sizeLine by decide),fun q5 hq5=>?_⟩⟩⟩⟩⟩
  have s6:=aG.new (o:=HO.tup [.int 1,.int 1]) hq1
  have s7:=aG.new (o:=HO.tup [.non,.int ((z:Int) - 1)]) hq2
  have s8:=aG.new (o:=HO.tup [.ref q1,.ref q2]) hq3
  have s9:=aG.new (o:=HO.tup []) hq4
  have s10:=aG.new (o:=HO.tup [.int (z:Int),.int (z:Int),.ref q3,.bl false,.non,.ref q4]) hq5
  have i1:Is K _ (outD (some 1,1)) (.ref q1):=Is.mono (K:=K) (((s7.trans s8).trans s9).trans s10).ts _ _ (Is.tupOf (ds:=[.int 1,.int 1]) (bR.of aC) (.cons (Is.i _) (.cons (Is.i _) .nil)))
  have i2:Is K _ (outD (none,(z:Int) - 1)) (.ref q2):=Is.mono (K:=K) ((s8.trans s9).trans s10).ts _ _ (Is.tupOf (ds:=[.non,.int ((z:Int) - 1)]) (bR.of aC) (.cons Is.n (.cons (Is.i _) .nil)))
  have i3:bR K _ q3 [.ref q1,.ref q2]:=(s9.trans s10).tup (bR.of aC)
  have i4:bR K _ q4 []:=s10.tup (bR.of aC)
  have i5:=bR.of (K:=K) (H:=upd (upd (upd (upd (upd H2 q1 (.tup [.int 1,.int 1])) q2 (.tup [.non,.int ((z:Int) - 1)])) q3 (.tup [.ref q1,.ref q2])) q4 (.tup [])) q5 (.tup [.int (z:Int),.int (z:Int),.ref q3,.bl false,.non,.ref q4])) (a:=q5) aC
  have s510:=(((s6.trans s7).trans s8).trans s9).trans s10
  have iv1:Is K _ (vsD ⟨(z:Int),(z:Int),[(some 1,1),(none,(z:Int) - 1)],false,none,[]⟩) (.ref q5):=
   Is.tupOf i5 (.cons (Is.i _) (.cons (Is.i _) (.cons (Is.tupOf i3 (.cons i1 (.cons i2 .nil))) (.cons (Is.b _) (.cons Is.n (.cons (Is.tupOf i4 .nil) .nil))))))
  generalize upd (upd (upd (upd (upd H2 q1 (.tup [.int 1,.int 1])) q2 (.tup [.non,.int ((z:Int) - 1)])) q3 (.tup [.ref q1,.ref q2])) q4 (.tup [])) q5 (.tup [.int (z:Int),.int (z:Int),.ref q3,.bl false,.non,.ref q4])=H10 at s510 iv1
  refine⟨_,rfl,_,rfl,_,rfl,(show 2≤sizeLine by decide),fun w1 hw1=>⟨(show 1≤sizeLine by decide),fun w2 hw2=>⟨Nat.zero_le _,fun w3 hw3=>⟨(show 6≤sizeLine by decide),fun w4 hw4=>⟨(show 2≤sizeLine by decide),fun w5 hw5=>⟨(show 3≤sizeLine by decide),fun w6 hw6=>⟨(show 1≤sizeLine by decide),fun w7 hw7=>⟨(show 2≤sizeLine by decide),fun w8 hw8=>?_⟩⟩⟩⟩⟩⟩⟩⟩
  have a1:=aG.new (o:=HO.tup [.non,.int 1]) hw1
  have a2:=aG.new (o:=HO.tup [.ref w1]) hw2
  have a3:=aG.new (o:=HO.tup []) hw3
  have a4:=aG.new (o:=HO.tup [.int (y:Int),.int (y:Int),.ref w2,.bl false,.non,.ref w3]) hw4
  have a5:=aG.new (o:=HO.tup [.ref q5,.ref w4]) hw5
  have a6:=aG.new (o:=HO.tup [.int 0,.int 1,.bl true]) hw6
  have a7:=aG.new (o:=HO.tup [.ref w6]) hw7
  have a8:=aG.new (o:=HO.tup [.ref w5,.ref w7]) hw8
  have j1:Is K _ (outD (none,1)) (.ref w1):=Is.mono (K:=K) ((((((a2.trans a3).trans a4).trans a5).trans a6).trans a7).trans a8).ts _ _ (Is.tupOf (ds:=[.non,.int 1]) (bR.of aC) (.cons Is.n (.cons (Is.i _) .nil)))
  have j2:bR K _ w2 [.ref w1]:=(((((a3.trans a4).trans a5).trans a6).trans a7).trans a8).tup (bR.of aC)
  have j3:bR K _ w3 []:=((((a4.trans a5).trans a6).trans a7).trans a8).tup (bR.of aC)
  have j4:bR K _ w4 [.int (y:Int),.int (y:Int),.ref w2,.bl false,.non,.ref w3]:=(((a5.trans a6).trans a7).trans a8).tup (bR.of aC)
  have j5:bR K _ w5 [.ref q5,.ref w4]:=((a6.trans a7).trans a8).tup (bR.of aC)
  have j6:bR K _ w6 [.int 0,.int 1,.bl true]:=(a7.trans a8).tup (bR.of aC)
  have j7:bR K _ w7 [.ref w6]:=a8.tup (bR.of aC)
  have s1018:=((((((a1.trans a2).trans a3).trans a4).trans a5).trans a6).trans a7).trans a8
  have inet:Is K _ (netD (n2 z y)) (.ref w8):=Is.tupOf (ds:=[.tup [vsD ⟨(z:Int),(z:Int),[(some 1,1),(none,(z:Int) - 1)],false,none,[]⟩,vsD ⟨(y:Int),(y:Int),[(none,1)],false,none,[]⟩],.tup [spD (0,1,true)]]) (bR.of aC)
   (.cons (Is.tupOf j5 (.cons (Is.mono s1018.ts _ _ iv1) (.cons (Is.tupOf (ds:=[.int (y:Int),.int (y:Int),.tup [outD (none,1)],.bl false,.non,.tup []]) j4 (.cons (Is.i _) (.cons (Is.i _) (.cons (Is.tupOf j2 (.cons j1 .nil)) (.cons (Is.b _) (.cons Is.n (.cons (Is.tupOf j3 .nil) .nil))))))) .nil)))
    (.cons (Is.tupOf j7 (.cons (Is.tupOf (ds:=[.int 0,.int 1,.bl true]) j6 (.cons (Is.i _) (.cons (Is.i _) (.cons (Is.b _) .nil)))) .nil)) .nil))
  have e18:=e2.sameE (s510.trans s1018)
  generalize upd _ w8 _=H18 at inet e18
  clear j1 j2 j3 j4 j5 j6 j7 i1 i2 i3 i4 i5 iv1 s1018 s510 a1 a2 a3 a4 a5 a6 a7 a8 s6 s7 s8 s9 s10 e2
  have okN:=n2_ok z1 (by omega) (by omega) (show y≤60 by omega)
  have noL:=n2_round z1 (show 1≤y by omega) (show z≤60 by omega) (show y≤60 by omega) hzy
  have tkN:=fun {x tt num:Nat} (r:Rnd (n2 z y) x tt) (h:1≤num)=>n2_tickN z1 (show 1≤y by omega) (show z≤60 by omega) (show y≤60 by omega) r h
  have byN:=fun {x tt:Nat} (r:Rnd (n2 z y) x tt) (n:Nat)=>n2_by z1 (show 1≤y by omega) (show z≤60 by omega) (show y≤60 by omega) r n
  refine⟨_,rfl,by decide,by decide,eI (lo:=0) (n:=4) (fun _ σ' H'=>Ext t sl H H'∧Is K H' (netD (n2 z y)) (.ref w8)∧∃ v5 v6 v7,σ'=[some (.ref t),some (.int (z:Int)),some (.int (y:Int)),some (.ref q5),some (.ref w8),v5,v6,v7]) ⟨e18,inet,_,_,_,rfl⟩ ?_ fun σ' H' p=>k _ p.1⟩
  clear e18 inet
  rintro i σ' H3 hi ⟨e3,ix3,v5,v6,v7,rfl⟩
  have md:∀ (u v:Int),0≤u→0 < u→0 < v→u < 2 ^ 200→v < 2 ^ 200→∃ m:Int,atI [V.int u,V.int v] ((0+(i:Int)) % 2)=some (.int m)∧0 < m∧m < 2 ^ 200:=fun u v _ h1 h2 h3 h4=>by
   rcases (show (0+(i:Int)) % 2=0∨(0+(i:Int)) % 2=1 by omega) with e | e
   ·rw[e];exact⟨u,rfl,h1,h3⟩
   ·rw[e];exact⟨v,rfl,h2,h4⟩
  refine⟨_,rfl,_,_,rfl,rfl,⟨by decide,by decide,by decide⟩,_,_,rfl,rfl,⟨by decide,by decide,by decide⟩,(show 2≤sizeLine by decide),fun l1 hl1=>?_⟩
  obtain⟨m1,hm1,m10,m11⟩:=md (10 ^ 3) (10 ^ 30) (by decide) (by decide) (by decide) (by decide) (by decide)
  have e4:=e3.new (o:=HO.lst [.int (10 ^ 3),.int (10 ^ 30)]) hl1
  have ix4:=Is.mono (aG.new (o:=HO.lst [.int (10 ^ 3),.int (10 ^ 30)]) hl1).ts _ _ ix3
  refine⟨_,rfl,_,_,rfl,rfl,(by show (0:Int) < 2;decide),.inl ⟨l1,_,_,_,rfl,rfl,bT.of aC,hm1,t,sl,_,rfl,e4.tp,m10,m11,fun rn H5 b5 tp5 rn0 rn1=>⟨_,_,rfl,rfl,?_⟩⟩⟩
  obtain⟨num,hnum⟩:∃ num:Nat,(1:Int)+rn=(num:Int):=⟨(1+rn).toNat,by omega⟩
  dsimp only
  rw[hnum]
  have hn1:1≤num:=by omega
  have e5:Ext t sl H H5:=⟨e4.bt.trans b5,tp5⟩
  have ix5:=Is.mono (b5.ts e4.tp.mut) _ _ ix4
  clear hnum rn0 rn1 b5 tp5 hm1
  have hzp:1≤num * z:=Nat.mul_pos hn1 (by omega)
  refine⟨_,rfl,_,rfl,.ref w8,n2 z y,0,num,rfl,ix5,okN,.inr ⟨0,rfl,(show 0 < 2 by decide),fun t' a' H6 hrep' rnd' s6=>?_,fun hL=>absurd hL noL⟩⟩
  rw[(tkN rnd' hn1).1]
  refine⟨_,rfl,_,rfl,_,_,rfl,rfl,.inr ⟨by omega,by omega⟩,_,_,rfl,rfl,rfl,_,rfl,?_⟩
  have ev:V.int ((num * z - 1:Nat):Int)=V.int ((num:Int) * (z:Int) - 1):=by
   congr 1
   rw[← Int.natCast_mul]
   omega
  refine iteNS (show optV (some (num * z - 1))=_ from ev) ?_
  have ix6:=Is.mono s6.ts _ _ ix5
  refine⟨_,rfl,_,rfl,.ref w8,n2 z y,1,num,rfl,ix6,okN,.inr ⟨1,rfl,(show 1 < 2 by decide),fun t' a' H7 hrep' rnd' s7=>?_,fun hL=>absurd hL noL⟩⟩
  rw[(tkN rnd' hn1).2]
  refine⟨_,rfl,_,rfl,_,_,rfl,rfl,.inr ⟨by omega,by omega⟩,_,rfl,_,_,rfl,rfl,.inr ⟨by omega,by omega⟩,rfl,_,rfl,?_⟩
  have ev2:V.int ((num * (z * y):Nat):Int)=V.int ((num:Int) * (z:Int) * (y:Int)):=by
   congr 1
   rw[Int.natCast_mul,Int.natCast_mul,Int.mul_assoc]
  refine iteNS (show optV (some (num * (z * y)))=_ from ev2) ?_
  have e7:=e5.sameE (s6.trans s7)
  have ix7:=Is.mono s7.ts _ _ ix6
  clear e3 e4 e5 ix3 ix4 ix5 ix6 ev ev2 s6 s7
  refine⟨_,rfl,_,_,rfl,rfl,⟨by decide,by decide,by decide⟩,_,_,rfl,rfl,⟨by decide,by decide,by decide⟩,(show 2≤sizeLine by decide),fun l2 hl2=>?_⟩
  obtain⟨m2,hm2,m20,m21⟩:=md (10 ^ 4) (10 ^ 40) (by decide) (by decide) (by decide) (by decide) (by decide)
  have e8:=e7.new (o:=HO.lst [.int (10 ^ 4),.int (10 ^ 40)]) hl2
  have ix8:=Is.mono (aG.new (o:=HO.lst [.int (10 ^ 4),.int (10 ^ 40)]) hl2).ts _ _ ix7
  refine⟨_,rfl,_,_,rfl,rfl,(by show (0:Int) < 2;decide),.inl ⟨l2,_,_,_,rfl,rfl,bT.of aC,hm2,t,sl,_,rfl,e8.tp,m20,m21,fun rk H9 b9 tp9 rk0 rk1=>?_⟩⟩
  obtain⟨n,rfl⟩:∃ n:Nat,rk=(n:Int):=⟨rk.toNat,by omega⟩
  have e9:Ext t sl H H9:=⟨e8.bt.trans b9,tp9⟩
  have ix9:=Is.mono (b9.ts e8.tp.mut) _ _ ix8
  have hzy1:1≤z * y:=Nat.mul_pos (by omega) (by omega)
  refine⟨_,rfl,_,rfl,.ref w8,n2 z y,0,n,rfl,ix9,okN,.inr ⟨0,rfl,(show 0 < 2 by decide),fun t' a' H10 hrep' rnd' s10=>?_,fun hL=>absurd hL noL⟩⟩
  rw[(byN rnd' n).1]
  refine⟨_,rfl,_,rfl,_,_,rfl,rfl,⟨by omega,by omega⟩,rfl,_,rfl,?_⟩
  refine iteNS (show V.int ((n / z:Nat):Int)=V.int ((n:Int) / (z:Int)) by congr 1) ?_
  refine⟨_,rfl,_,rfl,.ref w8,n2 z y,1,n,rfl,Is.mono s10.ts _ _ ix9,okN,.inr ⟨1,rfl,(show 1 < 2 by decide),fun t' a' H11 hrep' rnd' s11=>?_,fun hL=>absurd hL noL⟩⟩
  rw[(byN rnd' n).2]
  refine⟨_,rfl,_,_,rfl,rfl,_,_,rfl,_,rfl,_,rfl,_,_,rfl,rfl,.inl ⟨by omega,by omega⟩,_,_,rfl,rfl,⟨?_,?_⟩,rfl,_,rfl,?_⟩
  ·show (0:Int) < (z:Int) * (y:Int);rw[← Int.natCast_mul];omega
  ·show (z:Int) * (y:Int) < _;rw[← Int.natCast_mul];omega
  have em:(if (n:Int) - 1 > 0 then (n:Int) - 1 else 0)=((n - 1:Nat):Int):=by split <;> omega
  refine iteNS (show V.int (((n - 1) / (z * y):Nat):Int)=V.int ((if (n:Int) - 1 > 0 then (n:Int) - 1 else 0) / ((z:Int) * (y:Int))) by rw[em,← Int.natCast_mul];congr 1) ?_
  exact⟨e9.sameE (s10.trans s11),Is.mono (s10.trans s11).ts _ _ ix9,_,_,_,rfl⟩
theorem sc_law:FnScope ["script","tape","net","due","size","ahead","length","states","tips","number","own"] ["script"] (aJ (bE 36)):=⟨rfl,rfl,rfl,by decide +kernel,rfl,by decide +kernel,by decide +kernel⟩
theorem ok_law {f f1 f2 f3 f4 f5 f6:Addr}{fd fd1 fd2 fd3 fd4 fd5 fd6:FuncData} (F:Fun K "law" "law" (bE 36) f fd) (T:Txt mg)
  (G__law_draw:Callee P w K mg base "_law_draw" ["tape","many"] 1 spDraw f1 fd1)
  (G__law_net:Callee P w K mg base "_law_net" ["tape","most","small"] 4 (spNetM K) f2 fd2)
  (G__law_round:Callee P w K mg base "_law_round" ["net"] 3 (spRoundL K) f3 fd3)
  (G__law_count_right:Callee P w K mg base "_law_count_right" ["tape"] 7 (spCR8 K) f4 fd4)
  (G__law_walk:Callee P w K mg base "_law_walk" ["net","ticks","fast"] 3 (spWalk K) f5 fd5)
  (G__law_vessel_right:Callee P w K mg base "_law_vessel_right" ["tape","net","number","own","ahead","length"] 7 (spVR8 K) f6 fd6):FnOk P w K mg base CX0 8 f fd ["script"] (spLaw K):=by
 refine F.ok sc_law (fun vs H Q E h=>?_) (fun cdv A outer s H vs Q E hr h=>?_)
 ·obtain⟨a,ns,rfl,_⟩:=h;rfl
 ·obtain⟨sa,ns,rfl,hS,hlen,k⟩:=h
  have sc:=sc_law
  refine⟨_,(aD (aS (i:=1) sc.nd rfl (Or.inl rfl) (cB (aA (bD (call_lstK (K:=K) rfl) rfl T.b_list bt_list (aA (pv 0) aB)) (aA aE (aA aE aB)))))
   (aD (aS (i:=2) sc.nd rfl (Or.inl rfl) (dZ G__law_net hr (aA (pv 1) (aA (aT (aK (K:=K) rfl) (cB (aA aE (aA aE aB))) (dZ G__law_draw hr (aA (pv 1) (aA aE aB))) (fun _ _=>rfl)) (aA (pe_cmpR op_gt (dZ G__law_draw hr (aA (pv 1) (aA aE aB))) aE (bU _)) aB)))))
   (aD (aS (i:=3) sc.nd rfl (Or.inl rfl) (dZ G__law_round hr (aA (pv 2) aB)))
   (aD (dG (PW.pt (pw_or (bJ op_isN (pv 3) dR (bU _)) (pw_or1 (bJ op_gt (aP (cW (K:=K) rfl rfl) rfl T.b_sum PyProof.Rows.boot_sum (aA (pv 3) aB)) aE (bU _))))) (aD (aS (i:=4) sc.nd rfl (Or.inl rfl) (aO bH aE (dZ G__law_draw hr (aA (pv 1) (aA aE aB)))))
   (aD (aS (i:=2) sc.nd rfl (Or.inl rfl) (bA (aA (bA (aA (bA (aA (pv 4) (aA (pv 4) (aA (bA (aA (bA (aA aE (aA aE aB))) (aA (bA (aA dR (aA (pv 4) aB))) aB))) (aA fG (aA dR (aA (bA aB) aB))))))) aB)) (aA (bA (aA (bA (aA aE (aA (aO bH aE (dZ G__law_draw hr (aA (pv 1) (aA aE aB)))) (aA fG aB)))) aB)) aB))))
   (aL (aS (i:=3) sc.nd rfl (Or.inl rfl) (dZ G__law_round hr (aA (pv 2) aB)))))) bY)
   (aD (dG (pt_not (pt_val (dZ G__law_count_right hr (aA (pv 1) aB)))) (aL (bL fG)) bY)
   (aD (cX (pv 3) (bP (K:=K) (n:=2) rfl rfl (aI (aH (i:=5) sc.nd rfl (Or.inl rfl)) (aI (aH (i:=6) sc.nd rfl (Or.inl rfl)) bK))))
   (aD (cX (dZ G__law_walk hr (aA (pv 2) (aA (aO bH (pv 5) (aO eD aE (pv 6))) (aA dR aB)))) (pg_lstK (K:=K) (n:=2) rfl rfl (aI (aH (i:=7) sc.nd rfl (Or.inl rfl)) (aI (aH (i:=8) sc.nd rfl (Or.inl rfl)) bK))))
   (aD (dL PassesOwn.never rfl (eR (K:=K) rfl (aP (call_srtK (P:=P) (w:=w) rfl rfl rfl) rfl T.b_sorted PyProof.Rows.boot_sorted (aA (bD (call_setK (P:=P) (w:=w) (K:=K) rfl rfl rfl rfl) rfl T.b_set boot_setT (aA (cB (aA aE (aA (aO d7 (aP (aY (K:=K) rfl) rfl T.b_len PySem.boot_len (aA (aT (aK (K:=K) rfl) (pv 2) aE (fun _ _=>rfl)) aB)) aE) (aA (dZ G__law_draw hr (aA (pv 1) (aA (aP (aY (K:=K) rfl) rfl T.b_len PySem.boot_len (aA (aT (aK (K:=K) rfl) (pv 2) aE (fun _ _=>rfl)) aB)) aB))) (aA (dZ G__law_draw hr (aA (pv 1) (aA (aP (aY (K:=K) rfl) rfl T.b_len PySem.boot_len (aA (aT (aK (K:=K) rfl) (pv 2) aE (fun _ _=>rfl)) aB)) aB))) aB))))) aB)) aB))) (aH (i:=9) sc.nd rfl (Or.inr rfl)) (aD (eX (i:=10) sc.nd rfl rfl (fun _ _ h=>h) rfl (LcOk.mk (N':=["tipped","number"]) (fr:=[none,some 9]) rfl ⟨rfl,trivial⟩ rfl rfl rfl rfl rfl ⟨⟨_,rfl,rfl,rfl,rfl⟩,trivial⟩) (eR (K:=K) rfl (pv 8)) (fun _ _ _=>(aH (i:=0) (show (["tipped","number"]:List Str).Nodup by decide +kernel) rfl (Or.inl rfl) (Or.inr rfl))) (fun _ _ _=>eS) (fun _ _ _=>(bD call_int1 rfl T.b_int bt_int (aA (pe_cmpR (op_inK (K:=K) rfl) (pv 1) (pv 0) (by rfl)) aB))))
   (aL (dG (pt_not (pt_val (dZ G__law_vessel_right hr (aA (pv 1) (aA (pv 2) (aA (pv 9) (aA (pv 10) (aA (pv 5) (aA (pv 6) aB))))))))) (aL (bL fG)) bY))))
   (aL (bL fG)))))))))),?_⟩
  refine⟨_,rfl,sa,_,rfl,.inl hS,fun sl hsl=>⟨(show 3≤sizeLine by decide),fun t ht=>?_⟩⟩
  have nst:sl≠t:=aN (show upd H sl (.lst (ns.map V.int)) sl=_ from aC) ht
  have tp0:eV (upd (upd H sl (.lst (ns.map V.int))) t (.lst [.ref sl,.int 0,.int 0])) t sl:=⟨ns,0,0,aC,by rw[aQ nst];exact aC,by omega⟩
  generalize upd (upd H sl (.lst (ns.map V.int))) t (.lst [.ref sl,.int 0,.int 0])=H0 at tp0
  refine⟨_,rfl,?_⟩
  refine gn_pick2 (t:=t) (sl:=sl) (H0:=H0) (P:=dC 3 13) (gn_c ⟨3,rfl,by decide,by decide⟩) (gn_c ⟨12,rfl,by decide,by decide⟩) (cC rfl (by decide) (by decide)) _ _ ⟨fC.refl _,tp0⟩ ?_
  rintro v H1 e1 _ ⟨most,rfl,m0,m1⟩
  refine gn_gt0 (t:=t) (sl:=sl) (H0:=H1) (cC rfl (by decide) (by decide)) _ _ ⟨fC.refl _,e1.tp⟩ ?_
  rintro v H2 e2 _ ⟨small,rfl⟩
  refine⟨t,sl,most,small,rfl,by omega,by omega,e2.tp,fun net p H3 e3 nok nfu hml hp=>?_⟩
  have tp3:=e3.tp
  obtain⟨na,nb,nc,xs,ys,rfl,nq,nq1,l1,nq2,l2⟩:=net_un hp
  dsimp only [gName]
  refine seq2b8 (fun σ' H'=>∃ (net:Net) (na pd:Addr) (tt a:Nat),NetOk net∧Rep net tt (a:Int)∧Rnd net a tt∧Is K H' (netD net) (.ref na)∧bR K H' pd [.int (a:Int),.int ((tt - a:Nat):Int)]∧eV H' t sl∧
   ∃ v4,σ'=[some (.ref sa),some (.ref t),some (.ref na),some (.ref pd),v4,none,none,none,none,none,none]) (fun R' hR=>?_) ?_
  ·
   refine⟨_,rfl,.ref na,net,rfl,hp,nok,fun tt j pd H4 hrep s4 qd=>?_,fun hL H4 s4=>?_⟩
   rotate_left
   refine⟨_,rfl,rfl,_,rfl,iteT (iteT ?_)⟩
   rotate_left
   obtain⟨a,rfl,rnd⟩:=hrep.rnd
   have r1:=rnd.lt
   have eL:((tt:Int) - (a:Int))=((tt - a:Nat):Int):=by omega
   rw[eL] at qd
   refine⟨_,rfl,rfl,_,rfl,iteF ?_⟩
   refine⟨_,rfl,true,pd,[(a:Int),((tt - a:Nat):Int)],rfl,qd,_,_,rfl,rfl,_,rfl,ite2 (fun _=>?_) (fun _=>hR _ _ ⟨net,na,pd,tt,a,nok,hrep,rnd,Is.mono s4.ts _ _ hp,qd,tp3.same s4,_,rfl⟩)⟩
   all_goals
    have tp4:=tp3.same s4
    refine⟨_,rfl,t,sl,_,rfl,tp4,by decide,by decide,fun rs H5 b5 tp5 r0 r1=>⟨_,_,rfl,rfl,?_⟩⟩
    obtain⟨z,hz,z1,z2⟩:∃ z:Nat,1+rs=(z:Int)∧1≤z∧z≤60:=⟨(1+rs).toNat,by omega,by omega,by omega⟩
    dsimp only
    rw[hz]
    refine⟨_,rfl,_,rfl,(show 2≤sizeLine by decide),fun q1 hq1=>⟨_,rfl,(show 2≤sizeLine by decide),fun q2 hq2=>⟨(show 2≤sizeLine by decide),fun q3 hq3=>⟨Nat.zero_le _,fun q4 hq4=>⟨(show 6≤sizeLine by decide),fun q5 hq5=>⟨(show 1≤sizeLine by decide),fun q6 hq6=>?_⟩⟩⟩⟩⟩⟩
    have s6:=aG.new (o:=HO.tup [.int 0,.int 1]) hq1
    have s7:=aG.new (o:=HO.tup [.non,.int (z:Int)]) hq2
    have s8:=aG.new (o:=HO.tup [.ref q1,.ref q2]) hq3
    have s9:=aG.new (o:=HO.tup []) hq4
    have s10:=aG.new (o:=HO.tup [.int (z:Int),.int (z:Int),.ref q3,.bl true,.non,.ref q4]) hq5
    have s11:=aG.new (o:=HO.tup [.ref q5]) hq6
    have i1:Is K _ (outD (some 0,1)) (.ref q1):=Is.mono (K:=K) ((((s7.trans s8).trans s9).trans s10).trans s11).ts _ _ (Is.tupOf (ds:=[.int 0,.int 1]) (bR.of aC) (.cons (Is.i _) (.cons (Is.i _) .nil)))
    have i2:Is K _ (outD (none,(z:Int))) (.ref q2):=Is.mono (K:=K) (((s8.trans s9).trans s10).trans s11).ts _ _ (Is.tupOf (ds:=[.non,.int (z:Int)]) (bR.of aC) (.cons Is.n (.cons (Is.i _) .nil)))
    have i3:bR K _ q3 [.ref q1,.ref q2]:=((s9.trans s10).trans s11).tup (bR.of aC)
    have i4:bR K _ q4 []:=(s10.trans s11).tup (bR.of aC)
    have i5:bR K _ q5 [.int (z:Int),.int (z:Int),.ref q3,.bl true,.non,.ref q4]:=s11.tup (bR.of aC)
    have i6:bR K (upd (upd (upd (upd (upd (upd H5 q1 (.tup [.int 0,.int 1])) q2 (.tup [.non,.int (z:Int)])) q3 (.tup [.ref q1,.ref q2])) q4 (.tup [])) q5 (.tup [.int (z:Int),.int (z:Int),.ref q3,.bl true,.non,.ref q4])) q6 (.tup [.ref q5])) q6 [.ref q5]:=bR.of aC
    have s511:=((((s6.trans s7).trans s8).trans s9).trans s10).trans s11
    have iv1:Is K _ (.tup [vsD ⟨(z:Int),(z:Int),[(some 0,1),(none,(z:Int))],true,none,[]⟩]) (.ref q6):=Is.tupOf i6 (.cons (Is.tupOf i5 (.cons (Is.i _) (.cons (Is.i _) (.cons (Is.tupOf i3 (.cons i1 (.cons i2 .nil))) (.cons (Is.b _) (.cons Is.n (.cons (Is.tupOf i4 .nil) .nil))))))) .nil)
    generalize upd (upd (upd (upd (upd (upd H5 q1 (.tup [.int 0,.int 1])) q2 (.tup [.non,.int (z:Int)])) q3 (.tup [.ref q1,.ref q2])) q4 (.tup [])) q5 (.tup [.int (z:Int),.int (z:Int),.ref q3,.bl true,.non,.ref q4])) q6 (.tup [.ref q5])=H11 at s511 iv1
    have tp11:=tp5.same s511
    refine⟨_,rfl,t,sl,_,rfl,tp11,by decide,by decide,fun rf H12 b12 tp12 f0 f1=>⟨_,_,rfl,rfl,?_⟩⟩
    obtain⟨fl,hfl,fl1⟩:∃ fl:Nat,1+rf=(fl:Int)∧1≤fl:=⟨(1+rf).toNat,by omega,by omega⟩
    dsimp only
    rw[hfl]
    refine⟨(show 3≤sizeLine by decide),fun w1 hw1=>⟨(show 1≤sizeLine by decide),fun w2 hw2=>⟨(show 2≤sizeLine by decide),fun w8 hw8=>?_⟩⟩⟩
    have a1:=aG.new (o:=HO.tup [.int 0,.int (fl:Int),.bl true]) hw1
    have a2:=aG.new (o:=HO.tup [.ref w1]) hw2
    have a3:=aG.new (o:=HO.tup [.ref q6,.ref w2]) hw8
    have j6:bR K _ w1 [.int 0,.int (fl:Int),.bl true]:=(a2.trans a3).tup (bR.of aC)
    have j7:bR K _ w2 [.ref w1]:=a3.tup (bR.of aC)
    have s1215:=(a1.trans a2).trans a3
    have iv12:=Is.mono ((b12.ts (K:=K) tp11.mut).trans s1215.ts) _ _ iv1
    have inet:Is K _ (netD (holdN z fl)) (.ref w8):=Is.tupOf (ds:=[.tup [vsD ⟨(z:Int),(z:Int),[(some 0,1),(none,(z:Int))],true,none,[]⟩],.tup [spD (0,(fl:Int),true)]]) (bR.of aC)
     (.cons iv12 (.cons (Is.tupOf j7 (.cons (Is.tupOf (ds:=[.int 0,.int (fl:Int),.bl true]) j6 (.cons (Is.i _) (.cons (Is.i _) (.cons (Is.b _) .nil)))) .nil)) .nil))
    have tp15:=tp12.same s1215
    have nokz:=hold_ok (f:=fl) z1 z2
    refine⟨_,rfl,.ref w8,holdN z fl,rfl,inet,nokz,fun tt' j' pd' H19 hrep' s19 qd'=>?_,fun hL=>absurd hL (hold_round z1 z2 fl1)⟩
    obtain⟨a',rfl,rnd'⟩:=hrep'.rnd
    have r1':=rnd'.lt
    rw[show ((tt':Int) - (a':Int))=((tt' - a':Nat):Int) by omega] at qd'
    exact hR _ _ ⟨holdN z fl,w8,pd',tt',a',nokz,hrep',rnd',Is.mono s19.ts _ _ inet,qd',tp15.same s19,_,rfl⟩
  ·rintro σ' H4 ⟨net,na,pd,tt,a,nok,hrep,rnd,hp4,qd,tp4,v4,rfl⟩
   have r1:=rnd.lt
   have r2:=rnd.le
   have n1:=nok.lo
   have n2:=nok.hi
   refine⟨_,rfl,t,sl,rfl,tp4,fun H5 e5=>⟨_,rfl,iteF ?_⟩⟩
   have ts5:=e5.bt.ts (K:=K) tp4.mut
   have hp5:=Is.mono ts5 _ _ hp4
   have qd5:=ts5 _ _ qd
   refine⟨_,rfl,pd,_,rfl,qd5,rfl,_,_,rfl,_,_,rfl,rfl,?_⟩
   have eT:((a:Int)+3 * ((tt - a:Nat):Int))=((a+3 * (tt - a):Nat):Int):=by omega
   refine⟨_,rfl,_,rfl,_,rfl,_,_,rfl,rfl,.inl ⟨by decide,by decide⟩,_,_,rfl,rfl,.ref na,net,none,a+3 * (tt - a),by rw[← eT];rfl,hp5,nok,by rw[stickN_none];exact nok,by omega,fun wl p1 p2 sts tvs H6 s6 hwl h1 ls h2 lt fwl fp1 fp2=>?_⟩
   rw[stickN_none] at ls lt
   refine⟨wl,_,rfl,bT.of hwl,rfl,_,_,rfl,_,_,rfl,rfl,?_⟩
   have hp6:=Is.mono s6.ts _ _ hp5
   have tp6:=e5.tp.same s6
   have np2:p2≠t:=fun z=>by
    obtain⟨o,e⟩:=e5.tp.some
    rw[z,e] at fp2;cases fp2
   obtain⟨ka,kb,kc,us,ws,ek,kq,kq1,kl1,_,_⟩:=net_un hp6
   cases ek
   have eul:us.length=net.vs.length:=by rw[kl1.length,List.length_map]
   have tvl:tvs.length=a+3 * (tt - a):=by rw[lt.length];simp
   refine⟨_,rfl,.inr (.inl ⟨na,_,0,_,rfl,rfl,kq,rfl,kb,us,rfl,.inr kq1,_,_,rfl,rfl,?_⟩)⟩
   refine x_drawL rfl rfl kq rfl kq1 tp6 (by omega) (by omega) fun d1 H7 b7 tp7 c0 c1=>?_
   have ts7:=b7.ts (K:=K) tp6.mut
   refine x_drawL rfl rfl (ts7 _ _ kq) rfl (ts7 _ _ kq1) tp7 (by omega) (by omega) fun d2 H8 b8 tp8 g0 g1=>⟨(show 4≤sizeLine by decide),fun ll hll=>?_⟩
   have ts8:=ts7.trans (b8.ts (K:=K) tp7.mut)
   have hp8:=Is.mono ts8 _ _ hp6
   have h28:=b8 _ _ np2 (b7 _ _ np2 h2)
   have lt8:=L2.IsL.mono ts8 _ _ lt
   have sL:=aG.new (o:=HO.lst [.int 0,.int ((us.length:Int) - 1),.int d1,.int d2]) hll
   refine⟨ll,[0,(us.length:Int) - 1,d1,d2],rfl,bT.of aC,(show 4≤1000 by decide),fun sa1 hsa1=>?_⟩
   have sS:=aG.new (o:=setO P w sa1 (ddL [0,(us.length:Int) - 1,d1,d2])) hsa1
   have dl:=ddL_len [0,(us.length:Int) - 1,d1,d2]
   have dl4:([0,(us.length:Int) - 1,d1,d2]:List Int).length=4:=rfl
   refine⟨sa1,_,rfl,aC,by omega,fun l4 ms hl4 pm pw=>?_⟩
   have sM:=aG.new (o:=HO.lst (ms.map V.int)) hl4
   have s11:=(sL.trans sS).trans sM
   have l411:upd (upd (upd H8 ll (.lst [.int 0,.int ((us.length:Int) - 1),.int d1,.int d2])) sa1 (setO P w sa1 (ddL [0,(us.length:Int) - 1,d1,d2]))) l4 (.lst (ms.map V.int)) l4=some (.lst (ms.map V.int)):=aC
   have ris:=rises_of pm pw
   generalize upd (upd (upd H8 ll (.lst [.int 0,.int ((us.length:Int) - 1),.int d1,.int d2])) sa1 (setO P w sa1 (ddL [0,(us.length:Int) - 1,d1,d2]))) l4 (.lst (ms.map V.int))=H11 at s11 l411
   have nl4:l4≠t:=fun z=>by
    obtain⟨o,e⟩:=(tp8.same (sL.trans sS)).some
    rw[z,e] at hl4;cases hl4
   have tp11:=tp8.same s11
   have hp11:=Is.mono s11.ts _ _ hp8
   have h211:=s11 _ _ h28
   have lt11:=L2.IsL.mono s11.ts _ _ lt8
   refine⟨l4,rfl,⟨_,bT.of l411⟩,for_list (K:=K) (a:=l4) (xs:=ms.map V.int) (fun m σ' H'=>Ext t sl H11 H'∧∃ v9 v10,σ'=[some (.ref sa),some (.ref t),some (.ref na),some (.ref pd),v4,some (.int (a:Int)),some (.int ((tt - a:Nat):Int)),some (.ref p1),some (.ref p2),v9,v10])
    ⟨⟨fC.refl _,tp11⟩,_,_,rfl⟩ (fun m σ' H' _ p=>bT.of (p.1.bt _ _ nl4 l411)) ?_ fun σ' H' _=>k H'⟩
   rintro m u σ' H12 hu ⟨e12,v9,v10,rfl⟩
   rw[List.getElem?_map] at hu
   obtain⟨i,hi,rfl⟩:=Option.map_eq_some_iff.mp hu
   have him:=(ris.mem i).1 (List.mem_of_getElem? hi)
   obtain⟨j,rfl,hj⟩:∃ j:Nat,i=(j:Int)∧j < net.vs.length:=by
    simp only [List.mem_cons,List.not_mem_nil,or_false] at him
    refine⟨i.toNat,?_,?_⟩ <;> omega
   have ts12:=e12.bt.ts (K:=K) tp11.mut
   have hp12:=Is.mono ts12 _ _ hp11
   have h212:=e12.bt _ _ np2 h211
   have lt12:=L2.IsL.mono ts12 _ _ lt11
   refine⟨_,rfl,p2,rfl,⟨_,bT.of h212⟩,lc_list (K:=K) (a:=p2) (xs:=tvs) (fun D i r σ' H'=>H12 D=none∧aG H12 H'∧H' D=some (.lst r)∧r=(eO (bF net j) i).map V.int∧∃ u,σ'=[u,some (.int (j:Int))])
    (fun D i r σ' H' p=>bT.of (p.2.1 _ _ h212)) (fun D hD=>⟨hD,aG.new hD,aC,rfl,none,rfl⟩) ?_ ?_⟩
   rotate_left
   ·rintro D i y r σ' H13 hy ⟨hD,sm,hDl,rfl,u,rfl⟩
    have hil:=(List.getElem?_eq_some_iff.mp hy).1
    obtain⟨ta,hta,qta⟩:=tipLD_at (L2.IsL.mono sm.ts _ _ lt12) (show i < a+3 * (tt - a) by omega)
    rw[hy] at hta
    cases hta
    refine name_yes ?_
    refine⟨_,rfl,_,rfl,ta,_,rfl,.inr qta,rfl,flat_tip _,.inr ⟨_,rfl,?_⟩⟩
    rw[if_neg Bool.false_ne_true,show inV (.int (j:Int)) (eU (cI net i))=_ from inV_tip _ _]
    refine⟨hDl,small1W (by rw[List.length_map,eB];omega),hD,sm.put hD,aC,?_,_,rfl⟩
    rw[seqI_succ,List.map_append]
    congr 2
    unfold bF
    by_cases c:j∈cI net i
    ·rw[if_pos c,decide_eq_true c];rfl
    ·rw[if_neg c,decide_eq_false c];rfl
   rintro ol r σ' H13 ⟨hol,s13,hol13,rfl,_⟩
   rw[tvl] at hol13
   have e13:=e12.sameE s13
   refine⟨_,rfl,_,rfl,_,rfl,_,rfl,_,rfl,_,rfl,t,sl,ol,.ref na,net,j,a,tt,rfl,e13.tp,Is.mono s13.ts _ _ hp12,nok,hj,hrep,rnd,hol13,e12.ne hol,fun H14 e14=>⟨_,rfl,iteF ?_⟩⟩
   exact⟨⟨e13.bt.trans e14.bt,e14.tp⟩,_,_,rfl⟩
end
end Tw
namespace Tw
open PySem L2
theorem by_len1 {α:Type}{p:List α→Prop} (h:∀ a0,p [a0]):∀ us:List α,us.length=1→p us
 | [a0],_=>h a0
theorem by_len2 {α:Type}{p:List α→Prop} (h:∀ a0 a1,p [a0,a1]):∀ us:List α,us.length=2→p us
 | [a0,a1],_=>h a0 a1
theorem dW {α:Type}{p:List α→Prop} (h:∀ a0 a1 a2,p [a0,a1,a2]):∀ us:List α,us.length=3→p us
 | [a0,a1,a2],_=>h a0 a1 a2
theorem by_len4 {α:Type}{p:List α→Prop} (h:∀ a0 a1 a2 a3,p [a0,a1,a2,a3]):∀ us:List α,us.length=4→p us
 | [a0,a1,a2,a3],_=>h a0 a1 a2 a3
theorem by_len5 {α:Type}{p:List α→Prop} (h:∀ a0 a1 a2 a3 a4,p [a0,a1,a2,a3,a4]):∀ us:List α,us.length=5→p us
 | [a0,a1,a2,a3,a4],_=>h a0 a1 a2 a3 a4
theorem by_len6 {α:Type}{p:List α→Prop} (h:∀ a0 a1 a2 a3 a4 a5,p [a0,a1,a2,a3,a4,a5]):∀ us:List α,us.length=6→p us
 | [a0,a1,a2,a3,a4,a5],_=>h a0 a1 a2 a3 a4 a5
theorem all_mk {l:PySem.W.OpenLaw}{w:World}{K:PySem.W.Frag}{h:Heap}{mg:Str→Option Value}{fa f0 f1 f2 f3 f4 f5 f6 f7 f8 f9 f10 f11 f12 f13 f14 f15 f16 f17 f18 f19 f20 f21 f22 f23 f24 f25 f26 f27 c_TipError c_NoVessel c_TooLong:Addr} (X:K.In h) (G:h.Ns mainGlobals mg) (hfa:mg "law" = some (.ref fa))
  {od0 an0 od1 an1 od2 an2 od3 an3 od4 an4 od5 an5 od6 an6 od7 an7 od8 an8 od9 an9 od10 an10 od11 an11 od12 an12 od13 an13 od14 an14 od15 an15 od16 an16 od17 an17 od18 an18 od19 an19 od20 an20 od21 an21 od22 an22 od23 an23 od24 an24 od25 an25 od26 an26 od27 an27:Option Addr}{sl0 sl1 sl2 sl3 sl4 sl5 sl6 sl7 sl8 sl9 sl10 sl11 sl12 sl13 sl14 sl15 sl16 sl17 sl18 sl19 sl20 sl21 sl22 sl23 sl24 sl25 sl26 sl27:Array (Option Value)}{oc0 kV0 dc0 pm0 cd0 ct0 oc1 kV1 dc1 pm1 cd1 ct1 oc2 kV2 dc2 pm2 cd2 ct2 oc3 kV3 dc3 pm3 cd3 ct3 oc4 kV4 dc4 pm4 cd4 ct4 oc5 kV5 dc5 pm5 cd5 ct5 oc6 kV6 dc6 pm6 cd6 ct6 oc7 kV7 dc7 pm7 cd7 ct7 oc8 kV8 dc8 pm8 cd8 ct8 oc9 kV9 dc9 pm9 cd9 ct9 oc10 kV10 dc10 pm10 cd10 ct10 oc11 kV11 dc11 pm11 cd11 ct11 oc12 kV12 dc12 pm12 cd12 ct12 oc13 kV13 dc13 pm13 cd13 ct13 oc14 kV14 dc14 pm14 cd14 ct14 oc15 kV15 dc15 pm15 cd15 ct15 oc16 kV16 dc16 pm16 cd16 ct16 oc17 kV17 dc17 pm17 cd17 ct17 oc18 kV18 dc18 pm18 cd18 ct18 oc19 kV19 dc19 pm19 cd19 ct19 oc20 kV20 dc20 pm20 cd20 ct20 oc21 kV21 dc21 pm21 cd21 ct21 oc22 kV22 dc22 pm22 cd22 ct22 oc23 kV23 dc23 pm23 cd23 ct23 oc24 kV24 dc24 pm24 cd24 ct24 oc25 kV25 dc25 pm25 cd25 ct25 oc26 kV26 dc26 pm26 cd26 ct26 oc27 kV27 dc27 pm27 cd27 ct27:Value}
  {tkT:Tok}
  (a0:PySem.W.nsIn K mainGlobals "_law_draw" = some (some (.ref f0)))
  (l0:K.lookup f0=some ⟨oc0,od0,.func (PySem.W.fnOf "_law_draw" "_law_draw" (bG (bE 23)) (bB (bE 23)) (aJ (bE 23)) .none kV0 dc0 pm0 an0 cd0 ct0),sl0⟩)
  (c0:PySem.W.codeIn K cd0 "_law_draw" = true)
  (k0:PySem.W.keepIn K (.ref f0)=true)
  (a1:PySem.W.nsIn K mainGlobals "_law_outs" = some (some (.ref f1)))
  (l1:K.lookup f1=some ⟨oc1,od1,.func (PySem.W.fnOf "_law_outs" "_law_outs" (bG (bE 24)) (bB (bE 24)) (aJ (bE 24)) .none kV1 dc1 pm1 an1 cd1 ct1),sl1⟩)
  (c1:PySem.W.codeIn K cd1 "_law_outs" = true)
  (k1:PySem.W.keepIn K (.ref f1)=true)
  (a2:PySem.W.nsIn K mainGlobals "_law_vessel" = some (some (.ref f2)))
  (l2:K.lookup f2=some ⟨oc2,od2,.func (PySem.W.fnOf "_law_vessel" "_law_vessel" (bG (bE 25)) (bB (bE 25)) (aJ (bE 25)) .none kV2 dc2 pm2 an2 cd2 ct2),sl2⟩)
  (c2:PySem.W.codeIn K cd2 "_law_vessel" = true)
  (k2:PySem.W.keepIn K (.ref f2)=true)
  (a3:PySem.W.nsIn K mainGlobals "_law_net" = some (some (.ref f3)))
  (l3:K.lookup f3=some ⟨oc3,od3,.func (PySem.W.fnOf "_law_net" "_law_net" (bG (bE 26)) (bB (bE 26)) (aJ (bE 26)) .none kV3 dc3 pm3 an3 cd3 ct3),sl3⟩)
  (c3:PySem.W.codeIn K cd3 "_law_net" = true)
  (k3:PySem.W.keepIn K (.ref f3)=true)
  (a4:PySem.W.nsIn K mainGlobals "_law_first" = some (some (.ref f4)))
  (l4:K.lookup f4=some ⟨oc4,od4,.func (PySem.W.fnOf "_law_first" "_law_first" (bG (bE 27)) (bB (bE 27)) (aJ (bE 27)) .none kV4 dc4 pm4 an4 cd4 ct4),sl4⟩)
  (c4:PySem.W.codeIn K cd4 "_law_first" = true)
  (k4:PySem.W.keepIn K (.ref f4)=true)
  (a5:PySem.W.nsIn K mainGlobals "_law_filled" = some (some (.ref f5)))
  (l5:K.lookup f5=some ⟨oc5,od5,.func (PySem.W.fnOf "_law_filled" "_law_filled" (bG (bE 28)) (bB (bE 28)) (aJ (bE 28)) .none kV5 dc5 pm5 an5 cd5 ct5),sl5⟩)
  (c5:PySem.W.codeIn K cd5 "_law_filled" = true)
  (k5:PySem.W.keepIn K (.ref f5)=true)
  (a6:PySem.W.nsIn K mainGlobals "_law_tick" = some (some (.ref f6)))
  (l6:K.lookup f6=some ⟨oc6,od6,.func (PySem.W.fnOf "_law_tick" "_law_tick" (bG (bE 29)) (bB (bE 29)) (aJ (bE 29)) .none kV6 dc6 pm6 an6 cd6 ct6),sl6⟩)
  (c6:PySem.W.codeIn K cd6 "_law_tick" = true)
  (k6:PySem.W.keepIn K (.ref f6)=true)
  (a7:PySem.W.nsIn K mainGlobals "_law_round" = some (some (.ref f7)))
  (l7:K.lookup f7=some ⟨oc7,od7,.func (PySem.W.fnOf "_law_round" "_law_round" (bG (bE 31)) (bB (bE 31)) (aJ (bE 31)) .none kV7 dc7 pm7 an7 cd7 ct7),sl7⟩)
  (c7:PySem.W.codeIn K cd7 "_law_round" = true)
  (k7:PySem.W.keepIn K (.ref f7)=true)
  (a8:PySem.W.nsIn K mainGlobals "is_whole" = some (some (.ref f8)))
  (l8:K.lookup f8=some ⟨oc8,od8,.func (PySem.W.fnOf "is_whole" "is_whole" (bG (bE 6)) (bB (bE 6)) (aJ (bE 6)) .none kV8 dc8 pm8 an8 cd8 ct8),sl8⟩)
  (c8:PySem.W.codeIn K cd8 "is_whole" = true)
  (k8:PySem.W.keepIn K (.ref f8)=true)
  (a9:PySem.W.nsIn K mainGlobals "need_vessel" = some (some (.ref f9)))
  (l9:K.lookup f9=some ⟨oc9,od9,.func (PySem.W.fnOf "need_vessel" "need_vessel" (bG (bE 5)) (bB (bE 5)) (aJ (bE 5)) .none kV9 dc9 pm9 an9 cd9 ct9),sl9⟩)
  (c9:PySem.W.codeIn K cd9 "need_vessel" = true)
  (k9:PySem.W.keepIn K (.ref f9)=true)
  (a10:PySem.W.nsIn K mainGlobals "first_state" = some (some (.ref f10)))
  (l10:K.lookup f10=some ⟨oc10,od10,.func (PySem.W.fnOf "first_state" "first_state" (bG (bE 8)) (bB (bE 8)) (aJ (bE 8)) .none kV10 dc10 pm10 an10 cd10 ct10),sl10⟩)
  (c10:PySem.W.codeIn K cd10 "first_state" = true)
  (k10:PySem.W.keepIn K (.ref f10)=true)
  (a11:PySem.W.nsIn K mainGlobals "pouring" = some (some (.ref f11)))
  (l11:K.lookup f11=some ⟨oc11,od11,.func (PySem.W.fnOf "pouring" "pouring" (bG (bE 9)) (bB (bE 9)) (aJ (bE 9)) .none kV11 dc11 pm11 an11 cd11 ct11),sl11⟩)
  (c11:PySem.W.codeIn K cd11 "pouring" = true)
  (k11:PySem.W.keepIn K (.ref f11)=true)
  (a12:PySem.W.nsIn K mainGlobals "filled" = some (some (.ref f12)))
  (l12:K.lookup f12=some ⟨oc12,od12,.func (PySem.W.fnOf "filled" "filled" (bG (bE 11)) (bB (bE 11)) (aJ (bE 11)) .none kV12 dc12 pm12 an12 cd12 ct12),sl12⟩)
  (c12:PySem.W.codeIn K cd12 "filled" = true)
  (k12:PySem.W.keepIn K (.ref f12)=true)
  (a13:PySem.W.nsIn K mainGlobals "send" = some (some (.ref f13)))
  (l13:K.lookup f13=some ⟨oc13,od13,.func (PySem.W.fnOf "send" "send" (bG (bE 14)) (bB (bE 14)) (aJ (bE 14)) .none kV13 dc13 pm13 an13 cd13 ct13),sl13⟩)
  (c13:PySem.W.codeIn K cd13 "send" = true)
  (k13:PySem.W.keepIn K (.ref f13)=true)
  (a14:PySem.W.nsIn K mainGlobals "share_out" = some (some (.ref f14)))
  (l14:K.lookup f14=some ⟨oc14,od14,.func (PySem.W.fnOf "share_out" "share_out" (bG (bE 13)) (bB (bE 13)) (aJ (bE 13)) .none kV14 dc14 pm14 an14 cd14 ct14),sl14⟩)
  (c14:PySem.W.codeIn K cd14 "share_out" = true)
  (k14:PySem.W.keepIn K (.ref f14)=true)
  (a15:PySem.W.nsIn K mainGlobals "settle" = some (some (.ref f15)))
  (l15:K.lookup f15=some ⟨oc15,od15,.func (PySem.W.fnOf "settle" "settle" (bG (bE 12)) (bB (bE 12)) (aJ (bE 12)) .none kV15 dc15 pm15 an15 cd15 ct15),sl15⟩)
  (c15:PySem.W.codeIn K cd15 "settle" = true)
  (k15:PySem.W.keepIn K (.ref f15)=true)
  (a16:PySem.W.nsIn K mainGlobals "doors_behind" = some (some (.ref f16)))
  (l16:K.lookup f16=some ⟨oc16,od16,.func (PySem.W.fnOf "doors_behind" "doors_behind" (bG (bE 15)) (bB (bE 15)) (aJ (bE 15)) .none kV16 dc16 pm16 an16 cd16 ct16),sl16⟩)
  (c16:PySem.W.codeIn K cd16 "doors_behind" = true)
  (k16:PySem.W.keepIn K (.ref f16)=true)
  (a17:PySem.W.nsIn K mainGlobals "tick_behind" = some (some (.ref f17)))
  (l17:K.lookup f17=some ⟨oc17,od17,.func (PySem.W.fnOf "tick_behind" "tick_behind" (bG (bE 10)) (bB (bE 10)) (aJ (bE 10)) .none kV17 dc17 pm17 an17 cd17 ct17),sl17⟩)
  (c17:PySem.W.codeIn K cd17 "tick_behind" = true)
  (k17:PySem.W.keepIn K (.ref f17)=true)
  (a18:PySem.W.nsIn K mainGlobals "go_round" = some (some (.ref f18)))
  (l18:K.lookup f18=some ⟨oc18,od18,.func (PySem.W.fnOf "go_round" "go_round" (bG (bE 20)) (bB (bE 20)) (aJ (bE 20)) .none kV18 dc18 pm18 an18 cd18 ct18),sl18⟩)
  (c18:PySem.W.codeIn K cd18 "go_round" = true)
  (k18:PySem.W.keepIn K (.ref f18)=true)
  (a19:PySem.W.nsIn K mainGlobals "sum_by" = some (some (.ref f19)))
  (l19:K.lookup f19=some ⟨oc19,od19,.func (PySem.W.fnOf "sum_by" "sum_by" (bG (bE 21)) (bB (bE 21)) (aJ (bE 21)) .none kV19 dc19 pm19 an19 cd19 ct19),sl19⟩)
  (c19:PySem.W.codeIn K cd19 "sum_by" = true)
  (k19:PySem.W.keepIn K (.ref f19)=true)
  (a20:PySem.W.nsIn K mainGlobals "tips_by" = some (some (.ref f20)))
  (l20:K.lookup f20=some ⟨oc20,od20,.func (PySem.W.fnOf "tips_by" "tips_by" (bG (bE 18)) (bB (bE 18)) (aJ (bE 18)) .none kV20 dc20 pm20 an20 cd20 ct20),sl20⟩)
  (c20:PySem.W.codeIn K cd20 "tips_by" = true)
  (k20:PySem.W.keepIn K (.ref f20)=true)
  (a21:PySem.W.nsIn K mainGlobals "tick_of" = some (some (.ref f21)))
  (l21:K.lookup f21=some ⟨oc21,od21,.func (PySem.W.fnOf "tick_of" "tick_of" (bG (bE 19)) (bB (bE 19)) (aJ (bE 19)) .none kV21 dc21 pm21 an21 cd21 ct21),sl21⟩)
  (c21:PySem.W.codeIn K cd21 "tick_of" = true)
  (k21:PySem.W.keepIn K (.ref f21)=true)
  (a22:PySem.W.nsIn K mainGlobals "_law_count_right" = some (some (.ref f22)))
  (l22:K.lookup f22=some ⟨oc22,od22,.func (PySem.W.fnOf "_law_count_right" "_law_count_right" (bG (bE 35)) (bB (bE 35)) (aJ (bE 35)) .none kV22 dc22 pm22 an22 cd22 ct22),sl22⟩)
  (c22:PySem.W.codeIn K cd22 "_law_count_right" = true)
  (k22:PySem.W.keepIn K (.ref f22)=true)
  (a23:PySem.W.nsIn K mainGlobals "_law_walk" = some (some (.ref f23)))
  (l23:K.lookup f23=some ⟨oc23,od23,.func (PySem.W.fnOf "_law_walk" "_law_walk" (bG (bE 30)) (bB (bE 30)) (aJ (bE 30)) .none kV23 dc23 pm23 an23 cd23 ct23),sl23⟩)
  (c23:PySem.W.codeIn K cd23 "_law_walk" = true)
  (k23:PySem.W.keepIn K (.ref f23)=true)
  (a24:PySem.W.nsIn K mainGlobals "_law_counted" = some (some (.ref f24)))
  (l24:K.lookup f24=some ⟨oc24,od24,.func (PySem.W.fnOf "_law_counted" "_law_counted" (bG (bE 32)) (bB (bE 32)) (aJ (bE 32)) .none kV24 dc24 pm24 an24 cd24 ct24),sl24⟩)
  (c24:PySem.W.codeIn K cd24 "_law_counted" = true)
  (k24:PySem.W.keepIn K (.ref f24)=true)
  (a25:PySem.W.nsIn K mainGlobals "_law_is" = some (some (.ref f25)))
  (l25:K.lookup f25=some ⟨oc25,od25,.func (PySem.W.fnOf "_law_is" "_law_is" (bG (bE 33)) (bB (bE 33)) (aJ (bE 33)) .none kV25 dc25 pm25 an25 cd25 ct25),sl25⟩)
  (c25:PySem.W.codeIn K cd25 "_law_is" = true)
  (k25:PySem.W.keepIn K (.ref f25)=true)
  (a26:PySem.W.nsIn K mainGlobals "_law_vessel_right" = some (some (.ref f26)))
  (l26:K.lookup f26=some ⟨oc26,od26,.func (PySem.W.fnOf "_law_vessel_right" "_law_vessel_right" (bG (bE 34)) (bB (bE 34)) (aJ (bE 34)) .none kV26 dc26 pm26 an26 cd26 ct26),sl26⟩)
  (c26:PySem.W.codeIn K cd26 "_law_vessel_right" = true)
  (k26:PySem.W.keepIn K (.ref f26)=true)
  (a27:PySem.W.nsIn K mainGlobals "law" = some (some (.ref f27)))
  (l27:K.lookup f27=some ⟨oc27,od27,.func (PySem.W.fnOf "law" "law" (bG (bE 36)) (bB (bE 36)) (aJ (bE 36)) .none kV27 dc27 pm27 an27 cd27 ct27),sl27⟩)
  (c27:PySem.W.codeIn K cd27 "law" = true)
  (k27:PySem.W.keepIn K (.ref f27)=true)
  (mcT:PySem.W.nsIn K mainGlobals "LAST_TICK" = some (some (.int 2000 tkT)))
  (xcTipError:PySem.W.nsIn K mainGlobals "TipError" = some (some (.ref c_TipError)))
  (xcNoVessel:PySem.W.nsIn K mainGlobals "NoVessel" = some (some (.ref c_NoVessel)))
  (xcTooLong:PySem.W.nsIn K mainGlobals "TooLong" = some (some (.ref c_TooLong)))
  (z0:PySem.W.nsIn K mainGlobals "len" = some none)
  (z1:PySem.W.nsIn K mainGlobals "sum" = some none)
  (z2:PySem.W.nsIn K mainGlobals "all" = some none)
  (z3:PySem.W.nsIn K mainGlobals "max" = some none)
  (z4:PySem.W.nsIn K mainGlobals "min" = some none)
  (z5:PySem.W.nsIn K mainGlobals "int" = some none)
  (z6:PySem.W.nsIn K mainGlobals "tuple" = some none)
  (z7:PySem.W.nsIn K mainGlobals "list" = some none)
  (z8:PySem.W.nsIn K mainGlobals "bool" = some none)
  (z9:PySem.W.nsIn K mainGlobals "range" = some none)
  (z10:PySem.W.nsIn K mainGlobals "zip" = some none)
  (z11:PySem.W.nsIn K mainGlobals "enumerate" = some none)
  (z12:PySem.W.nsIn K mainGlobals "isinstance" = some none)
  (z13:PySem.W.nsIn K mainGlobals "divmod" = some none)
  (z14:PySem.W.nsIn K mainGlobals "set" = some none)
  (z15:PySem.W.nsIn K mainGlobals "sorted" = some none)
  (exV:PySem.W.excIn K c_NoVessel [.type "ValueError",.type "Exception",.type "BaseException",.type "object"] "ValueError.__new__" = true)
  (exL:PySem.W.excIn K c_TooLong [.type "ValueError",.type "Exception",.type "BaseException",.type "object"] "ValueError.__new__" = true) :
  ∃ fd:FuncData,(∀ (s:Shared) (v:Value),BindsTo s fd ⟨[v],[]⟩ [("script",v)])∧∀ base:Heap,K.In base→base.Ns mainGlobals mg→FnOk l.prog w K mg base CX0 8 fa fd ["script"] (spLaw K):=by
 have e:=hfa.symm.trans (PySem.W.mg_of X G a27)
 cases e
 have T:Txt mg:=⟨PySem.W.mg_none_of X G z0,PySem.W.mg_none_of X G z1,PySem.W.mg_none_of X G z2,PySem.W.mg_none_of X G z3,PySem.W.mg_none_of X G z4,PySem.W.mg_none_of X G z5,PySem.W.mg_none_of X G z6,PySem.W.mg_none_of X G z7,PySem.W.mg_none_of X G z8,PySem.W.mg_none_of X G z9,PySem.W.mg_none_of X G z10,PySem.W.mg_none_of X G z11,PySem.W.mg_none_of X G z12,PySem.W.mg_none_of X G z13,PySem.W.mg_none_of X G z14,PySem.W.mg_none_of X G z15⟩
 have UT:TxtT mg:=⟨⟨_,PySem.W.mg_of X G mcT,_,rfl⟩⟩
 have XC_NoVessel:ExC K "NoVessel" c_NoVessel:=⟨xcNoVessel,exV⟩
 have XC_TooLong:ExC K "TooLong" c_TooLong:=⟨xcTooLong,exL⟩
 have F0:=cJ (st:=(bE 23)) l0 c0 k0
 have F1:=cJ (st:=(bE 24)) l1 c1 k1
 have F2:=cJ (st:=(bE 25)) l2 c2 k2
 have F3:=cJ (st:=(bE 26)) l3 c3 k3
 have F4:=cJ (st:=(bE 27)) l4 c4 k4
 have F5:=cJ (st:=(bE 28)) l5 c5 k5
 have F6:=cJ (st:=(bE 29)) l6 c6 k6
 have F7:=cJ (st:=(bE 31)) l7 c7 k7
 have F8:=cJ (st:=(bE 6)) l8 c8 k8
 have F9:=cJ (st:=(bE 5)) l9 c9 k9
 have F10:=cJ (st:=(bE 8)) l10 c10 k10
 have F11:=cJ (st:=(bE 9)) l11 c11 k11
 have F12:=cJ (st:=(bE 11)) l12 c12 k12
 have F13:=cJ (st:=(bE 14)) l13 c13 k13
 have F14:=cJ (st:=(bE 13)) l14 c14 k14
 have F15:=cJ (st:=(bE 12)) l15 c15 k15
 have F16:=cJ (st:=(bE 15)) l16 c16 k16
 have F17:=cJ (st:=(bE 10)) l17 c17 k17
 have F18:=cJ (st:=(bE 20)) l18 c18 k18
 have F19:=cJ (st:=(bE 21)) l19 c19 k19
 have F20:=cJ (st:=(bE 18)) l20 c20 k20
 have F21:=cJ (st:=(bE 19)) l21 c21 k21
 have F22:=cJ (st:=(bE 35)) l22 c22 k22
 have F23:=cJ (st:=(bE 30)) l23 c23 k23
 have F24:=cJ (st:=(bE 32)) l24 c24 k24
 have F25:=cJ (st:=(bE 33)) l25 c25 k25
 have F26:=cJ (st:=(bE 34)) l26 c26 k26
 have F27:=cJ (st:=(bE 36)) l27 c27 k27
 refine⟨PySem.W.fnOf "law" "law" (bG (bE 36)) (bB (bE 36)) (aJ (bE 36)) .none kV27 dc27 pm27 an27 cd27 ct27,fun s v=>.of_eq rfl,fun base _ _=>?_⟩
 have CB0:Callee l.prog w K mg base "_law_draw" ["tape","many"] 1 spDrawB f0 _:=⟨ok__law_drawB F0 T,PySem.W.mg_of X G a0,k0,F0.binds (ps:=["tape","many"]) fun _ _ _ _ _ _=>by_len2 fun _ _=>rfl⟩
 have C0:Callee l.prog w K mg base "_law_draw" ["tape","many"] 1 spDraw f0 _:=⟨ok__law_draw F0 T,PySem.W.mg_of X G a0,k0,F0.binds (ps:=["tape","many"]) fun _ _ _ _ _ _=>by_len2 fun _ _=>rfl⟩
 have C1:Callee l.prog w K mg base "_law_outs" ["tape","many","small"] 2 (spOuts K) f1 _:=⟨ok__law_outs F1 T C0,PySem.W.mg_of X G a1,k1,F1.binds (ps:=["tape","many","small"]) fun _ _ _ _ _ _=>dW fun _ _ _=>rfl⟩
 have C2:Callee l.prog w K mg base "_law_vessel" ["tape","number","many","spouts","small"] 3 (spVessel K) f2 _:=⟨ok__law_vessel F2 T C0 C1,PySem.W.mg_of X G a2,k2,F2.binds (ps:=["tape","number","many","spouts","small"]) fun _ _ _ _ _ _=>by_len5 fun _ _ _ _ _=>rfl⟩
 have C3:Callee l.prog w K mg base "_law_net" ["tape","most","small"] 4 (spNetM K) f3 _:=⟨ok__law_netM F3 T C0 C2,PySem.W.mg_of X G a3,k3,F3.binds (ps:=["tape","most","small"]) fun _ _ _ _ _ _=>dW fun _ _ _=>rfl⟩
 have C4:Callee l.prog w K mg base "_law_first" ["net"] 1 (spFirst K) f4 _:=⟨ok__law_first F4 T,PySem.W.mg_of X G a4,k4,F4.binds (ps:=["net"]) fun _ _ _ _ _ _=>by_len1 fun _=>rfl⟩
 have C5:Callee l.prog w K mg base "_law_filled" ["net","state","poured"] 1 (spFilledL K) f5 _:=⟨ok__law_filled F5 T,PySem.W.mg_of X G a5,k5,F5.binds (ps:=["net","state","poured"]) fun _ _ _ _ _ _=>dW fun _ _ _=>rfl⟩
 have CB6:Callee l.prog w K mg base "_law_tick" ["net","state","poured","fast"] 2 (spTickL K) f6 _:=⟨ok__law_tickLF F6 T C5,PySem.W.mg_of X G a6,k6,F6.binds (ps:=["net","state","poured","fast"]) fun _ _ _ _ _ _=>by_len4 fun _ _ _ _=>rfl⟩
 have C6:Callee l.prog w K mg base "_law_tick" ["net","state","poured","fast"] 2 (spTickF K) f6 _:=⟨ok__law_tickF F6 T C5,PySem.W.mg_of X G a6,k6,F6.binds (ps:=["net","state","poured","fast"]) fun _ _ _ _ _ _=>by_len4 fun _ _ _ _=>rfl⟩
 have C7:Callee l.prog w K mg base "_law_round" ["net"] 3 (spRoundL K) f7 _:=⟨ok__law_round F7 T C4 CB6,PySem.W.mg_of X G a7,k7,F7.binds (ps:=["net"]) fun _ _ _ _ _ _=>by_len1 fun _=>rfl⟩
 have C8:Callee l.prog w K mg base "is_whole" ["thing","least","most"] 1 spWholeI f8 _:=⟨ok_is_wholeI F8 T,PySem.W.mg_of X G a8,k8,F8.binds (ps:=["thing","least","most"]) fun _ _ _ _ _ _=>dW fun _ _ _=>rfl⟩
 have C9:CalleeR l.prog w K mg base "need_vessel" ["net","number"] 2 (spNeedR K c_NoVessel) f9 _:=⟨ok_need_vesselR F9 T XC_NoVessel C8,PySem.W.mg_of X G a9,k9,F9.binds (ps:=["net","number"]) fun _ _ _ _ _ _=>by_len2 fun _ _=>rfl⟩
 have C10:Callee l.prog w K mg base "first_state" ["net"] 1 (spFirst K) f10 _:=⟨ok_first_state F10 T,PySem.W.mg_of X G a10,k10,F10.binds (ps:=["net"]) fun _ _ _ _ _ _=>by_len1 fun _=>rfl⟩
 have C11:Callee l.prog w K mg base "pouring" ["net","amount"] 1 (spPouring K) f11 _:=⟨ok_pouring F11 T,PySem.W.mg_of X G a11,k11,F11.binds (ps:=["net","amount"]) fun _ _ _ _ _ _=>by_len2 fun _ _=>rfl⟩
 have C12:Callee l.prog w K mg base "filled" ["spouts","state","poured"] 1 (spFilled K) f12 _:=⟨ok_filled F12 T,PySem.W.mg_of X G a12,k12,F12.binds (ps:=["spouts","state","poured"]) fun _ _ _ _ _ _=>dW fun _ _ _=>rfl⟩
 have C13:Callee l.prog w K mg base "send" ["sent","target","amount"] 1 spSend f13 _:=⟨ok_send F13 T,PySem.W.mg_of X G a13,k13,F13.binds (ps:=["sent","target","amount"]) fun _ _ _ _ _ _=>dW fun _ _ _=>rfl⟩
 have C14:Callee l.prog w K mg base "share_out" ["outs","has","sent"] 2 (spShare K) f14 _:=⟨ok_share_out F14 T C13,PySem.W.mg_of X G a14,k14,F14.binds (ps:=["outs","has","sent"]) fun _ _ _ _ _ _=>dW fun _ _ _=>rfl⟩
 have C15:Callee l.prog w K mg base "settle" ["vessel","has","sent"] 3 (spSettle K) f15 _:=⟨ok_settle F15 T C13 C14,PySem.W.mg_of X G a15,k15,F15.binds (ps:=["vessel","has","sent"]) fun _ _ _ _ _ _=>dW fun _ _ _=>rfl⟩
 have C16:Callee l.prog w K mg base "doors_behind" ["vessels","doors","tipped"] 1 (spDoors K) f16 _:=⟨ok_doors_behind F16 T,PySem.W.mg_of X G a16,k16,F16.binds (ps:=["vessels","doors","tipped"]) fun _ _ _ _ _ _=>dW fun _ _ _=>rfl⟩
 have C17:Callee l.prog w K mg base "tick_behind" ["net","state","poured"] 4 (spTickP K) f17 _:=⟨ok_tick_behindP F17 T C12 C15 C16,PySem.W.mg_of X G a17,k17,F17.binds (ps:=["net","state","poured"]) fun _ _ _ _ _ _=>dW fun _ _ _=>rfl⟩
 have C18:CalleeR l.prog w K mg base "go_round" ["net"] 5 (spGoP K c_TooLong) f18 _:=⟨ok_go_roundP F18 T UT XC_TooLong C10 C11 C17,PySem.W.mg_of X G a18,k18,F18.binds (ps:=["net"]) fun _ _ _ _ _ _=>by_len1 fun _=>rfl⟩
 have C19:Callee l.prog w K mg base "sum_by" ["amounts","ahead","ticks"] 1 (spSumBy K) f19 _:=⟨ok_sum_by F19 T,PySem.W.mg_of X G a19,k19,F19.binds (ps:=["amounts","ahead","ticks"]) fun _ _ _ _ _ _=>dW fun _ _ _=>rfl⟩
 have C20:CalleeR l.prog w K mg base "tips_by" ["net","vessel","ticks"] 6 (spTipsByR K c_NoVessel c_TooLong) f20 _:=⟨ok_tips_byS F20 T C9 C18 C19,PySem.W.mg_of X G a20,k20,F20.binds (ps:=["net","vessel","ticks"]) fun _ _ _ _ _ _=>dW fun _ _ _=>rfl⟩
 have C21:CalleeR l.prog w K mg base "tick_of" ["net","vessel","number"] 6 (spTickOfR K c_NoVessel c_TooLong) f21 _:=⟨ok_tick_ofS F21 T C9 C18,PySem.W.mg_of X G a21,k21,F21.binds (ps:=["net","vessel","number"]) fun _ _ _ _ _ _=>dW fun _ _ _=>rfl⟩
 have C22:Callee l.prog w K mg base "_law_count_right" ["tape"] 7 (spCR8 K) f22 _:=⟨ok__law_count_right F22 T C0 CB0 C20 C21,PySem.W.mg_of X G a22,k22,F22.binds (ps:=["tape"]) fun _ _ _ _ _ _=>by_len1 fun _=>rfl⟩
 have C23:Callee l.prog w K mg base "_law_walk" ["net","ticks","fast"] 3 (spWalk K) f23 _:=⟨ok__law_walk F23 T C4 C6,PySem.W.mg_of X G a23,k23,F23.binds (ps:=["net","ticks","fast"]) fun _ _ _ _ _ _=>dW fun _ _ _=>rfl⟩
 have C24:Callee l.prog w K mg base "_law_counted" ["own","ahead","length","ticks"] 1 (spCnt8 K) f24 _:=⟨ok__law_counted F24 T,PySem.W.mg_of X G a24,k24,F24.binds (ps:=["own","ahead","length","ticks"]) fun _ _ _ _ _ _=>by_len4 fun _ _ _ _=>rfl⟩
 have C25:Callee l.prog w K mg base "_law_is" ["found","due"] 1 spIs8 f25 _:=⟨ok__law_is F25 T,PySem.W.mg_of X G a25,k25,F25.binds (ps:=["found","due"]) fun _ _ _ _ _ _=>by_len2 fun _ _=>rfl⟩
 have C26:Callee l.prog w K mg base "_law_vessel_right" ["tape","net","number","own","ahead","length"] 7 (spVR8 K) f26 _:=⟨ok__law_vessel_right F26 T C0 CB0 C24 C25 C20 C21,PySem.W.mg_of X G a26,k26,F26.binds (ps:=["tape","net","number","own","ahead","length"]) fun _ _ _ _ _ _=>by_len6 fun _ _ _ _ _ _=>rfl⟩
 exact ok_law F27 T C0 C3 C7 C22 C23 C26
theorem walk {l:PySem.W.OpenLaw}{q:Program}{loose:List Str}{XP:(Str→Option Value)→Heap→Prop}{YP:World→Heap→Prop}{d:DefRec}{K:Params→PySem.W.Frag} (hn:l.most=some 63) (hdf:d.params.defaults=[])
  (hY:∀ (w:World) (h:Heap),YP w h→(K w.params).In h)
  (F:∀ (w:World) (mg:Str→Option Value) (fa:Addr) (h:Heap),(K w.params).In h→h.Ns mainGlobals mg→mg d.name=some (.ref fa)→
   ∃ fd:FuncData,(∀ (s:Shared) (u:Value),BindsTo s fd ⟨[u],[]⟩ [("script",u)])∧∀ base:Heap,(K w.params).In base→base.Ns mainGlobals mg→FnOk l.prog w (K w.params) mg base CX0 8 fa fd ["script"] (spLaw (K w.params))) :
  PySem.W.WalkO q loose XP YP l.row.toRowW d [] (fun f vs=>PySem.call f vs):=
 L2.walk_of (n:=63) (k:=8) (x := "script") (CX:=fun _=>CX0) (sp:=fun w=>spLaw (K w.params)) hn (by decide) hdf ⟨rfl,by decide,by decide⟩ hY F (fun _ _ a ns hl _ hS=>⟨a,ns,rfl,hS,hl,fun _=>rfl⟩) fun _ _ _ _ _ z=>z
end Tw
noncomputable def PySem.W.Fast.tw17764225260590147347:Nat:=0
theorem PySem.W.Fast.te17764225260590147347:PySem.W.Fast.tw17764225260590147347=PySem.W.Fast.tw17764225260590147347:=rfl
noncomputable def PySem.W.Fast.tw10124329801245516663:PySem.Program:=PySem.Challenge.pw_tipwell_k08_whole_tips_for_ever
theorem PySem.W.Fast.te10124329801245516663:PySem.Challenge.pw_tipwell_k08_whole_tips_for_ever=PySem.W.Fast.tw10124329801245516663:=rfl
namespace PySem.W.Fast
def tw7639238912437317736:=0
def tw14099095631729109712:=0
def tw5542005219537689700:=0
def tw14951633675900863395:=0
def tw10166931286227217924:=0
def tw15248984776582824650:=0
def tw13508927373620251040:=0
def tw993295321063464455:=0
def tw5355796712805602688:=0
def tw4526929695408805002:=0
def tw4802060160040740127:=0
def tw8663139883806099577:=0
def tw17778890322242652972:=0
def tw16121543194801135268:=0
def tw7436192923844389751:=0
def tw3924812015249491703:=0
def tw14831949645376616617:=0
def tw2269112075027725967:=0
def tw536247709988422025:=0
def tw12312639038448785821:=0
def tw1269971564266100111:=0
def tw8988259702268064468:=0
def tw14400996349300304990:=0
def tw14218341654780577222:=0
def tw15520407392609551836:=0
def tw9577863049549017768:=0
def tw15602526761535731140:=0
def tw12461000858369306364:=0
def tw14557932268888806544:=0
def tw6435320377519863420:=0
def tw4101045001132176287:=0
def tw4428905851807960537:=0
def tw15279586822616317654:=0
def tw3730609522410548222:=0
def tw11155188741585421472:=0
def tw13694653261382299137:=0
def tw18180808342642835239:=0
def tw12829548568044878352:=0
def tw15163304115681326421:=0
def tw7941619337546151643:=0
def tw2333308642420267938:=0
def tw1887071822874932456:=0
def tw9982342616087076651:=0
def tw12385355723881250741:=0
def tw5152935321158555850:=0
def tw3803252747992008748:=0
def tw6987168474892913549:=0
def tw2968413948422545888:=0
def tw1247064222351805565:=0
def tw16501116968738093598:=0
def tw16015055101145223378:=0
def tw3557965844107176838:=0
def tw3112582881127721578:=0
def tw847006234988129256:=0
def tw528346419298632509:=0
def tw12543907962205250295:=0
def tw58199880328658150:=0
def tw6293807795610005101:=0
def tw3773268634750794590:=0
def tw3170051993314844554:=0
def tw3248474809733102197:=0
def tw13341765611797470760:=0
def tw17968586312579778408:=0
def tw2137142193895153557:=0
def tw15431133374557963541:=0
def tw3206832066364494035:=0
def tw12309680016999382487:=0
def tw14672704007836722806:=0
def tw324834501542302830:=0
end PySem.W.Fast
open PySem PySem.W PyProof.Rows
set_option maxRecDepth 100000 in
set_option maxHeartbeats 0 in
theorem PySem.Challenge.cw_tipwell_k08_whole_tips_for_ever_holds : PySem.Challenge.rw_tipwell_k08_whole_tips_for_ever.Holds := by
 w_on;o_law;k_head;(case hw=>w_witness2)
 k_fill
 refine Tw.walk (l:=PySem.Challenge.rw_tipwell_k08_whole_tips_for_ever) rfl rfl (fun w h Y=>by first | exact PySem.W.kIn_of Y | exact PySem.W.km_in_of Y) ?F
 case F=>
  intro w mg fa h KX G hmg
  refine' Tw.all_mk KX G hmg ?_ ?_ ?_ ?_ ?_ ?_ ?_ ?_ ?_ ?_ ?_ ?_ ?_ ?_ ?_ ?_ ?_ ?_ ?_ ?_ ?_ ?_ ?_ ?_ ?_ ?_ ?_ ?_ ?_ ?_ ?_ ?_ ?_ ?_ ?_ ?_ ?_ ?_ ?_ ?_ ?_ ?_ ?_ ?_ ?_ ?_ ?_ ?_ ?_ ?_ ?_ ?_ ?_ ?_ ?_ ?_ ?_ ?_ ?_ ?_ ?_ ?_ ?_ ?_ ?_ ?_ ?_ ?_ ?_ ?_ ?_ ?_ ?_ ?_ ?_ ?_ ?_ ?_ ?_ ?_ ?_ ?_ ?_ ?_ ?_ ?_ ?_ ?_ ?_ ?_ ?_ ?_ ?_ ?_ ?_ ?_ ?_ ?_ ?_ ?_ ?_ ?_ ?_ ?_ ?_ ?_ ?_ ?_ ?_ ?_ ?_ ?_ ?_ ?_ ?_ ?_ ?_ ?_ ?_ ?_ ?_ ?_ ?_ ?_ ?_ ?_ ?_ ?_ ?_ ?_ ?_ ?_ ?exV ?exL
  all_goals try k_is
  (case exV=>k_exc)
  (case exL=>k_exc)
#print axioms PySem.Challenge.cw_tipwell_k08_whole_tips_for_ever_holds